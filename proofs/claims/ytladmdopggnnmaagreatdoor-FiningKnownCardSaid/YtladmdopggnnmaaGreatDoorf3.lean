/- A part of the run of the row's end: states, facts that the kernel runs, or their chain. -/
import Derived.Test.YtladmdopggnnmaaGreatDoord
import Derived.KernelRfl
set_option linter.unusedSimpArgs false
set_option maxRecDepth 1000000
set_option maxHeartbeats 0
set_option linter.unusedVariables false
namespace Fk
open Go Mv Mw Go.Proofs Ft
theorem r19 : stripE ((Fa.run Tryz.prog 1000000 (noCut [] [])).1 { size := 40, top := false, fn := 38 } {} (atOp Tryz.prog 38 12 2) s16 4090 (lastK Tryz.prog (Fa.run Tryz.prog 1000000 (noCut [] [])).2 38 [347] [0, 1])) 4090 = some (List.replicate 1 (4866, (vP 350), h18)) := by kernel_rfl
theorem r26 : stripO ((Fa.run Tryz.prog 1000000 { call := true, at_ := 65, nk := 5732, keep := [0, 1] ++ kR 5 35, keepB := [4912], keepRo := [0, 1], sums := [], msgs := [] }).1 { size := 40, top := true, fn := 38 } {} ([.code (bodyOf Tryz.prog 38)]) { sl := slotsOf [(vR 4912 4 6), (vI 56), (.agg [(.fn (.func 74) [] [])])] 0 .nil, hp := (mkH l22 l23), df := [], cm := none } 4914 (fun _ _ _ _ => .bad)) 4914 = some (List.replicate 1 (5732, atOp Tryz.prog 38 12 2, s25)) := by kernel_rfl
end Fk
