/- A part of the run of the row's end: states, facts that the kernel runs, or their chain. -/
import Derived.Test.YtladmdopggnnmaaGreatDoord
import Derived.KernelRfl
set_option linter.unusedSimpArgs false
set_option maxRecDepth 1000000
set_option maxHeartbeats 0
set_option linter.unusedVariables false
namespace Fk
open Go Mv Mw Go.Proofs Ft
theorem r437 : stripE ((Fa.run Tryz.prog 1000000 (noCut [] [])).1 { size := 40, top := false, fn := 38 } {} (atOp Tryz.prog 38 12 2) s434 43036 (lastK Tryz.prog (Fa.run Tryz.prog 1000000 (noCut [] [])).2 38 [41352] [0, 1])) 43036 = some (List.replicate 1 (43788, (vP 41355), h436)) := by kernel_rfl
theorem r444 : stripO ((Fa.run Tryz.prog 1000000 { call := true, at_ := 65, nk := 44579, keep := [0, 1] ++ kR 5 35, keepB := [43795], keepRo := [0, 1], sums := [], msgs := [] }).1 { size := 40, top := true, fn := 38 } {} ([.code (bodyOf Tryz.prog 38)]) { sl := slotsOf [(vR 43795 2 6), (vI 56), (.agg [(.fn (.func 74) [] [])])] 0 .nil, hp := (mkH l440 l441), df := [], cm := none } 43797 (fun _ _ _ _ => .bad)) 43797 = some (List.replicate 1 (44579, atOp Tryz.prog 38 12 2, s443)) := by kernel_rfl
end Fk
