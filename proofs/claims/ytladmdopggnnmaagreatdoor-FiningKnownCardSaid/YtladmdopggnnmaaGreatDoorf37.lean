/- A part of the run of the row's end: states, facts that the kernel runs, or their chain. -/
import Derived.Test.YtladmdopggnnmaaGreatDoord
import Derived.KernelRfl
set_option linter.unusedSimpArgs false
set_option maxRecDepth 1000000
set_option maxHeartbeats 0
set_option linter.unusedVariables false
namespace Fk
open Go Mv Mw Go.Proofs Ft
theorem r464 : stripE ((Fa.run Tryz.prog 1000000 (noCut [] [])).1 { size := 40, top := false, fn := 38 } {} (atOp Tryz.prog 38 12 2) s461 47653 (lastK Tryz.prog (Fa.run Tryz.prog 1000000 (noCut [] [])).2 38 [46853] [0, 1])) 47653 = some (List.replicate 1 (48361, (vP 46856), h463)) := by kernel_rfl
theorem r471 : stripO ((Fa.run Tryz.prog 1000000 { call := true, at_ := 65, nk := 49138, keep := [0, 1] ++ kR 5 35, keepB := [48376], keepRo := [0, 1], sums := [], msgs := [] }).1 { size := 40, top := true, fn := 38 } {} ([.code (bodyOf Tryz.prog 38)]) { sl := slotsOf [(vR 48376 3 6), (vI 56), (.agg [(.fn (.func 74) [] [])])] 0 .nil, hp := (mkH l467 l468), df := [], cm := none } 48378 (fun _ _ _ _ => .bad)) 48378 = some (List.replicate 1 (49138, atOp Tryz.prog 38 12 2, s470)) := by kernel_rfl
end Fk
