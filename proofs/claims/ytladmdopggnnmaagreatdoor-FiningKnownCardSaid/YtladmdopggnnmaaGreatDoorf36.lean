/- A part of the run of the row's end: states, facts that the kernel runs, or their chain. -/
import Derived.Test.YtladmdopggnnmaaGreatDoord
import Derived.KernelRfl
set_option linter.unusedSimpArgs false
set_option maxRecDepth 1000000
set_option maxHeartbeats 0
set_option linter.unusedVariables false
namespace Fk
open Go Mv Mw Go.Proofs Ft
theorem r455 : stripE ((Fa.run Tryz.prog 1000000 (noCut [] [])).1 { size := 40, top := false, fn := 38 } {} (atOp Tryz.prog 38 12 2) s452 46147 (lastK Tryz.prog (Fa.run Tryz.prog 1000000 (noCut [] [])).2 38 [45338] [0, 1])) 46147 = some (List.replicate 1 (46846, (vP 45341), h454)) := by kernel_rfl
theorem r462 : stripO ((Fa.run Tryz.prog 1000000 { call := true, at_ := 65, nk := 47653, keep := [0, 1] ++ kR 5 35, keepB := [46853], keepRo := [0, 1], sums := [], msgs := [] }).1 { size := 40, top := true, fn := 38 } {} ([.code (bodyOf Tryz.prog 38)]) { sl := slotsOf [(vR 46853 2 6), (vI 56), (.agg [(.fn (.func 74) [] [])])] 0 .nil, hp := (mkH l458 l459), df := [], cm := none } 46855 (fun _ _ _ _ => .bad)) 46855 = some (List.replicate 1 (47653, atOp Tryz.prog 38 12 2, s461)) := by kernel_rfl
end Fk
