/- A part of the run of the row's end: states, facts that the kernel runs, or their chain. -/
import Derived.Test.YtladmdopggnnmaaGreatDoord
import Derived.KernelRfl
set_option linter.unusedSimpArgs false
set_option maxRecDepth 1000000
set_option maxHeartbeats 0
set_option linter.unusedVariables false
namespace Fk
open Go Mv Mw Go.Proofs Ft
theorem r392 : stripE ((Fa.run Tryz.prog 1000000 (noCut [] [])).1 { size := 40, top := false, fn := 38 } {} ([.code (bodyOf Tryz.prog 38)]) { sl := slotsOf [(vR 36872 1 6), (vI 56), (.agg [(.fn (.func 74) [] [])])] 0 .nil, hp := (mkH l389 l390), df := [], cm := none } 36874 (lastK Tryz.prog (Fa.run Tryz.prog 1000000 (noCut [] [])).2 38 [36872] [0, 1])) 36874 = some (List.replicate 1 (37260, (vP 36875), h391)) := by kernel_rfl
theorem r399 : stripO ((Fa.run Tryz.prog 1000000 { call := true, at_ := 65, nk := 37976, keep := [0, 1] ++ kR 5 35, keepB := [37263], keepRo := [0, 1], sums := [], msgs := [] }).1 { size := 40, top := true, fn := 38 } {} ([.code (bodyOf Tryz.prog 38)]) { sl := slotsOf [(vR 37263 1 6), (vI 56), (.agg [(.fn (.func 74) [] [])])] 0 .nil, hp := (mkH l395 l396), df := [], cm := none } 37265 (fun _ _ _ _ => .bad)) 37265 = some (List.replicate 1 (37976, atOp Tryz.prog 38 12 2, s398)) := by kernel_rfl
theorem r401 : stripE ((Fa.run Tryz.prog 1000000 (noCut [] [])).1 { size := 40, top := false, fn := 38 } {} (atOp Tryz.prog 38 12 2) s398 37976 (lastK Tryz.prog (Fa.run Tryz.prog 1000000 (noCut [] [])).2 38 [37263] [0, 1])) 37976 = some (List.replicate 1 (38003, (vP 37266), h400)) := by kernel_rfl
end Fk
