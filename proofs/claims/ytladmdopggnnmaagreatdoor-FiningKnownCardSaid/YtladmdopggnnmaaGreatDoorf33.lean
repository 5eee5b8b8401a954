/- A part of the run of the row's end: states, facts that the kernel runs, or their chain. -/
import Derived.Test.YtladmdopggnnmaaGreatDoord
import Derived.KernelRfl
set_option linter.unusedSimpArgs false
set_option maxRecDepth 1000000
set_option maxHeartbeats 0
set_option linter.unusedVariables false
namespace Fk
open Go Mv Mw Go.Proofs Ft
theorem r425 : stripE ((Fa.run Tryz.prog 1000000 (noCut [] [])).1 { size := 40, top := false, fn := 38 } {} (atOp Tryz.prog 38 12 2) s422 41335 (lastK Tryz.prog (Fa.run Tryz.prog 1000000 (noCut [] [])).2 38 [40577] [0, 1])) 41335 = some (List.replicate 1 (41349, (vP 40580), h424)) := by kernel_rfl
theorem r432 : stripO ((Fa.run Tryz.prog 1000000 { call := true, at_ := 65, nk := 42134, keep := [0, 1] ++ kR 5 35, keepB := [41352], keepRo := [0, 1], sums := [], msgs := [] }).1 { size := 40, top := true, fn := 38 } {} ([.code (bodyOf Tryz.prog 38)]) { sl := slotsOf [(vR 41352 2 6), (vI 56), (.agg [(.fn (.func 74) [] [])])] 0 .nil, hp := (mkH l428 l429), df := [], cm := none } 41354 (fun _ _ _ _ => .bad)) 41354 = some (List.replicate 1 (42134, atOp Tryz.prog 38 12 2, s431)) := by kernel_rfl
theorem r435 : stripO ((Fa.run Tryz.prog 1000000 { call := true, at_ := 65, nk := 43036, keep := [0, 1] ++ kR 5 35, keepB := [41352], keepRo := [0, 1], sums := [], msgs := [] }).1 { size := 40, top := true, fn := 38 } {} (atOp Tryz.prog 38 12 2) s431 42134 (fun _ _ _ _ => .bad)) 42134 = some (List.replicate 1 (43036, atOp Tryz.prog 38 12 2, s434)) := by kernel_rfl
end Fk
