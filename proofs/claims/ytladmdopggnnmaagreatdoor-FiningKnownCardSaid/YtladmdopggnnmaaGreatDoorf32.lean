/- A part of the run of the row's end: states, facts that the kernel runs, or their chain. -/
import Derived.Test.YtladmdopggnnmaaGreatDoord
import Derived.KernelRfl
set_option linter.unusedSimpArgs false
set_option maxRecDepth 1000000
set_option maxHeartbeats 0
set_option linter.unusedVariables false
namespace Fk
open Go Mv Mw Go.Proofs Ft
theorem r414 : stripO ((Fa.run Tryz.prog 1000000 { call := true, at_ := 65, nk := 40506, keep := [0, 1] ++ kR 5 35, keepB := [38010], keepRo := [0, 1], sums := [], msgs := [] }).1 { size := 40, top := true, fn := 38 } {} (atOp Tryz.prog 38 12 2) s410 39644 (fun _ _ _ _ => .bad)) 39644 = some (List.replicate 1 (40506, atOp Tryz.prog 38 12 2, s413)) := by kernel_rfl
theorem r416 : stripE ((Fa.run Tryz.prog 1000000 (noCut [] [])).1 { size := 40, top := false, fn := 38 } {} (atOp Tryz.prog 38 12 2) s413 40506 (lastK Tryz.prog (Fa.run Tryz.prog 1000000 (noCut [] [])).2 38 [38010] [0, 1])) 40506 = some (List.replicate 1 (40574, (vP 38013), h415)) := by kernel_rfl
theorem r423 : stripO ((Fa.run Tryz.prog 1000000 { call := true, at_ := 65, nk := 41335, keep := [0, 1] ++ kR 5 35, keepB := [40577], keepRo := [0, 1], sums := [], msgs := [] }).1 { size := 40, top := true, fn := 38 } {} ([.code (bodyOf Tryz.prog 38)]) { sl := slotsOf [(vR 40577 2 6), (vI 56), (.agg [(.fn (.func 74) [] [])])] 0 .nil, hp := (mkH l419 l420), df := [], cm := none } 40579 (fun _ _ _ _ => .bad)) 40579 = some (List.replicate 1 (41335, atOp Tryz.prog 38 12 2, s422)) := by kernel_rfl
end Fk
