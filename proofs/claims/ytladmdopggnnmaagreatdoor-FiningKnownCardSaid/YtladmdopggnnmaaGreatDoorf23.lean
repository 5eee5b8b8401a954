/- A part of the run of the row's end: states, facts that the kernel runs, or their chain. -/
import Derived.Test.YtladmdopggnnmaaGreatDoord
import Derived.KernelRfl
set_option linter.unusedSimpArgs false
set_option maxRecDepth 1000000
set_option maxHeartbeats 0
set_option linter.unusedVariables false
namespace Fk
open Go Mv Mw Go.Proofs Ft
theorem r315 : stripO ((Fa.run Tryz.prog 1000000 { call := true, at_ := 65, nk := 26536, keep := [0, 1] ++ kR 5 35, keepB := [25817], keepRo := [0, 1], sums := [], msgs := [] }).1 { size := 40, top := true, fn := 38 } {} ([.code (bodyOf Tryz.prog 38)]) { sl := slotsOf [(vR 25817 4 6), (vI 56), (.agg [(.fn (.func 74) [] [])])] 0 .nil, hp := (mkH l311 l312), df := [], cm := none } 25819 (fun _ _ _ _ => .bad)) 25819 = some (List.replicate 1 (26536, atOp Tryz.prog 38 12 2, s314)) := by kernel_rfl
theorem r318 : stripO ((Fa.run Tryz.prog 1000000 { call := true, at_ := 65, nk := 27354, keep := [0, 1] ++ kR 5 35, keepB := [25817], keepRo := [0, 1], sums := [], msgs := [] }).1 { size := 40, top := true, fn := 38 } {} (atOp Tryz.prog 38 12 2) s314 26536 (fun _ _ _ _ => .bad)) 26536 = some (List.replicate 1 (27354, atOp Tryz.prog 38 12 2, s317)) := by kernel_rfl
end Fk
