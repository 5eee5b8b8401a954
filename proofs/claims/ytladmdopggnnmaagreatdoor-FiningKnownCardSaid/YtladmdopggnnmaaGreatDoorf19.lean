/- A part of the run of the row's end: states, facts that the kernel runs, or their chain. -/
import Derived.Test.YtladmdopggnnmaaGreatDoord
import Derived.KernelRfl
set_option linter.unusedSimpArgs false
set_option maxRecDepth 1000000
set_option maxHeartbeats 0
set_option linter.unusedVariables false
namespace Fk
open Go Mv Mw Go.Proofs Ft
theorem r283 : stripO ((Fa.run Tryz.prog 1000000 { call := true, at_ := 17, nk := 20372, keep := [0] ++ kR 4 6 ++ [11, 16, 20] ++ kR 309 70 ++ [380, 381, 382, 383] ++ kR 385 9 ++ kR 395 20, keepB := [], keepRo := [0, 1], sums := [], msgs := [] }).1 { size := 415, top := true, fn := 3 } {} (atOp Tryz.prog 3 25 2) s278 19771 (fun _ _ _ _ => .bad)) 19771 = some (List.replicate 1 (20372, atOp Tryz.prog 3 29 1, s282)) := by kernel_rfl
theorem r288 : stripO ((Fa.run Tryz.prog 1000000 { call := true, at_ := 65, nk := 21222, keep := [0, 1] ++ kR 5 35, keepB := [20402], keepRo := [0, 1], sums := [], msgs := [] }).1 { size := 40, top := true, fn := 38 } {} ([.code (bodyOf Tryz.prog 38)]) { sl := slotsOf [(vR 20402 4 6), (vI 56), (.agg [(.fn (.func 74) [] [])])] 0 .nil, hp := (mkH l284 l285), df := [], cm := none } 20404 (fun _ _ _ _ => .bad)) 20404 = some (List.replicate 1 (21222, atOp Tryz.prog 38 12 2, s287)) := by kernel_rfl
end Fk
