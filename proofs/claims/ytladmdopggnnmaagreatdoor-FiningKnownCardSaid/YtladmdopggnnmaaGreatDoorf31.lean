/- A part of the run of the row's end: states, facts that the kernel runs, or their chain. -/
import Derived.Test.YtladmdopggnnmaaGreatDoord
import Derived.KernelRfl
set_option linter.unusedSimpArgs false
set_option maxRecDepth 1000000
set_option maxHeartbeats 0
set_option linter.unusedVariables false
namespace Fk
open Go Mv Mw Go.Proofs Ft
theorem r408 : stripO ((Fa.run Tryz.prog 1000000 { call := true, at_ := 65, nk := 38776, keep := [0, 1] ++ kR 5 35, keepB := [38010], keepRo := [0, 1], sums := [], msgs := [] }).1 { size := 40, top := true, fn := 38 } {} ([.code (bodyOf Tryz.prog 38)]) { sl := slotsOf [(vR 38010 2 6), (vI 56), (.agg [(.fn (.func 74) [] [])])] 0 .nil, hp := (mkH l404 l405), df := [], cm := none } 38012 (fun _ _ _ _ => .bad)) 38012 = some (List.replicate 1 (38776, atOp Tryz.prog 38 12 2, s407)) := by kernel_rfl
theorem r411 : stripO ((Fa.run Tryz.prog 1000000 { call := true, at_ := 65, nk := 39644, keep := [0, 1] ++ kR 5 35, keepB := [38010], keepRo := [0, 1], sums := [], msgs := [] }).1 { size := 40, top := true, fn := 38 } {} (atOp Tryz.prog 38 12 2) s407 38776 (fun _ _ _ _ => .bad)) 38776 = some (List.replicate 1 (39644, atOp Tryz.prog 38 12 2, s410)) := by kernel_rfl
end Fk
