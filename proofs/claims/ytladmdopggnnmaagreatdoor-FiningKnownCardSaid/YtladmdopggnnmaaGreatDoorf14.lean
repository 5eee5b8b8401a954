/- A part of the run of the row's end: states, facts that the kernel runs, or their chain. -/
import Derived.Test.YtladmdopggnnmaaGreatDoord
import Derived.KernelRfl
set_option linter.unusedSimpArgs false
set_option maxRecDepth 1000000
set_option maxHeartbeats 0
set_option linter.unusedVariables false
namespace Fk
open Go Mv Mw Go.Proofs Ft
theorem r188 : stripO ((Fa.run Tryz.prog 1000000 { call := true, at_ := 65, nk := 12517, keep := [0, 1] ++ kR 5 35, keepB := [11651], keepRo := [0, 1], sums := [], msgs := [] }).1 { size := 40, top := true, fn := 38 } {} ([.code (bodyOf Tryz.prog 38)]) { sl := slotsOf [(vR 11651 4 6), (vI 0), (.agg [(.fn (.func 66) [] [])])] 0 .nil, hp := (mkH l184 l185), df := [], cm := none } 11653 (fun _ _ _ _ => .bad)) 11653 = some (List.replicate 1 (12517, atOp Tryz.prog 38 12 2, s187)) := by kernel_rfl
theorem r191 : stripO ((Fa.run Tryz.prog 1000000 { call := true, at_ := 65, nk := 13462, keep := [0, 1] ++ kR 5 35, keepB := [11651], keepRo := [0, 1], sums := [], msgs := [] }).1 { size := 40, top := true, fn := 38 } {} (atOp Tryz.prog 38 12 2) s187 12517 (fun _ _ _ _ => .bad)) 12517 = some (List.replicate 1 (13462, atOp Tryz.prog 38 12 2, s190)) := by kernel_rfl
end Fk
