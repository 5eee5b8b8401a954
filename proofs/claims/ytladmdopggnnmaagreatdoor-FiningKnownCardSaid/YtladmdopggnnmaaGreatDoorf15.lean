/- A part of the run of the row's end: states, facts that the kernel runs, or their chain. -/
import Derived.Test.YtladmdopggnnmaaGreatDoord
import Derived.KernelRfl
set_option linter.unusedSimpArgs false
set_option maxRecDepth 1000000
set_option maxHeartbeats 0
set_option linter.unusedVariables false
namespace Fk
open Go Mv Mw Go.Proofs Ft
theorem r194 : stripO ((Fa.run Tryz.prog 1000000 { call := true, at_ := 65, nk := 14486, keep := [0, 1] ++ kR 5 35, keepB := [11651], keepRo := [0, 1], sums := [], msgs := [] }).1 { size := 40, top := true, fn := 38 } {} (atOp Tryz.prog 38 12 2) s190 13462 (fun _ _ _ _ => .bad)) 13462 = some (List.replicate 1 (14486, atOp Tryz.prog 38 12 2, s193)) := by kernel_rfl
theorem r197 : stripO ((Fa.run Tryz.prog 1000000 { call := true, at_ := 65, nk := 15394, keep := [0, 1] ++ kR 5 35, keepB := [11651], keepRo := [0, 1], sums := [], msgs := [] }).1 { size := 40, top := true, fn := 38 } {} (atOp Tryz.prog 38 12 2) s193 14486 (fun _ _ _ _ => .bad)) 14486 = some (List.replicate 1 (15394, atOp Tryz.prog 38 12 2, s196)) := by kernel_rfl
end Fk
