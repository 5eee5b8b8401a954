/- A part of the run of the row's end: states, facts that the kernel runs, or their chain. -/
import Derived.Test.YtladmdopggnnmaaGreatDoord
import Derived.KernelRfl
set_option linter.unusedSimpArgs false
set_option maxRecDepth 1000000
set_option maxHeartbeats 0
set_option linter.unusedVariables false
namespace Fk
open Go Mv Mw Go.Proofs Ft
theorem r29 : stripO ((Fa.run Tryz.prog 1000000 { call := true, at_ := 65, nk := 6679, keep := [0, 1] ++ kR 5 35, keepB := [4912], keepRo := [0, 1], sums := [], msgs := [] }).1 { size := 40, top := true, fn := 38 } {} (atOp Tryz.prog 38 12 2) s25 5732 (fun _ _ _ _ => .bad)) 5732 = some (List.replicate 1 (6679, atOp Tryz.prog 38 12 2, s28)) := by kernel_rfl
theorem r32 : stripO ((Fa.run Tryz.prog 1000000 { call := true, at_ := 65, nk := 7578, keep := [0, 1] ++ kR 5 35, keepB := [4912], keepRo := [0, 1], sums := [], msgs := [] }).1 { size := 40, top := true, fn := 38 } {} (atOp Tryz.prog 38 12 2) s28 6679 (fun _ _ _ _ => .bad)) 6679 = some (List.replicate 1 (7578, atOp Tryz.prog 38 12 2, s31)) := by kernel_rfl
end Fk
