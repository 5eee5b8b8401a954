/- A part of the run of the row's end: states, facts that the kernel runs, or their chain. -/
import Derived.Test.YtladmdopggnnmaaGreatDoord
import Derived.KernelRfl
set_option linter.unusedSimpArgs false
set_option maxRecDepth 1000000
set_option maxHeartbeats 0
set_option linter.unusedVariables false
namespace Fk
open Go Mv Mw Go.Proofs Ft
theorem r291 : stripO ((Fa.run Tryz.prog 1000000 { call := true, at_ := 65, nk := 22169, keep := [0, 1] ++ kR 5 35, keepB := [20402], keepRo := [0, 1], sums := [], msgs := [] }).1 { size := 40, top := true, fn := 38 } {} (atOp Tryz.prog 38 12 2) s287 21222 (fun _ _ _ _ => .bad)) 21222 = some (List.replicate 1 (22169, atOp Tryz.prog 38 12 2, s290)) := by kernel_rfl
theorem r294 : stripO ((Fa.run Tryz.prog 1000000 { call := true, at_ := 65, nk := 23068, keep := [0, 1] ++ kR 5 35, keepB := [20402], keepRo := [0, 1], sums := [], msgs := [] }).1 { size := 40, top := true, fn := 38 } {} (atOp Tryz.prog 38 12 2) s290 22169 (fun _ _ _ _ => .bad)) 22169 = some (List.replicate 1 (23068, atOp Tryz.prog 38 12 2, s293)) := by kernel_rfl
end Fk
