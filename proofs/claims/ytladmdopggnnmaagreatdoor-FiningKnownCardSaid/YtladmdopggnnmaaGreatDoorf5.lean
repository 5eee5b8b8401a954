/- A part of the run of the row's end: states, facts that the kernel runs, or their chain. -/
import Derived.Test.YtladmdopggnnmaaGreatDoord
import Derived.KernelRfl
set_option linter.unusedSimpArgs false
set_option maxRecDepth 1000000
set_option maxHeartbeats 0
set_option linter.unusedVariables false
namespace Fk
open Go Mv Mw Go.Proofs Ft
theorem r35 : stripO ((Fa.run Tryz.prog 1000000 { call := true, at_ := 65, nk := 8470, keep := [0, 1] ++ kR 5 35, keepB := [4912], keepRo := [0, 1], sums := [], msgs := [] }).1 { size := 40, top := true, fn := 38 } {} (atOp Tryz.prog 38 12 2) s31 7578 (fun _ _ _ _ => .bad)) 7578 = some (List.replicate 1 (8470, atOp Tryz.prog 38 12 2, s34)) := by kernel_rfl
theorem r38 : stripO ((Fa.run Tryz.prog 1000000 { call := true, at_ := 65, nk := 9364, keep := [0, 1] ++ kR 5 35, keepB := [4912], keepRo := [0, 1], sums := [], msgs := [] }).1 { size := 40, top := true, fn := 38 } {} (atOp Tryz.prog 38 12 2) s34 8470 (fun _ _ _ _ => .bad)) 8470 = some (List.replicate 1 (9364, atOp Tryz.prog 38 12 2, s37)) := by kernel_rfl
end Fk
