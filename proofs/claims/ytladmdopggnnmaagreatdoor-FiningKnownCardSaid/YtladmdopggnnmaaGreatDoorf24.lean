/- A part of the run of the row's end: states, facts that the kernel runs, or their chain. -/
import Derived.Test.YtladmdopggnnmaaGreatDoord
import Derived.KernelRfl
set_option linter.unusedSimpArgs false
set_option maxRecDepth 1000000
set_option maxHeartbeats 0
set_option linter.unusedVariables false
namespace Fk
open Go Mv Mw Go.Proofs Ft
theorem r321 : stripO ((Fa.run Tryz.prog 1000000 { call := true, at_ := 65, nk := 28162, keep := [0, 1] ++ kR 5 35, keepB := [25817], keepRo := [0, 1], sums := [], msgs := [] }).1 { size := 40, top := true, fn := 38 } {} (atOp Tryz.prog 38 12 2) s317 27354 (fun _ _ _ _ => .bad)) 27354 = some (List.replicate 1 (28162, atOp Tryz.prog 38 12 2, s320)) := by kernel_rfl
theorem r324 : stripO ((Fa.run Tryz.prog 1000000 { call := true, at_ := 65, nk := 28986, keep := [0, 1] ++ kR 5 35, keepB := [25817], keepRo := [0, 1], sums := [], msgs := [] }).1 { size := 40, top := true, fn := 38 } {} (atOp Tryz.prog 38 12 2) s320 28162 (fun _ _ _ _ => .bad)) 28162 = some (List.replicate 1 (28986, atOp Tryz.prog 38 12 2, s323)) := by kernel_rfl
end Fk
