/- A part of the run of the row's end: states, facts that the kernel runs, or their chain. -/
import Derived.Test.YtladmdopggnnmaaGreatDoord
import Derived.KernelRfl
set_option linter.unusedSimpArgs false
set_option maxRecDepth 1000000
set_option maxHeartbeats 0
set_option linter.unusedVariables false
namespace Fk
open Go Mv Mw Go.Proofs Ft
theorem r474 : stripO ((Fa.run Tryz.prog 1000000 { call := true, at_ := 65, nk := 50019, keep := [0, 1] ++ kR 5 35, keepB := [48376], keepRo := [0, 1], sums := [], msgs := [] }).1 { size := 40, top := true, fn := 38 } {} (atOp Tryz.prog 38 12 2) s470 49138 (fun _ _ _ _ => .bad)) 49138 = some (List.replicate 1 (50019, atOp Tryz.prog 38 12 2, s473)) := by kernel_rfl
theorem r477 : stripO ((Fa.run Tryz.prog 1000000 { call := true, at_ := 65, nk := 50873, keep := [0, 1] ++ kR 5 35, keepB := [48376], keepRo := [0, 1], sums := [], msgs := [] }).1 { size := 40, top := true, fn := 38 } {} (atOp Tryz.prog 38 12 2) s473 50019 (fun _ _ _ _ => .bad)) 50019 = some (List.replicate 1 (50873, atOp Tryz.prog 38 12 2, s476)) := by kernel_rfl
end Fk
