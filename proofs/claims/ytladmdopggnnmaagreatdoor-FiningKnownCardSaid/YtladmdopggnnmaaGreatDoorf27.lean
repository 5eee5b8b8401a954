/- A part of the run of the row's end: states, facts that the kernel runs, or their chain. -/
import Derived.Test.YtladmdopggnnmaaGreatDoord
import Derived.KernelRfl
set_option linter.unusedSimpArgs false
set_option maxRecDepth 1000000
set_option maxHeartbeats 0
set_option linter.unusedVariables false
namespace Fk
open Go Mv Mw Go.Proofs Ft
theorem r354 : stripO ((Fa.run Tryz.prog 1000000 { call := true, at_ := 65, nk := 32980, keep := [0, 1] ++ kR 5 35, keepB := [30312], keepRo := [0, 1], sums := [], msgs := [] }).1 { size := 40, top := true, fn := 38 } {} (atOp Tryz.prog 38 12 2) s350 32081 (fun _ _ _ _ => .bad)) 32081 = some (List.replicate 1 (32980, atOp Tryz.prog 38 12 2, s353)) := by kernel_rfl
theorem r357 : stripO ((Fa.run Tryz.prog 1000000 { call := true, at_ := 65, nk := 33872, keep := [0, 1] ++ kR 5 35, keepB := [30312], keepRo := [0, 1], sums := [], msgs := [] }).1 { size := 40, top := true, fn := 38 } {} (atOp Tryz.prog 38 12 2) s353 32980 (fun _ _ _ _ => .bad)) 32980 = some (List.replicate 1 (33872, atOp Tryz.prog 38 12 2, s356)) := by kernel_rfl
end Fk
