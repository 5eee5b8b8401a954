/- A part of the run of the row's end: states, facts that the kernel runs, or their chain. -/
import Derived.Test.YtladmdopggnnmaaGreatDoord
import Derived.KernelRfl
set_option linter.unusedSimpArgs false
set_option maxRecDepth 1000000
set_option maxHeartbeats 0
set_option linter.unusedVariables false
namespace Fk
open Go Mv Mw Go.Proofs Ft
theorem r59 : stripO ((Fa.run Tryz.prog 1000000 { call := true, at_ := 65, nk := 3182, keep := [0, 1] ++ kR 5 35, keepB := [347], keepRo := [0, 1], sums := [], msgs := [] }).1 { size := 40, top := true, fn := 38 } {} (atOp Tryz.prog 38 12 2) s55 2158 (fun _ _ _ _ => .bad)) 2158 = some (List.replicate 1 (3182, atOp Tryz.prog 38 12 2, s58)) := by kernel_rfl
theorem r62 : stripO ((Fa.run Tryz.prog 1000000 { call := true, at_ := 65, nk := 4090, keep := [0, 1] ++ kR 5 35, keepB := [347], keepRo := [0, 1], sums := [], msgs := [] }).1 { size := 40, top := true, fn := 38 } {} (atOp Tryz.prog 38 12 2) s58 3182 (fun _ _ _ _ => .bad)) 3182 = some (List.replicate 1 (4090, atOp Tryz.prog 38 12 2, s61)) := by kernel_rfl
end Fk
