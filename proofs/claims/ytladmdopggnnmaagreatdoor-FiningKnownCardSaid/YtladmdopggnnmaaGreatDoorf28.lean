/- A part of the run of the row's end: states, facts that the kernel runs, or their chain. -/
import Derived.Test.YtladmdopggnnmaaGreatDoord
import Derived.KernelRfl
set_option linter.unusedSimpArgs false
set_option maxRecDepth 1000000
set_option maxHeartbeats 0
set_option linter.unusedVariables false
namespace Fk
open Go Mv Mw Go.Proofs Ft
theorem r360 : stripO ((Fa.run Tryz.prog 1000000 { call := true, at_ := 65, nk := 34766, keep := [0, 1] ++ kR 5 35, keepB := [30312], keepRo := [0, 1], sums := [], msgs := [] }).1 { size := 40, top := true, fn := 38 } {} (atOp Tryz.prog 38 12 2) s356 33872 (fun _ _ _ _ => .bad)) 33872 = some (List.replicate 1 (34766, atOp Tryz.prog 38 12 2, s359)) := by kernel_rfl
theorem r363 : stripO ((Fa.run Tryz.prog 1000000 { call := true, at_ := 65, nk := 35660, keep := [0, 1] ++ kR 5 35, keepB := [30312], keepRo := [0, 1], sums := [], msgs := [] }).1 { size := 40, top := true, fn := 38 } {} (atOp Tryz.prog 38 12 2) s359 34766 (fun _ _ _ _ => .bad)) 34766 = some (List.replicate 1 (35660, atOp Tryz.prog 38 12 2, s362)) := by kernel_rfl
theorem r365 : stripE ((Fa.run Tryz.prog 1000000 (noCut [] [])).1 { size := 40, top := false, fn := 38 } {} (atOp Tryz.prog 38 12 2) s362 35660 (lastK Tryz.prog (Fa.run Tryz.prog 1000000 (noCut [] [])).2 38 [30312] [0, 1])) 35660 = some (List.replicate 1 (35694, (vP 30317), h364)) := by kernel_rfl
end Fk
