/- A part of the run of the row's end: states, facts that the kernel runs, or their chain. -/
import Derived.Test.YtladmdopggnnmaaGreatDoord
import Derived.KernelRfl
set_option linter.unusedSimpArgs false
set_option maxRecDepth 1000000
set_option maxHeartbeats 0
set_option linter.unusedVariables false
namespace Fk
open Go Mv Mw Go.Proofs Ft
theorem r303 : stripO ((Fa.run Tryz.prog 1000000 { call := true, at_ := 65, nk := 25748, keep := [0, 1] ++ kR 5 35, keepB := [20402], keepRo := [0, 1], sums := [], msgs := [] }).1 { size := 40, top := true, fn := 38 } {} (atOp Tryz.prog 38 12 2) s299 24854 (fun _ _ _ _ => .bad)) 24854 = some (List.replicate 1 (25748, atOp Tryz.prog 38 12 2, s302)) := by kernel_rfl
theorem r305 : stripE ((Fa.run Tryz.prog 1000000 (noCut [] [])).1 { size := 40, top := false, fn := 38 } {} (atOp Tryz.prog 38 12 2) s302 25748 (lastK Tryz.prog (Fa.run Tryz.prog 1000000 (noCut [] [])).2 38 [20402] [0, 1])) 25748 = some (List.replicate 1 (25782, (vP 20405), h304)) := by kernel_rfl
theorem r310 : stripO ((Fa.run Tryz.prog 1000000 { call := true, at_ := 17, nk := 25787, keep := [0] ++ kR 4 6 ++ [11, 16, 20] ++ kR 314 65 ++ [380, 381, 382, 383] ++ kR 385 9 ++ kR 395 20, keepB := [], keepRo := [0, 1], sums := [q307], msgs := [] }).1 { size := 415, top := true, fn := 3 } {} (atOp Tryz.prog 3 29 1) s282 20372 (fun _ _ _ _ => .bad)) 20372 = some (List.replicate 1 (25787, atOp Tryz.prog 3 30 1, s309)) := by kernel_rfl
end Fk
