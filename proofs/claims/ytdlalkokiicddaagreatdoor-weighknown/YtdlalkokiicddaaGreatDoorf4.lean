/- A part of the run of WeighKnown: states, facts that the kernel runs, or their chain. -/
import Derived.Test.YtdlalkokiicddaaGreatDoord
import Derived.KernelRfl
set_option linter.unusedSimpArgs false
set_option maxRecDepth 1000000
set_option maxHeartbeats 0
set_option linter.unusedVariables false
namespace Mw
open Go Mv Go.Proofs
theorem r21 : strip ((Cf.run Tryz.prog 1000000 { call := false, at_ := 5, nk := 4826, keep := [1, 2, 3, 6, 7, 8, 9, 10, 11, 12, 13, 14, 15, 16, 17, 18, 19, 20, 21, 22, 23, 24, 25, 26, 27, 28, 30], keepB := [46, 47, 48, 276, 1328, 1722, 1826, 1831, 1836, 1837], keepRo := [0], sums := [] }).1 { size := 31, top := true, fn := 83 } {} (atStm Tryz.prog 83 5) s17 4541 (fun _ _ _ _ => .bad)) 4541 = some (List.replicate 1 (4826, atStm Tryz.prog 83 5, s20)) := by kernel_rfl
theorem r24 : strip ((Cf.run Tryz.prog 1000000 { call := false, at_ := 5, nk := 5120, keep := [1, 2, 3, 6, 7, 8, 9, 10, 11, 12, 13, 14, 15, 16, 17, 18, 19, 20, 21, 22, 23, 24, 25, 26, 27, 28, 30], keepB := [46, 47, 48, 276, 1328, 1722, 1826, 1831, 1836, 1837], keepRo := [0], sums := [] }).1 { size := 31, top := true, fn := 83 } {} (atStm Tryz.prog 83 5) s20 4826 (fun _ _ _ _ => .bad)) 4826 = some (List.replicate 1 (5120, atStm Tryz.prog 83 5, s23)) := by kernel_rfl
end Mw
