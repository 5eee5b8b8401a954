/- A part of the run of WeighKnown: states, facts that the kernel runs, or their chain. -/
import Derived.Test.YtdlalkokiicddaaGreatDoord
import Derived.KernelRfl
set_option linter.unusedSimpArgs false
set_option maxRecDepth 1000000
set_option maxHeartbeats 0
set_option linter.unusedVariables false
namespace Mw
open Go Mv Go.Proofs
theorem r263 : strip ((Cf.run Tryz.prog 1000000 { call := true, at_ := 84, nk := 39223, keep := [2, 6, 7, 8, 9, 10, 11, 15, 16, 17, 18, 19, 20, 21, 22, 23, 24, 25, 26, 27, 28, 29, 30, 31, 32], keepB := [18867, 18868, 35295, 37319], keepRo := [0], sums := [] }).1 { size := 33, top := true, fn := 50 } {} (atOp Tryz.prog 50 1 3) s258 38870 (fun _ _ _ _ => .bad)) 38870 = some (List.replicate 1 (39223, atOp Tryz.prog 50 6 4, s262)) := by kernel_rfl
end Mw
