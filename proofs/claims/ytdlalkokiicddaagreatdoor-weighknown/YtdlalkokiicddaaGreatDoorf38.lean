/- A part of the run of WeighKnown: states, facts that the kernel runs, or their chain. -/
import Derived.Test.YtdlalkokiicddaaGreatDoord
import Derived.KernelRfl
set_option linter.unusedSimpArgs false
set_option maxRecDepth 1000000
set_option maxHeartbeats 0
set_option linter.unusedVariables false
namespace Mw
open Go Mv Go.Proofs
theorem r286 : strip ((Cf.run Tryz.prog 1000000 { call := true, at_ := 22, nk := 40831, keep := [0, 7, 9, 11, 13, 22, 23, 33, 34, 348, 349, 350, 351, 352, 353, 354, 355, 356, 357, 358, 359, 360, 361, 362, 363, 364, 365, 366, 367, 368, 369, 370, 371, 372, 373, 374, 375, 376, 377, 378, 379, 380, 381, 382, 383, 384], keepB := [], keepRo := [0], sums := [] }).1 { size := 385, top := true, fn := 3 } {} (atOp Tryz.prog 3 39 2) s281 39978 (fun _ _ _ _ => .bad)) 39978 = some (List.replicate 1 (40831, atOp Tryz.prog 3 43 1, s285)) := by kernel_rfl
theorem r288 : stripD ((Cf.run Tryz.prog 1000000 (noCut [])).1 { size := 385, top := false, fn := 3 } {} (atOp Tryz.prog 3 43 1) s285 40831 (lastK Tryz.prog (Cf.run Tryz.prog 1000000 (noCut [])).2 3 [] [0])) 40831 = some (List.replicate 1 (41720, vT, h287)) := by kernel_rfl
end Mw
