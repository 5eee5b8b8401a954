/- A part of the run of the row: states, facts that the kernel runs, or their chain. -/
import Derived.Test.YtehopimmbgoaaaaGreatDoord1
import Derived.KernelRfl
set_option linter.unusedSimpArgs false
set_option maxRecDepth 1000000
set_option maxHeartbeats 0
set_option linter.unusedVariables false
namespace Mw
open Go Mv Go.Proofs
theorem r283 : stripD ((Cf.run Tryz.prog 1000000 (noCut [] [] [])).1 { size := 25, top := false, fn := 84 } {} (atStm Tryz.prog 84 2) s280 31061 (lastK Tryz.prog (Cf.run Tryz.prog 1000000 (noCut [] [] [])).2 84 [30887] [0, 1, 2])) 31061 = some (List.replicate 1 (31063, (.ref 31060), h282)) := by kernel_rfl
theorem r289 : stripD ((Cf.run Tryz.prog 1000000 (noCut [] [] [])).1 { size := 25, top := false, fn := 84 } {} ([.code (bodyOf Tryz.prog 84)]) { sl := slotsOf [(.ref 30887), (vI 2)] 0 .nil, hp := (mkH l286 l287), df := [], cm := none } 31070 (lastK Tryz.prog (Cf.run Tryz.prog 1000000 (noCut [] [] [])).2 84 [30887] [0, 1, 2])) 31070 = some (List.replicate 1 (31073, (.ref 31070), h288)) := by kernel_rfl
theorem r295 : stripD ((Cf.run Tryz.prog 1000000 (noCut [] [] [])).1 { size := 40, top := false, fn := 83 } {} ([.code (bodyOf Tryz.prog 83)]) { sl := slotsOf [(vP 29235), (.ref 31070)] 0 .nil, hp := (mkH l292 l293), df := [], cm := none } 31073 (lastK Tryz.prog (Cf.run Tryz.prog 1000000 (noCut [] [] [])).2 83 [29207, 29208, 29209, 29210, 29211, 29235, 31070] [0, 1, 2])) 31073 = some (List.replicate 1 (31075, vT, h294)) := by kernel_rfl
end Mw
