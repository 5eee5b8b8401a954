/- A part of the run of the row: states, facts that the kernel runs, or their chain. -/
import Derived.Test.YtehopimmbgoaaaaGreatDoord2
import Derived.KernelRfl
set_option linter.unusedSimpArgs false
set_option maxRecDepth 1000000
set_option maxHeartbeats 0
set_option linter.unusedVariables false
namespace Mw
open Go Mv Go.Proofs
theorem r416 : stripD ((Cf.run Tryz.prog 1000000 (noCut [] [] [])).1 { size := 505, top := false, fn := 3 } {} (atOp Tryz.prog 3 44 2) s407 38253 (lastK Tryz.prog (Cf.run Tryz.prog 1000000 (noCut [] [] [])).2 3 [] [0, 1, 2])) 38253 = some (List.replicate 1 (38633, vT, h415)) := by kernel_rfl
end Mw
