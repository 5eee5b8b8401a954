/- A part of the run of WeighKnown: states, facts that the kernel runs, or their chain. -/
import Derived.Test.YtdlalkokiicddaaGreatDoord
import Derived.KernelRfl
set_option linter.unusedSimpArgs false
set_option maxRecDepth 1000000
set_option maxHeartbeats 0
set_option linter.unusedVariables false
namespace Mw
open Go Mv Go.Proofs
theorem r236 : stripD ((Cf.run Tryz.prog 1000000 (noCut [])).1 { size := 56, top := false, fn := 16 } {} (atOp Tryz.prog 16 5 2) s233 32302 (lastK Tryz.prog (Cf.run Tryz.prog 1000000 (noCut [])).2 16 [18868, 18869, 21798, 21831, 21832, 21833, 28726, 28731] [0])) 32302 = some (List.replicate 1 (34908, (.tup [(vI 2), (vI 0)]), h235)) := by kernel_rfl
end Mw
