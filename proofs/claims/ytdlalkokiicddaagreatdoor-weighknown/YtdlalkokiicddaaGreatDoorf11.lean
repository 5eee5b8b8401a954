/- A part of the run of WeighKnown: states, facts that the kernel runs, or their chain. -/
import Derived.Test.YtdlalkokiicddaaGreatDoord
import Derived.KernelRfl
set_option linter.unusedSimpArgs false
set_option maxRecDepth 1000000
set_option maxHeartbeats 0
set_option linter.unusedVariables false
namespace Mw
open Go Mv Go.Proofs
theorem r58 : stripD ((Cf.run Tryz.prog 1000000 (noCut [])).1 { size := 31, top := false, fn := 83 } {} (atStm Tryz.prog 83 5) s55 8652 (lastK Tryz.prog (Cf.run Tryz.prog 1000000 (noCut [])).2 83 [46, 47, 48, 276, 1328, 1722, 1826, 1831, 1836, 1837] [0])) 8652 = some (List.replicate 1 (10148, (vP 6801), h57)) := by kernel_rfl
theorem r62 : callAt 33 (atOp Tryz.prog 50 1 2) s49 = some (83, [(.agg [(vL 1836 4 4), (vL 1831 3 3)]), (vI 1), (.fn (.func 53) [] [])], atOp Tryz.prog 50 1 3, (some 14)) := by kernel_rfl
theorem r63 : cutS [2, 6, 7, 8, 9, 10, 11, 14, 15, 16, 17, 18, 19, 20, 21, 22, 23, 24, 25, 26, 27, 28, 29, 30, 31, 32] [46, 47, 48, 276, 1328, 1722, 1826, 1831, 1836, 1837] [0] { s49 with sl := putD (s49).sl (some 14) (vP 6801), hp := h57 } = some s61 := by kernel_rfl
end Mw
