/- A part of the run of WeighKnown: states, facts that the kernel runs, or their chain. -/
import Derived.Test.YtdlalkokiicddaaGreatDoord
import Derived.KernelRfl
set_option linter.unusedSimpArgs false
set_option maxRecDepth 1000000
set_option maxHeartbeats 0
set_option linter.unusedVariables false
namespace Mw
open Go Mv Go.Proofs
theorem r122 : stripD ((Cf.run Tryz.prog 1000000 (noCut [])).1 { size := 31, top := false, fn := 83 } {} (atStm Tryz.prog 83 5) s119 16605 (lastK Tryz.prog (Cf.run Tryz.prog 1000000 (noCut [])).2 83 [46, 47, 48, 276, 1328, 1722, 1826, 1831, 1836, 1837] [0])) 16605 = some (List.replicate 1 (17969, (vP 15121), h121)) := by kernel_rfl
theorem r126 : callAt 33 (atOp Tryz.prog 50 1 2) s116 = some (83, [(.agg [(vL 1836 4 4), (vL 1831 3 3)]), (vI 3), (.fn (.func 53) [] [])], atOp Tryz.prog 50 1 3, (some 14)) := by kernel_rfl
theorem r127 : cutS [2, 6, 7, 8, 9, 10, 11, 14, 15, 16, 17, 18, 19, 20, 21, 22, 23, 24, 25, 26, 27, 28, 29, 30, 31, 32] [46, 47, 48, 276, 1328, 1722, 1826, 1831, 1836, 1837] [0] { s116 with sl := putD (s116).sl (some 14) (vP 15121), hp := h121 } = some s125 := by kernel_rfl
end Mw
