/- A part of the run of WeighKnown: states, facts that the kernel runs, or their chain. -/
import Derived.Test.YtdlalkokiicddaaGreatDoord
import Derived.KernelRfl
set_option linter.unusedSimpArgs false
set_option maxRecDepth 1000000
set_option maxHeartbeats 0
set_option linter.unusedVariables false
namespace Mw
open Go Mv Go.Proofs
theorem r91 : strip ((Cf.run Tryz.prog 1000000 { call := false, at_ := 5, nk := 13715, keep := [1, 2, 3, 6, 7, 8, 9, 10, 11, 12, 13, 14, 15, 16, 17, 18, 19, 20, 21, 22, 23, 24, 25, 26, 27, 28, 30], keepB := [46, 47, 48, 276, 1328, 1722, 1826, 1831, 1836, 1837], keepRo := [0], sums := [] }).1 { size := 31, top := true, fn := 83 } {} (atStm Tryz.prog 83 5) s87 12204 (fun _ _ _ _ => .bad)) 12204 = some (List.replicate 1 (13715, atStm Tryz.prog 83 5, s90)) := by kernel_rfl
theorem r93 : stripD ((Cf.run Tryz.prog 1000000 (noCut [])).1 { size := 31, top := false, fn := 83 } {} (atStm Tryz.prog 83 5) s90 13715 (lastK Tryz.prog (Cf.run Tryz.prog 1000000 (noCut [])).2 83 [46, 47, 48, 276, 1328, 1722, 1826, 1831, 1836, 1837] [0])) 13715 = some (List.replicate 1 (14445, (vP 10824), h92)) := by kernel_rfl
theorem r97 : callAt 33 (atOp Tryz.prog 50 1 2) s81 = some (83, [(.agg [(vL 1836 4 4), (vL 1831 3 3)]), (vI 2), (.fn (.func 53) [] [])], atOp Tryz.prog 50 1 3, (some 14)) := by kernel_rfl
theorem r98 : cutS [2, 6, 7, 8, 9, 10, 11, 14, 15, 16, 17, 18, 19, 20, 21, 22, 23, 24, 25, 26, 27, 28, 29, 30, 31, 32] [46, 47, 48, 276, 1328, 1722, 1826, 1831, 1836, 1837] [0] { s81 with sl := putD (s81).sl (some 14) (vP 10824), hp := h92 } = some s96 := by kernel_rfl
end Mw
