/- A part of the run of WeighKnown: states, facts that the kernel runs, or their chain. -/
import Derived.Test.YtdlalkokiicddaaGreatDoord
import Derived.KernelRfl
set_option linter.unusedSimpArgs false
set_option maxRecDepth 1000000
set_option maxHeartbeats 0
set_option linter.unusedVariables false
namespace Mw
open Go Mv Go.Proofs
theorem r106 : stripD ((Cf.run Tryz.prog 1000000 (noCut [])).1 { size := 33, top := false, fn := 50 } {} (atOp Tryz.prog 50 6 4) s103 14933 (lastK Tryz.prog (Cf.run Tryz.prog 1000000 (noCut [])).2 50 [46, 47, 48, 276, 1328, 1722, 1826, 1831, 1836, 1837] [0])) 14933 = some (List.replicate 1 (15119, (vI 3), h105)) := by kernel_rfl
theorem r110 : callAt 51 (atOp Tryz.prog 20 11 3) s78 = some (50, [(.agg [(vL 1836 4 4), (vL 1831 3 3)]), (vI 2), (vI 0)], atOp Tryz.prog 20 11 4, (some 40)) := by kernel_rfl
theorem r111 : cutS [1, 2, 4, 5, 6, 9, 10, 33, 34, 35, 36, 37, 38, 39, 40, 41, 42, 43, 44, 45, 46, 47, 48, 49, 50] [46, 47, 48, 276, 1328, 1722, 1826] [0] { s78 with sl := putD (s78).sl (some 40) (vI 3), hp := h105 } = some s109 := by kernel_rfl
theorem r114 : strip ((Cf.run Tryz.prog 1000000 { call := true, at_ := 50, nk := 15119, keep := [1, 2, 4, 5, 6, 9, 10, 33, 34, 35, 36, 37, 38, 39, 40, 41, 42, 43, 44, 45, 46, 47, 48, 49, 50], keepB := [46, 47, 48, 276, 1328, 1722, 1826], keepRo := [0], sums := [] }).1 { size := 51, top := true, fn := 20 } {} (atOp Tryz.prog 20 11 4) s109 15119 (fun _ _ _ _ => .bad)) 15119 = some (List.replicate 1 (15119, atOp Tryz.prog 20 11 3, s113)) := by kernel_rfl
theorem r117 : strip ((Cf.run Tryz.prog 1000000 { call := true, at_ := 83, nk := 15120, keep := [2, 6, 7, 8, 9, 10, 11, 12, 13, 14, 15, 16, 17, 18, 19, 20, 21, 22, 23, 24, 25, 26, 27, 28, 29, 30, 31, 32], keepB := [46, 47, 48, 276, 1328, 1722, 1826, 1831, 1836, 1837], keepRo := [0], sums := [] }).1 { size := 33, top := true, fn := 50 } {} ([.code (bodyOf Tryz.prog 50)]) { sl := slotsOf [(.agg [(vL 1836 4 4), (vL 1831 3 3)]), (vI 3), (vI 0)] 0 .nil, hp := (s113).hp, df := [], cm := none } 15119 (fun _ _ _ _ => .bad)) 15119 = some (List.replicate 1 (15120, atOp Tryz.prog 50 1 2, s116)) := by kernel_rfl
end Mw
