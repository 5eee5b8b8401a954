/- A part of the run of WeighKnown: states, facts that the kernel runs, or their chain. -/
import Derived.Test.YtdlalkokiicddaaGreatDoord
import Derived.KernelRfl
set_option linter.unusedSimpArgs false
set_option maxRecDepth 1000000
set_option maxHeartbeats 0
set_option linter.unusedVariables false
namespace Mw
open Go Mv Go.Proofs
theorem r39 : stripD ((Cf.run Tryz.prog 1000000 (noCut [])).1 { size := 33, top := false, fn := 50 } {} (atOp Tryz.prog 50 6 4) s36 6613 (lastK Tryz.prog (Cf.run Tryz.prog 1000000 (noCut [])).2 50 [46, 47, 48, 276, 1328, 1722, 1826, 1831, 1836, 1837] [0])) 6613 = some (List.replicate 1 (6799, (vI 3), h38)) := by kernel_rfl
theorem r43 : callAt 51 (atOp Tryz.prog 20 11 3) s11 = some (50, [(.agg [(vL 1836 4 4), (vL 1831 3 3)]), (vI 0), (vI 0)], atOp Tryz.prog 20 11 4, (some 40)) := by kernel_rfl
theorem r44 : cutS [1, 2, 4, 5, 6, 9, 10, 33, 34, 35, 36, 37, 38, 39, 40, 41, 42, 43, 44, 45, 46, 47, 48, 49, 50] [46, 47, 48, 276, 1328, 1722, 1826] [0] { s11 with sl := putD (s11).sl (some 40) (vI 3), hp := h38 } = some s42 := by kernel_rfl
theorem r47 : strip ((Cf.run Tryz.prog 1000000 { call := true, at_ := 50, nk := 6799, keep := [1, 2, 4, 5, 6, 9, 10, 33, 34, 35, 36, 37, 38, 39, 40, 41, 42, 43, 44, 45, 46, 47, 48, 49, 50], keepB := [46, 47, 48, 276, 1328, 1722, 1826], keepRo := [0], sums := [] }).1 { size := 51, top := true, fn := 20 } {} (atOp Tryz.prog 20 11 4) s42 6799 (fun _ _ _ _ => .bad)) 6799 = some (List.replicate 1 (6799, atOp Tryz.prog 20 11 3, s46)) := by kernel_rfl
theorem r50 : strip ((Cf.run Tryz.prog 1000000 { call := true, at_ := 83, nk := 6800, keep := [2, 6, 7, 8, 9, 10, 11, 12, 13, 14, 15, 16, 17, 18, 19, 20, 21, 22, 23, 24, 25, 26, 27, 28, 29, 30, 31, 32], keepB := [46, 47, 48, 276, 1328, 1722, 1826, 1831, 1836, 1837], keepRo := [0], sums := [] }).1 { size := 33, top := true, fn := 50 } {} ([.code (bodyOf Tryz.prog 50)]) { sl := slotsOf [(.agg [(vL 1836 4 4), (vL 1831 3 3)]), (vI 1), (vI 0)] 0 .nil, hp := (s46).hp, df := [], cm := none } 6799 (fun _ _ _ _ => .bad)) 6799 = some (List.replicate 1 (6800, atOp Tryz.prog 50 1 2, s49)) := by kernel_rfl
end Mw
