/- A part of the run of WeighKnown: states, facts that the kernel runs, or their chain. -/
import Derived.Test.YtdlalkokiicddaaGreatDoord
import Derived.KernelRfl
set_option linter.unusedSimpArgs false
set_option maxRecDepth 1000000
set_option maxHeartbeats 0
set_option linter.unusedVariables false
namespace Mw
open Go Mv Go.Proofs
theorem r12 : strip ((Cf.run Tryz.prog 1000000 { call := true, at_ := 50, nk := 2247, keep := [1, 2, 4, 5, 6, 9, 10, 33, 34, 35, 36, 37, 38, 39, 40, 41, 42, 43, 44, 45, 46, 47, 48, 49, 50], keepB := [46, 47, 48, 276, 1328, 1722, 1826], keepRo := [0], sums := [] }).1 { size := 51, top := true, fn := 20 } {} ([.code (bodyOf Tryz.prog 20)]) { sl := slotsOf [(.agg [(vL 1836 4 4), (vL 1831 3 3)]), (vI 0)] 0 .nil, hp := (s8).hp, df := [], cm := none } 1837 (fun _ _ _ _ => .bad)) 1837 = some (List.replicate 1 (2247, atOp Tryz.prog 20 11 3, s11)) := by kernel_rfl
theorem r15 : strip ((Cf.run Tryz.prog 1000000 { call := true, at_ := 83, nk := 2248, keep := [2, 6, 7, 8, 9, 10, 11, 12, 13, 14, 15, 16, 17, 18, 19, 20, 21, 22, 23, 24, 25, 26, 27, 28, 29, 30, 31, 32], keepB := [46, 47, 48, 276, 1328, 1722, 1826, 1831, 1836, 1837], keepRo := [0], sums := [] }).1 { size := 33, top := true, fn := 50 } {} ([.code (bodyOf Tryz.prog 50)]) { sl := slotsOf [(.agg [(vL 1836 4 4), (vL 1831 3 3)]), (vI 0), (vI 0)] 0 .nil, hp := (s11).hp, df := [], cm := none } 2247 (fun _ _ _ _ => .bad)) 2247 = some (List.replicate 1 (2248, atOp Tryz.prog 50 1 2, s14)) := by kernel_rfl
end Mw
