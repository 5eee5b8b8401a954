/- A part of the run of WeighKnown: states, facts that the kernel runs, or their chain. -/
import Derived.Test.YtdlalkokiicddaaGreatDoord
import Derived.KernelRfl
set_option linter.unusedSimpArgs false
set_option maxRecDepth 1000000
set_option maxHeartbeats 0
set_option linter.unusedVariables false
namespace Mw
open Go Mv Go.Proofs
theorem r85 : strip ((Cf.run Tryz.prog 1000000 { call := false, at_ := 5, nk := 11916, keep := [1, 2, 3, 6, 7, 8, 9, 10, 11, 12, 13, 14, 15, 16, 17, 18, 19, 20, 21, 22, 23, 24, 25, 26, 27, 28, 30], keepB := [46, 47, 48, 276, 1328, 1722, 1826, 1831, 1836, 1837], keepRo := [0], sums := [] }).1 { size := 31, top := true, fn := 83 } {} ([.code (bodyOf Tryz.prog 83)]) { sl := slotsOf [(.agg [(vL 1836 4 4), (vL 1831 3 3)]), (vI 2), (.fn (.func 53) [] [])] 0 .nil, hp := (s81).hp, df := [], cm := none } 10823 (fun _ _ _ _ => .bad)) 10823 = some (List.replicate 1 (11916, atStm Tryz.prog 83 5, s84)) := by kernel_rfl
end Mw
