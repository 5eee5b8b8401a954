/- A part of the run of WeighKnown: states, facts that the kernel runs, or their chain. -/
import Derived.Test.YtdlalkokiicddaaGreatDoord
import Derived.KernelRfl
set_option linter.unusedSimpArgs false
set_option maxRecDepth 1000000
set_option maxHeartbeats 0
set_option linter.unusedVariables false
namespace Mw
open Go Mv Go.Proofs
theorem r253 : strip ((Cf.run Tryz.prog 1000000 { call := false, at_ := 5, nk := 38145, keep := [1, 2, 3, 6, 7, 8, 9, 10, 11, 12, 13, 14, 15, 16, 17, 18, 19, 20, 21, 22, 23, 24, 25, 26, 27, 28, 30], keepB := [18867, 18868, 35295, 37319], keepRo := [0], sums := [] }).1 { size := 31, top := true, fn := 83 } {} ([.code (bodyOf Tryz.prog 83)]) { sl := slotsOf [(.agg [(vL 18867 1 1), vZ]), (vI 0), (.fn (.func 53) [] [])] 0 .nil, hp := (s249).hp, df := [], cm := none } 37459 (fun _ _ _ _ => .bad)) 37459 = some (List.replicate 1 (38145, atStm Tryz.prog 83 5, s252)) := by kernel_rfl
theorem r255 : stripD ((Cf.run Tryz.prog 1000000 (noCut [])).1 { size := 31, top := false, fn := 83 } {} (atStm Tryz.prog 83 5) s252 38145 (lastK Tryz.prog (Cf.run Tryz.prog 1000000 (noCut [])).2 83 [18867, 18868, 35295, 37319] [0])) 38145 = some (List.replicate 1 (38870, (vP 37460), h254)) := by kernel_rfl
theorem r259 : callAt 33 (atOp Tryz.prog 50 1 2) s249 = some (83, [(.agg [(vL 18867 1 1), vZ]), (vI 0), (.fn (.func 53) [] [])], atOp Tryz.prog 50 1 3, (some 14)) := by kernel_rfl
theorem r260 : cutS [2, 6, 7, 8, 9, 10, 11, 14, 15, 16, 17, 18, 19, 20, 21, 22, 23, 24, 25, 26, 27, 28, 29, 30, 31, 32] [18867, 18868, 35295, 37319] [0] { s249 with sl := putD (s249).sl (some 14) (vP 37460), hp := h254 } = some s258 := by kernel_rfl
end Mw
