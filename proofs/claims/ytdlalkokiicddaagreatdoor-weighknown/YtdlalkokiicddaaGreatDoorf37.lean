/- A part of the run of WeighKnown: states, facts that the kernel runs, or their chain. -/
import Derived.Test.YtdlalkokiicddaaGreatDoord
import Derived.KernelRfl
set_option linter.unusedSimpArgs false
set_option maxRecDepth 1000000
set_option maxHeartbeats 0
set_option linter.unusedVariables false
namespace Mw
open Go Mv Go.Proofs
theorem r269 : strip ((Cf.run Tryz.prog 1000000 { call := true, at_ := 84, nk := 39907, keep := [2, 6, 7, 8, 9, 10, 11, 15, 16, 17, 18, 19, 20, 21, 22, 23, 24, 25, 26, 27, 28, 29, 30, 31, 32], keepB := [18867, 18868, 35295, 37319], keepRo := [0], sums := [] }).1 { size := 33, top := true, fn := 50 } {} (atOp Tryz.prog 50 6 4) s265 39565 (fun _ _ _ _ => .bad)) 39565 = some (List.replicate 1 (39907, atOp Tryz.prog 50 6 4, s268)) := by kernel_rfl
theorem r271 : stripD ((Cf.run Tryz.prog 1000000 (noCut [])).1 { size := 33, top := false, fn := 50 } {} (atOp Tryz.prog 50 6 4) s268 39907 (lastK Tryz.prog (Cf.run Tryz.prog 1000000 (noCut [])).2 50 [18867, 18868, 35295, 37319] [0])) 39907 = some (List.replicate 1 (39978, (vI 1), h270)) := by kernel_rfl
theorem r275 : callAt 51 (atOp Tryz.prog 20 11 3) s246 = some (50, [(.agg [(vL 18867 1 1), vZ]), (vI 0), (vI 0)], atOp Tryz.prog 20 11 4, (some 40)) := by kernel_rfl
theorem r276 : cutS [1, 2, 4, 5, 6, 9, 10, 33, 34, 35, 36, 37, 38, 39, 40, 41, 42, 43, 44, 45, 46, 47, 48, 49, 50] [18868, 35295] [0] { s246 with sl := putD (s246).sl (some 40) (vI 1), hp := h270 } = some s274 := by kernel_rfl
theorem r278 : stripD ((Cf.run Tryz.prog 1000000 (noCut [])).1 { size := 51, top := false, fn := 20 } {} (atOp Tryz.prog 20 11 4) s274 39978 (lastK Tryz.prog (Cf.run Tryz.prog 1000000 (noCut [])).2 20 [18868, 35295] [0])) 39978 = some (List.replicate 1 (39978, (.tup [(vI 0), (vI 0), (vI 11)]), h277)) := by kernel_rfl
theorem r282 : callAt 385 (atOp Tryz.prog 3 39 1) s243 = some (20, [(.agg [(vL 18867 1 1), vZ]), (vI 0)], atOp Tryz.prog 3 39 2, (some 329)) := by kernel_rfl
theorem r283 : cutS [0, 4, 7, 9, 11, 13, 22, 23, 33, 34, 327, 329, 332, 333, 334, 335, 337, 338, 339, 340, 341, 342, 343, 344, 345, 346, 347, 348, 349, 350, 351, 352, 353, 354, 355, 356, 357, 358, 359, 360, 361, 362, 363, 364, 365, 366, 367, 368, 369, 370, 371, 372, 373, 374, 375, 376, 377, 378, 379, 380, 381, 382, 383, 384] [] [0] { s243 with sl := putD (s243).sl (some 329) (.tup [(vI 0), (vI 0), (vI 11)]), hp := h277 } = some s281 := by kernel_rfl
end Mw
