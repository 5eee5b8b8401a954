/- A part of the run of the row's end: states, facts that the kernel runs, or their chain. -/
import Derived.Test.YtladmdopggnnmaaGreatDoord
import Derived.KernelRfl
set_option linter.unusedSimpArgs false
set_option maxRecDepth 1000000
set_option maxHeartbeats 0
set_option linter.unusedVariables false
namespace Fk
open Go Mv Mw Go.Proofs Ft
theorem r266 : stripO ((Fa.run Tryz.prog 1000000 { call := true, at_ := 25, nk := 19065, keep := [6, 7, 16, 17, 18], keepB := [11515, 16182, 16574, 18331], keepRo := [0, 1], sums := [], msgs := [] }).1 { size := 19, top := true, fn := 42 } {} ([.code (bodyOf Tryz.prog 42)]) { sl := slotsOf [(vR 18632 4 6), (vI 7), (vI 0)] 0 .nil, hp := (s262).hp, df := [], cm := none } 18633 (fun _ _ _ _ => .bad)) 18633 = some (List.replicate 1 (19065, atOp Tryz.prog 42 4 2, s265)) := by kernel_rfl
theorem r268 : stripE ((Fa.run Tryz.prog 1000000 (noCut [] [])).1 { size := 19, top := false, fn := 42 } {} (atOp Tryz.prog 42 4 2) s265 19065 (lastK Tryz.prog (Fa.run Tryz.prog 1000000 (noCut [] [])).2 42 [11515, 16182, 16574, 18331] [0, 1])) 19065 = some (List.replicate 1 (19771, (.tup [(vR 19770 1 1), (vI 0)]), h267)) := by kernel_rfl
theorem r272 : callAt 29 (atOp Tryz.prog 16 4 3) s262 = some (42, [(vR 18632 4 6), (vI 7), (vI 0)], atOp Tryz.prog 16 4 4, (some 26)) := by kernel_rfl
theorem r273 : cutS [6, 7, 26, 27, 28] [11515, 16182, 16574, 18331] [0, 1] { s262 with sl := putD (s262).sl (some 26) (.tup [(vR 19770 1 1), (vI 0)]), hp := h267 } = some s271 := by kernel_rfl
theorem r275 : stripE ((Fa.run Tryz.prog 1000000 (noCut [] [])).1 { size := 29, top := false, fn := 16 } {} (atOp Tryz.prog 16 4 4) s271 19771 (lastK Tryz.prog (Fa.run Tryz.prog 1000000 (noCut [] [])).2 16 [11515, 16182, 16574, 18331] [0, 1])) 19771 = some (List.replicate 1 (19771, (.tup [(vR 19770 1 1), (vI 0)]), h274)) := by kernel_rfl
theorem r279 : callAt 415 (atOp Tryz.prog 3 25 1) s259 = some (16, [(vL 18600 4 4), (vI 7), (vI 0)], atOp Tryz.prog 3 25 2, (some 240)) := by kernel_rfl
theorem r280 : cutS [0, 4, 5, 6, 7, 8, 9, 11, 13, 15, 16, 17, 18, 19, 20, 238, 240, 241, 242, 243, 244, 245, 246, 247, 248, 249, 250, 251, 252, 253, 254, 255, 256, 257, 258, 259, 260, 261, 262, 263, 264, 265, 266, 267, 268, 269, 270, 271, 272, 273, 274, 275, 276, 277, 278, 279, 280, 281, 282, 283, 284, 285, 286, 287, 288, 289, 290, 291, 292, 293, 294, 295, 296, 297, 298, 299, 300, 301, 302, 303, 304, 305, 306, 307, 308, 309, 310, 311, 312, 313, 314, 315, 316, 317, 318, 319, 320, 321, 322, 323, 324, 325, 326, 327, 328, 329, 330, 331, 332, 333, 334, 335, 336, 337, 338, 339, 340, 341, 342, 343, 344, 345, 346, 347, 348, 349, 350, 351, 352, 353, 354, 355, 356, 357, 358, 359, 360, 361, 362, 363, 364, 365, 366, 367, 368, 369, 370, 371, 372, 373, 374, 375, 376, 377, 378, 380, 381, 382, 383, 385, 386, 387, 388, 389, 390, 391, 392, 393, 395, 396, 397, 398, 399, 400, 401, 402, 403, 404, 405, 406, 407, 408, 409, 410, 411, 412, 413, 414] [] [0, 1] { s259 with sl := putD (s259).sl (some 240) (.tup [(vR 19770 1 1), (vI 0)]), hp := h274 } = some s278 := by kernel_rfl
end Fk
