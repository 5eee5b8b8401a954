/- A part of the run of WeighKnown: states, facts that the kernel runs, or their chain. -/
import Derived.Test.YtdlalkokiicddaaGreatDoord
import Derived.KernelRfl
set_option linter.unusedSimpArgs false
set_option maxRecDepth 1000000
set_option maxHeartbeats 0
set_option linter.unusedVariables false
namespace Mw
open Go Mv Go.Proofs
theorem r163 : strip ((Cf.run Tryz.prog 1000000 { call := false, at_ := 29, nk := 21834, keep := [0, 4, 5, 7, 9, 11, 13, 22, 23, 24, 25, 26, 27, 28, 29, 30, 31, 32, 33, 34, 226, 227, 228, 229, 230, 231, 232, 233, 234, 235, 236, 237, 238, 239, 240, 241, 242, 243, 244, 245, 246, 247, 248, 249, 250, 251, 252, 253, 254, 255, 256, 257, 258, 259, 260, 261, 262, 263, 264, 265, 266, 267, 268, 269, 270, 271, 272, 273, 274, 275, 276, 277, 278, 279, 280, 281, 282, 283, 284, 285, 286, 287, 288, 289, 290, 291, 292, 293, 294, 295, 296, 297, 298, 299, 300, 301, 302, 303, 304, 305, 306, 307, 308, 309, 310, 311, 312, 313, 314, 315, 316, 317, 318, 319, 320, 321, 322, 323, 324, 325, 326, 327, 328, 329, 332, 333, 334, 335, 337, 338, 339, 340, 341, 342, 343, 344, 345, 346, 347, 348, 349, 350, 351, 352, 353, 354, 355, 356, 357, 358, 359, 360, 361, 362, 363, 364, 365, 366, 367, 368, 369, 370, 371, 372, 373, 374, 375, 376, 377, 378, 379, 380, 381, 382, 383, 384], keepB := [], keepRo := [0], sums := [] }).1 { size := 385, top := true, fn := 3 } {} (atOp Tryz.prog 3 20 1) s159 21170 (fun _ _ _ _ => .bad)) 21170 = some (List.replicate 1 (21834, atStm Tryz.prog 3 29, s162)) := by kernel_rfl
theorem r168 : strip ((Cf.run Tryz.prog 1000000 { call := true, at_ := 37, nk := 22065, keep := [5, 6, 7, 10, 11, 12, 13, 14, 26, 27, 28, 29, 30, 31, 32, 33, 34, 35, 36, 37, 38, 39, 40, 41, 42, 43, 44, 45, 46, 47, 48, 49, 50, 51, 52, 53, 54, 55], keepB := [18868, 18869, 21798, 21831, 21832, 21833], keepRo := [0], sums := [] }).1 { size := 56, top := true, fn := 16 } {} ([.code (bodyOf Tryz.prog 16)]) { sl := slotsOf [(.agg [(vL 21843 4 4), (vL 21838 3 3)]), (vI 1), (vI 2)] 0 .nil, hp := (mkH l164 l165), df := [], cm := none } 21844 (fun _ _ _ _ => .bad)) 21844 = some (List.replicate 1 (22065, atOp Tryz.prog 16 5 2, s167)) := by kernel_rfl
end Mw
