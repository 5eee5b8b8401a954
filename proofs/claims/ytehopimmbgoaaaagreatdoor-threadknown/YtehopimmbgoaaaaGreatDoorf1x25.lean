/- A part of the run of the row: states, facts that the kernel runs, or their chain. -/
import Derived.Test.YtehopimmbgoaaaaGreatDoord1
import Derived.KernelRfl
set_option linter.unusedSimpArgs false
set_option maxRecDepth 1000000
set_option maxHeartbeats 0
set_option linter.unusedVariables false
namespace Mw
open Go Mv Go.Proofs
theorem r299 : stripD ((Cf.run Tryz.prog 1000000 (noCut [q297, q291, q285] [] [])).1 { size := 20, top := false, fn := 40 } {} (atStm Tryz.prog 40 1) s275 30882 (lastK Tryz.prog (Cf.run Tryz.prog 1000000 (noCut [q297, q291, q285] [] [])).2 40 [19119, 25187] [0, 1, 2])) 30882 = some (List.replicate 1 (31075, (.tup [(.int .u64 (.lit (.ofNat 6))), vT]), h298)) := by kernel_rfl
theorem r303 : callAt 36 (atOp Tryz.prog 22 4 6) s266 = some (40, [(.fn (.func 81) [] [(vP 30877), (vP 30878)]), (.fn (.func 42) [] [])], atOp Tryz.prog 22 4 7, (some 29)) := by kernel_rfl
theorem r304 : cutS [4, 5, 8, 9, 22, 29, 30, 31, 32, 33, 34, 35] [19119, 25187] [0, 1, 2] { s266 with sl := putD (s266).sl (some 29) (.tup [(.int .u64 (.lit (.ofNat 6))), vT]), hp := h298 } = some s302 := by kernel_rfl
theorem r306 : stripD ((Cf.run Tryz.prog 1000000 (noCut [] [] [])).1 { size := 36, top := false, fn := 22 } {} (atOp Tryz.prog 22 4 7) s302 31075 (lastK Tryz.prog (Cf.run Tryz.prog 1000000 (noCut [] [] [])).2 22 [19119, 25187] [0, 1, 2])) 31075 = some (List.replicate 1 (31082, (.tup [(vR 31081 2 1), (vI 0)]), h305)) := by kernel_rfl
theorem r310 : callAt 505 (atOp Tryz.prog 3 33 1) s254 = some (22, [(.agg [(vL 29207 2 2), (vL 29208 2 2), (vL 29209 3 3), (vL 29210 3 3), (vL 29211 1 1)]), (vI 1)], atOp Tryz.prog 3 33 2, (some 363)) := by kernel_rfl
theorem r311 : cutS [0, 6, 8, 10, 11, 12, 13, 14, 15, 16, 20, 21, 25, 26, 361, 363, 364, 365, 366, 367, 368, 370, 371, 372, 373, 374, 375, 376, 377, 378, 379, 380, 381, 382, 383, 384, 385, 386, 387, 388, 389, 390, 391, 392, 393, 394, 395, 396, 397, 398, 399, 400, 401, 402, 403, 404, 405, 406, 407, 408, 409, 410, 411, 412, 413, 414, 415, 416, 418, 419, 420, 421, 422, 423, 424, 425, 426, 427, 428, 429, 430, 431, 432, 433, 435, 436, 437, 438, 439, 440, 441, 442, 443, 444, 445, 447, 448, 449, 450, 451, 452, 453, 454, 455, 456, 457, 458, 459, 460, 461, 462, 463, 464, 465, 466, 467, 468, 469, 470, 471, 472, 473, 474, 475, 476, 477, 478, 479, 480, 481, 482, 483, 484, 485, 486, 487, 488, 489, 490, 491, 492, 493, 494, 495, 496, 497, 498, 499, 500, 501, 502, 503, 504] [] [0, 1, 2] { s254 with sl := putD (s254).sl (some 363) (.tup [(vR 31081 2 1), (vI 0)]), hp := h305 } = some s309 := by kernel_rfl
theorem r314 : strip ((Cf.run Tryz.prog 1000000 { call := true, at_ := 22, nk := 31088, keep := [0, 6, 8] ++ kR 10 7 ++ [20, 21, 25, 26, 366, 367, 368] ++ kR 370 47 ++ kR 418 16 ++ kR 435 11 ++ kR 447 58, keepB := [], keepRo := [0, 1, 2], sums := [], msgs := [], ws := [] }).1 { size := 505, top := true, fn := 3 } {} (atOp Tryz.prog 3 33 2) s309 31082 (fun _ _ _ _ => .bad)) 31082 = some (List.replicate 1 (31088, atOp Tryz.prog 3 34 1, s313)) := by kernel_rfl
theorem r319 : okTree (workF Tryz.prog Cf.hk (Cf.exW Tryz.prog 1000000) w318.iW w318.args { rw := .nil, ro := setsT w318.ro, gh := w318.gh } w318.nk {}) = true := by kernel_rfl
end Mw
