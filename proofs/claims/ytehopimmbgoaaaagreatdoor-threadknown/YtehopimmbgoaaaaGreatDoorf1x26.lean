/- A part of the run of the row: states, facts that the kernel runs, or their chain. -/
import Derived.Test.YtehopimmbgoaaaaGreatDoord1
import Derived.KernelRfl
set_option linter.unusedSimpArgs false
set_option maxRecDepth 1000000
set_option maxHeartbeats 0
set_option linter.unusedVariables false
namespace Mw
open Go Mv Go.Proofs
theorem r322 : okTree (workF Tryz.prog Cf.hk (Cf.exW Tryz.prog 1000000) w321.iW w321.args { rw := .nil, ro := setsT w321.ro, gh := w321.gh } w321.nk {}) = true := by kernel_rfl
theorem r323 : strip ((Cf.run Tryz.prog 1000000 { call := true, at_ := 40, nk := 32755, keep := [4, 5, 8, 9, 22] ++ kR 28 8, keepB := [19119, 31081], keepRo := [0, 1, 2], sums := [], msgs := [(31120, m320), (31123, m317)], ws := [w321, w318] }).1 { size := 36, top := true, fn := 22 } {} ([.code (bodyOf Tryz.prog 22)]) { sl := slotsOf [(.agg [(vL 31083 2 2), (vL 31084 2 2), (vL 31085 3 3), (vL 31086 3 3), (vL 31087 1 1)]), (vI 2)] 0 .nil, hp := (s313).hp, df := [], cm := none } 31088 (fun _ _ _ _ => .bad)) 31088 = some (List.replicate 2 (32755, atOp Tryz.prog 22 4 6, s316)) := by kernel_rfl
theorem r325 : stripD ((Cf.run Tryz.prog 1000000 (noCut [] [] [])).1 { size := 36, top := false, fn := 22 } {} (atOp Tryz.prog 22 4 6) s316 32755 (lastK Tryz.prog (Cf.run Tryz.prog 1000000 (noCut [] [] [])).2 22 [19119, 31081] [0, 1, 2])) 32755 = some (List.replicate 1 (32941, (.tup [vZ, (vI 11)]), h324)) := by kernel_rfl
theorem r329 : callAt 505 (atOp Tryz.prog 3 34 1) s313 = some (22, [(.agg [(vL 31083 2 2), (vL 31084 2 2), (vL 31085 3 3), (vL 31086 3 3), (vL 31087 1 1)]), (vI 2)], atOp Tryz.prog 3 34 2, (some 368)) := by kernel_rfl
theorem r330 : cutS [0, 6, 8, 10, 11, 12, 13, 14, 15, 16, 20, 21, 25, 26, 366, 368, 370, 371, 372, 373, 374, 375, 376, 377, 378, 379, 380, 381, 382, 383, 384, 385, 386, 387, 388, 389, 390, 391, 392, 393, 394, 395, 396, 397, 398, 399, 400, 401, 402, 403, 404, 405, 406, 407, 408, 409, 410, 411, 412, 413, 414, 415, 416, 418, 419, 420, 421, 422, 423, 424, 425, 426, 427, 428, 429, 430, 431, 432, 433, 435, 436, 437, 438, 439, 440, 441, 442, 443, 444, 445, 447, 448, 449, 450, 451, 452, 453, 454, 455, 456, 457, 458, 459, 460, 461, 462, 463, 464, 465, 466, 467, 468, 469, 470, 471, 472, 473, 474, 475, 476, 477, 478, 479, 480, 481, 482, 483, 484, 485, 486, 487, 488, 489, 490, 491, 492, 493, 494, 495, 496, 497, 498, 499, 500, 501, 502, 503, 504] [] [0, 1, 2] { s313 with sl := putD (s313).sl (some 368) (.tup [vZ, (vI 11)]), hp := h324 } = some s328 := by kernel_rfl
theorem r333 : strip ((Cf.run Tryz.prog 1000000 { call := true, at_ := 22, nk := 32950, keep := [0, 6, 8] ++ kR 10 7 ++ [20, 21, 25, 26, 371] ++ kR 374 43 ++ kR 418 16 ++ kR 435 11 ++ kR 447 58, keepB := [], keepRo := [0, 1, 2], sums := [], msgs := [], ws := [] }).1 { size := 505, top := true, fn := 3 } {} (atOp Tryz.prog 3 34 2) s328 32941 (fun _ _ _ _ => .bad)) 32941 = some (List.replicate 1 (32950, atOp Tryz.prog 3 35 3, s332)) := by kernel_rfl
theorem r338 : okTree (workF Tryz.prog Cf.hk (Cf.exW Tryz.prog 1000000) w337.iW w337.args { rw := .nil, ro := setsT w337.ro, gh := w337.gh } w337.nk {}) = true := by kernel_rfl
end Mw
