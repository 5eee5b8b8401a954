/- A part of the run of the row: states, facts that the kernel runs, or their chain. -/
import Derived.Test.YtehopimmbgoaaaaGreatDoord1
import Derived.KernelRfl
set_option linter.unusedSimpArgs false
set_option maxRecDepth 1000000
set_option maxHeartbeats 0
set_option linter.unusedVariables false
namespace Mw
open Go Mv Go.Proofs
theorem r135 : strip ((Cf.run Tryz.prog 1000000 { call := true, at_ := 8, nk := 10475, keep := [0, 5, 6, 8] ++ kR 10 17 ++ [104] ++ kR 107 76 ++ kR 184 109 ++ kR 294 19 ++ kR 316 53 ++ kR 370 47 ++ kR 418 16 ++ kR 435 11 ++ kR 447 58, keepB := [], keepRo := [0, 1, 2], sums := [], msgs := [(9469, m132), (9472, m129)], ws := [w133, w130] }).1 { size := 505, top := true, fn := 3 } {} (atOp Tryz.prog 3 3 1) s124 9186 (fun _ _ _ _ => .bad)) 9186 = some (List.replicate 2 (10475, atOp Tryz.prog 3 9 3, s128)) := by kernel_rfl
theorem r140 : okTree (workF Tryz.prog Cf.hk (Cf.exW Tryz.prog 1000000) w139.iW w139.args { rw := .nil, ro := setsT w139.ro, gh := w139.gh } w139.nk {}) = true := by kernel_rfl
theorem r143 : okTree (workF Tryz.prog Cf.hk (Cf.exW Tryz.prog 1000000) w142.iW w142.args { rw := .nil, ro := setsT w142.ro, gh := w142.gh } w142.nk {}) = true := by kernel_rfl
theorem r144 : strip ((Cf.run Tryz.prog 1000000 { call := true, at_ := 11, nk := 10810, keep := [0, 5, 6, 8] ++ kR 10 17 ++ kR 111 72 ++ kR 184 109 ++ kR 294 19 ++ kR 316 53 ++ kR 370 47 ++ kR 418 16 ++ kR 435 11 ++ kR 447 58, keepB := [], keepRo := [0, 1, 2], sums := [], msgs := [(10509, m141), (10512, m138)], ws := [w142, w139] }).1 { size := 505, top := true, fn := 3 } {} (atOp Tryz.prog 3 9 3) s128 10475 (fun _ _ _ _ => .bad)) 10475 = some (List.replicate 2 (10810, atOp Tryz.prog 3 10 1, s137)) := by kernel_rfl
end Mw
