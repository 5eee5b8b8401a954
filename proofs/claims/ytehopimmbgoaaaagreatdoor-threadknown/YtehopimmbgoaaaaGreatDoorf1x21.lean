/- A part of the run of the row: states, facts that the kernel runs, or their chain. -/
import Derived.Test.YtehopimmbgoaaaaGreatDoord1
import Derived.KernelRfl
set_option linter.unusedSimpArgs false
set_option maxRecDepth 1000000
set_option maxHeartbeats 0
set_option linter.unusedVariables false
namespace Mw
open Go Mv Go.Proofs
theorem r251 : okTree (workF Tryz.prog Cf.hk (Cf.exW Tryz.prog 1000000) w250.iW w250.args { rw := .nil, ro := setsT w250.ro, gh := w250.gh } w250.nk {}) = true := by kernel_rfl
theorem r252 : strip ((Cf.run Tryz.prog 1000000 { call := true, at_ := 20, nk := 27916, keep := [0, 6, 8] ++ kR 10 7 ++ kR 20 7 ++ [301] ++ kR 304 9 ++ kR 316 53 ++ kR 370 47 ++ kR 418 16 ++ kR 435 11 ++ kR 447 58, keepB := [], keepRo := [0, 1, 2], sums := [], msgs := [(26274, m249), (26277, m246)], ws := [w250, w247] }).1 { size := 505, top := true, fn := 3 } {} (atOp Tryz.prog 3 28 1) s236 26242 (fun _ _ _ _ => .bad)) 26242 = some (List.replicate 2 (27916, atOp Tryz.prog 3 29 3, s245)) := by kernel_rfl
theorem r257 : okTree (workF Tryz.prog Cf.hk (Cf.exW Tryz.prog 1000000) w256.iW w256.args { rw := .nil, ro := setsT w256.ro, gh := w256.gh } w256.nk {}) = true := by kernel_rfl
theorem r260 : okTree (workF Tryz.prog Cf.hk (Cf.exW Tryz.prog 1000000) w259.iW w259.args { rw := .nil, ro := setsT w259.ro, gh := w259.gh } w259.nk {}) = true := by kernel_rfl
end Mw
