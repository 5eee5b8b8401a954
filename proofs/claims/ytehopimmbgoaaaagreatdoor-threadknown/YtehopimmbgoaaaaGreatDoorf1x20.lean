/- A part of the run of the row: states, facts that the kernel runs, or their chain. -/
import Derived.Test.YtehopimmbgoaaaaGreatDoord1
import Derived.KernelRfl
set_option linter.unusedSimpArgs false
set_option maxRecDepth 1000000
set_option maxHeartbeats 0
set_option linter.unusedVariables false
namespace Mw
open Go Mv Go.Proofs
theorem r242 : okTree (workF Tryz.prog Cf.hk (Cf.exW Tryz.prog 1000000) w241.iW w241.args { rw := .nil, ro := setsT w241.ro, gh := w241.gh } w241.nk {}) = true := by kernel_rfl
theorem r243 : strip ((Cf.run Tryz.prog 1000000 { call := true, at_ := 19, nk := 26242, keep := [0, 6, 8] ++ kR 10 7 ++ kR 20 7 ++ kR 295 18 ++ kR 316 53 ++ kR 370 47 ++ kR 418 16 ++ kR 435 11 ++ kR 447 58, keepB := [], keepRo := [0, 1, 2], sums := [], msgs := [(25235, m240), (25238, m237)], ws := [w241, w238] }).1 { size := 505, top := true, fn := 3 } {} (atOp Tryz.prog 3 27 3) s227 25197 (fun _ _ _ _ => .bad)) 25197 = some (List.replicate 2 (26242, atOp Tryz.prog 3 28 1, s236)) := by kernel_rfl
theorem r248 : okTree (workF Tryz.prog Cf.hk (Cf.exW Tryz.prog 1000000) w247.iW w247.args { rw := .nil, ro := setsT w247.ro, gh := w247.gh } w247.nk {}) = true := by kernel_rfl
end Mw
