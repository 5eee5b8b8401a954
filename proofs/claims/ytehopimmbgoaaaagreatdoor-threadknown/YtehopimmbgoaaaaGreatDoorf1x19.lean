/- A part of the run of the row: states, facts that the kernel runs, or their chain. -/
import Derived.Test.YtehopimmbgoaaaaGreatDoord1
import Derived.KernelRfl
set_option linter.unusedSimpArgs false
set_option maxRecDepth 1000000
set_option maxHeartbeats 0
set_option linter.unusedVariables false
namespace Mw
open Go Mv Go.Proofs
theorem r233 : okTree (workF Tryz.prog Cf.hk (Cf.exW Tryz.prog 1000000) w232.iW w232.args { rw := .nil, ro := setsT w232.ro, gh := w232.gh } w232.nk {}) = true := by kernel_rfl
theorem r234 : strip ((Cf.run Tryz.prog 1000000 { call := true, at_ := 18, nk := 25197, keep := [0, 6, 8] ++ kR 10 7 ++ kR 20 7 ++ [288, 291, 292] ++ kR 294 19 ++ kR 316 53 ++ kR 370 47 ++ kR 418 16 ++ kR 435 11 ++ kR 447 58, keepB := [], keepRo := [0, 1, 2], sums := [], msgs := [(24185, m231), (24188, m228)], ws := [w232, w229] }).1 { size := 505, top := true, fn := 3 } {} (atOp Tryz.prog 3 26 3) s218 24147 (fun _ _ _ _ => .bad)) 24147 = some (List.replicate 2 (25197, atOp Tryz.prog 3 27 3, s227)) := by kernel_rfl
theorem r239 : okTree (workF Tryz.prog Cf.hk (Cf.exW Tryz.prog 1000000) w238.iW w238.args { rw := .nil, ro := setsT w238.ro, gh := w238.gh } w238.nk {}) = true := by kernel_rfl
end Mw
