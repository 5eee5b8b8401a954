/- A part of the run of the row: states, facts that the kernel runs, or their chain. -/
import Derived.Test.YtehopimmbgoaaaaGreatDoord1
import Derived.KernelRfl
set_option linter.unusedSimpArgs false
set_option maxRecDepth 1000000
set_option maxHeartbeats 0
set_option linter.unusedVariables false
namespace Mw
open Go Mv Go.Proofs
theorem r347 : okTree (workF Tryz.prog Cf.hk (Cf.exW Tryz.prog 1000000) w346.iW w346.args { rw := .nil, ro := setsT w346.ro, gh := w346.gh } w346.nk {}) = true := by kernel_rfl
theorem r350 : okTree (workF Tryz.prog Cf.hk (Cf.exW Tryz.prog 1000000) w349.iW w349.args { rw := .nil, ro := setsT w349.ro, gh := w349.gh } w349.nk {}) = true := by kernel_rfl
theorem r353 : okTree (workF Tryz.prog Cf.hk (Cf.exW Tryz.prog 1000000) w352.iW w352.args { rw := .nil, ro := setsT w352.ro, gh := w352.gh } w352.nk {}) = true := by kernel_rfl
theorem r354 : strip ((Cf.run Tryz.prog 1000000 { call := true, at_ := 24, nk := 35148, keep := [0, 6, 8] ++ kR 10 5 ++ [16, 20, 21, 25, 26, 424] ++ kR 427 7 ++ kR 435 11 ++ kR 447 58, keepB := [], keepRo := [0, 1, 2], sums := [], msgs := [(34268, m351), (34565, m348), (34835, m345)], ws := [w352, w349, w346] }).1 { size := 505, top := true, fn := 3 } {} (atStm Tryz.prog 3 36) s335 34238 (fun _ _ _ _ => .bad)) 34238 = some (List.replicate 1 (35148, atOp Tryz.prog 3 41 3, s344)) := by kernel_rfl
theorem r359 : okTree (workF Tryz.prog Cf.hk (Cf.exW Tryz.prog 1000000) w358.iW w358.args { rw := .nil, ro := setsT w358.ro, gh := w358.gh } w358.nk {}) = true := by kernel_rfl
theorem r362 : okTree (workF Tryz.prog Cf.hk (Cf.exW Tryz.prog 1000000) w361.iW w361.args { rw := .nil, ro := setsT w361.ro, gh := w361.gh } w361.nk {}) = true := by kernel_rfl
end Mw
