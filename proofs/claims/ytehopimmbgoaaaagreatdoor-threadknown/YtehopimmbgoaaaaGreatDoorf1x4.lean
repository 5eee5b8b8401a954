/- A part of the run of the row: states, facts that the kernel runs, or their chain. -/
import Derived.Test.YtehopimmbgoaaaaGreatDoord1
import Derived.KernelRfl
set_option linter.unusedSimpArgs false
set_option maxRecDepth 1000000
set_option maxHeartbeats 0
set_option linter.unusedVariables false
namespace Mw
open Go Mv Go.Proofs
theorem r35 : okTree (workF Tryz.prog Cf.hk (Cf.exW Tryz.prog 1000000) w34.iW w34.args { rw := .nil, ro := setsT w34.ro, gh := w34.gh } w34.nk {}) = true := by kernel_rfl
theorem r38 : okTree (workF Tryz.prog Cf.hk (Cf.exW Tryz.prog 1000000) w37.iW w37.args { rw := .nil, ro := setsT w37.ro, gh := w37.gh } w37.nk {}) = true := by kernel_rfl
theorem r39 : strip ((Cf.run Tryz.prog 1000000 { call := true, at_ := 22, nk := 6733, keep := kR 0 18 ++ kR 41 87, keepB := [40, 41, 42, 43], keepRo := [0, 1, 2], sums := [], msgs := [(5094, m36), (5097, m33)], ws := [w37, w34] }).1 { size := 128, top := true, fn := 5 } {} (atOp Tryz.prog 5 4 1) s23 5064 (fun _ _ _ _ => .bad)) 5064 = some (List.replicate 2 (6733, atOp Tryz.prog 5 5 1, s32)) := by kernel_rfl
end Mw
