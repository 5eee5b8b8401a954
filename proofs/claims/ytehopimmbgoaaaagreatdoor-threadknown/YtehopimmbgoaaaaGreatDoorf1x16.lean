/- A part of the run of the row: states, facts that the kernel runs, or their chain. -/
import Derived.Test.YtehopimmbgoaaaaGreatDoord1
import Derived.KernelRfl
set_option linter.unusedSimpArgs false
set_option maxRecDepth 1000000
set_option maxHeartbeats 0
set_option linter.unusedVariables false
namespace Mw
open Go Mv Go.Proofs
theorem r206 : okTree (workF Tryz.prog Cf.hk (Cf.exW Tryz.prog 1000000) w205.iW w205.args { rw := .nil, ro := setsT w205.ro, gh := w205.gh } w205.nk {}) = true := by kernel_rfl
theorem r207 : strip ((Cf.run Tryz.prog 1000000 { call := true, at_ := 16, nk := 20798, keep := [0, 6, 8] ++ kR 10 7 ++ kR 20 7 ++ kR 229 64 ++ kR 294 19 ++ kR 316 53 ++ kR 370 47 ++ kR 418 16 ++ kR 435 11 ++ kR 447 58, keepB := [], keepRo := [0, 1, 2], sums := [], msgs := [(19159, m204), (19162, m201)], ws := [w205, w202] }).1 { size := 505, top := true, fn := 3 } {} (atOp Tryz.prog 3 21 1) s191 19126 (fun _ _ _ _ => .bad)) 19126 = some (List.replicate 2 (20798, atOp Tryz.prog 3 22 1, s200)) := by kernel_rfl
theorem r212 : okTree (workF Tryz.prog Cf.hk (Cf.exW Tryz.prog 1000000) w211.iW w211.args { rw := .nil, ro := setsT w211.ro, gh := w211.gh } w211.nk {}) = true := by kernel_rfl
end Mw
