/- A part of the run of the row: states, facts that the kernel runs, or their chain. -/
import Derived.Test.YtehopimmbgoaaaaGreatDoord1
import Derived.KernelRfl
set_option linter.unusedSimpArgs false
set_option maxRecDepth 1000000
set_option maxHeartbeats 0
set_option linter.unusedVariables false
namespace Mw
open Go Mv Go.Proofs
theorem r197 : okTree (workF Tryz.prog Cf.hk (Cf.exW Tryz.prog 1000000) w196.iW w196.args { rw := .nil, ro := setsT w196.ro, gh := w196.gh } w196.nk {}) = true := by kernel_rfl
theorem r198 : strip ((Cf.run Tryz.prog 1000000 { call := true, at_ := 16, nk := 19126, keep := [0, 6, 8] ++ kR 10 7 ++ kR 20 7 ++ kR 224 69 ++ kR 294 19 ++ kR 316 53 ++ kR 370 47 ++ kR 418 16 ++ kR 435 11 ++ kR 447 58, keepB := [], keepRo := [0, 1, 2], sums := [], msgs := [(17483, m195), (17486, m192)], ws := [w196, w193] }).1 { size := 505, top := true, fn := 3 } {} (atOp Tryz.prog 3 20 1) s182 17450 (fun _ _ _ _ => .bad)) 17450 = some (List.replicate 2 (19126, atOp Tryz.prog 3 21 1, s191)) := by kernel_rfl
theorem r203 : okTree (workF Tryz.prog Cf.hk (Cf.exW Tryz.prog 1000000) w202.iW w202.args { rw := .nil, ro := setsT w202.ro, gh := w202.gh } w202.nk {}) = true := by kernel_rfl
end Mw
