/- A part of the run of the row: states, facts that the kernel runs, or their chain. -/
import Derived.Test.YtehopimmbgoaaaaGreatDoord1
import Derived.KernelRfl
set_option linter.unusedSimpArgs false
set_option maxRecDepth 1000000
set_option maxHeartbeats 0
set_option linter.unusedVariables false
namespace Mw
open Go Mv Go.Proofs
theorem r215 : okTree (workF Tryz.prog Cf.hk (Cf.exW Tryz.prog 1000000) w214.iW w214.args { rw := .nil, ro := setsT w214.ro, gh := w214.gh } w214.nk {}) = true := by kernel_rfl
theorem r216 : strip ((Cf.run Tryz.prog 1000000 { call := true, at_ := 16, nk := 22470, keep := [0, 6, 8] ++ kR 10 7 ++ kR 20 7 ++ kR 234 59 ++ kR 294 19 ++ kR 316 53 ++ kR 370 47 ++ kR 418 16 ++ kR 435 11 ++ kR 447 58, keepB := [], keepRo := [0, 1, 2], sums := [], msgs := [(20831, m213), (20834, m210)], ws := [w214, w211] }).1 { size := 505, top := true, fn := 3 } {} (atOp Tryz.prog 3 22 1) s200 20798 (fun _ _ _ _ => .bad)) 20798 = some (List.replicate 2 (22470, atOp Tryz.prog 3 23 1, s209)) := by kernel_rfl
theorem r221 : okTree (workF Tryz.prog Cf.hk (Cf.exW Tryz.prog 1000000) w220.iW w220.args { rw := .nil, ro := setsT w220.ro, gh := w220.gh } w220.nk {}) = true := by kernel_rfl
end Mw
