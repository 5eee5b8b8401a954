/- A part of the run of the row: states, facts that the kernel runs, or their chain. -/
import Derived.Test.YtehopimmbgoaaaaGreatDoord1
import Derived.KernelRfl
set_option linter.unusedSimpArgs false
set_option maxRecDepth 1000000
set_option maxHeartbeats 0
set_option linter.unusedVariables false
namespace Mw
open Go Mv Go.Proofs
theorem r153 : strip ((Cf.run Tryz.prog 1000000 { call := true, at_ := 14, nk := 12708, keep := [0, 6, 8] ++ kR 10 17 ++ kR 166 17 ++ kR 184 109 ++ kR 294 19 ++ kR 316 53 ++ kR 370 47 ++ kR 418 16 ++ kR 435 11 ++ kR 447 58, keepB := [], keepRo := [0, 1, 2], sums := [], msgs := [(11066, m150), (11069, m147)], ws := [w151, w148] }).1 { size := 505, top := true, fn := 3 } {} (atOp Tryz.prog 3 10 1) s137 10810 (fun _ _ _ _ => .bad)) 10810 = some (List.replicate 2 (12708, atOp Tryz.prog 3 14 1, s146)) := by kernel_rfl
theorem r158 : okTree (workF Tryz.prog Cf.hk (Cf.exW Tryz.prog 1000000) w157.iW w157.args { rw := .nil, ro := setsT w157.ro, gh := w157.gh } w157.nk {}) = true := by kernel_rfl
end Mw
