/- A part of the run of the row: states, facts that the kernel runs, or their chain. -/
import Derived.Test.YtehopimmbgoaaaaGreatDoord1
import Derived.KernelRfl
set_option linter.unusedSimpArgs false
set_option maxRecDepth 1000000
set_option maxHeartbeats 0
set_option linter.unusedVariables false
namespace Mw
open Go Mv Go.Proofs
theorem r17 : okTree (workF Tryz.prog Cf.hk (Cf.exW Tryz.prog 1000000) w16.iW w16.args { rw := .nil, ro := setsT w16.ro, gh := w16.gh } w16.nk {}) = true := by kernel_rfl
theorem r20 : okTree (workF Tryz.prog Cf.hk (Cf.exW Tryz.prog 1000000) w19.iW w19.args { rw := .nil, ro := setsT w19.ro, gh := w19.gh } w19.nk {}) = true := by kernel_rfl
theorem r21 : strip ((Cf.run Tryz.prog 1000000 { call := true, at_ := 19, nk := 3393, keep := kR 0 18 ++ kR 28 100, keepB := [40, 41, 42, 43], keepRo := [0, 1, 2], sums := [], msgs := [(1751, m18), (1754, m15)], ws := [w19, w16] }).1 { size := 128, top := true, fn := 5 } {} (atOp Tryz.prog 5 2 1) s5 1717 (fun _ _ _ _ => .bad)) 1717 = some (List.replicate 2 (3393, atOp Tryz.prog 5 3 1, s14)) := by kernel_rfl
end Mw
