/- A part of the run of the row: states, facts that the kernel runs, or their chain. -/
import Derived.Test.YtehopimmbgoaaaaGreatDoord1
import Derived.KernelRfl
set_option linter.unusedSimpArgs false
set_option maxRecDepth 1000000
set_option maxHeartbeats 0
set_option linter.unusedVariables false
namespace Mw
open Go Mv Go.Proofs
theorem r26 : okTree (workF Tryz.prog Cf.hk (Cf.exW Tryz.prog 1000000) w25.iW w25.args { rw := .nil, ro := setsT w25.ro, gh := w25.gh } w25.nk {}) = true := by kernel_rfl
theorem r29 : okTree (workF Tryz.prog Cf.hk (Cf.exW Tryz.prog 1000000) w28.iW w28.args { rw := .nil, ro := setsT w28.ro, gh := w28.gh } w28.nk {}) = true := by kernel_rfl
theorem r30 : strip ((Cf.run Tryz.prog 1000000 { call := true, at_ := 20, nk := 5064, keep := kR 0 18 ++ kR 34 94, keepB := [40, 41, 42, 43], keepRo := [0, 1, 2], sums := [], msgs := [(3425, m27), (3428, m24)], ws := [w28, w25] }).1 { size := 128, top := true, fn := 5 } {} (atOp Tryz.prog 5 3 1) s14 3393 (fun _ _ _ _ => .bad)) 3393 = some (List.replicate 2 (5064, atOp Tryz.prog 5 4 1, s23)) := by kernel_rfl
end Mw
