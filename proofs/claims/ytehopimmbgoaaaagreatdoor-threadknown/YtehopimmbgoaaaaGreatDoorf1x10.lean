/- A part of the run of the row: states, facts that the kernel runs, or their chain. -/
import Derived.Test.YtehopimmbgoaaaaGreatDoord1
import Derived.KernelRfl
set_option linter.unusedSimpArgs false
set_option maxRecDepth 1000000
set_option maxHeartbeats 0
set_option linter.unusedVariables false
namespace Mw
open Go Mv Go.Proofs
theorem r149 : okTree (workF Tryz.prog Cf.hk (Cf.exW Tryz.prog 1000000) w148.iW w148.args { rw := .nil, ro := setsT w148.ro, gh := w148.gh } w148.nk {}) = true := by kernel_rfl
theorem r152 : okTree (workF Tryz.prog Cf.hk (Cf.exW Tryz.prog 1000000) w151.iW w151.args { rw := .nil, ro := setsT w151.ro, gh := w151.gh } w151.nk {}) = true := by kernel_rfl
end Mw
