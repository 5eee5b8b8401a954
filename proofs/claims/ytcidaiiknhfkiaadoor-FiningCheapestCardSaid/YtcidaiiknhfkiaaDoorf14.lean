/- A part of the run of the row's end: states, facts that the kernel runs, or their chain. -/
import Derived.Test.YtcidaiiknhfkiaaDoord
import Derived.KernelRfl
set_option linter.unusedSimpArgs false
set_option maxRecDepth 1000000
set_option maxHeartbeats 0
set_option linter.unusedVariables false
namespace Fk
open Go Mv Mw Go.Proofs Ft
theorem r61 : stripE ((Fa.run Tryd.prog 1000000 (noCut [] [])).1 { size := 40, top := false, fn := 24 } {} (atOp Tryd.prog 24 12 2) s58 9544 (lastK Tryd.prog (Fa.run Tryd.prog 1000000 (noCut [] [])).2 24 [62, 239, 4875] [0, 1])) 9544 = some (List.replicate 1 (10289, (vP 4912), h60)) := by kernel_rfl
theorem r65 : callAt 30 (atOp Tryd.prog 30 4 3) s40 = some (24, [(vR 4909 4 6), (vI 56), (.agg [(.fn (.func 66) [] [])])], atOp Tryd.prog 30 4 4, (some 24)) := by kernel_rfl
theorem r66 : cutS [4, 5, 6, 20, 24, 25, 26, 27, 28, 29] [62, 239, 4875] [0, 1] { s40 with sl := putD (s40).sl (some 24) (vP 4912), hp := h60 } = some s64 := by kernel_rfl
end Fk
