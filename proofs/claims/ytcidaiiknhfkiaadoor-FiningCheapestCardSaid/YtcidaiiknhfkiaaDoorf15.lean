/- A part of the run of the row's end: states, facts that the kernel runs, or their chain. -/
import Derived.Test.YtcidaiiknhfkiaaDoord
import Derived.KernelRfl
set_option linter.unusedSimpArgs false
set_option maxRecDepth 1000000
set_option maxHeartbeats 0
set_option linter.unusedVariables false
namespace Fk
open Go Mv Mw Go.Proofs Ft
theorem r68 : stripE ((Fa.run Tryd.prog 1000000 (noCut [] [])).1 { size := 30, top := false, fn := 30 } {} (atOp Tryd.prog 30 4 4) s64 10289 (lastK Tryd.prog (Fa.run Tryd.prog 1000000 (noCut [] [])).2 30 [62, 239, 4875] [0, 1])) 10289 = some (List.replicate 1 (10294, (.tup [(vI 4), (vI 3), (vI 0)]), h67)) := by kernel_rfl
theorem r72 : callAt 108 (atOp Tryd.prog 13 4 1) s37 = some (30, [(vL 4878 4 4), (vI 56)], atOp Tryd.prog 13 4 2, (some 34)) := by kernel_rfl
theorem r73 : cutS [0, 1, 2, 3, 4, 5, 6, 7, 8, 9, 10, 11, 12, 13, 14, 32, 34, 35, 36, 37, 38, 39, 40, 41, 42, 43, 44, 45, 46, 47, 48, 49, 50, 51, 52, 53, 54, 55, 56, 57, 58, 59, 60, 61, 62, 63, 64, 65, 66, 67, 68, 69, 70, 71, 72, 73, 74, 75, 76, 77, 78, 79, 80, 81, 82, 83, 84, 85, 86, 87, 88, 89, 90, 91, 92, 93, 94, 95, 96, 97, 98, 99, 100, 101, 102, 103, 104, 105, 106, 107] [] [0, 1] { s37 with sl := putD (s37).sl (some 34) (.tup [(vI 4), (vI 3), (vI 0)]), hp := h67 } = some s71 := by kernel_rfl
theorem r75 : stripE ((Fa.run Tryd.prog 1000000 (noCut [] [])).1 { size := 108, top := false, fn := 13 } {} (atOp Tryd.prog 13 4 2) s71 10294 (lastK Tryd.prog (Fa.run Tryd.prog 1000000 (noCut [] [])).2 13 [] [0, 1])) 10294 = some (List.replicate 1 (10513, vT, h74)) := by kernel_rfl
end Fk
