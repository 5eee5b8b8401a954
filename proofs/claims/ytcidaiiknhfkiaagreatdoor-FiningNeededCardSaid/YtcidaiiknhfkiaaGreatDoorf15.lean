/- A part of the run of the row's end: states, facts that the kernel runs, or their chain. -/
import Derived.Test.YtcidaiiknhfkiaaGreatDoord
import Derived.KernelRfl
set_option linter.unusedSimpArgs false
set_option maxRecDepth 1000000
set_option maxHeartbeats 0
set_option linter.unusedVariables false
namespace Fk
open Go Mv Mw Go.Proofs Ft
theorem r64 : stripE ((Fa.run Tryz.prog 1000000 (noCut [] [])).1 { size := 40, top := false, fn := 82 } {} (atOp Tryz.prog 82 12 2) s61 10160 (lastK Tryz.prog (Fa.run Tryz.prog 1000000 (noCut [] [])).2 82 [62, 239, 4875] [0, 1])) 10160 = some (List.replicate 1 (10289, (vP 4912), h63)) := by kernel_rfl
theorem r68 : callAt 30 (atOp Tryz.prog 44 4 3) s40 = some (82, [(vR 4909 4 6), (vI 56), (.agg [(.fn (.func 115) [] [])])], atOp Tryz.prog 44 4 4, (some 24)) := by kernel_rfl
theorem r69 : cutS [4, 5, 6, 20, 24, 25, 26, 27, 28, 29] [62, 239, 4875] [0, 1] { s40 with sl := putD (s40).sl (some 24) (vP 4912), hp := h63 } = some s67 := by kernel_rfl
theorem r71 : stripE ((Fa.run Tryz.prog 1000000 (noCut [] [])).1 { size := 30, top := false, fn := 44 } {} (atOp Tryz.prog 44 4 4) s67 10289 (lastK Tryz.prog (Fa.run Tryz.prog 1000000 (noCut [] [])).2 44 [62, 239, 4875] [0, 1])) 10289 = some (List.replicate 1 (10294, (.tup [(vI 4), (vI 3), (vI 0)]), h70)) := by kernel_rfl
theorem r75 : callAt 108 (atOp Tryz.prog 19 4 1) s37 = some (44, [(vL 4878 4 4), (vI 56)], atOp Tryz.prog 19 4 2, (some 34)) := by kernel_rfl
theorem r76 : cutS [0, 1, 2, 3, 4, 5, 6, 7, 8, 9, 10, 11, 12, 13, 14, 32, 34, 35, 36, 37, 38, 39, 40, 41, 42, 43, 44, 45, 46, 47, 48, 49, 50, 51, 52, 53, 54, 55, 56, 57, 58, 59, 60, 61, 62, 63, 64, 65, 66, 67, 68, 69, 70, 71, 72, 73, 74, 75, 76, 77, 78, 79, 80, 81, 82, 83, 84, 85, 86, 87, 88, 89, 90, 91, 92, 93, 94, 95, 96, 97, 98, 99, 100, 101, 102, 103, 104, 105, 106, 107] [] [0, 1] { s37 with sl := putD (s37).sl (some 34) (.tup [(vI 4), (vI 3), (vI 0)]), hp := h70 } = some s74 := by kernel_rfl
theorem r78 : stripE ((Fa.run Tryz.prog 1000000 (noCut [] [])).1 { size := 108, top := false, fn := 19 } {} (atOp Tryz.prog 19 4 2) s74 10294 (lastK Tryz.prog (Fa.run Tryz.prog 1000000 (noCut [] [])).2 19 [] [0, 1])) 10294 = some (List.replicate 1 (10513, vT, h77)) := by kernel_rfl
end Fk
