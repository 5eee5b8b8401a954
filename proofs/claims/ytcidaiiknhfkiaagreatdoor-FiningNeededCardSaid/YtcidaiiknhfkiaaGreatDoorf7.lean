/- A part of the run of the row's end: states, facts that the kernel runs, or their chain. -/
import Derived.Test.YtcidaiiknhfkiaaGreatDoord
import Derived.KernelRfl
set_option linter.unusedSimpArgs false
set_option maxRecDepth 1000000
set_option maxHeartbeats 0
set_option linter.unusedVariables false
namespace Fk
open Go Mv Mw Go.Proofs Ft
theorem r23 : stripE ((Fa.run Tryz.prog 1000000 (noCut [] [])).1 { size := 40, top := false, fn := 82 } {} (atOp Tryz.prog 82 12 2) s20 4177 (lastK Tryz.prog (Fa.run Tryz.prog 1000000 (noCut [] [])).2 82 [62, 239] [0, 1])) 4177 = some (List.replicate 1 (4863, (vP 347), h22)) := by kernel_rfl
theorem r27 : callAt 32 (atOp Tryz.prog 42 4 3) s5 = some (82, [(vR 344 4 6), (vI 0), (.agg [(.fn (.func 118) [] [])])], atOp Tryz.prog 42 4 4, (some 26)) := by kernel_rfl
theorem r28 : cutS [1, 6, 7, 8, 26, 27, 28, 29, 30, 31] [62, 239] [0, 1] { s5 with sl := putD (s5).sl (some 26) (vP 347), hp := h22 } = some s26 := by kernel_rfl
theorem r30 : stripE ((Fa.run Tryz.prog 1000000 (noCut [] [])).1 { size := 32, top := false, fn := 42 } {} (atOp Tryz.prog 42 4 4) s26 4863 (lastK Tryz.prog (Fa.run Tryz.prog 1000000 (noCut [] [])).2 42 [62, 239] [0, 1])) 4863 = some (List.replicate 1 (4878, (.tup [(vR 4875 3 1), (vI 4), (vI 0)]), h29)) := by kernel_rfl
theorem r34 : callAt 108 (atOp Tryz.prog 19 3 1) s2 = some (42, [(vL 313 4 4), (vI 7), (vI 0)], atOp Tryz.prog 19 3 2, (some 28)) := by kernel_rfl
theorem r35 : cutS [0, 1, 2, 3, 4, 5, 6, 7, 8, 9, 10, 11, 12, 13, 14, 26, 28, 29, 30, 31, 32, 33, 34, 35, 36, 37, 38, 39, 40, 41, 42, 43, 44, 45, 46, 47, 48, 49, 50, 51, 52, 53, 54, 55, 56, 57, 58, 59, 60, 61, 62, 63, 64, 65, 66, 67, 68, 69, 70, 71, 72, 73, 74, 75, 76, 77, 78, 79, 80, 81, 82, 83, 84, 85, 86, 87, 88, 89, 90, 91, 92, 93, 94, 95, 96, 97, 98, 99, 100, 101, 102, 103, 104, 105, 106, 107] [] [0, 1] { s2 with sl := putD (s2).sl (some 28) (.tup [(vR 4875 3 1), (vI 4), (vI 0)]), hp := h29 } = some s33 := by kernel_rfl
theorem r38 : stripO ((Fa.run Tryz.prog 1000000 { call := true, at_ := 44, nk := 4879, keep := kR 0 15 ++ kR 32 76, keepB := [], keepRo := [0, 1], sums := [], msgs := [] }).1 { size := 108, top := true, fn := 19 } {} (atOp Tryz.prog 19 3 2) s33 4878 (fun _ _ _ _ => .bad)) 4878 = some (List.replicate 1 (4879, atOp Tryz.prog 19 4 1, s37)) := by kernel_rfl
theorem r41 : stripO ((Fa.run Tryz.prog 1000000 { call := true, at_ := 82, nk := 4911, keep := [4, 5, 6] ++ kR 20 10, keepB := [62, 239, 4875], keepRo := [0, 1], sums := [], msgs := [] }).1 { size := 30, top := true, fn := 44 } {} ([.code (bodyOf Tryz.prog 44)]) { sl := slotsOf [(vL 4878 4 4), (vI 56)] 0 .nil, hp := (s37).hp, df := [], cm := none } 4879 (fun _ _ _ _ => .bad)) 4879 = some (List.replicate 1 (4911, atOp Tryz.prog 44 4 3, s40)) := by kernel_rfl
end Fk
