/- A part of the run of the row: states, facts that the kernel runs, or their chain. -/
import Derived.Test.YtehopimmbgoaaaaGreatDoord1
import Derived.KernelRfl
set_option linter.unusedSimpArgs false
set_option maxRecDepth 1000000
set_option maxHeartbeats 0
set_option linter.unusedVariables false
namespace Mw
open Go Mv Go.Proofs
theorem r82 : stripD ((Cf.run Tryz.prog 1000000 (noCut [] [] [])).1 { size := 40, top := false, fn := 83 } {} ([.code (bodyOf Tryz.prog 83)]) { sl := slotsOf [(vP 6756), (.ref 8601)] 0 .nil, hp := (mkH l79 l80), df := [], cm := none } 8604 (lastK Tryz.prog (Cf.run Tryz.prog 1000000 (noCut [] [] [])).2 83 [6728, 6729, 6730, 6731, 6732, 6756, 8601] [0, 1, 2])) 8604 = some (List.replicate 1 (8606, vF, h81)) := by kernel_rfl
theorem r88 : stripD ((Cf.run Tryz.prog 1000000 (noCut [] [] [])).1 { size := 40, top := false, fn := 83 } {} ([.code (bodyOf Tryz.prog 83)]) { sl := slotsOf [(vP 6756), (.ref 8591)] 0 .nil, hp := (mkH l85 l86), df := [], cm := none } 8594 (lastK Tryz.prog (Cf.run Tryz.prog 1000000 (noCut [] [] [])).2 83 [6728, 6729, 6730, 6731, 6732, 6756, 8591] [0, 1, 2])) 8594 = some (List.replicate 1 (8596, vF, h87)) := by kernel_rfl
theorem r94 : stripD ((Cf.run Tryz.prog 1000000 (noCut [] [] [])).1 { size := 25, top := false, fn := 84 } {} ([.code (bodyOf Tryz.prog 84)]) { sl := slotsOf [(.ref 8408), (vI 2)] 0 .nil, hp := (mkH l91 l92), df := [], cm := none } 8606 (lastK Tryz.prog (Cf.run Tryz.prog 1000000 (noCut [] [] [])).2 84 [8408] [0, 1, 2])) 8606 = some (List.replicate 1 (8609, (.ref 8606), h93)) := by kernel_rfl
theorem r100 : stripD ((Cf.run Tryz.prog 1000000 (noCut [] [] [])).1 { size := 40, top := false, fn := 83 } {} ([.code (bodyOf Tryz.prog 83)]) { sl := slotsOf [(vP 6756), (.ref 8606)] 0 .nil, hp := (mkH l97 l98), df := [], cm := none } 8609 (lastK Tryz.prog (Cf.run Tryz.prog 1000000 (noCut [] [] [])).2 83 [6728, 6729, 6730, 6731, 6732, 6756, 8606] [0, 1, 2])) 8609 = some (List.replicate 1 (8611, vT, h99)) := by kernel_rfl
theorem r104 : stripD ((Cf.run Tryz.prog 1000000 (noCut [q102, q96, q90, q84, q78, q72, q66, q57] [] [])).1 { size := 20, top := false, fn := 40 } {} (atStm Tryz.prog 40 1) s50 8403 (lastK Tryz.prog (Cf.run Tryz.prog 1000000 (noCut [q102, q96, q90, q84, q78, q72, q66, q57] [] [])).2 40 [40, 41, 42, 43, 3386] [0, 1, 2])) 8403 = some (List.replicate 1 (8611, (.tup [(.int .u64 (.lit (.ofNat 3))), vT]), h103)) := by kernel_rfl
theorem r108 : callAt 36 (atOp Tryz.prog 22 4 6) s41 = some (40, [(.fn (.func 81) [] [(vP 8398), (vP 8399)]), (.fn (.func 42) [] [])], atOp Tryz.prog 22 4 7, (some 29)) := by kernel_rfl
theorem r109 : cutS [4, 5, 8, 9, 22, 29, 30, 31, 32, 33, 34, 35] [40, 41, 42, 43, 3386] [0, 1, 2] { s41 with sl := putD (s41).sl (some 29) (.tup [(.int .u64 (.lit (.ofNat 3))), vT]), hp := h103 } = some s107 := by kernel_rfl
theorem r111 : stripD ((Cf.run Tryz.prog 1000000 (noCut [] [] [])).1 { size := 36, top := false, fn := 22 } {} (atOp Tryz.prog 22 4 7) s107 8611 (lastK Tryz.prog (Cf.run Tryz.prog 1000000 (noCut [] [] [])).2 22 [40, 41, 42, 43, 3386] [0, 1, 2])) 8611 = some (List.replicate 1 (8618, (.tup [(vR 8617 2 1), (vI 0)]), h110)) := by kernel_rfl
theorem r115 : callAt 128 (atOp Tryz.prog 5 5 1) s32 = some (22, [(.agg [(vL 6728 2 2), (vL 6729 2 2), (vL 6730 3 3), (vL 6731 3 3), (vL 6732 1 1)]), (vI 0)], atOp Tryz.prog 5 5 2, (some 43)) := by kernel_rfl
theorem r116 : cutS [0, 1, 2, 3, 4, 5, 6, 7, 8, 9, 10, 11, 12, 13, 14, 15, 16, 17, 41, 43, 44, 45, 46, 47, 48, 49, 50, 51, 52, 53, 54, 55, 56, 57, 58, 59, 60, 61, 62, 63, 64, 65, 66, 67, 68, 69, 70, 71, 72, 73, 74, 75, 76, 77, 78, 79, 80, 81, 82, 83, 84, 85, 86, 87, 88, 89, 90, 91, 92, 93, 94, 95, 96, 97, 98, 99, 100, 101, 102, 103, 104, 105, 106, 107, 108, 109, 110, 111, 112, 113, 114, 115, 116, 117, 118, 119, 120, 121, 122, 123, 124, 125, 126, 127] [40, 41, 42, 43] [0, 1, 2] { s32 with sl := putD (s32).sl (some 43) (.tup [(vR 8617 2 1), (vI 0)]), hp := h110 } = some s114 := by kernel_rfl
theorem r120 : okTree (workF Tryz.prog Cf.hk (Cf.exW Tryz.prog 1000000) w119.iW w119.args { rw := .nil, ro := setsT w119.ro, gh := w119.gh } w119.nk {}) = true := by kernel_rfl
end Mw
