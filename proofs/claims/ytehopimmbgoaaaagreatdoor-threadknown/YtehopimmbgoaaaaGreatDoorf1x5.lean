/- A part of the run of the row: states, facts that the kernel runs, or their chain. -/
import Derived.Test.YtehopimmbgoaaaaGreatDoord1
import Derived.KernelRfl
set_option linter.unusedSimpArgs false
set_option maxRecDepth 1000000
set_option maxHeartbeats 0
set_option linter.unusedVariables false
namespace Mw
open Go Mv Go.Proofs
theorem r44 : okTree (workF Tryz.prog Cf.hk (Cf.exW Tryz.prog 1000000) w43.iW w43.args { rw := .nil, ro := setsT w43.ro, gh := w43.gh } w43.nk {}) = true := by kernel_rfl
theorem r47 : okTree (workF Tryz.prog Cf.hk (Cf.exW Tryz.prog 1000000) w46.iW w46.args { rw := .nil, ro := setsT w46.ro, gh := w46.gh } w46.nk {}) = true := by kernel_rfl
theorem r48 : strip ((Cf.run Tryz.prog 1000000 { call := true, at_ := 40, nk := 8400, keep := [4, 5, 8, 9, 22] ++ kR 28 8, keepB := [40, 41, 42, 43, 3386], keepRo := [0, 1, 2], sums := [], msgs := [(6765, m45), (6768, m42)], ws := [w46, w43] }).1 { size := 36, top := true, fn := 22 } {} ([.code (bodyOf Tryz.prog 22)]) { sl := slotsOf [(.agg [(vL 6728 2 2), (vL 6729 2 2), (vL 6730 3 3), (vL 6731 3 3), (vL 6732 1 1)]), (vI 0)] 0 .nil, hp := (s32).hp, df := [], cm := none } 6733 (fun _ _ _ _ => .bad)) 6733 = some (List.replicate 2 (8400, atOp Tryz.prog 22 4 6, s41)) := by kernel_rfl
theorem r51 : strip ((Cf.run Tryz.prog 1000000 { call := false, at_ := 1, nk := 8403, keep := [0] ++ kR 3 17, keepB := [40, 41, 42, 43, 3386], keepRo := [0, 1, 2], sums := [], msgs := [], ws := [] }).1 { size := 20, top := true, fn := 40 } {} ([.code (bodyOf Tryz.prog 40)]) { sl := slotsOf [(.fn (.func 81) [] [(vP 8398), (vP 8399)]), (.fn (.func 42) [] [])] 0 .nil, hp := (s41).hp, df := [], cm := none } 8400 (fun _ _ _ _ => .bad)) 8400 = some (List.replicate 1 (8403, atStm Tryz.prog 40 1, s50)) := by kernel_rfl
end Mw
