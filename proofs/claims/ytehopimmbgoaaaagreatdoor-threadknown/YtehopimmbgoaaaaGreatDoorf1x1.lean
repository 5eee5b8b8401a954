/- A part of the run of the row: states, facts that the kernel runs, or their chain. -/
import Derived.Test.YtehopimmbgoaaaaGreatDoord1
import Derived.KernelRfl
set_option linter.unusedSimpArgs false
set_option maxRecDepth 1000000
set_option maxHeartbeats 0
set_option linter.unusedVariables false
namespace Mw
open Go Mv Go.Proofs
theorem r3 : strip ((Cf.run Tryz.prog 1000000 { call := true, at_ := 5, nk := 44, keep := kR 0 7 ++ [8] ++ kR 10 17 ++ kR 42 141 ++ kR 184 109 ++ kR 294 19 ++ kR 316 53 ++ kR 370 47 ++ kR 418 16 ++ kR 435 11 ++ kR 447 58, keepB := [], keepRo := [0, 1, 2], sums := [], msgs := [], ws := [] }).1 { size := 505, top := true, fn := 3 } {} ([.code (bodyOf Tryz.prog 3)]) { sl := slotsOf [] 0 .nil, hp := h0, df := [], cm := none } 16 (fun _ _ _ _ => .bad)) 16 = some (List.replicate 1 (44, atOp Tryz.prog 3 3 0, s2)) := by kernel_rfl
theorem r8 : okTree (workF Tryz.prog Cf.hk (Cf.exW Tryz.prog 1000000) w7.iW w7.args { rw := .nil, ro := setsT w7.ro, gh := w7.gh } w7.nk {}) = true := by kernel_rfl
theorem r11 : okTree (workF Tryz.prog Cf.hk (Cf.exW Tryz.prog 1000000) w10.iW w10.args { rw := .nil, ro := setsT w10.ro, gh := w10.gh } w10.nk {}) = true := by kernel_rfl
theorem r12 : strip ((Cf.run Tryz.prog 1000000 { call := true, at_ := 13, nk := 1717, keep := kR 0 18 ++ kR 23 105, keepB := [40, 41, 42, 43], keepRo := [0, 1, 2], sums := [], msgs := [(78, m9), (81, m6)], ws := [w10, w7] }).1 { size := 128, top := true, fn := 5 } {} ([.code (bodyOf Tryz.prog 5)]) { sl := slotsOf [] 0 .nil, hp := (s2).hp, df := [], cm := none } 44 (fun _ _ _ _ => .bad)) 44 = some (List.replicate 2 (1717, atOp Tryz.prog 5 2 1, s5)) := by kernel_rfl
end Mw
