/- A part of the run of the row: states, facts that the kernel runs, or their chain. -/
import Derived.Test.YtehopimmbgoaaaaGreatDoord1
import Derived.KernelRfl
set_option linter.unusedSimpArgs false
set_option maxRecDepth 1000000
set_option maxHeartbeats 0
set_option linter.unusedVariables false
namespace Mw
open Go Mv Go.Proofs
theorem r188 : okTree (workF Tryz.prog Cf.hk (Cf.exW Tryz.prog 1000000) w187.iW w187.args { rw := .nil, ro := setsT w187.ro, gh := w187.gh } w187.nk {}) = true := by kernel_rfl
theorem r189 : strip ((Cf.run Tryz.prog 1000000 { call := true, at_ := 15, nk := 17450, keep := [0, 6, 8] ++ kR 10 7 ++ kR 20 7 ++ kR 219 74 ++ kR 294 19 ++ kR 316 53 ++ kR 370 47 ++ kR 418 16 ++ kR 435 11 ++ kR 447 58, keepB := [], keepRo := [0, 1, 2], sums := [], msgs := [(15807, m186), (15810, m183)], ws := [w187, w184] }).1 { size := 505, top := true, fn := 3 } {} (atOp Tryz.prog 3 19 1) s173 15774 (fun _ _ _ _ => .bad)) 15774 = some (List.replicate 2 (17450, atOp Tryz.prog 3 20 1, s182)) := by kernel_rfl
theorem r194 : okTree (workF Tryz.prog Cf.hk (Cf.exW Tryz.prog 1000000) w193.iW w193.args { rw := .nil, ro := setsT w193.ro, gh := w193.gh } w193.nk {}) = true := by kernel_rfl
end Mw
