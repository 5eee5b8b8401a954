/- A part of the run of the row: states, facts that the kernel runs, or their chain. -/
import Derived.Test.YtehopimmbgoaaaaGreatDoord2
import Derived.KernelRfl
set_option linter.unusedSimpArgs false
set_option maxRecDepth 1000000
set_option maxHeartbeats 0
set_option linter.unusedVariables false
namespace Mw
open Go Mv Go.Proofs
theorem r374 : okTree (workF Tryz.prog Cf.hk (Cf.exW Tryz.prog 1000000) w373.iW w373.args { rw := .nil, ro := setsT w373.ro, gh := w373.gh } w373.nk {}) = true := by kernel_rfl
theorem r405 : strip ((Cf.run Tryz.prog 1000000 { call := true, at_ := 25, nk := 36582, keep := [0, 6, 8] ++ kR 10 5 ++ [16, 20, 21, 25, 26] ++ kR 436 10 ++ kR 447 58, keepB := [], keepRo := [0, 1, 2], sums := [], msgs := [(36272, m372)], ws := [w373] }).1 { size := 505, top := true, fn := 3 } {} (atOp Tryz.prog 3 42 1) s356 36249 (fun _ _ _ _ => .bad)) 36249 = some (List.replicate 1 (36582, atOp Tryz.prog 3 43 1, s401)) := by kernel_rfl
theorem r414 : strip ((Cf.run Tryz.prog 1000000 { call := true, at_ := 26, nk := 38253, keep := [0, 6, 8] ++ kR 10 5 ++ [16, 20, 21, 25, 26, 442, 443, 444, 445] ++ kR 447 58, keepB := [], keepRo := [0, 1, 2], sums := [], msgs := [(36614, m369), (36617, m366)], ws := [w370, w367] }).1 { size := 505, top := true, fn := 3 } {} (atOp Tryz.prog 3 43 1) s401 36582 (fun _ _ _ _ => .bad)) 36582 = some (List.replicate 2 (38253, atOp Tryz.prog 3 44 2, s407)) := by kernel_rfl
end Mw
