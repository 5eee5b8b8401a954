/- A part of the run of the row: states, facts that the kernel runs, or their chain. -/
import Derived.Test.YtehopimmbgoaaaaGreatDoord1
import Derived.KernelRfl
set_option linter.unusedSimpArgs false
set_option maxRecDepth 1000000
set_option maxHeartbeats 0
set_option linter.unusedVariables false
namespace Mw
open Go Mv Go.Proofs
theorem r363 : strip ((Cf.run Tryz.prog 1000000 { call := true, at_ := 24, nk := 36249, keep := [0, 6, 8] ++ kR 10 5 ++ [16, 20, 21, 25, 26, 431, 432, 433] ++ kR 435 11 ++ kR 447 58, keepB := [], keepRo := [0, 1, 2], sums := [], msgs := [(35184, m360), (35187, m357)], ws := [w361, w358] }).1 { size := 505, top := true, fn := 3 } {} (atOp Tryz.prog 3 41 3) s344 35148 (fun _ _ _ _ => .bad)) 35148 = some (List.replicate 2 (36249, atOp Tryz.prog 3 42 1, s356)) := by kernel_rfl
theorem r368 : okTree (workF Tryz.prog Cf.hk (Cf.exW Tryz.prog 1000000) w367.iW w367.args { rw := .nil, ro := setsT w367.ro, gh := w367.gh } w367.nk {}) = true := by kernel_rfl
theorem r371 : okTree (workF Tryz.prog Cf.hk (Cf.exW Tryz.prog 1000000) w370.iW w370.args { rw := .nil, ro := setsT w370.ro, gh := w370.gh } w370.nk {}) = true := by kernel_rfl
end Mw
