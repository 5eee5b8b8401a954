/- A part of the run of the row: states, facts that the kernel runs, or their chain. -/
import Derived.Test.YtehopimmbgoaaaaGreatDoord1
import Derived.KernelRfl
set_option linter.unusedSimpArgs false
set_option maxRecDepth 1000000
set_option maxHeartbeats 0
set_option linter.unusedVariables false
namespace Mw
open Go Mv Go.Proofs
theorem r263 : okTree (workF Tryz.prog Cf.hk (Cf.exW Tryz.prog 1000000) w262.iW w262.args { rw := .nil, ro := setsT w262.ro, gh := w262.gh } w262.nk {}) = true := by kernel_rfl
theorem r264 : strip ((Cf.run Tryz.prog 1000000 { call := true, at_ := 22, nk := 29212, keep := [0, 6, 8] ++ kR 10 7 ++ [20, 21, 25, 26] ++ kR 361 8 ++ kR 370 47 ++ kR 418 16 ++ kR 435 11 ++ kR 447 58, keepB := [], keepRo := [0, 1, 2], sums := [], msgs := [(27952, m261), (27955, m258), (28977, m255)], ws := [w262, w259, w256] }).1 { size := 505, top := true, fn := 3 } {} (atOp Tryz.prog 3 29 3) s245 27916 (fun _ _ _ _ => .bad)) 27916 = some (List.replicate 2 (29212, atOp Tryz.prog 3 33 1, s254)) := by kernel_rfl
end Mw
