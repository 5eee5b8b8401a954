/- A part of the run of the row: states, facts that the kernel runs, or their chain. -/
import Derived.Test.YtehopimmbgoaaaaGreatDoord1
import Derived.KernelRfl
set_option linter.unusedSimpArgs false
set_option maxRecDepth 1000000
set_option maxHeartbeats 0
set_option linter.unusedVariables false
namespace Mw
open Go Mv Go.Proofs
theorem r224 : okTree (workF Tryz.prog Cf.hk (Cf.exW Tryz.prog 1000000) w223.iW w223.args { rw := .nil, ro := setsT w223.ro, gh := w223.gh } w223.nk {}) = true := by kernel_rfl
theorem r225 : strip ((Cf.run Tryz.prog 1000000 { call := true, at_ := 18, nk := 24147, keep := [0, 6, 8] ++ kR 10 7 ++ kR 20 7 ++ [281] ++ kR 284 9 ++ kR 294 19 ++ kR 316 53 ++ kR 370 47 ++ kR 418 16 ++ kR 435 11 ++ kR 447 58, keepB := [], keepRo := [0, 1, 2], sums := [], msgs := [(22503, m222), (22506, m219)], ws := [w223, w220] }).1 { size := 505, top := true, fn := 3 } {} (atOp Tryz.prog 3 23 1) s209 22470 (fun _ _ _ _ => .bad)) 22470 = some (List.replicate 2 (24147, atOp Tryz.prog 3 26 3, s218)) := by kernel_rfl
theorem r230 : okTree (workF Tryz.prog Cf.hk (Cf.exW Tryz.prog 1000000) w229.iW w229.args { rw := .nil, ro := setsT w229.ro, gh := w229.gh } w229.nk {}) = true := by kernel_rfl
end Mw
