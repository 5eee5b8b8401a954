/- A part of the run of the row: states, facts that the kernel runs, or their chain. -/
import Derived.Test.YtehopimmbgoaaaaGreatDoord1
import Derived.KernelRfl
set_option linter.unusedSimpArgs false
set_option maxRecDepth 1000000
set_option maxHeartbeats 0
set_option linter.unusedVariables false
namespace Mw
open Go Mv Go.Proofs
theorem r161 : okTree (workF Tryz.prog Cf.hk (Cf.exW Tryz.prog 1000000) w160.iW w160.args { rw := .nil, ro := setsT w160.ro, gh := w160.gh } w160.nk {}) = true := by kernel_rfl
theorem r162 : strip ((Cf.run Tryz.prog 1000000 { call := true, at_ := 14, nk := 14386, keep := [0, 6, 8] ++ kR 10 17 ++ [171] ++ kR 174 9 ++ kR 184 109 ++ kR 294 19 ++ kR 316 53 ++ kR 370 47 ++ kR 418 16 ++ kR 435 11 ++ kR 447 58, keepB := [], keepRo := [0, 1, 2], sums := [], msgs := [(12741, m159), (12744, m156)], ws := [w160, w157] }).1 { size := 505, top := true, fn := 3 } {} (atOp Tryz.prog 3 14 1) s146 12708 (fun _ _ _ _ => .bad)) 12708 = some (List.replicate 2 (14386, atOp Tryz.prog 3 15 3, s155)) := by kernel_rfl
theorem r167 : okTree (workF Tryz.prog Cf.hk (Cf.exW Tryz.prog 1000000) w166.iW w166.args { rw := .nil, ro := setsT w166.ro, gh := w166.gh } w166.nk {}) = true := by kernel_rfl
theorem r170 : okTree (workF Tryz.prog Cf.hk (Cf.exW Tryz.prog 1000000) w169.iW w169.args { rw := .nil, ro := setsT w169.ro, gh := w169.gh } w169.nk {}) = true := by kernel_rfl
end Mw
