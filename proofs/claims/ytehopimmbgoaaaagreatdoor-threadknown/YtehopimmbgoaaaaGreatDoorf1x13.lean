/- A part of the run of the row: states, facts that the kernel runs, or their chain. -/
import Derived.Test.YtehopimmbgoaaaaGreatDoord1
import Derived.KernelRfl
set_option linter.unusedSimpArgs false
set_option maxRecDepth 1000000
set_option maxHeartbeats 0
set_option linter.unusedVariables false
namespace Mw
open Go Mv Go.Proofs
theorem r171 : strip ((Cf.run Tryz.prog 1000000 { call := true, at_ := 14, nk := 15434, keep := [0, 6, 8] ++ kR 10 17 ++ [178, 181, 182] ++ kR 184 109 ++ kR 294 19 ++ kR 316 53 ++ kR 370 47 ++ kR 418 16 ++ kR 435 11 ++ kR 447 58, keepB := [], keepRo := [0, 1, 2], sums := [], msgs := [(14425, m168), (14428, m165)], ws := [w169, w166] }).1 { size := 505, top := true, fn := 3 } {} (atOp Tryz.prog 3 15 3) s155 14386 (fun _ _ _ _ => .bad)) 14386 = some (List.replicate 2 (15434, atOp Tryz.prog 3 16 3, s164)) := by kernel_rfl
theorem r176 : okTree (workF Tryz.prog Cf.hk (Cf.exW Tryz.prog 1000000) w175.iW w175.args { rw := .nil, ro := setsT w175.ro, gh := w175.gh } w175.nk {}) = true := by kernel_rfl
theorem r179 : okTree (workF Tryz.prog Cf.hk (Cf.exW Tryz.prog 1000000) w178.iW w178.args { rw := .nil, ro := setsT w178.ro, gh := w178.gh } w178.nk {}) = true := by kernel_rfl
theorem r180 : strip ((Cf.run Tryz.prog 1000000 { call := true, at_ := 15, nk := 15774, keep := [0, 6, 8] ++ kR 10 7 ++ kR 20 7 ++ kR 214 79 ++ kR 294 19 ++ kR 316 53 ++ kR 370 47 ++ kR 418 16 ++ kR 435 11 ++ kR 447 58, keepB := [], keepRo := [0, 1, 2], sums := [], msgs := [(15473, m177), (15476, m174)], ws := [w178, w175] }).1 { size := 505, top := true, fn := 3 } {} (atOp Tryz.prog 3 16 3) s164 15434 (fun _ _ _ _ => .bad)) 15434 = some (List.replicate 2 (15774, atOp Tryz.prog 3 19 1, s173)) := by kernel_rfl
theorem r185 : okTree (workF Tryz.prog Cf.hk (Cf.exW Tryz.prog 1000000) w184.iW w184.args { rw := .nil, ro := setsT w184.ro, gh := w184.gh } w184.nk {}) = true := by kernel_rfl
end Mw
