/- A part of the run of the row: states, facts that the kernel runs, or their chain. -/
import Derived.Test.YtehopimmbgoaaaaGreatDoord1
import Derived.KernelRfl
set_option linter.unusedSimpArgs false
set_option maxRecDepth 1000000
set_option maxHeartbeats 0
set_option linter.unusedVariables false
namespace Mw
open Go Mv Go.Proofs
theorem r341 : okTree (workF Tryz.prog Cf.hk (Cf.exW Tryz.prog 1000000) w340.iW w340.args { rw := .nil, ro := setsT w340.ro, gh := w340.gh } w340.nk {}) = true := by kernel_rfl
theorem r342 : strip ((Cf.run Tryz.prog 1000000 { call := false, at_ := 36, nk := 34238, keep := [0, 6, 8] ++ kR 10 7 ++ [20, 21, 25, 26] ++ kR 378 39 ++ kR 418 16 ++ kR 435 11 ++ kR 447 58, keepB := [], keepRo := [0, 1, 2], sums := [], msgs := [(32988, m339), (32991, m336)], ws := [w340, w337] }).1 { size := 505, top := true, fn := 3 } {} (atOp Tryz.prog 3 35 3) s332 32950 (fun _ _ _ _ => .bad)) 32950 = some (List.replicate 2 (34238, atStm Tryz.prog 3 36, s335)) := by kernel_rfl
end Mw
