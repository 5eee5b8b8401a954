/- A part of the run of the row: states, facts that the kernel runs, or their chain. -/
import Derived.Test.YtehopimmbgoaaaaGreatDoord1
import Derived.KernelRfl
set_option linter.unusedSimpArgs false
set_option maxRecDepth 1000000
set_option maxHeartbeats 0
set_option linter.unusedVariables false
namespace Mw
open Go Mv Go.Proofs
theorem r269 : okTree (workF Tryz.prog Cf.hk (Cf.exW Tryz.prog 1000000) w268.iW w268.args { rw := .nil, ro := setsT w268.ro, gh := w268.gh } w268.nk {}) = true := by kernel_rfl
theorem r272 : okTree (workF Tryz.prog Cf.hk (Cf.exW Tryz.prog 1000000) w271.iW w271.args { rw := .nil, ro := setsT w271.ro, gh := w271.gh } w271.nk {}) = true := by kernel_rfl
theorem r273 : strip ((Cf.run Tryz.prog 1000000 { call := true, at_ := 40, nk := 30879, keep := [4, 5, 8, 9, 22] ++ kR 28 8, keepB := [19119, 25187], keepRo := [0, 1, 2], sums := [], msgs := [(29244, m270), (29247, m267)], ws := [w271, w268] }).1 { size := 36, top := true, fn := 22 } {} ([.code (bodyOf Tryz.prog 22)]) { sl := slotsOf [(.agg [(vL 29207 2 2), (vL 29208 2 2), (vL 29209 3 3), (vL 29210 3 3), (vL 29211 1 1)]), (vI 1)] 0 .nil, hp := (s254).hp, df := [], cm := none } 29212 (fun _ _ _ _ => .bad)) 29212 = some (List.replicate 2 (30879, atOp Tryz.prog 22 4 6, s266)) := by kernel_rfl
theorem r276 : strip ((Cf.run Tryz.prog 1000000 { call := false, at_ := 1, nk := 30882, keep := [0] ++ kR 3 17, keepB := [19119, 25187], keepRo := [0, 1, 2], sums := [], msgs := [], ws := [] }).1 { size := 20, top := true, fn := 40 } {} ([.code (bodyOf Tryz.prog 40)]) { sl := slotsOf [(.fn (.func 81) [] [(vP 30877), (vP 30878)]), (.fn (.func 42) [] [])] 0 .nil, hp := (s266).hp, df := [], cm := none } 30879 (fun _ _ _ _ => .bad)) 30879 = some (List.replicate 1 (30882, atStm Tryz.prog 40 1, s275)) := by kernel_rfl
theorem r281 : strip ((Cf.run Tryz.prog 1000000 { call := false, at_ := 2, nk := 31061, keep := [0, 1] ++ kR 4 5 ++ kR 10 13 ++ [24], keepB := [30887], keepRo := [0, 1, 2], sums := [], msgs := [], ws := [] }).1 { size := 25, top := true, fn := 84 } {} ([.code (bodyOf Tryz.prog 84)]) { sl := slotsOf [(.ref 30887), (vI 1)] 0 .nil, hp := (mkH l277 l278), df := [], cm := none } 31060 (fun _ _ _ _ => .bad)) 31060 = some (List.replicate 1 (31061, atStm Tryz.prog 84 2, s280)) := by kernel_rfl
end Mw
