/- A part of the run of the row's end: states, facts that the kernel runs, or their chain. -/
import Derived.Test.YtladmdopggnnmaaGreatDoord
import Derived.KernelRfl
set_option linter.unusedSimpArgs false
set_option maxRecDepth 1000000
set_option maxHeartbeats 0
set_option linter.unusedVariables false
namespace Fk
open Go Mv Mw Go.Proofs Ft
theorem r3 : stripO ((Fa.run Tryz.prog 1000000 { call := true, at_ := 5, nk := 19, keep := kR 0 10 ++ [11, 13] ++ kR 15 6 ++ kR 36 126 ++ kR 163 216 ++ [380, 381, 382, 383] ++ kR 385 9 ++ kR 395 20, keepB := [], keepRo := [0, 1], sums := [], msgs := [] }).1 { size := 415, top := true, fn := 3 } {} ([.code (bodyOf Tryz.prog 3)]) { sl := slotsOf [] 0 .nil, hp := h0, df := [], cm := none } 16 (fun _ _ _ _ => .bad)) 16 = some (List.replicate 1 (19, atOp Tryz.prog 3 3 0, s2)) := by kernel_rfl
theorem r8 : stripO ((Fa.run Tryz.prog 1000000 { call := true, at_ := 65, nk := 1213, keep := [0, 1] ++ kR 5 35, keepB := [347], keepRo := [0, 1], sums := [], msgs := [] }).1 { size := 40, top := true, fn := 38 } {} ([.code (bodyOf Tryz.prog 38)]) { sl := slotsOf [(vR 347 4 6), (vI 0), (.agg [(.fn (.func 66) [] [])])] 0 .nil, hp := (mkH l4 l5), df := [], cm := none } 349 (fun _ _ _ _ => .bad)) 349 = some (List.replicate 1 (1213, atOp Tryz.prog 38 12 2, s7)) := by kernel_rfl
theorem r11 : stripO ((Fa.run Tryz.prog 1000000 { call := true, at_ := 65, nk := 2158, keep := [0, 1] ++ kR 5 35, keepB := [347], keepRo := [0, 1], sums := [], msgs := [] }).1 { size := 40, top := true, fn := 38 } {} (atOp Tryz.prog 38 12 2) s7 1213 (fun _ _ _ _ => .bad)) 1213 = some (List.replicate 1 (2158, atOp Tryz.prog 38 12 2, s10)) := by kernel_rfl
end Fk
