/- A part of the run of the row's end: states, facts that the kernel runs, or their chain. -/
import Derived.Test.YtcidaiiknhfkiaaGreatDoord
import Derived.KernelRfl
set_option linter.unusedSimpArgs false
set_option maxRecDepth 1000000
set_option maxHeartbeats 0
set_option linter.unusedVariables false
namespace Fk
open Go Mv Mw Go.Proofs Ft
theorem r3 : stripO ((Fa.run Tryz.prog 1000000 { call := true, at_ := 42, nk := 314, keep := kR 0 15 ++ kR 26 82, keepB := [], keepRo := [0, 1], sums := [], msgs := [] }).1 { size := 108, top := true, fn := 19 } {} ([.code (bodyOf Tryz.prog 19)]) { sl := slotsOf [] 0 .nil, hp := h0, df := [], cm := none } 16 (fun _ _ _ _ => .bad)) 16 = some (List.replicate 1 (314, atOp Tryz.prog 19 3 1, s2)) := by kernel_rfl
theorem r6 : stripO ((Fa.run Tryz.prog 1000000 { call := true, at_ := 82, nk := 346, keep := [1, 6, 7, 8] ++ kR 23 9, keepB := [62, 239], keepRo := [0, 1], sums := [], msgs := [] }).1 { size := 32, top := true, fn := 42 } {} ([.code (bodyOf Tryz.prog 42)]) { sl := slotsOf [(vL 313 4 4), (vI 7), (vI 0)] 0 .nil, hp := (s2).hp, df := [], cm := none } 314 (fun _ _ _ _ => .bad)) 314 = some (List.replicate 1 (346, atOp Tryz.prog 42 4 3, s5)) := by kernel_rfl
end Fk
