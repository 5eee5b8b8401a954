/- A part of the run of the row's end: states, facts that the kernel runs, or their chain. -/
import Derived.Test.YtcidaiiknhfkiaaDoord
import Derived.KernelRfl
set_option linter.unusedSimpArgs false
set_option maxRecDepth 1000000
set_option maxHeartbeats 0
set_option linter.unusedVariables false
namespace Fk
open Go Mv Mw Go.Proofs Ft
theorem r3 : stripO ((Fa.run Tryd.prog 1000000 { call := true, at_ := 10, nk := 314, keep := kR 0 15 ++ kR 26 82, keepB := [], keepRo := [0, 1], sums := [], msgs := [] }).1 { size := 108, top := true, fn := 13 } {} ([.code (bodyOf Tryd.prog 13)]) { sl := slotsOf [] 0 .nil, hp := h0, df := [], cm := none } 16 (fun _ _ _ _ => .bad)) 16 = some (List.replicate 1 (314, atOp Tryd.prog 13 3 1, s2)) := by kernel_rfl
theorem r6 : stripO ((Fa.run Tryd.prog 1000000 { call := true, at_ := 24, nk := 346, keep := [1, 6, 7, 8] ++ kR 23 9, keepB := [62, 239], keepRo := [0, 1], sums := [], msgs := [] }).1 { size := 32, top := true, fn := 10 } {} ([.code (bodyOf Tryd.prog 10)]) { sl := slotsOf [(vL 313 4 4), (vI 7), (vI 0)] 0 .nil, hp := (s2).hp, df := [], cm := none } 314 (fun _ _ _ _ => .bad)) 314 = some (List.replicate 1 (346, atOp Tryd.prog 10 4 3, s5)) := by kernel_rfl
end Fk
