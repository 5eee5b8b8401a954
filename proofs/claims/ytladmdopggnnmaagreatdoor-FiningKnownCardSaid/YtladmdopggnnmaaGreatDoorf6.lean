/- A part of the run of the row's end: states, facts that the kernel runs, or their chain. -/
import Derived.Test.YtladmdopggnnmaaGreatDoord
import Derived.KernelRfl
set_option linter.unusedSimpArgs false
set_option maxRecDepth 1000000
set_option maxHeartbeats 0
set_option linter.unusedVariables false
namespace Fk
open Go Mv Mw Go.Proofs Ft
theorem r41 : stripO ((Fa.run Tryz.prog 1000000 { call := true, at_ := 65, nk := 10258, keep := [0, 1] ++ kR 5 35, keepB := [4912], keepRo := [0, 1], sums := [], msgs := [] }).1 { size := 40, top := true, fn := 38 } {} (atOp Tryz.prog 38 12 2) s37 9364 (fun _ _ _ _ => .bad)) 9364 = some (List.replicate 1 (10258, atOp Tryz.prog 38 12 2, s40)) := by kernel_rfl
theorem r43 : stripE ((Fa.run Tryz.prog 1000000 (noCut [] [])).1 { size := 40, top := false, fn := 38 } {} (atOp Tryz.prog 38 12 2) s40 10258 (lastK Tryz.prog (Fa.run Tryz.prog 1000000 (noCut [] [])).2 38 [4912] [0, 1])) 10258 = some (List.replicate 1 (10292, (vP 4915), h42)) := by kernel_rfl
theorem r48 : stripO ((Fa.run Tryz.prog 1000000 { call := true, at_ := 14, nk := 317, keep := kR 0 15 ++ kR 26 82, keepB := [16, 17, 18], keepRo := [0, 1], sums := [], msgs := [] }).1 { size := 108, top := true, fn := 5 } {} ([.code (bodyOf Tryz.prog 5)]) { sl := slotsOf [] 0 .nil, hp := (s2).hp, df := [], cm := none } 19 (fun _ _ _ _ => .bad)) 19 = some (List.replicate 1 (317, atOp Tryz.prog 5 3 1, s47)) := by kernel_rfl
end Fk
