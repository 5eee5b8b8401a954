/- A part of the run of the row's end: states, facts that the kernel runs, or their chain. -/
import Derived.Test.YtladmdopggnnmaaGreatDoord
import Derived.KernelRfl
set_option linter.unusedSimpArgs false
set_option maxRecDepth 1000000
set_option maxHeartbeats 0
set_option linter.unusedVariables false
namespace Fk
open Go Mv Mw Go.Proofs Ft
theorem r348 : stripO ((Fa.run Tryz.prog 1000000 { call := true, at_ := 65, nk := 31134, keep := [0, 1] ++ kR 5 35, keepB := [30312], keepRo := [0, 1], sums := [], msgs := [] }).1 { size := 40, top := true, fn := 38 } {} ([.code (bodyOf Tryz.prog 38)]) { sl := slotsOf [(vR 30312 4 6), (vI 56), (.agg [(.fn (.func 74) [] [])])] 0 .nil, hp := (mkH l344 l345), df := [], cm := none } 30316 (fun _ _ _ _ => .bad)) 30316 = some (List.replicate 1 (31134, atOp Tryz.prog 38 12 2, s347)) := by kernel_rfl
theorem r351 : stripO ((Fa.run Tryz.prog 1000000 { call := true, at_ := 65, nk := 32081, keep := [0, 1] ++ kR 5 35, keepB := [30312], keepRo := [0, 1], sums := [], msgs := [] }).1 { size := 40, top := true, fn := 38 } {} (atOp Tryz.prog 38 12 2) s347 31134 (fun _ _ _ _ => .bad)) 31134 = some (List.replicate 1 (32081, atOp Tryz.prog 38 12 2, s350)) := by kernel_rfl
end Fk
