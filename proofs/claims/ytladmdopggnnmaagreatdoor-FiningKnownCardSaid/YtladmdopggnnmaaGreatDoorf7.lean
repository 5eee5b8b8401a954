/- A part of the run of the row's end: states, facts that the kernel runs, or their chain. -/
import Derived.Test.YtladmdopggnnmaaGreatDoord
import Derived.KernelRfl
set_option linter.unusedSimpArgs false
set_option maxRecDepth 1000000
set_option maxHeartbeats 0
set_option linter.unusedVariables false
namespace Fk
open Go Mv Mw Go.Proofs Ft
theorem r53 : stripO ((Fa.run Tryz.prog 1000000 { call := true, at_ := 65, nk := 1213, keep := [0, 1] ++ kR 5 35, keepB := [347], keepRo := [0, 1], sums := [], msgs := [] }).1 { size := 40, top := true, fn := 38 } {} ([.code (bodyOf Tryz.prog 38)]) { sl := slotsOf [(vR 347 4 6), (vI 0), (.agg [(.fn (.func 66) [] [])])] 0 .nil, hp := (mkH l49 l50), df := [], cm := none } 349 (fun _ _ _ _ => .bad)) 349 = some (List.replicate 1 (1213, atOp Tryz.prog 38 12 2, s52)) := by kernel_rfl
theorem r56 : stripO ((Fa.run Tryz.prog 1000000 { call := true, at_ := 65, nk := 2158, keep := [0, 1] ++ kR 5 35, keepB := [347], keepRo := [0, 1], sums := [], msgs := [] }).1 { size := 40, top := true, fn := 38 } {} (atOp Tryz.prog 38 12 2) s52 1213 (fun _ _ _ _ => .bad)) 1213 = some (List.replicate 1 (2158, atOp Tryz.prog 38 12 2, s55)) := by kernel_rfl
end Fk
