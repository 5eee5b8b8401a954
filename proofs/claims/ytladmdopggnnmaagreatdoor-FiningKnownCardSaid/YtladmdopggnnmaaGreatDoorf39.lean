/- A part of the run of the row's end: states, facts that the kernel runs, or their chain. -/
import Derived.Test.YtladmdopggnnmaaGreatDoord
import Derived.KernelRfl
set_option linter.unusedSimpArgs false
set_option maxRecDepth 1000000
set_option maxHeartbeats 0
set_option linter.unusedVariables false
namespace Fk
open Go Mv Mw Go.Proofs Ft
theorem r480 : stripO ((Fa.run Tryz.prog 1000000 { call := true, at_ := 65, nk := 51737, keep := [0, 1] ++ kR 5 35, keepB := [48376], keepRo := [0, 1], sums := [], msgs := [] }).1 { size := 40, top := true, fn := 38 } {} (atOp Tryz.prog 38 12 2) s476 50873 (fun _ _ _ _ => .bad)) 50873 = some (List.replicate 1 (51737, atOp Tryz.prog 38 12 2, s479)) := by kernel_rfl
theorem r483 : stripO ((Fa.run Tryz.prog 1000000 { call := true, at_ := 65, nk := 52599, keep := [0, 1] ++ kR 5 35, keepB := [48376], keepRo := [0, 1], sums := [], msgs := [] }).1 { size := 40, top := true, fn := 38 } {} (atOp Tryz.prog 38 12 2) s479 51737 (fun _ _ _ _ => .bad)) 51737 = some (List.replicate 1 (52599, atOp Tryz.prog 38 12 2, s482)) := by kernel_rfl
theorem r485 : stripE ((Fa.run Tryz.prog 1000000 (noCut [] [])).1 { size := 40, top := false, fn := 38 } {} (atOp Tryz.prog 38 12 2) s482 52599 (lastK Tryz.prog (Fa.run Tryz.prog 1000000 (noCut [] [])).2 38 [48376] [0, 1])) 52599 = some (List.replicate 1 (52628, (vP 48379), h484)) := by kernel_rfl
end Fk
