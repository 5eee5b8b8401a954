/- A part of the run of the row's end: states, facts that the kernel runs, or their chain. -/
import Derived.Test.YtladmdopggnnmaaGreatDoord
import Derived.KernelRfl
set_option linter.unusedSimpArgs false
set_option maxRecDepth 1000000
set_option maxHeartbeats 0
set_option linter.unusedVariables false
namespace Fk
open Go Mv Mw Go.Proofs Ft
theorem r490 : stripO ((Fa.run Tryz.prog 1000000 { call := true, at_ := 20, nk := 52815, keep := [0, 4, 5, 7, 9, 11, 391, 392, 393] ++ kR 395 20, keepB := [], keepRo := [0, 1], sums := [q487, q466, q457, q448, q439, q427, q418, q403, q394, q388, q379, q373, q367], msgs := [] }).1 { size := 415, top := true, fn := 3 } {} (atOp Tryz.prog 3 32 1) s342 30282 (fun _ _ _ _ => .bad)) 30282 = some (List.replicate 1 (52815, atOp Tryz.prog 3 43 1, s489)) := by kernel_rfl
theorem r492 : stripE ((Fa.run Tryz.prog 1000000 (noCut [] [])).1 { size := 415, top := false, fn := 3 } {} (atOp Tryz.prog 3 43 1) s489 52815 (lastK Tryz.prog (Fa.run Tryz.prog 1000000 (noCut [] [])).2 3 [] [0, 1])) 52815 = some (List.replicate 1 (53250, vT, h491)) := by kernel_rfl
end Fk
