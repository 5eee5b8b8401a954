/- A part of the run of the row's end: states, facts that the kernel runs, or their chain. -/
import Derived.Test.YtcidaiiknhfkiaaGreatDoord
import Derived.KernelRfl
set_option linter.unusedSimpArgs false
set_option maxRecDepth 1000000
set_option maxHeartbeats 0
set_option linter.unusedVariables false
namespace Fk
open Go Mv Mw Go.Proofs Ft
theorem r47 : stripO ((Fa.run Tryz.prog 1000000 { call := true, at_ := 114, nk := 6361, keep := [0, 1] ++ kR 5 35, keepB := [62, 239, 4875], keepRo := [0, 1], sums := [], msgs := [] }).1 { size := 40, top := true, fn := 82 } {} (atOp Tryz.prog 82 12 2) s43 5567 (fun _ _ _ _ => .bad)) 5567 = some (List.replicate 1 (6361, atOp Tryz.prog 82 12 2, s46)) := by kernel_rfl
end Fk
