/- A part of the run of the row: states, facts that the kernel runs, or their chain. -/
import Derived.Test.YtehopimmbgoaaaaGreatDoord1
import Derived.KernelRfl
set_option linter.unusedSimpArgs false
set_option maxRecDepth 1000000
set_option maxHeartbeats 0
set_option linter.unusedVariables false
namespace Mw
open Go Mv Go.Proofs
theorem r55 : stripD ((Cf.run Tryz.prog 1000000 (noCut [] [] [])).1 { size := 40, top := false, fn := 83 } {} ([.code (bodyOf Tryz.prog 83)]) { sl := slotsOf [(vP 6756), (.ref 8586)] 0 .nil, hp := (mkH l52 l53), df := [], cm := none } 8589 (lastK Tryz.prog (Cf.run Tryz.prog 1000000 (noCut [] [] [])).2 83 [6728, 6729, 6730, 6731, 6732, 6756, 8586] [0, 1, 2])) 8589 = some (List.replicate 1 (8591, vF, h54)) := by kernel_rfl
theorem r62 : strip ((Cf.run Tryz.prog 1000000 { call := false, at_ := 2, nk := 8597, keep := [0, 1] ++ kR 4 5 ++ kR 10 13 ++ [24], keepB := [8408], keepRo := [0, 1, 2], sums := [], msgs := [], ws := [] }).1 { size := 25, top := true, fn := 84 } {} ([.code (bodyOf Tryz.prog 84)]) { sl := slotsOf [(.ref 8408), (vI 1)] 0 .nil, hp := (mkH l58 l59), df := [], cm := none } 8596 (fun _ _ _ _ => .bad)) 8596 = some (List.replicate 1 (8597, atStm Tryz.prog 84 2, s61)) := by kernel_rfl
theorem r64 : stripD ((Cf.run Tryz.prog 1000000 (noCut [] [] [])).1 { size := 25, top := false, fn := 84 } {} (atStm Tryz.prog 84 2) s61 8597 (lastK Tryz.prog (Cf.run Tryz.prog 1000000 (noCut [] [] [])).2 84 [8408] [0, 1, 2])) 8597 = some (List.replicate 1 (8599, (.ref 8596), h63)) := by kernel_rfl
theorem r70 : stripD ((Cf.run Tryz.prog 1000000 (noCut [] [] [])).1 { size := 40, top := false, fn := 83 } {} ([.code (bodyOf Tryz.prog 83)]) { sl := slotsOf [(vP 6756), (.ref 8596)] 0 .nil, hp := (mkH l67 l68), df := [], cm := none } 8599 (lastK Tryz.prog (Cf.run Tryz.prog 1000000 (noCut [] [] [])).2 83 [6728, 6729, 6730, 6731, 6732, 6756, 8596] [0, 1, 2])) 8599 = some (List.replicate 1 (8601, vT, h69)) := by kernel_rfl
theorem r76 : stripD ((Cf.run Tryz.prog 1000000 (noCut [] [] [])).1 { size := 25, top := false, fn := 84 } {} ([.code (bodyOf Tryz.prog 84)]) { sl := slotsOf [(.ref 8596), (vI 2)] 0 .nil, hp := (mkH l73 l74), df := [], cm := none } 8601 (lastK Tryz.prog (Cf.run Tryz.prog 1000000 (noCut [] [] [])).2 84 [8596] [0, 1, 2])) 8601 = some (List.replicate 1 (8604, (.ref 8601), h75)) := by kernel_rfl
end Mw
