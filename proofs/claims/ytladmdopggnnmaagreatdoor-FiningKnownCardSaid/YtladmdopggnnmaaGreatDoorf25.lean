/- A part of the run of the row's end: states, facts that the kernel runs, or their chain. -/
import Derived.Test.YtladmdopggnnmaaGreatDoord
import Derived.KernelRfl
set_option linter.unusedSimpArgs false
set_option maxRecDepth 1000000
set_option maxHeartbeats 0
set_option linter.unusedVariables false
namespace Fk
open Go Mv Mw Go.Proofs Ft
theorem r327 : stripO ((Fa.run Tryz.prog 1000000 { call := true, at_ := 65, nk := 29803, keep := [0, 1] ++ kR 5 35, keepB := [25817], keepRo := [0, 1], sums := [], msgs := [] }).1 { size := 40, top := true, fn := 38 } {} (atOp Tryz.prog 38 12 2) s323 28986 (fun _ _ _ _ => .bad)) 28986 = some (List.replicate 1 (29803, atOp Tryz.prog 38 12 2, s326)) := by kernel_rfl
theorem r329 : stripE ((Fa.run Tryz.prog 1000000 (noCut [] [])).1 { size := 40, top := false, fn := 38 } {} (atOp Tryz.prog 38 12 2) s326 29803 (lastK Tryz.prog (Fa.run Tryz.prog 1000000 (noCut [] [])).2 38 [25817] [0, 1])) 29803 = some (List.replicate 1 (30205, (vP 25820), h328)) := by kernel_rfl
theorem r334 : stripO ((Fa.run Tryz.prog 1000000 { call := true, at_ := 17, nk := 30208, keep := [0] ++ kR 4 6 ++ [11, 16, 20] ++ kR 319 60 ++ [380, 381, 382, 383] ++ kR 385 9 ++ kR 395 20, keepB := [], keepRo := [0, 1], sums := [q331], msgs := [] }).1 { size := 415, top := true, fn := 3 } {} (atOp Tryz.prog 3 30 1) s309 25787 (fun _ _ _ _ => .bad)) 25787 = some (List.replicate 1 (30208, atOp Tryz.prog 3 31 0, s333)) := by kernel_rfl
theorem r338 : stripE ((Fa.run Tryz.prog 1000000 (noCut [] [])).1 { size := 40, top := false, fn := 38 } {} ([.code (bodyOf Tryz.prog 38)]) { sl := slotsOf [vZ, (vI 62), (.agg [(.fn (.func 74) [] [])])] 0 .nil, hp := (mkH l335 l336), df := [], cm := none } 30212 (lastK Tryz.prog (Fa.run Tryz.prog 1000000 (noCut [] [])).2 38 [] [0, 1])) 30212 = some (List.replicate 1 (30214, (vP 30213), h337)) := by kernel_rfl
theorem r343 : stripO ((Fa.run Tryz.prog 1000000 { call := true, at_ := 18, nk := 30282, keep := [0] ++ kR 4 6 ++ [11, 16, 20] ++ kR 323 56 ++ [380, 381, 382, 383] ++ kR 385 9 ++ kR 395 20, keepB := [], keepRo := [0, 1], sums := [q340], msgs := [] }).1 { size := 415, top := true, fn := 3 } {} (atOp Tryz.prog 3 31 0) s333 30208 (fun _ _ _ _ => .bad)) 30208 = some (List.replicate 1 (30282, atOp Tryz.prog 3 32 1, s342)) := by kernel_rfl
end Fk
