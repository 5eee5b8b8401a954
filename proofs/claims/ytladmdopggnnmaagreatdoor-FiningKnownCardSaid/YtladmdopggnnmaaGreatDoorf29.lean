/- A part of the run of the row's end: states, facts that the kernel runs, or their chain. -/
import Derived.Test.YtladmdopggnnmaaGreatDoord
import Derived.KernelRfl
set_option linter.unusedSimpArgs false
set_option maxRecDepth 1000000
set_option maxHeartbeats 0
set_option linter.unusedVariables false
namespace Fk
open Go Mv Mw Go.Proofs Ft
theorem r371 : stripE ((Fa.run Tryz.prog 1000000 (noCut [] [])).1 { size := 40, top := false, fn := 38 } {} ([.code (bodyOf Tryz.prog 38)]) { sl := slotsOf [vZ, (vI 56), (.agg [(.fn (.func 74) [] [])])] 0 .nil, hp := (mkH l368 l369), df := [], cm := none } 35701 (lastK Tryz.prog (Fa.run Tryz.prog 1000000 (noCut [] [])).2 38 [] [0, 1])) 35701 = some (List.replicate 1 (35703, (vP 35702), h370)) := by kernel_rfl
theorem r377 : stripE ((Fa.run Tryz.prog 1000000 (noCut [] [])).1 { size := 40, top := false, fn := 38 } {} ([.code (bodyOf Tryz.prog 38)]) { sl := slotsOf [(vR 35706 1 6), (vI 56), (.agg [(.fn (.func 74) [] [])])] 0 .nil, hp := (mkH l374 l375), df := [], cm := none } 35708 (lastK Tryz.prog (Fa.run Tryz.prog 1000000 (noCut [] [])).2 38 [35706] [0, 1])) 35708 = some (List.replicate 1 (36094, (vP 35709), h376)) := by kernel_rfl
theorem r384 : stripO ((Fa.run Tryz.prog 1000000 { call := true, at_ := 65, nk := 36781, keep := [0, 1] ++ kR 5 35, keepB := [36097], keepRo := [0, 1], sums := [], msgs := [] }).1 { size := 40, top := true, fn := 38 } {} ([.code (bodyOf Tryz.prog 38)]) { sl := slotsOf [(vR 36097 1 6), (vI 56), (.agg [(.fn (.func 74) [] [])])] 0 .nil, hp := (mkH l380 l381), df := [], cm := none } 36099 (fun _ _ _ _ => .bad)) 36099 = some (List.replicate 1 (36781, atOp Tryz.prog 38 12 2, s383)) := by kernel_rfl
theorem r386 : stripE ((Fa.run Tryz.prog 1000000 (noCut [] [])).1 { size := 40, top := false, fn := 38 } {} (atOp Tryz.prog 38 12 2) s383 36781 (lastK Tryz.prog (Fa.run Tryz.prog 1000000 (noCut [] [])).2 38 [36097] [0, 1])) 36781 = some (List.replicate 1 (36869, (vP 36100), h385)) := by kernel_rfl
end Fk
