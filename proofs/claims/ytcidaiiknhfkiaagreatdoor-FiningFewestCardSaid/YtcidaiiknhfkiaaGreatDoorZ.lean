/- FiningFewest answers true for every list of numbers: with the agents of Fewest nothing more is hopeless, and with those of no set that comes before this is so. -/
import Derived.ProofKit
import Derived.Deep.DeepHandedRow
import Derived.ChangeSame
import Derived.ChangeVars
import Derived.JoinedOf
import Derived.RowKit
import Derived.RowKitTokens
import Derived.LaidLaws
import Derived.LaidHandle
import Derived.Lib.LaidU8
import Derived.SevenTiedAt
import Derived.Test.YtcidaiiknhfkiaaGreatDoorc
import Derived.Test.YtcidaiiknhfkiaaGreatDoorm6
import Derived.Test.YtcidaiiknhfkiaaGreatDoorTie
import Derived.Test.YtcidaiiknhfkiaaGreatDoorCards
set_option linter.unusedVariables false
set_option linter.unusedSimpArgs false
set_option linter.unusedVariables false
open Go Mv Mw Go.Proofs
namespace Ft
theorem ok_Fined (mm : Bool) : cFined.Ok Tryz.prog mm Γ0 :=
 sayYes (nk' := 10513) (v := vT) (hp' := Fk.h77) rfl (Fk.c79 mm) rfl rfl (by kernel_rfl)
end Ft

set_option linter.unusedVariables false
set_option linter.unusedSimpArgs false
open Go Mv Mw Go.Proofs
namespace Ft
theorem cf_Row : ∀ ρ, cRow.pre ρ → ∀ b ∈ cRow.fs, b.den ρ = true := by
 simp only [cRow, fM, mel, fT, pA, fA, agsV, cFew, fEq, pEq, roM, roN, roG, allTrue, sd, implies_true, IE.den, nm_, ge0, leN, nv, li, tT, Nat.reduceAdd]
 try (repeat' first | apply And.intro | intro _) <;> omega
theorem of_Row : ∀ o ∈ cRow.outs, ∀ ρ, o.post ρ → ∀ b ∈ o.fs, b.den ρ = true := by
 simp only [cRow, fM, mel, fT, pA, fA, agsV, cFew, fEq, pEq, roM, roN, roG, allTrue, sd, implies_true, IE.den, nm_, ge0, leN, nv, li, tT, Nat.reduceAdd]
 try (repeat' first | apply And.intro | intro _) <;> omega
theorem nf_Row (P : Program) : ∀ nd ∈ ndRow P, ∀ ρ, nd.inv ρ → ∀ b ∈ nd.fs, b.den ρ = true := by
 simp only [ndRow, fM, mel, fT, pA, fA, agsV, cFew, fEq, pEq, roM, roN, roG, allTrue, sd, implies_true, IE.den, nm_, ge0, leN, nv, li, tT, Nat.reduceAdd]
 try (repeat' first | apply And.intro | intro _) <;> omega
def t3h_ : VT := (.new (.new (.new (.asm (asmC (outAt cAgL.outs 3) [.keep 16, .keep 17, .ints [(oN 4), (oN 3)], .ints [(oN 0), (oN 11400714819323198485)], .keep 18, .keep 19, .keep 20]) (.obl (oblC cPass [.keep 16, .keep 17, .ints [(oN 3)], .ints [(h0 82), (hN 82 1)]]) (.new (.new (.asm (asmC (outAt cPass.outs 0) [.keep 16, .keep 17, .ints [(oN 3)], .ints [(h0 82), (hN 82 1)], .keep 21, .keep 22]) (.obl (oblC cFew3 [.keep 19, .lst 84, .ints [(.add (oN 3) (.room 19 5))], .ints [(h0 86)]]) (.both (.asm (asmC (outAt cFew3.outs 0) [.keep 19, .lst 84, .ints [(.add (oN 3) (.room 19 5))], .ints [(h0 86)]]) (.obl (oblC cHop [.keep 19, .lst 84, .ints [(oN 3), (.add (oN 3) (.room 19 5))], .ints [(h0 86)], tabB]) (.both (.asm (asmC (outAt cHop.outs 0) [.keep 19, .lst 84, .ints [(oN 3), (.add (oN 3) (.room 19 5))], .ints [(h0 86)], tabB]) (.bad 9)) (.new (.new (.asm (asmC (outAt cHop.outs 1) [.keep 19, .lst 84, .ints [(oN 3), (.add (oN 3) (.room 19 5))], .ints [(h0 86)], tabB, .keep 23, .keep 24]) (.bad 9))))))) (.new (.new (.asm (asmC (outAt cFew3.outs 1) [.keep 19, .lst 84, .ints [(.add (oN 3) (.room 19 5))], .ints [(h0 86)], .keep 23, .keep 24]) (.obl (oblC cHop [.keep 19, .lst 84, .ints [(oN 3), (.add (oN 3) (.room 19 5))], .ints [(h0 86)], tabB]) (.both (.asm (asmC (outAt cHop.outs 0) [.keep 19, .lst 84, .ints [(oN 3), (.add (oN 3) (.room 19 5))], .ints [(h0 86)], tabB]) (.bad 9)) (.new (.new (.asm (asmC (outAt cHop.outs 1) [.keep 19, .lst 84, .ints [(oN 3), (.add (oN 3) (.room 19 5))], .ints [(h0 86)], tabB, .keep 25, .keep 26]) (.bad 9)))))))))))))))))))
def t4h_ : VT := (.new (.new (.new (.asm (asmC (outAt cAgL.outs 4) [.keep 16, .keep 17, .ints [(oN 4), (oN 3)], .ints [(oN 0), (oN 11400714819323198485)], .keep 18, .keep 19, .keep 20]) (.obl (oblC cPass [.keep 16, .keep 17, .ints [(oN 3)], .ints [(h0 82), (hN 82 1)]]) (.new (.new (.asm (asmC (outAt cPass.outs 0) [.keep 16, .keep 17, .ints [(oN 3)], .ints [(h0 82), (hN 82 1)], .keep 21, .keep 22]) (.obl (oblC cFew4 [.keep 19, .lst 84, .ints [(.add (oN 4) (.room 19 5))], .ints [(h0 86)]]) (.both (.asm (asmC (outAt cFew4.outs 0) [.keep 19, .lst 84, .ints [(.add (oN 4) (.room 19 5))], .ints [(h0 86)]]) (.obl (oblC cHop [.keep 19, .lst 84, .ints [(oN 4), (.add (oN 4) (.room 19 5))], .ints [(h0 86)], tabB]) (.both (.asm (asmC (outAt cHop.outs 0) [.keep 19, .lst 84, .ints [(oN 4), (.add (oN 4) (.room 19 5))], .ints [(h0 86)], tabB]) (.bad 9)) (.new (.new (.asm (asmC (outAt cHop.outs 1) [.keep 19, .lst 84, .ints [(oN 4), (.add (oN 4) (.room 19 5))], .ints [(h0 86)], tabB, .keep 23, .keep 24]) (.bad 9))))))) (.new (.new (.asm (asmC (outAt cFew4.outs 1) [.keep 19, .lst 84, .ints [(.add (oN 4) (.room 19 5))], .ints [(h0 86)], .keep 23, .keep 24]) (.obl (oblC cHop [.keep 19, .lst 84, .ints [(oN 4), (.add (oN 4) (.room 19 5))], .ints [(h0 86)], tabB]) (.both (.asm (asmC (outAt cHop.outs 0) [.keep 19, .lst 84, .ints [(oN 4), (.add (oN 4) (.room 19 5))], .ints [(h0 86)], tabB]) (.bad 9)) (.new (.new (.asm (asmC (outAt cHop.outs 1) [.keep 19, .lst 84, .ints [(oN 4), (.add (oN 4) (.room 19 5))], .ints [(h0 86)], tabB, .keep 25, .keep 26]) (.bad 9)))))))))))))))))))
def eh_Row : VT := (.new (.obl (oblC cAgL [.keep 16, .keep 17, .ints [(oN 4), (oN 3)], .ints [(oN 0), (oN 11400714819323198485)]]) (.both t0_ (.both t1_ (.both t2_ (.both t3h_ t4h_))))))
noncomputable def eT : VT := entryT Tryz.prog (Xg Tryz.prog) consRow cRow (ndRow Tryz.prog)
def p0_ : List Bool := [false, false, true, true, true, false, false, false, false, false, false, false, false, false, false, false, false, false, false, false]
def p1_ : List Bool := [false, false, true, true, true, false, false, false, false, false, false, false, false, false, false, false, false, false, true, false, false, false]
def p2_ : List Bool := [false, false, true, true, true, false, false, false, false, false, false, false, false, false, false, true, false, false, false, false, false, false]
def p3_ : List Bool := [false, false, true, true, true, false, false, false, false, false, false, false, false, false, false, true, false, false, false, false, true, false, false, false]
def p4_ : List Bool := [false, false, true, true, true, true, false, false, false, false, false, false, false, false, false, false, false, false, false, false]
def p5_ : List Bool := [false, false, true, true, true, true, false, false, false, false, false, false, false, false, false, false, false, false, true, false, false, false]
def p6_ : List Bool := [false, false, true, true, true, true, false, false, false, false, false, false, false, false, false, true, false, false, false, false, false, false]
def p7_ : List Bool := [false, false, true, true, true, true, false, false, false, false, false, false, false, false, false, true, false, false, false, false, true, false, false, false]
theorem g0_ : VT.at_ p0_ eT = s300_ := by kernel_rfl
theorem g1_ : VT.at_ p1_ (VT.put (.bad 9) p0_ eT) = s301_ := by kernel_rfl
theorem g2_ : VT.at_ p2_ (VT.put (.bad 9) p1_ (VT.put (.bad 9) p0_ eT)) = s310_ := by kernel_rfl
theorem g3_ : VT.at_ p3_ (VT.put (.bad 9) p2_ (VT.put (.bad 9) p1_ (VT.put (.bad 9) p0_ eT))) = s311_ := by kernel_rfl
theorem g4_ : VT.at_ p4_ (VT.put (.bad 9) p3_ (VT.put (.bad 9) p2_ (VT.put (.bad 9) p1_ (VT.put (.bad 9) p0_ eT)))) = s400_ := by kernel_rfl
theorem g5_ : VT.at_ p5_ (VT.put (.bad 9) p4_ (VT.put (.bad 9) p3_ (VT.put (.bad 9) p2_ (VT.put (.bad 9) p1_ (VT.put (.bad 9) p0_ eT))))) = s401_ := by kernel_rfl
theorem g6_ : VT.at_ p6_ (VT.put (.bad 9) p5_ (VT.put (.bad 9) p4_ (VT.put (.bad 9) p3_ (VT.put (.bad 9) p2_ (VT.put (.bad 9) p1_ (VT.put (.bad 9) p0_ eT)))))) = s410_ := by kernel_rfl
theorem g7_ : VT.at_ p7_ (VT.put (.bad 9) p6_ (VT.put (.bad 9) p5_ (VT.put (.bad 9) p4_ (VT.put (.bad 9) p3_ (VT.put (.bad 9) p2_ (VT.put (.bad 9) p1_ (VT.put (.bad 9) p0_ eT))))))) = s411_ := by kernel_rfl
theorem gh_ : VT.put (.bad 9) p7_ (VT.put (.bad 9) p6_ (VT.put (.bad 9) p5_ (VT.put (.bad 9) p4_ (VT.put (.bad 9) p3_ (VT.put (.bad 9) p2_ (VT.put (.bad 9) p1_ (VT.put (.bad 9) p0_ eT))))))) = eh_Row := by kernel_rfl
theorem gw_ : (VT.put s300_ p0_ (VT.put s301_ p1_ (VT.put s310_ p2_ (VT.put s311_ p3_ (VT.put s400_ p4_ (VT.put s401_ p5_ (VT.put s410_ p6_ (VT.put s411_ p7_ eh_Row)))))))) = e_Row Tryz.prog := by kernel_rfl
theorem gt_ : eT = e_Row Tryz.prog := ((VT.graft p0_ rfl g0_).trans (congrArg (VT.put s300_ p0_) ((VT.graft p1_ rfl g1_).trans (congrArg (VT.put s301_ p1_) ((VT.graft p2_ rfl g2_).trans (congrArg (VT.put s310_ p2_) ((VT.graft p3_ rfl g3_).trans (congrArg (VT.put s311_ p3_) ((VT.graft p4_ rfl g4_).trans (congrArg (VT.put s400_ p4_) ((VT.graft p5_ rfl g5_).trans (congrArg (VT.put s401_ p5_) ((VT.graft p6_ rfl g6_).trans (congrArg (VT.put s410_ p6_) ((VT.graft p7_ rfl g7_).trans (congrArg (VT.put s411_ p7_) (gh_))))))))))))))))).trans gw_
theorem ok_Row (mm : Bool) : cRow.Ok Tryz.prog mm Γ0 :=
 con_by (X := Xg Tryz.prog) (cons := consRow) (nds := ndRow Tryz.prog) (T0 := e_Row Tryz.prog) (hkG_ok _) (fun d hd => by
  rcases List.mem_cons.1 hd with rfl | hd
  ·exact ok_To mm
  rcases List.mem_cons.1 hd with rfl | hd
  ·exact ok_AgL mm
  rcases List.mem_cons.1 hd with rfl | hd
  ·exact ok_Pass mm
  rcases List.mem_cons.1 hd with rfl | hd
  ·exact ok_Few1 mm
  rcases List.mem_cons.1 hd with rfl | hd
  ·exact ok_Few2 mm
  rcases List.mem_cons.1 hd with rfl | hd
  ·exact ok_Few3 mm
  rcases List.mem_cons.1 hd with rfl | hd
  ·exact ok_Few4 mm
  rcases List.mem_cons.1 hd with rfl | hd
  ·exact ok_FewN mm
  rcases List.mem_cons.1 hd with rfl | hd
  ·exact ok_Hop mm
  rcases List.mem_cons.1 hd with rfl | hd
  ·exact ok_HopN mm
  rcases List.mem_cons.1 hd with rfl | hd
  ·exact ok_EqX mm
  rcases List.mem_cons.1 hd with rfl | hd
  ·exact ok_EqL mm
  rcases List.mem_cons.1 hd with rfl | hd
  ·exact ok_Fined mm
  cases hd) (by kernel_rfl) (by kernel_rfl) rfl (by kernel_rfl) cf_Row of_Row (nf_Row _) gt_ (fun ρ hv hΓ hl hp => v_Row Tryz.prog ρ hv hΓ hl hp) trivial
end Ft

set_option maxRecDepth 100000
namespace Go.Proofs.YtcidaiiknhfkiaaGreatDoor
open Go Mv Mw Go.ChangeShapes Go.WideShapes Go.RowKit
theorem own : ownKnob Tryz.prog.godebug = none := by kernel_rfl
theorem gEt : Tryz.prog.globalNamed "errors.errorType" = some 0 := by kernel_rfl
def nameOf : DataW Unit → String
 | .iface n _ => n
 | _ => "none"
theorem gRt : (Tryz.prog.cutTypes.find? (·.1 == nameOf Rows.laid_errors_errorType)).map (·.2) = some 180 := by kernel_rfl
theorem gOne : ((List.range Tryz.prog.types.size).filter fun t => Tryz.prog.rowNamed t [101, 114, 114, 111, 114]) = [79] := by kernel_rfl
abbrev n64 : String := Rows.finingFewestRow.named.headD "none"
abbrev laid_ : List (String × DataW Unit) := [(n64, Rows.laid_math_bits_deBruijn64tab), ("errors.errorType", Rows.laid_errors_errorType)]
abbrev tabs_ : List (String × DataW Unit) := [(n64, Rows.laid_math_bits_deBruijn64tab)]
abbrev hand_ : List (String × DataW Unit) := [("errors.errorType", Rows.laid_errors_errorType)]
theorem laid_parts {W : World} (h : laidMetH Tryz.prog laid_ W) : laidMet Tryz.prog tabs_ W ∧ handlesMet Tryz.prog hand_ W := h
theorem handle_of_laid {W : World} (h : laidMetH Tryz.prog laid_ W) : W.cell? ⟨0, 0, none⟩ = some (.iface 180 (.agg #[.pointer (some ⟨2, 79, none⟩)])) := by
 have h' := laid_parts h
 obtain ⟨name, u, ty, e1, e2, e3, e4, e5⟩ := h'.2 _ (List.mem_singleton.2 rfl)
 have en : name = [101, 114, 114, 111, 114] := (Option.some.inj e1).symm
 subst en
 obtain rfl := Option.some.inj (gRt.symm.trans e2)
 have hm : ty ∈ (List.range Tryz.prog.types.size).filter fun t => Tryz.prog.rowNamed t [101, 114, 114, 111, 114] := List.mem_filter.2 ⟨List.mem_range.2 e3, e4⟩
 rw [gOne] at hm
 obtain rfl := List.mem_singleton.1 hm
 have hh : typeHandle Tryz.prog 79 = .pointer (some ⟨2, 79, none⟩) := by kernel_rfl
 rw [hh] at e5
 simpa using World.var?_cell gEt e5 0
def litsOf : DataW Unit → List Int
 | .agg l => l.map fun | .lit (.int _ z) => z | _ => 0
 | _ => []
theorem t64 : litsOf Rows.laid_math_bits_deBruijn64tab = Ft.tab64 := by kernel_rfl
theorem g64 : Tryz.prog.globalNamed n64 = some 1 := by kernel_rfl
theorem d64 : (Rows.laid_math_bits_deBruijn64tab : DataW Unit) = Lib.tabData .u8 (litsOf Rows.laid_math_bits_deBruijn64tab) := rfl
theorem tab_of_laid {W : World} (h : laidMetH Tryz.prog laid_ W) {n : String} {d : DataW Unit} (hm : (n, d) ∈ tabs_) {g t e k : Nat} {zs : List Int} (hg : Tryz.prog.globalNamed n = some g) (ht : (Tryz.prog.globals[g]?).map (·.type) = some t) (hu : Tryz.prog.underlying t = some (.array k e)) (he : Tryz.prog.underlying e = some (.int .u8))
  (hce : Tryz.prog.cellsOf e = 1) (hct : Tryz.prog.cellsOf t = k) (hd : d = Lib.tabData .u8 zs) : ∃ ty fz, W.heap[g]? = some (.cells (zs.map fun z => Value.int .u8 z).toArray ty fz) := by
 obtain ⟨g', t', cs, fuel, p, h1, h2, h3, h4⟩ := Lib.laidMet.reads (laid_parts h).1 hm
 obtain rfl := Option.some.inj (hg.symm.trans h1)
 obtain rfl := Option.some.inj (ht.symm.trans h2)
 subst hd
 have hcs := Lib.cells_of_tab hu he hce hct h4
 simp only [World.var?, h1, Option.bind_some] at h3
 split at h3
 ·rename_i cs' ty fz hh
  simp only [Option.some.injEq] at h3
  subst h3
  exact ⟨ty, fz, by rw [hh, ← hcs]⟩
 ·cases h3
theorem heap0 {W : World} (hs : W.ShapedOpen Tryz.prog) (hl : laidMetH Tryz.prog laid_ W) : W.heap[0]? = some (.cells #[.iface 180 (.agg #[.pointer (some ⟨2, 79, none⟩)])] 156) := by
 have hc := handle_of_laid hl
 obtain ⟨cs, h1, h2, _⟩ := hs.1 0 #[.nilIface] 156 (of_decide_eq_true (by kernel_rfl)) (by kernel_rfl)
 rw [h1]
 have h3 : cs[0]? = some (.iface 180 (.agg #[.pointer (some ⟨2, 79, none⟩)])) := by
  unfold World.cell? at hc
  rw [h1] at hc
  simpa using hc
 have h4 : cs.size = 1 := h2
 have h5 : cs = #[.iface 180 (.agg #[.pointer (some ⟨2, 79, none⟩)])] := by
  apply Array.ext
  ·simpa using h4
  ·intro i hi1 hi2
   have hi0 : i = 0 := by simpa using hi2
   subst hi0
   obtain ⟨hlt, he⟩ := Array.getElem?_eq_some_iff.1 h3
   simpa using he
 rw [h5]
theorem heap1 {W : World} (hs : W.ShapedOpen Tryz.prog) (h : laidMetH Tryz.prog laid_ W) : W.heap[1]? = some (.cells (Ft.tab64.map fun z => Value.int .u8 z).toArray 199) := by
 obtain ⟨cs, h1, _, _⟩ := hs.1 1 (Array.replicate 64 (.int .u8 0)) 199 (of_decide_eq_true (by kernel_rfl)) (by kernel_rfl)
 obtain ⟨ty, fz, h2⟩ := tab_of_laid h (n := n64) List.mem_cons_self g64 (t := 199) (e := 5) (k := 64) (by kernel_rfl) (by kernel_rfl) (by kernel_rfl) (by kernel_rfl) (by kernel_rfl) d64
 rw [t64] at h2
 rw [h1] at h2
 simp only [Option.some.injEq, Obj.cells.injEq] at h2
 rw [h1, h2.1]
noncomputable def laidWorld (os : Os) : World :=
  let w0 := World.holding Tryz.prog os ⟨#[], #[], []⟩
  { w0 with heap := (w0.heap.modify 0 fun
      | .cells _ t frozen => .cells #[.iface 180 (.agg #[.pointer (some ⟨2, 79, none⟩)])] t frozen
      | o => o).modify 1 fun
      | .cells _ t frozen => .cells (Ft.tab64.map fun z => Value.int .u8 z).toArray t frozen
      | o => o }
theorem laidWorld_met (os : Os) (args : Array Value) : laidMetH Tryz.prog laid_ ((laidWorld os).forCall (fun _ _ => 0) ⟨#[], args, []⟩).memory :=
 laidMetH_of_parts3 (fuel := 8) (laidMet_of_run' 8 (by kernel_rfl) (by kernel_rfl)) (by kernel_rfl) (by kernel_rfl)
end Go.Proofs.YtcidaiiknhfkiaaGreatDoor

set_option maxRecDepth 100000
set_option linter.unusedVariables false
namespace Go.Proofs.YtcidaiiknhfkiaaGreatDoor
open Go Mv Mw Go.ChangeShapes Go.WideShapes Go.RowKit
def envN (isNil : Bool) (off len cap : Nat) (L : List Int) (b : Nat) (x : Obj) : Env := { envR [(off : Int), (len : Int), (cap : Int)] [L] [(b, x)] with b := [isNil] }
theorem envN_vals {isNil : Bool} {off len cap : Nat} {L : List Int} {b : Nat} {x : Obj} : vals (envN isNil off len cap L b x) where
 one i := (envR_vals (is := [(off : Int), (len : Int), (cap : Int)]) (Ls := [L]) (bs := [(b, x)])).one i
 low i hi := (envR_vals (is := [(off : Int), (len : Int), (cap : Int)]) (Ls := [L]) (bs := [(b, x)])).low i hi
theorem envN_on {isNil : Bool} {off len cap : Nat} {L : List Int} {b : Nat} {x : Obj} (h1 : (len : Int) ≤ maxLens) (h2 : (cap : Int) ≤ maxLens) (h3 : L.length = len) : Ft.Γ0.On (envN isNil off len cap L b x) where
 bnd i lo hi h := by
  match i, h with
  | 0, h => simp [Ft.Γ0] at h
  | 1, h =>
   simp only [Ft.Γ0, List.getElem?_cons_succ, List.getElem?_cons_zero, Option.some.injEq, Prod.mk.injEq] at h
   obtain ⟨rfl, rfl⟩ := h
   exact ⟨Int.natCast_nonneg _, h1⟩
  | 2, h =>
   simp only [Ft.Γ0, List.getElem?_cons_succ, List.getElem?_cons_zero, Option.some.injEq, Prod.mk.injEq] at h
   obtain ⟨rfl, rfl⟩ := h
   exact ⟨Int.natCast_nonneg _, h2⟩
  | i + 3, h => simp [Ft.Γ0] at h
 elt i lo hi _ h := by simp [Ft.Γ0] at h
 lens i hi := by
  match i with
  | 0 => show ((L.length : Nat) : Int) ≤ maxLens; omega
  | i + 1 =>
   have : (envN isNil off len cap L b x).list (i + 1) = [] := by
    unfold Env.list
    rw [if_pos hi]
    simp [envN, envR]
   rw [this]; simp [maxLens]
 path c b h := by simp [Ft.Γ0] at h
theorem nums_calls {c : Con} (hc : c.Ok Tryz.prog true Ft.Γ0) (hrw : c.rw = []) (hro : c.ro = Ft.roM) (hargs : c.args = [Ft.sNums]) (hm : c.m = 1) (hpre : ∀ ρ, Ft.rowP ρ → c.pre ρ) (hout : ∀ o ∈ c.outs, o.v = .bool (.lit true))
  {W : World} (hs : W.ShapedOpen Tryz.prog) (hl : laidMetH Tryz.prog laid_ W) {isNil : Bool} {off len cap b : Nat} {L : List Int} {cs : Array Value} {ty : TypeId} {fz : Nat × Nat}
  (h1 : (len : Int) ≤ maxLens) (h2 : (cap : Int) ≤ maxLens) (h3 : L.length = len) (hb : W.heap[b]? = some (.cells cs ty fz)) (hp : patch (.cells cs ty fz) off (L.map (Value.int .i64)) = .cells cs ty fz) :
  Go.Calls Tryz.prog c.f #[if isNil then .slice none 0 0 else .slice (some ⟨b, off, none⟩) len cap] W fun e w' => e = .returned (.bool true) ∧ Below W.heap.size W w' := by
 have hblk : (envN isNil off len cap L b (.cells cs ty fz)).blk 16 = b := envR_blk (is := [(off : Int), (len : Int), (cap : Int)]) (Ls := [L]) (bs := [(b, .cells cs ty fz)]) (vs := []) (j := 0) rfl
 have h0 := heap0 hs hl
 have h0' := heap1 hs hl
 have key := yes_calls (v := .bool (.lit true)) hc hrw hout (W := W) (bs := [0, 1, b]) (ρ := envN isNil off len cap L b (.cells cs ty fz)) envN_vals (envN_on h1 h2 h3) (by rw [hm]; rfl) (hpre _ ⟨by show (len : Int) = ((L.length : Nat) : Int); omega, Int.natCast_nonneg _⟩)
  (by
   intro i hi o ho
   simp only [List.mem_cons, List.not_mem_nil, or_false] at hi
   rcases hi with rfl | rfl | rfl
   ·rw [h0] at ho; cases ho; rfl
   ·rw [h0'] at ho; cases ho; rfl
   ·rw [hb] at ho; cases ho; rfl)
  (by
   rw [hro]
   intro x hx
   simp only [Ft.roM, Ft.roN, Ft.roG, List.cons_append, List.nil_append, List.mem_cons, List.not_mem_nil, or_false] at hx
   rcases hx with rfl | rfl | rfl
   ·refine ⟨show (16 : Nat) < 17 by decide, show lok 17 0 by simp [lok], by simp [hblk], ?_⟩
    show W.heap[(envN isNil off len cap L b (.cells cs ty fz)).blk 16]? = _
    rw [hblk, hb]
    have e : (SO.win .i64 0 0 0).den (envN isNil off len cap L b (.cells cs ty fz)) = .cells cs ty fz := by
     show patch (.cells cs ty fz) ((off : Int)).toNat (L.map (Value.int .i64)) = _
     rw [Int.toNat_natCast]; exact hp
    rw [e]
   ·refine ⟨show (0 : Nat) < 17 by decide, by simp [Ft.oGe, rtOf, SO.ok, SC.ok, SC.oks], by simp [envN, envR, Env.blk, low16], ?_⟩
    show W.heap[0]? = _
    rw [h0]; rfl
   ·refine ⟨show (1 : Nat) < 17 by decide, ?_, by simp [envN, envR, Env.blk, low16], ?_⟩
    ·intro y hy
     obtain ⟨z, _, rfl⟩ := List.mem_map.1 hy; trivial
    ·show W.heap[1]? = _
     rw [h0']
     have e : Ft.oTab.den (envN isNil off len cap L b (.cells cs ty fz)) = .cells (Ft.tab64.map fun z => Value.int .u8 z).toArray 199 := by
      simp only [Ft.oTab, SO.den, List.map_map]; rfl
     rw [e])
 rw [hargs] at key
 have ea : ([Ft.sNums].map (SC.den (envN isNil off len cap L b (.cells cs ty fz)))).toArray = #[if isNil then Value.slice none 0 0 else .slice (some ⟨b, off, none⟩) len cap] := by
  have e1 : Ft.sNums.den (envN isNil off len cap L b (.cells cs ty fz)) = if isNil then Value.slice none 0 0 else .slice (some ⟨b, off, none⟩) len cap := by
   simp only [Ft.sNums, SC.den, hblk]
   cases isNil with
   | true => rfl
   | false => rfl
  simp only [List.map_cons, List.map_nil, e1]
 rw [ea] at key
 exact key
end Go.Proofs.YtcidaiiknhfkiaaGreatDoor

set_option maxRecDepth 100000
set_option linter.unusedVariables false
namespace Go.Proofs.YtcidaiiknhfkiaaGreatDoor
open Go Mv Mw Go.ChangeShapes Go.WideShapes Go.RowKit
theorem len_reach {H : Type} {els rest : List (DataW H)} {ts : List TypeId} {ds : List (DataW H)} (h : (DataW.weightsEach Tryz.prog (22 :: ts) (.slice els rest :: ds)).all (· ≤ reachBytes) = true) : ((els.length + rest.length : Nat) : Int) ≤ maxLens := by
 simp only [DataW.weightsEach, DataW.weights, Tryz.underlying22, List.cons_append, List.all_cons, Bool.and_eq_true, decide_eq_true_eq] at h
 have h1 := h.1
 have hb : Tryz.prog.bytesOf 3 = 8 := by kernel_rfl
 have hr : reachBytes = 140737488351232 := rfl
 rw [hb, hr] at h1
 simp only [maxLens]
 omega
theorem contract (H : Type) (enc : TypeId × Value → H) (W : World) (base : Nat) (args : Array Value) (ds gs : List (DataW H)) (before : List MemPlace)
  (hval : ∀ (j : Nat) t v, Tryz.f6.params[j]? = some t → args[j]? = some v → Value.okWide Tryz.prog W .any base t v)
  (hW : DataW.Whole enc Tryz.prog Tryz.f6.params.toList Rows.finingFewestSpec.vars false W args.toList ds gs before)
  (hsz : (DataW.weightsEach Tryz.prog (Tryz.f6.params.toList ++ (OpenSpec.ofChange Rows.finingFewestSpec).bare.plain.varTypes Tryz.prog) (ds ++ gs)).all (· ≤ reachBytes) = true)
  (hL : laidMetH Tryz.prog Rows.finingFewestRow.laid W) (hs : W.ShapedOpen Tryz.prog) :
  Calls Tryz.prog 6 args W fun e W' => ∃ v, e = .returned v ∧ Rows.finingFewestSpec.post enc Tryz.prog Tryz.f6 false true false false W args v W' := by
 have hW' := hW
 obtain ⟨p, q, hA0, hV, rfl, hfz, hnd⟩ := hW
 have hA : DataW.TrodAll enc Tryz.prog W 0 (fun _ => true) true Tryz.f6.params.toList args.toList ds p := hA0
 rw [Tryz.params6] at hA hval
 obtain ⟨v0, vs0, d0, ds0, p0, q0, hargs, rfl, rfl, hx, r0⟩ := trodAll_cons hA
 obtain ⟨rfl, rfl, rfl⟩ := trodAll_nil r0
 obtain rfl : args = #[v0] := by cases args; simp_all
 obtain ⟨rfl, rfl⟩ := trodVars_none hV
 have walk : Calls Tryz.prog 6 #[v0] W fun e w' => e = .returned (.bool true) ∧ Below W.heap.size W w' := by
  rcases ints_of (e := 3) Tryz.underlying22 Tryz.underlying3 (by kernel_rfl) (hval 0 22 v0 rfl rfl) hx with rfl | ⟨b, off, len, cap, cs, ty, fz, L, rest, els, rfl, h1, h2, h3, h4, rfl, h5⟩
  ·have h0 := heap0 hs hL
   exact nums_calls (Ft.ok_Row true) rfl rfl rfl rfl (fun _ h => h) (by intro o ho; rw [List.mem_singleton.1 ho]; rfl) hs hL (isNil := true) (off := 0) (len := 0) (cap := 0) (L := []) (by decide) (by decide) rfl h0 (patch_same (Nat.zero_le _) (by intro i hi; cases hi))
  ·have hcap := len_reach hsz
   rw [h5] at hcap
   exact nums_calls (Ft.ok_Row true) rfl rfl rfl rfl (fun _ h => h) (by intro o ho; rw [List.mem_singleton.1 ho]; rfl) hs hL (isNil := false) (off := off) (len := len) (cap := cap) (L := L) (by omega) hcap h2 h3 h4
 refine walk.mono fun e W' ⟨he, hg⟩ => ?_
 subst he
 exact ⟨_, rfl, _, _, _, [], p0 ++ [], [], hW', trodAll_mk1 (shut_bool Tryz.underlying4 true),
  trodAll_stays (by kernel_rfl) hg (by intro t ht; rw [Tryz.params6] at ht; obtain rfl := List.mem_singleton.1 ht; exact ⟨by kernel_rfl, of_decide_eq_true (by kernel_rfl)⟩) hA0 (fun x hx => hW'.lt x (List.mem_append_left _ hx)) (fun x hx => decide_eq_true (hW'.lt x (List.mem_append_left _ hx))),
  rfl, hg.frame _, fun h => by cases h⟩
theorem reads (os : Os) {H : Type} (enc : TypeId × Value → H) : ∃ places, DataW.whole enc Tryz.prog ((laidWorld os).forCall (fun _ _ => 0) ⟨#[], #[.slice none 0 0], []⟩).memory Tryz.f6.params.toList Rows.finingFewestSpec.vars false #[Value.slice none 0 0].toList 8 = some ([.nil], [], places) :=
 ⟨[], by kernel_rfl⟩
theorem lifted (os : Os) (started : os.Started) (H : Type) (enc : TypeId × Value → H) (F : Stop.Interp) :
  ReturnsInHanded {} Tryz.checked os 6 .any ((OpenSpec.ofChange Rows.finingFewestSpec).preRow enc Tryz.prog Tryz.f6 Rows.finingFewestRow.domain false Rows.finingFewestRow.laid) (((OpenSpec.ofChange Rows.finingFewestSpec).at F).post enc Tryz.prog Tryz.f6 false true false false) := by
 obtain ⟨places, hx⟩ := reads os enc
 refine returnsInHanded_of_row (C := Tryz.checked) (s := OpenSpec.ofChange Rows.finingFewestSpec) own started (by kernel_rfl) Tryz.func6
  (witness_row_at (enc := enc) (C := Tryz.checked) false (laidWorld os) #[.slice none 0 0] rfl (by kernel_rfl) (by kernel_rfl) (by kernel_rfl)
   (OpenSpec.preRow_of_cond 8 hx (by kernel_rfl) (fun k hk => by cases hk) (by kernel_rfl) (laidWorld_met os _))) ?_
 intro W base args ds gs before hval hW _ _ hsz hL hs _
 exact contract H enc W base args ds gs before hval hW hsz hL hs
theorem said : Rows.FiningFewestSaid :=
 OpenClaim.holds_of_cond 6 Tryz.f6 rfl rfl rfl rfl rfl rfl rfl ⟨rfl, rfl, rfl, rfl, rfl⟩ rfl rfl rfl rfl rfl (by kernel_rfl) Tryz.func6 (by kernel_rfl)
  (of_decide_eq_true (by kernel_rfl)) (by unfold Func.isWrapper; first | (rw [if_pos (by decide +kernel)]; kernel_rfl) | (rw [if_neg (by decide +kernel)]; exact ⟨rfl, rfl⟩))
  (fun os started H enc _ F => by rw [OpenClaim.pre_eq_preRow]; exact lifted os started H enc F)
theorem plain (f : FuncId) (fn : Func) (hf : Tryz.pinned.checked.prog.funcNamed Rows.finingFewestRow.func = some f) (hfn : Tryz.pinned.checked.prog.funcs[f]? = some fn) :
  true = Tryz.pinned.checked.prog.looks [] ∧ ∀ (j : Nat) t, fn.params[j]? = some t → Tryz.pinned.checked.prog.wantsStandIn t = false := by
 obtain rfl : f = 6 := Option.some.inj ((show Tryz.prog.funcNamed Rows.finingFewestRow.func = some 6 by kernel_rfl).symm.trans hf) |>.symm
 obtain rfl : fn = Tryz.f6 := (Option.some.inj (Tryz.func6.symm.trans hfn)).symm
 refine ⟨by kernel_rfl, fun j t ht => ?_⟩
 rw [Tryz.params6] at ht
 obtain rfl : t = 22 := by simpa using Array.mem_of_getElem? ht
 exact (show Tryz.prog.wantsStandIn 22 = false by kernel_rfl)
theorem fining_fewest : Rows.FiningFewestCardSaid :=
 Claim7.holds_tied_plain_at .later [] _ _ _ _ said (fun _ h => by cases h) (by kernel_rfl) (fun _ h => by cases h) finingFewest_row_tie rfl ⟨rfl, rfl⟩ (by kernel_rfl) rfl plain (by kernel_rfl)
end Go.Proofs.YtcidaiiknhfkiaaGreatDoor

