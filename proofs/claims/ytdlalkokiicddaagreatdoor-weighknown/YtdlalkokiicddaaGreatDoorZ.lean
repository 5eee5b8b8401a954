/- WeighKnown answers true in whatever world it is called, and the world reads as it did, on every schedule; the variable errors.errorType starts as the text lays it. -/
import Derived.Test.YtdlalkokiicddaaGreatDoorc
import Derived.Test.YtdlalkokiicddaaGreatDoorTie
import Derived.Test.YtdlalkokiicddaaGreatDoorCards
import Derived.Conc.LeavingOf
import Derived.ChangeSame
import Derived.ChangeVars
import Derived.JoinedOf
import Derived.RowKit
import Derived.RowKitTokens
import Derived.LaidLaws
import Derived.LaidHandle
import Derived.Below
import Derived.SevenTiedAt
set_option maxRecDepth 100000
namespace Go.Proofs.YtdlalkokiicddaaGreatDoor
open Go Mv Go.ChangeShapes Go.WideShapes Go.RowKit

theorem own : ownKnob Tryz.prog.godebug = none := by kernel_rfl
theorem gEt : Tryz.prog.globalNamed "errors.errorType" = some 0 := by kernel_rfl
def nameOf : DataW Unit → String
  | .iface n _ => n
  | _ => "none"
theorem gRt : (Tryz.prog.cutTypes.find? (·.1 == nameOf Rows.laid_errors_errorType)).map (·.2) = some 196 := by kernel_rfl
theorem gOne : ((List.range Tryz.prog.types.size).filter fun t => Tryz.prog.rowNamed t [101, 114, 114, 111, 114]) = [67] := by kernel_rfl
abbrev laid_ : List (String × DataW Unit) := [("errors.errorType", Rows.laid_errors_errorType)]
theorem handle_of_laid {W : World} (h : laidMetH Tryz.prog laid_ W) : W.cell? ⟨0, 0, none⟩ = some (.iface 196 (.agg #[.pointer (some ⟨1, 67, none⟩)])) := by
  have h' : laidMet Tryz.prog [] W ∧ handlesMet Tryz.prog laid_ W := h
  obtain ⟨name, u, ty, e1, e2, e3, e4, e5⟩ := h'.2 _ (List.mem_singleton.2 rfl)
  have en : name = [101, 114, 114, 111, 114] := (Option.some.inj e1).symm
  subst en
  obtain rfl := Option.some.inj (gRt.symm.trans e2)
  have hm : ty ∈ (List.range Tryz.prog.types.size).filter fun t => Tryz.prog.rowNamed t [101, 114, 114, 111, 114] := List.mem_filter.2 ⟨List.mem_range.2 e3, e4⟩
  rw [gOne] at hm
  obtain rfl := List.mem_singleton.1 hm
  have hh : typeHandle Tryz.prog 67 = .pointer (some ⟨1, 67, none⟩) := by kernel_rfl
  rw [hh] at e5
  simpa using World.var?_cell gEt e5 0
/-- The type of that variable's block. -/
noncomputable def tyG : TypeId := (Mw.h0.ro.look 0).elim 0 fun | .cells _ t => t | _ => 0
theorem heap0 {W : World} (hs : W.ShapedOpen Tryz.prog) (hc : W.cell? ⟨0, 0, none⟩ = some (.iface 196 (.agg #[.pointer (some ⟨1, 67, none⟩)]))) : W.heap[0]? = some (.cells #[.iface 196 (.agg #[.pointer (some ⟨1, 67, none⟩)])] tyG) := by
  obtain ⟨cs, h1, h2, _⟩ := hs.1 0 #[.nilIface] tyG (of_decide_eq_true (by kernel_rfl)) (by kernel_rfl)
  rw [h1]
  have h3 : cs[0]? = some (.iface 196 (.agg #[.pointer (some ⟨1, 67, none⟩)])) := by
    unfold World.cell? at hc
    rw [h1] at hc
    simpa using hc
  have h4 : cs.size = 1 := h2
  have h5 : cs = #[.iface 196 (.agg #[.pointer (some ⟨1, 67, none⟩)])] := by
    apply Array.ext
    · simpa using h4
    · intro i hi1 hi2
      have hi0 : i = 0 := by simpa using hi2
      subst hi0
      obtain ⟨hlt, he⟩ := Array.getElem?_eq_some_iff.1 h3
      simpa using he
  rw [h5]
/-- What the call takes with it: that variable's block, to be read. -/
noncomputable def own0 : Own := { full := fun _ => none, ro := fun b => if b = 0 then some (.cells #[.iface 196 (.agg #[.pointer (some ⟨1, 67, none⟩)])] tyG) else none }
theorem own0_in {W : World} (h : W.heap[0]? = some (.cells #[.iface 196 (.agg #[.pointer (some ⟨1, 67, none⟩)])] tyG)) : own0.In W where
  full := fun b o hb => by cases hb
  ro := fun b o hb => by
    unfold own0 at hb
    simp only at hb
    split at hb
    · rename_i e; subst e; rw [← hb]; exact h
    · cases hb
  disj := fun b hb => by cases hb
theorem own0_sat : Mw.Sat Mw.env0 Mw.h0 own0 own0 where
  has := fun i o hi => by
    have : Mw.h0.rw.look i = none := Mw.Tr.nil_look i
    rw [this] at hi; cases hi
  hro := fun i o hi => by
    have h0 : Mw.h0.ro = (Mw.Tr.nil.set 0 (.cells [.iface 196 (.agg [.lit (.pointer (some ⟨1, 67, none⟩))])] tyG)) := by kernel_rfl
    rw [h0] at hi
    rcases Mw.Tr.look_set hi with ⟨rfl, rfl⟩ | ⟨_, hi⟩
    · exact ⟨by decide, by simp [Mw.SO.ok, Mw.SC.ok, Mw.SC.oks], by kernel_rfl⟩
    · rw [Mw.Tr.nil_look] at hi; cases hi
  inj := fun i j o o' hi => by
    have : Mw.h0.rw.look i = none := Mw.Tr.nil_look i
    rw [this] at hi; cases hi
  frm := fun _ _ h => h
  apart := fun _ _ _ => rfl
  ro := fun _ _ h => h
  gh := rfl
  dis := fun b hb => by cases hb
  ghok := trivial
  lent := fun i hi => by cases hi
  linj := fun i hi => by cases hi
  rinj := fun i hi => by cases hi
  lnd := List.nodup_nil
/-- The run that is asked for. -/
def Ran : Prop := ∀ (N : Nat) (w0 : Option World), ∃ hp' nk', Mw.CallTo Tryz.prog N w0 3 [] Mw.h0 16 (.bool (.lit true)) hp' nk' ∧ hp'.gh = .none
theorem the_run (hrun : Ran) (W : World) (hs : W.ShapedOpen Tryz.prog) (hl : laidMetH Tryz.prog laid_ W) :
    ∃ M last o w' t', runNT Tryz.prog (M + 1) (Go.Conc.solo (G (Frame.enter Tryz.prog 3 #[] .normal) []) W) #[] = (.ended o w', t') ∧ runN Tryz.prog M (Go.Conc.solo (G (Frame.enter Tryz.prog 3 #[] .normal) []) W) = .next last ∧
      step Tryz.prog last = .ended o w' ∧ Go.Conc.Good Tryz.prog (fun v W' => v = .bool true ∧ FarW W.heap.size W W') last o w' t' := by
  obtain ⟨hp', nk', hc, hgh⟩ := hrun W.heap.size (some W)
  have h1 := hc.done hgh own0_sat (good := fun v => v = .bool true) fun _ => rfl
  refine Calls.runT h1 (by kernel_rfl) (own0_in (heap0 hs (handle_of_laid hl))) rfl (fun b hb => by cases hb) (Nat.le_refl _) (Good := fun v W' => v = .bool true ∧ FarW W.heap.size W W') ?_
  rintro e S' w' ⟨⟨v, rfl, hv⟩, hg, _⟩ hfar
  exact ⟨hg, v, rfl, hv, hfar⟩
theorem runs (hrun : Ran) (H : Type) (enc : TypeId × Value → H) (W : World) (args : Array Value) (ds gs : List (DataW H)) (before : List MemPlace) (hs : W.ShapedOpen Tryz.prog) (hl : laidMetH Tryz.prog laid_ W)
    (hW : DataW.Whole enc Tryz.prog Tryz.f3.params.toList Rows.weighKnownSpec.vars false W args.toList ds gs before) :
    ∃ M last o w' t', runNT Tryz.prog (M + 1) (Go.Conc.solo (G (Frame.enter Tryz.prog 3 args .normal) []) W) #[] = (.ended o w', t') ∧ runN Tryz.prog M (Go.Conc.solo (G (Frame.enter Tryz.prog 3 args .normal) []) W) = .next last ∧
      step Tryz.prog last = .ended o w' ∧ Go.Conc.Good Tryz.prog (fun v W' => Rows.weighKnownSpec.post enc Tryz.prog Tryz.f3 false true false false W args v W') last o w' t' := by
  have hW' := hW
  obtain ⟨p, q, hA, hV, rfl, _, _⟩ := hW
  obtain ⟨rfl, rfl, rfl⟩ := trodAll_none (show DataW.TrodAll enc Tryz.prog W 0 (fun _ => true) true [] args.toList ds p from hA)
  obtain ⟨rfl, rfl⟩ := trodVars_none hV
  obtain ⟨M, last, o, w', t', r1, r2, r3, r4⟩ := the_run hrun W hs hl
  refine ⟨M, last, o, w', t', r1, r2, r3, r4.mono fun v hF => ?_⟩
  obtain ⟨rfl, hfar⟩ := hF
  have hb : Below W.heap.size W w' := ⟨hfar.os, hfar.tape, hfar.output, hfar.size, hfar.heap⟩
  exact ⟨_, _, _, [], [], [], hW', trodAll_mk1 (shut_bool Tryz.underlying4 true), trodAll_mk0, rfl, hb.frame _, fun h => by cases h⟩
/-- A world that meets the condition: the settled one, the variable's cell laid. -/
noncomputable def laidWorld (os : Os) : World :=
  let w0 := World.holding Tryz.prog os ⟨#[], #[], []⟩
  { w0 with heap := w0.heap.modify 0 fun
      | .cells _ t frozen => .cells #[.iface 196 (.agg #[.pointer (some ⟨1, 67, none⟩)])] t frozen
      | o => o }
theorem laidWorld_met (os : Os) (args : Array Value) : laidMetH Tryz.prog laid_ ((laidWorld os).forCall (fun _ _ => 0) ⟨#[], args, []⟩).memory :=
  laidMetH_of_parts (laidMet_nil _ _) (by kernel_rfl)
theorem lifted (hrun : Ran) (os : Os) (started : os.Started) (H : Type) (enc : TypeId × Value → H) :
    ReturnsInLeavingWide {} Tryz.checked os 3 .any (Rows.weighKnownRow.pre enc Tryz.prog Tryz.f3 (OpenSpec.ofChange Rows.weighKnownSpec)) (Rows.weighKnownSpec.post enc Tryz.prog Tryz.f3 false true false false) := by
  refine returnsInLeavingWide_of_good (C := Tryz.checked) own started
    (ChangeSpec.witness_at (s := Rows.weighKnownSpec) (conds := Rows.weighKnownRow.domain) (apart := false) (fn := Tryz.f3) (enc := enc) (C := Tryz.checked) (os := os) (X := fun w _ => laidMetH Tryz.prog laid_ w) false (laidWorld os) #[] 8 rfl (by kernel_rfl) (by kernel_rfl) (by kernel_rfl) (by kernel_rfl) (by kernel_rfl) (laidWorld_met os _)) ?_
  intro w tape i _ hsh _ hok hpre hholds
  obtain ⟨⟨⟨ds, gs, before, hw, hc⟩, hl⟩, hz⟩ := hpre
  have hw' := DataW.Whole.of_heap (w' := w.forCall tape i) (by rfl) hw
  obtain ⟨M, last, o, w', t', h1, h2, h3, h4⟩ := runs hrun H enc (w.forCall tape i) i.args ds gs before hsh (laidMetH.of_heap (w := (w.forCall tape i).memory) (w' := w.forCall tape i) rfl hl) hw'
  exact ⟨M, last, o, w', t', h1, h2, h3, h4.mono fun v hp => ChangeSpec.post_blind hp⟩
theorem said (hrun : Ran) : Rows.WeighKnownSaid :=
  OpenClaim.holds_of_wide_leaving 3 Tryz.f3 rfl rfl rfl rfl rfl rfl rfl ⟨rfl, rfl, rfl, rfl, rfl⟩ rfl rfl rfl rfl rfl (by kernel_rfl) Tryz.func3 (by kernel_rfl)
    (of_decide_eq_true (by kernel_rfl)) (by unfold Func.isWrapper; first | (rw [if_pos (by decide +kernel)]; kernel_rfl) | (rw [if_neg (by decide +kernel)]; exact ⟨rfl, rfl⟩))
    (fun os started H enc _ => lifted hrun os started H enc)
theorem holds_tied_goes_at (Lk : Looks) {p : Pinned} {s : OpenSpec} {c : OpenClaim} (kinds : List LaidKind) (tests : Bool) (har : Bool × String) (lk : Bool)
    (hc : c.holds p s) (hw : c.wfByText s = true)
    (htie : c.laidByTextAt Lk p kinds tests)
    (hst : c.start = .entering) (hnb : c.noBlocks = false ∧ c.again = false) (hm : p.checked.prog.mainIs = some (har.1, har.2.toList)) (hn : (!har.1 && har.2.isEmpty && !lk) = false)
    (hl : ∀ f fn, p.checked.prog.funcNamed c.func = some f → p.checked.prog.funcs[f]? = some fn → lk = p.checked.prog.looks [] ∧ ∀ (j : Nat) t, fn.params[j]? = some t → p.checked.prog.wantsStandIn t = false)
    (hg : true = c.goesBy p.checked.prog) :
    Claim7.holds p (.plain s) { stood := { row := c, standIns := [], harness := har, looks := lk }, kinds := [], alts := [], goes := true, laidByText := true, laidKinds := kinds, laidTests := tests, laidLooks := Lk } := by
  have h6 : ∀ r : OpenClaim, Claim7.isSixth { stood := { row := r, standIns := [], harness := har, looks := lk }, kinds := [] } = false := fun r => by simpa [Claim7.isSixth] using hn
  exact ⟨Claim7.tied_new_at Lk kinds tests (Claim7.new_of_sixth hc har lk hst hnb hm (h6 c) hl) hw, (fun _ h => by cases h), htie, (fun h => by cases h), hg⟩
theorem card (hrun : Ran) : Rows.WeighKnownCardSaid :=
  holds_tied_goes_at .later [.handle] true (true, "84fa0c27f16afd4028b136655bd682b3d7964a6a33f0c1832be8c8fac41b0986") true
    (said hrun) (by kernel_rfl) weighKnown_row_tie rfl ⟨rfl, rfl⟩ (by kernel_rfl) rfl
    (fun f fn hf hfn => by
      obtain rfl : f = 3 := Option.some.inj ((show Tryz.prog.funcNamed Rows.weighKnownRow.func = some 3 by kernel_rfl).symm.trans hf) |>.symm
      obtain rfl : fn = Tryz.f3 := (Option.some.inj (Tryz.func3.symm.trans hfn)).symm
      exact ⟨by kernel_rfl, fun j t ht => by
        rw [show Tryz.f3.params = #[] from rfl] at ht
        simp at ht⟩)
    (by kernel_rfl)
theorem ran : Ran := fun _ _ => ⟨Mw.h287, 41720, Mw.c289, by kernel_rfl⟩
theorem weigh_known : Rows.WeighKnownCardSaid := card ran
end Go.Proofs.YtdlalkokiicddaaGreatDoor
