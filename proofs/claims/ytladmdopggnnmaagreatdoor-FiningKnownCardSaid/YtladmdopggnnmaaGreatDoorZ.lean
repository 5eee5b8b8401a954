/- FiningKnown answers true in whatever world it is called, on every schedule of its goroutines, if the variables errors.errorType and math/bits.deBruijn64tab start as the text lays them. -/
import Derived.Conc.LeavingOf
import Derived.ChangeSame
import Derived.ChangeVars
import Derived.JoinedOf
import Derived.RowKit
import Derived.RowKitTokens
import Derived.LaidLaws
import Derived.LaidHandle
import Derived.Lib.LaidU8
import Derived.Below
import Derived.SevenTiedAt
import Derived.Test.YtladmdopggnnmaaGreatDoord
import Derived.Test.YtladmdopggnnmaaGreatDoorTie
import Derived.Test.YtladmdopggnnmaaGreatDoorCards
import Derived.Test.YtladmdopggnnmaaGreatDoorc
set_option linter.unusedVariables false
set_option linter.unusedSimpArgs false
set_option maxRecDepth 100000
namespace Go.Proofs.YtladmdopggnnmaaGreatDoor
open Go Mv Go.ChangeShapes Go.WideShapes Go.RowKit
theorem own : ownKnob Tryz.prog.godebug = none := by kernel_rfl
theorem gEt : Tryz.prog.globalNamed "errors.errorType" = some 0 := by kernel_rfl
def nameOf : DataW Unit → String
 | .iface n _ => n
 | _ => "none"
theorem gRt : (Tryz.prog.cutTypes.find? (·.1 == nameOf Rows.laid_errors_errorType)).map (·.2) = some 147 := by kernel_rfl
theorem gOne : ((List.range Tryz.prog.types.size).filter fun t => Tryz.prog.rowNamed t [101, 114, 114, 111, 114]) = [54] := by kernel_rfl
abbrev n64 : String := (Rows.finingKnownRow.named.drop 1).headD "none"
abbrev laid_ : List (String × DataW Unit) := [(n64, Rows.laid_math_bits_deBruijn64tab), ("errors.errorType", Rows.laid_errors_errorType)]
abbrev tabs_ : List (String × DataW Unit) := [(n64, Rows.laid_math_bits_deBruijn64tab)]
abbrev hand_ : List (String × DataW Unit) := [("errors.errorType", Rows.laid_errors_errorType)]
theorem laid_parts {W : World} (h : laidMetH Tryz.prog laid_ W) : laidMet Tryz.prog tabs_ W ∧ handlesMet Tryz.prog hand_ W := h
theorem handle_of_laid {W : World} (h : laidMetH Tryz.prog laid_ W) : W.cell? ⟨0, 0, none⟩ = some (.iface 147 (.agg #[.pointer (some ⟨2, 54, none⟩)])) := by
 have h' := laid_parts h
 obtain ⟨name, u, ty, e1, e2, e3, e4, e5⟩ := h'.2 _ (List.mem_singleton.2 rfl)
 have en : name = [101, 114, 114, 111, 114] := (Option.some.inj e1).symm
 subst en
 obtain rfl := Option.some.inj (gRt.symm.trans e2)
 have hm : ty ∈ (List.range Tryz.prog.types.size).filter fun t => Tryz.prog.rowNamed t [101, 114, 114, 111, 114] := List.mem_filter.2 ⟨List.mem_range.2 e3, e4⟩
 rw [gOne] at hm
 obtain rfl := List.mem_singleton.1 hm
 have hh : typeHandle Tryz.prog 54 = .pointer (some ⟨2, 54, none⟩) := by kernel_rfl
 rw [hh] at e5
 simpa using World.var?_cell gEt e5 0
def litsOf : DataW Unit → List Int
 | .agg l => l.map fun | .lit (.int _ z) => z | _ => 0
 | _ => []
def t64 : List Int := litsOf Rows.laid_math_bits_deBruijn64tab
theorem g64 : Tryz.prog.globalNamed n64 = some 1 := by kernel_rfl
theorem d64 : (Rows.laid_math_bits_deBruijn64tab : DataW Unit) = Lib.tabData .u8 t64 := rfl
theorem tab_of_laid {W : World} (h : laidMetH Tryz.prog laid_ W) {n : String} {d : DataW Unit} (hm : (n, d) ∈ tabs_) {g t e k : Nat} {zs : List Int} (hg : Tryz.prog.globalNamed n = some g) (ht : (Tryz.prog.globals[g]?).map (·.type) = some t) (hu : Tryz.prog.underlying t = some (.array k e)) (he : Tryz.prog.underlying e = some (.int .u8))
  (hce : Tryz.prog.cellsOf e = 1) (hct : Tryz.prog.cellsOf t = k) (hd : d = Lib.tabData .u8 zs) : ∃ ty fz, W.heap[g]? = some (.cells (zs.map fun z => Value.int .u8 z).toArray ty fz) := by
 obtain ⟨g', t', cs, fuel, p, h1, h2, h3, h4⟩ := Lib.laidMet.reads (laid_parts h).1 hm
 obtain rfl := Option.some.inj (hg.symm.trans h1)
 obtain rfl := Option.some.inj (ht.symm.trans h2)
 subst hd
 have hcs := Lib.cells_of_tab hu he hce hct h4
 simp only [World.var?, h1, Option.bind_some] at h3
 split at h3
 ·rename_i cs' ty fz hh
  simp only [Option.some.injEq] at h3
  subst h3
  exact ⟨ty, fz, by rw [hh, ← hcs]⟩
 ·cases h3
noncomputable def tyG : TypeId := (Fk.h0.ro.look 0).elim 0 fun | .cells _ t => t | _ => 0
theorem heap0 {W : World} (hs : W.ShapedOpen Tryz.prog) (hc : W.cell? ⟨0, 0, none⟩ = some (.iface 147 (.agg #[.pointer (some ⟨2, 54, none⟩)]))) : W.heap[0]? = some (.cells #[.iface 147 (.agg #[.pointer (some ⟨2, 54, none⟩)])] tyG) := by
 obtain ⟨cs, h1, h2, _⟩ := hs.1 0 #[.nilIface] tyG (of_decide_eq_true (by kernel_rfl)) (by kernel_rfl)
 rw [h1]
 have h3 : cs[0]? = some (.iface 147 (.agg #[.pointer (some ⟨2, 54, none⟩)])) := by
  unfold World.cell? at hc
  rw [h1] at hc
  simpa using hc
 have h4 : cs.size = 1 := h2
 have h5 : cs = #[.iface 147 (.agg #[.pointer (some ⟨2, 54, none⟩)])] := by
  apply Array.ext
  ·simpa using h4
  ·intro i hi1 hi2
   have hi0 : i = 0 := by simpa using hi2
   subst hi0
   obtain ⟨hlt, he⟩ := Array.getElem?_eq_some_iff.1 h3
   simpa using he
 rw [h5]
noncomputable def ty64 : TypeId := (Fk.h0.ro.look 1).elim 0 fun | .cells _ t => t | _ => 0
theorem heap1 {W : World} (hs : W.ShapedOpen Tryz.prog) (h : laidMetH Tryz.prog laid_ W) : W.heap[1]? = some (.cells (t64.map fun z => Value.int .u8 z).toArray ty64) := by
 obtain ⟨cs, h1, _, _⟩ := hs.1 1 (Array.replicate 64 (.int .u8 0)) ty64 (of_decide_eq_true (by kernel_rfl)) (by kernel_rfl)
 obtain ⟨ty, fz, h2⟩ := tab_of_laid h (n := n64) List.mem_cons_self g64 (t := ty64) (e := 5) (k := 64) (by kernel_rfl) (by kernel_rfl) (by kernel_rfl) (by kernel_rfl) (by kernel_rfl) d64
 rw [h1] at h2
 simp only [Option.some.injEq, Obj.cells.injEq] at h2
 rw [h1, h2.1]
noncomputable def own0 : Own := { full := fun _ => none, ro := fun b => match b with
  | 0 => some (.cells #[.iface 147 (.agg #[.pointer (some ⟨2, 54, none⟩)])] tyG)
  | 1 => some (.cells (t64.map fun z => Value.int .u8 z).toArray ty64)
  | _ => none }
theorem own0_in {W : World} (hs : W.ShapedOpen Tryz.prog) (h : laidMetH Tryz.prog laid_ W) : own0.In W where
 lay := fun b o hb => by cases hb
 layro := fun b o hb => by
  unfold own0 at hb
  simp only at hb
  split at hb
  ·rw [← Option.some.inj hb]; exact Lay.self (heap0 hs (handle_of_laid h)) rfl
  ·rw [← Option.some.inj hb]; exact Lay.self (heap1 hs h) rfl
  ·cases hb
 disj := fun b hb => by cases hb
theorem own0_sat : Mw.Sat Mw.env0 Fk.h0 own0 own0 where
 has := fun i o hi => by
  have : Fk.h0.rw.look i = none := Mw.Tr.nil_look i
  rw [this] at hi; cases hi
 hro := fun i o hi => by
  have hm := Mw.setsT_look (show (Mw.setsT Fk.g0).look i = some o from hi)
  have hg : Fk.g0 = [(0, .cells [.iface 147 (.agg [.lit (.pointer (some ⟨2, 54, none⟩))])] tyG), (1, .cells (t64.map fun z => .int .u8 (.lit z)) ty64)] := by kernel_rfl
  rw [hg] at hm
  have u8ok : ∀ l : List Int, ∀ x ∈ l.map (fun z => Mw.SC.int .u8 (.lit z)), x.ok Mw.env0.k.length := fun l x hx => by
   obtain ⟨z, _, rfl⟩ := List.mem_map.1 hx; trivial
  rcases List.mem_cons.1 hm with e | hm
  ·simp only [Prod.mk.injEq] at e
   obtain ⟨rfl, rfl⟩ := e
   exact ⟨by decide, by simp [Mw.SO.ok, Mw.SC.ok, Mw.SC.oks], by kernel_rfl⟩
  ·rcases List.mem_cons.1 hm with e | hm
   ·simp only [Prod.mk.injEq] at e
    obtain ⟨rfl, rfl⟩ := e
    exact ⟨by decide, u8ok t64, by kernel_rfl⟩
   ·cases hm
 inj := fun i j o o' hi => by
  have : Fk.h0.rw.look i = none := Mw.Tr.nil_look i
  rw [this] at hi; cases hi
 frm := fun _ _ h => h
 apart := fun _ _ _ => rfl
 ro := fun _ _ h => h
 gh := rfl
 dis := fun b hb => by cases hb
 ghok := trivial
 lent := fun i hi => by cases hi
 linj := fun i hi => by cases hi
 rinj := fun i hi => by cases hi
 lnd := List.nodup_nil
 frz := trivial
def Ran : Prop := ∀ (N : Nat) (w0 : Option World), ∃ hp' nk', Mw.CallT Tryz.prog (Co.meet Tryz.prog N w0) 3 [] Fk.h0 16 (.bool (.lit true)) hp' nk' ∧ hp'.gh = .none
theorem the_run (hrun : Ran) (W : World) (hs : W.ShapedOpen Tryz.prog) (hl : laidMetH Tryz.prog laid_ W) :
  ∃ M last o w' t', runNT Tryz.prog (M + 1) (Go.Conc.solo (G (Frame.enter Tryz.prog 3 #[] .normal) []) W) #[] = (.ended o w', t') ∧ runN Tryz.prog M (Go.Conc.solo (G (Frame.enter Tryz.prog 3 #[] .normal) []) W) = .next last ∧
   step Tryz.prog last = .ended o w' ∧ Go.Conc.Good Tryz.prog (fun v W' => v = .bool true ∧ FarW W.heap.size W W') last o w' t' := by
 obtain ⟨hp', nk', hc, hgh⟩ := hrun W.heap.size (some W)
 have h1 : Mv.Calls Tryz.prog (Co.meet Tryz.prog W.heap.size (some W)) 3 #[] own0 fun e S' => (∃ v, e = .returned v ∧ v = .bool true) ∧ S'.gh = .none := by
  refine (hc.2 own0 Mw.env0 own0 Mw.vals0 ⟨by simp, by simp, fun i hi => by simp [Mw.Env.list, hi, Mw.maxLens, Mw.env0], by simp⟩ rfl (by simp) own0_sat).mono ?_
  rintro e S' ⟨ρ', he, hΓ', hnk', rfl, hok, hs'⟩
  exact ⟨⟨_, rfl, rfl⟩, by rw [hs'.gh, hgh]; rfl⟩
 refine Mv.Calls.runJ h1 (by kernel_rfl) (own0_in hs hl) rfl (fun b hb => by cases hb) (Nat.le_refl _) (Good := fun v W' => v = .bool true ∧ FarW W.heap.size W W') ?_
 rintro e S' w' ⟨⟨v, rfl, hv⟩, hg⟩ hfar
 exact ⟨hg, v, rfl, hv, hfar⟩
theorem runs (hrun : Ran) (H : Type) (enc : TypeId × Value → H) (W : World) (args : Array Value) (ds gs : List (DataW H)) (before : List MemPlace) (hs : W.ShapedOpen Tryz.prog) (hl : laidMetH Tryz.prog laid_ W)
  (hW : DataW.Whole enc Tryz.prog Tryz.f3.params.toList Rows.finingKnownSpec.vars false W args.toList ds gs before) :
  ∃ M last o w' t', runNT Tryz.prog (M + 1) (Go.Conc.solo (G (Frame.enter Tryz.prog 3 args .normal) []) W) #[] = (.ended o w', t') ∧ runN Tryz.prog M (Go.Conc.solo (G (Frame.enter Tryz.prog 3 args .normal) []) W) = .next last ∧
   step Tryz.prog last = .ended o w' ∧ Go.Conc.Good Tryz.prog (fun v W' => Rows.finingKnownSpec.post enc Tryz.prog Tryz.f3 false true false false W args v W') last o w' t' := by
 have hW' := hW
 obtain ⟨p, q, hA, hV, rfl, _, _⟩ := hW
 obtain ⟨rfl, rfl, rfl⟩ := trodAll_none (show DataW.TrodAll enc Tryz.prog W 0 (fun _ => true) true [] args.toList ds p from hA)
 obtain ⟨rfl, rfl⟩ := trodVars_none hV
 obtain ⟨M, last, o, w', t', r1, r2, r3, r4⟩ := the_run hrun W hs hl
 refine ⟨M, last, o, w', t', r1, r2, r3, r4.mono fun v hF => ?_⟩
 obtain ⟨rfl, hfar⟩ := hF
 have hb : Below W.heap.size W w' := ⟨hfar.os, hfar.tape, hfar.output, hfar.size, hfar.heap⟩
 exact ⟨_, _, _, [], [], [], hW', trodAll_mk1 (shut_bool Tryz.underlying4 true), trodAll_mk0, rfl, hb.frame _, fun h => by cases h⟩
noncomputable def laidWorld (os : Os) : World :=
  let w0 := World.holding Tryz.prog os ⟨#[], #[], []⟩
  { w0 with heap := (w0.heap.modify 0 fun
      | .cells _ t frozen => .cells #[.iface 147 (.agg #[.pointer (some ⟨2, 54, none⟩)])] t frozen
      | o => o).modify 1 fun
      | .cells _ t frozen => .cells (t64.map fun z => Value.int .u8 z).toArray t frozen
      | o => o }
theorem laidWorld_met (os : Os) (args : Array Value) : laidMetH Tryz.prog laid_ ((laidWorld os).forCall (fun _ _ => 0) ⟨#[], args, []⟩).memory :=
 laidMetH_of_parts3 (fuel := 8) (laidMet_of_run' 8 (by kernel_rfl) (by kernel_rfl)) (by kernel_rfl) (by kernel_rfl)
theorem lifted (hrun : Ran) (os : Os) (started : os.Started) (H : Type) (enc : TypeId × Value → H) :
  ReturnsInLeavingWide {} Tryz.checked os 3 .any (Rows.finingKnownRow.pre enc Tryz.prog Tryz.f3 (OpenSpec.ofChange Rows.finingKnownSpec)) (Rows.finingKnownSpec.post enc Tryz.prog Tryz.f3 false true false false) := by
 refine returnsInLeavingWide_of_good (C := Tryz.checked) own started
  (ChangeSpec.witness_at (s := Rows.finingKnownSpec) (conds := Rows.finingKnownRow.domain) (apart := false) (fn := Tryz.f3) (enc := enc) (C := Tryz.checked) (os := os) (X := fun w _ => laidMetH Tryz.prog laid_ w) false (laidWorld os) #[] 8 rfl (by kernel_rfl) (by kernel_rfl) (by kernel_rfl) (by kernel_rfl) (by kernel_rfl) (laidWorld_met os _)) ?_
 intro w tape i _ hsh _ hok hpre hholds
 obtain ⟨⟨⟨ds, gs, before, hw, hc⟩, hl⟩, hz⟩ := hpre
 have hw' := DataW.Whole.of_heap (w' := w.forCall tape i) (by rfl) hw
 obtain ⟨M, last, o, w', t', h1, h2, h3, h4⟩ := runs hrun H enc (w.forCall tape i) i.args ds gs before hsh (laidMetH.of_heap (w := (w.forCall tape i).memory) (w' := w.forCall tape i) rfl hl) hw'
 exact ⟨M, last, o, w', t', h1, h2, h3, h4.mono fun v hp => ChangeSpec.post_blind hp⟩
theorem said (hrun : Ran) : Rows.FiningKnownSaid :=
 OpenClaim.holds_of_wide_leaving 3 Tryz.f3 rfl rfl rfl rfl rfl rfl rfl ⟨rfl, rfl, rfl, rfl, rfl⟩ rfl rfl rfl rfl rfl (by kernel_rfl) Tryz.func3 (by kernel_rfl)
  (of_decide_eq_true (by kernel_rfl)) (by unfold Func.isWrapper; first | (rw [if_pos (by decide +kernel)]; kernel_rfl) | (rw [if_neg (by decide +kernel)]; exact ⟨rfl, rfl⟩))
  (fun os started H enc _ => lifted hrun os started H enc)
theorem holds_tied_goes_at (Lk : Looks) {p : Pinned} {s : OpenSpec} {c : OpenClaim} (kinds : List LaidKind) (tests : Bool) (har : Bool × String) (lk : Bool)
  (hc : c.holds p s) (hw : c.wfByText s = true)
  (htie : c.laidByTextAt Lk p kinds tests)
  (hst : c.start = .entering) (hnb : c.noBlocks = false ∧ c.again = false) (hm : p.checked.prog.mainIs = some (har.1, har.2.toList)) (hn : (!har.1 && har.2.isEmpty && !lk) = false)
  (hl : ∀ f fn, p.checked.prog.funcNamed c.func = some f → p.checked.prog.funcs[f]? = some fn → lk = p.checked.prog.looks [] ∧ ∀ (j : Nat) t, fn.params[j]? = some t → p.checked.prog.wantsStandIn t = false)
  (hg : true = c.goesBy p.checked.prog) :
  Claim7.holds p (.plain s) { stood := { row := c, standIns := [], harness := har, looks := lk }, kinds := [], alts := [], goes := true, laidByText := true, laidKinds := kinds, laidTests := tests, laidLooks := Lk } := by
 have h6 : ∀ r : OpenClaim, Claim7.isSixth { stood := { row := r, standIns := [], harness := har, looks := lk }, kinds := [] } = false := fun r => by simpa [Claim7.isSixth] using hn
 exact ⟨Claim7.tied_new_at Lk kinds tests (Claim7.new_of_sixth hc har lk hst hnb hm (h6 c) hl) hw, (fun _ h => by cases h), htie, (fun h => by cases h), hg⟩
theorem card (hrun : Ran) : Rows.FiningKnownCardSaid :=
 holds_tied_goes_at .later [.data, .handle] true (true, "9ac8fd991db603cae4316691c9f3982c4fa629707dd20a40d33105137499d69f") true
  (said hrun) (by kernel_rfl) finingKnown_row_tie rfl ⟨rfl, rfl⟩ (by kernel_rfl) rfl
  (fun f fn hf hfn => by
   obtain rfl : f = 3 := Option.some.inj ((show Tryz.prog.funcNamed Rows.finingKnownRow.func = some 3 by kernel_rfl).symm.trans hf) |>.symm
   obtain rfl : fn = Tryz.f3 := (Option.some.inj (Tryz.func3.symm.trans hfn)).symm
   exact ⟨by kernel_rfl, fun j t ht => by
    rw [show Tryz.f3.params = #[] from rfl] at ht
    simp at ht⟩)
  (by kernel_rfl)
end Go.Proofs.YtladmdopggnnmaaGreatDoor

namespace Go.Proofs.YtladmdopggnnmaaGreatDoor
open Go Mv
theorem ran : Ran := fun N w0 => ⟨Fk.h491, 53250, Fk.c493 N w0, by kernel_rfl⟩
theorem fining_known : Rows.FiningKnownCardSaid := card ran
end Go.Proofs.YtladmdopggnnmaaGreatDoor

