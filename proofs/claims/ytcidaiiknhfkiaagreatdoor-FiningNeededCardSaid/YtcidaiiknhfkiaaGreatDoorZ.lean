/- FiningNeeded answers true for every list of numbers: an agent is needed just if without it no way clears the melt, and it spoils the melt just if it may be put to it and after it no way clears it. -/
import Derived.Test.YtcidaiiknhfkiaaGreatDoorc
import Derived.Test.YtcidaiiknhfkiaaGreatDoorm6
set_option linter.unusedVariables false
set_option linter.unusedSimpArgs false
set_option linter.unusedVariables false
open Go Mv Mw Go.Proofs
namespace Ft
theorem ok_Fined (mm : Bool) : cFined.Ok Tryz.prog mm Γ0 :=
 sayYes (nk' := 10513) (v := vT) (hp' := Fk.h77) rfl (Fk.c79 mm) rfl rfl (by kernel_rfl)
end Ft

set_option linter.unusedVariables false
set_option linter.unusedSimpArgs false
open Go Mv Mw Go.Proofs
namespace Ft
theorem f_NRow (P : Program) : FS cNRow (ndNRow P) := by
 refine ⟨?_, ?_, ?_⟩
 ·simp only [cNRow, roM, qbe, qct, allTrue, sd, implies_true, IE.den, tT, Nat.reduceAdd]
  try (repeat' first | apply And.intro | intro _) <;> omega
 ·simp only [cNRow, roM, qbe, qct, allTrue, sd, implies_true, IE.den, tT, Nat.reduceAdd]
  try (repeat' first | apply And.intro | intro _) <;> omega
 ·simp only [ndNRow, pR, ndL, spL, otR, iR, kR, PR, fRo, fR4, fR20, roM, agsV, fM, qbe, qct, allTrue, sd, implies_true, IE.den, nm_, ge0, leN, nv, li, tT, Nat.reduceAdd]
  try exact ⟨by rintro ρ ⟨⟨⟨hL, n4, -⟩, n1, m, p, -⟩, hn, hs, i0, i1⟩; (repeat' apply And.intro) <;> omega, by rintro ρ ⟨⟨⟨hL, n4, -⟩, n1, m, p, -⟩, hn, hs, ls, i0, i1⟩; have := qbq hs n4 ls; (repeat' apply And.intro) <;> omega, by rintro ρ ⟨⟨⟨hL, n4, -⟩, n1, m, p, -⟩, hn, ln, hs, i0, i1⟩; have := qbq hn n4 ln; (repeat' apply And.intro) <;> omega, by rintro ρ ⟨⟨⟨hL, n4, -⟩, n1, m, p, -⟩, hn, ln, hs, ls, i0, i1⟩; have := qbq hn n4 ln; have := qbq hs n4 ls; (repeat' apply And.intro) <;> omega, by rintro ρ ⟨⟨⟨hL, n4, -⟩, n1, m, p, -⟩, hn, hs, ⟨⟨i0, i1⟩, k0, k1⟩, ho⟩; (repeat' apply And.intro) <;> omega, by rintro ρ ⟨⟨⟨hL, n4, -⟩, n1, m, p, -⟩, hn, hs, ⟨⟨i0, i1⟩, k0, k1⟩, ho, lo⟩; have := oth_le ho (by omega); (repeat' apply And.intro) <;> omega, by rintro ρ ⟨⟨⟨hL, n4, -⟩, n1, m, p, -⟩, hn, hs, ls, ⟨⟨i0, i1⟩, k0, k1⟩, ho⟩; have := qbq hs n4 ls; (repeat' apply And.intro) <;> omega, by rintro ρ ⟨⟨⟨hL, n4, -⟩, n1, m, p, -⟩, hn, hs, ls, ⟨⟨i0, i1⟩, k0, k1⟩, ho, lo⟩; have := qbq hs n4 ls; have := oth_le ho (by omega); (repeat' apply And.intro) <;> omega, by rintro ρ ⟨⟨⟨hL, n4, -⟩, n1, m, p, -⟩, hn, ln, hs, ⟨⟨i0, i1⟩, k0, k1⟩, ho⟩; have := qbq hn n4 ln; (repeat' apply And.intro) <;> omega, by rintro ρ ⟨⟨⟨hL, n4, -⟩, n1, m, p, -⟩, hn, ln, hs, ⟨⟨i0, i1⟩, k0, k1⟩, ho, lo⟩; have := qbq hn n4 ln; have := oth_le ho (by omega); (repeat' apply And.intro) <;> omega, by rintro ρ ⟨⟨⟨hL, n4, -⟩, n1, m, p, -⟩, hn, ln, hs, ls, ⟨⟨i0, i1⟩, k0, k1⟩, ho⟩; have := qbq hn n4 ln; have := qbq hs n4 ls; (repeat' apply And.intro) <;> omega, by rintro ρ ⟨⟨⟨hL, n4, -⟩, n1, m, p, -⟩, hn, ln, hs, ls, ⟨⟨i0, i1⟩, k0, k1⟩, ho, lo⟩; have := qbq hn n4 ln; have := qbq hs n4 ls; have := oth_le ho (by omega); (repeat' apply And.intro) <;> omega⟩
theorem ok_NRow (mm : Bool) : cNRow.Ok Tryz.prog mm Γ0 :=
 qaw (X := Xn Tryz.prog) (cons := consNRow) (T0 := e_NRow Tryz.prog) (hkN_ok _) ⟨ok_To mm, ok_Agents mm, ok_Pass mm, ok_Need mm, ok_Spoil mm, ok_Short mm, ok_NeedN mm, ok_SpoilN mm, ok_ShortN mm, ok_Foll mm, ok_Find mm, ok_Fined mm, trivial⟩ (f_NRow Tryz.prog) (v_NRow Tryz.prog) ⟨⟨n_NRow_0 Tryz.prog, by kernel_rfl, v_NRow_0 Tryz.prog⟩, ⟨⟨n_NRow_1 Tryz.prog, by kernel_rfl, v_NRow_1 Tryz.prog⟩, ⟨⟨n_NRow_2 Tryz.prog, by kernel_rfl, v_NRow_2 Tryz.prog⟩, ⟨⟨n_NRow_3 Tryz.prog, by kernel_rfl, v_NRow_3 Tryz.prog⟩, ⟨⟨n_NRow_4 Tryz.prog, by kernel_rfl, v_NRow_4 Tryz.prog⟩, ⟨⟨n_NRow_5 Tryz.prog, by kernel_rfl, v_NRow_5 Tryz.prog⟩, ⟨⟨n_NRow_6 Tryz.prog, by kernel_rfl, v_NRow_6 Tryz.prog⟩, ⟨⟨n_NRow_7 Tryz.prog, by kernel_rfl, v_NRow_7 Tryz.prog⟩, ⟨⟨n_NRow_8 Tryz.prog, by kernel_rfl, v_NRow_8 Tryz.prog⟩, ⟨⟨n_NRow_9 Tryz.prog, by kernel_rfl, v_NRow_9 Tryz.prog⟩, ⟨⟨n_NRow_10 Tryz.prog, by kernel_rfl, v_NRow_10 Tryz.prog⟩, ⟨⟨n_NRow_11 Tryz.prog, by kernel_rfl, v_NRow_11 Tryz.prog⟩, ⟨⟨n_NRow_12 Tryz.prog, by kernel_rfl, v_NRow_12 Tryz.prog⟩, trivial⟩⟩⟩⟩⟩⟩⟩⟩⟩⟩⟩⟩⟩
end Ft

set_option maxRecDepth 100000
set_option linter.unusedVariables false
namespace Go.Proofs.YtcidaiiknhfkiaaGreatDoor
open Go Mv Mw Go.ChangeShapes Go.WideShapes Go.RowKit
def envN (isNil : Bool) (off len cap : Nat) (L : List Int) (b : Nat) (x : Obj) : Env := { envR [(off : Int), (len : Int), (cap : Int)] [L] [(b, x)] with b := [isNil] }
theorem envN_vals {isNil : Bool} {off len cap : Nat} {L : List Int} {b : Nat} {x : Obj} : vals (envN isNil off len cap L b x) where
 one i := (envR_vals (is := [(off : Int), (len : Int), (cap : Int)]) (Ls := [L]) (bs := [(b, x)])).one i
 low i hi := (envR_vals (is := [(off : Int), (len : Int), (cap : Int)]) (Ls := [L]) (bs := [(b, x)])).low i hi
theorem envN_on {isNil : Bool} {off len cap : Nat} {L : List Int} {b : Nat} {x : Obj} (h1 : (len : Int) ≤ maxLens) (h2 : (cap : Int) ≤ maxLens) (h3 : L.length = len) : Ft.Γ0.On (envN isNil off len cap L b x) where
 bnd i lo hi h := by
  match i, h with
  | 0, h => simp [Ft.Γ0] at h
  | 1, h =>
   simp only [Ft.Γ0, List.getElem?_cons_succ, List.getElem?_cons_zero, Option.some.injEq, Prod.mk.injEq] at h
   obtain ⟨rfl, rfl⟩ := h
   exact ⟨Int.natCast_nonneg _, h1⟩
  | 2, h =>
   simp only [Ft.Γ0, List.getElem?_cons_succ, List.getElem?_cons_zero, Option.some.injEq, Prod.mk.injEq] at h
   obtain ⟨rfl, rfl⟩ := h
   exact ⟨Int.natCast_nonneg _, h2⟩
  | i + 3, h => simp [Ft.Γ0] at h
 elt i lo hi _ h := by simp [Ft.Γ0] at h
 lens i hi := by
  match i with
  | 0 => show ((L.length : Nat) : Int) ≤ maxLens; omega
  | i + 1 =>
   have : (envN isNil off len cap L b x).list (i + 1) = [] := by
    unfold Env.list
    rw [if_pos hi]
    simp [envN, envR]
   rw [this]; simp [maxLens]
 path c b h := by simp [Ft.Γ0] at h
theorem nums_calls {c : Con} (hc : c.Ok Tryz.prog true Ft.Γ0) (hrw : c.rw = []) (hro : c.ro = Ft.roM) (hargs : c.args = [Ft.sNums]) (hm : c.m = 1) (hz : c.zi = none) (hpre : ∀ ρ, Ft.rowP ρ → c.pre ρ) (hout : ∀ o ∈ c.outs, o.v = .bool (.lit true))
  {W : World} (hs : W.ShapedOpen Tryz.prog) (hl : laidMetH Tryz.prog laid_ W) {isNil : Bool} {off len cap b : Nat} {L : List Int} {cs : Array Value} {ty : TypeId} {fz : Nat × Nat}
  (h1 : (len : Int) ≤ maxLens) (h2 : (cap : Int) ≤ maxLens) (h3 : L.length = len) (hb : W.heap[b]? = some (.cells cs ty fz)) (hp : patch (.cells cs ty fz) off (L.map (Value.int .i64)) = .cells cs ty fz) :
  Go.Calls Tryz.prog c.f #[if isNil then .slice none 0 0 else .slice (some ⟨b, off, none⟩) len cap] W fun e w' => e = .returned (.bool true) ∧ Below W.heap.size W w' := by
 have hblk : (envN isNil off len cap L b (.cells cs ty fz)).blk 16 = b := envR_blk (is := [(off : Int), (len : Int), (cap : Int)]) (Ls := [L]) (bs := [(b, .cells cs ty fz)]) (vs := []) (j := 0) rfl
 have h0 := heap0 hs hl
 have h0' := heap1 hs hl
 have key := yes_calls (v := .bool (.lit true)) (hzi := hz) hc hrw hout (W := W) (bs := [0, 1, b]) (ρ := envN isNil off len cap L b (.cells cs ty fz)) envN_vals (envN_on h1 h2 h3) (by rw [hm]; rfl) (hpre _ ⟨by show (len : Int) = ((L.length : Nat) : Int); omega, Int.natCast_nonneg _⟩)
  (by
   intro i hi o ho
   simp only [List.mem_cons, List.not_mem_nil, or_false] at hi
   rcases hi with rfl | rfl | rfl
   ·rw [h0] at ho; cases ho; rfl
   ·rw [h0'] at ho; cases ho; rfl
   ·rw [hb] at ho; cases ho; rfl)
  (by
   rw [hro]
   intro x hx
   simp only [Ft.roM, Ft.roN, Ft.roG, List.cons_append, List.nil_append, List.mem_cons, List.not_mem_nil, or_false] at hx
   rcases hx with rfl | rfl | rfl
   ·refine ⟨show (16 : Nat) < 17 by decide, show lok 17 0 by simp [lok], by simp [hblk], ?_⟩
    show W.heap[(envN isNil off len cap L b (.cells cs ty fz)).blk 16]? = _
    rw [hblk, hb]
    have e : (SO.win .i64 0 0 0).den (envN isNil off len cap L b (.cells cs ty fz)) = .cells cs ty fz := by
     show patch (.cells cs ty fz) ((off : Int)).toNat (L.map (Value.int .i64)) = _
     rw [Int.toNat_natCast]; exact hp
    rw [e]
   ·refine ⟨show (0 : Nat) < 17 by decide, by simp [Ft.oGe, rtOf, SO.ok, SC.ok, SC.oks], by simp [envN, envR, Env.blk, low16], ?_⟩
    show W.heap[0]? = _
    rw [h0]; rfl
   ·refine ⟨show (1 : Nat) < 17 by decide, ?_, by simp [envN, envR, Env.blk, low16], ?_⟩
    ·intro y hy
     obtain ⟨z, _, rfl⟩ := List.mem_map.1 hy; trivial
    ·show W.heap[1]? = _
     rw [h0']
     have e : Ft.oTab.den (envN isNil off len cap L b (.cells cs ty fz)) = .cells (Ft.tab64.map fun z => Value.int .u8 z).toArray 199 := by
      simp only [Ft.oTab, SO.den, List.map_map]; rfl
     rw [e])
 rw [hargs] at key
 have ea : ([Ft.sNums].map (SC.den (envN isNil off len cap L b (.cells cs ty fz)))).toArray = #[if isNil then Value.slice none 0 0 else .slice (some ⟨b, off, none⟩) len cap] := by
  have e1 : Ft.sNums.den (envN isNil off len cap L b (.cells cs ty fz)) = if isNil then Value.slice none 0 0 else .slice (some ⟨b, off, none⟩) len cap := by
   simp only [Ft.sNums, SC.den, hblk]
   cases isNil with
   | true => rfl
   | false => rfl
  simp only [List.map_cons, List.map_nil, e1]
 rw [ea] at key
 exact key
end Go.Proofs.YtcidaiiknhfkiaaGreatDoor

set_option maxRecDepth 100000
set_option linter.unusedVariables false
namespace Go.Proofs.YtcidaiiknhfkiaaGreatDoor
open Go Mv Mw Go.ChangeShapes Go.WideShapes Go.RowKit
theorem len_reach {H : Type} {els rest : List (DataW H)} {ts : List TypeId} {ds : List (DataW H)} (h : (DataW.weightsEach Tryz.prog (22 :: ts) (.slice els rest :: ds)).all (· ≤ reachBytes) = true) : ((els.length + rest.length : Nat) : Int) ≤ maxLens := by
 simp only [DataW.weightsEach, DataW.weights, Tryz.underlying22, List.cons_append, List.all_cons, Bool.and_eq_true, decide_eq_true_eq] at h
 have h1 := h.1
 have hb : Tryz.prog.bytesOf 3 = 8 := by kernel_rfl
 have hr : reachBytes = 140737488351232 := rfl
 rw [hb, hr] at h1
 simp only [maxLens]
 omega
theorem contract (H : Type) (enc : TypeId × Value → H) (W : World) (base : Nat) (args : Array Value) (ds gs : List (DataW H)) (before : List MemPlace)
  (hval : ∀ (j : Nat) t v, Tryz.f5.params[j]? = some t → args[j]? = some v → Value.okWide Tryz.prog W .any base t v)
  (hW : DataW.Whole enc Tryz.prog Tryz.f5.params.toList Rows.finingNeededSpec.vars false W args.toList ds gs before)
  (hsz : (DataW.weightsEach Tryz.prog (Tryz.f5.params.toList ++ (OpenSpec.ofChange Rows.finingNeededSpec).bare.plain.varTypes Tryz.prog) (ds ++ gs)).all (· ≤ reachBytes) = true)
  (hL : laidMetH Tryz.prog Rows.finingNeededRow.laid W) (hs : W.ShapedOpen Tryz.prog) :
  Calls Tryz.prog 5 args W fun e W' => ∃ v, e = .returned v ∧ Rows.finingNeededSpec.post enc Tryz.prog Tryz.f5 false true false false W args v W' := by
 have hW' := hW
 obtain ⟨p, q, hA0, hV, rfl, hfz, hnd⟩ := hW
 have hA : DataW.TrodAll enc Tryz.prog W 0 (fun _ => true) true Tryz.f5.params.toList args.toList ds p := hA0
 rw [Tryz.params5] at hA hval
 obtain ⟨v0, vs0, d0, ds0, p0, q0, hargs, rfl, rfl, hx, r0⟩ := trodAll_cons hA
 obtain ⟨rfl, rfl, rfl⟩ := trodAll_nil r0
 obtain rfl : args = #[v0] := by cases args; simp_all
 obtain ⟨rfl, rfl⟩ := trodVars_none hV
 have walk : Calls Tryz.prog 5 #[v0] W fun e w' => e = .returned (.bool true) ∧ Below W.heap.size W w' := by
  rcases ints_of (e := 3) Tryz.underlying22 Tryz.underlying3 (by kernel_rfl) (hval 0 22 v0 rfl rfl) hx with rfl | ⟨b, off, len, cap, cs, ty, fz, L, rest, els, rfl, h1, h2, h3, h4, rfl, h5⟩
  ·have h0 := heap0 hs hL
   exact nums_calls (Ft.ok_NRow true) rfl rfl rfl rfl rfl (fun _ h => h) (by intro o ho; rw [List.mem_singleton.1 ho]; rfl) hs hL (isNil := true) (off := 0) (len := 0) (cap := 0) (L := []) (by decide) (by decide) rfl h0 (patch_same (Nat.zero_le _) (by intro i hi; cases hi))
  ·have hcap := len_reach hsz
   rw [h5] at hcap
   exact nums_calls (Ft.ok_NRow true) rfl rfl rfl rfl rfl (fun _ h => h) (by intro o ho; rw [List.mem_singleton.1 ho]; rfl) hs hL (isNil := false) (off := off) (len := len) (cap := cap) (L := L) (by omega) hcap h2 h3 h4
 refine walk.mono fun e W' ⟨he, hg⟩ => ?_
 subst he
 exact ⟨_, rfl, _, _, _, [], p0 ++ [], [], hW', trodAll_mk1 (shut_bool Tryz.underlying4 true),
  trodAll_stays (by kernel_rfl) hg (by intro t ht; rw [Tryz.params5] at ht; obtain rfl := List.mem_singleton.1 ht; exact ⟨by kernel_rfl, of_decide_eq_true (by kernel_rfl)⟩) hA0 (fun x hx => hW'.lt x (List.mem_append_left _ hx)) (fun x hx => decide_eq_true (hW'.lt x (List.mem_append_left _ hx))),
  rfl, hg.frame _, fun h => by cases h⟩
theorem reads (os : Os) {H : Type} (enc : TypeId × Value → H) : ∃ places, DataW.whole enc Tryz.prog ((laidWorld os).forCall (fun _ _ => 0) ⟨#[], #[.slice none 0 0], []⟩).memory Tryz.f5.params.toList Rows.finingNeededSpec.vars false #[Value.slice none 0 0].toList 8 = some ([.nil], [], places) :=
 ⟨[], by kernel_rfl⟩
theorem lifted (os : Os) (started : os.Started) (H : Type) (enc : TypeId × Value → H) (F : Stop.Interp) :
  ReturnsInHanded {} Tryz.checked os 5 .any ((OpenSpec.ofChange Rows.finingNeededSpec).preRow enc Tryz.prog Tryz.f5 Rows.finingNeededRow.domain false Rows.finingNeededRow.laid) (((OpenSpec.ofChange Rows.finingNeededSpec).at F).post enc Tryz.prog Tryz.f5 false true false false) := by
 obtain ⟨places, hx⟩ := reads os enc
 refine returnsInHanded_of_row (C := Tryz.checked) (s := OpenSpec.ofChange Rows.finingNeededSpec) own started (by kernel_rfl) Tryz.func5
  (witness_row_at (enc := enc) (C := Tryz.checked) false (laidWorld os) #[.slice none 0 0] rfl (by kernel_rfl) (by kernel_rfl) (by kernel_rfl)
   (OpenSpec.preRow_of_cond 8 hx (by kernel_rfl) (fun k hk => by cases hk) (by kernel_rfl) (laidWorld_met os _))) ?_
 intro W base args ds gs before hval hW _ _ hsz hL hs _
 exact contract H enc W base args ds gs before hval hW hsz hL hs
theorem said : Rows.FiningNeededSaid :=
 OpenClaim.holds_of_cond 5 Tryz.f5 rfl rfl rfl rfl rfl rfl rfl ⟨rfl, rfl, rfl, rfl, rfl⟩ rfl rfl rfl rfl rfl (by kernel_rfl) Tryz.func5 (by kernel_rfl)
  (of_decide_eq_true (by kernel_rfl)) (by unfold Func.isWrapper; first | (rw [if_pos (by decide +kernel)]; kernel_rfl) | (rw [if_neg (by decide +kernel)]; exact ⟨rfl, rfl⟩))
  (fun os started H enc _ F => by rw [OpenClaim.pre_eq_preRow]; exact lifted os started H enc F)
theorem plain (f : FuncId) (fn : Func) (hf : Tryz.pinned.checked.prog.funcNamed Rows.finingNeededRow.func = some f) (hfn : Tryz.pinned.checked.prog.funcs[f]? = some fn) :
  true = Tryz.pinned.checked.prog.looks [] ∧ ∀ (j : Nat) t, fn.params[j]? = some t → Tryz.pinned.checked.prog.wantsStandIn t = false := by
 obtain rfl : f = 5 := Option.some.inj ((show Tryz.prog.funcNamed Rows.finingNeededRow.func = some 5 by kernel_rfl).symm.trans hf) |>.symm
 obtain rfl : fn = Tryz.f5 := (Option.some.inj (Tryz.func5.symm.trans hfn)).symm
 refine ⟨by kernel_rfl, fun j t ht => ?_⟩
 rw [Tryz.params5] at ht
 obtain rfl : t = 22 := by simpa using Array.mem_of_getElem? ht
 exact (show Tryz.prog.wantsStandIn 22 = false by kernel_rfl)
theorem fining_needed : Rows.FiningNeededCardSaid :=
 Claim7.holds_tied_plain_at .later [] _ _ _ _ said (fun _ h => by cases h) (by kernel_rfl) (fun _ h => by cases h) finingNeeded_row_tie rfl ⟨rfl, rfl⟩ (by kernel_rfl) rfl plain (by kernel_rfl)
end Go.Proofs.YtcidaiiknhfkiaaGreatDoor

