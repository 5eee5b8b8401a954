/- A logic over the machine and a run of a program on unknown values, in the kernel. No statement of the project is proved in this text. -/
import Derived.Below
import Derived.Carry
import Derived.ChangeSlices
import Derived.Test.YtcidaiiknhfkiaaGreatDoorm5
set_option linter.unusedVariables false
set_option linter.unusedSimpArgs false
set_option linter.unusedVariables false
set_option linter.unusedSimpArgs false
set_option maxRecDepth 4000
open Go Mv Mw
namespace Ft
theorem sub_at {l m : List Int} (h : subL l m) {i : Int} (h0 : 0 ≤ i) (h1 : i < (l.length : Nat)) : ¬ ∀ j : Nat, (j : Int) < (m.length : Nat) → ¬ m.getD j 0 = l.getD i.toNat 0 := fun hn => by
 obtain ⟨k, rfl⟩ := nat_of h0
 have hk : k < l.length := by omega
 rw [Int.toNat_natCast] at hn
 have hm : l.getD k 0 ∈ m := h _ (by rw [List.getD_eq_getElem?_getD, List.getElem?_eq_getElem hk]; exact List.getElem_mem _)
 obtain ⟨j, hj, e⟩ := List.getElem_of_mem hm
 refine hn j (by omega) ?_
 rw [List.getD_eq_getElem?_getD, List.getElem?_eq_getElem hj]
 exact e
theorem agV_up {L : List Int} {i : Nat} (h : agV 3 L i) : agV 6 L i := by
 unfold agV at h ⊢
 omega
theorem wyl_more {L M : List Int} {n : Nat} {p i : Int} (h : ∀ i, i < 5 * n → M.getD i 0 = L.getD i 0) {c : Int} (hw : WyL L n p i c) : WyL M (n + 1) p i c := wy_agents (by omega) h _ _ hw
theorem wyl_let {L : List Int} {n : Nat} {p q i : Int} (h : gle p q) {c : Int} (hw : WyL L n p i c) : WyL L n q i c := wy_pass h _ _ hw
theorem v_Row_0 (P : Program) (ρ : Env) (hv : vals ρ) (hΓ : Γ0.On ρ) (hl : ρ.k.length = 22) (hp : (ndAt (ndRow P) 0).inv ρ) : VC cRow (ndRow P) (some ((ndAt (ndRow P) 0).mu ρ)) ρ (n_Row_0 P) := by
 simp only [VC, oblC, asmC, appAsm, outAt, ndAt, allTrue, ve, BE.den, LX.den, nv, li, rowP, tT, n_Row_0, ndRow, cRow, mel, cFind, cCheap, cCheapN, cFined, pA, nL, pL, pM, pN] at hp ⊢
 simp only [vb, bdList, hl, IE.den, forall_eq', implies_true, reduceIte, reduceCtorEq, Nat.reduceAdd, Nat.reduceSub, Nat.reduceLeDiff, Nat.reduceLT, Nat.reduceEqDiff] at hp ⊢
 exact hp
theorem v_Row_1 (P : Program) (ρ : Env) (hv : vals ρ) (hΓ : Γ0.On ρ) (hl : ρ.k.length = 26) (hp : (ndAt (ndRow P) 1).inv ρ) : VC cRow (ndRow P) (some ((ndAt (ndRow P) 1).mu ρ)) ρ (n_Row_1 P) := by
 simp only [VC, oblC, asmC, appAsm, outAt, ndAt, allTrue, ve, BE.den, LX.den, nv, li, rowP, tT, n_Row_1, ndRow, cRow, mel, cFind, cCheap, cCheapN, cFined, pA, nL, pL, pM, pN] at hp ⊢
 simp only [vb, bdList, hl, IE.den, forall_eq', implies_true, reduceIte, reduceCtorEq, Nat.reduceAdd, Nat.reduceSub, Nat.reduceLeDiff, Nat.reduceLT, Nat.reduceEqDiff] at hp ⊢
 obtain ⟨h, h1, h2, h3⟩ := hp
 exact ⟨⟨h, h1, h2, h3, by decide, by omega⟩, by decide⟩
theorem v_Row_2 (P : Program) (ρ : Env) (hv : vals ρ) (hΓ : Γ0.On ρ) (hl : ρ.k.length = 26) (hp : (ndAt (ndRow P) 2).inv ρ) : VC cRow (ndRow P) (some ((ndAt (ndRow P) 2).mu ρ)) ρ (n_Row_2 P) := by
 simp only [VC, oblC, asmC, appAsm, outAt, ndAt, allTrue, ve, BE.den, LX.den, nv, li, rowP, tT, n_Row_2, b4_, b11_, ndRow, cRow, mel, cFind, cCheap, cCheapN, cFined, pA, nL, pL, pM, pN] at hp ⊢
 simp only [vb, bdList, hl, IE.den, forall_eq', implies_true, reduceIte, reduceCtorEq, Nat.reduceAdd, Nat.reduceSub, Nat.reduceLeDiff, Nat.reduceLT, Nat.reduceEqDiff] at hp ⊢
 obtain ⟨h, h1, h2, h3, i0, i1⟩ := hp
 have h1' := h1
 obtain ⟨h1a, h1b⟩ := h1'
 have h2' := h2
 obtain ⟨h2a, h2b⟩ := h2'
 refine ⟨fun hi => ⟨⟨by omega, by omega, by omega⟩, sub_at h3 i0 hi, ?_⟩, fun hi => ⟨h, by omega⟩⟩
 rintro _ r ⟨r0, -⟩
 exact ⟨fun hn => by omega, fun _ => ⟨⟨h, h1, h2, h3, by omega, by omega⟩, by omega⟩⟩
theorem v_Row_3 (P : Program) (ρ : Env) (hv : vals ρ) (hΓ : Γ0.On ρ) (hl : ρ.k.length = 28) (hp : (ndAt (ndRow P) 3).inv ρ) : VC cRow (ndRow P) (some ((ndAt (ndRow P) 3).mu ρ)) ρ (n_Row_3 P) := by
 simp only [VC, oblC, asmC, appAsm, outAt, ndAt, allTrue, ve, BE.den, LX.den, nv, li, rowP, tT, n_Row_3, b4_, b11_, ndRow, cRow, mel, cFind, cCheap, cCheapN, cFined, pA, nL, pL, pM, pN] at hp ⊢
 simp only [vb, bdList, hl, IE.den, forall_eq', implies_true, reduceIte, reduceCtorEq, Nat.reduceAdd, Nat.reduceSub, Nat.reduceLeDiff, Nat.reduceLT, Nat.reduceEqDiff] at hp ⊢
 obtain ⟨h, h1, h2, h4, h3, h5, i0, i1⟩ := hp
 have h1' := h1
 obtain ⟨h1a, h1b⟩ := h1'
 have h2' := h2
 obtain ⟨h2a, h2b⟩ := h2'
 refine ⟨fun hi => ⟨⟨by omega, by omega, by omega⟩, sub_at h3 i0 hi, ?_⟩, fun hi => ⟨⟨h, h1, h4, h5, by omega, by omega⟩, by omega⟩⟩
 rintro _ r ⟨r0, -⟩
 exact ⟨fun hn => by omega, fun _ => ⟨⟨h, h1, h2, h4, h3, h5, by omega, by omega⟩, by omega⟩⟩
theorem v_Row_4 (P : Program) (ρ : Env) (hv : vals ρ) (hΓ : Γ0.On ρ) (hl : ρ.k.length = 22) (hp : (ndAt (ndRow P) 4).inv ρ) : VC cRow (ndRow P) (some ((ndAt (ndRow P) 4).mu ρ)) ρ (n_Row_4 P) := by
 simp only [VC, oblC, asmC, appAsm, outAt, ndAt, allTrue, ve, BE.den, LX.den, nv, li, rowP, tT, n_Row_4, ndRow, cRow, mel, cFind, cCheap, cCheapN, cFined, pA, nL, pL, pM, pN] at hp ⊢
 simp only [vb, bdList, hl, IE.den, forall_eq', implies_true, reduceIte, reduceCtorEq, Nat.reduceAdd, Nat.reduceSub, Nat.reduceLeDiff, Nat.reduceLT, Nat.reduceEqDiff] at hp ⊢
 exact ⟨⟨hp, by decide, by decide⟩, by decide⟩
theorem v_Row_5 (P : Program) (ρ : Env) (hv : vals ρ) (hΓ : Γ0.On ρ) (hl : ρ.k.length = 26) (hp : (ndAt (ndRow P) 5).inv ρ) : VC cRow (ndRow P) (some ((ndAt (ndRow P) 5).mu ρ)) ρ (n_Row_5 P) := by
 simp only [VC, oblC, asmC, appAsm, outAt, ndAt, allTrue, ve, BE.den, LX.den, nv, li, rowP, tT, n_Row_5, b4_, b11_, ndRow, cRow, mel, cFind, cCheap, cCheapN, cFined, pA, nL, pL, pM, pN] at hp ⊢
 simp only [vb, bdList, hl, IE.den, forall_eq', implies_true, reduceIte, reduceCtorEq, Nat.reduceAdd, Nat.reduceSub, Nat.reduceLeDiff, Nat.reduceLT, Nat.reduceEqDiff] at hp ⊢
 obtain ⟨h, h1, h2, h3, i0, i1⟩ := hp
 have h1' := h1
 obtain ⟨h1a, h1b⟩ := h1'
 have h2' := h2
 obtain ⟨h2a, h2b⟩ := h2'
 refine ⟨fun hi => ⟨⟨by omega, by omega, by omega⟩, sub_at h3 i0 hi, ?_⟩, fun hi => ⟨⟨h, by omega, by omega⟩, by omega⟩⟩
 rintro _ r ⟨r0, -⟩
 exact ⟨fun hn => by omega, fun _ => ⟨⟨h, h1, h2, h3, by omega, by omega⟩, by omega⟩⟩
theorem v_Row_6 (P : Program) (ρ : Env) (hv : vals ρ) (hΓ : Γ0.On ρ) (hl : ρ.k.length = 22) (hp : (ndAt (ndRow P) 6).inv ρ) : VC cRow (ndRow P) (some ((ndAt (ndRow P) 6).mu ρ)) ρ (n_Row_6 P) := by
 simp only [VC, oblC, asmC, appAsm, outAt, ndAt, allTrue, ve, BE.den, LX.den, nv, li, rowP, tT, n_Row_6, b0_, b2_, b3_, b4_, b6_, ndRow, cRow, mel, cFind, cCheap, cCheapN, cFined, pA, nL, pL, pM, pN] at hp ⊢
 simp only [vb, bdList, hl, IE.den, forall_eq', implies_true, reduceIte, reduceCtorEq, Nat.reduceAdd, Nat.reduceSub, Nat.reduceLeDiff, Nat.reduceLT, Nat.reduceEqDiff] at hp ⊢
 obtain ⟨h, i0, i1⟩ := hp
 have hPM := h
 obtain ⟨hag, n1, ⟨hag2, hpre⟩, p0, q0, hle⟩ := h
 have ht := len_tdiv hag.1
 have ht2 := len_tdiv hag2.1
 rw [ht, ht2]
 generalize hn : nA (ρ.list 82) = n at *
 generalize ρ.list 82 = L at *
 generalize ρ.list 84 = M at *
 generalize (ρ.list 85).getD 0 0 = p at *
 generalize (ρ.list 85).getD 1 0 = q at *
 generalize (ρ.list 85).getD 2 0 = i at *
 simp only [Int.toNat_natCast] at *
 refine fun hi => ?_
 have hm : 0 ≤ i ∧ i ≤ 63 := by omega
 have O1 : (1 ≤ (n : Int) ∧ agsV L n) ∧ (0 ≤ i ∧ i ≤ 63) ∧ 0 ≤ p ∧ p ≤ 63 := ⟨⟨by omega, hag⟩, hm, p0⟩
 have O2 : (1 ≤ ((n + 1 : Nat) : Int) ∧ agsV M (n + 1)) ∧ (0 ≤ i ∧ i ≤ 63) ∧ 0 ≤ p ∧ p ≤ 63 := ⟨⟨by omega, hag2⟩, hm, p0⟩
 have O3 : (1 ≤ (n : Int) ∧ agsV L n) ∧ (0 ≤ i ∧ i ≤ 63) ∧ 0 ≤ q ∧ q ≤ 63 := ⟨⟨by omega, hag⟩, hm, q0⟩
 have dn : (PM L M p q ∧ 0 ≤ i + 1 ∧ i + 1 ≤ 8) ∧ (8 - (i + 1)).toNat < (8 - i).toNat := ⟨⟨hPM, by omega, by omega⟩, by omega⟩
 have fin : ∀ {c k l : Int}, WyL L n p i c → (∀ d, WyL M (n + 1) p i d → k ≤ d) → (∀ d, WyL L n q i d → l ≤ d) → (c < k → False) ∧ (¬ c < k → (c < l → False) ∧ (¬ c < l → (PM L M p q ∧ 0 ≤ i + 1 ∧ i + 1 ≤ 8) ∧ (8 - (i + 1)).toNat < (8 - i).toNat)) := fun hc hk hl' =>
  ⟨fun h => by have := hk _ (wyl_more hpre hc); omega, fun _ => ⟨fun h => by have := hl' _ (wyl_let hle hc); omega, fun _ => dn⟩⟩
 have zL : ∀ {x : Int}, x = 0 → gP p i.toNat = true → WyL L n p i x := fun e hg => by rw [e]; exact (least_zero hag hm hg).1
 have zM : ∀ {x : Int}, x = 0 → gP p i.toNat = true → ∀ d, WyL M (n + 1) p i d → x ≤ d := fun e hg => by rw [e]; exact (least_zero hag2 hm hg).2
 have zQ : ∀ {x : Int}, x = 0 → gP q i.toNat = true → ∀ d, WyL L n q i d → x ≤ d := fun e hg => by rw [e]; exact (least_zero hag hm hg).2
 refine ⟨O1, fun _ => ⟨O2, fun _ => ⟨O3, fun _ => dn, fun _ _ _ => dn, fun _ _ _ _ _ _ _ => dn⟩, fun _ _ _ => ⟨O3, fun _ => dn, fun _ _ _ => dn, fun _ _ _ _ _ _ _ => dn⟩, fun _ _ _ _ _ _ _ => ⟨O3, fun _ => dn, fun _ _ _ => dn, fun _ _ _ _ _ _ _ => dn⟩⟩, ?_, ?_⟩
 ·rintro _ r ⟨e, g⟩
  have hc := zL e g
  exact ⟨O2, fun hno => (hno _ (wyl_more hpre hc)).elim,
   fun _ r1 h1 => ⟨O3, fun hno => (hno _ (wyl_let hle hc)).elim, fun _ r2 h2 => fin hc (zM h1.1 h1.2) (zQ h2.1 h2.2), fun _ r2 _ _ _ _ h2 => fin hc (zM h1.1 h1.2) h2.1.2⟩,
   fun _ r1 _ _ _ _ h1 => ⟨O3, fun hno => (hno _ (wyl_let hle hc)).elim, fun _ r2 h2 => fin hc h1.1.2 (zQ h2.1 h2.2), fun _ r2 _ _ _ _ h2 => fin hc h1.1.2 h2.1.2⟩⟩
 ·rintro _ r _ _ _ _ h0
  have hc := h0.1.1
  exact ⟨O2, fun hno => (hno _ (wyl_more hpre hc)).elim,
   fun _ r1 h1 => ⟨O3, fun hno => (hno _ (wyl_let hle hc)).elim, fun _ r2 h2 => fin hc (zM h1.1 h1.2) (zQ h2.1 h2.2), fun _ r2 _ _ _ _ h2 => fin hc (zM h1.1 h1.2) h2.1.2⟩,
   fun _ r1 _ _ _ _ h1 => ⟨O3, fun hno => (hno _ (wyl_let hle hc)).elim, fun _ r2 h2 => fin hc h1.1.2 (zQ h2.1 h2.2), fun _ r2 _ _ _ _ h2 => fin hc h1.1.2 h2.1.2⟩⟩
theorem v_Row_7 (P : Program) (ρ : Env) (hv : vals ρ) (hΓ : Γ0.On ρ) (hl : ρ.k.length = 20) (hp : (ndAt (ndRow P) 7).inv ρ) : VC cRow (ndRow P) (some ((ndAt (ndRow P) 7).mu ρ)) ρ (n_Row_7 P) := by
 simp only [VC, oblC, asmC, appAsm, outAt, ndAt, allTrue, ve, BE.den, LX.den, nv, li, rowP, tT, n_Row_7, ndRow, cRow, mel, cFind, cCheap, cCheapN, cFined, pA, nL, pL, pM, pN] at hp ⊢
 simp only [vb, bdList, hl, IE.den, forall_eq', implies_true, reduceIte, reduceCtorEq, Nat.reduceAdd, Nat.reduceSub, Nat.reduceLeDiff, Nat.reduceLT, Nat.reduceEqDiff] at hp ⊢
 exact hp
theorem v_Row_8 (P : Program) (ρ : Env) (hv : vals ρ) (hΓ : Γ0.On ρ) (hl : ρ.k.length = 24) (hp : (ndAt (ndRow P) 8).inv ρ) : VC cRow (ndRow P) (some ((ndAt (ndRow P) 8).mu ρ)) ρ (n_Row_8 P) := by
 simp only [VC, oblC, asmC, appAsm, outAt, ndAt, allTrue, ve, BE.den, LX.den, nv, li, rowP, tT, n_Row_8, ndRow, cRow, mel, cFind, cCheap, cCheapN, cFined, pA, nL, pL, pM, pN] at hp ⊢
 simp only [vb, bdList, hl, IE.den, forall_eq', implies_true, reduceIte, reduceCtorEq, Nat.reduceAdd, Nat.reduceSub, Nat.reduceLeDiff, Nat.reduceLT, Nat.reduceEqDiff] at hp ⊢
 obtain ⟨h, h1, h2, h3⟩ := hp
 exact ⟨⟨h, h1, h2, h3, by decide, by omega⟩, by decide⟩
theorem v_Row_9 (P : Program) (ρ : Env) (hv : vals ρ) (hΓ : Γ0.On ρ) (hl : ρ.k.length = 24) (hp : (ndAt (ndRow P) 9).inv ρ) : VC cRow (ndRow P) (some ((ndAt (ndRow P) 9).mu ρ)) ρ (n_Row_9 P) := by
 simp only [VC, oblC, asmC, appAsm, outAt, ndAt, allTrue, ve, BE.den, LX.den, nv, li, rowP, tT, n_Row_9, b10_, b12_, ndRow, cRow, mel, cFind, cCheap, cCheapN, cFined, pA, nL, pL, pM, pN] at hp ⊢
 simp only [vb, bdList, hl, IE.den, forall_eq', implies_true, reduceIte, reduceCtorEq, Nat.reduceAdd, Nat.reduceSub, Nat.reduceLeDiff, Nat.reduceLT, Nat.reduceEqDiff] at hp ⊢
 obtain ⟨h, h1, h2, h3, i0, i1⟩ := hp
 have h1' := h1
 obtain ⟨h1a, h1b⟩ := h1'
 have h2' := h2
 obtain ⟨h2a, h2b⟩ := h2'
 refine ⟨fun hi => ⟨⟨by omega, by omega, by omega⟩, sub_at h3 i0 hi, ?_⟩, fun hi => ⟨h, by omega⟩⟩
 rintro _ r ⟨r0, -⟩
 exact ⟨fun hn => by omega, fun _ => ⟨⟨h, h1, h2, h3, by omega, by omega⟩, by omega⟩⟩
theorem v_Row_10 (P : Program) (ρ : Env) (hv : vals ρ) (hΓ : Γ0.On ρ) (hl : ρ.k.length = 26) (hp : (ndAt (ndRow P) 10).inv ρ) : VC cRow (ndRow P) (some ((ndAt (ndRow P) 10).mu ρ)) ρ (n_Row_10 P) := by
 simp only [VC, oblC, asmC, appAsm, outAt, ndAt, allTrue, ve, BE.den, LX.den, nv, li, rowP, tT, n_Row_10, b10_, b12_, ndRow, cRow, mel, cFind, cCheap, cCheapN, cFined, pA, nL, pL, pM, pN] at hp ⊢
 simp only [vb, bdList, hl, IE.den, forall_eq', implies_true, reduceIte, reduceCtorEq, Nat.reduceAdd, Nat.reduceSub, Nat.reduceLeDiff, Nat.reduceLT, Nat.reduceEqDiff] at hp ⊢
 obtain ⟨h, h1, h2, h4, h3, h5, i0, i1⟩ := hp
 have h1' := h1
 obtain ⟨h1a, h1b⟩ := h1'
 have h2' := h2
 obtain ⟨h2a, h2b⟩ := h2'
 refine ⟨fun hi => ⟨⟨by omega, by omega, by omega⟩, sub_at h3 i0 hi, ?_⟩, fun hi => ⟨⟨h, h1, h4, h5, by omega, by omega⟩, by omega⟩⟩
 rintro _ r ⟨r0, -⟩
 exact ⟨fun hn => by omega, fun _ => ⟨⟨h, h1, h2, h4, h3, h5, by omega, by omega⟩, by omega⟩⟩
theorem v_Row_11 (P : Program) (ρ : Env) (hv : vals ρ) (hΓ : Γ0.On ρ) (hl : ρ.k.length = 20) (hp : (ndAt (ndRow P) 11).inv ρ) : VC cRow (ndRow P) (some ((ndAt (ndRow P) 11).mu ρ)) ρ (n_Row_11 P) := by
 simp only [VC, oblC, asmC, appAsm, outAt, ndAt, allTrue, ve, BE.den, LX.den, nv, li, rowP, tT, n_Row_11, ndRow, cRow, mel, cFind, cCheap, cCheapN, cFined, pA, nL, pL, pM, pN] at hp ⊢
 simp only [vb, bdList, hl, IE.den, forall_eq', implies_true, reduceIte, reduceCtorEq, Nat.reduceAdd, Nat.reduceSub, Nat.reduceLeDiff, Nat.reduceLT, Nat.reduceEqDiff] at hp ⊢
 exact ⟨⟨hp, by decide, by decide⟩, by decide⟩
theorem v_Row_12 (P : Program) (ρ : Env) (hv : vals ρ) (hΓ : Γ0.On ρ) (hl : ρ.k.length = 24) (hp : (ndAt (ndRow P) 12).inv ρ) : VC cRow (ndRow P) (some ((ndAt (ndRow P) 12).mu ρ)) ρ (n_Row_12 P) := by
 simp only [VC, oblC, asmC, appAsm, outAt, ndAt, allTrue, ve, BE.den, LX.den, nv, li, rowP, tT, n_Row_12, b10_, b12_, ndRow, cRow, mel, cFind, cCheap, cCheapN, cFined, pA, nL, pL, pM, pN] at hp ⊢
 simp only [vb, bdList, hl, IE.den, forall_eq', implies_true, reduceIte, reduceCtorEq, Nat.reduceAdd, Nat.reduceSub, Nat.reduceLeDiff, Nat.reduceLT, Nat.reduceEqDiff] at hp ⊢
 obtain ⟨h, h1, h2, h3, i0, i1⟩ := hp
 have h1' := h1
 obtain ⟨h1a, h1b⟩ := h1'
 have h2' := h2
 obtain ⟨h2a, h2b⟩ := h2'
 refine ⟨fun hi => ⟨⟨by omega, by omega, by omega⟩, sub_at h3 i0 hi, ?_⟩, fun hi => ⟨⟨h, by omega, by omega⟩, by omega⟩⟩
 rintro _ r ⟨r0, -⟩
 exact ⟨fun hn => by omega, fun _ => ⟨⟨h, h1, h2, h3, by omega, by omega⟩, by omega⟩⟩
theorem v_Row_13 (P : Program) (ρ : Env) (hv : vals ρ) (hΓ : Γ0.On ρ) (hl : ρ.k.length = 20) (hp : (ndAt (ndRow P) 13).inv ρ) : VC cRow (ndRow P) (some ((ndAt (ndRow P) 13).mu ρ)) ρ (n_Row_13 P) := by
 simp only [VC, oblC, asmC, appAsm, outAt, ndAt, allTrue, ve, BE.den, LX.den, nv, li, rowP, tT, n_Row_13, b0_, b5_, b10_, ndRow, cRow, mel, cFind, cCheap, cCheapN, cFined, pA, nL, pL, pM, pN] at hp ⊢
 simp only [vb, bdList, hl, IE.den, forall_eq', implies_true, reduceIte, reduceCtorEq, Nat.reduceAdd, Nat.reduceSub, Nat.reduceLeDiff, Nat.reduceLT, Nat.reduceEqDiff] at hp ⊢
 obtain ⟨h, i0, i1⟩ := hp
 have hPN := h
 obtain ⟨hag, p0, q0, hle⟩ := h
 have ht := len_tdiv hag.1
 rw [ht]
 generalize ρ.list 82 = M at *
 generalize (ρ.list 83).getD 0 0 = p at *
 generalize (ρ.list 83).getD 1 0 = q at *
 generalize (ρ.list 83).getD 2 0 = i at *
 simp only [Int.toNat_natCast] at *
 refine fun hi => ?_
 have hm : 0 ≤ i ∧ i ≤ 63 := by omega
 have O1 : (0 ≤ i ∧ i ≤ 63) ∧ 0 ≤ p ∧ p ≤ 63 := ⟨hm, p0⟩
 have O2 : (1 ≤ ((1 : Nat) : Int) ∧ agsV M 1) ∧ (0 ≤ i ∧ i ≤ 63) ∧ 0 ≤ p ∧ p ≤ 63 := ⟨⟨by omega, hag⟩, hm, p0⟩
 have O3 : (0 ≤ i ∧ i ≤ 63) ∧ 0 ≤ q ∧ q ≤ 63 := ⟨hm, q0⟩
 have dn : (PN M p q ∧ 0 ≤ i + 1 ∧ i + 1 ≤ 8) ∧ (8 - (i + 1)).toNat < (8 - i).toNat := ⟨⟨hPN, by omega, by omega⟩, by omega⟩
 have fin : ∀ {c k l : Int}, c = 0 → k ≤ 0 → l = 0 → (c < k → False) ∧ (¬ c < k → (c < l → False) ∧ (¬ c < l → (PN M p q ∧ 0 ≤ i + 1 ∧ i + 1 ≤ 8) ∧ (8 - (i + 1)).toNat < (8 - i).toNat)) := fun hc hk hl' =>
  ⟨fun h => by omega, fun _ => ⟨fun h => by omega, fun _ => dn⟩⟩
 refine ⟨O1, fun _ => ⟨O2, fun _ => ⟨O3, fun _ => dn, fun _ _ _ => dn⟩, fun _ _ _ => ⟨O3, fun _ => dn, fun _ _ _ => dn⟩, fun _ _ _ _ _ _ _ => ⟨O3, fun _ => dn, fun _ _ _ => dn⟩⟩, ?_⟩
 rintro _ r ⟨e, g⟩
 have hc : WyL M 1 p i 0 := (least_zero hag hm g).1
 have hq := hle i.toNat (by omega) g
 have no : gP q i.toNat = false → False := fun h => by rw [hq] at h; cases h
 exact ⟨O2, fun hno => (hno _ hc).elim, fun _ r1 h1 => ⟨O3, no, fun _ r2 h2 => fin e (by rw [h1.1]; exact Int.le_refl 0) h2.1⟩, fun _ r1 _ _ _ _ h1 => ⟨O3, no, fun _ r2 h2 => fin e (h1.1.2 _ hc) h2.1⟩⟩
theorem bit_rng {x : Int} (h0 : 0 ≤ x) (h1 : x ≤ 2) : 0 ≤ IntKind.i64.wrap (2 ^ x.toNat.min 64) ∧ IntKind.i64.wrap (2 ^ x.toNat.min 64) ≤ 63 := by
 obtain ⟨k, rfl⟩ := nat_of h0
 rw [Int.toNat_natCast]
 have : ∀ k : Nat, k < 3 → 0 ≤ IntKind.i64.wrap (2 ^ Nat.min k 64) ∧ IntKind.i64.wrap (2 ^ Nat.min k 64) ≤ 63 := by decide
 exact this k (by omega)
theorem let_ok {p x : Int} (hp : 0 ≤ p ∧ p ≤ 63) (h0 : 0 ≤ x) (h1 : x ≤ 2) : (0 ≤ bitsOf .or .i64 p (IntKind.i64.wrap (2 ^ x.toNat.min 64)) ∧ bitsOf .or .i64 p (IntKind.i64.wrap (2 ^ x.toNat.min 64)) ≤ 63) ∧ gle p (bitsOf .or .i64 p (IntKind.i64.wrap (2 ^ x.toNat.min 64))) := by
 have hb := bit_rng h0 h1
 have := or_rng (k := 6) (by decide) hp.1 (show p < 2 ^ 6 by omega) hb.1 (show _ < 2 ^ 6 by omega)
 exact ⟨by omega, gP_or hp hb⟩
theorem HopL.nil_le {L M : List Int} {n m : Nat} {p q : Int} {b : List Int} (h : HopL L n p []) (h' : HopL M m q b) (hm : ∀ (x : Nat) (c : Int), Wy (benchL L n) n (gP p) x c → Wy (benchL M m) m (gP q) x c) (hb : 1 ≤ b.length ∧ b.length ≤ 64) : False := by
 have := (h.less h' hm).1
 rw [List.length_nil] at this
 omega
set_option maxRecDepth 20000 in
theorem v_Row (P : Program) (ρ : Env) (hv : vals ρ) (hΓ : Γ0.On ρ) (hl : ρ.k.length = 17) (hp : cRow.pre ρ) : VC cRow (ndRow P) none ρ (e_Row P) := by
 simp only [VC, oblC, asmC, appAsm, outAt, ndAt, allTrue, ve, BE.den, LX.den, nv, li, rowP, tT, e_Row, b1_, b3_, b7_, b8_, b9_, b13_, ndRow, cRow, mel, cAgents, cAgent, cTo, cPass, cHop, cHopN, cFined, pA, nL, pM, pN] at hp ⊢
 simp only [vb, bdList, hl, IE.den, forall_eq', implies_true, reduceIte, reduceCtorEq, Nat.reduceAdd, Nat.reduceSub, Nat.reduceLeDiff, Nat.reduceLT, Nat.reduceEqDiff] at hp ⊢
 intro _ _
 refine ⟨⟨hp, by decide, by decide, by decide, by decide, by decide, by decide⟩, ?_, ?_⟩
 ·rintro _ r ⟨a1, a2⟩
  refine ⟨⟨hp, a1, by omega, by decide, by decide⟩, ?_⟩
  rintro _ r1 _ r2 ⟨b1, b2, b3, b4⟩ _ _
  refine ⟨⟨hp, by omega, by omega, by decide, by decide⟩, ?_⟩
  rintro _ r3 _ r4 ⟨c1, c2, c3⟩ _ _ _ _
  refine ⟨⟨hp, by omega, by omega, by decide, by decide⟩, ?_⟩
  rintro _ r5 _ r6 ⟨d1, d2, d3⟩
  have T : [0, 1, 56, 2, 57, 49, 28, 3, 61, 58, 42, 50, 38, 29, 17, 4, 62, 47, 59, 36, 45, 43, 51, 22, 53, 39, 33, 30, 24, 18, 12, 5, 63, 55, 48, 27, 60, 41, 37, 16, 46, 35, 44, 21, 52, 32, 23, 11, 54, 26, 40, 15, 34, 20, 31, 10, 25, 14, 19, 9, 13, 8, 7, 6] = tab64' := rfl
  generalize (List.map intOf r2).getD 0 0 = p at *
  obtain ⟨q0, hle⟩ := let_ok (p := p) ⟨b3, b4⟩ d2 d3
  generalize bitsOf .or .i64 p (IntKind.i64.wrap (2 ^ ((List.map intOf r6).getD 0 0).toNat.min 64)) = q at *
  have hM : agsV [(List.map intOf r4).getD 0 0, (List.map intOf r4).getD 1 0, (List.map intOf r4).getD 2 0, (List.map intOf r4).getD 3 0, (List.map intOf r4).getD 4 0] 1 := ⟨rfl, by decide, fun i hi => by
   have e : i = 0 := by omega
   subst e
   exact agV_up (agV_five c3 rfl rfl rfl rfl rfl)⟩
  generalize [(List.map intOf r4).getD 0 0, (List.map intOf r4).getD 1 0, (List.map intOf r4).getD 2 0, (List.map intOf r4).getD 3 0, (List.map intOf r4).getD 4 0] = M at *
  have hPN : PN M p q := ⟨hM, ⟨b3, b4⟩, q0, hle⟩
  have w2 : ∀ (x : Nat) (c : Int), Wy (benchL [] 0) 0 (gP p) x c → Wy (benchL M 1) 1 (gP p) x c := wy_agents (by omega) fun i hi => absurd hi (by omega)
  have w3 : ∀ (x : Nat) (c : Int), Wy (benchL [] 0) 0 (gP p) x c → Wy (benchL [] 0) 0 (gP q) x c := wy_pass hle
  have O2 : (1 ≤ 1 ∧ agsV M 1) ∧ (0 ≤ p ∧ p ≤ 63) := ⟨⟨by decide, hM⟩, b3, b4⟩
  refine ⟨⟨⟨b3, b4⟩, T⟩, fun hA => ⟨⟨⟨by decide, hM⟩, ⟨b3, b4⟩, T⟩, fun hB => ⟨⟨q0, T⟩, fun hC => hPN, fun _ _ _ r hC => (hA.nil_le hC.1 w3 hC.2).elim⟩, fun _ _ _ r hB => ⟨⟨q0, T⟩, fun hC => (hA.nil_le hB.1 w2 hB.2).elim, fun _ _ _ _ _ => (hA.nil_le hB.1 w2 hB.2).elim⟩⟩, ?_⟩
  rintro _ _ _ ra ⟨hA, hA1⟩
  refine ⟨⟨⟨by decide, hM⟩, ⟨b3, b4⟩, T⟩, fun hB => ⟨⟨q0, T⟩, fun hC => hPN, fun _ _ _ rc hC => ?_⟩, ?_⟩
  ·have l3 := hA.less hC.1 w3
   exact ⟨fun h => by omega, fun _ => ⟨hPN, hA1, hC.2, l3.2⟩⟩
  ·rintro _ _ _ rb ⟨hB, hB1⟩
   have l2 := hA.less hB w2
   refine ⟨⟨q0, T⟩, fun hC => ⟨fun h => by omega, fun _ => ⟨hPN, hA1, hB1, l2.2, by decide, by omega⟩⟩, ?_⟩
   rintro _ _ _ rc ⟨hC, hC1⟩
   have l3 := hA.less hC w3
   exact ⟨fun h => by omega, fun _ => ⟨fun h => by omega, fun _ => ⟨hPN, hA1, hB1, hC1, l2.2, l3.2, by decide, by omega⟩⟩⟩
 ·rintro _ r _ _ _ x ⟨a1, a2, c, a3, a4, -, a5, a6⟩
  have hA : agsV (List.map intOf x) c := ⟨a5, by omega, fun i hi => agV_up (a6 i hi)⟩
  have ht := len_tdiv a5
  have hn := nA_of a5
  rw [ht, Int.toNat_natCast]
  generalize List.map intOf x = L at *
  refine ⟨⟨hp, a1, by omega, by decide, by decide⟩, ?_⟩
  rintro _ r1 _ r2 ⟨b1, b2, b3, b4⟩ _ _
  refine ⟨by omega, ?_⟩
  rintro _ rL eL _ _
  have eL' : List.map intOf rL = L := by
   rw [eL, List.nil_append]
   show List.take _ (List.drop 0 L) = L
   rw [List.drop_zero, List.take_of_length_le (by omega)]
  rw [eL']
  refine ⟨⟨hp, by omega, by omega, by decide, by decide⟩, ?_⟩
  rintro _ r3 _ r4 ⟨c1, c2, c3⟩ _ _
  rw [ht]
  refine ⟨by omega, ?_⟩
  rintro _ rM eM _ _
  refine ⟨⟨hp, by omega, by omega, by decide, by decide⟩, ?_⟩
  rintro _ r5 _ r6 ⟨d1, d2, d3⟩
  have T : [0, 1, 56, 2, 57, 49, 28, 3, 61, 58, 42, 50, 38, 29, 17, 4, 62, 47, 59, 36, 45, 43, 51, 22, 53, 39, 33, 30, 24, 18, 12, 5, 63, 55, 48, 27, 60, 41, 37, 16, 46, 35, 44, 21, 52, 32, 23, 11, 54, 26, 40, 15, 34, 20, 31, 10, 25, 14, 19, 9, 13, 8, 7, 6] = tab64' := rfl
  generalize (List.map intOf r2).getD 0 0 = p at *
  obtain ⟨q0, hle⟩ := let_ok (p := p) ⟨b3, b4⟩ d2 d3
  generalize bitsOf .or .i64 p (IntKind.i64.wrap (2 ^ ((List.map intOf r6).getD 0 0).toNat.min 64)) = q at *
  have hMl : (List.map intOf rM).length = 5 * (c + 1) := by rw [eM, List.length_append, a5]; rfl
  have hM : agsV (List.map intOf rM) (c + 1) := ⟨hMl, by omega, by
   rw [eM]
   exact agV_app a5 (fun i hi => hA.2.2 i hi) (agV_up (agV_five c3 rfl rfl rfl rfl rfl))⟩
  have hpre : ∀ i, i < 5 * c → (List.map intOf rM).getD i 0 = L.getD i 0 := fun i hi => by rw [eM, getD_app, if_pos (by omega)]
  have ht2 := len_tdiv hMl
  rw [ht2, Int.toNat_natCast]
  generalize List.map intOf rM = M at *
  have hPM : PM L M p q := by
   unfold PM
   rw [hn]
   exact ⟨hA, a3, ⟨hM, hpre⟩, ⟨b3, b4⟩, q0, hle⟩
  have w2 : ∀ (x : Nat) (k : Int), Wy (benchL L c) c (gP p) x k → Wy (benchL M (c + 1)) (c + 1) (gP p) x k := wy_agents (by omega) hpre
  have w3 : ∀ (x : Nat) (k : Int), Wy (benchL L c) c (gP p) x k → Wy (benchL L c) c (gP q) x k := wy_pass hle
  have O1 : (1 ≤ (c : Int) ∧ agsV L c) := ⟨by omega, hA⟩
  have O2 : (1 ≤ ((c + 1 : Nat) : Int) ∧ agsV M (c + 1)) := ⟨by omega, hM⟩
  refine ⟨⟨O1, ⟨b3, b4⟩, T⟩, fun hA => ⟨⟨O2, ⟨b3, b4⟩, T⟩, fun hB => ⟨⟨O1, q0, T⟩, fun hC => hPM, fun _ _ _ r hC => (hA.nil_le hC.1 w3 hC.2).elim⟩, fun _ _ _ r hB => ⟨⟨O1, q0, T⟩, fun hC => (hA.nil_le hB.1 w2 hB.2).elim, fun _ _ _ _ _ => (hA.nil_le hB.1 w2 hB.2).elim⟩⟩, ?_⟩
  rintro _ _ _ ra ⟨hA, hA1⟩
  refine ⟨⟨O2, ⟨b3, b4⟩, T⟩, fun hB => ⟨⟨O1, q0, T⟩, fun hC => hPM, fun _ _ _ rc hC => ?_⟩, ?_⟩
  ·have l3 := hA.less hC.1 w3
   exact ⟨fun h => by omega, fun _ => ⟨hPM, hA1, hC.2, l3.2⟩⟩
  ·rintro _ _ _ rb ⟨hB, hB1⟩
   have l2 := hA.less hB w2
   refine ⟨⟨O1, q0, T⟩, fun hC => ⟨fun h => by omega, fun _ => ⟨hPM, hA1, hB1, l2.2, by decide, by omega⟩⟩, ?_⟩
   rintro _ _ _ rc ⟨hC, hC1⟩
   have l3 := hA.less hC w3
   exact ⟨fun h => by omega, fun _ => ⟨fun h => by omega, fun _ => ⟨hPM, hA1, hB1, hC1, l2.2, l3.2, by decide, by omega⟩⟩⟩
end Ft
set_option linter.unusedVariables false
namespace Mv
open Go
theorem Goes.steps {P : Program} {Stop : Goroutine → Own → Prop} {g : Goroutine} {S : Own} (h : Goes P Co.lone Stop g S) (hStop : ∀ g S, Stop g S → g = G g.frame g.callers) : ∀ {w : World}, S.In w →
  ∃ g' S' w', Stop g' S' ∧ Mid S w S' w' ∧ Steps P (lone g.frame g.callers w) (lone g'.frame g'.callers w') ∧ g = G g.frame g.callers := by
 induction h with
 | stop h => exact fun hw => ⟨_, _, _, h, .refl hw, Steps.refl _ _, hStop _ _ h⟩
 | big Q h1 _ ih => exact h1.elim
 | @step g₀ _ g' w' es S' hs h1 h2 ih =>
  intro w hw
  have hs := hs.2 rfl
  obtain ⟨he, hm, _⟩ := h1 w hw
  obtain ⟨g2, S2, w2, hst, hm2, hsteps, hg'⟩ := ih w hw hm.inn
  refine ⟨g2, S2, w2, hst, hm.trans hm2, Steps.head (m₁ := lone (g' w).frame (g' w).callers (w' w)) (step_lone_go ?_) hsteps, hs⟩
  have e1 : ({ frame := (g' w).frame, callers := (g' w).callers, status := .running, dying := none } : Goroutine) = g' w := hg'.symm
  rw [e1]
  have e2 := hs.symm
  unfold G at e2
  have he' : stepG P true g₀ w = GStep.go (g' w) (w' w) (es w) := he
  rw [e2, he']
  rfl
theorem Calls.lone {P : Program} {f : FuncId} {args : Array Value} {S : Own} {Post : End → Own → Prop} (h : Calls P Co.lone f args S Post) {w : World} (hw : S.In w) :
  Go.Calls P f args w fun e w' => ∃ e' S', e = End.ending e' ∧ Mid S w S' w' ∧ Post e' S' := by
 intro cs
 obtain ⟨g', S', w', ⟨x, e, rfl, p, hf, hkd, hd, fn, hfn, hl⟩, hm, hs, _⟩ :=
  (h (fun g S' => ∃ x e, g = G x cs ∧ Post e S' ∧ Leaves P f .normal e x S') .normal cs (by decide) fun x e S' p l => .stop ⟨x, e, rfl, p, l⟩).steps (by rintro g S ⟨x, e, rfl, _⟩; rfl) hw
 cases e with
 | panicked ch => exact ⟨.panicked ch, w', x, ⟨.panicked ch, S', rfl, hm, p⟩, hs, hf, hl, hd, fn, by rw [hf]; exact hfn⟩
 | returned v =>
  obtain ⟨hmode, hr⟩ := hl
  obtain ⟨z, w3, es3, hr3, _, _, rfl, rfl⟩ := (hr w' hm.inn).sound #[]
  have e1 : (results fn x.tmps).run P w3 = .ok v w3 := by have := congrArg Prod.fst hr3; simpa [outcome] using this
  exact ⟨.returned v, w3, x, ⟨.returned v, S', rfl, hm, p⟩, hs, hf, hmode, hd, hkd, fn, by rw [hf]; exact hfn, e1⟩
end Mv
set_option linter.unusedVariables false
namespace Mw
open Go Mv
theorem rowAt_off {P : Program} {fits : TypeId → Bool} : ∀ {d : Nat} {e : TypeId} {count off n : Nat}, rowAt P fits d e count off n = true → off ≤ count * P.cellsOf e
 | 0, _, _, _, _, h => by simp [rowAt] at h
 | d + 1, e, count, off, n, h => by
  simp only [rowAt] at h
  split at h
  ·cases h
  ·rename_i hs
   have hm := Nat.div_add_mod off (P.cellsOf e)
   have hlt := Nat.mod_lt off (Nat.pos_of_ne_zero hs)
   simp only [Bool.or_eq_true, Bool.and_eq_true, beq_iff_eq, decide_eq_true_eq] at h
   rcases h with ⟨⟨h1, h2⟩, _⟩ | ⟨h1, _⟩
   ·have := Nat.mul_le_mul_right (P.cellsOf e) (show off / P.cellsOf e ≤ count by omega)
    rw [Nat.mul_comm] at hm
    omega
   ·have := Nat.mul_le_mul_right (P.cellsOf e) (show off / P.cellsOf e + 1 ≤ count by omega)
    rw [Nat.add_mul, Nat.one_mul] at this
    rw [Nat.mul_comm] at hm
    omega
theorem liesAt_off {P : Program} : ∀ {d : Nat} {e : TypeId} {count off : Nat} {u : TypeId} {n : Nat}, Go.liesAt P d e count off u n = true → off ≤ count * P.cellsOf e
 | 0, _, _, _, _, _, h => by simp [Go.liesAt] at h
 | d + 1, e, count, off, u, n, h => by
  simp only [Go.liesAt, Bool.or_eq_true] at h
  rcases h with h | h
  ·exact rowAt_off h
  ·split at h
   ·exact liesAt_off h
   ·cases h
theorem has_cells {P : Program} {W : World} {r : Reach} {base n : Nat} {a : Addr} {e : TypeId} (h : W.has P r base a e n) : a.spot = none ∧ ∃ cs ty fz, W.heap[a.block]? = some (.cells cs ty fz) ∧ a.off ≤ cs.size := by
 obtain ⟨_, h1, row, cells, h2, h3⟩ := h
 refine ⟨h1, ?_⟩
 unfold World.shape? at h2
 split at h2
 ·rename_i c elem fz hc
  simp only [Option.some.injEq, Prod.mk.injEq] at h2
  obtain ⟨rfl, rfl⟩ := h2
  exact ⟨c, elem, fz, hc, Nat.le_trans (liesAt_off h3) (Nat.div_mul_le_self _ _)⟩
 ·cases h2
theorem patch_same {cs : Array Value} {ty : TypeId} {fz : Nat × Nat} {o : Nat} {vs : List Value} (ho : o ≤ cs.size) (h : ∀ i, i < vs.length → cs[o + i]? = vs[i]?) : patch (.cells cs ty fz) o vs = .cells cs ty fz := by
 simp only [patch]
 congr 1
 have hle : o + vs.length ≤ cs.size := by
  by_cases h0 : vs.length = 0
  ·omega
  ·have := h (vs.length - 1) (by omega)
   rw [List.getElem?_eq_getElem (by omega)] at this
   have := (Array.getElem?_eq_some_iff.1 this).1
   omega
 apply Array.ext'
 apply List.ext_getElem?
 intro i
 rw [Nat.sub_eq_zero_of_le ho]
 simp only [List.replicate_zero, List.append_nil, List.append_assoc]
 have hlt : (cs.toList.take o).length = o := by simp; omega
 rcases Nat.lt_or_ge i o with h1 | h1
 ·rw [List.getElem?_append_left (by omega), List.getElem?_take_of_lt h1]
 ·rw [List.getElem?_append_right (by omega), hlt]
  rcases Nat.lt_or_ge (i - o) vs.length with h2 | h2
  ·rw [List.getElem?_append_left h2, ← h _ h2, ← Array.getElem?_toList]
   congr 1; omega
  ·rw [List.getElem?_append_right h2, List.getElem?_drop]
   congr 1; omega
theorem ints_of {H : Type} {enc : TypeId × Value → H} {P : Program} {W : World} {t e : TypeId} {v : Value} {d : DataW H} {ps : List MemPlace} {base : Nat} (ht : P.underlying t = some (.slice e)) (he : P.underlying e = some (.int .i64)) (hc : P.cellsOf e = 1)
  (hv : Value.okWide P W .any base t v) (h : DataW.Trod enc P W 0 (fun _ => true) true t v d ps) :
  (v = .slice none 0 0) ∨ ∃ (b off len cap : Nat) (cs : Array Value) (ty : TypeId) (fz : Nat × Nat) (L : List Int) (rest : List (DataW H)) (els : List (DataW H)), v = .slice (some ⟨b, off, none⟩) len cap ∧ len ≤ cap ∧ L.length = len ∧
   W.heap[b]? = some (.cells cs ty fz) ∧ patch (.cells cs ty fz) off (L.map (Value.int .i64)) = .cells cs ty fz ∧ d = .slice els rest ∧ els.length + rest.length = cap := by
 have hv' : Cell.ok P W .any base t v := by
  unfold Value.okWide at hv
  rw [ht] at hv
  simp only [Cell.okWide, ht] at hv
  exact hv
 obtain ⟨fuel, h⟩ := h
 unfold Cell.ok at hv'
 rw [ht] at hv'
 split at hv' <;> first | (exact hv'.elim) | (rename_i hx; cases hx; done) | skip
 ·exact .inl rfl
 ·rename_i a len cap hx
  obtain rfl := TypeDesc.slice.inj (Option.some.inj hx)
  obtain ⟨h1, h2, h3⟩ := hv'
  obtain ⟨k1, cs, ty, fz, k2, k3⟩ := has_cells h3
  rcases Go.ChangeShapes.open_ints ht he hc h with ⟨h4, _⟩ | ⟨a', len', cap', zs, h4, _, h5, h6, h7, h8, h9, h10⟩
  ·simp [Value.cells] at h4
  ·simp only [Value.cells, List.cons.injEq, Value.slice.injEq, Option.some.injEq, and_true] at h4
   obtain ⟨rfl, rfl, rfl⟩ := h4
   rw [if_pos rfl] at h7
   obtain ⟨b, off, spot⟩ := a
   simp only at k1 k2 k3
   subst k1
   simp only [Prod.mk.injEq] at h8
   refine .inr ⟨b, off, len, cap, cs, ty, fz, zs.take len, _, _, rfl, h1, by simp [h7, h1], k2, patch_same k3 fun i hi => ?_, h8.1, by simp [Go.ChangeShapes.lits, h7]; omega⟩
   simp only [List.length_map, List.length_take] at hi
   have := h9 i (by omega)
   have e : (Addr.add ⟨b, off, none⟩ i) = ⟨b, off + i, none⟩ := by simp [Addr.add]
   rw [e] at this
   unfold World.cell? at this
   simp only [k2, Option.isSome_none, Bool.false_eq_true, if_false] at this
   rw [this, List.getElem?_map, List.getElem?_take_of_lt (by omega), List.getElem?_eq_getElem (by omega)]
   simp [List.getD, List.getElem?_eq_getElem (show i < zs.length by omega)]
theorem trodAll_stays {H : Type} {enc : TypeId × Value → H} {P : Program} {W W' : World} {sp' : Nat → Bool} (hl : laidOutB P = true) (hb : Go.RowKit.Below W.heap.size W W') : ∀ {ts : List TypeId} {vs : List Value} {ds : List (DataW H)} {ps : List MemPlace},
  (∀ t ∈ ts, P.readableRec t = true ∧ t < P.types.size) → DataW.TrodAll enc P W 0 (fun _ => true) true ts vs ds ps → (∀ x ∈ ps, x.block < W.heap.size) → (∀ x ∈ ps, sp' x.block = true) → DataW.TrodAll enc P W' 0 sp' true ts vs ds ps
 | [], [], [], ps, _, h, _, _ => h
 | t :: ts, v :: vs, d :: ds, ps, ht, ⟨p, q, h1, h2, e⟩, hlt, hsp => by
  subst e
  obtain ⟨k1, k2⟩ := ht t List.mem_cons_self
  exact ⟨p, q, WideElems.Trod_stays hl k1 k2 h1 (fun x hx => hb.same (hlt x (List.mem_append_left _ hx))) (fun x hx => hsp x (List.mem_append_left _ hx)),
   trodAll_stays hl hb (fun t ht' => ht t (List.mem_cons_of_mem _ ht')) h2 (fun x hx => hlt x (List.mem_append_right _ hx)) (fun x hx => hsp x (List.mem_append_right _ hx)), rfl⟩
 | [], [], _ :: _, _, _, h, _, _ | [], _ :: _, _, _, _, h, _, _ | _ :: _, [], _, _, _, h, _, _ | _ :: _, _ :: _, [], _, _, h, _, _ => h.elim
theorem mid_below {S S' : Own} {W w' : World} (h : Mid S W S' w') (hS : ∀ b, S.full b = none) : Go.RowKit.Below W.heap.size W w' :=
 ⟨h.os, h.tape, h.output, h.size, fun k hk => h.kept k hk (hS k)⟩
def readsW (W : World) (bs : List Nat) : Own := { full := fun _ => none, ro := fun b => match bs.contains b with
  | true => W.heap[b]?
  | false => none }
theorem readsW_ro {W : World} {bs : List Nat} {b : Nat} (h : b ∈ bs) : (readsW W bs).ro b = W.heap[b]? := by
 simp only [readsW, List.contains_iff_mem.2 h]
theorem readsW_in {W : World} {bs : List Nat} (h : ∀ b ∈ bs, ∀ o, W.heap[b]? = some o → mapish o = false) : (readsW W bs).In W where
 lay b o hb := by cases hb
 layro b o hb := by
  simp only [readsW] at hb
  split at hb
  ·rename_i hc
   exact Lay.self hb (h b (List.contains_iff_mem.1 hc) o hb)
  ·cases hb
 disj b hb := by cases hb
theorem readsW_sat {W : World} {bs : List Nat} {ρ : Env} {l : List (Nat × SO)} (h : ∀ x ∈ l, x.1 < ρ.k.length ∧ x.2.ok ρ.k.length ∧ ρ.blk x.1 ∈ bs ∧ W.heap[ρ.blk x.1]? = some (x.2.den ρ)) : Sat ρ ⟨setsT [], setsT l, .none⟩ (readsW W bs) (readsW W bs) where
 has i u hi := by simp [setsT, Tr.nil_look] at hi
 hro i u hi := by
  obtain ⟨h1, h2, h3, h4⟩ := h (i, u) (setsT_look hi)
  exact ⟨h1, h2, by rw [readsW_ro h3]; exact h4⟩
 inj i j u u' hi := by simp [setsT, Tr.nil_look] at hi
 frm b u hb := hb
 apart i u hi := by simp [setsT, Tr.nil_look] at hi
 ro b u hb := hb
 gh := rfl
 dis b hb := by cases hb
 ghok := trivial
 lent i hi := by cases hi
 linj i hi := by cases hi
 rinj i hi := by cases hi
 lnd := List.nodup_nil
theorem yes_calls {P : Program} {Γ0 : Facts} {c : Con} {v : SC} (hc : c.Ok P true Γ0) (hrw : c.rw = []) (hout : ∀ o ∈ c.outs, o.v = .bool (.lit true)) {W : World} {bs : List Nat} {ρ : Env} (hv : vals ρ) (hΓ : Γ0.On ρ) (hl : ρ.k.length = 16 + c.m) (hp : c.pre ρ)
  (hm : ∀ b ∈ bs, ∀ o, W.heap[b]? = some o → mapish o = false) (hr : ∀ x ∈ c.ro, x.1 < ρ.k.length ∧ x.2.ok ρ.k.length ∧ ρ.blk x.1 ∈ bs ∧ W.heap[ρ.blk x.1]? = some (x.2.den ρ)) :
  Go.Calls P c.f (c.args.map (SC.den ρ)).toArray W fun e w' => e = .returned (.bool true) ∧ Go.RowKit.Below W.heap.size W w' := by
 have h1 := hc.calls (readsW W bs) ρ (readsW W bs) hv hΓ hl hp (by rw [hrw]; exact readsW_sat hr)
 refine (Calls.lone h1 (readsW_in hm)).mono ?_
 rintro e w' ⟨e', S', rfl, hmid, o, ho, ρ', _, _, rfl, _⟩
 rw [hout o ho]
 exact ⟨rfl, mid_below hmid fun _ => rfl⟩
end Mw
