/- A logic over the machine and a run of a program on unknown values, in the kernel. No statement of the project is proved in this text. -/
import Derived.Below
import Derived.Carry
import Derived.ChangeSlices
import Derived.Test.YtcidaiiknhfkiaaDoorm4
set_option linter.unusedVariables false
set_option linter.unusedSimpArgs false
set_option linter.unusedVariables false
set_option linter.unusedSimpArgs false
open Go Mv Mw Go.Proofs
namespace Ft
theorem cf_ChkAg : ∀ ρ, cChkAg.pre ρ → ∀ b ∈ cChkAg.fs, b.den ρ = true := by
 simp only [cChkAg, pA, fA, agsV, allTrue, List.mem_singleton, List.mem_cons, List.not_mem_nil, List.mem_append, or_false, or_assoc, List.cons_append, List.nil_append, List.append_assoc, forall_eq_or_imp, forall_eq, false_implies, implies_true, and_true, true_and, be_le, IE.den, oN_den, hN_den, h0_den, nm_, ge0, leN, nv, li, Int.toNat_natCast, Int.ofNat_eq_natCast, T62, T61, T60, T59, T58, Nat.reduceAdd]
 try rintro ρ ⟨-, -, -, -, h1, h2, -⟩; exact ⟨h1, h2⟩
theorem of_ChkAg : ∀ o ∈ cChkAg.outs, ∀ ρ, o.post ρ → ∀ b ∈ o.fs, b.den ρ = true := by
 simp only [cChkAg, pA, fA, agsV, allTrue, List.mem_singleton, List.mem_cons, List.not_mem_nil, List.mem_append, or_false, or_assoc, List.cons_append, List.nil_append, List.append_assoc, forall_eq_or_imp, forall_eq, false_implies, implies_true, and_true, true_and, be_le, IE.den, oN_den, hN_den, h0_den, nm_, ge0, leN, nv, li, Int.toNat_natCast, Int.ofNat_eq_natCast, T62, T61, T60, T59, T58, Nat.reduceAdd]
 try (repeat' first | apply And.intro | intro _) <;> omega
theorem nf_ChkAg (P : Program) : ∀ nd ∈ ndChkAg P, ∀ ρ, nd.inv ρ → ∀ b ∈ nd.fs, b.den ρ = true := by
 simp only [ndChkAg, pA, fA, agsV, allTrue, List.mem_singleton, List.mem_cons, List.not_mem_nil, List.mem_append, or_false, or_assoc, List.cons_append, List.nil_append, List.append_assoc, forall_eq_or_imp, forall_eq, false_implies, implies_true, and_true, true_and, be_le, IE.den, oN_den, hN_den, h0_den, nm_, ge0, leN, nv, li, Int.toNat_natCast, Int.ofNat_eq_natCast, T62, T61, T60, T59, T58, Nat.reduceAdd]
 try (repeat' first | apply And.intro | intro _) <;> omega
theorem ok_ChkAg (mm : Bool) : cChkAg.Ok Tryd.prog mm Γ0 :=
 con_by (X := Xf Tryd.prog) (cons := consChkAg) (nds := ndChkAg Tryd.prog) (T0 := e_ChkAg Tryd.prog) (hk_ok _) (fun d hd => by cases hd) (by kernel_rfl) (by kernel_rfl) rfl (by kernel_rfl) cf_ChkAg of_ChkAg (nf_ChkAg _) (by kernel_rfl) (fun ρ hv hΓ hl hp => v_ChkAg Tryd.prog ρ hv hΓ hl hp) trivial
theorem cf_Check : ∀ ρ, cCheck.pre ρ → ∀ b ∈ cCheck.fs, b.den ρ = true := by
 simp only [cCheck, pA, fA, agsV, allTrue, List.mem_singleton, List.mem_cons, List.not_mem_nil, List.mem_append, or_false, or_assoc, List.cons_append, List.nil_append, List.append_assoc, forall_eq_or_imp, forall_eq, false_implies, implies_true, and_true, true_and, be_le, IE.den, oN_den, hN_den, h0_den, nm_, ge0, leN, nv, li, Int.toNat_natCast, Int.ofNat_eq_natCast, T62, T61, T60, T59, T58, Nat.reduceAdd]
 try (repeat' first | apply And.intro | intro _) <;> omega
theorem of_Check : ∀ o ∈ cCheck.outs, ∀ ρ, o.post ρ → ∀ b ∈ o.fs, b.den ρ = true := by
 simp only [cCheck, pA, fA, agsV, allTrue, List.mem_singleton, List.mem_cons, List.not_mem_nil, List.mem_append, or_false, or_assoc, List.cons_append, List.nil_append, List.append_assoc, forall_eq_or_imp, forall_eq, false_implies, implies_true, and_true, true_and, be_le, IE.den, oN_den, hN_den, h0_den, nm_, ge0, leN, nv, li, Int.toNat_natCast, Int.ofNat_eq_natCast, T62, T61, T60, T59, T58, Nat.reduceAdd]
 try (repeat' first | apply And.intro | intro _) <;> omega
theorem nf_Check (P : Program) : ∀ nd ∈ ndCheck P, ∀ ρ, nd.inv ρ → ∀ b ∈ nd.fs, b.den ρ = true := by
 simp only [ndCheck, pA, fA, agsV, allTrue, List.mem_singleton, List.mem_cons, List.not_mem_nil, List.mem_append, or_false, or_assoc, List.cons_append, List.nil_append, List.append_assoc, forall_eq_or_imp, forall_eq, false_implies, implies_true, and_true, true_and, be_le, IE.den, oN_den, hN_den, h0_den, nm_, ge0, leN, nv, li, Int.toNat_natCast, Int.ofNat_eq_natCast, T62, T61, T60, T59, T58, Nat.reduceAdd]
 try (repeat' first | apply And.intro | intro _) <;> omega
theorem ok_Check (mm : Bool) : cCheck.Ok Tryd.prog mm Γ0 :=
 con_by (X := Xf Tryd.prog) (cons := consCheck) (nds := ndCheck Tryd.prog) (T0 := e_Check Tryd.prog) (hk_ok _) (fun d hd => by
  rcases List.mem_cons.1 hd with rfl | hd
  ·exact ok_ChkAg mm
  cases hd) (by kernel_rfl) (by kernel_rfl) rfl (by kernel_rfl) cf_Check of_Check (nf_Check _) (by kernel_rfl) (fun ρ hv hΓ hl hp => v_Check Tryd.prog ρ hv hΓ hl hp) ⟨⟨n_Check_0 Tryd.prog, by kernel_rfl, fun ρ hv hΓ hl hi => v_Check_0 Tryd.prog ρ hv hΓ hl hi⟩, trivial⟩
theorem cf_At1 : ∀ ρ, cAt1.pre ρ → ∀ b ∈ cAt1.fs, b.den ρ = true := by
 simp only [cAt1, pA, fA, agsV, allTrue, List.mem_singleton, List.mem_cons, List.not_mem_nil, List.mem_append, or_false, or_assoc, List.cons_append, List.nil_append, List.append_assoc, forall_eq_or_imp, forall_eq, false_implies, implies_true, and_true, true_and, be_le, IE.den, oN_den, hN_den, h0_den, nm_, ge0, leN, nv, li, Int.toNat_natCast, Int.ofNat_eq_natCast, T62, T61, T60, T59, T58, Nat.reduceAdd]
 try (repeat' first | apply And.intro | intro _) <;> omega
theorem of_At1 : ∀ o ∈ cAt1.outs, ∀ ρ, o.post ρ → ∀ b ∈ o.fs, b.den ρ = true := by
 simp only [cAt1, pA, fA, agsV, allTrue, List.mem_singleton, List.mem_cons, List.not_mem_nil, List.mem_append, or_false, or_assoc, List.cons_append, List.nil_append, List.append_assoc, forall_eq_or_imp, forall_eq, false_implies, implies_true, and_true, true_and, be_le, IE.den, oN_den, hN_den, h0_den, nm_, ge0, leN, nv, li, Int.toNat_natCast, Int.ofNat_eq_natCast, T62, T61, T60, T59, T58, Nat.reduceAdd]
 try (repeat' first | apply And.intro | intro _) <;> omega
theorem nf_At1 (P : Program) : ∀ nd ∈ ndAt1 P, ∀ ρ, nd.inv ρ → ∀ b ∈ nd.fs, b.den ρ = true := by
 simp only [ndAt1, pA, fA, agsV, allTrue, List.mem_singleton, List.mem_cons, List.not_mem_nil, List.mem_append, or_false, or_assoc, List.cons_append, List.nil_append, List.append_assoc, forall_eq_or_imp, forall_eq, false_implies, implies_true, and_true, true_and, be_le, IE.den, oN_den, hN_den, h0_den, nm_, ge0, leN, nv, li, Int.toNat_natCast, Int.ofNat_eq_natCast, T62, T61, T60, T59, T58, Nat.reduceAdd]
 try (repeat' first | apply And.intro | intro _) <;> omega
theorem ok_At1 (mm : Bool) : cAt1.Ok Tryd.prog mm Γ0 :=
 con_by (X := Xf Tryd.prog) (cons := consAt1) (nds := ndAt1 Tryd.prog) (T0 := e_At1 Tryd.prog) (hk_ok _) (fun d hd => by
  rcases List.mem_cons.1 hd with rfl | hd
  ·exact ok_Check mm
  cases hd) (by kernel_rfl) (by kernel_rfl) rfl (by kernel_rfl) cf_At1 of_At1 (nf_At1 _) (by kernel_rfl) (fun ρ hv hΓ hl hp => v_At1 Tryd.prog ρ hv hΓ hl hp) ⟨⟨n_At1_0 Tryd.prog, by kernel_rfl, fun ρ hv hΓ hl hi => v_At1_0 Tryd.prog ρ hv hΓ hl hi⟩, ⟨⟨n_At1_1 Tryd.prog, by kernel_rfl, fun ρ hv hΓ hl hi => v_At1_1 Tryd.prog ρ hv hΓ hl hi⟩, trivial⟩⟩
end Ft
set_option linter.unusedVariables false
set_option linter.unusedSimpArgs false
open Go Mv Mw
namespace Ft
theorem v_Imp (P : Program) (ρ : Env) (hv : vals ρ) (hΓ : Γ0.On ρ) (hl : ρ.k.length = 23) (hp : cImp.pre ρ) : VC cImp (ndImp P) none ρ (e_Imp P) := by
 simp only [VC, oblC, asmC, appAsm, outAt, ndAt, allTrue, List.mem_singleton, List.mem_cons, List.not_mem_nil, or_false, forall_eq_or_imp, forall_eq, BE.den, LX.den, nv, li, rowP, T62, T61, T60, T59, T58, e_Imp, ndImp, cImp, mel, pImp, okP, nB] at hp ⊢
 simp only [envB_list_if, list_grow_if, rest_grow_if, Nat.div_one, bdList, len_grow, hl, int_envB, int_grow, bool_envB, bool_grow, List.getD_cons_zero, List.getD_cons_succ, List.map_cons, List.map_nil, Nat.reduceAdd, Nat.reduceSub, Nat.reduceLeDiff, Nat.reduceLT, Nat.reduceEqDiff, if_true, if_false, reduceIte, IE.den, oN_den, hN_den, h0_den, decide_eq_true_eq, decide_eq_false_iff_not, beq_iff_eq, beq_eq_false_iff_ne, ne_eq, Option.some.injEq, reduceCtorEq, forall_eq', true_and, false_implies, implies_true, and_true, natLit, bits64, bitsU64, Int.one_mul, Bool.not_eq_true', Bool.not_eq_false', not_true_eq_false] at hp ⊢
 obtain ⟨h1, h2, h3, h4⟩ := hp
 exact ⟨⟨h1, h2, h3, h4⟩, by omega, by omega, fun j hj => by omega⟩
theorem v_Imp_0 (P : Program) (ρ : Env) (hv : vals ρ) (hΓ : Γ0.On ρ) (hl : ρ.k.length = 24) (hp : (ndAt (ndImp P) 0).inv ρ) : VC cImp (ndImp P) (some ((ndAt (ndImp P) 0).mu ρ)) ρ (n_Imp_0 P) := by
 simp only [VC, oblC, asmC, appAsm, outAt, ndAt, allTrue, List.mem_singleton, List.mem_cons, List.not_mem_nil, or_false, forall_eq_or_imp, forall_eq, BE.den, LX.den, nv, li, rowP, T62, T61, T60, T59, T58, n_Imp_0, ndImp, cImp, cThr, cHas, cHas0, cCmp, Con.split, oHas0, mel, thrY, agR, pImp, okP, nB, goOn_, putAsm] at hp ⊢
 simp only [envB_list_if, list_grow_if, rest_grow_if, Nat.div_one, bdList, len_grow, hl, int_envB, int_grow, bool_envB, bool_grow, List.getD_cons_zero, List.getD_cons_succ, List.map_cons, List.map_nil, Nat.reduceAdd, Nat.reduceSub, Nat.reduceLeDiff, Nat.reduceLT, Nat.reduceEqDiff, if_true, if_false, reduceIte, IE.den, oN_den, hN_den, h0_den, decide_eq_true_eq, decide_eq_false_iff_not, beq_iff_eq, beq_eq_false_iff_ne, ne_eq, Option.some.injEq, reduceCtorEq, forall_eq', true_and, false_implies, implies_true, and_true, natLit, bits64, bitsU64, Int.one_mul, Bool.not_eq_true', Bool.not_eq_false', not_true_eq_false] at hp ⊢
 obtain ⟨⟨m0, n1, hB, g0, hok⟩, i0, i1, hnb⟩ := hp
 generalize (ρ.list 87).getD 0 0 = i at *
 generalize ρ.list 80 = B at *
 generalize (ρ.list 85).getD 0 0 = n at *
 generalize (ρ.list 86).getD 0 0 = M at *
 generalize ρ.list 82 = T0 at *
 generalize (ρ.list 83).getD 0 0 = C0 at *
 obtain ⟨j, rfl⟩ := nat_of i0
 obtain ⟨m, rfl⟩ := nat_of m0.1
 obtain ⟨nn, rfl⟩ : ∃ k : Nat, n = k := nat_of (by omega)
 simp only [Int.toNat_natCast] at *
 have hm : m < 64 := by omega
 have hlen := hB.len
 have hrT : rngT T0 := ⟨hok.len, fun k hk => by have := hok.rng k hk; omega⟩
 have E0 : ((j : Int) * 6).toNat = 6 * j := by omega
 have E1 : ((j : Int) * 6 + 1).toNat = 6 * j + 1 := by omega
 have E2 : ((j : Int) * 6 + 2).toNat = 6 * j + 2 := by omega
 have E3 : ((j : Int) * 6 + 3).toNat = 6 * j + 3 := by omega
 have E4 : ((j : Int) * 6 + 4).toNat = 6 * j + 4 := by omega
 have E5 : ((j : Int) * 6 + 5).toNat = 6 * j + 5 := by omega
 have G0 : B.getD (6 * j) 0 = fld B j 0 := rfl
 have G1 : B.getD (6 * j + 1) 0 = fld B j 1 := rfl
 have G2 : B.getD (6 * j + 2) 0 = fld B j 2 := rfl
 have G3 : B.getD (6 * j + 3) 0 = fld B j 3 := rfl
 have G4 : B.getD (6 * j + 4) 0 = fld B j 4 := rfl
 have G5 : B.getD (6 * j + 5) 0 = fld B j 5 := rfl
 have F0 : ((m : Int) * 8).toNat = 8 * m := by omega
 have F1 : ((m : Int) * 8 + 1).toNat = 8 * m + 1 := by omega
 have F7 : ((m : Int) * 8 + 7).toNat = 8 * m + 7 := by omega
 have H0 : T0.getD (8 * m) 0 = cst T0 m := rfl
 have H1 : T0.getD (8 * m + 1) 0 = pts T0 m := rfl
 have H7 : T0.getD (8 * m + 7) 0 = num T0 m := rfl
 have J0 : mayA (fld B j 0) (fld B j 1) m = mayJ B m j := rfl
 have J1 : aftA (fld B j 2) (fld B j 3) m = aftJ B m j := rfl
 have W : bitsOf .or .u64 C0 (IntKind.u64.wrap (2 ^ Nat.min m 64)) = withU C0 m := by unfold withU; rw [Int.one_mul, Int.toNat_natCast]
 simp only [E0, E1, E2, E3, E4, E5, G0, G1, G2, G3, G4, G5, F0, F1, F7, H0, H1, H7, J0, J1, W]
 have few := hB.few
 refine ⟨fun hj => ?_, fun hj k hk => hnb k (by omega)⟩
 have hjn : j < nn := by omega
 obtain ⟨a0, a1, a2, a3, a4, a5⟩ := hB.rng j hjn
 have gen : ∀ (a b : Nat) (r : List Int), Better B T0 C0 m j → r = putL T0 (8 * m) (newT B T0 m j) → r.length = 512 ∧ (∀ g, OkT B nn g T0 C0 → OkT B nn g r (withU C0 m)) ∧ phi r (withU C0 m) < phi T0 C0 := by
  rintro _ _ r hb rfl
  exact ⟨(hok.better hB hm hjn hb).1.len, fun g hg => (hg.better hB hm hjn hb).1, (hok.better hB hm hjn hb).2⟩
 have no : ¬ Better B T0 C0 m j → ∀ k : Nat, (k : Int) < j + 1 → ¬ Better B T0 C0 m k := fun h k hk => by
  by_cases e : k = j
  ·rw [e]; exact h
  ·exact hnb k (by omega)
 refine ⟨by omega, fun _ _ => ⟨⟨m0, hrT, a2, a3, a4⟩, fun hn _ _ => ⟨⟨⟨m0, n1, hB, g0, hok⟩, by omega, by omega, no fun hb => hn ⟨hb.1, hb.2.1⟩⟩, by omega⟩, ?_⟩⟩
 rintro _ r ⟨⟨y1, y2⟩, x1, x2⟩ _ _
 rw [x1, x2]
 refine ⟨m0, fun h1 => ⟨fun h2 _ r2 h3 => ⟨⟨⟨m0, n1, hB, g0, hok⟩, by omega, by omega, gen 0 0 _ ⟨y1, y2, .inr h2⟩ h3⟩, by omega⟩, ?_, ?_⟩, fun h1 _ r2 h3 => ⟨⟨⟨m0, n1, hB, g0, hok⟩, by omega, by omega, gen 0 0 _ ⟨y1, y2, .inl h1⟩ h3⟩, by omega⟩⟩
 all_goals exact fun h2 => ⟨⟨⟨m0, n1, hB, g0, hok⟩, by omega, by omega, no fun hb => by
  rcases hb.2.2 with h | h
  ·rw [h1] at h; cases h
  ·exact h2 h⟩, by omega⟩
theorem v_Imp_1 (P : Program) (ρ : Env) (hv : vals ρ) (hΓ : Γ0.On ρ) (hl : ρ.k.length = 26) (hp : (ndAt (ndImp P) 1).inv ρ) : VC cImp (ndImp P) (some ((ndAt (ndImp P) 1).mu ρ)) ρ (n_Imp_1 P) := by
 simp only [VC, oblC, asmC, appAsm, outAt, ndAt, allTrue, List.mem_singleton, List.mem_cons, List.not_mem_nil, or_false, forall_eq_or_imp, forall_eq, BE.den, LX.den, nv, li, rowP, T62, T61, T60, T59, T58, n_Imp_1, ndImp, cImp, cThr, cHas, cHas0, cCmp, Con.split, oHas0, mel, thrY, agR, pImp, okP, nB, goOn_, putAsm] at hp ⊢
 simp only [envB_list_if, list_grow_if, rest_grow_if, Nat.div_one, bdList, len_grow, hl, int_envB, int_grow, bool_envB, bool_grow, List.getD_cons_zero, List.getD_cons_succ, List.map_cons, List.map_nil, Nat.reduceAdd, Nat.reduceSub, Nat.reduceLeDiff, Nat.reduceLT, Nat.reduceEqDiff, if_true, if_false, reduceIte, IE.den, oN_den, hN_den, h0_den, decide_eq_true_eq, decide_eq_false_iff_not, beq_iff_eq, beq_eq_false_iff_ne, ne_eq, Option.some.injEq, reduceCtorEq, forall_eq', true_and, false_implies, implies_true, and_true, natLit, bits64, bitsU64, Int.one_mul, Bool.not_eq_true', Bool.not_eq_false', not_true_eq_false] at hp ⊢
 obtain ⟨⟨m0, n1, hB, g0, hok0⟩, i0, i1, hl1, hgo, hphi⟩ := hp
 generalize (ρ.list 89).getD 0 0 = i at *
 generalize ρ.list 80 = B at *
 generalize (ρ.list 85).getD 0 0 = n at *
 generalize (ρ.list 86).getD 0 0 = M at *
 generalize ρ.list 82 = T0 at *
 generalize (ρ.list 83).getD 0 0 = C0 at *
 generalize ρ.list 87 = T1 at *
 generalize (ρ.list 88).getD 0 0 = C1 at *
 have hok := hgo g0 hok0
 obtain ⟨j, rfl⟩ := nat_of i0
 obtain ⟨m, rfl⟩ := nat_of m0.1
 obtain ⟨nn, rfl⟩ : ∃ k : Nat, n = k := nat_of (by omega)
 simp only [Int.toNat_natCast] at *
 have hm : m < 64 := by omega
 have hlen := hB.len
 have hrT : rngT T1 := ⟨hok.len, fun k hk => by have := hok.rng k hk; omega⟩
 have E0 : ((j : Int) * 6).toNat = 6 * j := by omega
 have E1 : ((j : Int) * 6 + 1).toNat = 6 * j + 1 := by omega
 have E2 : ((j : Int) * 6 + 2).toNat = 6 * j + 2 := by omega
 have E3 : ((j : Int) * 6 + 3).toNat = 6 * j + 3 := by omega
 have E4 : ((j : Int) * 6 + 4).toNat = 6 * j + 4 := by omega
 have E5 : ((j : Int) * 6 + 5).toNat = 6 * j + 5 := by omega
 have G0 : B.getD (6 * j) 0 = fld B j 0 := rfl
 have G1 : B.getD (6 * j + 1) 0 = fld B j 1 := rfl
 have G2 : B.getD (6 * j + 2) 0 = fld B j 2 := rfl
 have G3 : B.getD (6 * j + 3) 0 = fld B j 3 := rfl
 have G4 : B.getD (6 * j + 4) 0 = fld B j 4 := rfl
 have G5 : B.getD (6 * j + 5) 0 = fld B j 5 := rfl
 have F0 : ((m : Int) * 8).toNat = 8 * m := by omega
 have F1 : ((m : Int) * 8 + 1).toNat = 8 * m + 1 := by omega
 have F7 : ((m : Int) * 8 + 7).toNat = 8 * m + 7 := by omega
 have H0 : T1.getD (8 * m) 0 = cst T1 m := rfl
 have H1 : T1.getD (8 * m + 1) 0 = pts T1 m := rfl
 have H7 : T1.getD (8 * m + 7) 0 = num T1 m := rfl
 have J0 : mayA (fld B j 0) (fld B j 1) m = mayJ B m j := rfl
 have J1 : aftA (fld B j 2) (fld B j 3) m = aftJ B m j := rfl
 have W : bitsOf .or .u64 C1 (IntKind.u64.wrap (2 ^ Nat.min m 64)) = withU C1 m := by unfold withU; rw [Int.one_mul, Int.toNat_natCast]
 simp only [E0, E1, E2, E3, E4, E5, G0, G1, G2, G3, G4, G5, F0, F1, F7, H0, H1, H7, J0, J1, W]
 have few := hB.few
 refine ⟨fun hj => ?_, fun hj => ⟨hl1, hgo, hphi⟩⟩
 have hjn : j < nn := by omega
 obtain ⟨a0, a1, a2, a3, a4, a5⟩ := hB.rng j hjn
 have gen : ∀ (a b : Nat) (r : List Int), Better B T1 C1 m j → r = putL T1 (8 * m) (newT B T1 m j) → r.length = 512 ∧ (∀ g, OkT B nn g T0 C0 → OkT B nn g r (withU C1 m)) ∧ phi r (withU C1 m) < phi T0 C0 := by
  rintro _ _ r hb rfl
  exact ⟨(hok.better hB hm hjn hb).1.len, fun g hg => ((hgo g hg).better hB hm hjn hb).1, Nat.lt_trans (hok.better hB hm hjn hb).2 hphi⟩
 refine ⟨by omega, fun _ _ => ⟨⟨m0, hrT, a2, a3, a4⟩, fun hn _ _ => ⟨⟨⟨m0, n1, hB, g0, hok0⟩, by omega, by omega, hl1, hgo, hphi⟩, by omega⟩, ?_⟩⟩
 rintro _ r ⟨⟨y1, y2⟩, x1, x2⟩ _ _
 rw [x1, x2]
 refine ⟨m0, fun h1 => ⟨fun h2 _ r2 h3 => ⟨⟨⟨m0, n1, hB, g0, hok0⟩, by omega, by omega, gen 0 0 _ ⟨y1, y2, .inr h2⟩ h3⟩, by omega⟩, ?_, ?_⟩, fun h1 _ r2 h3 => ⟨⟨⟨m0, n1, hB, g0, hok0⟩, by omega, by omega, gen 0 0 _ ⟨y1, y2, .inl h1⟩ h3⟩, by omega⟩⟩
 all_goals exact fun h2 => ⟨⟨⟨m0, n1, hB, g0, hok0⟩, by omega, by omega, hl1, hgo, hphi⟩, by omega⟩
end Ft
set_option linter.unusedVariables false
open Go Mv Mw
namespace Ft
def gP (pass : Int) (m : Nat) : Bool := decide (andI pass m = m)
structure DoneT (B : List Int) (n : Nat) (g : Nat → Bool) (P : List Int) (C : Int) : Prop where
 ok : OkT B n g P C
 no : ∀ m j : Nat, m < 64 → j < n → ¬ Better B P C m j
def zer : List Int := List.replicate 512 0
def ordV : SC := .agg [.fn (.func 44) [] []]
def nT (ρ : Env) : Nat := (nv ρ 18 0).toNat
def pTl (ρ : Env) : Prop := 1 ≤ nv ρ 18 0 ∧ Bench (li ρ 17) (nT ρ) ∧ mel ρ 19 0
def fTl : List BE := [.le (.lit (.ofNat 1)) (nm_ 18 0), leN (nm_ 18 0) 4, ge0 (.len 81), leN (.len 81) 24] ++ fM 19 0
def cTolls : Con := { id := 37, f := 24, m := 4, args := [sli 16 18, iv 19 0, ordV], ro := [(16, oB 17 16)], fs := fTl, pre := pTl, outs := [{ n := 3, v := pt 20, rw := [(20, oT 16 18 22 21)], fs := fT 21, post := fun ρ => DoneT (li ρ 17) (nT ρ) (gP (nv ρ 19 0)) (li ρ 21) (nv ρ 22 0) }] }
def ndTolls (P : Program) : List NdS := [
 { key := 0, n := 4, items := itemsAt P 24 0, sl := [(1, iv 19 0), (7, pt 20), (15, iv 23 0)], rw := [(20, oT 16 18 22 21)], ro := [(16, oB 17 16)], fs := fTl ++ fT 21 ++ [ge0 (nm_ 23 0), leN (nm_ 23 0) 64], inv := fun ρ => pTl ρ ∧ li ρ 21 = zer ∧ (0 ≤ nv ρ 22 0 ∧ nv ρ 22 0 < 2 ^ 64) ∧ 0 ≤ nv ρ 23 0 ∧ nv ρ 23 0 ≤ 64 ∧ ∀ m : Nat, m < 64 → (hasU (nv ρ 22 0) m = true ↔ (m : Int) < nv ρ 23 0 ∧ gP (nv ρ 19 0) m = true), mu := fun ρ => 1000000000000000 + (64 - nv ρ 23 0).toNat },
 { key := 2, n := 4, items := itemsAt P 24 2, sl := [(7, pt 20), (9, no_), (31, iv 23 0)], rw := [(20, oT 16 18 22 21)], ro := [(16, oB 17 16)], fs := fTl ++ fT 21 ++ [ge0 (nm_ 23 0), leN (nm_ 23 0) 64], inv := fun ρ => pTl ρ ∧ OkT (li ρ 17) (nT ρ) (gP (nv ρ 19 0)) (li ρ 21) (nv ρ 22 0) ∧ 0 ≤ nv ρ 23 0 ∧ nv ρ 23 0 ≤ 64 ∧ ∀ m j : Nat, (m : Int) < nv ρ 23 0 → j < nT ρ → ¬ Better (li ρ 17) (li ρ 21) (nv ρ 22 0) m j, mu := fun ρ => phi (li ρ 21) (nv ρ 22 0) * 200 + (64 - nv ρ 23 0).toNat },
 { key := 2, n := 4, items := itemsAt P 24 2, sl := [(7, pt 20), (9, yes_), (31, iv 23 0)], rw := [(20, oT 16 18 22 21)], ro := [(16, oB 17 16)], fs := fTl ++ fT 21 ++ [ge0 (nm_ 23 0), leN (nm_ 23 0) 64], inv := fun ρ => pTl ρ ∧ OkT (li ρ 17) (nT ρ) (gP (nv ρ 19 0)) (li ρ 21) (nv ρ 22 0) ∧ 0 ≤ nv ρ 23 0 ∧ nv ρ 23 0 ≤ 64, mu := fun ρ => phi (li ρ 21) (nv ρ 22 0) * 200 + (64 - nv ρ 23 0).toNat + 100 }]
def consTolls : List Con := [cImp]
def runW (B : List Int) (w : Nat → Int) (m : Int) : Nat → Int
 | 0 => m
 | k + 1 => aftJ B (runW B w m k) (w k).toNat
def upW (B : List Int) (n : Nat) (w : Nat → Int) (m : Int) (k : Nat) : Prop := ∀ i : Nat, i < k → (0 ≤ w i ∧ w i < n) ∧ mayJ B (runW B w m i) (w i).toNat = true
def sumW (B : List Int) (w : Nat → Int) : Nat → Int
 | 0 => 0
 | k + 1 => sumW B w k + fld B (w k).toNat 4
def wL (W : List Int) : Nat → Int := fun i => W.getD i 0
structure WayTo (B : List Int) (n : Nat) (P : List Int) (C m cost x : Int) (W : List Int) : Prop where
 up : upW B n (wL W) m W.length
 at_ : x = runW B (wL W) m W.length
 mel : 0 ≤ x ∧ x ≤ 63
 has : hasU C x = true
 cost : sumW B (wL W) W.length + cst P x.toNat = cost
 puts : W.length + pts P x.toNat = pts P m.toNat
def pWt (ρ : Env) : Prop := mel ρ 22 0 ∧ 1 ≤ nv ρ 21 0 ∧ Bench (li ρ 16) (nB ρ) ∧ (∃ g, DoneT (li ρ 16) (nB ρ) g (li ρ 18) (nv ρ 19 0)) ∧ (hasU (nv ρ 19 0) (nv ρ 22 0) = true → pts (li ρ 18) (nv ρ 22 0).toNat ≤ 63)
def roWt : List (Nat × SO) := [(17, oT 20 21 19 18), (20, oB 16 20)]
def cWayT : Con := { id := 38, f := 26, m := 7, args := [pt 17, iv 22 0], ro := roWt, fs := fImp, pre := pWt, outs := [
  { n := 0, v := .tup [nil_, e0, .int .i64 (.lit (.ofNat 11))], rw := [], fs := [], post := fun ρ => hasU (nv ρ 19 0) (nv ρ 22 0) = false },
  { id := 1, n := 1, v := .tup [nil_, iv 23 0, e0], rw := [], fs := [], post := fun ρ => hasU (nv ρ 19 0) (nv ρ 22 0) = true ∧ pts (li ρ 18) (nv ρ 22 0).toNat = 0 ∧ nv ρ 23 0 = cst (li ρ 18) (nv ρ 22 0).toNat },
  { id := 2, n := 3, v := .tup [gro 1 24 25, iv 23 0, e0], rw := [(24, oI 25 24)], fs := [.le (.lit (.ofNat 1)) (.len 89), leN (.len 89) 63], post := fun ρ => hasU (nv ρ 19 0) (nv ρ 22 0) = true ∧ nv ρ 23 0 = cst (li ρ 18) (nv ρ 22 0).toNat ∧ (1 ≤ (li ρ 25).length ∧ (li ρ 25).length ≤ 63) ∧ ∃ x, WayTo (li ρ 16) (nB ρ) (li ρ 18) (nv ρ 19 0) (nv ρ 22 0) (nv ρ 23 0) x (li ρ 25) ∧ pts (li ρ 18) x.toNat = 0 }] }
def ndWayT (P : Program) : List NdS := [
 { key := 0, n := 1, items := itemsAt P 26 0, sl := [(0, pt 17), (1, iv 22 0), (4, nil_), (5, iv 23 0)], ro := roWt, fs := fImp, inv := fun ρ => pWt ρ ∧ hasU (nv ρ 19 0) (nv ρ 22 0) = true ∧ nv ρ 23 0 = cst (li ρ 18) (nv ρ 22 0).toNat, mu := fun ρ => 100 },
 { key := 0, n := 3, items := itemsAt P 26 0, sl := [(0, pt 17), (1, iv 23 1), (4, gro 1 24 25), (5, iv 23 0)], rw := [(24, oI 25 24)], ro := roWt, fs := fImp ++ fM 23 1 ++ [.le (.lit (.ofNat 1)) (.len 89), leN (.len 89) 64], inv := fun ρ => pWt ρ ∧ hasU (nv ρ 19 0) (nv ρ 22 0) = true ∧ nv ρ 23 0 = cst (li ρ 18) (nv ρ 22 0).toNat ∧ (1 ≤ (li ρ 25).length ∧ (li ρ 25).length ≤ 63) ∧ WayTo (li ρ 16) (nB ρ) (li ρ 18) (nv ρ 19 0) (nv ρ 22 0) (nv ρ 23 0) (nv ρ 23 1) (li ρ 25), mu := fun ρ => (pts (li ρ 18) (nv ρ 23 1).toNat).toNat }]
def consWayT : List Con := [cHas, cPutA]
end Ft
set_option linter.unusedVariables false
open Go Mv Mw
namespace Ft
def e_Tolls (P : Program) : VT := (.new (.new (.jump 0 [.keep 16, .keep 17, .keep 18, .keep 19, .keep 21, .ints [(oN 0), (oN 0), (oN 0), (oN 0), (oN 0), (oN 0), (oN 0), (oN 0), (oN 0), (oN 0), (oN 0), (oN 0), (oN 0), (oN 0), (oN 0), (oN 0), (oN 0), (oN 0), (oN 0), (oN 0), (oN 0), (oN 0), (oN 0), (oN 0), (oN 0), (oN 0), (oN 0), (oN 0), (oN 0), (oN 0), (oN 0), (oN 0), (oN 0), (oN 0), (oN 0), (oN 0), (oN 0), (oN 0), (oN 0), (oN 0), (oN 0), (oN 0), (oN 0), (oN 0), (oN 0), (oN 0), (oN 0), (oN 0), (oN 0), (oN 0), (oN 0), (oN 0), (oN 0), (oN 0), (oN 0), (oN 0), (oN 0), (oN 0), (oN 0), (oN 0), (oN 0), (oN 0), (oN 0), (oN 0), (oN 0), (oN 0), (oN 0), (oN 0), (oN 0), (oN 0), (oN 0), (oN 0), (oN 0), (oN 0), (oN 0), (oN 0), (oN 0), (oN 0), (oN 0), (oN 0), (oN 0), (oN 0), (oN 0), (oN 0), (oN 0), (oN 0), (oN 0), (oN 0), (oN 0), (oN 0), (oN 0), (oN 0), (oN 0), (oN 0), (oN 0), (oN 0), (oN 0), (oN 0), (oN 0), (oN 0), (oN 0), (oN 0), (oN 0), (oN 0), (oN 0), (oN 0), (oN 0), (oN 0), (oN 0), (oN 0), (oN 0), (oN 0), (oN 0), (oN 0), (oN 0), (oN 0), (oN 0), (oN 0), (oN 0), (oN 0), (oN 0), (oN 0), (oN 0), (oN 0), (oN 0), (oN 0), (oN 0), (oN 0), (oN 0), (oN 0), (oN 0), (oN 0), (oN 0), (oN 0), (oN 0), (oN 0), (oN 0), (oN 0), (oN 0), (oN 0), (oN 0), (oN 0), (oN 0), (oN 0), (oN 0), (oN 0), (oN 0), (oN 0), (oN 0), (oN 0), (oN 0), (oN 0), (oN 0), (oN 0), (oN 0), (oN 0), (oN 0), (oN 0), (oN 0), (oN 0), (oN 0), (oN 0), (oN 0), (oN 0), (oN 0), (oN 0), (oN 0), (oN 0), (oN 0), (oN 0), (oN 0), (oN 0), (oN 0), (oN 0), (oN 0), (oN 0), (oN 0), (oN 0), (oN 0), (oN 0), (oN 0), (oN 0), (oN 0), (oN 0), (oN 0), (oN 0), (oN 0), (oN 0), (oN 0), (oN 0), (oN 0), (oN 0), (oN 0), (oN 0), (oN 0), (oN 0), (oN 0), (oN 0), (oN 0), (oN 0), (oN 0), (oN 0), (oN 0), (oN 0), (oN 0), (oN 0), (oN 0), (oN 0), (oN 0), (oN 0), (oN 0), (oN 0), (oN 0), (oN 0), (oN 0), (oN 0), (oN 0), (oN 0), (oN 0), (oN 0), (oN 0), (oN 0), (oN 0), (oN 0), (oN 0), (oN 0), (oN 0), (oN 0), (oN 0), (oN 0), (oN 0), (oN 0), (oN 0), (oN 0), (oN 0), (oN 0), (oN 0), (oN 0), (oN 0), (oN 0), (oN 0), (oN 0), (oN 0), (oN 0), (oN 0), (oN 0), (oN 0), (oN 0), (oN 0), (oN 0), (oN 0), (oN 0), (oN 0), (oN 0), (oN 0), (oN 0), (oN 0), (oN 0), (oN 0), (oN 0), (oN 0), (oN 0), (oN 0), (oN 0), (oN 0), (oN 0), (oN 0), (oN 0), (oN 0), (oN 0), (oN 0), (oN 0), (oN 0), (oN 0), (oN 0), (oN 0), (oN 0), (oN 0), (oN 0), (oN 0), (oN 0), (oN 0), (oN 0), (oN 0), (oN 0), (oN 0), (oN 0), (oN 0), (oN 0), (oN 0), (oN 0), (oN 0), (oN 0), (oN 0), (oN 0), (oN 0), (oN 0), (oN 0), (oN 0), (oN 0), (oN 0), (oN 0), (oN 0), (oN 0), (oN 0), (oN 0), (oN 0), (oN 0), (oN 0), (oN 0), (oN 0), (oN 0), (oN 0), (oN 0), (oN 0), (oN 0), (oN 0), (oN 0), (oN 0), (oN 0), (oN 0), (oN 0), (oN 0), (oN 0), (oN 0), (oN 0), (oN 0), (oN 0), (oN 0), (oN 0), (oN 0), (oN 0), (oN 0), (oN 0), (oN 0), (oN 0), (oN 0), (oN 0), (oN 0), (oN 0), (oN 0), (oN 0), (oN 0), (oN 0), (oN 0), (oN 0), (oN 0), (oN 0), (oN 0), (oN 0), (oN 0), (oN 0), (oN 0), (oN 0), (oN 0), (oN 0), (oN 0), (oN 0), (oN 0), (oN 0), (oN 0), (oN 0), (oN 0), (oN 0), (oN 0), (oN 0), (oN 0), (oN 0), (oN 0), (oN 0), (oN 0), (oN 0), (oN 0), (oN 0), (oN 0), (oN 0), (oN 0), (oN 0), (oN 0), (oN 0), (oN 0), (oN 0), (oN 0), (oN 0), (oN 0), (oN 0), (oN 0), (oN 0), (oN 0), (oN 0), (oN 0), (oN 0), (oN 0), (oN 0), (oN 0), (oN 0), (oN 0), (oN 0), (oN 0), (oN 0), (oN 0), (oN 0), (oN 0), (oN 0), (oN 0), (oN 0), (oN 0), (oN 0), (oN 0), (oN 0), (oN 0), (oN 0), (oN 0), (oN 0), (oN 0), (oN 0), (oN 0), (oN 0), (oN 0), (oN 0), (oN 0), (oN 0), (oN 0), (oN 0), (oN 0), (oN 0), (oN 0), (oN 0), (oN 0), (oN 0), (oN 0), (oN 0), (oN 0), (oN 0), (oN 0), (oN 0), (oN 0), (oN 0), (oN 0), (oN 0), (oN 0), (oN 0), (oN 0), (oN 0), (oN 0), (oN 0), (oN 0), (oN 0), (oN 0), (oN 0), (oN 0), (oN 0), (oN 0), (oN 0), (oN 0), (oN 0), (oN 0), (oN 0), (oN 0), (oN 0), (oN 0), (oN 0), (oN 0), (oN 0), (oN 0), (oN 0), (oN 0), (oN 0), (oN 0), (oN 0), (oN 0), (oN 0), (oN 0), (oN 0), (oN 0), (oN 0), (oN 0), (oN 0), (oN 0), (oN 0), (oN 0), (oN 0), (oN 0), (oN 0), (oN 0), (oN 0), (oN 0), (oN 0), (oN 0), (oN 0), (oN 0), (oN 0), (oN 0), (oN 0), (oN 0), (oN 0), (oN 0), (oN 0), (oN 0), (oN 0), (oN 0), (oN 0), (oN 0), (oN 0), (oN 0), (oN 0), (oN 0), (oN 0), (oN 0), (oN 0), (oN 0), (oN 0)], .ints [(oN 0)], .ints [(oN 0)]] (ndAt (ndTolls P) 0).items)))
def n_Tolls_0 (P : Program) : VT := (.branch (.lt (h0 87) (oN 64))
(.branch (.eq (.bits .and .i64 (h0 83) (h0 87)) (h0 87))
(.jump 0 [.keep 16, .keep 17, .keep 18, .keep 19, .keep 20, .lst 85, .ints [(.bits .or .u64 (h0 86) (.wrap .u64 (.shl .u64 (oN 1) (h0 87))))], .ints [(.add (h0 87) (oN 1))]] (ndAt (ndTolls P) 0).items)
(.jump 0 [.keep 16, .keep 17, .keep 18, .keep 19, .keep 20, .lst 85, .ints [(h0 86)], .ints [(.add (h0 87) (oN 1))]] (ndAt (ndTolls P) 0).items))
(.jump 1 [.keep 16, .keep 17, .keep 18, .keep 19, .keep 20, .lst 85, .ints [(h0 86)], .ints [(oN 0)]] (ndAt (ndTolls P) 1).items))
def n_Tolls_1 (P : Program) : VT := (.branch (.lt (h0 87) (oN 64))
(.obl (oblC cImp [.lst 81, .keep 20, .lst 85, .ints [(h0 86)], .keep 16, .ints [(h0 82), (hN 82 1)], .ints [(h0 87)]]) (.both (.asm (asmC (outAt cImp.outs 0) [.lst 81, .keep 20, .lst 85, .ints [(h0 86)], .keep 16, .ints [(h0 82), (hN 82 1)], .ints [(h0 87)]]) (.jump 1 [.keep 16, .keep 17, .keep 18, .keep 19, .keep 20, .lst 85, .ints [(h0 86)], .ints [(.add (h0 87) (oN 1))]] (ndAt (ndTolls P) 1).items)) (.new (.new (.asm (asmC (outAt cImp.outs 1) [.lst 81, .keep 20, .lst 85, .ints [(h0 86)], .keep 16, .ints [(h0 82), (hN 82 1)], .ints [(h0 87)], .keep 24, .keep 25]) (.jump 2 [.keep 16, .keep 17, .keep 18, .keep 19, .keep 20, .lst 88, .ints [(h0 89)], .ints [(.add (h0 87) (oN 1))]] (ndAt (ndTolls P) 2).items))))))
(.ret 0 [.keep 16, .keep 17, .keep 18, .keep 19, .keep 20, .lst 85, .ints [(h0 86)]]))
def n_Tolls_2 (P : Program) : VT := (.branch (.lt (h0 87) (oN 64))
(.obl (oblC cImp [.lst 81, .keep 20, .lst 85, .ints [(h0 86)], .keep 16, .ints [(h0 82), (hN 82 1)], .ints [(h0 87)]]) (.both (.asm (asmC (outAt cImp.outs 0) [.lst 81, .keep 20, .lst 85, .ints [(h0 86)], .keep 16, .ints [(h0 82), (hN 82 1)], .ints [(h0 87)]]) (.jump 2 [.keep 16, .keep 17, .keep 18, .keep 19, .keep 20, .lst 85, .ints [(h0 86)], .ints [(.add (h0 87) (oN 1))]] (ndAt (ndTolls P) 2).items)) (.new (.new (.asm (asmC (outAt cImp.outs 1) [.lst 81, .keep 20, .lst 85, .ints [(h0 86)], .keep 16, .ints [(h0 82), (hN 82 1)], .ints [(h0 87)], .keep 24, .keep 25]) (.jump 2 [.keep 16, .keep 17, .keep 18, .keep 19, .keep 20, .lst 88, .ints [(h0 89)], .ints [(.add (h0 87) (oN 1))]] (ndAt (ndTolls P) 2).items))))))
(.jump 1 [.keep 16, .keep 17, .keep 18, .keep 19, .keep 20, .lst 85, .ints [(h0 86)], .ints [(oN 0)]] (ndAt (ndTolls P) 1).items))
def e_WayT (P : Program) : VT := (.obl (oblC cHas [.ints [(h0 83)], .ints [(h0 86)]]) (.both (.asm (asmC (outAt cHas.outs 0) [.ints [(h0 83)], .ints [(h0 86)]]) (.jump 0 [.keep 16, .keep 17, .keep 18, .keep 19, .keep 20, .keep 21, .keep 22, .ints [(.nth 82 (.mul (h0 86) (oN 8)))]] (ndAt (ndWayT P) 0).items)) (.asm (asmC (outAt cHas.outs 1) [.ints [(h0 83)], .ints [(h0 86)]]) (.ret 0 [.keep 16, .keep 17, .keep 18, .keep 19, .keep 20, .keep 21, .keep 22]))))
def n_WayT_0 (P : Program) : VT := (.branch (.lt (oN 0) (.nth 82 (.add (.mul (h0 86) (oN 8)) (oN 1))))
(.new (.new (.new (.obl (oblC cPutA [.ints [(.nth 82 (.add (.mul (h0 86) (oN 8)) (oN 2))), (.nth 82 (.add (.add (.mul (h0 86) (oN 8)) (oN 2)) (oN 1))), (.nth 82 (.add (.add (.mul (h0 86) (oN 8)) (oN 2)) (oN 2))), (.nth 82 (.add (.add (.mul (h0 86) (oN 8)) (oN 2)) (oN 3))), (.nth 82 (.add (.add (.mul (h0 86) (oN 8)) (oN 2)) (oN 4))), (.nth 82 (.add (.add (.mul (h0 86) (oN 8)) (oN 2)) (oN 5)))], .ints [(h0 86)]]) (.new (.asm (asmC (outAt cPutA.outs 0) [.ints [(.nth 82 (.add (.mul (h0 86) (oN 8)) (oN 2))), (.nth 82 (.add (.add (.mul (h0 86) (oN 8)) (oN 2)) (oN 1))), (.nth 82 (.add (.add (.mul (h0 86) (oN 8)) (oN 2)) (oN 2))), (.nth 82 (.add (.add (.mul (h0 86) (oN 8)) (oN 2)) (oN 3))), (.nth 82 (.add (.add (.mul (h0 86) (oN 8)) (oN 2)) (oN 4))), (.nth 82 (.add (.add (.mul (h0 86) (oN 8)) (oN 2)) (oN 5)))], .ints [(h0 86)], .keep 27]) (.jump 1 [.keep 16, .keep 17, .keep 18, .keep 19, .keep 20, .keep 21, .keep 22, .ints [(h0 87), (h0 91)], .keep 26, .ints [(.nth 82 (.add (.add (.mul (h0 86) (oN 8)) (oN 2)) (oN 5)))]] (ndAt (ndWayT P) 1).items)))))))
(.ret 1 [.keep 16, .keep 17, .keep 18, .keep 19, .keep 20, .keep 21, .keep 22, .ints [(h0 87)]]))
def n_WayT_1 (P : Program) : VT := (.branch (.lt (oN 0) (.nth 82 (.add (.mul (hN 87 1) (oN 8)) (oN 1))))
(.new (.new (.new (.asm (appAsm 28 (.whole 89) (.lits [(.nth 82 (.add (.add (.mul (hN 87 1) (oN 8)) (oN 2)) (oN 5)))])) (.new (.obl (oblC cPutA [.ints [(.nth 82 (.add (.mul (hN 87 1) (oN 8)) (oN 2))), (.nth 82 (.add (.add (.mul (hN 87 1) (oN 8)) (oN 2)) (oN 1))), (.nth 82 (.add (.add (.mul (hN 87 1) (oN 8)) (oN 2)) (oN 2))), (.nth 82 (.add (.add (.mul (hN 87 1) (oN 8)) (oN 2)) (oN 3))), (.nth 82 (.add (.add (.mul (hN 87 1) (oN 8)) (oN 2)) (oN 4))), (.nth 82 (.add (.add (.mul (hN 87 1) (oN 8)) (oN 2)) (oN 5)))], .ints [(hN 87 1)]]) (.new (.asm (asmC (outAt cPutA.outs 0) [.ints [(.nth 82 (.add (.mul (hN 87 1) (oN 8)) (oN 2))), (.nth 82 (.add (.add (.mul (hN 87 1) (oN 8)) (oN 2)) (oN 1))), (.nth 82 (.add (.add (.mul (hN 87 1) (oN 8)) (oN 2)) (oN 2))), (.nth 82 (.add (.add (.mul (hN 87 1) (oN 8)) (oN 2)) (oN 3))), (.nth 82 (.add (.add (.mul (hN 87 1) (oN 8)) (oN 2)) (oN 4))), (.nth 82 (.add (.add (.mul (hN 87 1) (oN 8)) (oN 2)) (oN 5)))], .ints [(hN 87 1)], .keep 30]) (.jump 1 [.keep 16, .keep 17, .keep 18, .keep 19, .keep 20, .keep 21, .keep 22, .ints [(h0 87), (h0 94)], .keep 29, .lst 92] (ndAt (ndWayT P) 1).items)))))))))
(.ret 2 [.keep 16, .keep 17, .keep 18, .keep 19, .keep 20, .keep 21, .keep 22, .ints [(h0 87)], .keep 24, .lst 89]))
end Ft
set_option linter.unusedVariables false
open Go Mv Mw
namespace Ft
theorem zer_get (k : Nat) : zer.getD k 0 = 0 := by
 unfold zer
 rw [List.getD_eq_getElem?_getD]
 by_cases h : k < 512
 ·rw [List.getElem?_replicate_of_lt h]; rfl
 ·rw [List.getElem?_eq_none (by rw [List.length_replicate]; omega)]; rfl
theorem zer_len : zer.length = 512 := List.length_replicate
theorem OkT.start {B : List Int} {n : Nat} {g : Nat → Bool} {C : Int} (h0 : 0 ≤ C) (h1 : C < 2 ^ 64) (h : ∀ m : Nat, m < 64 → hasU C m = g m) : OkT B n g zer C := by
 have hc : ∀ m, cst zer m = 0 := fun m => zer_get _
 have hp : ∀ m, pts zer m = 0 := fun m => zer_get _
 have hn : ∀ m, num zer m = 0 := fun m => zer_get _
 refine ⟨zer_len, ⟨h0, h1⟩, fun m hm => ?_, fun m hm hg => ⟨by rw [h m hm, hg], hc m, hp m⟩, fun m hm hh hg => ?_, fun m hm hh => ?_⟩
 ·rw [hc, hp, hn]; omega
 ·rw [h m hm, hg] at hh; cases hh
 ·rw [hc]
  have : 1 ≤ cnt C := cntTo_pos (p := fun i => hasU C i) hh hm
  omega
theorem OkT.phi_le {B : List Int} {n : Nat} {g : Nat → Bool} {P : List Int} {C : Int} (h : OkT B n g P C) : phi P C ≤ 64 * 1073741824 := by
 refine sumTo_bound fun m hm => ?_
 obtain ⟨⟨a, b⟩, c, d, e⟩ := h.rng m hm
 unfold val
 split <;> omega
section
variable {B : List Int} {n : Nat} {g : Nat → Bool} {P : List Int} {C : Int}
theorem DoneT.step (h : DoneT B n g P C) {m : Nat} (hm : m < 64) (hh : hasU C m = true) (hg : g m = false) : ∃ j, j < n ∧ (∀ k, k < 6 → P.getD (8 * m + 2 + k) 0 = fld B j k) ∧ mayJ B m j = true ∧ hasU C (aftJ B m j) = true ∧ cst P (aftJ B m j).toNat + fld B j 4 = cst P m ∧ pts P (aftJ B m j).toNat + 1 = pts P m := by
 obtain ⟨j, h1, h2, h3, h4, h5⟩ := h.ok.link m hm hh hg
 refine ⟨j, h1, h2, h3, h4, ?_⟩
 have hb := h.no m j hm h1
 have : ¬ ltT (cst P (aftJ B m j).toNat + fld B j 4) (pts P (aftJ B m j).toNat + 1) (fld B j 5) (cst P m) (pts P m) (num P m) := fun hl => hb ⟨h3, h4, .inr hl⟩
 unfold ltT at this
 omega
theorem DoneT.far (h : DoneT B n g P C) {m : Nat} (hm : m < 64) (hp : 0 < pts P m) : g m = false := by
 cases hg : g m with
 | false => rfl
 | true => have := (h.ok.goal m hm hg).2.2; omega
theorem DoneT.near (h : DoneT B n g P C) (hB : Bench B n) {m : Nat} (hm : m < 64) (hh : hasU C m = true) (hp : pts P m = 0) : g m = true := by
 cases hg : g m with
 | true => rfl
 | false =>
  obtain ⟨j, h1, h2, h3, h4, h5, h6⟩ := h.step hm hh hg
  have := hB.aft h1 hm
  have := (h.ok.rng (aftJ B m j).toNat (by omega)).1.1
  omega
theorem cntTo_more {p q : Nat → Bool} {m : Nat} : ∀ {k}, (∀ i, i < k → p i = true → q i = true) → m < k → p m = false → q m = true → cntTo p k + 1 ≤ cntTo q k
 | 0, _, h, _, _ => by omega
 | k + 1, hs, h, hp, hq => by
  have mono : ∀ k, (∀ i, i < k → p i = true → q i = true) → cntTo p k ≤ cntTo q k := fun k => by
   induction k with
   | zero => intro _; exact Nat.le_refl _
   | succ k ih =>
    intro hs
    have := ih fun i hi => hs i (by omega)
    have := hs k (by omega)
    simp only [cntTo]
    cases hpk : p k <;> cases hqk : q k <;> simp_all <;> omega
  simp only [cntTo]
  by_cases e : m = k
  ·subst e
   have := mono m fun i hi => hs i (by omega)
   rw [hp, hq]; simp; omega
  ·have := cntTo_more (k := k) (fun i hi => hs i (by omega)) (by omega) hp hq
   have := hs k (by omega)
   cases hpk : p k <;> cases hqk : q k <;> simp_all <;> omega
theorem DoneT.below (h : DoneT B n g P C) (hB : Bench B n) : ∀ (k m : Nat), m < 64 → hasU C m = true → pts P m = k → (k : Int) + 1 ≤ cntTo (fun i => hasU C i && decide (pts P i ≤ k)) 64
 | 0, m, hm, hh, hp => by
  have := cntTo_pos (p := fun i => hasU C i && decide (pts P i ≤ (0 : Nat))) (m := m) (by simp [hh, hp]) hm
  omega
 | k + 1, m, hm, hh, hp => by
  obtain ⟨j, h1, h2, h3, h4, h5, h6⟩ := h.step hm hh (h.far hm (by omega))
  have ha := hB.aft h1 hm
  obtain ⟨t, ht⟩ := nat_of ha.1
  rw [ht] at h4 h6
  rw [Int.toNat_natCast] at h6
  have ih := h.below hB k t (by omega) h4 (by omega)
  have := cntTo_more (p := fun i => hasU C i && decide (pts P i ≤ k)) (q := fun i => hasU C i && decide (pts P i ≤ ((k + 1 : Nat) : Int))) (m := m) (k := 64)
   (fun i hi hpi => by simp only [Bool.and_eq_true, decide_eq_true_eq] at hpi ⊢; exact ⟨hpi.1, by omega⟩) hm (by simp [hh]; omega) (by simp [hh]; omega)
  push_cast at *
  omega
theorem DoneT.puts_le (h : DoneT B n g P C) (hB : Bench B n) {m : Nat} (hm : m < 64) (hh : hasU C m = true) : pts P m ≤ 63 := by
 obtain ⟨k, hk⟩ := nat_of (h.ok.rng m hm).1.1
 have := h.below hB k m hm hh hk
 have := cntTo_le (fun i => hasU C i && decide (pts P i ≤ k)) 64
 omega
theorem runW_same {w w' : Nat → Int} {m : Int} : ∀ {k : Nat}, (∀ i, i < k → w i = w' i) → runW B w m k = runW B w' m k
 | 0, _ => rfl
 | k + 1, h => by simp only [runW]; rw [runW_same (k := k) fun i hi => h i (by omega), h k (by omega)]
theorem sumW_same {w w' : Nat → Int} : ∀ {k : Nat}, (∀ i, i < k → w i = w' i) → sumW B w k = sumW B w' k
 | 0, _ => rfl
 | k + 1, h => by simp only [sumW]; rw [sumW_same (k := k) fun i hi => h i (by omega), h k (by omega)]
theorem wL_app (W : List Int) (x : Int) {i : Nat} (h : i < W.length) : wL (W ++ [x]) i = wL W i := by
 unfold wL; rw [getD_app, if_pos h]
theorem wL_last (W : List Int) (x : Int) : wL (W ++ [x]) W.length = x := by
 unfold wL; rw [getD_app, if_neg (by omega), Nat.sub_self]; rfl
theorem WayTo.nil {m : Int} (h0 : 0 ≤ m ∧ m ≤ 63) (h : hasU C m = true) : WayTo B n P C m (cst P m.toNat) m [] :=
 ⟨fun i hi => absurd hi (by simp), rfl, h0, h, by simp [sumW], by simp⟩
theorem WayTo.step {m cost x x' : Int} {W : List Int} (h : WayTo B n P C m cost x W) (hd : DoneT B n g P C) (hB : Bench B n) (hp : 0 < pts P x.toNat) :
  (mayA (P.getD (8 * x.toNat + 2 + 0) 0) (P.getD (8 * x.toNat + 2 + 1) 0) x = true ∧ (0 ≤ P.getD (8 * x.toNat + 2 + 2) 0 ∧ P.getD (8 * x.toNat + 2 + 2) 0 ≤ 63) ∧ (0 ≤ P.getD (8 * x.toNat + 2 + 3) 0 ∧ P.getD (8 * x.toNat + 2 + 3) 0 ≤ 63)) ∧
  (x' = aftA (P.getD (8 * x.toNat + 2 + 2) 0) (P.getD (8 * x.toNat + 2 + 3) 0) x → WayTo B n P C m cost x' (W ++ [P.getD (8 * x.toNat + 2 + 5) 0]) ∧ pts P x'.toNat + 1 = pts P x.toNat ∧ 0 ≤ pts P x'.toNat) := by
 obtain ⟨y, rfl⟩ := nat_of h.mel.1
 have hy : y < 64 := by have := h.mel; omega
 simp only [Int.toNat_natCast] at *
 have hhas := h.has
 have hcost := h.cost
 have hputs := h.puts
 simp only [Int.toNat_natCast] at hcost hputs
 obtain ⟨j, h1, h2, h3, h4, h5, h6⟩ := hd.step hy hhas (hd.far hy hp)
 have hr := hB.rng j h1
 rw [h2 0 (by omega), h2 1 (by omega), h2 2 (by omega), h2 3 (by omega), h2 5 (by omega)]
 refine ⟨⟨h3, hr.2.2.1, hr.2.2.2.1⟩, ?_⟩
 rintro rfl
 have ha := hB.aft h1 hy
 have ha' := (hd.ok.rng (aftJ B y j).toNat (by omega)).1.1
 have h5' : fld B j 5 = j := hr.2.2.2.2.2
 rw [h5']
 refine ⟨⟨?_, ?_, ha, h4, ?_, ?_⟩, h6, ha'⟩
 ·intro i hi
  rw [List.length_append, List.length_singleton] at hi
  by_cases e : i = W.length
  ·subst e
   rw [wL_last, runW_same (w' := wL W) fun i hi => wL_app W _ hi, ← h.at_]
   exact ⟨by omega, h3⟩
  ·rw [wL_app W _ (by omega), runW_same (w' := wL W) fun i hi => wL_app W _ (by omega)]
   exact h.up i (by omega)
 ·rw [List.length_append, List.length_singleton]
  show _ = aftJ B (runW B _ m W.length) (wL _ W.length).toNat
  rw [wL_last, runW_same (w' := wL W) fun i hi => wL_app W _ hi, ← h.at_]
  rfl
 ·rw [List.length_append, List.length_singleton]
  show sumW B _ W.length + fld B (wL _ W.length).toNat 4 + cst P (aftJ B y j).toNat = cost
  rw [wL_last, sumW_same (w' := wL W) fun i hi => wL_app W _ hi, Int.toNat_natCast]
  omega
 ·rw [List.length_append, List.length_singleton]
  show ((W.length + 1 : Nat) : Int) + pts P (aftJ B y j).toNat = _
  push_cast
  omega
inductive Wy (B : List Int) (n : Nat) (g : Nat → Bool) : Nat → Int → Prop
 | done {m : Nat} : m < 64 → g m = true → Wy B n g m 0
 | step {m j : Nat} {c : Int} : m < 64 → j < n → mayJ B m j = true → Wy B n g (aftJ B m j).toNat c → Wy B n g m (c + fld B j 4)
theorem DoneT.le (h : DoneT B n g P C) (hB : Bench B n) {m : Nat} {c : Int} (hw : Wy B n g m c) : m < 64 ∧ hasU C m = true ∧ cst P m ≤ c := by
 induction hw with
 | done hm hg => obtain ⟨a, b, c⟩ := h.ok.goal _ hm hg; exact ⟨hm, a, by omega⟩
 | @step m j c hm hj hmay _ ih =>
  obtain ⟨i1, i2, i3⟩ := ih
  have ha := hB.aft hj hm
  have e : (((aftJ B m j).toNat : Nat) : Int) = aftJ B m j := by omega
  rw [e] at i2
  have hno := h.no m j hm hj
  have hhas : hasU C m = true := by
   cases hh : hasU C m with
   | true => rfl
   | false => exact absurd ⟨hmay, i2, .inl hh⟩ hno
  have : ¬ ltT (cst P (aftJ B m j).toNat + fld B j 4) (pts P (aftJ B m j).toNat + 1) (fld B j 5) (cst P m) (pts P m) (num P m) := fun hl => hno ⟨hmay, i2, .inr hl⟩
  unfold ltT at this
  exact ⟨hm, hhas, by omega⟩
theorem DoneT.wy (h : DoneT B n g P C) (hB : Bench B n) : ∀ (k m : Nat), m < 64 → hasU C m = true → pts P m = k → Wy B n g m (cst P m)
 | 0, m, hm, hh, hp => by
  have hg := h.near hB hm hh hp
  rw [(h.ok.goal m hm hg).2.1]
  exact .done hm hg
 | k + 1, m, hm, hh, hp => by
  obtain ⟨j, h1, h2, h3, h4, h5, h6⟩ := h.step hm hh (h.far hm (by omega))
  have ha := hB.aft h1 hm
  have e : (((aftJ B m j).toNat : Nat) : Int) = aftJ B m j := by omega
  rw [← e] at h4
  have := h.wy hB k _ (by omega) h4 (by omega)
  rw [← h5]
  exact .step hm h1 h3 this
theorem DoneT.first (h : DoneT B n g P C) (hB : Bench B n) {m : Nat} (hm : m < 64) (hh : hasU C m = true) (hp : 0 < pts P m) : ∃ j, j < n ∧ mayJ B m j = true ∧ Wy B n g (aftJ B m j).toNat (cst P m - fld B j 4) := by
 obtain ⟨j, h1, h2, h3, h4, h5, h6⟩ := h.step hm hh (h.far hm hp)
 have ha := hB.aft h1 hm
 have e : (((aftJ B m j).toNat : Nat) : Int) = aftJ B m j := by omega
 rw [← e] at h4
 obtain ⟨k, hk⟩ := nat_of (h.ok.rng (aftJ B m j).toNat (by omega)).1.1
 have := h.wy hB k _ (by omega) h4 hk
 exact ⟨j, h1, h3, by rw [show cst P m - fld B j 4 = cst P (aftJ B m j).toNat by omega]; exact this⟩
end
end Ft
set_option linter.unusedVariables false
set_option linter.unusedSimpArgs false
open Go Mv Mw
namespace Ft
set_option maxRecDepth 20000 in
theorem v_Tolls (P : Program) (ρ : Env) (hv : vals ρ) (hΓ : Γ0.On ρ) (hl : ρ.k.length = 20) (hp : cTolls.pre ρ) : VC cTolls (ndTolls P) none ρ (e_Tolls P) := by
 unfold e_Tolls
 simp only [VC, oblC, asmC, appAsm, outAt, ndAt, allTrue, List.mem_singleton, List.mem_cons, List.not_mem_nil, or_false, forall_eq_or_imp, forall_eq, BE.den, LX.den, nv, li, rowP, T62, T61, T60, T59, T58, ndTolls, cTolls, mel, pTl, nT] at hp ⊢
 simp only [envB_list_if, list_grow_if, rest_grow_if, Nat.div_one, bdList, len_grow, hl, int_envB, int_grow, bool_envB, bool_grow, List.getD_cons_zero, List.getD_cons_succ, List.map_cons, List.map_nil, Nat.reduceAdd, Nat.reduceSub, Nat.reduceLeDiff, Nat.reduceLT, Nat.reduceEqDiff, if_true, if_false, reduceIte, IE.den, oN_den, hN_den, h0_den, decide_eq_true_eq, decide_eq_false_iff_not, beq_iff_eq, beq_eq_false_iff_ne, ne_eq, Option.some.injEq, reduceCtorEq, forall_eq', true_and, false_implies, implies_true, and_true, natLit, bits64, bitsU64, Int.one_mul, Bool.not_eq_true', Bool.not_eq_false', not_true_eq_false] at hp ⊢
 intro _ _ _ _
 refine ⟨hp, by rfl, ⟨by omega, by omega⟩, by omega, by omega, fun m hm => ⟨fun h => ?_, fun h => by omega⟩⟩
 rw [show (0 : Int) = ((0 : Nat) : Int) from rfl, hasU_nat (by decide) hm, Nat.zero_testBit] at h
 cases h
theorem v_Tolls_0 (P : Program) (ρ : Env) (hv : vals ρ) (hΓ : Γ0.On ρ) (hl : ρ.k.length = 24) (hp : (ndAt (ndTolls P) 0).inv ρ) : VC cTolls (ndTolls P) (some ((ndAt (ndTolls P) 0).mu ρ)) ρ (n_Tolls_0 P) := by
 simp only [VC, oblC, asmC, appAsm, outAt, ndAt, allTrue, List.mem_singleton, List.mem_cons, List.not_mem_nil, or_false, forall_eq_or_imp, forall_eq, BE.den, LX.den, nv, li, rowP, T62, T61, T60, T59, T58, n_Tolls_0, ndTolls, cTolls, mel, pTl, nT, cImp, pImp, goOn_, okP, nB] at hp ⊢
 simp only [envB_list_if, list_grow_if, rest_grow_if, Nat.div_one, bdList, len_grow, hl, int_envB, int_grow, bool_envB, bool_grow, List.getD_cons_zero, List.getD_cons_succ, List.map_cons, List.map_nil, Nat.reduceAdd, Nat.reduceSub, Nat.reduceLeDiff, Nat.reduceLT, Nat.reduceEqDiff, if_true, if_false, reduceIte, IE.den, oN_den, hN_den, h0_den, decide_eq_true_eq, decide_eq_false_iff_not, beq_iff_eq, beq_eq_false_iff_ne, ne_eq, Option.some.injEq, reduceCtorEq, forall_eq', true_and, false_implies, implies_true, and_true, natLit, bits64, bitsU64, Int.one_mul, Bool.not_eq_true', Bool.not_eq_false', not_true_eq_false] at hp ⊢
 obtain ⟨p0, hz, hC, i0, i1, hh⟩ := hp
 generalize (ρ.list 87).getD 0 0 = i at *
 generalize (ρ.list 83).getD 0 0 = a at *
 generalize (ρ.list 86).getD 0 0 = C at *
 generalize (ρ.list 82).getD 0 0 = n at *
 generalize ρ.list 81 = B at *
 rw [hz]
 obtain ⟨k, rfl⟩ := nat_of i0
 simp only [Int.toNat_natCast] at *
 have W : bitsOf .or .u64 C (IntKind.u64.wrap (2 ^ Nat.min k 64)) = withU C k := by unfold withU; rw [Int.one_mul, Int.toNat_natCast]
 rw [W]
 refine ⟨fun hk => ⟨fun h => ⟨⟨p0, trivial, withU_rng hC.1 hC.2 (by omega), by omega, by omega, fun m hm => ?_⟩, by omega⟩, fun h => ⟨⟨p0, trivial, hC, by omega, by omega, fun m hm => ?_⟩, by omega⟩⟩, fun hk => ?_⟩
 ·rw [hasU_withU hC.1 hC.2 (by omega) hm, Bool.or_eq_true, hh m hm, decide_eq_true_eq]
  have : gP a k = true := by unfold gP andI; simp [h]
  by_cases e : k = m
  ·subst e
   exact ⟨fun _ => ⟨by omega, this⟩, fun _ => .inr rfl⟩
  ·exact ⟨fun h => h.elim (fun h => ⟨by omega, h.2⟩) fun h => absurd h e, fun h => .inl ⟨by omega, h.2⟩⟩
 ·rw [hh m hm]
  have : ¬ gP a k = true := by unfold gP andI; simp [h]
  by_cases e : k = m
  ·subst e
   exact ⟨fun h => absurd h.2 this, fun h => absurd h.2 this⟩
  ·exact ⟨fun h => ⟨by omega, h.2⟩, fun h => ⟨by omega, h.2⟩⟩
 ·have hok : OkT B n.toNat (gP a) zer C := OkT.start hC.1 hC.2 fun m hm => by
   rw [Bool.eq_iff_iff, hh m hm]
   exact ⟨fun h => h.2, fun h => ⟨by omega, h⟩⟩
  refine ⟨⟨p0, hok, by omega, by omega, fun m j hm => by omega⟩, ?_⟩
  have := hok.phi_le
  omega
theorem v_Tolls_1 (P : Program) (ρ : Env) (hv : vals ρ) (hΓ : Γ0.On ρ) (hl : ρ.k.length = 24) (hp : (ndAt (ndTolls P) 1).inv ρ) : VC cTolls (ndTolls P) (some ((ndAt (ndTolls P) 1).mu ρ)) ρ (n_Tolls_1 P) := by
 simp only [VC, oblC, asmC, appAsm, outAt, ndAt, allTrue, List.mem_singleton, List.mem_cons, List.not_mem_nil, or_false, forall_eq_or_imp, forall_eq, BE.den, LX.den, nv, li, rowP, T62, T61, T60, T59, T58, n_Tolls_1, ndTolls, cTolls, mel, pTl, nT, cImp, pImp, goOn_, okP, nB] at hp ⊢
 simp only [envB_list_if, list_grow_if, rest_grow_if, Nat.div_one, bdList, len_grow, hl, int_envB, int_grow, bool_envB, bool_grow, List.getD_cons_zero, List.getD_cons_succ, List.map_cons, List.map_nil, Nat.reduceAdd, Nat.reduceSub, Nat.reduceLeDiff, Nat.reduceLT, Nat.reduceEqDiff, if_true, if_false, reduceIte, IE.den, oN_den, hN_den, h0_den, decide_eq_true_eq, decide_eq_false_iff_not, beq_iff_eq, beq_eq_false_iff_ne, ne_eq, Option.some.injEq, reduceCtorEq, forall_eq', true_and, false_implies, implies_true, and_true, natLit, bits64, bitsU64, Int.one_mul, Bool.not_eq_true', Bool.not_eq_false', not_true_eq_false] at hp ⊢
 obtain ⟨p0, hok, i0, i1, hno⟩ := hp
 generalize (ρ.list 87).getD 0 0 = i at *
 refine ⟨fun hk => ⟨⟨by omega, p0.1, p0.2.1, _, hok⟩, fun h => ⟨⟨p0, hok, by omega, by omega, fun m j hm hj => ?_⟩, by omega⟩, ?_⟩, fun hk => ⟨hok, fun m j hm hj => hno m j (by omega) hj⟩⟩
 ·by_cases e : (m : Int) = i
  ·have := h j hj
   rwa [← e, Int.toNat_natCast] at this
  ·exact hno m j (by omega) hj
 ·rintro _ r _ r' ⟨-, h1, h2⟩
  exact ⟨⟨p0, h1 _ hok, by omega, by omega⟩, by omega⟩
theorem v_Tolls_2 (P : Program) (ρ : Env) (hv : vals ρ) (hΓ : Γ0.On ρ) (hl : ρ.k.length = 24) (hp : (ndAt (ndTolls P) 2).inv ρ) : VC cTolls (ndTolls P) (some ((ndAt (ndTolls P) 2).mu ρ)) ρ (n_Tolls_2 P) := by
 simp only [VC, oblC, asmC, appAsm, outAt, ndAt, allTrue, List.mem_singleton, List.mem_cons, List.not_mem_nil, or_false, forall_eq_or_imp, forall_eq, BE.den, LX.den, nv, li, rowP, T62, T61, T60, T59, T58, n_Tolls_2, ndTolls, cTolls, mel, pTl, nT, cImp, pImp, goOn_, okP, nB] at hp ⊢
 simp only [envB_list_if, list_grow_if, rest_grow_if, Nat.div_one, bdList, len_grow, hl, int_envB, int_grow, bool_envB, bool_grow, List.getD_cons_zero, List.getD_cons_succ, List.map_cons, List.map_nil, Nat.reduceAdd, Nat.reduceSub, Nat.reduceLeDiff, Nat.reduceLT, Nat.reduceEqDiff, if_true, if_false, reduceIte, IE.den, oN_den, hN_den, h0_den, decide_eq_true_eq, decide_eq_false_iff_not, beq_iff_eq, beq_eq_false_iff_ne, ne_eq, Option.some.injEq, reduceCtorEq, forall_eq', true_and, false_implies, implies_true, and_true, natLit, bits64, bitsU64, Int.one_mul, Bool.not_eq_true', Bool.not_eq_false', not_true_eq_false] at hp ⊢
 obtain ⟨p0, hok, i0, i1⟩ := hp
 generalize (ρ.list 87).getD 0 0 = i at *
 refine ⟨fun hk => ⟨⟨by omega, p0.1, p0.2.1, _, hok⟩, fun h => ⟨⟨p0, hok, by omega, by omega⟩, by omega⟩, ?_⟩, fun hk => ⟨⟨p0, hok, by omega, by omega, fun m j hm => by omega⟩, by omega⟩⟩
 rintro _ r _ r' ⟨-, h1, h2⟩
 exact ⟨⟨p0, h1 _ hok, by omega, by omega⟩, by omega⟩
theorem v_WayT (P : Program) (ρ : Env) (hv : vals ρ) (hΓ : Γ0.On ρ) (hl : ρ.k.length = 23) (hp : cWayT.pre ρ) : VC cWayT (ndWayT P) none ρ (e_WayT P) := by
 simp only [VC, oblC, asmC, appAsm, outAt, ndAt, allTrue, List.mem_singleton, List.mem_cons, List.not_mem_nil, or_false, forall_eq_or_imp, forall_eq, BE.den, LX.den, nv, li, rowP, T62, T61, T60, T59, T58, e_WayT, ndWayT, cWayT, mel, pWt, cHas, cHas0, Con.split, oHas0, nB] at hp ⊢
 simp only [envB_list_if, list_grow_if, rest_grow_if, Nat.div_one, bdList, len_grow, hl, int_envB, int_grow, bool_envB, bool_grow, List.getD_cons_zero, List.getD_cons_succ, List.map_cons, List.map_nil, Nat.reduceAdd, Nat.reduceSub, Nat.reduceLeDiff, Nat.reduceLT, Nat.reduceEqDiff, if_true, if_false, reduceIte, IE.den, oN_den, hN_den, h0_den, decide_eq_true_eq, decide_eq_false_iff_not, beq_iff_eq, beq_eq_false_iff_ne, ne_eq, Option.some.injEq, reduceCtorEq, forall_eq', true_and, false_implies, implies_true, and_true, natLit, bits64, bitsU64, Int.one_mul, Bool.not_eq_true', Bool.not_eq_false', not_true_eq_false] at hp ⊢
 refine ⟨hp.1, fun h => ⟨hp, h, ?_⟩, fun h => h⟩
 unfold cst
 congr 1
 omega
theorem v_WayT_0 (P : Program) (ρ : Env) (hv : vals ρ) (hΓ : Γ0.On ρ) (hl : ρ.k.length = 24) (hp : (ndAt (ndWayT P) 0).inv ρ) : VC cWayT (ndWayT P) (some ((ndAt (ndWayT P) 0).mu ρ)) ρ (n_WayT_0 P) := by
 simp only [VC, oblC, asmC, appAsm, outAt, ndAt, allTrue, List.mem_singleton, List.mem_cons, List.not_mem_nil, or_false, forall_eq_or_imp, forall_eq, BE.den, LX.den, nv, li, rowP, T62, T61, T60, T59, T58, n_WayT_0, ndWayT, cWayT, mel, pWt, cPutA, nB] at hp ⊢
 simp only [envB_list_if, list_grow_if, rest_grow_if, Nat.div_one, bdList, len_grow, hl, int_envB, int_grow, bool_envB, bool_grow, List.getD_cons_zero, List.getD_cons_succ, List.map_cons, List.map_nil, Nat.reduceAdd, Nat.reduceSub, Nat.reduceLeDiff, Nat.reduceLT, Nat.reduceEqDiff, if_true, if_false, reduceIte, IE.den, oN_den, hN_den, h0_den, decide_eq_true_eq, decide_eq_false_iff_not, beq_iff_eq, beq_eq_false_iff_ne, ne_eq, Option.some.injEq, reduceCtorEq, forall_eq', true_and, false_implies, implies_true, and_true, natLit, bits64, bitsU64, Int.one_mul, Bool.not_eq_true', Bool.not_eq_false', not_true_eq_false] at hp ⊢
 obtain ⟨p0, hh, hc⟩ := hp
 obtain ⟨pm, pn, hB, ⟨g, hd⟩, ple⟩ := p0
 have ple1 := ple hh
 generalize (ρ.list 86).getD 0 0 = x at *
 generalize ρ.list 82 = T at *
 have E0 : (x * 8 + 1).toNat = 8 * x.toNat + 1 := by omega
 have E1 : T.getD (8 * x.toNat + 1) 0 = pts T x.toNat := rfl
 rw [E0, E1]
 have hge := (hd.ok.rng x.toNat (by omega)).1.1
 refine ⟨fun h => ?_, fun h => ⟨hh, by omega, hc⟩⟩
 intro _ _ _ _ _ _
 have e0 : (x * 8 + 2).toNat = 8 * x.toNat + 2 + 0 := by omega
 have e1 : (x * 8 + 2 + 1).toNat = 8 * x.toNat + 2 + 1 := by omega
 have e2 : (x * 8 + 2 + 2).toNat = 8 * x.toNat + 2 + 2 := by omega
 have e3 : (x * 8 + 2 + 3).toNat = 8 * x.toNat + 2 + 3 := by omega
 have e5 : (x * 8 + 2 + 5).toNat = 8 * x.toNat + 2 + 5 := by omega
 rw [e0, e1, e2, e3, e5]
 have hw := WayTo.nil (B := ρ.list 80) (n := ((ρ.list 85).getD 0 0).toNat) (P := T) pm hh
 rw [← hc] at hw
 refine ⟨⟨pm, (hw.step (x' := 0) hd hB h).1⟩, fun _ r => ?_⟩
 rintro ⟨h1, h2⟩
 obtain ⟨s1, s2, s3⟩ := (hw.step hd hB h).2 h1
 exact ⟨⟨⟨pm, pn, hB, ⟨g, hd⟩, ple⟩, hh, hc, ⟨by simp, by simp⟩, s1⟩, by omega⟩
theorem v_WayT_1 (P : Program) (ρ : Env) (hv : vals ρ) (hΓ : Γ0.On ρ) (hl : ρ.k.length = 26) (hp : (ndAt (ndWayT P) 1).inv ρ) : VC cWayT (ndWayT P) (some ((ndAt (ndWayT P) 1).mu ρ)) ρ (n_WayT_1 P) := by
 simp only [VC, oblC, asmC, appAsm, outAt, ndAt, allTrue, List.mem_singleton, List.mem_cons, List.not_mem_nil, or_false, forall_eq_or_imp, forall_eq, BE.den, LX.den, nv, li, rowP, T62, T61, T60, T59, T58, n_WayT_1, ndWayT, cWayT, mel, pWt, cPutA, nB] at hp ⊢
 simp only [envB_list_if, list_grow_if, rest_grow_if, Nat.div_one, bdList, len_grow, hl, int_envB, int_grow, bool_envB, bool_grow, List.getD_cons_zero, List.getD_cons_succ, List.map_cons, List.map_nil, Nat.reduceAdd, Nat.reduceSub, Nat.reduceLeDiff, Nat.reduceLT, Nat.reduceEqDiff, if_true, if_false, reduceIte, IE.den, oN_den, hN_den, h0_den, decide_eq_true_eq, decide_eq_false_iff_not, beq_iff_eq, beq_eq_false_iff_ne, ne_eq, Option.some.injEq, reduceCtorEq, forall_eq', true_and, false_implies, implies_true, and_true, natLit, bits64, bitsU64, Int.one_mul, Bool.not_eq_true', Bool.not_eq_false', not_true_eq_false] at hp ⊢
 obtain ⟨p0, hh, hc, ⟨l1, l2⟩, hw⟩ := hp
 obtain ⟨pm, pn, hB, ⟨g, hd⟩, ple⟩ := p0
 have ple1 := ple hh
 generalize (ρ.list 87).getD 1 0 = x at *
 generalize ρ.list 82 = T at *
 generalize ρ.list 89 = L at *
 have hmx := hw.mel
 have E0 : (x * 8 + 1).toNat = 8 * x.toNat + 1 := by omega
 have E1 : T.getD (8 * x.toNat + 1) 0 = pts T x.toNat := rfl
 rw [E0, E1]
 have hge := (hd.ok.rng x.toNat (by omega)).1.1
 refine ⟨fun h => ?_, fun h => ⟨hh, hc, ⟨l1, l2⟩, x, hw, by omega⟩⟩
 intro _ _ _ _ _ r hr
 rw [hr]
 have e0 : (x * 8 + 2).toNat = 8 * x.toNat + 2 + 0 := by omega
 have e1 : (x * 8 + 2 + 1).toNat = 8 * x.toNat + 2 + 1 := by omega
 have e2 : (x * 8 + 2 + 2).toNat = 8 * x.toNat + 2 + 2 := by omega
 have e3 : (x * 8 + 2 + 3).toNat = 8 * x.toNat + 2 + 3 := by omega
 have e5 : (x * 8 + 2 + 5).toNat = 8 * x.toNat + 2 + 5 := by omega
 rw [e0, e1, e2, e3, e5]
 refine fun _ _ => ⟨⟨hmx, (hw.step (x' := 0) hd hB h).1⟩, fun _ r => ?_⟩
 rintro ⟨h1, h2⟩
 obtain ⟨s1, s2, s3⟩ := (hw.step hd hB h).2 h1
 have := hw.puts
 have := s1.puts
 rw [List.length_append, List.length_singleton] at *
 exact ⟨⟨⟨pm, pn, hB, ⟨g, hd⟩, ple⟩, hh, hc, ⟨by omega, by omega⟩, s1⟩, by omega⟩
end Ft
set_option linter.unusedVariables false
open Go Mv Mw
namespace Ft
def tab64 : List Int := [0, 1, 56, 2, 57, 49, 28, 3, 61, 58, 42, 50, 38, 29, 17, 4, 62, 47, 59, 36, 45, 43, 51, 22, 53, 39, 33, 30, 24, 18, 12, 5, 63, 55, 48, 27, 60, 41, 37, 16, 46, 35, 44, 21, 52, 32, 23, 11, 54, 26, 40, 15, 34, 20, 31, 10, 25, 14, 19, 9, 13, 8, 7, 6]
def oGe : SO := .cells [rtOf LB 98] 137
def oTab : SO := .cells (tab64.map fun n => .int .u8 (.lit n)) 162
def roG : List (Nat × SO) := [(0, oGe), (1, oTab)]
def yes : SC := .bool (.lit true)
def cFined : Con := { id := 19, f := 13, m := 0, args := [], ro := roG, fs := [], pre := fun _ => True, outs := [{ n := 0, v := yes, rw := [], fs := [], post := fun _ => True }] }
def hkF (P : Program) : Hk_ := hOr (hExt (xClear P)) <| hOr (hExt (xApp P)) <| hOr (hObv P) <| hOr (hPop P) <| hOr (hExt (xTail P)) <| hOr (hMap P) (hOr (hExt (xAs P LB)) (hOr (hExt (xAs P LE)) (hOr (hExt (xNot LB 29)) (hExt (xTA P)))))
def Fa : CfA := ⟨hkF, [32, 68, 69, 73, 79, 81]⟩
end Ft
set_option linter.unusedVariables false
open Go Mv Mw
namespace Ft
def WyL (L : List Int) (n : Nat) (pass m c : Int) : Prop := Wy (benchL L n) n (gP pass) m.toNat c
def LeastL (L : List Int) (n : Nat) (pass m c : Int) : Prop := WyL L n pass m c ∧ ∀ d, WyL L n pass m d → c ≤ d
def FirstL (L : List Int) (n : Nat) (pass m c : Int) (j : Nat) : Prop := j < n ∧ mayJ (benchL L n) m j = true ∧ WyL L n pass (aftJ (benchL L n) m j) (c - fld (benchL L n) j 4)
def upL (L : List Int) (n : Nat) (W : List Int) (m : Int) (k : Nat) : Prop := upW (benchL L n) n (wL W) m k
def runL (L : List Int) (n : Nat) (W : List Int) (m : Int) (k : Nat) : Int := runW (benchL L n) (wL W) m k
def sumL (L : List Int) (n : Nat) (W : List Int) (k : Nat) : Int := sumW (benchL L n) (wL W) k
def EndsL (L : List Int) (n : Nat) (pass m c : Int) (W : List Int) : Prop := upL L n W m W.length ∧ gP pass (runL L n W m W.length).toNat = true ∧ sumL L n W W.length = c
def nL (ρ : Env) : Nat := (nv ρ 18 0).toNat
def cCheap : Con := { id := 39, f := 10, m := 4, args := [sli 16 18, iv 19 0, iv 19 1], ro := [(16, oA 17 16)], fs := fA ++ fM 19 0 ++ fM 19 1, pre := fun ρ => pA ρ ∧ mel ρ 19 0 ∧ mel ρ 19 1, outs := [
  { n := 0, v := .tup [nil_, e0, .int .i64 (.lit (.ofNat 11))], rw := [], fs := [], post := fun ρ => ∀ c, ¬ WyL (li ρ 17) (nL ρ) (nv ρ 19 1) (nv ρ 19 0) c },
  { id := 1, n := 1, v := .tup [nil_, iv 20 0, e0], rw := [], fs := [], post := fun ρ => nv ρ 20 0 = 0 ∧ gP (nv ρ 19 1) (nv ρ 19 0).toNat = true },
  { id := 2, n := 3, v := .tup [gro 1 21 22, iv 20 0, e0], rw := [(21, oI 22 21)], fs := [.le (.lit (.ofNat 1)) (.len 86), leN (.len 86) 63], post := fun ρ => LeastL (li ρ 17) (nL ρ) (nv ρ 19 1) (nv ρ 19 0) (nv ρ 20 0) ∧ (∃ j, FirstL (li ρ 17) (nL ρ) (nv ρ 19 1) (nv ρ 19 0) (nv ρ 20 0) j) ∧ EndsL (li ρ 17) (nL ρ) (nv ρ 19 1) (nv ρ 19 0) (nv ρ 20 0) (li ρ 22) ∧ gP (nv ρ 19 1) (nv ρ 19 0).toNat = false ∧ 1 ≤ (li ρ 22).length ∧ (li ρ 22).length ≤ 63 }] }
def ndCheap (P : Program) : List NdS := []
def consCheap : List Con := [cAt1, cTolls, cWayT]
def oTN (c l : Nat) : SO := .hrow [.fn (.func 44) [] [], nil_, .int .u64 (nm_ c 0)] .i64 (64 + l) 92
def noT (pass : Int) (P : List Int) (C : Int) : Prop := P = zer ∧ (0 ≤ C ∧ C < 2 ^ 64) ∧ ∀ m : Nat, m < 64 → (hasU C m = true ↔ gP pass m = true)
def cTollsN : Con := { id := 42, f := 24, m := 1, args := [nil_, iv 16 0, ordV], fs := fM 16 0, pre := fun ρ => mel ρ 16 0, outs := [{ n := 3, v := pt 17, rw := [(17, oTN 19 18)], fs := fT 18, post := fun ρ => noT (nv ρ 16 0) (li ρ 18) (nv ρ 19 0) }] }
def ndTollsN (P : Program) : List NdS := [
 { key := 0, n := 4, items := itemsAt P 24 0, sl := [(1, iv 16 0), (7, pt 17), (15, iv 20 0)], rw := [(17, oTN 19 18)], fs := fM 16 0 ++ fT 18 ++ [ge0 (nm_ 20 0), leN (nm_ 20 0) 64], inv := fun ρ => mel ρ 16 0 ∧ li ρ 18 = zer ∧ (0 ≤ nv ρ 19 0 ∧ nv ρ 19 0 < 2 ^ 64) ∧ 0 ≤ nv ρ 20 0 ∧ nv ρ 20 0 ≤ 64 ∧ ∀ m : Nat, m < 64 → (hasU (nv ρ 19 0) m = true ↔ (m : Int) < nv ρ 20 0 ∧ gP (nv ρ 16 0) m = true), mu := fun ρ => 1000 + (64 - nv ρ 20 0).toNat },
 { key := 2, n := 4, items := itemsAt P 24 2, sl := [(7, pt 17), (9, no_), (31, iv 20 0)], rw := [(17, oTN 19 18)], fs := fT 18 ++ [ge0 (nm_ 20 0), leN (nm_ 20 0) 64], inv := fun ρ => noT (nv ρ 16 0) (li ρ 18) (nv ρ 19 0) ∧ 0 ≤ nv ρ 20 0 ∧ nv ρ 20 0 ≤ 64, mu := fun ρ => (64 - nv ρ 20 0).toNat }]
def consTollsN : List Con := []
def cWayN : Con := { id := 43, f := 26, m := 4, args := [pt 16, iv 19 0], ro := [(16, oTN 18 17)], fs := fM 19 0 ++ fT 17, pre := fun ρ => mel ρ 19 0 ∧ li ρ 17 = zer, outs := [
  { n := 0, v := .tup [nil_, e0, .int .i64 (.lit (.ofNat 11))], rw := [], fs := [], post := fun ρ => hasU (nv ρ 18 0) (nv ρ 19 0) = false },
  { id := 1, n := 1, v := .tup [nil_, iv 20 0, e0], rw := [], fs := [], post := fun ρ => hasU (nv ρ 18 0) (nv ρ 19 0) = true ∧ nv ρ 20 0 = 0 }] }
def ndWayN (P : Program) : List NdS := [
 { key := 0, n := 1, items := itemsAt P 26 0, sl := [(0, pt 16), (1, iv 19 0), (4, nil_), (5, iv 20 0)], ro := [(16, oTN 18 17)], fs := fM 19 0 ++ fT 17, inv := fun ρ => mel ρ 19 0 ∧ li ρ 17 = zer ∧ hasU (nv ρ 18 0) (nv ρ 19 0) = true ∧ nv ρ 20 0 = 0, mu := fun ρ => 1 },
 { key := 0, n := 3, items := itemsAt P 26 0, sl := [(0, pt 16), (1, iv 20 1), (4, gro 1 21 22), (5, iv 20 0)], rw := [(21, oI 22 21)], ro := [(16, oTN 18 17)], fs := fM 19 0 ++ fT 17 ++ fM 20 1 ++ [.le (.lit (.ofNat 1)) (.len 86), leN (.len 86) 64], inv := fun ρ => False, mu := fun ρ => 0 }]
def consWayN : List Con := [cHas, cPutA]
def cCheapN : Con := { id := 44, f := 10, m := 1, args := [nil_, iv 16 0, iv 16 1], fs := fM 16 0 ++ fM 16 1, pre := fun ρ => mel ρ 16 0 ∧ mel ρ 16 1, outs := [
  { n := 0, v := .tup [nil_, e0, .int .i64 (.lit (.ofNat 11))], rw := [], fs := [], post := fun ρ => gP (nv ρ 16 1) (nv ρ 16 0).toNat = false },
  { id := 1, n := 1, v := .tup [nil_, iv 17 0, e0], rw := [], fs := [], post := fun ρ => nv ρ 17 0 = 0 ∧ gP (nv ρ 16 1) (nv ρ 16 0).toNat = true }] }
def ndCheapN (P : Program) : List NdS := []
def consCheapN : List Con := [cTollsN, cWayN]
def pFol (ρ : Env) : Prop := pA ρ ∧ mel ρ 21 0 ∧ 1 ≤ nv ρ 21 1 ∧ nv ρ 21 1 ≤ 63 ∧ nv ρ 21 1 = ((li ρ 20).length : Nat)
def aFol : SC := .slice 19 (.lit (.ofNat 0)) (nm_ 21 1) (nm_ 21 2)
def fFol : List BE := fA ++ fM 21 0 ++ [.le (.lit (.ofNat 1)) (nm_ 21 1), leN (nm_ 21 1) 63]
def cFol : Con := { id := 40, f := 11, m := 6, args := [sli 16 18, iv 21 0, aFol], ro := [(16, oA 17 16), (19, oI 20 19)], fs := fFol, pre := pFol, outs := [
  { n := 0, v := .tup [e0, no_], rw := [], fs := [], post := fun ρ => ¬ upL (li ρ 17) (nL ρ) (li ρ 20) (nv ρ 21 0) (li ρ 20).length },
  { id := 1, n := 1, v := .tup [iv 22 0, yes_], rw := [], fs := fM 22 0, post := fun ρ => mel ρ 22 0 ∧ upL (li ρ 17) (nL ρ) (li ρ 20) (nv ρ 21 0) (li ρ 20).length ∧ nv ρ 22 0 = runL (li ρ 17) (nL ρ) (li ρ 20) (nv ρ 21 0) (li ρ 20).length }] }
def ndFol (P : Program) : List NdS := [{ key := 0, n := 1, items := itemsAt P 11 0, sl := [(0, sli 16 18), (1, iv 22 0), (2, aFol), (8, iv 22 1)], ro := [(16, oA 17 16), (19, oI 20 19)], fs := fFol ++ fM 22 0 ++ [ge0 (nm_ 22 1), leN (nm_ 22 1) 63], inv := fun ρ => pFol ρ ∧ mel ρ 22 0 ∧ 0 ≤ nv ρ 22 1 ∧ nv ρ 22 1 ≤ nv ρ 21 1 ∧ upL (li ρ 17) (nL ρ) (li ρ 20) (nv ρ 21 0) (nv ρ 22 1).toNat ∧ nv ρ 22 0 = runL (li ρ 17) (nL ρ) (li ρ 20) (nv ρ 21 0) (nv ρ 22 1).toNat, mu := fun ρ => (64 - nv ρ 22 1).toNat }]
def consFol : List Con := []
def cPass : Con := { id := 41, f := 9, m := 4, args := [pt 17, iv 18 0], rw := [(17, oHat 19)], ro := roN, fs := [ge0 (nm_ 19 0), leN (nm_ 19 0) T60, ge0 (nm_ 18 0), leN (nm_ 18 0) 6], pre := fun ρ => rowP ρ ∧ 0 ≤ nv ρ 19 0 ∧ nv ρ 19 0 ≤ T60 ∧ 0 ≤ nv ρ 18 0 ∧ nv ρ 18 0 ≤ 6, outs := [{ n := 2, v := iv 21 0, rw := [(17, oHat 20)], fs := fM 21 0, post := fun ρ => nv ρ 19 0 ≤ nv ρ 20 0 ∧ nv ρ 20 0 ≤ nv ρ 19 0 + 12 ∧ mel ρ 21 0 }] }
def ndPass (P : Program) : List NdS := []
def consPass : List Con := [cFaults]
def nA (L : List Int) : Nat := L.length / 5
def pRow (ρ : Env) : Prop := agsV (li ρ 18) (nA (li ρ 18)) ∧ 1 ≤ nA (li ρ 18) ∧ mel ρ 19 0 ∧ mel ρ 19 1
def fRow : List BE := [.le (.lit (.ofNat 5)) (.len 82), leN (.len 82) 20] ++ fM 19 0 ++ fM 19 1
def roR : List (Nat × SO) := roN ++ roG
def bad_ : SC := .int .i64 (.lit (.ofNat 11))
def noneL (ρ : Env) : Prop := ∀ c, ¬ WyL (li ρ 18) (nA (li ρ 18)) (nv ρ 19 1) (nv ρ 19 0) c
def leastR (ρ : Env) : Prop := LeastL (li ρ 18) (nA (li ρ 18)) (nv ρ 19 1) (nv ρ 19 0) (nv ρ 19 2)
def firstR (ρ : Env) (j : Nat) : Prop := FirstL (li ρ 18) (nA (li ρ 18)) (nv ρ 19 1) (nv ρ 19 0) (nv ρ 19 2) j
def cRow : Con := { id := 50, f := 3, m := 1, args := [sNums], ro := roR, fs := [], pre := rowP, outs := [{ n := 0, v := yes, rw := [], fs := [], post := fun _ => True }] }
def ndRow (P : Program) : List NdS := [
 { key := 0, n := 5, items := itemsAt P 3 0, sl := [(4, gro 5 17 18), (5, iv 19 0), (6, iv 19 1), (7, gro 1 20 21), (8, iv 19 2), (9, e0), (10, iv 19 3), (11, yes_), (12, iv 19 4), (13, iv 19 5)], rw := [(17, oA 18 17), (20, oI 21 20)], ro := roR, fs := fRow ++ fM 19 3 ++ [.le (.lit (.ofNat 1)) (.len 85), leN (.len 85) 63, ge0 (nm_ 19 5), leN (nm_ 19 5) 63], inv := fun ρ => pRow ρ ∧ leastR ρ ∧ (∃ j, firstR ρ j) ∧ EndsL (li ρ 18) (nA (li ρ 18)) (nv ρ 19 1) (nv ρ 19 0) (nv ρ 19 2) (li ρ 21) ∧ gP (nv ρ 19 1) (nv ρ 19 0).toNat = false ∧ (li ρ 21).length ≤ 63 ∧ mel ρ 19 3 ∧ nv ρ 19 3 = runL (li ρ 18) (nA (li ρ 18)) (li ρ 21) (nv ρ 19 0) (li ρ 21).length ∧ 0 ≤ nv ρ 19 5 ∧ nv ρ 19 5 ≤ ((li ρ 21).length : Nat) ∧ nv ρ 19 4 = sumL (li ρ 18) (nA (li ρ 18)) (li ρ 21) (nv ρ 19 5).toNat, mu := fun ρ => 1000 + (64 - nv ρ 19 5).toNat },
 { key := 0, n := 3, items := itemsAt P 3 0, sl := [(4, gro 5 17 18), (5, iv 19 0), (6, iv 19 1), (7, nil_), (8, iv 19 2), (9, e0), (10, iv 19 0), (11, yes_), (12, e0), (13, e0)], rw := [(17, oA 18 17)], ro := roR, fs := fRow, inv := fun ρ => pRow ρ ∧ gP (nv ρ 19 1) (nv ρ 19 0).toNat = true ∧ nv ρ 19 2 = 0, mu := fun ρ => 1000 },
 { key := 0, n := 3, items := itemsAt P 3 0, sl := [(4, gro 5 17 18), (5, iv 19 0), (6, iv 19 1), (7, nil_), (8, e0), (9, bad_), (10, iv 19 0), (11, yes_), (12, e0), (13, e0)], rw := [(17, oA 18 17)], ro := roR, fs := fRow, inv := fun ρ => pRow ρ ∧ noneL ρ, mu := fun ρ => 1000 },
 { key := 0, n := 1, items := itemsAt P 3 0, sl := [(4, nil_), (5, iv 17 0), (6, iv 17 1), (7, nil_), (8, iv 17 2), (9, e0), (10, iv 17 0), (11, yes_), (12, e0), (13, e0)], rw := [], ro := roR, fs := fM 17 0 ++ fM 17 1, inv := fun ρ => mel ρ 17 0 ∧ mel ρ 17 1 ∧ gP (nv ρ 17 1) (nv ρ 17 0).toNat = true ∧ nv ρ 17 2 = 0, mu := fun ρ => 1000 },
 { key := 0, n := 1, items := itemsAt P 3 0, sl := [(4, nil_), (5, iv 17 0), (6, iv 17 1), (7, nil_), (8, e0), (9, bad_), (10, iv 17 0), (11, yes_), (12, e0), (13, e0)], rw := [], ro := roR, fs := fM 17 0 ++ fM 17 1, inv := fun ρ => mel ρ 17 0 ∧ mel ρ 17 1 ∧ gP (nv ρ 17 1) (nv ρ 17 0).toNat = false, mu := fun ρ => 1000 },
 { key := 2, n := 3, items := itemsAt P 3 2, sl := [(4, gro 5 17 18), (5, iv 19 0), (6, iv 19 1), (8, iv 19 2), (9, e0), (14, no_), (15, iv 19 3)], rw := [(17, oA 18 17)], ro := roR, fs := fRow ++ [ge0 (nm_ 19 3), leN (nm_ 19 3) 4], inv := fun ρ => pRow ρ ∧ leastR ρ ∧ (∃ j, firstR ρ j) ∧ 0 ≤ nv ρ 19 3 ∧ nv ρ 19 3 ≤ nA (li ρ 18) ∧ ∀ j : Nat, (j : Int) < nv ρ 19 3 → ¬ firstR ρ j, mu := fun ρ => (5 - nv ρ 19 3).toNat },
 { key := 2, n := 3, items := itemsAt P 3 2, sl := [(4, gro 5 17 18), (5, iv 19 0), (6, iv 19 1), (8, iv 19 2), (9, e0), (14, yes_), (15, iv 19 3)], rw := [(17, oA 18 17)], ro := roR, fs := fRow ++ [ge0 (nm_ 19 3), leN (nm_ 19 3) 4], inv := fun ρ => pRow ρ ∧ leastR ρ ∧ 0 ≤ nv ρ 19 3 ∧ nv ρ 19 3 ≤ nA (li ρ 18), mu := fun ρ => (5 - nv ρ 19 3).toNat },
 { key := 2, n := 3, items := itemsAt P 3 2, sl := [(4, gro 5 17 18), (5, iv 19 0), (6, iv 19 1), (8, iv 19 2), (9, e0), (14, .bool (.eq (nm_ 19 4) (nm_ 19 2))), (15, iv 19 3), (179, iv 19 4)], rw := [(17, oA 18 17)], ro := roR, fs := fRow ++ [ge0 (nm_ 19 3), leN (nm_ 19 3) 4], inv := fun ρ => pRow ρ ∧ leastR ρ ∧ (∃ j, firstR ρ j) ∧ 0 ≤ nv ρ 19 3 ∧ nv ρ 19 3 ≤ nA (li ρ 18) ∧ (nv ρ 19 4 ≠ nv ρ 19 2 → ∀ j : Nat, (j : Int) < nv ρ 19 3 → ¬ firstR ρ j), mu := fun ρ => (5 - nv ρ 19 3).toNat },
 { key := 2, n := 3, items := itemsAt P 3 2, sl := [(4, gro 5 17 18), (5, iv 19 0), (6, iv 19 1), (8, e0), (9, bad_), (14, no_), (15, iv 19 2)], rw := [(17, oA 18 17)], ro := roR, fs := fRow ++ [ge0 (nm_ 19 2), leN (nm_ 19 2) 4], inv := fun ρ => pRow ρ ∧ noneL ρ ∧ 0 ≤ nv ρ 19 2 ∧ nv ρ 19 2 ≤ nA (li ρ 18), mu := fun ρ => (5 - nv ρ 19 2).toNat },
 { key := 2, n := 0, items := itemsAt P 3 2, sl := [(4, nil_), (9, bad_), (14, no_), (15, e0)], rw := [], ro := roR, fs := [], inv := fun ρ => True, mu := fun ρ => 1 }]
def consRow : List Con := [cTo, cAgents, cPass, cCheap, cCheapN, cFol, cFined]
end Ft
set_option linter.unusedVariables false
open Go Mv Mw
namespace Ft
def e_Cheap (P : Program) : VT := (.new (.branch (.not (.eq (.bits .andNot .i64 (h0 83) (oN 63)) (oN 0)))
(.new (.obl (oblC cAt1 [.keep 16, .lst 81, .ints [(h0 82), (hN 82 1)], .keep 21, .ints [(oN 1)]]) (.new (.new (.asm (asmC (outAt cAt1.outs 0) [.keep 16, .lst 81, .ints [(h0 82), (hN 82 1)], .keep 21, .ints [(oN 1)], .keep 22, .keep 23]) (.new (.obl (oblC cTolls [.keep 22, .lst 87, .ints [(.quo (.len 87) (oN 6)), (.add (.quo (.len 87) (oN 6)) (.room 22 6))], .ints [(hN 83 1)]]) (.new (.new (.new (.asm (asmC (outAt cTolls.outs 0) [.keep 22, .lst 87, .ints [(.quo (.len 87) (oN 6)), (.add (.quo (.len 87) (oN 6)) (.room 22 6))], .ints [(hN 83 1)], .keep 25, .keep 26, .keep 27]) (.obl (oblC cWayT [.lst 87, .keep 25, .lst 90, .ints [(h0 91)], .keep 22, .ints [(.quo (.len 87) (oN 6)), (.add (.quo (.len 87) (oN 6)) (.room 22 6))], .ints [(h0 83)]]) (.both (.asm (asmC (outAt cWayT.outs 0) [.lst 87, .keep 25, .lst 90, .ints [(h0 91)], .keep 22, .ints [(.quo (.len 87) (oN 6)), (.add (.quo (.len 87) (oN 6)) (.room 22 6))], .ints [(h0 83)]]) (.ret 0 [.keep 16, .keep 17, .keep 18, .keep 19])) (.both (.new (.asm (asmC (outAt cWayT.outs 1) [.lst 87, .keep 25, .lst 90, .ints [(h0 91)], .keep 22, .ints [(.quo (.len 87) (oN 6)), (.add (.quo (.len 87) (oN 6)) (.room 22 6))], .ints [(h0 83)], .keep 28]) (.ret 1 [.keep 16, .keep 17, .keep 18, .keep 19, .ints [(h0 92)]]))) (.new (.new (.new (.asm (asmC (outAt cWayT.outs 2) [.lst 87, .keep 25, .lst 90, .ints [(h0 91)], .keep 22, .ints [(.quo (.len 87) (oN 6)), (.add (.quo (.len 87) (oN 6)) (.room 22 6))], .ints [(h0 83)], .keep 28, .keep 29, .keep 30]) (.ret 2 [.keep 16, .keep 17, .keep 18, .keep 19, .ints [(h0 92)], .keep 29, .lst 94])))))))))))))))))))
(.branch (.not (.eq (.bits .andNot .i64 (hN 83 1) (oN 63)) (oN 0)))
(.new (.obl (oblC cAt1 [.keep 16, .lst 81, .ints [(h0 82), (hN 82 1)], .keep 21, .ints [(oN 1)]]) (.new (.new (.asm (asmC (outAt cAt1.outs 0) [.keep 16, .lst 81, .ints [(h0 82), (hN 82 1)], .keep 21, .ints [(oN 1)], .keep 22, .keep 23]) (.new (.obl (oblC cTolls [.keep 22, .lst 87, .ints [(.quo (.len 87) (oN 6)), (.add (.quo (.len 87) (oN 6)) (.room 22 6))], .ints [(hN 83 1)]]) (.new (.new (.new (.asm (asmC (outAt cTolls.outs 0) [.keep 22, .lst 87, .ints [(.quo (.len 87) (oN 6)), (.add (.quo (.len 87) (oN 6)) (.room 22 6))], .ints [(hN 83 1)], .keep 25, .keep 26, .keep 27]) (.obl (oblC cWayT [.lst 87, .keep 25, .lst 90, .ints [(h0 91)], .keep 22, .ints [(.quo (.len 87) (oN 6)), (.add (.quo (.len 87) (oN 6)) (.room 22 6))], .ints [(h0 83)]]) (.both (.asm (asmC (outAt cWayT.outs 0) [.lst 87, .keep 25, .lst 90, .ints [(h0 91)], .keep 22, .ints [(.quo (.len 87) (oN 6)), (.add (.quo (.len 87) (oN 6)) (.room 22 6))], .ints [(h0 83)]]) (.ret 0 [.keep 16, .keep 17, .keep 18, .keep 19])) (.both (.new (.asm (asmC (outAt cWayT.outs 1) [.lst 87, .keep 25, .lst 90, .ints [(h0 91)], .keep 22, .ints [(.quo (.len 87) (oN 6)), (.add (.quo (.len 87) (oN 6)) (.room 22 6))], .ints [(h0 83)], .keep 28]) (.ret 1 [.keep 16, .keep 17, .keep 18, .keep 19, .ints [(h0 92)]]))) (.new (.new (.new (.asm (asmC (outAt cWayT.outs 2) [.lst 87, .keep 25, .lst 90, .ints [(h0 91)], .keep 22, .ints [(.quo (.len 87) (oN 6)), (.add (.quo (.len 87) (oN 6)) (.room 22 6))], .ints [(h0 83)], .keep 28, .keep 29, .keep 30]) (.ret 2 [.keep 16, .keep 17, .keep 18, .keep 19, .ints [(h0 92)], .keep 29, .lst 94])))))))))))))))))))
(.new (.obl (oblC cAt1 [.keep 16, .lst 81, .ints [(h0 82), (hN 82 1)], .keep 21, .ints [(oN 0)]]) (.new (.new (.asm (asmC (outAt cAt1.outs 0) [.keep 16, .lst 81, .ints [(h0 82), (hN 82 1)], .keep 21, .ints [(oN 0)], .keep 22, .keep 23]) (.new (.obl (oblC cTolls [.keep 22, .lst 87, .ints [(.quo (.len 87) (oN 6)), (.add (.quo (.len 87) (oN 6)) (.room 22 6))], .ints [(hN 83 1)]]) (.new (.new (.new (.asm (asmC (outAt cTolls.outs 0) [.keep 22, .lst 87, .ints [(.quo (.len 87) (oN 6)), (.add (.quo (.len 87) (oN 6)) (.room 22 6))], .ints [(hN 83 1)], .keep 25, .keep 26, .keep 27]) (.obl (oblC cWayT [.lst 87, .keep 25, .lst 90, .ints [(h0 91)], .keep 22, .ints [(.quo (.len 87) (oN 6)), (.add (.quo (.len 87) (oN 6)) (.room 22 6))], .ints [(h0 83)]]) (.both (.asm (asmC (outAt cWayT.outs 0) [.lst 87, .keep 25, .lst 90, .ints [(h0 91)], .keep 22, .ints [(.quo (.len 87) (oN 6)), (.add (.quo (.len 87) (oN 6)) (.room 22 6))], .ints [(h0 83)]]) (.ret 0 [.keep 16, .keep 17, .keep 18, .keep 19])) (.both (.new (.asm (asmC (outAt cWayT.outs 1) [.lst 87, .keep 25, .lst 90, .ints [(h0 91)], .keep 22, .ints [(.quo (.len 87) (oN 6)), (.add (.quo (.len 87) (oN 6)) (.room 22 6))], .ints [(h0 83)], .keep 28]) (.ret 1 [.keep 16, .keep 17, .keep 18, .keep 19, .ints [(h0 92)]]))) (.new (.new (.new (.asm (asmC (outAt cWayT.outs 2) [.lst 87, .keep 25, .lst 90, .ints [(h0 91)], .keep 22, .ints [(.quo (.len 87) (oN 6)), (.add (.quo (.len 87) (oN 6)) (.room 22 6))], .ints [(h0 83)], .keep 28, .keep 29, .keep 30]) (.ret 2 [.keep 16, .keep 17, .keep 18, .keep 19, .ints [(h0 92)], .keep 29, .lst 94]))))))))))))))))))))))
def e_TollsN (P : Program) : VT := (.new (.new (.jump 0 [.keep 16, .keep 18, .ints [(oN 0), (oN 0), (oN 0), (oN 0), (oN 0), (oN 0), (oN 0), (oN 0), (oN 0), (oN 0), (oN 0), (oN 0), (oN 0), (oN 0), (oN 0), (oN 0), (oN 0), (oN 0), (oN 0), (oN 0), (oN 0), (oN 0), (oN 0), (oN 0), (oN 0), (oN 0), (oN 0), (oN 0), (oN 0), (oN 0), (oN 0), (oN 0), (oN 0), (oN 0), (oN 0), (oN 0), (oN 0), (oN 0), (oN 0), (oN 0), (oN 0), (oN 0), (oN 0), (oN 0), (oN 0), (oN 0), (oN 0), (oN 0), (oN 0), (oN 0), (oN 0), (oN 0), (oN 0), (oN 0), (oN 0), (oN 0), (oN 0), (oN 0), (oN 0), (oN 0), (oN 0), (oN 0), (oN 0), (oN 0), (oN 0), (oN 0), (oN 0), (oN 0), (oN 0), (oN 0), (oN 0), (oN 0), (oN 0), (oN 0), (oN 0), (oN 0), (oN 0), (oN 0), (oN 0), (oN 0), (oN 0), (oN 0), (oN 0), (oN 0), (oN 0), (oN 0), (oN 0), (oN 0), (oN 0), (oN 0), (oN 0), (oN 0), (oN 0), (oN 0), (oN 0), (oN 0), (oN 0), (oN 0), (oN 0), (oN 0), (oN 0), (oN 0), (oN 0), (oN 0), (oN 0), (oN 0), (oN 0), (oN 0), (oN 0), (oN 0), (oN 0), (oN 0), (oN 0), (oN 0), (oN 0), (oN 0), (oN 0), (oN 0), (oN 0), (oN 0), (oN 0), (oN 0), (oN 0), (oN 0), (oN 0), (oN 0), (oN 0), (oN 0), (oN 0), (oN 0), (oN 0), (oN 0), (oN 0), (oN 0), (oN 0), (oN 0), (oN 0), (oN 0), (oN 0), (oN 0), (oN 0), (oN 0), (oN 0), (oN 0), (oN 0), (oN 0), (oN 0), (oN 0), (oN 0), (oN 0), (oN 0), (oN 0), (oN 0), (oN 0), (oN 0), (oN 0), (oN 0), (oN 0), (oN 0), (oN 0), (oN 0), (oN 0), (oN 0), (oN 0), (oN 0), (oN 0), (oN 0), (oN 0), (oN 0), (oN 0), (oN 0), (oN 0), (oN 0), (oN 0), (oN 0), (oN 0), (oN 0), (oN 0), (oN 0), (oN 0), (oN 0), (oN 0), (oN 0), (oN 0), (oN 0), (oN 0), (oN 0), (oN 0), (oN 0), (oN 0), (oN 0), (oN 0), (oN 0), (oN 0), (oN 0), (oN 0), (oN 0), (oN 0), (oN 0), (oN 0), (oN 0), (oN 0), (oN 0), (oN 0), (oN 0), (oN 0), (oN 0), (oN 0), (oN 0), (oN 0), (oN 0), (oN 0), (oN 0), (oN 0), (oN 0), (oN 0), (oN 0), (oN 0), (oN 0), (oN 0), (oN 0), (oN 0), (oN 0), (oN 0), (oN 0), (oN 0), (oN 0), (oN 0), (oN 0), (oN 0), (oN 0), (oN 0), (oN 0), (oN 0), (oN 0), (oN 0), (oN 0), (oN 0), (oN 0), (oN 0), (oN 0), (oN 0), (oN 0), (oN 0), (oN 0), (oN 0), (oN 0), (oN 0), (oN 0), (oN 0), (oN 0), (oN 0), (oN 0), (oN 0), (oN 0), (oN 0), (oN 0), (oN 0), (oN 0), (oN 0), (oN 0), (oN 0), (oN 0), (oN 0), (oN 0), (oN 0), (oN 0), (oN 0), (oN 0), (oN 0), (oN 0), (oN 0), (oN 0), (oN 0), (oN 0), (oN 0), (oN 0), (oN 0), (oN 0), (oN 0), (oN 0), (oN 0), (oN 0), (oN 0), (oN 0), (oN 0), (oN 0), (oN 0), (oN 0), (oN 0), (oN 0), (oN 0), (oN 0), (oN 0), (oN 0), (oN 0), (oN 0), (oN 0), (oN 0), (oN 0), (oN 0), (oN 0), (oN 0), (oN 0), (oN 0), (oN 0), (oN 0), (oN 0), (oN 0), (oN 0), (oN 0), (oN 0), (oN 0), (oN 0), (oN 0), (oN 0), (oN 0), (oN 0), (oN 0), (oN 0), (oN 0), (oN 0), (oN 0), (oN 0), (oN 0), (oN 0), (oN 0), (oN 0), (oN 0), (oN 0), (oN 0), (oN 0), (oN 0), (oN 0), (oN 0), (oN 0), (oN 0), (oN 0), (oN 0), (oN 0), (oN 0), (oN 0), (oN 0), (oN 0), (oN 0), (oN 0), (oN 0), (oN 0), (oN 0), (oN 0), (oN 0), (oN 0), (oN 0), (oN 0), (oN 0), (oN 0), (oN 0), (oN 0), (oN 0), (oN 0), (oN 0), (oN 0), (oN 0), (oN 0), (oN 0), (oN 0), (oN 0), (oN 0), (oN 0), (oN 0), (oN 0), (oN 0), (oN 0), (oN 0), (oN 0), (oN 0), (oN 0), (oN 0), (oN 0), (oN 0), (oN 0), (oN 0), (oN 0), (oN 0), (oN 0), (oN 0), (oN 0), (oN 0), (oN 0), (oN 0), (oN 0), (oN 0), (oN 0), (oN 0), (oN 0), (oN 0), (oN 0), (oN 0), (oN 0), (oN 0), (oN 0), (oN 0), (oN 0), (oN 0), (oN 0), (oN 0), (oN 0), (oN 0), (oN 0), (oN 0), (oN 0), (oN 0), (oN 0), (oN 0), (oN 0), (oN 0), (oN 0), (oN 0), (oN 0), (oN 0), (oN 0), (oN 0), (oN 0), (oN 0), (oN 0), (oN 0), (oN 0), (oN 0), (oN 0), (oN 0), (oN 0), (oN 0), (oN 0), (oN 0), (oN 0), (oN 0), (oN 0), (oN 0), (oN 0), (oN 0), (oN 0), (oN 0), (oN 0), (oN 0), (oN 0), (oN 0), (oN 0), (oN 0), (oN 0), (oN 0), (oN 0), (oN 0), (oN 0), (oN 0), (oN 0), (oN 0), (oN 0), (oN 0), (oN 0), (oN 0), (oN 0), (oN 0), (oN 0), (oN 0), (oN 0), (oN 0), (oN 0), (oN 0), (oN 0), (oN 0), (oN 0), (oN 0), (oN 0), (oN 0), (oN 0), (oN 0), (oN 0), (oN 0), (oN 0), (oN 0), (oN 0), (oN 0), (oN 0), (oN 0), (oN 0), (oN 0), (oN 0), (oN 0), (oN 0), (oN 0), (oN 0), (oN 0), (oN 0), (oN 0), (oN 0), (oN 0), (oN 0), (oN 0), (oN 0), (oN 0), (oN 0), (oN 0), (oN 0), (oN 0), (oN 0), (oN 0), (oN 0), (oN 0), (oN 0), (oN 0), (oN 0), (oN 0)], .ints [(oN 0)], .ints [(oN 0)]] (ndAt (ndTollsN P) 0).items)))
def n_TollsN_0 (P : Program) : VT := (.branch (.lt (h0 84) (oN 64))
(.branch (.eq (.bits .and .i64 (h0 80) (h0 84)) (h0 84))
(.jump 0 [.keep 16, .keep 17, .lst 82, .ints [(.bits .or .u64 (h0 83) (.wrap .u64 (.shl .u64 (oN 1) (h0 84))))], .ints [(.add (h0 84) (oN 1))]] (ndAt (ndTollsN P) 0).items)
(.jump 0 [.keep 16, .keep 17, .lst 82, .ints [(h0 83)], .ints [(.add (h0 84) (oN 1))]] (ndAt (ndTollsN P) 0).items))
(.jump 1 [.keep 16, .keep 17, .lst 82, .ints [(h0 83)], .ints [(oN 0)]] (ndAt (ndTollsN P) 1).items))
def n_TollsN_1 (P : Program) : VT := (.branch (.lt (h0 84) (oN 64))
(.jump 1 [.keep 16, .keep 17, .lst 82, .ints [(h0 83)], .ints [(.add (h0 84) (oN 1))]] (ndAt (ndTollsN P) 1).items)
(.ret 0 [.keep 16, .keep 17, .lst 82, .ints [(h0 83)]]))
def e_WayN (P : Program) : VT := (.obl (oblC cHas [.ints [(h0 82)], .ints [(h0 83)]]) (.both (.asm (asmC (outAt cHas.outs 0) [.ints [(h0 82)], .ints [(h0 83)]]) (.jump 0 [.keep 16, .keep 17, .keep 18, .keep 19, .ints [(.nth 81 (.mul (h0 83) (oN 8)))]] (ndAt (ndWayN P) 0).items)) (.asm (asmC (outAt cHas.outs 1) [.ints [(h0 82)], .ints [(h0 83)]]) (.ret 0 [.keep 16, .keep 17, .keep 18, .keep 19]))))
def n_WayN_0 (P : Program) : VT := (.branch (.lt (oN 0) (.nth 81 (.add (.mul (h0 83) (oN 8)) (oN 1))))
(.new (.new (.new (.obl (oblC cPutA [.ints [(.nth 81 (.add (.mul (h0 83) (oN 8)) (oN 2))), (.nth 81 (.add (.add (.mul (h0 83) (oN 8)) (oN 2)) (oN 1))), (.nth 81 (.add (.add (.mul (h0 83) (oN 8)) (oN 2)) (oN 2))), (.nth 81 (.add (.add (.mul (h0 83) (oN 8)) (oN 2)) (oN 3))), (.nth 81 (.add (.add (.mul (h0 83) (oN 8)) (oN 2)) (oN 4))), (.nth 81 (.add (.add (.mul (h0 83) (oN 8)) (oN 2)) (oN 5)))], .ints [(h0 83)]]) (.new (.asm (asmC (outAt cPutA.outs 0) [.ints [(.nth 81 (.add (.mul (h0 83) (oN 8)) (oN 2))), (.nth 81 (.add (.add (.mul (h0 83) (oN 8)) (oN 2)) (oN 1))), (.nth 81 (.add (.add (.mul (h0 83) (oN 8)) (oN 2)) (oN 2))), (.nth 81 (.add (.add (.mul (h0 83) (oN 8)) (oN 2)) (oN 3))), (.nth 81 (.add (.add (.mul (h0 83) (oN 8)) (oN 2)) (oN 4))), (.nth 81 (.add (.add (.mul (h0 83) (oN 8)) (oN 2)) (oN 5)))], .ints [(h0 83)], .keep 24]) (.jump 1 [.keep 16, .keep 17, .keep 18, .keep 19, .ints [(h0 84), (h0 88)], .keep 23, .ints [(.nth 81 (.add (.add (.mul (h0 83) (oN 8)) (oN 2)) (oN 5)))]] (ndAt (ndWayN P) 1).items)))))))
(.ret 1 [.keep 16, .keep 17, .keep 18, .keep 19, .ints [(h0 84)]]))
def n_WayN_1 (P : Program) : VT := (.branch (.lt (oN 0) (.nth 81 (.add (.mul (hN 84 1) (oN 8)) (oN 1))))
(.new (.new (.new (.asm (appAsm 25 (.whole 86) (.lits [(.nth 81 (.add (.add (.mul (hN 84 1) (oN 8)) (oN 2)) (oN 5)))])) (.new (.obl (oblC cPutA [.ints [(.nth 81 (.add (.mul (hN 84 1) (oN 8)) (oN 2))), (.nth 81 (.add (.add (.mul (hN 84 1) (oN 8)) (oN 2)) (oN 1))), (.nth 81 (.add (.add (.mul (hN 84 1) (oN 8)) (oN 2)) (oN 2))), (.nth 81 (.add (.add (.mul (hN 84 1) (oN 8)) (oN 2)) (oN 3))), (.nth 81 (.add (.add (.mul (hN 84 1) (oN 8)) (oN 2)) (oN 4))), (.nth 81 (.add (.add (.mul (hN 84 1) (oN 8)) (oN 2)) (oN 5)))], .ints [(hN 84 1)]]) (.new (.asm (asmC (outAt cPutA.outs 0) [.ints [(.nth 81 (.add (.mul (hN 84 1) (oN 8)) (oN 2))), (.nth 81 (.add (.add (.mul (hN 84 1) (oN 8)) (oN 2)) (oN 1))), (.nth 81 (.add (.add (.mul (hN 84 1) (oN 8)) (oN 2)) (oN 2))), (.nth 81 (.add (.add (.mul (hN 84 1) (oN 8)) (oN 2)) (oN 3))), (.nth 81 (.add (.add (.mul (hN 84 1) (oN 8)) (oN 2)) (oN 4))), (.nth 81 (.add (.add (.mul (hN 84 1) (oN 8)) (oN 2)) (oN 5)))], .ints [(hN 84 1)], .keep 27]) (.jump 1 [.keep 16, .keep 17, .keep 18, .keep 19, .ints [(h0 84), (h0 91)], .keep 26, .lst 89] (ndAt (ndWayN P) 1).items)))))))))
(.bad 1))
def e_CheapN (P : Program) : VT := (.new (.branch (.not (.eq (.bits .andNot .i64 (h0 80) (oN 63)) (oN 0)))
 (.new (.new
(.bad 1)))
 (.branch (.not (.eq (.bits .andNot .i64 (hN 80 1) (oN 63)) (oN 0)))
 (.new (.new
(.bad 1)))
 (.new (.new (.new (.obl (oblC cTollsN [.ints [(hN 80 1)]]) (.new (.new (.new (.asm (asmC (outAt cTollsN.outs 0) [.ints [(hN 80 1)], .keep 21, .keep 22, .keep 23]) (.obl (oblC cWayN [.keep 21, .lst 86, .ints [(h0 87)], .ints [(h0 80)]]) (.both (.asm (asmC (outAt cWayN.outs 0) [.keep 21, .lst 86, .ints [(h0 87)], .ints [(h0 80)]]) (.ret 0 [.keep 16])) (.new (.asm (asmC (outAt cWayN.outs 1) [.keep 21, .lst 86, .ints [(h0 87)], .ints [(h0 80)], .keep 24]) (.ret 1 [.keep 16, .ints [(h0 88)]]))))))))))))))))
def e_Fol (P : Program) : VT := (.jump 0 [.keep 16, .keep 17, .keep 18, .keep 19, .keep 20, .keep 21, .ints [(h0 85), (oN 0)]] (ndAt (ndFol P) 0).items)
def n_Fol_0 (P : Program) : VT := (.branch (.lt (hN 86 1) (hN 85 1))
(.need [(.lt (hN 86 1) (.len 84))] (.branch (.lt (.nth 84 (hN 86 1)) (oN 0))
(.ret 0 [.keep 16, .keep 17, .keep 18, .keep 19, .keep 20, .keep 21])
(.need [(.lt (hN 86 1) (.len 84))] (.branch (.le (h0 82) (.nth 84 (hN 86 1)))
(.ret 0 [.keep 16, .keep 17, .keep 18, .keep 19, .keep 20, .keep 21])
(.need [(.lt (hN 86 1) (.len 84))] (.need [(.lt (.nth 84 (hN 86 1)) (h0 82))] (.need [(.le (oN 0) (.mul (.nth 84 (hN 86 1)) (oN 5))), (.le (.add (.mul (.nth 84 (hN 86 1)) (oN 5)) (oN 5)) (.len 81))] (.new (.branch (.not (.eq (.bits .and .i64 (h0 86) (.nth 81 (.mul (.nth 84 (hN 86 1)) (oN 5)))) (.nth 81 (.mul (.nth 84 (hN 86 1)) (oN 5)))))
(.ret 0 [.keep 16, .keep 17, .keep 18, .keep 19, .keep 20, .keep 21])
(.branch (.not (.eq (.bits .and .i64 (h0 86) (.nth 81 (.add (.mul (.nth 84 (hN 86 1)) (oN 5)) (oN 1)))) (oN 0)))
(.ret 0 [.keep 16, .keep 17, .keep 18, .keep 19, .keep 20, .keep 21])
(.jump 0 [.keep 16, .keep 17, .keep 18, .keep 19, .keep 20, .keep 21, .ints [(.bits .or .i64 (.bits .andNot .i64 (h0 86) (.nth 81 (.add (.mul (.nth 84 (hN 86 1)) (oN 5)) (oN 2)))) (.nth 81 (.add (.mul (.nth 84 (hN 86 1)) (oN 5)) (oN 3)))), (.add (hN 86 1) (oN 1))]] (ndAt (ndFol P) 0).items)))))))))))
(.ret 1 [.keep 16, .keep 17, .keep 18, .keep 19, .keep 20, .keep 21, .ints [(h0 86)]]))
def e_Pass (P : Program) : VT := (.obl (oblC cFaults [.keep 16, .keep 17, .ints [(h0 82)], .ints [(h0 83), (hN 83 1)]]) (.new (.new (.asm (asmC (outAt cFaults.outs 0) [.keep 16, .keep 17, .ints [(h0 82)], .ints [(h0 83), (hN 83 1)], .keep 20, .keep 21]) (.obl (oblC cFaults [.keep 16, .keep 17, .ints [(h0 82)], .ints [(h0 84), (hN 84 1)]]) (.new (.new (.asm (asmC (outAt cFaults.outs 0) [.keep 16, .keep 17, .ints [(h0 82)], .ints [(h0 84), (hN 84 1)], .keep 22, .keep 23]) (.ret 0 [.keep 16, .keep 17, .keep 18, .keep 19, .ints [(h0 86), (hN 86 1)], .ints [(.bits .or .i64 (.bits .andNot .i64 (oN 63) (.wrap .i64 (.sub (.wrap .i64 (.shl .i64 (oN 1) (h0 82))) (oN 1)))) (.bits .and .i64 (h0 85) (h0 87)))]])))))))))
def e_Row (P : Program) : VT := (.new (.obl (oblC cAgents [.keep 16, .keep 17, .ints [(oN 4), (oN 4)], .ints [(oN 0), (oN 11400714819323198485)]]) (.both (.new (.asm (asmC (outAt cAgents.outs 0) [.keep 16, .keep 17, .ints [(oN 4), (oN 4)], .ints [(oN 0), (oN 11400714819323198485)], .keep 18]) (.obl (oblC cTo [.keep 16, .keep 17, .ints [(oN 15)], .ints [(h0 82), (hN 82 1)]]) (.new (.new (.asm (asmC (outAt cTo.outs 0) [.keep 16, .keep 17, .ints [(oN 15)], .ints [(h0 82), (hN 82 1)], .keep 19, .keep 20]) (.obl (oblC cPass [.keep 16, .keep 17, .ints [(oN 4)], .ints [(h0 83), (hN 83 1)]]) (.new (.new (.asm (asmC (outAt cPass.outs 0) [.keep 16, .keep 17, .ints [(oN 4)], .ints [(h0 83), (hN 83 1)], .keep 21, .keep 22]) (.obl (oblC cCheapN [.ints [(h0 84), (h0 86)]]) (.both (.asm (asmC (outAt cCheapN.outs 0) [.ints [(h0 84), (h0 86)]]) (.jump 4 [.keep 16, .ints [(h0 84), (h0 86)]] (ndAt (ndRow P) 4).items)) (.new (.asm (asmC (outAt cCheapN.outs 1) [.ints [(h0 84), (h0 86)], .keep 23]) (.jump 3 [.keep 16, .ints [(h0 84), (h0 86), (h0 87)]] (ndAt (ndRow P) 3).items))))))))))))))) (.new (.new (.new (.asm (asmC (outAt cAgents.outs 1) [.keep 16, .keep 17, .ints [(oN 4), (oN 4)], .ints [(oN 0), (oN 11400714819323198485)], .keep 18, .keep 19, .keep 20]) (.obl (oblC cTo [.keep 16, .keep 17, .ints [(oN 15)], .ints [(h0 82), (hN 82 1)]]) (.new (.new (.asm (asmC (outAt cTo.outs 0) [.keep 16, .keep 17, .ints [(oN 15)], .ints [(h0 82), (hN 82 1)], .keep 21, .keep 22]) (.obl (oblC cPass [.keep 16, .keep 17, .ints [(oN 4)], .ints [(h0 85), (hN 85 1)]]) (.new (.new (.asm (asmC (outAt cPass.outs 0) [.keep 16, .keep 17, .ints [(oN 4)], .ints [(h0 85), (hN 85 1)], .keep 23, .keep 24]) (.obl (oblC cCheap [.keep 19, .lst 84, .ints [(.quo (.len 84) (oN 5)), (.add (.quo (.len 84) (oN 5)) (.room 19 5))], .ints [(h0 86), (h0 88)]]) (.both (.asm (asmC (outAt cCheap.outs 0) [.keep 19, .lst 84, .ints [(.quo (.len 84) (oN 5)), (.add (.quo (.len 84) (oN 5)) (.room 19 5))], .ints [(h0 86), (h0 88)]]) (.jump 2 [.keep 16, .keep 19, .lst 84, .ints [(h0 86), (h0 88)]] (ndAt (ndRow P) 2).items)) (.both (.new (.asm (asmC (outAt cCheap.outs 1) [.keep 19, .lst 84, .ints [(.quo (.len 84) (oN 5)), (.add (.quo (.len 84) (oN 5)) (.room 19 5))], .ints [(h0 86), (h0 88)], .keep 25]) (.jump 1 [.keep 16, .keep 19, .lst 84, .ints [(h0 86), (h0 88), (h0 89)]] (ndAt (ndRow P) 1).items))) (.new (.new (.new (.asm (asmC (outAt cCheap.outs 2) [.keep 19, .lst 84, .ints [(.quo (.len 84) (oN 5)), (.add (.quo (.len 84) (oN 5)) (.room 19 5))], .ints [(h0 86), (h0 88)], .keep 25, .keep 26, .keep 27]) (.obl (oblC cFol [.keep 19, .lst 84, .ints [(.quo (.len 84) (oN 5)), (.add (.quo (.len 84) (oN 5)) (.room 19 5))], .keep 26, .lst 91, .ints [(h0 86), (.len 91), (.add (.len 91) (.room 26 1))]]) (.both (.asm (asmC (outAt cFol.outs 0) [.keep 19, .lst 84, .ints [(.quo (.len 84) (oN 5)), (.add (.quo (.len 84) (oN 5)) (.room 19 5))], .keep 26, .lst 91, .ints [(h0 86), (.len 91), (.add (.len 91) (.room 26 1))]])
(.bad 0)) (.new (.asm (asmC (outAt cFol.outs 1) [.keep 19, .lst 84, .ints [(.quo (.len 84) (oN 5)), (.add (.quo (.len 84) (oN 5)) (.room 19 5))], .keep 26, .lst 91, .ints [(h0 86), (.len 91), (.add (.len 91) (.room 26 1))], .keep 28]) (.jump 0 [.keep 16, .keep 19, .lst 84, .ints [(h0 86), (h0 88), (h0 89), (h0 92), (oN 0), (oN 0)], .keep 26, .lst 91] (ndAt (ndRow P) 0).items)))))))))))))))))))))))))))
def n_Row_0 (P : Program) : VT := (.branch (.lt (hN 83 5) (.len 85))
 (.need [(.le (oN 0) (.nth 85 (hN 83 5))), (.lt (.nth 85 (hN 83 5)) (.quo (.len 82) (oN 5)))] (.need [(.le (oN 0) (.mul (.nth 85 (hN 83 5)) (oN 5)))] (.need [(.le (oN 0) (.add (.mul (.nth 85 (hN 83 5)) (oN 5)) (oN 4))), (.lt (.add (.mul (.nth 85 (hN 83 5)) (oN 5)) (oN 4)) (.len 82))] (.jump 0 [.keep 16, .keep 17, .lst 82, .ints [(h0 83), (hN 83 1), (hN 83 2), (hN 83 3), (.wrap .i64 (.add (hN 83 4) (.nth 82 (.add (.mul (.nth 85 (hN 83 5)) (oN 5)) (oN 4))))), (.add (hN 83 5) (oN 1))], .keep 20, .lst 85] (ndAt (ndRow P) 0).items))))
 (.branch (.not (.eq (.bits .andNot .i64 (hN 83 3) (hN 83 1)) (oN 0)))
(.bad 1)
 (.branch (.not (.eq (hN 83 4) (hN 83 2)))
(.bad 1)
 (.branch (.eq (.bits .andNot .i64 (h0 83) (hN 83 1)) (oN 0))
 (.branch (.eq (hN 83 2) (oN 0))
(.bad 1)
(.bad 1))
 (.jump 5 [.keep 16, .keep 17, .lst 82, .ints [(h0 83), (hN 83 1), (hN 83 2), (oN 0)]] (ndAt (ndRow P) 5).items)))))
def n_Row_1 (P : Program) : VT := (.branch (.not (.eq (.bits .andNot .i64 (h0 83) (hN 83 1)) (oN 0)))
(.bad 1)
 (.branch (.not (.eq (oN 0) (hN 83 2)))
(.bad 1)
 (.branch (.eq (.bits .andNot .i64 (h0 83) (hN 83 1)) (oN 0))
 (.branch (.eq (hN 83 2) (oN 0))
 (.obl (oblC cFined []) (.asm (asmC (outAt cFined.outs 0) []) (.ret 0 [.keep 16])))
(.bad 1))
 (.jump 5 [.keep 16, .keep 17, .lst 82, .ints [(h0 83), (hN 83 1), (hN 83 2), (oN 0)]] (ndAt (ndRow P) 5).items))))
def n_Row_2 (P : Program) : VT := (.branch (.eq (.bits .andNot .i64 (h0 83) (hN 83 1)) (oN 0))
(.bad 1)
 (.jump 8 [.keep 16, .keep 17, .lst 82, .ints [(h0 83), (hN 83 1), (oN 0)]] (ndAt (ndRow P) 8).items))
def n_Row_3 (P : Program) : VT := (.branch (.not (.eq (.bits .andNot .i64 (h0 81) (hN 81 1)) (oN 0)))
(.bad 1)
 (.branch (.not (.eq (oN 0) (hN 81 2)))
(.bad 1)
 (.branch (.eq (.bits .andNot .i64 (h0 81) (hN 81 1)) (oN 0))
 (.branch (.eq (hN 81 2) (oN 0))
 (.obl (oblC cFined []) (.asm (asmC (outAt cFined.outs 0) []) (.ret 0 [.keep 16])))
(.bad 1))
(.bad 2))))
def n_Row_4 (P : Program) : VT := (.branch (.eq (.bits .andNot .i64 (h0 81) (hN 81 1)) (oN 0))
(.bad 1)
 (.jump 9 [.keep 16] (ndAt (ndRow P) 9).items))
def n_Row_5 (P : Program) : VT := (.branch (.lt (hN 83 3) (.quo (.len 82) (oN 5)))
 (.new (.obl (oblC cFol [.keep 17, .lst 82, .ints [(.quo (.len 82) (oN 5)), (.add (.quo (.len 82) (oN 5)) (.room 17 5))], .bare 20, .ints [(hN 83 3)], .ints [(h0 83), (oN 1), (oN 1)]]) (.both (.asm (asmC (outAt cFol.outs 0) [.keep 17, .lst 82, .ints [(.quo (.len 82) (oN 5)), (.add (.quo (.len 82) (oN 5)) (.room 17 5))], .bare 20, .ints [(hN 83 3)], .ints [(h0 83), (oN 1), (oN 1)]]) (.jump 5 [.keep 16, .keep 17, .lst 82, .ints [(h0 83), (hN 83 1), (hN 83 2), (.add (hN 83 3) (oN 1))]] (ndAt (ndRow P) 5).items)) (.new (.asm (asmC (outAt cFol.outs 1) [.keep 17, .lst 82, .ints [(.quo (.len 82) (oN 5)), (.add (.quo (.len 82) (oN 5)) (.room 17 5))], .bare 20, .ints [(hN 83 3)], .ints [(h0 83), (oN 1), (oN 1)], .keep 21]) (.obl (oblC cCheap [.keep 17, .lst 82, .ints [(.quo (.len 82) (oN 5)), (.add (.quo (.len 82) (oN 5)) (.room 17 5))], .ints [(h0 85), (hN 83 1)]]) (.both (.asm (asmC (outAt cCheap.outs 0) [.keep 17, .lst 82, .ints [(.quo (.len 82) (oN 5)), (.add (.quo (.len 82) (oN 5)) (.room 17 5))], .ints [(h0 85), (hN 83 1)]]) (.jump 5 [.keep 16, .keep 17, .lst 82, .ints [(h0 83), (hN 83 1), (hN 83 2), (.add (hN 83 3) (oN 1))]] (ndAt (ndRow P) 5).items)) (.both (.new (.asm (asmC (outAt cCheap.outs 1) [.keep 17, .lst 82, .ints [(.quo (.len 82) (oN 5)), (.add (.quo (.len 82) (oN 5)) (.room 17 5))], .ints [(h0 85), (hN 83 1)], .keep 22]) (.need [(.lt (.add (.mul (hN 83 3) (oN 5)) (oN 4)) (.len 82))] (.branch (.lt (.wrap .i64 (.add (h0 86) (.nth 82 (.add (.mul (hN 83 3) (oN 5)) (oN 4))))) (hN 83 2))
(.bad 1)
 (.need [(.lt (.add (.mul (hN 83 3) (oN 5)) (oN 4)) (.len 82))] (.jump 7 [.keep 16, .keep 17, .lst 82, .ints [(h0 83), (hN 83 1), (hN 83 2), (.add (hN 83 3) (oN 1)), (.wrap .i64 (.add (h0 86) (.nth 82 (.add (.mul (hN 83 3) (oN 5)) (oN 4)))))]] (ndAt (ndRow P) 7).items)))))) (.new (.new (.new (.asm (asmC (outAt cCheap.outs 2) [.keep 17, .lst 82, .ints [(.quo (.len 82) (oN 5)), (.add (.quo (.len 82) (oN 5)) (.room 17 5))], .ints [(h0 85), (hN 83 1)], .keep 22, .keep 23, .keep 24]) (.need [(.lt (.add (.mul (hN 83 3) (oN 5)) (oN 4)) (.len 82))] (.branch (.lt (.wrap .i64 (.add (h0 86) (.nth 82 (.add (.mul (hN 83 3) (oN 5)) (oN 4))))) (hN 83 2))
(.bad 1)
 (.need [(.lt (.add (.mul (hN 83 3) (oN 5)) (oN 4)) (.len 82))] (.jump 7 [.keep 16, .keep 17, .lst 82, .ints [(h0 83), (hN 83 1), (hN 83 2), (.add (hN 83 3) (oN 1)), (.wrap .i64 (.add (h0 86) (.nth 82 (.add (.mul (hN 83 3) (oN 5)) (oN 4)))))]] (ndAt (ndRow P) 7).items))))))))))))))))
(.bad 1))
def n_Row_6 (P : Program) : VT := (.branch (.lt (hN 83 3) (.quo (.len 82) (oN 5)))
 (.new (.obl (oblC cFol [.keep 17, .lst 82, .ints [(.quo (.len 82) (oN 5)), (.add (.quo (.len 82) (oN 5)) (.room 17 5))], .bare 20, .ints [(hN 83 3)], .ints [(h0 83), (oN 1), (oN 1)]]) (.both (.asm (asmC (outAt cFol.outs 0) [.keep 17, .lst 82, .ints [(.quo (.len 82) (oN 5)), (.add (.quo (.len 82) (oN 5)) (.room 17 5))], .bare 20, .ints [(hN 83 3)], .ints [(h0 83), (oN 1), (oN 1)]]) (.jump 6 [.keep 16, .keep 17, .lst 82, .ints [(h0 83), (hN 83 1), (hN 83 2), (.add (hN 83 3) (oN 1))]] (ndAt (ndRow P) 6).items)) (.new (.asm (asmC (outAt cFol.outs 1) [.keep 17, .lst 82, .ints [(.quo (.len 82) (oN 5)), (.add (.quo (.len 82) (oN 5)) (.room 17 5))], .bare 20, .ints [(hN 83 3)], .ints [(h0 83), (oN 1), (oN 1)], .keep 21]) (.obl (oblC cCheap [.keep 17, .lst 82, .ints [(.quo (.len 82) (oN 5)), (.add (.quo (.len 82) (oN 5)) (.room 17 5))], .ints [(h0 85), (hN 83 1)]]) (.both (.asm (asmC (outAt cCheap.outs 0) [.keep 17, .lst 82, .ints [(.quo (.len 82) (oN 5)), (.add (.quo (.len 82) (oN 5)) (.room 17 5))], .ints [(h0 85), (hN 83 1)]]) (.jump 6 [.keep 16, .keep 17, .lst 82, .ints [(h0 83), (hN 83 1), (hN 83 2), (.add (hN 83 3) (oN 1))]] (ndAt (ndRow P) 6).items)) (.both (.new (.asm (asmC (outAt cCheap.outs 1) [.keep 17, .lst 82, .ints [(.quo (.len 82) (oN 5)), (.add (.quo (.len 82) (oN 5)) (.room 17 5))], .ints [(h0 85), (hN 83 1)], .keep 22]) (.need [(.lt (.add (.mul (hN 83 3) (oN 5)) (oN 4)) (.len 82))] (.branch (.lt (.wrap .i64 (.add (h0 86) (.nth 82 (.add (.mul (hN 83 3) (oN 5)) (oN 4))))) (hN 83 2))
(.bad 1)
 (.jump 6 [.keep 16, .keep 17, .lst 82, .ints [(h0 83), (hN 83 1), (hN 83 2), (.add (hN 83 3) (oN 1))]] (ndAt (ndRow P) 6).items))))) (.new (.new (.new (.asm (asmC (outAt cCheap.outs 2) [.keep 17, .lst 82, .ints [(.quo (.len 82) (oN 5)), (.add (.quo (.len 82) (oN 5)) (.room 17 5))], .ints [(h0 85), (hN 83 1)], .keep 22, .keep 23, .keep 24]) (.need [(.lt (.add (.mul (hN 83 3) (oN 5)) (oN 4)) (.len 82))] (.branch (.lt (.wrap .i64 (.add (h0 86) (.nth 82 (.add (.mul (hN 83 3) (oN 5)) (oN 4))))) (hN 83 2))
(.bad 1)
 (.jump 6 [.keep 16, .keep 17, .lst 82, .ints [(h0 83), (hN 83 1), (hN 83 2), (.add (hN 83 3) (oN 1))]] (ndAt (ndRow P) 6).items)))))))))))))))
 (.obl (oblC cFined []) (.asm (asmC (outAt cFined.outs 0) []) (.ret 0 [.keep 16]))))
def n_Row_7 (P : Program) : VT := (.branch (.lt (hN 83 3) (.quo (.len 82) (oN 5)))
 (.new (.obl (oblC cFol [.keep 17, .lst 82, .ints [(.quo (.len 82) (oN 5)), (.add (.quo (.len 82) (oN 5)) (.room 17 5))], .bare 20, .ints [(hN 83 3)], .ints [(h0 83), (oN 1), (oN 1)]]) (.both (.asm (asmC (outAt cFol.outs 0) [.keep 17, .lst 82, .ints [(.quo (.len 82) (oN 5)), (.add (.quo (.len 82) (oN 5)) (.room 17 5))], .bare 20, .ints [(hN 83 3)], .ints [(h0 83), (oN 1), (oN 1)]]) (.jump 7 [.keep 16, .keep 17, .lst 82, .ints [(h0 83), (hN 83 1), (hN 83 2), (.add (hN 83 3) (oN 1)), (hN 83 4)]] (ndAt (ndRow P) 7).items)) (.new (.asm (asmC (outAt cFol.outs 1) [.keep 17, .lst 82, .ints [(.quo (.len 82) (oN 5)), (.add (.quo (.len 82) (oN 5)) (.room 17 5))], .bare 20, .ints [(hN 83 3)], .ints [(h0 83), (oN 1), (oN 1)], .keep 21]) (.obl (oblC cCheap [.keep 17, .lst 82, .ints [(.quo (.len 82) (oN 5)), (.add (.quo (.len 82) (oN 5)) (.room 17 5))], .ints [(h0 85), (hN 83 1)]]) (.both (.asm (asmC (outAt cCheap.outs 0) [.keep 17, .lst 82, .ints [(.quo (.len 82) (oN 5)), (.add (.quo (.len 82) (oN 5)) (.room 17 5))], .ints [(h0 85), (hN 83 1)]]) (.branch (.eq (hN 83 4) (hN 83 2))
 (.jump 6 [.keep 16, .keep 17, .lst 82, .ints [(h0 83), (hN 83 1), (hN 83 2), (.add (hN 83 3) (oN 1))]] (ndAt (ndRow P) 6).items)
 (.jump 5 [.keep 16, .keep 17, .lst 82, .ints [(h0 83), (hN 83 1), (hN 83 2), (.add (hN 83 3) (oN 1))]] (ndAt (ndRow P) 5).items))) (.both (.new (.asm (asmC (outAt cCheap.outs 1) [.keep 17, .lst 82, .ints [(.quo (.len 82) (oN 5)), (.add (.quo (.len 82) (oN 5)) (.room 17 5))], .ints [(h0 85), (hN 83 1)], .keep 22]) (.need [(.lt (.add (.mul (hN 83 3) (oN 5)) (oN 4)) (.len 82))] (.branch (.lt (.wrap .i64 (.add (h0 86) (.nth 82 (.add (.mul (hN 83 3) (oN 5)) (oN 4))))) (hN 83 2))
(.bad 1)
 (.branch (.eq (hN 83 4) (hN 83 2))
 (.jump 6 [.keep 16, .keep 17, .lst 82, .ints [(h0 83), (hN 83 1), (hN 83 2), (.add (hN 83 3) (oN 1))]] (ndAt (ndRow P) 6).items)
 (.need [(.lt (.add (.mul (hN 83 3) (oN 5)) (oN 4)) (.len 82))] (.jump 7 [.keep 16, .keep 17, .lst 82, .ints [(h0 83), (hN 83 1), (hN 83 2), (.add (hN 83 3) (oN 1)), (.wrap .i64 (.add (h0 86) (.nth 82 (.add (.mul (hN 83 3) (oN 5)) (oN 4)))))]] (ndAt (ndRow P) 7).items))))))) (.new (.new (.new (.asm (asmC (outAt cCheap.outs 2) [.keep 17, .lst 82, .ints [(.quo (.len 82) (oN 5)), (.add (.quo (.len 82) (oN 5)) (.room 17 5))], .ints [(h0 85), (hN 83 1)], .keep 22, .keep 23, .keep 24]) (.need [(.lt (.add (.mul (hN 83 3) (oN 5)) (oN 4)) (.len 82))] (.branch (.lt (.wrap .i64 (.add (h0 86) (.nth 82 (.add (.mul (hN 83 3) (oN 5)) (oN 4))))) (hN 83 2))
(.bad 1)
 (.branch (.eq (hN 83 4) (hN 83 2))
 (.jump 6 [.keep 16, .keep 17, .lst 82, .ints [(h0 83), (hN 83 1), (hN 83 2), (.add (hN 83 3) (oN 1))]] (ndAt (ndRow P) 6).items)
 (.need [(.lt (.add (.mul (hN 83 3) (oN 5)) (oN 4)) (.len 82))] (.jump 7 [.keep 16, .keep 17, .lst 82, .ints [(h0 83), (hN 83 1), (hN 83 2), (.add (hN 83 3) (oN 1)), (.wrap .i64 (.add (h0 86) (.nth 82 (.add (.mul (hN 83 3) (oN 5)) (oN 4)))))]] (ndAt (ndRow P) 7).items)))))))))))))))))
 (.branch (.pick (.eq (hN 83 4) (hN 83 2)) (.lit true) (.not (.lit true)))
 (.obl (oblC cFined []) (.asm (asmC (outAt cFined.outs 0) []) (.ret 0 [.keep 16])))
(.bad 1)))
def n_Row_8 (P : Program) : VT := (.branch (.lt (hN 83 2) (.quo (.len 82) (oN 5)))
 (.new (.obl (oblC cFol [.keep 17, .lst 82, .ints [(.quo (.len 82) (oN 5)), (.add (.quo (.len 82) (oN 5)) (.room 17 5))], .bare 20, .ints [(hN 83 2)], .ints [(h0 83), (oN 1), (oN 1)]]) (.both (.asm (asmC (outAt cFol.outs 0) [.keep 17, .lst 82, .ints [(.quo (.len 82) (oN 5)), (.add (.quo (.len 82) (oN 5)) (.room 17 5))], .bare 20, .ints [(hN 83 2)], .ints [(h0 83), (oN 1), (oN 1)]]) (.jump 8 [.keep 16, .keep 17, .lst 82, .ints [(h0 83), (hN 83 1), (.add (hN 83 2) (oN 1))]] (ndAt (ndRow P) 8).items)) (.new (.asm (asmC (outAt cFol.outs 1) [.keep 17, .lst 82, .ints [(.quo (.len 82) (oN 5)), (.add (.quo (.len 82) (oN 5)) (.room 17 5))], .bare 20, .ints [(hN 83 2)], .ints [(h0 83), (oN 1), (oN 1)], .keep 21]) (.obl (oblC cCheap [.keep 17, .lst 82, .ints [(.quo (.len 82) (oN 5)), (.add (.quo (.len 82) (oN 5)) (.room 17 5))], .ints [(h0 85), (hN 83 1)]]) (.both (.asm (asmC (outAt cCheap.outs 0) [.keep 17, .lst 82, .ints [(.quo (.len 82) (oN 5)), (.add (.quo (.len 82) (oN 5)) (.room 17 5))], .ints [(h0 85), (hN 83 1)]]) (.jump 8 [.keep 16, .keep 17, .lst 82, .ints [(h0 83), (hN 83 1), (.add (hN 83 2) (oN 1))]] (ndAt (ndRow P) 8).items)) (.both (.new (.asm (asmC (outAt cCheap.outs 1) [.keep 17, .lst 82, .ints [(.quo (.len 82) (oN 5)), (.add (.quo (.len 82) (oN 5)) (.room 17 5))], .ints [(h0 85), (hN 83 1)], .keep 22])
(.bad 1))) (.new (.new (.new (.asm (asmC (outAt cCheap.outs 2) [.keep 17, .lst 82, .ints [(.quo (.len 82) (oN 5)), (.add (.quo (.len 82) (oN 5)) (.room 17 5))], .ints [(h0 85), (hN 83 1)], .keep 22, .keep 23, .keep 24])
(.bad 1)))))))))))))
 (.obl (oblC cFined []) (.asm (asmC (outAt cFined.outs 0) []) (.ret 0 [.keep 16]))))
def n_Row_9 (P : Program) : VT := (.obl (oblC cFined []) (.asm (asmC (outAt cFined.outs 0) []) (.ret 0 [.keep 16])))
end Ft
set_option linter.unusedVariables false
open Go Mv Mw
namespace Ft
theorem benchL_four (L : List Int) {n i : Nat} (h : i < n) : (benchL L n).getD (6 * i + 4) 0 = L.getD (5 * i + 4) 0 := by
 induction n with
 | zero => omega
 | succ n ih =>
  show (benchL L n ++ _).getD _ 0 = _
  simp only [getD_app, benchL_len]
  by_cases hc : i < n
  ·rw [if_pos (by omega)]; exact ih hc
  ·have e : i = n := by omega
   subst e
   rw [if_neg (by omega)]
   simp only [Nat.add_sub_cancel_left]
   rfl
theorem bench_ok {L : List Int} {n : Nat} (h : agsV L n) : Bench (benchL L n) n := by
 refine ⟨benchL_len L n, h.2.1, fun j hj => ?_⟩
 obtain ⟨a, b, c, d, e⟩ := benchL_get L hj
 have f := benchL_four L hj
 obtain ⟨v1, v2, v3, v4, v5, v6, -⟩ := h.2.2 j hj
 unfold fld
 rw [Nat.add_zero, a, b, c, d, e, f]
 omega
theorem fld_bench {L : List Int} {n j : Nat} (hj : j < n) : fld (benchL L n) j 0 = L.getD (5 * j) 0 ∧ fld (benchL L n) j 1 = L.getD (5 * j + 1) 0 ∧ fld (benchL L n) j 2 = L.getD (5 * j + 2) 0 ∧ fld (benchL L n) j 3 = L.getD (5 * j + 3) 0 ∧ fld (benchL L n) j 4 = L.getD (5 * j + 4) 0 := by
 obtain ⟨a, b, c, d, e⟩ := benchL_get L hj
 exact ⟨a, b, c, d, benchL_four L hj⟩
theorem clear_iff {m p : Int} (hm : 0 ≤ m ∧ m ≤ 63) (hp : 0 ≤ p ∧ p ≤ 63) : bitsOf .andNot .i64 m p = 0 ↔ gP p m.toNat = true := by
 obtain ⟨x, rfl⟩ := nat_of hm.1
 obtain ⟨y, rfl⟩ := nat_of hp.1
 unfold gP andI
 rw [Int.toNat_natCast, decide_eq_true_eq, bits_andNot (by omega) (by omega), bits_and (by omega) (by omega)]
 have key : x &&& (2 ^ 64 - 1 - y) = 0 ↔ y &&& x = x := by
  have t : ∀ i, (x &&& (2 ^ 64 - 1 - y)).testBit i = (x.testBit i && (decide (i < 64) && !y.testBit i)) := fun i => by
   rw [Nat.testBit_and, show 2 ^ 64 - 1 - y = 2 ^ 64 - (y + 1) by omega, Nat.testBit_two_pow_sub_succ (by omega)]
  constructor
  ·intro h
   apply Nat.eq_of_testBit_eq
   intro i
   have := t i
   rw [h, Nat.zero_testBit] at this
   rw [Nat.testBit_and]
   cases hx : x.testBit i with
   | false => simp
   | true =>
    have hi : i < 64 := by
     apply Classical.byContradiction
     intro hn
     have hlt : x < 2 ^ i := Nat.lt_of_lt_of_le (show x < 2 ^ 64 by omega) (Nat.pow_le_pow_right (by decide) (by omega))
     rw [Nat.testBit_lt_two_pow hlt] at hx; cases hx
    rw [hx] at this
    simp only [Bool.true_and, hi, decide_true] at this
    cases hy : y.testBit i with
    | true => rfl
    | false => rw [hy] at this; cases this
  ·intro h
   apply Nat.eq_of_testBit_eq
   intro i
   rw [t, Nat.zero_testBit]
   have h2 : (y &&& x).testBit i = x.testBit i := by rw [h]
   rw [Nat.testBit_and] at h2
   cases hx : x.testBit i with
   | false => rfl
   | true =>
    rw [hx, Bool.and_true] at h2
    rw [h2]; simp
 constructor
 ·intro h
  have : x &&& (2 ^ 64 - 1 - y) = 0 := by omega
  exact congrArg Int.ofNat (key.1 this)
 ·intro h
  have : y &&& x = x := by omega
  rw [key.2 this]; rfl
theorem clear_not {m p : Int} (hm : 0 ≤ m ∧ m ≤ 63) (hp : 0 ≤ p ∧ p ≤ 63) : ¬ bitsOf .andNot .i64 m p = 0 ↔ gP p m.toNat = false := by
 rw [clear_iff hm hp]; simp
theorem upW_zero (B : List Int) (n : Nat) (w : Nat → Int) (m : Int) : upW B n w m 0 := fun i hi => absurd hi (by omega)
theorem upW_succ {B : List Int} {n : Nat} {w : Nat → Int} {m : Int} {k : Nat} (h : upW B n w m k) (h1 : 0 ≤ w k ∧ w k < n) (h2 : mayJ B (runW B w m k) (w k).toNat = true) : upW B n w m (k + 1) := fun i hi => by
 by_cases e : i = k
 ·subst e; exact ⟨h1, h2⟩
 ·exact h i (by omega)
theorem mayJ_iff {L : List Int} {n j : Nat} (hj : j < n) (m : Int) : mayJ (benchL L n) m j = true ↔ bitsOf .and .i64 m (L.getD (5 * j) 0) = L.getD (5 * j) 0 ∧ bitsOf .and .i64 m (L.getD (5 * j + 1) 0) = 0 := by
 obtain ⟨a, b, -⟩ := fld_bench (L := L) hj
 unfold mayJ mayA andI
 rw [a, b]; simp
theorem aftJ_eq {L : List Int} {n j : Nat} (hj : j < n) (m : Int) : aftJ (benchL L n) m j = bitsOf .or .i64 (bitsOf .andNot .i64 m (L.getD (5 * j + 2) 0)) (L.getD (5 * j + 3) 0) := by
 obtain ⟨-, -, a, b, -⟩ := fld_bench (L := L) hj
 unfold aftJ aftA
 rw [a, b]
theorem sumW_rng {B : List Int} {n : Nat} (hB : Bench B n) {w : Nat → Int} {m : Int} : ∀ {k : Nat}, upW B n w m k → 0 ≤ sumW B w k ∧ sumW B w k ≤ 9 * k
 | 0, _ => by simp [sumW]
 | k + 1, h => by
  have ih := sumW_rng hB (k := k) fun i hi => h i (by omega)
  obtain ⟨⟨a, b⟩, -⟩ := h k (by omega)
  have := hB.rng (w k).toNat (by omega)
  simp only [sumW]
  push_cast
  omega
theorem Wy.nn {B : List Int} {n : Nat} (hB : Bench B n) {g : Nat → Bool} {m : Nat} {c : Int} (h : Wy B n g m c) : 0 ≤ c := by
 induction h with
 | done => omega
 | step hm hj _ _ ih => have := hB.rng _ hj; omega
theorem up_one {L : List Int} {n k : Nat} {m : Int} (hk : k < n) : upL L n [(k : Int)] m 1 ↔ mayJ (benchL L n) m k = true := by
 constructor
 ·intro h
  exact (h 0 (by decide)).2
 ·intro h i hi
  obtain rfl : i = 0 := by omega
  exact ⟨⟨Int.natCast_nonneg _, Int.ofNat_lt.2 hk⟩, h⟩
theorem run_one (L : List Int) (n k : Nat) (m : Int) : runL L n [(k : Int)] m 1 = aftJ (benchL L n) m k := rfl
theorem agV_mono {L : List Int} {i : Nat} (h : agV 4 L i) : agV 6 L i := by
 unfold agV at h ⊢
 omega
theorem nA_of {L : List Int} {c : Nat} (h : L.length = 5 * c) : nA L = c := by
 unfold nA; omega
theorem wy_step {L : List Int} {n k : Nat} {pass m c : Int} (hag : agsV L n) (hm : 0 ≤ m ∧ m ≤ 63) (hk : k < n) (hmay : mayJ (benchL L n) m k = true) (hw : WyL L n pass (aftJ (benchL L n) m k) c) : WyL L n pass m (c + fld (benchL L n) k 4) := by
 obtain ⟨x, rfl⟩ := nat_of hm.1
 exact Wy.step (by omega) hk hmay hw
theorem least_zero {L : List Int} {n : Nat} {pass m : Int} (hag : agsV L n) (hm : 0 ≤ m ∧ m ≤ 63) (hg : gP pass m.toNat = true) : LeastL L n pass m 0 :=
 ⟨.done (by omega) hg, fun d hd => Wy.nn (bench_ok hag) hd⟩
theorem ends_rng {L : List Int} {n : Nat} {pass m c : Int} {W : List Int} (hag : agsV L n) (h : EndsL L n pass m c W) (hl : W.length ≤ 63) : 0 ≤ c ∧ c ≤ 567 := by
 have := sumW_rng (bench_ok hag) h.1
 have e := h.2.2
 unfold sumL at e
 omega
theorem row_core {L : List Int} {n k : Nat} {pass m cost next c : Int} (hag : agsV L n) (hm : 0 ≤ m ∧ m ≤ 63) (hk : k < n) (hmay : mayJ (benchL L n) m k = true) (hnx : next = aftJ (benchL L n) m k) (hl : LeastL L n pass m cost) (h' : LeastL L n pass next c) (hb : 0 ≤ c ∧ c ≤ 567) :
  (k : Int) * 5 + 4 < (L.length : Nat) ∧ ¬ IntKind.i64.wrap (c + L.getD ((k : Int) * 5 + 4).toNat 0) < cost ∧ (¬ IntKind.i64.wrap (c + L.getD ((k : Int) * 5 + 4).toNat 0) = cost → ¬ FirstL L n pass m cost k) := by
 have hB := bench_ok hag
 have hr := (hB.rng k hk).2.2.2.2.1
 have hf := (fld_bench (L := L) hk).2.2.2.2
 have e : ((k : Int) * 5 + 4).toNat = 5 * k + 4 := by omega
 rw [e, ← hf, wrap64_fit (by omega) (by omega)]
 subst hnx
 have hle := hl.2 _ (wy_step hag hm hk hmay h'.1)
 refine ⟨by have := hag.1; omega, by omega, fun hne hfi => ?_⟩
 have := h'.2 _ hfi.2.2
 omega
theorem row_none {L : List Int} {n k : Nat} {pass m next c : Int} (hag : agsV L n) (hm : 0 ≤ m ∧ m ≤ 63) (hk : k < n) (hmay : mayJ (benchL L n) m k = true) (hnx : next = aftJ (benchL L n) m k) (hno : ∀ c, ¬ WyL L n pass m c) (h' : LeastL L n pass next c) : False := by
 subst hnx
 exact hno _ (wy_step hag hm hk hmay h'.1)
theorem below_one {F : Nat → Prop} {k : Nat} (h : ∀ j : Nat, (j : Int) < k → ¬ F j) (hk : ¬ F k) : ∀ j : Nat, (j : Int) < (k : Int) + 1 → ¬ F j := fun j hj => by
 by_cases e : j = k
 ·rw [e]; exact hk
 ·exact h j (by omega)
end Ft
set_option linter.unusedVariables false
set_option linter.unusedSimpArgs false
open Go Mv Mw
namespace Ft
set_option maxRecDepth 20000 in
theorem v_TollsN (P : Program) (ρ : Env) (hv : vals ρ) (hΓ : Γ0.On ρ) (hl : ρ.k.length = 17) (hp : cTollsN.pre ρ) : VC cTollsN (ndTollsN P) none ρ (e_TollsN P) := by
 unfold e_TollsN
 simp only [VC, oblC, asmC, appAsm, outAt, ndAt, allTrue, List.mem_singleton, List.mem_cons, List.not_mem_nil, or_false, forall_eq_or_imp, forall_eq, BE.den, LX.den, nv, li, rowP, T62, T61, T60, T59, T58, ndTollsN, cTollsN, mel] at hp ⊢
 simp only [envB_list_if, list_grow_if, rest_grow_if, Nat.div_one, bdList, len_grow, hl, int_envB, int_grow, bool_envB, bool_grow, List.getD_cons_zero, List.getD_cons_succ, List.map_cons, List.map_nil, Nat.reduceAdd, Nat.reduceSub, Nat.reduceLeDiff, Nat.reduceLT, Nat.reduceEqDiff, if_true, if_false, reduceIte, IE.den, oN_den, hN_den, h0_den, decide_eq_true_eq, decide_eq_false_iff_not, beq_iff_eq, beq_eq_false_iff_ne, ne_eq, Option.some.injEq, reduceCtorEq, forall_eq', true_and, false_implies, implies_true, and_true, natLit, bits64, bitsU64, Int.one_mul, Bool.not_eq_true', Bool.not_eq_false', not_true_eq_false] at hp ⊢
 intro _ _ _ _
 refine ⟨hp, by rfl, ⟨by omega, by omega⟩, by omega, by omega, fun m hm => ⟨fun h => ?_, fun h => by omega⟩⟩
 rw [show (0 : Int) = ((0 : Nat) : Int) from rfl, hasU_nat (by decide) hm, Nat.zero_testBit] at h
 cases h
theorem v_TollsN_0 (P : Program) (ρ : Env) (hv : vals ρ) (hΓ : Γ0.On ρ) (hl : ρ.k.length = 21) (hp : (ndAt (ndTollsN P) 0).inv ρ) : VC cTollsN (ndTollsN P) (some ((ndAt (ndTollsN P) 0).mu ρ)) ρ (n_TollsN_0 P) := by
 simp only [VC, oblC, asmC, appAsm, outAt, ndAt, allTrue, List.mem_singleton, List.mem_cons, List.not_mem_nil, or_false, forall_eq_or_imp, forall_eq, BE.den, LX.den, nv, li, rowP, T62, T61, T60, T59, T58, n_TollsN_0, ndTollsN, cTollsN, mel, noT] at hp ⊢
 simp only [envB_list_if, list_grow_if, rest_grow_if, Nat.div_one, bdList, len_grow, hl, int_envB, int_grow, bool_envB, bool_grow, List.getD_cons_zero, List.getD_cons_succ, List.map_cons, List.map_nil, Nat.reduceAdd, Nat.reduceSub, Nat.reduceLeDiff, Nat.reduceLT, Nat.reduceEqDiff, if_true, if_false, reduceIte, IE.den, oN_den, hN_den, h0_den, decide_eq_true_eq, decide_eq_false_iff_not, beq_iff_eq, beq_eq_false_iff_ne, ne_eq, Option.some.injEq, reduceCtorEq, forall_eq', true_and, false_implies, implies_true, and_true, natLit, bits64, bitsU64, Int.one_mul, Bool.not_eq_true', Bool.not_eq_false', not_true_eq_false] at hp ⊢
 obtain ⟨p0, hz, hC, i0, i1, hh⟩ := hp
 generalize (ρ.list 84).getD 0 0 = i at *
 generalize (ρ.list 80).getD 0 0 = a at *
 generalize (ρ.list 83).getD 0 0 = C at *
 rw [hz]
 obtain ⟨k, rfl⟩ := nat_of i0
 simp only [Int.toNat_natCast] at *
 have W : bitsOf .or .u64 C (IntKind.u64.wrap (2 ^ Nat.min k 64)) = withU C k := by unfold withU; rw [Int.one_mul, Int.toNat_natCast]
 rw [W]
 refine ⟨fun hk => ⟨fun h => ⟨⟨p0, trivial, withU_rng hC.1 hC.2 (by omega), by omega, by omega, fun m hm => ?_⟩, by omega⟩, fun h => ⟨⟨p0, trivial, hC, by omega, by omega, fun m hm => ?_⟩, by omega⟩⟩, fun hk => ?_⟩
 ·rw [hasU_withU hC.1 hC.2 (by omega) hm, Bool.or_eq_true, hh m hm, decide_eq_true_eq]
  have : gP a k = true := by unfold gP andI; simp [h]
  by_cases e : k = m
  ·subst e
   exact ⟨fun _ => ⟨by omega, this⟩, fun _ => .inr rfl⟩
  ·exact ⟨fun h => h.elim (fun h => ⟨by omega, h.2⟩) fun h => absurd h e, fun h => .inl ⟨by omega, h.2⟩⟩
 ·rw [hh m hm]
  have : ¬ gP a k = true := by unfold gP andI; simp [h]
  by_cases e : k = m
  ·subst e
   exact ⟨fun h => absurd h.2 this, fun h => absurd h.2 this⟩
  ·exact ⟨fun h => ⟨by omega, h.2⟩, fun h => ⟨by omega, h.2⟩⟩
 ·refine ⟨⟨⟨trivial, hC, fun m hm => ?_⟩, by omega, by omega⟩, by omega⟩
  rw [hh m hm]
  exact ⟨fun h => h.2, fun h => ⟨by omega, h⟩⟩
theorem v_TollsN_1 (P : Program) (ρ : Env) (hv : vals ρ) (hΓ : Γ0.On ρ) (hl : ρ.k.length = 21) (hp : (ndAt (ndTollsN P) 1).inv ρ) : VC cTollsN (ndTollsN P) (some ((ndAt (ndTollsN P) 1).mu ρ)) ρ (n_TollsN_1 P) := by
 simp only [VC, oblC, asmC, appAsm, outAt, ndAt, allTrue, List.mem_singleton, List.mem_cons, List.not_mem_nil, or_false, forall_eq_or_imp, forall_eq, BE.den, LX.den, nv, li, rowP, T62, T61, T60, T59, T58, n_TollsN_1, ndTollsN, cTollsN, mel] at hp ⊢
 simp only [envB_list_if, list_grow_if, rest_grow_if, Nat.div_one, bdList, len_grow, hl, int_envB, int_grow, bool_envB, bool_grow, List.getD_cons_zero, List.getD_cons_succ, List.map_cons, List.map_nil, Nat.reduceAdd, Nat.reduceSub, Nat.reduceLeDiff, Nat.reduceLT, Nat.reduceEqDiff, if_true, if_false, reduceIte, IE.den, oN_den, hN_den, h0_den, decide_eq_true_eq, decide_eq_false_iff_not, beq_iff_eq, beq_eq_false_iff_ne, ne_eq, Option.some.injEq, reduceCtorEq, forall_eq', true_and, false_implies, implies_true, and_true, natLit, bits64, bitsU64, Int.one_mul, Bool.not_eq_true', Bool.not_eq_false', not_true_eq_false] at hp ⊢
 obtain ⟨p0, i0, i1⟩ := hp
 exact ⟨fun _ => ⟨⟨p0, by omega, by omega⟩, by omega⟩, fun _ => p0⟩
theorem v_WayN (P : Program) (ρ : Env) (hv : vals ρ) (hΓ : Γ0.On ρ) (hl : ρ.k.length = 20) (hp : cWayN.pre ρ) : VC cWayN (ndWayN P) none ρ (e_WayN P) := by
 simp only [VC, oblC, asmC, appAsm, outAt, ndAt, allTrue, List.mem_singleton, List.mem_cons, List.not_mem_nil, or_false, forall_eq_or_imp, forall_eq, BE.den, LX.den, nv, li, rowP, T62, T61, T60, T59, T58, e_WayN, ndWayN, cWayN, mel, cHas, cHas0, Con.split, oHas0] at hp ⊢
 simp only [envB_list_if, list_grow_if, rest_grow_if, Nat.div_one, bdList, len_grow, hl, int_envB, int_grow, bool_envB, bool_grow, List.getD_cons_zero, List.getD_cons_succ, List.map_cons, List.map_nil, Nat.reduceAdd, Nat.reduceSub, Nat.reduceLeDiff, Nat.reduceLT, Nat.reduceEqDiff, if_true, if_false, reduceIte, IE.den, oN_den, hN_den, h0_den, decide_eq_true_eq, decide_eq_false_iff_not, beq_iff_eq, beq_eq_false_iff_ne, ne_eq, Option.some.injEq, reduceCtorEq, forall_eq', true_and, false_implies, implies_true, and_true, natLit, bits64, bitsU64, Int.one_mul, Bool.not_eq_true', Bool.not_eq_false', not_true_eq_false] at hp ⊢
 refine ⟨hp.1, fun h => ⟨hp.1, hp.2, h, ?_⟩, fun h => h⟩
 rw [hp.2, zer_get]
theorem v_WayN_0 (P : Program) (ρ : Env) (hv : vals ρ) (hΓ : Γ0.On ρ) (hl : ρ.k.length = 21) (hp : (ndAt (ndWayN P) 0).inv ρ) : VC cWayN (ndWayN P) (some ((ndAt (ndWayN P) 0).mu ρ)) ρ (n_WayN_0 P) := by
 simp only [VC, oblC, asmC, appAsm, outAt, ndAt, allTrue, List.mem_singleton, List.mem_cons, List.not_mem_nil, or_false, forall_eq_or_imp, forall_eq, BE.den, LX.den, nv, li, rowP, T62, T61, T60, T59, T58, n_WayN_0, ndWayN, cWayN, mel, cPutA] at hp ⊢
 simp only [envB_list_if, list_grow_if, rest_grow_if, Nat.div_one, bdList, len_grow, hl, int_envB, int_grow, bool_envB, bool_grow, List.getD_cons_zero, List.getD_cons_succ, List.map_cons, List.map_nil, Nat.reduceAdd, Nat.reduceSub, Nat.reduceLeDiff, Nat.reduceLT, Nat.reduceEqDiff, if_true, if_false, reduceIte, IE.den, oN_den, hN_den, h0_den, decide_eq_true_eq, decide_eq_false_iff_not, beq_iff_eq, beq_eq_false_iff_ne, ne_eq, Option.some.injEq, reduceCtorEq, forall_eq', true_and, false_implies, implies_true, and_true, natLit, bits64, bitsU64, Int.one_mul, Bool.not_eq_true', Bool.not_eq_false', not_true_eq_false] at hp ⊢
 obtain ⟨h1, h2, h3, h4⟩ := hp
 rw [h2]
 simp only [zer_get]
 exact ⟨fun h => absurd h (by decide), fun _ => ⟨h3, h4⟩⟩
theorem v_WayN_1 (P : Program) (ρ : Env) (hv : vals ρ) (hΓ : Γ0.On ρ) (hl : ρ.k.length = 23) (hp : (ndAt (ndWayN P) 1).inv ρ) : VC cWayN (ndWayN P) (some ((ndAt (ndWayN P) 1).mu ρ)) ρ (n_WayN_1 P) := by
 exact False.elim hp
theorem v_CheapN (P : Program) (ρ : Env) (hv : vals ρ) (hΓ : Γ0.On ρ) (hl : ρ.k.length = 17) (hp : cCheapN.pre ρ) : VC cCheapN (ndCheapN P) none ρ (e_CheapN P) := by
 simp only [VC, oblC, asmC, appAsm, outAt, ndAt, allTrue, List.mem_singleton, List.mem_cons, List.not_mem_nil, or_false, forall_eq_or_imp, forall_eq, BE.den, LX.den, nv, li, rowP, T62, T61, T60, T59, T58, e_CheapN, ndCheapN, cCheapN, mel, cTollsN, cWayN, noT] at hp ⊢
 simp only [envB_list_if, list_grow_if, rest_grow_if, Nat.div_one, bdList, len_grow, hl, int_envB, int_grow, bool_envB, bool_grow, List.getD_cons_zero, List.getD_cons_succ, List.map_cons, List.map_nil, Nat.reduceAdd, Nat.reduceSub, Nat.reduceLeDiff, Nat.reduceLT, Nat.reduceEqDiff, if_true, if_false, reduceIte, IE.den, oN_den, hN_den, h0_den, decide_eq_true_eq, decide_eq_false_iff_not, beq_iff_eq, beq_eq_false_iff_ne, ne_eq, Option.some.injEq, reduceCtorEq, forall_eq', true_and, false_implies, implies_true, and_true, natLit, bits64, bitsU64, Int.one_mul, Bool.not_eq_true', Bool.not_eq_false', not_true_eq_false] at hp ⊢
 obtain ⟨m0, p0⟩ := hp
 have h0 := andNot63 m0.1 (show (ρ.list 80).getD 0 0 < 2 ^ 6 by omega)
 have h1 := andNot63 p0.1 (show (ρ.list 80).getD 1 0 < 2 ^ 6 by omega)
 generalize (ρ.list 80).getD 0 0 = m at *
 obtain ⟨k, rfl⟩ := nat_of m0.1
 intro _ _
 refine ⟨fun h => absurd h0 h, fun _ => ⟨fun h => absurd h1 h, fun _ _ _ _ _ _ _ => ⟨p0, ?_⟩⟩⟩
 rintro _ _ _ r _ r1 ⟨z, c, hh⟩
 have hk := hh k (by omega)
 refine ⟨⟨m0, z⟩, fun h => ?_, fun _ r2 h => ⟨h.2, hk.1 h.1⟩⟩
 rw [h] at hk
 rw [Int.toNat_natCast]
 cases hg : gP ((ρ.list 80).getD 1 0) k with
 | false => rfl
 | true => exact absurd (hk.2 hg) (by decide)
theorem v_Cheap (P : Program) (ρ : Env) (hv : vals ρ) (hΓ : Γ0.On ρ) (hl : ρ.k.length = 20) (hp : cCheap.pre ρ) : VC cCheap (ndCheap P) none ρ (e_Cheap P) := by
 simp only [VC, oblC, asmC, appAsm, outAt, ndAt, allTrue, List.mem_singleton, List.mem_cons, List.not_mem_nil, or_false, forall_eq_or_imp, forall_eq, BE.den, LX.den, nv, li, rowP, T62, T61, T60, T59, T58, e_Cheap, ndCheap, cCheap, mel, cAt1, cTolls, cWayT, pA, pTl, nT, pWt, nB, nL] at hp ⊢
 simp only [envB_list_if, list_grow_if, rest_grow_if, Nat.div_one, bdList, len_grow, hl, int_envB, int_grow, bool_envB, bool_grow, List.getD_cons_zero, List.getD_cons_succ, List.map_cons, List.map_nil, Nat.reduceAdd, Nat.reduceSub, Nat.reduceLeDiff, Nat.reduceLT, Nat.reduceEqDiff, if_true, if_false, reduceIte, IE.den, oN_den, hN_den, h0_den, decide_eq_true_eq, decide_eq_false_iff_not, beq_iff_eq, beq_eq_false_iff_ne, ne_eq, Option.some.injEq, reduceCtorEq, forall_eq', true_and, false_implies, implies_true, and_true, natLit, bits64, bitsU64, Int.one_mul, Bool.not_eq_true', Bool.not_eq_false', not_true_eq_false] at hp ⊢
 obtain ⟨⟨n0, hag⟩, m0, p0⟩ := hp
 have h0 := andNot63 m0.1 (show (ρ.list 83).getD 0 0 < 2 ^ 6 by omega)
 have h1 := andNot63 p0.1 (show (ρ.list 83).getD 1 0 < 2 ^ 6 by omega)
 generalize (ρ.list 83).getD 0 0 = m at *
 generalize (ρ.list 83).getD 1 0 = pass at *
 generalize ρ.list 81 = L at *
 generalize (ρ.list 82).getD 0 0 = N at *
 obtain ⟨n, rfl⟩ : ∃ k : Nat, N = k := nat_of (by omega)
 obtain ⟨k, rfl⟩ := nat_of m0.1
 simp only [Int.toNat_natCast] at *
 have hB := bench_ok hag
 have hk : k < 64 := by omega
 intro _ _
 refine ⟨fun h => absurd h0 h, fun _ => ⟨fun h => absurd h1 h, fun _ _ _ => ⟨⟨n0, hag⟩, ?_⟩⟩⟩
 rintro _ _ _ r ⟨-, q1, q2⟩ _ _
 have ht := len_tdiv6 (L := List.map intOf r) (c := (n : Int)) (by omega) q2
 rw [ht, q1, Int.toNat_natCast]
 refine ⟨⟨n0, hB, p0⟩, ?_⟩
 intro _ _ _ r3 _ r4 hd
 generalize List.map intOf r3 = T at *
 generalize (List.map intOf r4).getD 0 0 = C at *
 refine ⟨⟨m0, n0, hB, ⟨_, hd⟩, fun h => hd.puts_le hB hk h⟩, fun h c hw => ?_, ?_, ?_⟩
 ·have := (hd.le hB hw).2.1
  rw [Int.toNat_natCast, h] at this
  cases this
 ·rintro _ r5 ⟨a1, a2, a3⟩
  have hg := hd.near hB hk a1 a2
  exact ⟨by rw [a3]; exact (hd.ok.goal k hk hg).2.1, hg⟩
 ·rintro _ r5 _ _ _ r7 ⟨a1, a2, a3, x, hw, a4⟩
  generalize List.map intOf r7 = W at *
  rw [a2] at hw ⊢
  have hmx := hw.mel
  obtain ⟨y, rfl⟩ := nat_of hmx.1
  have hy : y < 64 := by omega
  have hputs := hw.puts
  have hcost := hw.cost
  simp only [Int.toNat_natCast] at *
  have hgy := hd.near hB hy hw.has a4
  have hfar := hd.far hk (by omega)
  obtain ⟨e, he⟩ := nat_of (hd.ok.rng k hk).1.1
  refine ⟨⟨hd.wy hB e k hk a1 he, fun d hw => (hd.le hB hw).2.2⟩, ?_, ⟨hw.up, ?_, ?_⟩, hfar, a3⟩
  ·obtain ⟨j, j1, j2, j3⟩ := hd.first hB hk a1 (by omega)
   exact ⟨j, j1, j2, j3⟩
  ·have := hw.at_
   unfold runL
   rw [← this]
   exact hgy
  ·unfold sumL
   rw [(hd.ok.goal y hy hgy).2.1] at hcost
   omega
theorem v_Fol (P : Program) (ρ : Env) (hv : vals ρ) (hΓ : Γ0.On ρ) (hl : ρ.k.length = 22) (hp : cFol.pre ρ) : VC cFol (ndFol P) none ρ (e_Fol P) := by
 simp only [VC, oblC, asmC, appAsm, outAt, ndAt, allTrue, List.mem_singleton, List.mem_cons, List.not_mem_nil, or_false, forall_eq_or_imp, forall_eq, BE.den, LX.den, nv, li, rowP, T62, T61, T60, T59, T58, e_Fol, ndFol, cFol, mel, pFol, pA, nL] at hp ⊢
 simp only [envB_list_if, list_grow_if, rest_grow_if, Nat.div_one, bdList, len_grow, hl, int_envB, int_grow, bool_envB, bool_grow, List.getD_cons_zero, List.getD_cons_succ, List.map_cons, List.map_nil, Nat.reduceAdd, Nat.reduceSub, Nat.reduceLeDiff, Nat.reduceLT, Nat.reduceEqDiff, if_true, if_false, reduceIte, IE.den, oN_den, hN_den, h0_den, decide_eq_true_eq, decide_eq_false_iff_not, beq_iff_eq, beq_eq_false_iff_ne, ne_eq, Option.some.injEq, reduceCtorEq, forall_eq', true_and, false_implies, implies_true, and_true, natLit, bits64, bitsU64, Int.one_mul, Bool.not_eq_true', Bool.not_eq_false', not_true_eq_false] at hp ⊢
 exact ⟨hp, hp.2.1, by omega, by omega, upW_zero _ _ _ _, rfl⟩
theorem v_Fol_0 (P : Program) (ρ : Env) (hv : vals ρ) (hΓ : Γ0.On ρ) (hl : ρ.k.length = 23) (hp : (ndAt (ndFol P) 0).inv ρ) : VC cFol (ndFol P) (some ((ndAt (ndFol P) 0).mu ρ)) ρ (n_Fol_0 P) := by
 simp only [VC, oblC, asmC, appAsm, outAt, ndAt, allTrue, List.mem_singleton, List.mem_cons, List.not_mem_nil, or_false, forall_eq_or_imp, forall_eq, BE.den, LX.den, nv, li, rowP, T62, T61, T60, T59, T58, n_Fol_0, ndFol, cFol, mel, pFol, pA, nL] at hp ⊢
 simp only [envB_list_if, list_grow_if, rest_grow_if, Nat.div_one, bdList, len_grow, hl, int_envB, int_grow, bool_envB, bool_grow, List.getD_cons_zero, List.getD_cons_succ, List.map_cons, List.map_nil, Nat.reduceAdd, Nat.reduceSub, Nat.reduceLeDiff, Nat.reduceLT, Nat.reduceEqDiff, if_true, if_false, reduceIte, IE.den, oN_den, hN_den, h0_den, decide_eq_true_eq, decide_eq_false_iff_not, beq_iff_eq, beq_eq_false_iff_ne, ne_eq, Option.some.injEq, reduceCtorEq, forall_eq', true_and, false_implies, implies_true, and_true, natLit, bits64, bitsU64, Int.one_mul, Bool.not_eq_true', Bool.not_eq_false', not_true_eq_false] at hp ⊢
 obtain ⟨⟨⟨n0, hag⟩, m0, l1, l2, l3⟩, c0, i0, i1, hup, hrun⟩ := hp
 generalize (ρ.list 86).getD 1 0 = i at *
 generalize (ρ.list 86).getD 0 0 = cur at *
 generalize (ρ.list 85).getD 0 0 = m at *
 generalize (ρ.list 85).getD 1 0 = len at *
 generalize ρ.list 81 = L at *
 generalize ρ.list 84 = W at *
 generalize (ρ.list 82).getD 0 0 = N at *
 obtain ⟨n, rfl⟩ : ∃ k : Nat, N = k := nat_of (by omega)
 obtain ⟨k, rfl⟩ := nat_of i0
 simp only [Int.toNat_natCast] at *
 have hB := bench_ok hag
 have e1 : ((k : Int) + 1).toNat = k + 1 := by omega
 rw [e1]
 refine ⟨fun hk => ?_, fun hk => ⟨c0, by rw [show W.length = k by omega]; exact hup, by rw [show W.length = k by omega]; exact hrun⟩⟩
 have hkl : k < W.length := by omega
 generalize hj : W.getD k 0 = j at *
 have hwk : wL W k = j := hj
 have hat : ∀ h : upL L n W m W.length, (0 ≤ j ∧ j < n) ∧ mayJ (benchL L n) cur j.toNat = true := fun h => by
  have := h k hkl
  rw [hwk] at this
  rw [hrun]
  exact this
 refine ⟨by omega, fun h hu => by have := (hat hu).1.1; omega, fun hj0 => ⟨by omega, fun h hu => by have := (hat hu).1.2; omega, fun hj1 => ⟨by omega, by omega, ⟨by omega, ?_⟩, ?_⟩⟩⟩
 ·have := hag.1
  omega
 ·obtain ⟨q, rfl⟩ : ∃ q : Nat, j = q := nat_of (by omega)
  have hq : q < n := by omega
  have f0 : ((q : Int) * 5).toNat = 5 * q := by omega
  have f1 : ((q : Int) * 5 + 1).toNat = 5 * q + 1 := by omega
  have f2 : ((q : Int) * 5 + 2).toNat = 5 * q + 2 := by omega
  have f3 : ((q : Int) * 5 + 3).toNat = 5 * q + 3 := by omega
  rw [f0, f1, f2, f3]
  have hm := mayJ_iff (L := L) hq cur
  have ha := aftJ_eq (L := L) hq cur
  simp only [Int.toNat_natCast] at hat
  intro _ _
  refine ⟨fun h hu => h (hm.1 (hat hu).2).1, fun h1 => ⟨fun h hu => h (hm.1 (hat hu).2).2, fun h2 => ?_⟩⟩
  rw [← ha]
  obtain ⟨x, rfl⟩ := nat_of c0.1
  have hr := hB.aft (m := x) hq (by omega)
  refine ⟨⟨⟨⟨n0, hag⟩, m0, l1, l2, l3⟩, hr, by omega, by omega, ?_, ?_⟩, by omega⟩
  ·refine upW_succ hup (by rw [hwk]; omega) ?_
   rw [hwk]
   show mayJ _ (runL L n W m k) _ = true
   rw [← hrun]
   exact hm.2 ⟨h1, h2⟩
  ·show _ = aftJ (benchL L n) (runL L n W m k) (wL W k).toNat
   rw [hwk, ← hrun]
   rfl
theorem v_Pass (P : Program) (ρ : Env) (hv : vals ρ) (hΓ : Γ0.On ρ) (hl : ρ.k.length = 20) (hp : cPass.pre ρ) : VC cPass (ndPass P) none ρ (e_Pass P) := by
 simp only [VC, oblC, asmC, appAsm, outAt, ndAt, allTrue, List.mem_singleton, List.mem_cons, List.not_mem_nil, or_false, forall_eq_or_imp, forall_eq, BE.den, LX.den, nv, li, rowP, T62, T61, T60, T59, T58, e_Pass, ndPass, cPass, mel, cFaults] at hp ⊢
 simp only [envB_list_if, list_grow_if, rest_grow_if, Nat.div_one, bdList, len_grow, hl, int_envB, int_grow, bool_envB, bool_grow, List.getD_cons_zero, List.getD_cons_succ, List.map_cons, List.map_nil, Nat.reduceAdd, Nat.reduceSub, Nat.reduceLeDiff, Nat.reduceLT, Nat.reduceEqDiff, if_true, if_false, reduceIte, IE.den, oN_den, hN_den, h0_den, decide_eq_true_eq, decide_eq_false_iff_not, beq_iff_eq, beq_eq_false_iff_ne, ne_eq, Option.some.injEq, reduceCtorEq, forall_eq', true_and, false_implies, implies_true, and_true, natLit, bits64, bitsU64, Int.one_mul, Bool.not_eq_true', Bool.not_eq_false', not_true_eq_false] at hp ⊢
 obtain ⟨p0, a0, a1, f0, f1⟩ := hp
 generalize (ρ.list 82).getD 0 0 = few at *
 refine ⟨⟨p0, a0, by omega, f0, f1⟩, ?_⟩
 rintro _ r _ r1 ⟨b1, b2, b3, b4, -⟩
 refine ⟨⟨p0, by omega, by omega, f0, f1⟩, ?_⟩
 rintro _ r2 _ r3 ⟨c1, c2, c3, c4, -⟩
 have b5 := pow_le63 b4 f1
 have c5 := pow_le63 c4 f1
 obtain ⟨q, rfl⟩ := nat_of f0
 rw [Int.toNat_natCast]
 have h1 : ∀ k : Nat, k < 7 → 0 ≤ bitsOf .andNot .i64 63 (IntKind.i64.wrap (IntKind.i64.wrap (2 ^ Nat.min k 64) - 1)) ∧ bitsOf .andNot .i64 63 (IntKind.i64.wrap (IntKind.i64.wrap (2 ^ Nat.min k 64) - 1)) < 2 ^ 6 := by decide
 obtain ⟨u1, u2⟩ := h1 q (by omega)
 have v := and_rng (k := 6) (by decide) b3 (show _ < 2 ^ 6 by omega) c3 (by omega)
 have := or_rng (k := 6) (by decide) u1 u2 v.1 v.2
 exact ⟨by omega, by omega, by omega, by omega⟩
end Ft
set_option linter.unusedVariables false
set_option linter.unusedSimpArgs false
open Go Mv Mw Go.Proofs
namespace Ft
theorem cf_PutA : ∀ ρ, cPutA.pre ρ → ∀ b ∈ cPutA.fs, b.den ρ = true := by
 simp only [cPutA, fM, mel, fT, fBn, fImp, pImp, okP, nB, fTl, pTl, nT, pWt, pA, fA, agsV, fFol, pFol, noT, nL, goOn_, allTrue, List.mem_singleton, List.mem_cons, List.not_mem_nil, List.mem_append, or_false, or_assoc, List.cons_append, List.nil_append, List.append_assoc, forall_eq_or_imp, forall_eq, false_implies, implies_true, and_true, true_and, be_le, IE.den, oN_den, hN_den, h0_den, nm_, ge0, leN, nv, li, Int.toNat_natCast, Int.ofNat_eq_natCast, T62, T61, T60, T59, T58, Nat.reduceAdd]
 try (repeat' first | apply And.intro | intro _) <;> omega
theorem of_PutA : ∀ o ∈ cPutA.outs, ∀ ρ, o.post ρ → ∀ b ∈ o.fs, b.den ρ = true := by
 simp only [cPutA, fM, mel, fT, fBn, fImp, pImp, okP, nB, fTl, pTl, nT, pWt, pA, fA, agsV, fFol, pFol, noT, nL, goOn_, allTrue, List.mem_singleton, List.mem_cons, List.not_mem_nil, List.mem_append, or_false, or_assoc, List.cons_append, List.nil_append, List.append_assoc, forall_eq_or_imp, forall_eq, false_implies, implies_true, and_true, true_and, be_le, IE.den, oN_den, hN_den, h0_den, nm_, ge0, leN, nv, li, Int.toNat_natCast, Int.ofNat_eq_natCast, T62, T61, T60, T59, T58, Nat.reduceAdd]
 try (repeat' first | apply And.intro | intro _) <;> omega
theorem nf_PutA (P : Program) : ∀ nd ∈ ndPutA P, ∀ ρ, nd.inv ρ → ∀ b ∈ nd.fs, b.den ρ = true := by
 simp only [ndPutA, fM, mel, fT, fBn, fImp, pImp, okP, nB, fTl, pTl, nT, pWt, pA, fA, agsV, fFol, pFol, noT, nL, goOn_, allTrue, List.mem_singleton, List.mem_cons, List.not_mem_nil, List.mem_append, or_false, or_assoc, List.cons_append, List.nil_append, List.append_assoc, forall_eq_or_imp, forall_eq, false_implies, implies_true, and_true, true_and, be_le, IE.den, oN_den, hN_den, h0_den, nm_, ge0, leN, nv, li, Int.toNat_natCast, Int.ofNat_eq_natCast, T62, T61, T60, T59, T58, Nat.reduceAdd]
 try (repeat' first | apply And.intro | intro _) <;> omega
theorem ok_PutA (mm : Bool) : cPutA.Ok Tryd.prog mm Γ0 :=
 con_by (X := Xt Tryd.prog) (cons := consPutA) (nds := ndPutA Tryd.prog) (T0 := e_PutA Tryd.prog) (hkT_ok _) (fun d hd => by
  rcases List.mem_cons.1 hd with rfl | hd
  ·exact ok_May mm
  cases hd) (by kernel_rfl) (by kernel_rfl) rfl (by kernel_rfl) cf_PutA of_PutA (nf_PutA _) (by kernel_rfl) (fun ρ hv hΓ hl hp => v_PutA Tryd.prog ρ hv hΓ hl hp) trivial
theorem cf_Thr : ∀ ρ, cThr.pre ρ → ∀ b ∈ cThr.fs, b.den ρ = true := by
 simp only [cThr, fM, mel, fT, fBn, fImp, pImp, okP, nB, fTl, pTl, nT, pWt, pA, fA, agsV, fFol, pFol, noT, nL, goOn_, allTrue, List.mem_singleton, List.mem_cons, List.not_mem_nil, List.mem_append, or_false, or_assoc, List.cons_append, List.nil_append, List.append_assoc, forall_eq_or_imp, forall_eq, false_implies, implies_true, and_true, true_and, be_le, IE.den, oN_den, hN_den, h0_den, nm_, ge0, leN, nv, li, Int.toNat_natCast, Int.ofNat_eq_natCast, T62, T61, T60, T59, T58, Nat.reduceAdd]
 try rintro ρ ⟨h1, h2, h3⟩; have := h2.1; omega
theorem of_Thr : ∀ o ∈ cThr.outs, ∀ ρ, o.post ρ → ∀ b ∈ o.fs, b.den ρ = true := by
 simp only [cThr, fM, mel, fT, fBn, fImp, pImp, okP, nB, fTl, pTl, nT, pWt, pA, fA, agsV, fFol, pFol, noT, nL, goOn_, allTrue, List.mem_singleton, List.mem_cons, List.not_mem_nil, List.mem_append, or_false, or_assoc, List.cons_append, List.nil_append, List.append_assoc, forall_eq_or_imp, forall_eq, false_implies, implies_true, and_true, true_and, be_le, IE.den, oN_den, hN_den, h0_den, nm_, ge0, leN, nv, li, Int.toNat_natCast, Int.ofNat_eq_natCast, T62, T61, T60, T59, T58, Nat.reduceAdd]
 try (repeat' first | apply And.intro | intro _) <;> omega
theorem nf_Thr (P : Program) : ∀ nd ∈ ndThr P, ∀ ρ, nd.inv ρ → ∀ b ∈ nd.fs, b.den ρ = true := by
 simp only [ndThr, fM, mel, fT, fBn, fImp, pImp, okP, nB, fTl, pTl, nT, pWt, pA, fA, agsV, fFol, pFol, noT, nL, goOn_, allTrue, List.mem_singleton, List.mem_cons, List.not_mem_nil, List.mem_append, or_false, or_assoc, List.cons_append, List.nil_append, List.append_assoc, forall_eq_or_imp, forall_eq, false_implies, implies_true, and_true, true_and, be_le, IE.den, oN_den, hN_den, h0_den, nm_, ge0, leN, nv, li, Int.toNat_natCast, Int.ofNat_eq_natCast, T62, T61, T60, T59, T58, Nat.reduceAdd]
 try (repeat' first | apply And.intro | intro _) <;> omega
theorem ok_Thr (mm : Bool) : cThr.Ok Tryd.prog mm Γ0 :=
 con_by (X := Xt Tryd.prog) (cons := consThr) (nds := ndThr Tryd.prog) (T0 := e_Thr Tryd.prog) (hkT_ok _) (fun d hd => by
  rcases List.mem_cons.1 hd with rfl | hd
  ·exact ok_May mm
  rcases List.mem_cons.1 hd with rfl | hd
  ·exact ok_Has mm
  rcases List.mem_cons.1 hd with rfl | hd
  ·exact ok_PutA mm
  cases hd) (by kernel_rfl) (by kernel_rfl) rfl (by kernel_rfl) cf_Thr of_Thr (nf_Thr _) (by kernel_rfl) (fun ρ hv hΓ hl hp => v_Thr Tryd.prog ρ hv hΓ hl hp) trivial
theorem cf_Imp : ∀ ρ, cImp.pre ρ → ∀ b ∈ cImp.fs, b.den ρ = true := by
 simp only [cImp, fM, mel, fT, fBn, fImp, pImp, okP, nB, fTl, pTl, nT, pWt, pA, fA, agsV, fFol, pFol, noT, nL, goOn_, allTrue, List.mem_singleton, List.mem_cons, List.not_mem_nil, List.mem_append, or_false, or_assoc, List.cons_append, List.nil_append, List.append_assoc, forall_eq_or_imp, forall_eq, false_implies, implies_true, and_true, true_and, be_le, IE.den, oN_den, hN_den, h0_den, nm_, ge0, leN, nv, li, Int.toNat_natCast, Int.ofNat_eq_natCast, T62, T61, T60, T59, T58, Nat.reduceAdd]
 try rintro ρ ⟨h1, h2, h3, g, h4⟩; have a := h3.len; have b := h3.few; have c := h4.len; omega
theorem of_Imp : ∀ o ∈ cImp.outs, ∀ ρ, o.post ρ → ∀ b ∈ o.fs, b.den ρ = true := by
 simp only [cImp, fM, mel, fT, fBn, fImp, pImp, okP, nB, fTl, pTl, nT, pWt, pA, fA, agsV, fFol, pFol, noT, nL, goOn_, allTrue, List.mem_singleton, List.mem_cons, List.not_mem_nil, List.mem_append, or_false, or_assoc, List.cons_append, List.nil_append, List.append_assoc, forall_eq_or_imp, forall_eq, false_implies, implies_true, and_true, true_and, be_le, IE.den, oN_den, hN_den, h0_den, nm_, ge0, leN, nv, li, Int.toNat_natCast, Int.ofNat_eq_natCast, T62, T61, T60, T59, T58, Nat.reduceAdd]
 try rintro ρ ⟨h1, -⟩; omega
theorem nf_Imp (P : Program) : ∀ nd ∈ ndImp P, ∀ ρ, nd.inv ρ → ∀ b ∈ nd.fs, b.den ρ = true := by
 simp only [ndImp, fM, mel, fT, fBn, fImp, pImp, okP, nB, fTl, pTl, nT, pWt, pA, fA, agsV, fFol, pFol, noT, nL, goOn_, allTrue, List.mem_singleton, List.mem_cons, List.not_mem_nil, List.mem_append, or_false, or_assoc, List.cons_append, List.nil_append, List.append_assoc, forall_eq_or_imp, forall_eq, false_implies, implies_true, and_true, true_and, be_le, IE.den, oN_den, hN_den, h0_den, nm_, ge0, leN, nv, li, Int.toNat_natCast, Int.ofNat_eq_natCast, T62, T61, T60, T59, T58, Nat.reduceAdd]
 try exact ⟨by rintro ρ ⟨⟨h1, h2, h3, g, h4⟩, h5, h6, -⟩; have a := h3.len; have b := h3.few; have c := h4.len; omega, by rintro ρ ⟨⟨h1, h2, h3, g, h4⟩, h5, h6, h7, -⟩; have a := h3.len; have b := h3.few; have c := h4.len; omega⟩
theorem ok_Imp (mm : Bool) : cImp.Ok Tryd.prog mm Γ0 :=
 con_by (X := Xt Tryd.prog) (cons := consImp) (nds := ndImp Tryd.prog) (T0 := e_Imp Tryd.prog) (hkT_ok _) (fun d hd => by
  rcases List.mem_cons.1 hd with rfl | hd
  ·exact ok_Thr mm
  rcases List.mem_cons.1 hd with rfl | hd
  ·exact ok_Has mm
  rcases List.mem_cons.1 hd with rfl | hd
  ·exact ok_Cmp mm
  cases hd) (by kernel_rfl) (by kernel_rfl) rfl (by kernel_rfl) cf_Imp of_Imp (nf_Imp _) (by kernel_rfl) (fun ρ hv hΓ hl hp => v_Imp Tryd.prog ρ hv hΓ hl hp) ⟨⟨n_Imp_0 Tryd.prog, by kernel_rfl, fun ρ hv hΓ hl hi => v_Imp_0 Tryd.prog ρ hv hΓ hl hi⟩, ⟨⟨n_Imp_1 Tryd.prog, by kernel_rfl, fun ρ hv hΓ hl hi => v_Imp_1 Tryd.prog ρ hv hΓ hl hi⟩, trivial⟩⟩
theorem cf_Tolls : ∀ ρ, cTolls.pre ρ → ∀ b ∈ cTolls.fs, b.den ρ = true := by
 simp only [cTolls, fM, mel, fT, fBn, fImp, pImp, okP, nB, fTl, pTl, nT, pWt, pA, fA, agsV, fFol, pFol, noT, nL, goOn_, allTrue, List.mem_singleton, List.mem_cons, List.not_mem_nil, List.mem_append, or_false, or_assoc, List.cons_append, List.nil_append, List.append_assoc, forall_eq_or_imp, forall_eq, false_implies, implies_true, and_true, true_and, be_le, IE.den, oN_den, hN_den, h0_den, nm_, ge0, leN, nv, li, Int.toNat_natCast, Int.ofNat_eq_natCast, T62, T61, T60, T59, T58, Nat.reduceAdd]
 try rintro ρ ⟨h1, h3, h4⟩; have a := h3.len; have b := h3.few; omega
theorem of_Tolls : ∀ o ∈ cTolls.outs, ∀ ρ, o.post ρ → ∀ b ∈ o.fs, b.den ρ = true := by
 simp only [cTolls, fM, mel, fT, fBn, fImp, pImp, okP, nB, fTl, pTl, nT, pWt, pA, fA, agsV, fFol, pFol, noT, nL, goOn_, allTrue, List.mem_singleton, List.mem_cons, List.not_mem_nil, List.mem_append, or_false, or_assoc, List.cons_append, List.nil_append, List.append_assoc, forall_eq_or_imp, forall_eq, false_implies, implies_true, and_true, true_and, be_le, IE.den, oN_den, hN_den, h0_den, nm_, ge0, leN, nv, li, Int.toNat_natCast, Int.ofNat_eq_natCast, T62, T61, T60, T59, T58, Nat.reduceAdd]
 try intro ρ h; have c := h.ok.len; omega
theorem nf_Tolls (P : Program) : ∀ nd ∈ ndTolls P, ∀ ρ, nd.inv ρ → ∀ b ∈ nd.fs, b.den ρ = true := by
 simp only [ndTolls, fM, mel, fT, fBn, fImp, pImp, okP, nB, fTl, pTl, nT, pWt, pA, fA, agsV, fFol, pFol, noT, nL, goOn_, allTrue, List.mem_singleton, List.mem_cons, List.not_mem_nil, List.mem_append, or_false, or_assoc, List.cons_append, List.nil_append, List.append_assoc, forall_eq_or_imp, forall_eq, false_implies, implies_true, and_true, true_and, be_le, IE.den, oN_den, hN_den, h0_den, nm_, ge0, leN, nv, li, Int.toNat_natCast, Int.ofNat_eq_natCast, T62, T61, T60, T59, T58, Nat.reduceAdd]
 try exact ⟨by rintro ρ ⟨⟨h1, h3, h4⟩, z, -, h5, h6, -⟩; have a := h3.len; have b := h3.few; have c := congrArg List.length z; rw [zer_len] at c; omega, by rintro ρ ⟨⟨h1, h3, h4⟩, h7, h5, h6, -⟩; have a := h3.len; have b := h3.few; have c := h7.len; omega, by rintro ρ ⟨⟨h1, h3, h4⟩, h7, h5, h6⟩; have a := h3.len; have b := h3.few; have c := h7.len; omega⟩
theorem ok_Tolls (mm : Bool) : cTolls.Ok Tryd.prog mm Γ0 :=
 con_by (X := Xt Tryd.prog) (cons := consTolls) (nds := ndTolls Tryd.prog) (T0 := e_Tolls Tryd.prog) (hkT_ok _) (fun d hd => by
  rcases List.mem_cons.1 hd with rfl | hd
  ·exact ok_Imp mm
  cases hd) (by kernel_rfl) (by kernel_rfl) rfl (by kernel_rfl) cf_Tolls of_Tolls (nf_Tolls _) (by kernel_rfl) (fun ρ hv hΓ hl hp => v_Tolls Tryd.prog ρ hv hΓ hl hp) ⟨⟨n_Tolls_0 Tryd.prog, by kernel_rfl, fun ρ hv hΓ hl hi => v_Tolls_0 Tryd.prog ρ hv hΓ hl hi⟩, ⟨⟨n_Tolls_1 Tryd.prog, by kernel_rfl, fun ρ hv hΓ hl hi => v_Tolls_1 Tryd.prog ρ hv hΓ hl hi⟩, ⟨⟨n_Tolls_2 Tryd.prog, by kernel_rfl, fun ρ hv hΓ hl hi => v_Tolls_2 Tryd.prog ρ hv hΓ hl hi⟩, trivial⟩⟩⟩
theorem cf_WayT : ∀ ρ, cWayT.pre ρ → ∀ b ∈ cWayT.fs, b.den ρ = true := by
 simp only [cWayT, fM, mel, fT, fBn, fImp, pImp, okP, nB, fTl, pTl, nT, pWt, pA, fA, agsV, fFol, pFol, noT, nL, goOn_, allTrue, List.mem_singleton, List.mem_cons, List.not_mem_nil, List.mem_append, or_false, or_assoc, List.cons_append, List.nil_append, List.append_assoc, forall_eq_or_imp, forall_eq, false_implies, implies_true, and_true, true_and, be_le, IE.den, oN_den, hN_den, h0_den, nm_, ge0, leN, nv, li, Int.toNat_natCast, Int.ofNat_eq_natCast, T62, T61, T60, T59, T58, Nat.reduceAdd]
 try rintro ρ ⟨h1, h2, h3, ⟨g, h4⟩, -⟩; have a := h3.len; have b := h3.few; have c := h4.ok.len; omega
theorem of_WayT : ∀ o ∈ cWayT.outs, ∀ ρ, o.post ρ → ∀ b ∈ o.fs, b.den ρ = true := by
 simp only [cWayT, fM, mel, fT, fBn, fImp, pImp, okP, nB, fTl, pTl, nT, pWt, pA, fA, agsV, fFol, pFol, noT, nL, goOn_, allTrue, List.mem_singleton, List.mem_cons, List.not_mem_nil, List.mem_append, or_false, or_assoc, List.cons_append, List.nil_append, List.append_assoc, forall_eq_or_imp, forall_eq, false_implies, implies_true, and_true, true_and, be_le, IE.den, oN_den, hN_den, h0_den, nm_, ge0, leN, nv, li, Int.toNat_natCast, Int.ofNat_eq_natCast, T62, T61, T60, T59, T58, Nat.reduceAdd]
 try (repeat' first | apply And.intro | intro _) <;> omega
theorem nf_WayT (P : Program) : ∀ nd ∈ ndWayT P, ∀ ρ, nd.inv ρ → ∀ b ∈ nd.fs, b.den ρ = true := by
 simp only [ndWayT, fM, mel, fT, fBn, fImp, pImp, okP, nB, fTl, pTl, nT, pWt, pA, fA, agsV, fFol, pFol, noT, nL, goOn_, allTrue, List.mem_singleton, List.mem_cons, List.not_mem_nil, List.mem_append, or_false, or_assoc, List.cons_append, List.nil_append, List.append_assoc, forall_eq_or_imp, forall_eq, false_implies, implies_true, and_true, true_and, be_le, IE.den, oN_den, hN_den, h0_den, nm_, ge0, leN, nv, li, Int.toNat_natCast, Int.ofNat_eq_natCast, T62, T61, T60, T59, T58, Nat.reduceAdd]
 try exact ⟨by rintro ρ ⟨⟨h1, h2, h3, ⟨g, h4⟩, -⟩, -⟩; have a := h3.len; have b := h3.few; have c := h4.ok.len; omega, by rintro ρ ⟨⟨h1, h2, h3, ⟨g, h4⟩, -⟩, -, -, h5, h6⟩; have a := h3.len; have b := h3.few; have c := h4.ok.len; have d := h6.mel; omega⟩
theorem ok_WayT (mm : Bool) : cWayT.Ok Tryd.prog mm Γ0 :=
 con_by (X := Xt Tryd.prog) (cons := consWayT) (nds := ndWayT Tryd.prog) (T0 := e_WayT Tryd.prog) (hkT_ok _) (fun d hd => by
  rcases List.mem_cons.1 hd with rfl | hd
  ·exact ok_Has mm
  rcases List.mem_cons.1 hd with rfl | hd
  ·exact ok_PutA mm
  cases hd) (by kernel_rfl) (by kernel_rfl) rfl (by kernel_rfl) cf_WayT of_WayT (nf_WayT _) (by kernel_rfl) (fun ρ hv hΓ hl hp => v_WayT Tryd.prog ρ hv hΓ hl hp) ⟨⟨n_WayT_0 Tryd.prog, by kernel_rfl, fun ρ hv hΓ hl hi => v_WayT_0 Tryd.prog ρ hv hΓ hl hi⟩, ⟨⟨n_WayT_1 Tryd.prog, by kernel_rfl, fun ρ hv hΓ hl hi => v_WayT_1 Tryd.prog ρ hv hΓ hl hi⟩, trivial⟩⟩
theorem cf_TollsN : ∀ ρ, cTollsN.pre ρ → ∀ b ∈ cTollsN.fs, b.den ρ = true := by
 simp only [cTollsN, fM, mel, fT, fBn, fImp, pImp, okP, nB, fTl, pTl, nT, pWt, pA, fA, agsV, fFol, pFol, noT, nL, goOn_, allTrue, List.mem_singleton, List.mem_cons, List.not_mem_nil, List.mem_append, or_false, or_assoc, List.cons_append, List.nil_append, List.append_assoc, forall_eq_or_imp, forall_eq, false_implies, implies_true, and_true, true_and, be_le, IE.den, oN_den, hN_den, h0_den, nm_, ge0, leN, nv, li, Int.toNat_natCast, Int.ofNat_eq_natCast, T62, T61, T60, T59, T58, Nat.reduceAdd]
 try (repeat' first | apply And.intro | intro _) <;> omega
theorem of_TollsN : ∀ o ∈ cTollsN.outs, ∀ ρ, o.post ρ → ∀ b ∈ o.fs, b.den ρ = true := by
 simp only [cTollsN, fM, mel, fT, fBn, fImp, pImp, okP, nB, fTl, pTl, nT, pWt, pA, fA, agsV, fFol, pFol, noT, nL, goOn_, allTrue, List.mem_singleton, List.mem_cons, List.not_mem_nil, List.mem_append, or_false, or_assoc, List.cons_append, List.nil_append, List.append_assoc, forall_eq_or_imp, forall_eq, false_implies, implies_true, and_true, true_and, be_le, IE.den, oN_den, hN_den, h0_den, nm_, ge0, leN, nv, li, Int.toNat_natCast, Int.ofNat_eq_natCast, T62, T61, T60, T59, T58, Nat.reduceAdd]
 try rintro ρ ⟨z, -⟩; have c := congrArg List.length z; rw [zer_len] at c; omega
theorem nf_TollsN (P : Program) : ∀ nd ∈ ndTollsN P, ∀ ρ, nd.inv ρ → ∀ b ∈ nd.fs, b.den ρ = true := by
 simp only [ndTollsN, fM, mel, fT, fBn, fImp, pImp, okP, nB, fTl, pTl, nT, pWt, pA, fA, agsV, fFol, pFol, noT, nL, goOn_, allTrue, List.mem_singleton, List.mem_cons, List.not_mem_nil, List.mem_append, or_false, or_assoc, List.cons_append, List.nil_append, List.append_assoc, forall_eq_or_imp, forall_eq, false_implies, implies_true, and_true, true_and, be_le, IE.den, oN_den, hN_den, h0_den, nm_, ge0, leN, nv, li, Int.toNat_natCast, Int.ofNat_eq_natCast, T62, T61, T60, T59, T58, Nat.reduceAdd]
 try exact ⟨by rintro ρ ⟨h1, z, -, h5, h6, -⟩; have c := congrArg List.length z; rw [zer_len] at c; omega, by rintro ρ ⟨⟨z, -⟩, h5, h6⟩; have c := congrArg List.length z; rw [zer_len] at c; omega⟩
theorem ok_TollsN (mm : Bool) : cTollsN.Ok Tryd.prog mm Γ0 :=
 con_by (X := Xt Tryd.prog) (cons := consTollsN) (nds := ndTollsN Tryd.prog) (T0 := e_TollsN Tryd.prog) (hkT_ok _) (fun d hd => by cases hd) (by kernel_rfl) (by kernel_rfl) rfl (by kernel_rfl) cf_TollsN of_TollsN (nf_TollsN _) (by kernel_rfl) (fun ρ hv hΓ hl hp => v_TollsN Tryd.prog ρ hv hΓ hl hp) ⟨⟨n_TollsN_0 Tryd.prog, by kernel_rfl, fun ρ hv hΓ hl hi => v_TollsN_0 Tryd.prog ρ hv hΓ hl hi⟩, ⟨⟨n_TollsN_1 Tryd.prog, by kernel_rfl, fun ρ hv hΓ hl hi => v_TollsN_1 Tryd.prog ρ hv hΓ hl hi⟩, trivial⟩⟩
theorem cf_WayN : ∀ ρ, cWayN.pre ρ → ∀ b ∈ cWayN.fs, b.den ρ = true := by
 simp only [cWayN, fM, mel, fT, fBn, fImp, pImp, okP, nB, fTl, pTl, nT, pWt, pA, fA, agsV, fFol, pFol, noT, nL, goOn_, allTrue, List.mem_singleton, List.mem_cons, List.not_mem_nil, List.mem_append, or_false, or_assoc, List.cons_append, List.nil_append, List.append_assoc, forall_eq_or_imp, forall_eq, false_implies, implies_true, and_true, true_and, be_le, IE.den, oN_den, hN_den, h0_den, nm_, ge0, leN, nv, li, Int.toNat_natCast, Int.ofNat_eq_natCast, T62, T61, T60, T59, T58, Nat.reduceAdd]
 try rintro ρ ⟨h1, z⟩; have c := congrArg List.length z; rw [zer_len] at c; omega
theorem of_WayN : ∀ o ∈ cWayN.outs, ∀ ρ, o.post ρ → ∀ b ∈ o.fs, b.den ρ = true := by
 simp only [cWayN, fM, mel, fT, fBn, fImp, pImp, okP, nB, fTl, pTl, nT, pWt, pA, fA, agsV, fFol, pFol, noT, nL, goOn_, allTrue, List.mem_singleton, List.mem_cons, List.not_mem_nil, List.mem_append, or_false, or_assoc, List.cons_append, List.nil_append, List.append_assoc, forall_eq_or_imp, forall_eq, false_implies, implies_true, and_true, true_and, be_le, IE.den, oN_den, hN_den, h0_den, nm_, ge0, leN, nv, li, Int.toNat_natCast, Int.ofNat_eq_natCast, T62, T61, T60, T59, T58, Nat.reduceAdd]
 try (repeat' first | apply And.intro | intro _) <;> omega
theorem nf_WayN (P : Program) : ∀ nd ∈ ndWayN P, ∀ ρ, nd.inv ρ → ∀ b ∈ nd.fs, b.den ρ = true := by
 simp only [ndWayN, fM, mel, fT, fBn, fImp, pImp, okP, nB, fTl, pTl, nT, pWt, pA, fA, agsV, fFol, pFol, noT, nL, goOn_, allTrue, List.mem_singleton, List.mem_cons, List.not_mem_nil, List.mem_append, or_false, or_assoc, List.cons_append, List.nil_append, List.append_assoc, forall_eq_or_imp, forall_eq, false_implies, implies_true, and_true, true_and, be_le, IE.den, oN_den, hN_den, h0_den, nm_, ge0, leN, nv, li, Int.toNat_natCast, Int.ofNat_eq_natCast, T62, T61, T60, T59, T58, Nat.reduceAdd]
 try rintro ρ ⟨h1, z, -⟩; have c := congrArg List.length z; rw [zer_len] at c; omega
theorem ok_WayN (mm : Bool) : cWayN.Ok Tryd.prog mm Γ0 :=
 con_by (X := Xt Tryd.prog) (cons := consWayN) (nds := ndWayN Tryd.prog) (T0 := e_WayN Tryd.prog) (hkT_ok _) (fun d hd => by
  rcases List.mem_cons.1 hd with rfl | hd
  ·exact ok_Has mm
  rcases List.mem_cons.1 hd with rfl | hd
  ·exact ok_PutA mm
  cases hd) (by kernel_rfl) (by kernel_rfl) rfl (by kernel_rfl) cf_WayN of_WayN (nf_WayN _) (by kernel_rfl) (fun ρ hv hΓ hl hp => v_WayN Tryd.prog ρ hv hΓ hl hp) ⟨⟨n_WayN_0 Tryd.prog, by kernel_rfl, fun ρ hv hΓ hl hi => v_WayN_0 Tryd.prog ρ hv hΓ hl hi⟩, ⟨⟨n_WayN_1 Tryd.prog, by kernel_rfl, fun ρ hv hΓ hl hi => v_WayN_1 Tryd.prog ρ hv hΓ hl hi⟩, trivial⟩⟩
theorem cf_CheapN : ∀ ρ, cCheapN.pre ρ → ∀ b ∈ cCheapN.fs, b.den ρ = true := by
 simp only [cCheapN, fM, mel, fT, fBn, fImp, pImp, okP, nB, fTl, pTl, nT, pWt, pA, fA, agsV, fFol, pFol, noT, nL, goOn_, allTrue, List.mem_singleton, List.mem_cons, List.not_mem_nil, List.mem_append, or_false, or_assoc, List.cons_append, List.nil_append, List.append_assoc, forall_eq_or_imp, forall_eq, false_implies, implies_true, and_true, true_and, be_le, IE.den, oN_den, hN_den, h0_den, nm_, ge0, leN, nv, li, Int.toNat_natCast, Int.ofNat_eq_natCast, T62, T61, T60, T59, T58, Nat.reduceAdd]
 try (repeat' first | apply And.intro | intro _) <;> omega
theorem of_CheapN : ∀ o ∈ cCheapN.outs, ∀ ρ, o.post ρ → ∀ b ∈ o.fs, b.den ρ = true := by
 simp only [cCheapN, fM, mel, fT, fBn, fImp, pImp, okP, nB, fTl, pTl, nT, pWt, pA, fA, agsV, fFol, pFol, noT, nL, goOn_, allTrue, List.mem_singleton, List.mem_cons, List.not_mem_nil, List.mem_append, or_false, or_assoc, List.cons_append, List.nil_append, List.append_assoc, forall_eq_or_imp, forall_eq, false_implies, implies_true, and_true, true_and, be_le, IE.den, oN_den, hN_den, h0_den, nm_, ge0, leN, nv, li, Int.toNat_natCast, Int.ofNat_eq_natCast, T62, T61, T60, T59, T58, Nat.reduceAdd]
 try (repeat' first | apply And.intro | intro _) <;> omega
theorem nf_CheapN (P : Program) : ∀ nd ∈ ndCheapN P, ∀ ρ, nd.inv ρ → ∀ b ∈ nd.fs, b.den ρ = true := by
 simp only [ndCheapN, fM, mel, fT, fBn, fImp, pImp, okP, nB, fTl, pTl, nT, pWt, pA, fA, agsV, fFol, pFol, noT, nL, goOn_, allTrue, List.mem_singleton, List.mem_cons, List.not_mem_nil, List.mem_append, or_false, or_assoc, List.cons_append, List.nil_append, List.append_assoc, forall_eq_or_imp, forall_eq, false_implies, implies_true, and_true, true_and, be_le, IE.den, oN_den, hN_den, h0_den, nm_, ge0, leN, nv, li, Int.toNat_natCast, Int.ofNat_eq_natCast, T62, T61, T60, T59, T58, Nat.reduceAdd]
 try (repeat' first | apply And.intro | intro _) <;> omega
theorem ok_CheapN (mm : Bool) : cCheapN.Ok Tryd.prog mm Γ0 :=
 con_by (X := Xt Tryd.prog) (cons := consCheapN) (nds := ndCheapN Tryd.prog) (T0 := e_CheapN Tryd.prog) (hkT_ok _) (fun d hd => by
  rcases List.mem_cons.1 hd with rfl | hd
  ·exact ok_TollsN mm
  rcases List.mem_cons.1 hd with rfl | hd
  ·exact ok_WayN mm
  cases hd) (by kernel_rfl) (by kernel_rfl) rfl (by kernel_rfl) cf_CheapN of_CheapN (nf_CheapN _) (by kernel_rfl) (fun ρ hv hΓ hl hp => v_CheapN Tryd.prog ρ hv hΓ hl hp) trivial
theorem cf_Cheap : ∀ ρ, cCheap.pre ρ → ∀ b ∈ cCheap.fs, b.den ρ = true := by
 simp only [cCheap, fM, mel, fT, fBn, fImp, pImp, okP, nB, fTl, pTl, nT, pWt, pA, fA, agsV, fFol, pFol, noT, nL, goOn_, allTrue, List.mem_singleton, List.mem_cons, List.not_mem_nil, List.mem_append, or_false, or_assoc, List.cons_append, List.nil_append, List.append_assoc, forall_eq_or_imp, forall_eq, false_implies, implies_true, and_true, true_and, be_le, IE.den, oN_den, hN_den, h0_den, nm_, ge0, leN, nv, li, Int.toNat_natCast, Int.ofNat_eq_natCast, T62, T61, T60, T59, T58, Nat.reduceAdd]
 try (repeat' first | apply And.intro | intro _) <;> omega
theorem of_Cheap : ∀ o ∈ cCheap.outs, ∀ ρ, o.post ρ → ∀ b ∈ o.fs, b.den ρ = true := by
 simp only [cCheap, fM, mel, fT, fBn, fImp, pImp, okP, nB, fTl, pTl, nT, pWt, pA, fA, agsV, fFol, pFol, noT, nL, goOn_, allTrue, List.mem_singleton, List.mem_cons, List.not_mem_nil, List.mem_append, or_false, or_assoc, List.cons_append, List.nil_append, List.append_assoc, forall_eq_or_imp, forall_eq, false_implies, implies_true, and_true, true_and, be_le, IE.den, oN_den, hN_den, h0_den, nm_, ge0, leN, nv, li, Int.toNat_natCast, Int.ofNat_eq_natCast, T62, T61, T60, T59, T58, Nat.reduceAdd]
 try (repeat' first | apply And.intro | intro _) <;> omega
theorem nf_Cheap (P : Program) : ∀ nd ∈ ndCheap P, ∀ ρ, nd.inv ρ → ∀ b ∈ nd.fs, b.den ρ = true := by
 simp only [ndCheap, fM, mel, fT, fBn, fImp, pImp, okP, nB, fTl, pTl, nT, pWt, pA, fA, agsV, fFol, pFol, noT, nL, goOn_, allTrue, List.mem_singleton, List.mem_cons, List.not_mem_nil, List.mem_append, or_false, or_assoc, List.cons_append, List.nil_append, List.append_assoc, forall_eq_or_imp, forall_eq, false_implies, implies_true, and_true, true_and, be_le, IE.den, oN_den, hN_den, h0_den, nm_, ge0, leN, nv, li, Int.toNat_natCast, Int.ofNat_eq_natCast, T62, T61, T60, T59, T58, Nat.reduceAdd]
 try (repeat' first | apply And.intro | intro _) <;> omega
theorem ok_Cheap (mm : Bool) : cCheap.Ok Tryd.prog mm Γ0 :=
 con_by (X := Xt Tryd.prog) (cons := consCheap) (nds := ndCheap Tryd.prog) (T0 := e_Cheap Tryd.prog) (hkT_ok _) (fun d hd => by
  rcases List.mem_cons.1 hd with rfl | hd
  ·exact ok_At1 mm
  rcases List.mem_cons.1 hd with rfl | hd
  ·exact ok_Tolls mm
  rcases List.mem_cons.1 hd with rfl | hd
  ·exact ok_WayT mm
  cases hd) (by kernel_rfl) (by kernel_rfl) rfl (by kernel_rfl) cf_Cheap of_Cheap (nf_Cheap _) (by kernel_rfl) (fun ρ hv hΓ hl hp => v_Cheap Tryd.prog ρ hv hΓ hl hp) trivial
theorem cf_Fol : ∀ ρ, cFol.pre ρ → ∀ b ∈ cFol.fs, b.den ρ = true := by
 simp only [cFol, fM, mel, fT, fBn, fImp, pImp, okP, nB, fTl, pTl, nT, pWt, pA, fA, agsV, fFol, pFol, noT, nL, goOn_, allTrue, List.mem_singleton, List.mem_cons, List.not_mem_nil, List.mem_append, or_false, or_assoc, List.cons_append, List.nil_append, List.append_assoc, forall_eq_or_imp, forall_eq, false_implies, implies_true, and_true, true_and, be_le, IE.den, oN_den, hN_den, h0_den, nm_, ge0, leN, nv, li, Int.toNat_natCast, Int.ofNat_eq_natCast, T62, T61, T60, T59, T58, Nat.reduceAdd]
 try (repeat' first | apply And.intro | intro _) <;> omega
theorem of_Fol : ∀ o ∈ cFol.outs, ∀ ρ, o.post ρ → ∀ b ∈ o.fs, b.den ρ = true := by
 simp only [cFol, fM, mel, fT, fBn, fImp, pImp, okP, nB, fTl, pTl, nT, pWt, pA, fA, agsV, fFol, pFol, noT, nL, goOn_, allTrue, List.mem_singleton, List.mem_cons, List.not_mem_nil, List.mem_append, or_false, or_assoc, List.cons_append, List.nil_append, List.append_assoc, forall_eq_or_imp, forall_eq, false_implies, implies_true, and_true, true_and, be_le, IE.den, oN_den, hN_den, h0_den, nm_, ge0, leN, nv, li, Int.toNat_natCast, Int.ofNat_eq_natCast, T62, T61, T60, T59, T58, Nat.reduceAdd]
 try (repeat' first | apply And.intro | intro _) <;> omega
theorem nf_Fol (P : Program) : ∀ nd ∈ ndFol P, ∀ ρ, nd.inv ρ → ∀ b ∈ nd.fs, b.den ρ = true := by
 simp only [ndFol, fM, mel, fT, fBn, fImp, pImp, okP, nB, fTl, pTl, nT, pWt, pA, fA, agsV, fFol, pFol, noT, nL, goOn_, allTrue, List.mem_singleton, List.mem_cons, List.not_mem_nil, List.mem_append, or_false, or_assoc, List.cons_append, List.nil_append, List.append_assoc, forall_eq_or_imp, forall_eq, false_implies, implies_true, and_true, true_and, be_le, IE.den, oN_den, hN_den, h0_den, nm_, ge0, leN, nv, li, Int.toNat_natCast, Int.ofNat_eq_natCast, T62, T61, T60, T59, T58, Nat.reduceAdd]
 try (repeat' first | apply And.intro | intro _) <;> omega
theorem ok_Fol (mm : Bool) : cFol.Ok Tryd.prog mm Γ0 :=
 con_by (X := Xt Tryd.prog) (cons := consFol) (nds := ndFol Tryd.prog) (T0 := e_Fol Tryd.prog) (hkT_ok _) (fun d hd => by cases hd) (by kernel_rfl) (by kernel_rfl) rfl (by kernel_rfl) cf_Fol of_Fol (nf_Fol _) (by kernel_rfl) (fun ρ hv hΓ hl hp => v_Fol Tryd.prog ρ hv hΓ hl hp) ⟨⟨n_Fol_0 Tryd.prog, by kernel_rfl, fun ρ hv hΓ hl hi => v_Fol_0 Tryd.prog ρ hv hΓ hl hi⟩, trivial⟩
theorem cf_Pass : ∀ ρ, cPass.pre ρ → ∀ b ∈ cPass.fs, b.den ρ = true := by
 simp only [cPass, fM, mel, fT, fBn, fImp, pImp, okP, nB, fTl, pTl, nT, pWt, pA, fA, agsV, fFol, pFol, noT, nL, goOn_, allTrue, List.mem_singleton, List.mem_cons, List.not_mem_nil, List.mem_append, or_false, or_assoc, List.cons_append, List.nil_append, List.append_assoc, forall_eq_or_imp, forall_eq, false_implies, implies_true, and_true, true_and, be_le, IE.den, oN_den, hN_den, h0_den, nm_, ge0, leN, nv, li, Int.toNat_natCast, Int.ofNat_eq_natCast, T62, T61, T60, T59, T58, Nat.reduceAdd]
 try (repeat' first | apply And.intro | intro _) <;> omega
theorem of_Pass : ∀ o ∈ cPass.outs, ∀ ρ, o.post ρ → ∀ b ∈ o.fs, b.den ρ = true := by
 simp only [cPass, fM, mel, fT, fBn, fImp, pImp, okP, nB, fTl, pTl, nT, pWt, pA, fA, agsV, fFol, pFol, noT, nL, goOn_, allTrue, List.mem_singleton, List.mem_cons, List.not_mem_nil, List.mem_append, or_false, or_assoc, List.cons_append, List.nil_append, List.append_assoc, forall_eq_or_imp, forall_eq, false_implies, implies_true, and_true, true_and, be_le, IE.den, oN_den, hN_den, h0_den, nm_, ge0, leN, nv, li, Int.toNat_natCast, Int.ofNat_eq_natCast, T62, T61, T60, T59, T58, Nat.reduceAdd]
 try (repeat' first | apply And.intro | intro _) <;> omega
theorem nf_Pass (P : Program) : ∀ nd ∈ ndPass P, ∀ ρ, nd.inv ρ → ∀ b ∈ nd.fs, b.den ρ = true := by
 simp only [ndPass, fM, mel, fT, fBn, fImp, pImp, okP, nB, fTl, pTl, nT, pWt, pA, fA, agsV, fFol, pFol, noT, nL, goOn_, allTrue, List.mem_singleton, List.mem_cons, List.not_mem_nil, List.mem_append, or_false, or_assoc, List.cons_append, List.nil_append, List.append_assoc, forall_eq_or_imp, forall_eq, false_implies, implies_true, and_true, true_and, be_le, IE.den, oN_den, hN_den, h0_den, nm_, ge0, leN, nv, li, Int.toNat_natCast, Int.ofNat_eq_natCast, T62, T61, T60, T59, T58, Nat.reduceAdd]
 try (repeat' first | apply And.intro | intro _) <;> omega
theorem ok_Pass (mm : Bool) : cPass.Ok Tryd.prog mm Γ0 :=
 con_by (X := Xt Tryd.prog) (cons := consPass) (nds := ndPass Tryd.prog) (T0 := e_Pass Tryd.prog) (hkT_ok _) (fun d hd => by
  rcases List.mem_cons.1 hd with rfl | hd
  ·exact ok_Faults mm
  cases hd) (by kernel_rfl) (by kernel_rfl) rfl (by kernel_rfl) cf_Pass of_Pass (nf_Pass _) (by kernel_rfl) (fun ρ hv hΓ hl hp => v_Pass Tryd.prog ρ hv hΓ hl hp) trivial
end Ft
set_option linter.unusedVariables false
open Go Mv Mw Go.Proofs
namespace Ft
theorem Fa_ok (mm : Bool) : HkOk Tryd.prog (noRel mm) (Fa.hk Tryd.prog) :=
 hOr_ok (hExt_ok xClear_ok) (hOr_ok (hExt_ok xApp_ok) (hOr_ok hObv_ok (hOr_ok hPop_ok (hOr_ok (hExt_ok xTail_ok) (hOr_ok hMap_ok (hOr_ok (hExt_ok (xAs_ok LB_as)) (hOr_ok (hExt_ok (xAs_ok LE_as)) (hOr_ok (hExt_ok (xNot_ok LB_not)) (hExt_ok xTA_ok)))))))))
end Ft
set_option linter.unusedVariables false
set_option linter.unusedSimpArgs false
open Go Mv Mw
namespace Ft
theorem v_Row (P : Program) (ρ : Env) (hv : vals ρ) (hΓ : Γ0.On ρ) (hl : ρ.k.length = 17) (hp : cRow.pre ρ) : VC cRow (ndRow P) none ρ (e_Row P) := by
 simp only [VC, oblC, asmC, appAsm, outAt, ndAt, allTrue, List.mem_singleton, List.mem_cons, List.not_mem_nil, or_false, forall_eq_or_imp, forall_eq, BE.den, LX.den, nv, li, rowP, T62, T61, T60, T59, T58, e_Row, ndRow, cRow, mel, cAgents, cTo, cPass, cCheap, cCheapN, cFol, cFined, pA, nL, pFol, pRow, leastR, firstR, noneL] at hp ⊢
 simp only [envB_list_if, list_grow_if, rest_grow_if, Nat.div_one, bdList, len_grow, hl, int_envB, int_grow, bool_envB, bool_grow, List.getD_cons_zero, List.getD_cons_succ, List.map_cons, List.map_nil, Nat.reduceAdd, Nat.reduceSub, Nat.reduceLeDiff, Nat.reduceLT, Nat.reduceEqDiff, if_true, if_false, reduceIte, IE.den, oN_den, hN_den, h0_den, decide_eq_true_eq, decide_eq_false_iff_not, beq_iff_eq, beq_eq_false_iff_ne, ne_eq, Option.some.injEq, reduceCtorEq, forall_eq', true_and, false_implies, implies_true, and_true, natLit, bits64, bitsU64, Int.one_mul, Bool.not_eq_true', Bool.not_eq_false', not_true_eq_false] at hp ⊢
 intro _ _
 refine ⟨⟨hp, by decide, by decide, by decide, by decide, by decide, by decide⟩, ?_, ?_⟩
 ·rintro _ r ⟨a1, a2⟩
  refine ⟨⟨hp, a1, by omega, by decide, by decide⟩, ?_⟩
  rintro _ r1 _ r2 ⟨b1, b2, b3⟩
  refine ⟨⟨hp, by omega, by omega, by decide, by decide⟩, ?_⟩
  rintro _ _ _ r3 ⟨-, -, c3, c4⟩
  exact ⟨⟨⟨b2, by omega⟩, c3, c4⟩, fun h => ⟨⟨b2, by omega⟩, ⟨c3, c4⟩, h⟩, fun _ _ h => ⟨⟨b2, by omega⟩, ⟨c3, c4⟩, h.2, h.1⟩⟩
 ·rintro _ r _ _ _ x ⟨a1, a2, c, a3, a4, -, a5, a6⟩
  have hA : agsV (List.map intOf x) c := ⟨a5, by omega, fun i hi => agV_mono (a6 i hi)⟩
  have ht := len_tdiv a5
  have hn := nA_of a5
  rw [ht, hn, Int.toNat_natCast]
  generalize List.map intOf x = L at *
  refine ⟨⟨hp, a1, by omega, by decide, by decide⟩, ?_⟩
  rintro _ r1 _ r2 ⟨b1, b2, b3⟩
  refine ⟨⟨hp, by omega, by omega, by decide, by decide⟩, ?_⟩
  rintro _ _ _ r3 ⟨-, -, c3, c4⟩
  generalize (List.map intOf r2).getD 0 0 = m at *
  generalize (List.map intOf r3).getD 0 0 = pass at *
  have hR : agsV L c ∧ 1 ≤ c ∧ (0 ≤ m ∧ m ≤ 63) ∧ 0 ≤ pass ∧ pass ≤ 63 := ⟨hA, a3, ⟨b2, by omega⟩, c3, c4⟩
  refine ⟨⟨⟨by omega, hA⟩, hR.2.2⟩, fun h => ⟨hR, h⟩, fun _ _ h => ⟨hR, h.2, h.1⟩, ?_⟩
  rintro _ _ _ _ _ r7 ⟨d1, d2, d3, d4, d5, d6⟩
  refine ⟨⟨⟨by omega, hA⟩, hR.2.2.1, by omega, by omega⟩, fun h => h d3.1, ?_⟩
  rintro _ r8 ⟨e1, e2, e3⟩
  exact ⟨hR, d1, d2, d3, d4, d6, e1, e3, by omega, by omega, rfl⟩
theorem v_Row_0 (P : Program) (ρ : Env) (hv : vals ρ) (hΓ : Γ0.On ρ) (hl : ρ.k.length = 22) (hp : (ndAt (ndRow P) 0).inv ρ) : VC cRow (ndRow P) (some ((ndAt (ndRow P) 0).mu ρ)) ρ (n_Row_0 P) := by
 simp only [VC, oblC, asmC, appAsm, outAt, ndAt, allTrue, List.mem_singleton, List.mem_cons, List.not_mem_nil, or_false, forall_eq_or_imp, forall_eq, BE.den, LX.den, nv, li, rowP, T62, T61, T60, T59, T58, n_Row_0, ndRow, cRow, mel, cCheap, cCheapN, cFol, cFined, pA, nL, pFol, pRow, leastR, firstR, noneL] at hp ⊢
 simp only [envB_list_if, list_grow_if, rest_grow_if, Nat.div_one, bdList, len_grow, hl, int_envB, int_grow, bool_envB, bool_grow, List.getD_cons_zero, List.getD_cons_succ, List.map_cons, List.map_nil, Nat.reduceAdd, Nat.reduceSub, Nat.reduceLeDiff, Nat.reduceLT, Nat.reduceEqDiff, if_true, if_false, reduceIte, IE.den, oN_den, hN_den, h0_den, decide_eq_true_eq, decide_eq_false_iff_not, beq_iff_eq, beq_eq_false_iff_ne, ne_eq, Option.some.injEq, reduceCtorEq, forall_eq', true_and, false_implies, implies_true, and_true, natLit, bits64, bitsU64, Int.one_mul, Bool.not_eq_true', Bool.not_eq_false', not_true_eq_false] at hp ⊢
 obtain ⟨⟨hag, n1, m0, p0⟩, hls, hfs, he, hg, hw, c0, hrun, i0, i1, hsum⟩ := hp
 have ht := len_tdiv hag.1
 rw [ht]
 generalize nA (ρ.list 82) = n at *
 generalize ρ.list 82 = L at *
 generalize ρ.list 85 = W at *
 generalize (ρ.list 83).getD 0 0 = m at *
 generalize (ρ.list 83).getD 1 0 = pass at *
 generalize (ρ.list 83).getD 2 0 = cost at *
 generalize (ρ.list 83).getD 3 0 = x at *
 generalize (ρ.list 83).getD 4 0 = s at *
 generalize (ρ.list 83).getD 5 0 = i at *
 obtain ⟨k, rfl⟩ := nat_of i0
 simp only [Int.toNat_natCast] at *
 have hB := bench_ok hag
 have hn4 := hag.2.1
 refine ⟨fun hk => ?_, fun hk => ?_⟩
 ·have hkl : k < W.length := by omega
  have hup := (he.1 k hkl).1
  have hwk : wL W k = W.getD k 0 := rfl
  rw [hwk] at hup
  have e1 : ((k : Int) + 1).toNat = k + 1 := by omega
  have hsk : sumL L n W (k + 1) = sumL L n W k + fld (benchL L n) (W.getD k 0).toNat 4 := rfl
  rw [e1, hsk]
  generalize W.getD k 0 = j at *
  obtain ⟨q, rfl⟩ := nat_of hup.1
  have hq : q < n := by omega
  have hf := (fld_bench (L := L) hq).2.2.2.2
  have hr := (hB.rng q hq).2.2.2.2.1
  have e : ((q : Int) * 5 + 4).toNat = 5 * q + 4 := by omega
  have hrg := sumW_rng hB (w := wL W) (m := m) (k := k) fun i hi => he.1 i (by omega)
  have hlen := hag.1
  unfold sumL at hsum ⊢
  rw [e, ← hf, Int.toNat_natCast, wrap64_fit (by omega) (by omega)]
  exact ⟨hup, by omega, ⟨by omega, by omega⟩, ⟨⟨hag, n1, m0, p0⟩, hls, hfs, he, hg, hw, c0, hrun, by omega, by omega, by omega⟩, by omega⟩
 ·have hkl : k = W.length := by omega
  have hgx := he.2.1
  rw [← hrun] at hgx
  have h1 := (clear_iff c0 p0).2 hgx
  have h2 := (clear_not m0 p0).2 hg
  have hse := he.2.2
  rw [hkl, hse] at hsum
  exact ⟨fun h => h h1, fun _ => ⟨fun h => h hsum, fun _ => ⟨fun h => absurd h h2, fun _ => ⟨⟨⟨hag, n1, m0, p0⟩, hls, hfs, by omega, by omega, fun j hj => by omega⟩, by omega⟩⟩⟩⟩
theorem v_Row_1 (P : Program) (ρ : Env) (hv : vals ρ) (hΓ : Γ0.On ρ) (hl : ρ.k.length = 20) (hp : (ndAt (ndRow P) 1).inv ρ) : VC cRow (ndRow P) (some ((ndAt (ndRow P) 1).mu ρ)) ρ (n_Row_1 P) := by
 simp only [VC, oblC, asmC, appAsm, outAt, ndAt, allTrue, List.mem_singleton, List.mem_cons, List.not_mem_nil, or_false, forall_eq_or_imp, forall_eq, BE.den, LX.den, nv, li, rowP, T62, T61, T60, T59, T58, n_Row_1, ndRow, cRow, mel, cCheap, cCheapN, cFol, cFined, pA, nL, pFol, pRow, leastR, firstR, noneL] at hp ⊢
 simp only [envB_list_if, list_grow_if, rest_grow_if, Nat.div_one, bdList, len_grow, hl, int_envB, int_grow, bool_envB, bool_grow, List.getD_cons_zero, List.getD_cons_succ, List.map_cons, List.map_nil, Nat.reduceAdd, Nat.reduceSub, Nat.reduceLeDiff, Nat.reduceLT, Nat.reduceEqDiff, if_true, if_false, reduceIte, IE.den, oN_den, hN_den, h0_den, decide_eq_true_eq, decide_eq_false_iff_not, beq_iff_eq, beq_eq_false_iff_ne, ne_eq, Option.some.injEq, reduceCtorEq, forall_eq', true_and, false_implies, implies_true, and_true, natLit, bits64, bitsU64, Int.one_mul, Bool.not_eq_true', Bool.not_eq_false', not_true_eq_false] at hp ⊢
 obtain ⟨⟨hag, n1, m0, p0⟩, hg, hz⟩ := hp
 have h1 := (clear_iff m0 p0).2 hg
 exact ⟨fun h => h h1, fun _ => ⟨fun h => h hz.symm, fun _ => ⟨fun _ h => h hz, fun h => absurd h1 h⟩⟩⟩
theorem v_Row_2 (P : Program) (ρ : Env) (hv : vals ρ) (hΓ : Γ0.On ρ) (hl : ρ.k.length = 20) (hp : (ndAt (ndRow P) 2).inv ρ) : VC cRow (ndRow P) (some ((ndAt (ndRow P) 2).mu ρ)) ρ (n_Row_2 P) := by
 simp only [VC, oblC, asmC, appAsm, outAt, ndAt, allTrue, List.mem_singleton, List.mem_cons, List.not_mem_nil, or_false, forall_eq_or_imp, forall_eq, BE.den, LX.den, nv, li, rowP, T62, T61, T60, T59, T58, n_Row_2, ndRow, cRow, mel, cCheap, cCheapN, cFol, cFined, pA, nL, pFol, pRow, leastR, firstR, noneL] at hp ⊢
 simp only [envB_list_if, list_grow_if, rest_grow_if, Nat.div_one, bdList, len_grow, hl, int_envB, int_grow, bool_envB, bool_grow, List.getD_cons_zero, List.getD_cons_succ, List.map_cons, List.map_nil, Nat.reduceAdd, Nat.reduceSub, Nat.reduceLeDiff, Nat.reduceLT, Nat.reduceEqDiff, if_true, if_false, reduceIte, IE.den, oN_den, hN_den, h0_den, decide_eq_true_eq, decide_eq_false_iff_not, beq_iff_eq, beq_eq_false_iff_ne, ne_eq, Option.some.injEq, reduceCtorEq, forall_eq', true_and, false_implies, implies_true, and_true, natLit, bits64, bitsU64, Int.one_mul, Bool.not_eq_true', Bool.not_eq_false', not_true_eq_false] at hp ⊢
 obtain ⟨⟨hag, n1, m0, p0⟩, hno⟩ := hp
 exact ⟨fun h => hno 0 (least_zero hag m0 ((clear_iff m0 p0).1 h)).1, fun _ => ⟨⟨⟨hag, n1, m0, p0⟩, hno, by omega, by omega⟩, by omega⟩⟩
theorem v_Row_3 (P : Program) (ρ : Env) (hv : vals ρ) (hΓ : Γ0.On ρ) (hl : ρ.k.length = 18) (hp : (ndAt (ndRow P) 3).inv ρ) : VC cRow (ndRow P) (some ((ndAt (ndRow P) 3).mu ρ)) ρ (n_Row_3 P) := by
 simp only [VC, oblC, asmC, appAsm, outAt, ndAt, allTrue, List.mem_singleton, List.mem_cons, List.not_mem_nil, or_false, forall_eq_or_imp, forall_eq, BE.den, LX.den, nv, li, rowP, T62, T61, T60, T59, T58, n_Row_3, ndRow, cRow, mel, cCheap, cCheapN, cFol, cFined, pA, nL, pFol, pRow, leastR, firstR, noneL] at hp ⊢
 simp only [envB_list_if, list_grow_if, rest_grow_if, Nat.div_one, bdList, len_grow, hl, int_envB, int_grow, bool_envB, bool_grow, List.getD_cons_zero, List.getD_cons_succ, List.map_cons, List.map_nil, Nat.reduceAdd, Nat.reduceSub, Nat.reduceLeDiff, Nat.reduceLT, Nat.reduceEqDiff, if_true, if_false, reduceIte, IE.den, oN_den, hN_den, h0_den, decide_eq_true_eq, decide_eq_false_iff_not, beq_iff_eq, beq_eq_false_iff_ne, ne_eq, Option.some.injEq, reduceCtorEq, forall_eq', true_and, false_implies, implies_true, and_true, natLit, bits64, bitsU64, Int.one_mul, Bool.not_eq_true', Bool.not_eq_false', not_true_eq_false] at hp ⊢
 obtain ⟨m0, p0, hg, hz⟩ := hp
 have h1 := (clear_iff m0 p0).2 hg
 exact ⟨fun h => h h1, fun _ => ⟨fun h => h hz.symm, fun _ => ⟨fun _ h => h hz, fun h => h h1⟩⟩⟩
theorem v_Row_4 (P : Program) (ρ : Env) (hv : vals ρ) (hΓ : Γ0.On ρ) (hl : ρ.k.length = 18) (hp : (ndAt (ndRow P) 4).inv ρ) : VC cRow (ndRow P) (some ((ndAt (ndRow P) 4).mu ρ)) ρ (n_Row_4 P) := by
 simp only [VC, oblC, asmC, appAsm, outAt, ndAt, allTrue, List.mem_singleton, List.mem_cons, List.not_mem_nil, or_false, forall_eq_or_imp, forall_eq, BE.den, LX.den, nv, li, rowP, T62, T61, T60, T59, T58, n_Row_4, ndRow, cRow, mel, cCheap, cCheapN, cFol, cFined, pA, nL, pFol, pRow, leastR, firstR, noneL] at hp ⊢
 simp only [envB_list_if, list_grow_if, rest_grow_if, Nat.div_one, bdList, len_grow, hl, int_envB, int_grow, bool_envB, bool_grow, List.getD_cons_zero, List.getD_cons_succ, List.map_cons, List.map_nil, Nat.reduceAdd, Nat.reduceSub, Nat.reduceLeDiff, Nat.reduceLT, Nat.reduceEqDiff, if_true, if_false, reduceIte, IE.den, oN_den, hN_den, h0_den, decide_eq_true_eq, decide_eq_false_iff_not, beq_iff_eq, beq_eq_false_iff_ne, ne_eq, Option.some.injEq, reduceCtorEq, forall_eq', true_and, false_implies, implies_true, and_true, natLit, bits64, bitsU64, Int.one_mul, Bool.not_eq_true', Bool.not_eq_false', not_true_eq_false] at hp ⊢
 obtain ⟨m0, p0, hg⟩ := hp
 exact fun h => (clear_not m0 p0).2 hg h
theorem v_Row_5 (P : Program) (ρ : Env) (hv : vals ρ) (hΓ : Γ0.On ρ) (hl : ρ.k.length = 20) (hp : (ndAt (ndRow P) 5).inv ρ) : VC cRow (ndRow P) (some ((ndAt (ndRow P) 5).mu ρ)) ρ (n_Row_5 P) := by
 simp only [VC, oblC, asmC, appAsm, outAt, ndAt, allTrue, List.mem_singleton, List.mem_cons, List.not_mem_nil, or_false, forall_eq_or_imp, forall_eq, BE.den, LX.den, nv, li, rowP, T62, T61, T60, T59, T58, n_Row_5, ndRow, cRow, mel, cCheap, cCheapN, cFol, cFined, pA, nL, pFol, pRow, leastR, firstR, noneL] at hp ⊢
 simp only [envB_list_if, list_grow_if, rest_grow_if, Nat.div_one, bdList, len_grow, hl, int_envB, int_grow, bool_envB, bool_grow, List.getD_cons_zero, List.getD_cons_succ, List.map_cons, List.map_nil, Nat.reduceAdd, Nat.reduceSub, Nat.reduceLeDiff, Nat.reduceLT, Nat.reduceEqDiff, if_true, if_false, reduceIte, IE.den, oN_den, hN_den, h0_den, decide_eq_true_eq, decide_eq_false_iff_not, beq_iff_eq, beq_eq_false_iff_ne, ne_eq, Option.some.injEq, reduceCtorEq, forall_eq', true_and, false_implies, implies_true, and_true, natLit, bits64, bitsU64, Int.one_mul, Bool.not_eq_true', Bool.not_eq_false', not_true_eq_false] at hp ⊢
 obtain ⟨⟨hag, n1, m0, p0⟩, hls, hfs, i0, i1, hno⟩ := hp
 have ht := len_tdiv hag.1
 rw [ht]
 generalize nA (ρ.list 82) = n at *
 generalize ρ.list 82 = L at *
 generalize (ρ.list 83).getD 0 0 = m at *
 generalize (ρ.list 83).getD 1 0 = pass at *
 generalize (ρ.list 83).getD 2 0 = cost at *
 generalize (ρ.list 83).getD 3 0 = i at *
 obtain ⟨k, rfl⟩ := nat_of i0
 simp only [Int.toNat_natCast, List.length_cons, List.length_nil, Nat.zero_add] at *
 refine ⟨fun hk => ?_, fun hk => ?_⟩
 ·
  have hkn : k < n := by omega
  have hB := bench_ok hag
  have hn4 := hag.2.1
  intro _ _
  refine ⟨⟨⟨by omega, hag⟩, m0, by decide, by decide, by decide⟩, fun hup => ⟨⟨⟨hag, n1, m0, p0⟩, hls, hfs, by omega, by omega, below_one hno fun hf => hup ((up_one hkn).2 hf.2.1)⟩, by omega⟩, ?_⟩
  rintro _ r ⟨c0, hup, hrun⟩
  generalize (List.map intOf r).getD 0 0 = next at *
  have hmay := (up_one hkn).1 hup
  rw [run_one] at hrun
  refine ⟨⟨⟨by omega, hag⟩, c0, p0⟩, fun hnone => ⟨⟨⟨hag, n1, m0, p0⟩, hls, hfs, by omega, by omega, below_one hno fun hf => hnone _ (by rw [hrun]; exact hf.2.2)⟩, by omega⟩, ?_, ?_⟩
  ·rintro _ r1 ⟨z, hg⟩
   obtain ⟨q1, q2, q3⟩ := row_core hag m0 hkn hmay hrun hls (least_zero hag c0 hg) (by omega)
   rw [z]
   exact ⟨q1, fun h => q2 h, fun _ => ⟨q1, ⟨⟨hag, n1, m0, p0⟩, hls, hfs, by omega, by omega, fun hne => below_one hno (q3 hne)⟩, by omega⟩⟩
  ·rintro _ r1 _ _ _ r3 ⟨hl', -, he, -, -, hw⟩
   obtain ⟨q1, q2, q3⟩ := row_core hag m0 hkn hmay hrun hls hl' (ends_rng hag he hw)
   exact ⟨q1, fun h => q2 h, fun _ => ⟨q1, ⟨⟨hag, n1, m0, p0⟩, hls, hfs, by omega, by omega, fun hne => below_one hno (q3 hne)⟩, by omega⟩⟩
 ·obtain ⟨j, hj⟩ := hfs
  have := hj.1
  exact hno j (by omega) hj
theorem v_Row_6 (P : Program) (ρ : Env) (hv : vals ρ) (hΓ : Γ0.On ρ) (hl : ρ.k.length = 20) (hp : (ndAt (ndRow P) 6).inv ρ) : VC cRow (ndRow P) (some ((ndAt (ndRow P) 6).mu ρ)) ρ (n_Row_6 P) := by
 simp only [VC, oblC, asmC, appAsm, outAt, ndAt, allTrue, List.mem_singleton, List.mem_cons, List.not_mem_nil, or_false, forall_eq_or_imp, forall_eq, BE.den, LX.den, nv, li, rowP, T62, T61, T60, T59, T58, n_Row_6, ndRow, cRow, mel, cCheap, cCheapN, cFol, cFined, pA, nL, pFol, pRow, leastR, firstR, noneL] at hp ⊢
 simp only [envB_list_if, list_grow_if, rest_grow_if, Nat.div_one, bdList, len_grow, hl, int_envB, int_grow, bool_envB, bool_grow, List.getD_cons_zero, List.getD_cons_succ, List.map_cons, List.map_nil, Nat.reduceAdd, Nat.reduceSub, Nat.reduceLeDiff, Nat.reduceLT, Nat.reduceEqDiff, if_true, if_false, reduceIte, IE.den, oN_den, hN_den, h0_den, decide_eq_true_eq, decide_eq_false_iff_not, beq_iff_eq, beq_eq_false_iff_ne, ne_eq, Option.some.injEq, reduceCtorEq, forall_eq', true_and, false_implies, implies_true, and_true, natLit, bits64, bitsU64, Int.one_mul, Bool.not_eq_true', Bool.not_eq_false', not_true_eq_false] at hp ⊢
 obtain ⟨⟨hag, n1, m0, p0⟩, hls, i0, i1⟩ := hp
 have ht := len_tdiv hag.1
 rw [ht]
 generalize nA (ρ.list 82) = n at *
 generalize ρ.list 82 = L at *
 generalize (ρ.list 83).getD 0 0 = m at *
 generalize (ρ.list 83).getD 1 0 = pass at *
 generalize (ρ.list 83).getD 2 0 = cost at *
 generalize (ρ.list 83).getD 3 0 = i at *
 obtain ⟨k, rfl⟩ := nat_of i0
 simp only [Int.toNat_natCast, List.length_cons, List.length_nil, Nat.zero_add] at *
 intro hk
 have hkn : k < n := by omega
 have hB := bench_ok hag
 have hn4 := hag.2.1
 intro _ _
 refine ⟨⟨⟨by omega, hag⟩, m0, by decide, by decide, by decide⟩, fun hup => ⟨⟨⟨hag, n1, m0, p0⟩, hls, by omega, by omega⟩, by omega⟩, ?_⟩
 rintro _ r ⟨c0, hup, hrun⟩
 generalize (List.map intOf r).getD 0 0 = next at *
 have hmay := (up_one hkn).1 hup
 rw [run_one] at hrun
 refine ⟨⟨⟨by omega, hag⟩, c0, p0⟩, fun hnone => ⟨⟨⟨hag, n1, m0, p0⟩, hls, by omega, by omega⟩, by omega⟩, ?_, ?_⟩
 ·rintro _ r1 ⟨z, hg⟩
  obtain ⟨q1, q2, q3⟩ := row_core hag m0 hkn hmay hrun hls (least_zero hag c0 hg) (by omega)
  rw [z]
  exact ⟨q1, fun h => q2 h, fun _ => ⟨⟨⟨hag, n1, m0, p0⟩, hls, by omega, by omega⟩, by omega⟩⟩
 ·rintro _ r1 _ _ _ r3 ⟨hl', -, he, -, -, hw⟩
  obtain ⟨q1, q2, q3⟩ := row_core hag m0 hkn hmay hrun hls hl' (ends_rng hag he hw)
  exact ⟨q1, fun h => q2 h, fun _ => ⟨⟨⟨hag, n1, m0, p0⟩, hls, by omega, by omega⟩, by omega⟩⟩
theorem v_Row_7 (P : Program) (ρ : Env) (hv : vals ρ) (hΓ : Γ0.On ρ) (hl : ρ.k.length = 20) (hp : (ndAt (ndRow P) 7).inv ρ) : VC cRow (ndRow P) (some ((ndAt (ndRow P) 7).mu ρ)) ρ (n_Row_7 P) := by
 simp only [VC, oblC, asmC, appAsm, outAt, ndAt, allTrue, List.mem_singleton, List.mem_cons, List.not_mem_nil, or_false, forall_eq_or_imp, forall_eq, BE.den, LX.den, nv, li, rowP, T62, T61, T60, T59, T58, n_Row_7, ndRow, cRow, mel, cCheap, cCheapN, cFol, cFined, pA, nL, pFol, pRow, leastR, firstR, noneL] at hp ⊢
 simp only [envB_list_if, list_grow_if, rest_grow_if, Nat.div_one, bdList, len_grow, hl, int_envB, int_grow, bool_envB, bool_grow, List.getD_cons_zero, List.getD_cons_succ, List.map_cons, List.map_nil, Nat.reduceAdd, Nat.reduceSub, Nat.reduceLeDiff, Nat.reduceLT, Nat.reduceEqDiff, if_true, if_false, reduceIte, IE.den, oN_den, hN_den, h0_den, decide_eq_true_eq, decide_eq_false_iff_not, beq_iff_eq, beq_eq_false_iff_ne, ne_eq, Option.some.injEq, reduceCtorEq, forall_eq', true_and, false_implies, implies_true, and_true, natLit, bits64, bitsU64, Int.one_mul, Bool.not_eq_true', Bool.not_eq_false', not_true_eq_false] at hp ⊢
 obtain ⟨⟨hag, n1, m0, p0⟩, hls, hfs, i0, i1, hno⟩ := hp
 have ht := len_tdiv hag.1
 rw [ht]
 generalize nA (ρ.list 82) = n at *
 generalize ρ.list 82 = L at *
 generalize (ρ.list 83).getD 0 0 = m at *
 generalize (ρ.list 83).getD 1 0 = pass at *
 generalize (ρ.list 83).getD 2 0 = cost at *
 generalize (ρ.list 83).getD 3 0 = i at *
 generalize (ρ.list 83).getD 4 0 = x at *
 obtain ⟨k, rfl⟩ := nat_of i0
 simp only [Int.toNat_natCast, List.length_cons, List.length_nil, Nat.zero_add] at *
 refine ⟨fun hk => ?_, fun hk => ?_⟩
 ·
  have hkn : k < n := by omega
  have hB := bench_ok hag
  have hn4 := hag.2.1
  intro _ _
  refine ⟨⟨⟨by omega, hag⟩, m0, by decide, by decide, by decide⟩, fun hup => ⟨⟨⟨hag, n1, m0, p0⟩, hls, hfs, by omega, by omega, fun hne => below_one (hno hne) fun hf => hup ((up_one hkn).2 hf.2.1)⟩, by omega⟩, ?_⟩
  rintro _ r ⟨c0, hup, hrun⟩
  generalize (List.map intOf r).getD 0 0 = next at *
  have hmay := (up_one hkn).1 hup
  rw [run_one] at hrun
  refine ⟨⟨⟨by omega, hag⟩, c0, p0⟩, fun hnone => ⟨fun _ => ⟨⟨⟨hag, n1, m0, p0⟩, hls, by omega, by omega⟩, by omega⟩, fun hne => ⟨⟨⟨hag, n1, m0, p0⟩, hls, hfs, by omega, by omega, below_one (hno hne) fun hf => hnone _ (by rw [hrun]; exact hf.2.2)⟩, by omega⟩⟩, ?_, ?_⟩
  ·rintro _ r1 ⟨z, hg⟩
   obtain ⟨q1, q2, q3⟩ := row_core hag m0 hkn hmay hrun hls (least_zero hag c0 hg) (by omega)
   rw [z]
   exact ⟨q1, fun h => q2 h, fun _ => ⟨fun _ => ⟨⟨⟨hag, n1, m0, p0⟩, hls, by omega, by omega⟩, by omega⟩, fun hnx => ⟨q1, ⟨⟨hag, n1, m0, p0⟩, hls, hfs, by omega, by omega, fun hne => below_one (hno hnx) (q3 hne)⟩, by omega⟩⟩⟩
  ·rintro _ r1 _ _ _ r3 ⟨hl', -, he, -, -, hw⟩
   obtain ⟨q1, q2, q3⟩ := row_core hag m0 hkn hmay hrun hls hl' (ends_rng hag he hw)
   exact ⟨q1, fun h => q2 h, fun _ => ⟨fun _ => ⟨⟨⟨hag, n1, m0, p0⟩, hls, by omega, by omega⟩, by omega⟩, fun hnx => ⟨q1, ⟨⟨hag, n1, m0, p0⟩, hls, hfs, by omega, by omega, fun hne => below_one (hno hnx) (q3 hne)⟩, by omega⟩⟩⟩
 ·intro h
  by_cases e : x = cost
  ·rw [if_pos e] at h; cases h
  ·obtain ⟨j, hj⟩ := hfs
   have := hj.1
   exact hno e j (by omega) hj
theorem v_Row_8 (P : Program) (ρ : Env) (hv : vals ρ) (hΓ : Γ0.On ρ) (hl : ρ.k.length = 20) (hp : (ndAt (ndRow P) 8).inv ρ) : VC cRow (ndRow P) (some ((ndAt (ndRow P) 8).mu ρ)) ρ (n_Row_8 P) := by
 simp only [VC, oblC, asmC, appAsm, outAt, ndAt, allTrue, List.mem_singleton, List.mem_cons, List.not_mem_nil, or_false, forall_eq_or_imp, forall_eq, BE.den, LX.den, nv, li, rowP, T62, T61, T60, T59, T58, n_Row_8, ndRow, cRow, mel, cCheap, cCheapN, cFol, cFined, pA, nL, pFol, pRow, leastR, firstR, noneL] at hp ⊢
 simp only [envB_list_if, list_grow_if, rest_grow_if, Nat.div_one, bdList, len_grow, hl, int_envB, int_grow, bool_envB, bool_grow, List.getD_cons_zero, List.getD_cons_succ, List.map_cons, List.map_nil, Nat.reduceAdd, Nat.reduceSub, Nat.reduceLeDiff, Nat.reduceLT, Nat.reduceEqDiff, if_true, if_false, reduceIte, IE.den, oN_den, hN_den, h0_den, decide_eq_true_eq, decide_eq_false_iff_not, beq_iff_eq, beq_eq_false_iff_ne, ne_eq, Option.some.injEq, reduceCtorEq, forall_eq', true_and, false_implies, implies_true, and_true, natLit, bits64, bitsU64, Int.one_mul, Bool.not_eq_true', Bool.not_eq_false', not_true_eq_false] at hp ⊢
 obtain ⟨⟨hag, n1, m0, p0⟩, hno, i0, i1⟩ := hp
 have ht := len_tdiv hag.1
 rw [ht]
 generalize nA (ρ.list 82) = n at *
 generalize ρ.list 82 = L at *
 generalize (ρ.list 83).getD 0 0 = m at *
 generalize (ρ.list 83).getD 1 0 = pass at *
 generalize (ρ.list 83).getD 2 0 = i at *
 obtain ⟨k, rfl⟩ := nat_of i0
 simp only [Int.toNat_natCast, List.length_cons, List.length_nil, Nat.zero_add] at *
 intro hk
 have hkn : k < n := by omega
 have hB := bench_ok hag
 have hn4 := hag.2.1
 intro _ _
 refine ⟨⟨⟨by omega, hag⟩, m0, by decide, by decide, by decide⟩, fun hup => ⟨⟨⟨hag, n1, m0, p0⟩, hno, by omega, by omega⟩, by omega⟩, ?_⟩
 rintro _ r ⟨c0, hup, hrun⟩
 generalize (List.map intOf r).getD 0 0 = next at *
 have hmay := (up_one hkn).1 hup
 rw [run_one] at hrun
 refine ⟨⟨⟨by omega, hag⟩, c0, p0⟩, fun hnone => ⟨⟨⟨hag, n1, m0, p0⟩, hno, by omega, by omega⟩, by omega⟩, ?_, ?_⟩
 ·rintro _ r1 ⟨z, hg⟩
  exact row_none hag m0 hkn hmay hrun hno (least_zero hag c0 hg)
 ·rintro _ r1 _ _ _ r3 ⟨hl', -, he, -, -, hw⟩
  exact row_none hag m0 hkn hmay hrun hno hl'
theorem v_Row_9 (P : Program) (ρ : Env) (hv : vals ρ) (hΓ : Γ0.On ρ) (hl : ρ.k.length = 17) (hp : (ndAt (ndRow P) 9).inv ρ) : VC cRow (ndRow P) (some ((ndAt (ndRow P) 9).mu ρ)) ρ (n_Row_9 P) := by
 simp only [VC, oblC, asmC, appAsm, outAt, ndAt, allTrue, List.mem_singleton, List.mem_cons, List.not_mem_nil, or_false, forall_eq_or_imp, forall_eq, BE.den, LX.den, nv, li, rowP, T62, T61, T60, T59, T58, n_Row_9, ndRow, cRow, mel, cCheap, cCheapN, cFol, cFined, pA, nL, pFol, pRow, leastR, firstR, noneL] at hp ⊢
 simp only [envB_list_if, list_grow_if, rest_grow_if, Nat.div_one, bdList, len_grow, hl, int_envB, int_grow, bool_envB, bool_grow, List.getD_cons_zero, List.getD_cons_succ, List.map_cons, List.map_nil, Nat.reduceAdd, Nat.reduceSub, Nat.reduceLeDiff, Nat.reduceLT, Nat.reduceEqDiff, if_true, if_false, reduceIte, IE.den, oN_den, hN_den, h0_den, decide_eq_true_eq, decide_eq_false_iff_not, beq_iff_eq, beq_eq_false_iff_ne, ne_eq, Option.some.injEq, reduceCtorEq, forall_eq', true_and, false_implies, implies_true, and_true, natLit, bits64, bitsU64, Int.one_mul, Bool.not_eq_true', Bool.not_eq_false', not_true_eq_false] at hp ⊢
end Ft
set_option linter.unusedVariables false
namespace Mv
open Go
theorem Goes.steps {P : Program} {Stop : Goroutine → Own → Prop} {g : Goroutine} {S : Own} (h : Goes P Co.lone Stop g S) (hStop : ∀ g S, Stop g S → g = G g.frame g.callers) : ∀ {w : World}, S.In w →
  ∃ g' S' w', Stop g' S' ∧ Mid S w S' w' ∧ Steps P (lone g.frame g.callers w) (lone g'.frame g'.callers w') ∧ g = G g.frame g.callers := by
 induction h with
 | stop h => exact fun hw => ⟨_, _, _, h, .refl hw, Steps.refl _ _, hStop _ _ h⟩
 | big Q h1 _ ih => exact h1.elim
 | @step g₀ _ g' w' es S' hs h1 h2 ih =>
  intro w hw
  have hs := hs.2 rfl
  obtain ⟨he, hm, _⟩ := h1 w hw
  obtain ⟨g2, S2, w2, hst, hm2, hsteps, hg'⟩ := ih w hw hm.inn
  refine ⟨g2, S2, w2, hst, hm.trans hm2, Steps.head (m₁ := lone (g' w).frame (g' w).callers (w' w)) (step_lone_go ?_) hsteps, hs⟩
  have e1 : ({ frame := (g' w).frame, callers := (g' w).callers, status := .running, dying := none } : Goroutine) = g' w := hg'.symm
  rw [e1]
  have e2 := hs.symm
  unfold G at e2
  have he' : stepG P true g₀ w = GStep.go (g' w) (w' w) (es w) := he
  rw [e2, he']
  rfl
theorem Calls.lone {P : Program} {f : FuncId} {args : Array Value} {S : Own} {Post : End → Own → Prop} (h : Calls P Co.lone f args S Post) {w : World} (hw : S.In w) :
  Go.Calls P f args w fun e w' => ∃ e' S', e = End.ending e' ∧ Mid S w S' w' ∧ Post e' S' := by
 intro cs
 obtain ⟨g', S', w', ⟨x, e, rfl, p, hf, hkd, hd, fn, hfn, hl⟩, hm, hs, _⟩ :=
  (h (fun g S' => ∃ x e, g = G x cs ∧ Post e S' ∧ Leaves P f .normal e x S') .normal cs (by decide) fun x e S' p l => .stop ⟨x, e, rfl, p, l⟩).steps (by rintro g S ⟨x, e, rfl, _⟩; rfl) hw
 cases e with
 | panicked ch => exact ⟨.panicked ch, w', x, ⟨.panicked ch, S', rfl, hm, p⟩, hs, hf, hl, hd, fn, by rw [hf]; exact hfn⟩
 | returned v =>
  obtain ⟨hmode, hr⟩ := hl
  obtain ⟨z, w3, es3, hr3, _, _, rfl, rfl⟩ := (hr w' hm.inn).sound #[]
  have e1 : (results fn x.tmps).run P w3 = .ok v w3 := by have := congrArg Prod.fst hr3; simpa [outcome] using this
  exact ⟨.returned v, w3, x, ⟨.returned v, S', rfl, hm, p⟩, hs, hf, hmode, hd, hkd, fn, by rw [hf]; exact hfn, e1⟩
end Mv
set_option linter.unusedVariables false
namespace Mw
open Go Mv
theorem rowAt_off {P : Program} {fits : TypeId → Bool} : ∀ {d : Nat} {e : TypeId} {count off n : Nat}, rowAt P fits d e count off n = true → off ≤ count * P.cellsOf e
 | 0, _, _, _, _, h => by simp [rowAt] at h
 | d + 1, e, count, off, n, h => by
  simp only [rowAt] at h
  split at h
  ·cases h
  ·rename_i hs
   have hm := Nat.div_add_mod off (P.cellsOf e)
   have hlt := Nat.mod_lt off (Nat.pos_of_ne_zero hs)
   simp only [Bool.or_eq_true, Bool.and_eq_true, beq_iff_eq, decide_eq_true_eq] at h
   rcases h with ⟨⟨h1, h2⟩, _⟩ | ⟨h1, _⟩
   ·have := Nat.mul_le_mul_right (P.cellsOf e) (show off / P.cellsOf e ≤ count by omega)
    rw [Nat.mul_comm] at hm
    omega
   ·have := Nat.mul_le_mul_right (P.cellsOf e) (show off / P.cellsOf e + 1 ≤ count by omega)
    rw [Nat.add_mul, Nat.one_mul] at this
    rw [Nat.mul_comm] at hm
    omega
theorem liesAt_off {P : Program} : ∀ {d : Nat} {e : TypeId} {count off : Nat} {u : TypeId} {n : Nat}, Go.liesAt P d e count off u n = true → off ≤ count * P.cellsOf e
 | 0, _, _, _, _, _, h => by simp [Go.liesAt] at h
 | d + 1, e, count, off, u, n, h => by
  simp only [Go.liesAt, Bool.or_eq_true] at h
  rcases h with h | h
  ·exact rowAt_off h
  ·split at h
   ·exact liesAt_off h
   ·cases h
theorem has_cells {P : Program} {W : World} {r : Reach} {base n : Nat} {a : Addr} {e : TypeId} (h : W.has P r base a e n) : a.spot = none ∧ ∃ cs ty fz, W.heap[a.block]? = some (.cells cs ty fz) ∧ a.off ≤ cs.size := by
 obtain ⟨_, h1, row, cells, h2, h3⟩ := h
 refine ⟨h1, ?_⟩
 unfold World.shape? at h2
 split at h2
 ·rename_i c elem fz hc
  simp only [Option.some.injEq, Prod.mk.injEq] at h2
  obtain ⟨rfl, rfl⟩ := h2
  exact ⟨c, elem, fz, hc, Nat.le_trans (liesAt_off h3) (Nat.div_mul_le_self _ _)⟩
 ·cases h2
theorem patch_same {cs : Array Value} {ty : TypeId} {fz : Nat × Nat} {o : Nat} {vs : List Value} (ho : o ≤ cs.size) (h : ∀ i, i < vs.length → cs[o + i]? = vs[i]?) : patch (.cells cs ty fz) o vs = .cells cs ty fz := by
 simp only [patch]
 congr 1
 have hle : o + vs.length ≤ cs.size := by
  by_cases h0 : vs.length = 0
  ·omega
  ·have := h (vs.length - 1) (by omega)
   rw [List.getElem?_eq_getElem (by omega)] at this
   have := (Array.getElem?_eq_some_iff.1 this).1
   omega
 apply Array.ext'
 apply List.ext_getElem?
 intro i
 rw [Nat.sub_eq_zero_of_le ho]
 simp only [List.replicate_zero, List.append_nil, List.append_assoc]
 have hlt : (cs.toList.take o).length = o := by simp; omega
 rcases Nat.lt_or_ge i o with h1 | h1
 ·rw [List.getElem?_append_left (by omega), List.getElem?_take_of_lt h1]
 ·rw [List.getElem?_append_right (by omega), hlt]
  rcases Nat.lt_or_ge (i - o) vs.length with h2 | h2
  ·rw [List.getElem?_append_left h2, ← h _ h2, ← Array.getElem?_toList]
   congr 1; omega
  ·rw [List.getElem?_append_right h2, List.getElem?_drop]
   congr 1; omega
theorem ints_of {H : Type} {enc : TypeId × Value → H} {P : Program} {W : World} {t e : TypeId} {v : Value} {d : DataW H} {ps : List MemPlace} {base : Nat} (ht : P.underlying t = some (.slice e)) (he : P.underlying e = some (.int .i64)) (hc : P.cellsOf e = 1)
  (hv : Value.okWide P W .any base t v) (h : DataW.Trod enc P W 0 (fun _ => true) true t v d ps) :
  (v = .slice none 0 0) ∨ ∃ (b off len cap : Nat) (cs : Array Value) (ty : TypeId) (fz : Nat × Nat) (L : List Int) (rest : List (DataW H)) (els : List (DataW H)), v = .slice (some ⟨b, off, none⟩) len cap ∧ len ≤ cap ∧ L.length = len ∧
   W.heap[b]? = some (.cells cs ty fz) ∧ patch (.cells cs ty fz) off (L.map (Value.int .i64)) = .cells cs ty fz ∧ d = .slice els rest ∧ els.length + rest.length = cap := by
 have hv' : Cell.ok P W .any base t v := by
  unfold Value.okWide at hv
  rw [ht] at hv
  simp only [Cell.okWide, ht] at hv
  exact hv
 obtain ⟨fuel, h⟩ := h
 unfold Cell.ok at hv'
 rw [ht] at hv'
 split at hv' <;> first | (exact hv'.elim) | (rename_i hx; cases hx; done) | skip
 ·exact .inl rfl
 ·rename_i a len cap hx
  obtain rfl := TypeDesc.slice.inj (Option.some.inj hx)
  obtain ⟨h1, h2, h3⟩ := hv'
  obtain ⟨k1, cs, ty, fz, k2, k3⟩ := has_cells h3
  rcases Go.ChangeShapes.open_ints ht he hc h with ⟨h4, _⟩ | ⟨a', len', cap', zs, h4, _, h5, h6, h7, h8, h9, h10⟩
  ·simp [Value.cells] at h4
  ·simp only [Value.cells, List.cons.injEq, Value.slice.injEq, Option.some.injEq, and_true] at h4
   obtain ⟨rfl, rfl, rfl⟩ := h4
   rw [if_pos rfl] at h7
   obtain ⟨b, off, spot⟩ := a
   simp only at k1 k2 k3
   subst k1
   simp only [Prod.mk.injEq] at h8
   refine .inr ⟨b, off, len, cap, cs, ty, fz, zs.take len, _, _, rfl, h1, by simp [h7, h1], k2, patch_same k3 fun i hi => ?_, h8.1, by simp [Go.ChangeShapes.lits, h7]; omega⟩
   simp only [List.length_map, List.length_take] at hi
   have := h9 i (by omega)
   have e : (Addr.add ⟨b, off, none⟩ i) = ⟨b, off + i, none⟩ := by simp [Addr.add]
   rw [e] at this
   unfold World.cell? at this
   simp only [k2, Option.isSome_none, Bool.false_eq_true, if_false] at this
   rw [this, List.getElem?_map, List.getElem?_take_of_lt (by omega), List.getElem?_eq_getElem (by omega)]
   simp [List.getD, List.getElem?_eq_getElem (show i < zs.length by omega)]
theorem trodAll_stays {H : Type} {enc : TypeId × Value → H} {P : Program} {W W' : World} {sp' : Nat → Bool} (hl : laidOutB P = true) (hb : Go.RowKit.Below W.heap.size W W') : ∀ {ts : List TypeId} {vs : List Value} {ds : List (DataW H)} {ps : List MemPlace},
  (∀ t ∈ ts, P.readableRec t = true ∧ t < P.types.size) → DataW.TrodAll enc P W 0 (fun _ => true) true ts vs ds ps → (∀ x ∈ ps, x.block < W.heap.size) → (∀ x ∈ ps, sp' x.block = true) → DataW.TrodAll enc P W' 0 sp' true ts vs ds ps
 | [], [], [], ps, _, h, _, _ => h
 | t :: ts, v :: vs, d :: ds, ps, ht, ⟨p, q, h1, h2, e⟩, hlt, hsp => by
  subst e
  obtain ⟨k1, k2⟩ := ht t List.mem_cons_self
  exact ⟨p, q, WideElems.Trod_stays hl k1 k2 h1 (fun x hx => hb.same (hlt x (List.mem_append_left _ hx))) (fun x hx => hsp x (List.mem_append_left _ hx)),
   trodAll_stays hl hb (fun t ht' => ht t (List.mem_cons_of_mem _ ht')) h2 (fun x hx => hlt x (List.mem_append_right _ hx)) (fun x hx => hsp x (List.mem_append_right _ hx)), rfl⟩
 | [], [], _ :: _, _, _, h, _, _ | [], _ :: _, _, _, _, h, _, _ | _ :: _, [], _, _, _, h, _, _ | _ :: _, _ :: _, [], _, _, h, _, _ => h.elim
theorem mid_below {S S' : Own} {W w' : World} (h : Mid S W S' w') (hS : ∀ b, S.full b = none) : Go.RowKit.Below W.heap.size W w' :=
 ⟨h.os, h.tape, h.output, h.size, fun k hk => h.kept k hk (hS k)⟩
def readsW (W : World) (bs : List Nat) : Own := { full := fun _ => none, ro := fun b => match bs.contains b with
  | true => W.heap[b]?
  | false => none }
theorem readsW_ro {W : World} {bs : List Nat} {b : Nat} (h : b ∈ bs) : (readsW W bs).ro b = W.heap[b]? := by
 simp only [readsW, List.contains_iff_mem.2 h]
theorem readsW_in {W : World} {bs : List Nat} (h : ∀ b ∈ bs, ∀ o, W.heap[b]? = some o → mapish o = false) : (readsW W bs).In W where
 lay b o hb := by cases hb
 layro b o hb := by
  simp only [readsW] at hb
  split at hb
  ·rename_i hc
   exact Lay.self hb (h b (List.contains_iff_mem.1 hc) o hb)
  ·cases hb
 disj b hb := by cases hb
theorem readsW_sat {W : World} {bs : List Nat} {ρ : Env} {l : List (Nat × SO)} (h : ∀ x ∈ l, x.1 < ρ.k.length ∧ x.2.ok ρ.k.length ∧ ρ.blk x.1 ∈ bs ∧ W.heap[ρ.blk x.1]? = some (x.2.den ρ)) : Sat ρ ⟨setsT [], setsT l, .none⟩ (readsW W bs) (readsW W bs) where
 has i u hi := by simp [setsT, Tr.nil_look] at hi
 hro i u hi := by
  obtain ⟨h1, h2, h3, h4⟩ := h (i, u) (setsT_look hi)
  exact ⟨h1, h2, by rw [readsW_ro h3]; exact h4⟩
 inj i j u u' hi := by simp [setsT, Tr.nil_look] at hi
 frm b u hb := hb
 apart i u hi := by simp [setsT, Tr.nil_look] at hi
 ro b u hb := hb
 gh := rfl
 dis b hb := by cases hb
 ghok := trivial
 lent i hi := by cases hi
 linj i hi := by cases hi
 rinj i hi := by cases hi
 lnd := List.nodup_nil
theorem yes_calls {P : Program} {Γ0 : Facts} {c : Con} {v : SC} (hc : c.Ok P true Γ0) (hrw : c.rw = []) (hout : ∀ o ∈ c.outs, o.v = .bool (.lit true)) {W : World} {bs : List Nat} {ρ : Env} (hv : vals ρ) (hΓ : Γ0.On ρ) (hl : ρ.k.length = 16 + c.m) (hp : c.pre ρ)
  (hm : ∀ b ∈ bs, ∀ o, W.heap[b]? = some o → mapish o = false) (hr : ∀ x ∈ c.ro, x.1 < ρ.k.length ∧ x.2.ok ρ.k.length ∧ ρ.blk x.1 ∈ bs ∧ W.heap[ρ.blk x.1]? = some (x.2.den ρ)) :
  Go.Calls P c.f (c.args.map (SC.den ρ)).toArray W fun e w' => e = .returned (.bool true) ∧ Go.RowKit.Below W.heap.size W w' := by
 have h1 := hc.calls (readsW W bs) ρ (readsW W bs) hv hΓ hl hp (by rw [hrw]; exact readsW_sat hr)
 refine (Calls.lone h1 (readsW_in hm)).mono ?_
 rintro e w' ⟨e', S', rfl, hmid, o, ho, ρ', _, _, rfl, _⟩
 rw [hout o ho]
 exact ⟨rfl, mid_below hmid fun _ => rfl⟩
end Mw
