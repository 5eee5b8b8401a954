/- A logic over the machine and a run of a program on unknown values, in the kernel. No statement of the project is proved in this text. -/
import Derived.Test.YtcidaiiknhfkiaaGreatDoorProg
import Derived.Test.YtcidaiiknhfkiaaGreatDoorm4
set_option linter.unusedVariables false
set_option linter.unusedSimpArgs false
set_option linter.unusedVariables false
open Go Mv Mw
namespace Ft
def dB64 : Int := 285870213051353865
def tzIx (x : Int) : Int := (IntKind.u64.wrap (x * dB64)).fdiv (2 ^ 58)
def tab64' : List Int := [0, 1, 56, 2, 57, 49, 28, 3, 61, 58, 42, 50, 38, 29, 17, 4, 62, 47, 59, 36, 45, 43, 51, 22, 53, 39, 33, 30, 24, 18, 12, 5, 63, 55, 48, 27, 60, 41, 37, 16, 46, 35, 44, 21, 52, 32, 23, 11, 54, 26, 40, 15, 34, 20, 31, 10, 25, 14, 19, 9, 13, 8, 7, 6]
set_option maxRecDepth 20000 in
theorem tz_tab : ∀ k : Fin 64, 0 ≤ tzIx (2 ^ k.val) ∧ tzIx (2 ^ k.val) < 64 ∧ tab64'.getD (tzIx (2 ^ k.val)).toNat 0 = (k.val : Int) := by decide
theorem low_lt {k y : Nat} (h : 2 ^ k * (2 * y + 1) < 2 ^ 64) : k < 64 := by
 apply Classical.byContradiction
 intro hn
 have h1 : 2 ^ 64 ≤ 2 ^ k := Nat.pow_le_pow_right (by decide) (by omega)
 have h2 : 2 ^ k * 1 ≤ 2 ^ k * (2 * y + 1) := Nat.mul_le_mul_left _ (by omega)
 omega
theorem low_all {x : Int} (h0 : 0 < x) (h1 : x < 2 ^ 64) : ∃ k : Nat, k < 64 ∧ bitsOf .and .u64 x (IntKind.u64.wrap (0 - x)) = 2 ^ k ∧ hasU x k = true ∧ (∀ i : Nat, i < k → hasU x i = false) ∧ (0 ≤ bitsOf .and .u64 x (IntKind.u64.wrap (x - 1)) ∧ bitsOf .and .u64 x (IntKind.u64.wrap (x - 1)) < x) ∧ ∀ i : Nat, i < 64 → hasU (bitsOf .and .u64 x (IntKind.u64.wrap (x - 1))) i = (hasU x i && decide (i ≠ k)) := by
 obtain ⟨n, rfl⟩ := nat_of (show 0 ≤ x by omega)
 obtain ⟨k, y, e⟩ := low_form n (by omega)
 have hn0 : 0 < n := by omega
 have hn1 : n < 2 ^ 64 := by omega
 have hk : k < 64 := low_lt (y := y) (by rw [← e]; exact hn1)
 have b1 : ∀ i, n.testBit i = if i < k then false else if i = k then true else y.testBit (i - k - 1) := by rw [e]; exact low_bit k y
 have b2 : ∀ i, (n &&& (n - 1)).testBit i = (n.testBit i && decide (i ≠ k)) := by rw [e]; exact low_and k y
 have b3 : n &&& (2 ^ 64 - n) = 2 ^ k := by rw [e]; exact low_neg (by rw [← e]; exact hn1)
 clear e
 have e1 : IntKind.u64.wrap (0 - (n : Int)) = ((2 ^ 64 - n : Nat) : Int) := by
  show (0 - (n : Int)) % 2 ^ 64 = _
  omega
 have e2 : IntKind.u64.wrap ((n : Int) - 1) = ((n - 1 : Nat) : Int) := by
  rw [wrapu64_fit (by omega) (by omega)]; omega
 have hand := Nat.and_le_right (n := n) (m := n - 1)
 rw [e1, e2, u64_and hn1 (by omega), u64_and hn1 (by omega), b3]
 have hc : ((2 ^ k : Nat) : Int) = (2 : Int) ^ k := Int.natCast_pow 2 k
 refine ⟨k, hk, hc, ?_, fun i hi => ?_, ⟨Int.natCast_nonneg _, by omega⟩, fun i hi => ?_⟩
 ·rw [hasU_nat hn1 hk, b1]; simp
 ·rw [hasU_nat hn1 (by omega), b1]; simp [hi]
 ·rw [hasU_nat (by omega) hi, hasU_nat hn1 hi, b2]
end Ft
set_option linter.unusedVariables false
namespace Mw
open Go Mv
def xInv (P : Program) : Xop := fun hp ev op => match op with
 | .unOp .xor _ x => match ev x with
  | some (.int k e) => some (.val [] (.int k (.bits .xor k (.lit (if k.signed then -1 else k.max)) e)))
  | _ => none
 | _ => none
theorem xInv_ok {P : Program} : XopOk P (xInv P) := by
 intro ρ hp F S0 S ev ev' o e _ hv hs hev h
 unfold xInv at h
 split at h
 ·rename_i t x hop
  split at h
  ·rename_i k a hx
   obtain ⟨hok, hx'⟩ := hev x _ hx
   simp only [Option.some.injEq] at h; subst h
   refine good_val (s := Op.unary .xor (ev' x)) (by simp only [execOp, hop]) ⟨trivial, hok⟩ fun _ K hK => ?_
   rw [hx']
   exact Run.pure hK
  ·cases h
 ·cases h
section
variable {P : Program}
def hInv (P : Program) : Hk_ := fun ex C Γ items ops rest o tail σ nk k => match xInv P σ.hp (evC σ.sl) o.op with
 | some eff => match o.dst.all (· < C.size) with
  | true => some (applyEff Γ o.dst σ nk (fun σ nk => ex C Γ (.inRegion ops rest :: tail) σ nk k) eff)
  | false => none
 | none => none
theorem hInv_ok {main : Co} : HkOk P main (hInv P) where
 good D E ex C Γ items items' tail ops i rest rest' o σ k ρ Q F r t hr hv hΓ hK ho ht hh := by
  intro a S hf hw hst hn
  unfold hInv at ht
  split at ht
  ·rename_i eff heff
   split at ht
   ·rename_i hd
    simp only [Option.some.injEq] at ht
    subst ht
    have hpl : plainOp r.round o = true := by
     unfold plainOp
     cases hop : o.op <;> simp
     rw [hop] at heff; cases heff
    refine wpI_op ho hw hpl ?_
    haveI := hf.hp.loud
    have hg := xInv_ok (P := P) (S0 := S) hv hf.hp (evC_ok hf.sl) heff
    exact Run.mono (applyEff_sound (next := fun a' S' => (∃ v, a'.tmps = (a.put o.dst v).tmps) → wpI P main r (.inRegion ops rest' :: tail) Q a' S') hΓ hg hf hd hh fun ρ' σ' a' S' he hΓ' hf' hh hx => hn ρ' Γ σ' a' S' he (vals_ext he hv) hΓ' hf' hx hh) fun e S' h => upon_tmps h
   ·cases ht
  ·cases ht
 alloc ex C Γ items ops rest o tail σ nk k t ho := by simp only [hInv, ho, xInv]
 bs ex C Γ items ops rest o tail σ nk k t n ps ho := by simp only [hInv, ho, xInv]
end
end Mw
set_option linter.unusedVariables false
open Go Mv Mw Go.Proofs Go.Extern
namespace Ft
def ext_ (fn : Func) : Array Value → Sem Value := (Extern.find fn).getD fun args => ReflectliteValue.unpack (args.getD 0 (.tuple #[]))
theorem LB_as : AsLib Tryz.prog LB where
 valueOf := ⟨Tryz.f123, Tryz.func123, by kernel_rfl, by kernel_rfl, by kernel_rfl, by kernel_rfl⟩
 typ := ⟨Tryz.f124, Tryz.func124, by kernel_rfl, by kernel_rfl, by kernel_rfl, by kernel_rfl⟩
 isNil := ⟨Tryz.f125, Tryz.func125, by kernel_rfl, by kernel_rfl, by kernel_rfl, by kernel_rfl⟩
 elemV := ⟨Tryz.f142, Tryz.func142, by kernel_rfl, by kernel_rfl, by kernel_rfl, by kernel_rfl⟩
 setV := ⟨Tryz.f143, Tryz.func143, by kernel_rfl, by kernel_rfl, by kernel_rfl, by kernel_rfl⟩
 typeOf := ⟨Tryz.f141, Tryz.func141, by kernel_rfl, by kernel_rfl, by kernel_rfl, by kernel_rfl⟩
 mkP := fun _ => by kernel_rfl
 mkE := fun _ => by kernel_rfl
 mkA := fun _ => by kernel_rfl
 type_ := fun _ => by kernel_rfl
 partsP := fun _ => by kernel_rfl
 partsE := fun _ => by kernel_rfl
 partsA := fun _ => by kernel_rfl
 flag := by kernel_rfl
 elem? := by kernel_rfl
 direct := by kernel_rfl
 typeOf_ := fun _ => by kernel_rfl
 kindP := ⟨162, ext_ Tryz.f162, fun _ => by kernel_rfl, ⟨Tryz.f162, Tryz.func162, by kernel_rfl, by kernel_rfl, by kernel_rfl, by kernel_rfl⟩, by kernel_rfl, by kernel_rfl⟩
 elemT := ⟨173, ext_ Tryz.f173, fun _ => by kernel_rfl, ⟨Tryz.f173, Tryz.func173, by kernel_rfl, by kernel_rfl, by kernel_rfl, by kernel_rfl⟩, by kernel_rfl⟩
 impl := ⟨174, ext_ Tryz.f174, fun _ => by kernel_rfl, ⟨Tryz.f174, Tryz.func174, by kernel_rfl, by kernel_rfl, by kernel_rfl, by kernel_rfl⟩, by kernel_rfl⟩
 assign := ⟨171, ext_ Tryz.f171, fun _ => by kernel_rfl, ⟨Tryz.f171, Tryz.func171, by kernel_rfl, by kernel_rfl, by kernel_rfl, by kernel_rfl⟩, by kernel_rfl⟩
theorem LE_as : AsLib Tryz.prog LE where
 valueOf := ⟨Tryz.f123, Tryz.func123, by kernel_rfl, by kernel_rfl, by kernel_rfl, by kernel_rfl⟩
 typ := ⟨Tryz.f124, Tryz.func124, by kernel_rfl, by kernel_rfl, by kernel_rfl, by kernel_rfl⟩
 isNil := ⟨Tryz.f125, Tryz.func125, by kernel_rfl, by kernel_rfl, by kernel_rfl, by kernel_rfl⟩
 elemV := ⟨Tryz.f142, Tryz.func142, by kernel_rfl, by kernel_rfl, by kernel_rfl, by kernel_rfl⟩
 setV := ⟨Tryz.f143, Tryz.func143, by kernel_rfl, by kernel_rfl, by kernel_rfl, by kernel_rfl⟩
 typeOf := ⟨Tryz.f141, Tryz.func141, by kernel_rfl, by kernel_rfl, by kernel_rfl, by kernel_rfl⟩
 mkP := fun _ => by kernel_rfl
 mkE := fun _ => by kernel_rfl
 mkA := fun _ => by kernel_rfl
 type_ := fun _ => by kernel_rfl
 partsP := fun _ => by kernel_rfl
 partsE := fun _ => by kernel_rfl
 partsA := fun _ => by kernel_rfl
 flag := by kernel_rfl
 elem? := by kernel_rfl
 direct := by kernel_rfl
 typeOf_ := fun _ => by kernel_rfl
 kindP := ⟨162, ext_ Tryz.f162, fun _ => by kernel_rfl, ⟨Tryz.f162, Tryz.func162, by kernel_rfl, by kernel_rfl, by kernel_rfl, by kernel_rfl⟩, by kernel_rfl, by kernel_rfl⟩
 elemT := ⟨173, ext_ Tryz.f173, fun _ => by kernel_rfl, ⟨Tryz.f173, Tryz.func173, by kernel_rfl, by kernel_rfl, by kernel_rfl, by kernel_rfl⟩, by kernel_rfl⟩
 impl := ⟨174, ext_ Tryz.f174, fun _ => by kernel_rfl, ⟨Tryz.f174, Tryz.func174, by kernel_rfl, by kernel_rfl, by kernel_rfl, by kernel_rfl⟩, by kernel_rfl⟩
 assign := ⟨171, ext_ Tryz.f171, fun _ => by kernel_rfl, ⟨Tryz.f171, Tryz.func171, by kernel_rfl, by kernel_rfl, by kernel_rfl, by kernel_rfl⟩, by kernel_rfl⟩
theorem LB_not : NotLib Tryz.prog LB 29 where
 typeOf := ⟨Tryz.f141, Tryz.func141, by kernel_rfl, by kernel_rfl, by kernel_rfl, by kernel_rfl⟩
 typeOf_ := fun _ => by kernel_rfl
 assign := ⟨171, ext_ Tryz.f171, fun _ => by kernel_rfl, ⟨Tryz.f171, Tryz.func171, by kernel_rfl, by kernel_rfl, by kernel_rfl, by kernel_rfl⟩, by kernel_rfl⟩
theorem hk_ok (main : Co) : HkOk Tryz.prog main (Xf Tryz.prog).hk :=
 hOr_ok hApp_ok (hOr_ok (hExt_ok xMap_ok) (hOr_ok (hExt_ok (xAs_ok LB_as)) (hOr_ok (hExt_ok (xAs_ok LE_as)) (hOr_ok (hExt_ok (xNot_ok LB_not)) (hExt_ok xTA_ok)))))
end Ft
set_option linter.unusedVariables false
open Go Mv Mw Go.Proofs
namespace Ft
def hkM (P : Program) : Hk_ := hOr (hApp P) (hOr (hHStore P) (hOr (hMap P) (hOr (hExt (xTA P)) (hInv P))))
def Xm (P : Program) : Cf := ⟨hkM P, Γ0, 100000⟩
def rfIn : Code → Option (Array Tmp × Code × Code)
 | .rangeFunc _ p a b => some (p, a, b)
 | .seq a b => match rfIn a with
  | some x => some x
  | none => rfIn b
 | .block _ a => rfIn a
 | _ => none
def rfP (P : Program) (f : FuncId) : Array Tmp × Code × Code := match rfIn (bodyIn P f) with
 | some x => x
 | none => (#[], .skip, .skip)
def tabP (p : Nat) : SO := .ints .u8 (64 + p) 199
def uv (p i : Nat) : SC := .int .u64 (nm_ p i)
def u64R (x : Int) : Prop := 0 ≤ x ∧ x < 2 ^ 64
def LowB (C k : Int) : Prop := (0 ≤ k ∧ k < 64) ∧ u64R (bitsOf .and .u64 C (IntKind.u64.wrap (C - 1))) ∧ bitsOf .and .u64 C (IntKind.u64.wrap (C - 1)) < C ∧ bitsL C = k :: bitsL (bitsOf .and .u64 C (IntKind.u64.wrap (C - 1)))
def cTz : Con := { id := 56, f := 139, m := 2, args := [uv 16 0], ro := [(1, tabP 17)], fs := [.le (.lit (.ofNat 1)) (nm_ 16 0)], pre := fun ρ => 0 < nv ρ 16 0 ∧ nv ρ 16 0 < 2 ^ 64 ∧ li ρ 17 = tab64', outs := [{ n := 1, v := iv 18 0, rw := [], fs := fM 18 0, post := fun ρ => LowB (nv ρ 16 0) (nv ρ 18 0) }] }
def ndTz (P : Program) : List NdS := []
def consTz : List Con := []
def oLp (P : Program) (x d : Nat) : SO := .rng x 13 (setsT [(0, uv 16 0), (2, nil_), (3, pt 18), (5, uv 16 0), (6, .fn (.func 117) [uv 16 0] [])]) 85 (rfP P 85).1 (rfP P 85).2.1 (rfP P 85).2.2 .ready none d
def fB64 (p : Nat) : List BE := [.le (.lit (.ofNat 1)) (.len (64 + p)), leN (.len (64 + p)) 64]
def cEachP (P : Program) : Con := { id := 57, f := 117, m := 5, args := [uv 16 0, .yield 17], rw := [(17, oLp P 17 19), (18, .cells [nil_] 22)], ro := [(1, tabP 20)], fs := [], pre := fun ρ => u64R (nv ρ 16 0) ∧ li ρ 20 = tab64', outs := [
  { n := 0, v := .tup [], rw := [(17, oLp P 17 19), (18, .cells [nil_] 22)], fs := [], post := fun ρ => bitsL (nv ρ 16 0) = [] },
  { id := 1, n := 2, v := .tup [], rw := [(17, oLp P 17 19), (18, .cells [gro 1 21 22] 22), (21, oI 22 21)], fs := fB64 22, post := fun ρ => li ρ 22 = bitsL (nv ρ 16 0) ∧ 1 ≤ (li ρ 22).length ∧ (li ρ 22).length ≤ 64 }] }
def ndEach (P : Program) : List NdS := [
 { key := 0, n := 1, items := itemsAt P 117 0, sl := [(0, uv 21 0), (1, .yield 17)], rw := [(17, oLp P 17 19), (18, .cells [nil_] 22)], ro := [(1, tabP 20)], fs := [ge0 (nm_ 21 0)], inv := fun ρ => li ρ 20 = tab64' ∧ u64R (nv ρ 21 0) ∧ bitsL (nv ρ 21 0) = bitsL (nv ρ 16 0), mu := fun ρ => (nv ρ 21 0).toNat },
 { key := 0, n := 3, items := itemsAt P 117 0, sl := [(0, uv 21 0), (1, .yield 17)], rw := [(17, oLp P 17 19), (18, .cells [gro 1 22 23] 22), (22, oI 23 22)], ro := [(1, tabP 20)], fs := ge0 (nm_ 21 0) :: fB64 23, inv := fun ρ => li ρ 20 = tab64' ∧ u64R (nv ρ 21 0) ∧ li ρ 23 ++ bitsL (nv ρ 21 0) = bitsL (nv ρ 16 0) ∧ 1 ≤ (li ρ 23).length, mu := fun ρ => (nv ρ 21 0).toNat }]
def consEach : List Con := [cTz]
def cList : Con := { id := 58, f := 85, m := 2, args := [uv 16 0], ro := [(1, tabP 17)], fs := [], pre := fun ρ => u64R (nv ρ 16 0) ∧ li ρ 17 = tab64', outs := [
  { n := 0, v := nil_, rw := [], fs := [], post := fun ρ => bitsL (nv ρ 16 0) = [] },
  { id := 1, n := 2, v := gro 1 18 19, rw := [(18, oI 19 18)], fs := fB64 19, post := fun ρ => li ρ 19 = bitsL (nv ρ 16 0) ∧ 1 ≤ (li ρ 19).length ∧ (li ρ 19).length ≤ 64 }] }
def ndList (P : Program) : List NdS := []
noncomputable def cEach : Con := cEachP Tryz.prog
noncomputable def consList : List Con := [cEach]
def cHop : Con := { id := 59, f := 38, m := 5, args := [sli 16 18, iv 19 0], ro := [(16, oA 17 16), (1, tabP 20)], fs := fA ++ fM 19 0, pre := fun ρ => pA ρ ∧ mel ρ 19 0 ∧ li ρ 20 = tab64', outs := [
  { n := 0, v := .tup [nil_, e0], rw := [], fs := [], post := fun ρ => HopL (li ρ 17) (nL ρ) (nv ρ 19 0) [] },
  { id := 1, n := 2, v := .tup [gro 1 21 22, e0], rw := [(21, oI 22 21)], fs := fB64 22, post := fun ρ => HopL (li ρ 17) (nL ρ) (nv ρ 19 0) (li ρ 22) ∧ 1 ≤ (li ρ 22).length ∧ (li ρ 22).length ≤ 64 }] }
def ndHop (P : Program) : List NdS := []
def consHop : List Con := [cAt1, cTollsQ, cList]
def cHopN : Con := { id := 60, f := 38, m := 2, args := [nil_, iv 16 0], ro := [(1, tabP 17)], fs := fM 16 0, pre := fun ρ => mel ρ 16 0 ∧ li ρ 17 = tab64', outs := [
  { n := 0, v := .tup [nil_, e0], rw := [], fs := [], post := fun ρ => HopL [] 0 (nv ρ 16 0) [] },
  { id := 1, n := 2, v := .tup [gro 1 18 19, e0], rw := [(18, oI 19 18)], fs := fB64 19, post := fun ρ => HopL [] 0 (nv ρ 16 0) (li ρ 19) ∧ 1 ≤ (li ρ 19).length ∧ (li ρ 19).length ≤ 64 }] }
def ndHopN (P : Program) : List NdS := []
def consHopN : List Con := [cTollsQN, cList]
end Ft
set_option linter.unusedVariables false
open Go Mv Mw
namespace Ft
def e_CmpQ (P : Program) : VT := (.new (.new (.obl (oblC cCmp1 [.ints [(hN 80 1), (hN 81 1)]]) (.both (.asm (asmC (outAt cCmp1.outs 0) [.ints [(hN 80 1), (hN 81 1)]]) (.ret 0 [.keep 16, .keep 17])) (.both (.asm (asmC (outAt cCmp1.outs 1) [.ints [(hN 80 1), (hN 81 1)]]) (.ret 1 [.keep 16, .keep 17])) (.asm (asmC (outAt cCmp1.outs 2) [.ints [(hN 80 1), (hN 81 1)]]) (.ret 2 [.keep 16, .keep 17])))))))
def e_ThrQ (P : Program) : VT := (.new (.new (.obl (oblC cMay [.ints [(h0 80), (hN 80 1), (hN 80 2), (hN 80 3), (hN 80 4), (hN 80 5)], .ints [(h0 86)]]) (.both (.asm (asmC (outAt cMay.outs 0) [.ints [(h0 80), (hN 80 1), (hN 80 2), (hN 80 3), (hN 80 4), (hN 80 5)], .ints [(h0 86)]]) (.obl (oblC cPutA [.ints [(h0 80), (hN 80 1), (hN 80 2), (hN 80 3), (hN 80 4), (hN 80 5)], .ints [(h0 86)]]) (.new (.asm (asmC (outAt cPutA.outs 0) [.ints [(h0 80), (hN 80 1), (hN 80 2), (hN 80 3), (hN 80 4), (hN 80 5)], .ints [(h0 86)], .keep 25]) (.obl (oblC cHas [.ints [(h0 83)], .ints [(h0 89)]]) (.both (.asm (asmC (outAt cHas.outs 0) [.ints [(h0 83)], .ints [(h0 89)]]) (.obl (oblC cPutA [.ints [(h0 80), (hN 80 1), (hN 80 2), (hN 80 3), (hN 80 4), (hN 80 5)], .ints [(h0 86)]]) (.new (.asm (asmC (outAt cPutA.outs 0) [.ints [(h0 80), (hN 80 1), (hN 80 2), (hN 80 3), (hN 80 4), (hN 80 5)], .ints [(h0 86)], .keep 26]) (.new (.ret 1 [.keep 16, .keep 17, .keep 18, .keep 19, .keep 20, .keep 21, .keep 22, .ints [(.wrap .i64 (.add (.nth 82 (.mul (h0 90) (oN 8))) (hN 80 4))), (.wrap .i64 (.add (.nth 82 (.add (.mul (h0 90) (oN 8)) (oN 1))) (oN 1)))]])))))) (.asm (asmC (outAt cHas.outs 1) [.ints [(h0 83)], .ints [(h0 89)]]) (.ret 0 [.keep 16, .keep 17, .keep 18, .keep 19, .keep 20, .keep 21, .keep 22])))))))) (.asm (asmC (outAt cMay.outs 1) [.ints [(h0 80), (hN 80 1), (hN 80 2), (hN 80 3), (hN 80 4), (hN 80 5)], .ints [(h0 86)]]) (.ret 0 [.keep 16, .keep 17, .keep 18, .keep 19, .keep 20, .keep 21, .keep 22]))))))
def e_ImpQ (P : Program) : VT := (.jump 0 [.keep 16, .keep 17, .keep 18, .keep 19, .keep 20, .keep 21, .keep 22, .ints [(oN 0)]] (ndAt (ndImpQ P) 0).items)
def n_ImpQ_0 (P : Program) : VT := (.branch (.lt (h0 87) (h0 85))
(.need [(.le (.add (.mul (h0 87) (oN 6)) (oN 6)) (.len 80))] (.new (.obl (oblC cThrQ [.ints [(.nth 80 (.mul (h0 87) (oN 6))), (.nth 80 (.add (.mul (h0 87) (oN 6)) (oN 1))), (.nth 80 (.add (.mul (h0 87) (oN 6)) (oN 2))), (.nth 80 (.add (.mul (h0 87) (oN 6)) (oN 3))), (.nth 80 (.add (.mul (h0 87) (oN 6)) (oN 4))), (.nth 80 (.add (.mul (h0 87) (oN 6)) (oN 5)))], .keep 17, .lst 82, .ints [(h0 83)], .keep 20, .ints [(h0 85), (hN 85 1)], .ints [(h0 86)]]) (.both (.asm (asmC (outAt cThrQ.outs 0) [.ints [(.nth 80 (.mul (h0 87) (oN 6))), (.nth 80 (.add (.mul (h0 87) (oN 6)) (oN 1))), (.nth 80 (.add (.mul (h0 87) (oN 6)) (oN 2))), (.nth 80 (.add (.mul (h0 87) (oN 6)) (oN 3))), (.nth 80 (.add (.mul (h0 87) (oN 6)) (oN 4))), (.nth 80 (.add (.mul (h0 87) (oN 6)) (oN 5)))], .keep 17, .lst 82, .ints [(h0 83)], .keep 20, .ints [(h0 85), (hN 85 1)], .ints [(h0 86)]]) (.new (.jump 0 [.keep 16, .keep 17, .keep 18, .keep 19, .keep 20, .keep 21, .keep 22, .ints [(.add (h0 87) (oN 1))]] (ndAt (ndImpQ P) 0).items))) (.new (.asm (asmC (outAt cThrQ.outs 1) [.ints [(.nth 80 (.mul (h0 87) (oN 6))), (.nth 80 (.add (.mul (h0 87) (oN 6)) (oN 1))), (.nth 80 (.add (.mul (h0 87) (oN 6)) (oN 2))), (.nth 80 (.add (.mul (h0 87) (oN 6)) (oN 3))), (.nth 80 (.add (.mul (h0 87) (oN 6)) (oN 4))), (.nth 80 (.add (.mul (h0 87) (oN 6)) (oN 5)))], .keep 17, .lst 82, .ints [(h0 83)], .keep 20, .ints [(h0 85), (hN 85 1)], .ints [(h0 86)], .keep 25]) (.new (.obl (oblC cHas [.ints [(h0 83)], .ints [(h0 86)]]) (.both (.asm (asmC (outAt cHas.outs 0) [.ints [(h0 83)], .ints [(h0 86)]]) (.obl (oblC cCmpQ [.ints [(h0 89), (hN 89 1), (.nth 80 (.mul (h0 87) (oN 6))), (.nth 80 (.add (.mul (h0 87) (oN 6)) (oN 1))), (.nth 80 (.add (.mul (h0 87) (oN 6)) (oN 2))), (.nth 80 (.add (.mul (h0 87) (oN 6)) (oN 3))), (.nth 80 (.add (.mul (h0 87) (oN 6)) (oN 4))), (.nth 80 (.add (.mul (h0 87) (oN 6)) (oN 5)))], .ints [(.nth 82 (.mul (h0 86) (oN 8))), (.nth 82 (.add (.mul (h0 86) (oN 8)) (oN 1))), (.nth 82 (.add (.mul (h0 86) (oN 8)) (oN 2))), (.nth 82 (.add (.mul (h0 86) (oN 8)) (oN 3))), (.nth 82 (.add (.mul (h0 86) (oN 8)) (oN 4))), (.nth 82 (.add (.mul (h0 86) (oN 8)) (oN 5))), (.nth 82 (.add (.mul (h0 86) (oN 8)) (oN 6))), (.nth 82 (.add (.mul (h0 86) (oN 8)) (oN 7)))]]) (.both (.asm (asmC (outAt cCmpQ.outs 0) [.ints [(h0 89), (hN 89 1), (.nth 80 (.mul (h0 87) (oN 6))), (.nth 80 (.add (.mul (h0 87) (oN 6)) (oN 1))), (.nth 80 (.add (.mul (h0 87) (oN 6)) (oN 2))), (.nth 80 (.add (.mul (h0 87) (oN 6)) (oN 3))), (.nth 80 (.add (.mul (h0 87) (oN 6)) (oN 4))), (.nth 80 (.add (.mul (h0 87) (oN 6)) (oN 5)))], .ints [(.nth 82 (.mul (h0 86) (oN 8))), (.nth 82 (.add (.mul (h0 86) (oN 8)) (oN 1))), (.nth 82 (.add (.mul (h0 86) (oN 8)) (oN 2))), (.nth 82 (.add (.mul (h0 86) (oN 8)) (oN 3))), (.nth 82 (.add (.mul (h0 86) (oN 8)) (oN 4))), (.nth 82 (.add (.mul (h0 86) (oN 8)) (oN 5))), (.nth 82 (.add (.mul (h0 86) (oN 8)) (oN 6))), (.nth 82 (.add (.mul (h0 86) (oN 8)) (oN 7)))]]) (.new (.asm (putAsm 27 82 (.mul (h0 86) (oN 8)) [(h0 89), (hN 89 1), (.nth 80 (.mul (h0 87) (oN 6))), (.nth 80 (.add (.mul (h0 87) (oN 6)) (oN 1))), (.nth 80 (.add (.mul (h0 87) (oN 6)) (oN 2))), (.nth 80 (.add (.mul (h0 87) (oN 6)) (oN 3))), (.nth 80 (.add (.mul (h0 87) (oN 6)) (oN 4))), (.nth 80 (.add (.mul (h0 87) (oN 6)) (oN 5)))]) (.jump 1 [.keep 16, .keep 17, .keep 18, .keep 19, .keep 20, .keep 21, .keep 22, .lst 91, .ints [(.bits .or .u64 (h0 83) (.wrap .u64 (.shl .u64 (oN 1) (h0 86))))], .ints [(.add (h0 87) (oN 1))]] (ndAt (ndImpQ P) 1).items)))) (.both (.asm (asmC (outAt cCmpQ.outs 1) [.ints [(h0 89), (hN 89 1), (.nth 80 (.mul (h0 87) (oN 6))), (.nth 80 (.add (.mul (h0 87) (oN 6)) (oN 1))), (.nth 80 (.add (.mul (h0 87) (oN 6)) (oN 2))), (.nth 80 (.add (.mul (h0 87) (oN 6)) (oN 3))), (.nth 80 (.add (.mul (h0 87) (oN 6)) (oN 4))), (.nth 80 (.add (.mul (h0 87) (oN 6)) (oN 5)))], .ints [(.nth 82 (.mul (h0 86) (oN 8))), (.nth 82 (.add (.mul (h0 86) (oN 8)) (oN 1))), (.nth 82 (.add (.mul (h0 86) (oN 8)) (oN 2))), (.nth 82 (.add (.mul (h0 86) (oN 8)) (oN 3))), (.nth 82 (.add (.mul (h0 86) (oN 8)) (oN 4))), (.nth 82 (.add (.mul (h0 86) (oN 8)) (oN 5))), (.nth 82 (.add (.mul (h0 86) (oN 8)) (oN 6))), (.nth 82 (.add (.mul (h0 86) (oN 8)) (oN 7)))]]) (.jump 0 [.keep 16, .keep 17, .keep 18, .keep 19, .keep 20, .keep 21, .keep 22, .ints [(.add (h0 87) (oN 1))]] (ndAt (ndImpQ P) 0).items)) (.asm (asmC (outAt cCmpQ.outs 2) [.ints [(h0 89), (hN 89 1), (.nth 80 (.mul (h0 87) (oN 6))), (.nth 80 (.add (.mul (h0 87) (oN 6)) (oN 1))), (.nth 80 (.add (.mul (h0 87) (oN 6)) (oN 2))), (.nth 80 (.add (.mul (h0 87) (oN 6)) (oN 3))), (.nth 80 (.add (.mul (h0 87) (oN 6)) (oN 4))), (.nth 80 (.add (.mul (h0 87) (oN 6)) (oN 5)))], .ints [(.nth 82 (.mul (h0 86) (oN 8))), (.nth 82 (.add (.mul (h0 86) (oN 8)) (oN 1))), (.nth 82 (.add (.mul (h0 86) (oN 8)) (oN 2))), (.nth 82 (.add (.mul (h0 86) (oN 8)) (oN 3))), (.nth 82 (.add (.mul (h0 86) (oN 8)) (oN 4))), (.nth 82 (.add (.mul (h0 86) (oN 8)) (oN 5))), (.nth 82 (.add (.mul (h0 86) (oN 8)) (oN 6))), (.nth 82 (.add (.mul (h0 86) (oN 8)) (oN 7)))]]) (.jump 0 [.keep 16, .keep 17, .keep 18, .keep 19, .keep 20, .keep 21, .keep 22, .ints [(.add (h0 87) (oN 1))]] (ndAt (ndImpQ P) 0).items)))))) (.asm (asmC (outAt cHas.outs 1) [.ints [(h0 83)], .ints [(h0 86)]]) (.new (.asm (putAsm 27 82 (.mul (h0 86) (oN 8)) [(h0 89), (hN 89 1), (.nth 80 (.mul (h0 87) (oN 6))), (.nth 80 (.add (.mul (h0 87) (oN 6)) (oN 1))), (.nth 80 (.add (.mul (h0 87) (oN 6)) (oN 2))), (.nth 80 (.add (.mul (h0 87) (oN 6)) (oN 3))), (.nth 80 (.add (.mul (h0 87) (oN 6)) (oN 4))), (.nth 80 (.add (.mul (h0 87) (oN 6)) (oN 5)))]) (.jump 1 [.keep 16, .keep 17, .keep 18, .keep 19, .keep 20, .keep 21, .keep 22, .lst 91, .ints [(.bits .or .u64 (h0 83) (.wrap .u64 (.shl .u64 (oN 1) (h0 86))))], .ints [(.add (h0 87) (oN 1))]] (ndAt (ndImpQ P) 1).items)))))))))))))
(.ret 0 [.keep 16, .keep 17, .keep 18, .keep 19, .keep 20, .keep 21, .keep 22]))
def n_ImpQ_1 (P : Program) : VT := (.branch (.lt (h0 89) (h0 85))
(.need [(.le (.add (.mul (h0 89) (oN 6)) (oN 6)) (.len 80))] (.new (.obl (oblC cThrQ [.ints [(.nth 80 (.mul (h0 89) (oN 6))), (.nth 80 (.add (.mul (h0 89) (oN 6)) (oN 1))), (.nth 80 (.add (.mul (h0 89) (oN 6)) (oN 2))), (.nth 80 (.add (.mul (h0 89) (oN 6)) (oN 3))), (.nth 80 (.add (.mul (h0 89) (oN 6)) (oN 4))), (.nth 80 (.add (.mul (h0 89) (oN 6)) (oN 5)))], .keep 17, .lst 87, .ints [(h0 88)], .keep 20, .ints [(h0 85), (hN 85 1)], .ints [(h0 86)]]) (.both (.asm (asmC (outAt cThrQ.outs 0) [.ints [(.nth 80 (.mul (h0 89) (oN 6))), (.nth 80 (.add (.mul (h0 89) (oN 6)) (oN 1))), (.nth 80 (.add (.mul (h0 89) (oN 6)) (oN 2))), (.nth 80 (.add (.mul (h0 89) (oN 6)) (oN 3))), (.nth 80 (.add (.mul (h0 89) (oN 6)) (oN 4))), (.nth 80 (.add (.mul (h0 89) (oN 6)) (oN 5)))], .keep 17, .lst 87, .ints [(h0 88)], .keep 20, .ints [(h0 85), (hN 85 1)], .ints [(h0 86)]]) (.new (.jump 1 [.keep 16, .keep 17, .keep 18, .keep 19, .keep 20, .keep 21, .keep 22, .lst 87, .ints [(h0 88)], .ints [(.add (h0 89) (oN 1))]] (ndAt (ndImpQ P) 1).items))) (.new (.asm (asmC (outAt cThrQ.outs 1) [.ints [(.nth 80 (.mul (h0 89) (oN 6))), (.nth 80 (.add (.mul (h0 89) (oN 6)) (oN 1))), (.nth 80 (.add (.mul (h0 89) (oN 6)) (oN 2))), (.nth 80 (.add (.mul (h0 89) (oN 6)) (oN 3))), (.nth 80 (.add (.mul (h0 89) (oN 6)) (oN 4))), (.nth 80 (.add (.mul (h0 89) (oN 6)) (oN 5)))], .keep 17, .lst 87, .ints [(h0 88)], .keep 20, .ints [(h0 85), (hN 85 1)], .ints [(h0 86)], .keep 27]) (.new (.obl (oblC cHas [.ints [(h0 88)], .ints [(h0 86)]]) (.both (.asm (asmC (outAt cHas.outs 0) [.ints [(h0 88)], .ints [(h0 86)]]) (.obl (oblC cCmpQ [.ints [(h0 91), (hN 91 1), (.nth 80 (.mul (h0 89) (oN 6))), (.nth 80 (.add (.mul (h0 89) (oN 6)) (oN 1))), (.nth 80 (.add (.mul (h0 89) (oN 6)) (oN 2))), (.nth 80 (.add (.mul (h0 89) (oN 6)) (oN 3))), (.nth 80 (.add (.mul (h0 89) (oN 6)) (oN 4))), (.nth 80 (.add (.mul (h0 89) (oN 6)) (oN 5)))], .ints [(.nth 87 (.mul (h0 86) (oN 8))), (.nth 87 (.add (.mul (h0 86) (oN 8)) (oN 1))), (.nth 87 (.add (.mul (h0 86) (oN 8)) (oN 2))), (.nth 87 (.add (.mul (h0 86) (oN 8)) (oN 3))), (.nth 87 (.add (.mul (h0 86) (oN 8)) (oN 4))), (.nth 87 (.add (.mul (h0 86) (oN 8)) (oN 5))), (.nth 87 (.add (.mul (h0 86) (oN 8)) (oN 6))), (.nth 87 (.add (.mul (h0 86) (oN 8)) (oN 7)))]]) (.both (.asm (asmC (outAt cCmpQ.outs 0) [.ints [(h0 91), (hN 91 1), (.nth 80 (.mul (h0 89) (oN 6))), (.nth 80 (.add (.mul (h0 89) (oN 6)) (oN 1))), (.nth 80 (.add (.mul (h0 89) (oN 6)) (oN 2))), (.nth 80 (.add (.mul (h0 89) (oN 6)) (oN 3))), (.nth 80 (.add (.mul (h0 89) (oN 6)) (oN 4))), (.nth 80 (.add (.mul (h0 89) (oN 6)) (oN 5)))], .ints [(.nth 87 (.mul (h0 86) (oN 8))), (.nth 87 (.add (.mul (h0 86) (oN 8)) (oN 1))), (.nth 87 (.add (.mul (h0 86) (oN 8)) (oN 2))), (.nth 87 (.add (.mul (h0 86) (oN 8)) (oN 3))), (.nth 87 (.add (.mul (h0 86) (oN 8)) (oN 4))), (.nth 87 (.add (.mul (h0 86) (oN 8)) (oN 5))), (.nth 87 (.add (.mul (h0 86) (oN 8)) (oN 6))), (.nth 87 (.add (.mul (h0 86) (oN 8)) (oN 7)))]]) (.new (.asm (putAsm 29 87 (.mul (h0 86) (oN 8)) [(h0 91), (hN 91 1), (.nth 80 (.mul (h0 89) (oN 6))), (.nth 80 (.add (.mul (h0 89) (oN 6)) (oN 1))), (.nth 80 (.add (.mul (h0 89) (oN 6)) (oN 2))), (.nth 80 (.add (.mul (h0 89) (oN 6)) (oN 3))), (.nth 80 (.add (.mul (h0 89) (oN 6)) (oN 4))), (.nth 80 (.add (.mul (h0 89) (oN 6)) (oN 5)))]) (.jump 1 [.keep 16, .keep 17, .keep 18, .keep 19, .keep 20, .keep 21, .keep 22, .lst 93, .ints [(.bits .or .u64 (h0 88) (.wrap .u64 (.shl .u64 (oN 1) (h0 86))))], .ints [(.add (h0 89) (oN 1))]] (ndAt (ndImpQ P) 1).items)))) (.both (.asm (asmC (outAt cCmpQ.outs 1) [.ints [(h0 91), (hN 91 1), (.nth 80 (.mul (h0 89) (oN 6))), (.nth 80 (.add (.mul (h0 89) (oN 6)) (oN 1))), (.nth 80 (.add (.mul (h0 89) (oN 6)) (oN 2))), (.nth 80 (.add (.mul (h0 89) (oN 6)) (oN 3))), (.nth 80 (.add (.mul (h0 89) (oN 6)) (oN 4))), (.nth 80 (.add (.mul (h0 89) (oN 6)) (oN 5)))], .ints [(.nth 87 (.mul (h0 86) (oN 8))), (.nth 87 (.add (.mul (h0 86) (oN 8)) (oN 1))), (.nth 87 (.add (.mul (h0 86) (oN 8)) (oN 2))), (.nth 87 (.add (.mul (h0 86) (oN 8)) (oN 3))), (.nth 87 (.add (.mul (h0 86) (oN 8)) (oN 4))), (.nth 87 (.add (.mul (h0 86) (oN 8)) (oN 5))), (.nth 87 (.add (.mul (h0 86) (oN 8)) (oN 6))), (.nth 87 (.add (.mul (h0 86) (oN 8)) (oN 7)))]]) (.jump 1 [.keep 16, .keep 17, .keep 18, .keep 19, .keep 20, .keep 21, .keep 22, .lst 87, .ints [(h0 88)], .ints [(.add (h0 89) (oN 1))]] (ndAt (ndImpQ P) 1).items)) (.asm (asmC (outAt cCmpQ.outs 2) [.ints [(h0 91), (hN 91 1), (.nth 80 (.mul (h0 89) (oN 6))), (.nth 80 (.add (.mul (h0 89) (oN 6)) (oN 1))), (.nth 80 (.add (.mul (h0 89) (oN 6)) (oN 2))), (.nth 80 (.add (.mul (h0 89) (oN 6)) (oN 3))), (.nth 80 (.add (.mul (h0 89) (oN 6)) (oN 4))), (.nth 80 (.add (.mul (h0 89) (oN 6)) (oN 5)))], .ints [(.nth 87 (.mul (h0 86) (oN 8))), (.nth 87 (.add (.mul (h0 86) (oN 8)) (oN 1))), (.nth 87 (.add (.mul (h0 86) (oN 8)) (oN 2))), (.nth 87 (.add (.mul (h0 86) (oN 8)) (oN 3))), (.nth 87 (.add (.mul (h0 86) (oN 8)) (oN 4))), (.nth 87 (.add (.mul (h0 86) (oN 8)) (oN 5))), (.nth 87 (.add (.mul (h0 86) (oN 8)) (oN 6))), (.nth 87 (.add (.mul (h0 86) (oN 8)) (oN 7)))]]) (.jump 1 [.keep 16, .keep 17, .keep 18, .keep 19, .keep 20, .keep 21, .keep 22, .lst 87, .ints [(h0 88)], .ints [(.add (h0 89) (oN 1))]] (ndAt (ndImpQ P) 1).items)))))) (.asm (asmC (outAt cHas.outs 1) [.ints [(h0 88)], .ints [(h0 86)]]) (.new (.asm (putAsm 29 87 (.mul (h0 86) (oN 8)) [(h0 91), (hN 91 1), (.nth 80 (.mul (h0 89) (oN 6))), (.nth 80 (.add (.mul (h0 89) (oN 6)) (oN 1))), (.nth 80 (.add (.mul (h0 89) (oN 6)) (oN 2))), (.nth 80 (.add (.mul (h0 89) (oN 6)) (oN 3))), (.nth 80 (.add (.mul (h0 89) (oN 6)) (oN 4))), (.nth 80 (.add (.mul (h0 89) (oN 6)) (oN 5)))]) (.jump 1 [.keep 16, .keep 17, .keep 18, .keep 19, .keep 20, .keep 21, .keep 22, .lst 93, .ints [(.bits .or .u64 (h0 88) (.wrap .u64 (.shl .u64 (oN 1) (h0 86))))], .ints [(.add (h0 89) (oN 1))]] (ndAt (ndImpQ P) 1).items)))))))))))))
(.ret 1 [.keep 16, .keep 17, .keep 18, .keep 19, .keep 20, .keep 21, .keep 22, .lst 87, .ints [(h0 88)]]))
def e_TollsQ (P : Program) : VT := (.new (.new (.jump 0 [.keep 16, .keep 17, .keep 18, .keep 19, .keep 21, .ints [(oN 0), (oN 0), (oN 0), (oN 0), (oN 0), (oN 0), (oN 0), (oN 0), (oN 0), (oN 0), (oN 0), (oN 0), (oN 0), (oN 0), (oN 0), (oN 0), (oN 0), (oN 0), (oN 0), (oN 0), (oN 0), (oN 0), (oN 0), (oN 0), (oN 0), (oN 0), (oN 0), (oN 0), (oN 0), (oN 0), (oN 0), (oN 0), (oN 0), (oN 0), (oN 0), (oN 0), (oN 0), (oN 0), (oN 0), (oN 0), (oN 0), (oN 0), (oN 0), (oN 0), (oN 0), (oN 0), (oN 0), (oN 0), (oN 0), (oN 0), (oN 0), (oN 0), (oN 0), (oN 0), (oN 0), (oN 0), (oN 0), (oN 0), (oN 0), (oN 0), (oN 0), (oN 0), (oN 0), (oN 0), (oN 0), (oN 0), (oN 0), (oN 0), (oN 0), (oN 0), (oN 0), (oN 0), (oN 0), (oN 0), (oN 0), (oN 0), (oN 0), (oN 0), (oN 0), (oN 0), (oN 0), (oN 0), (oN 0), (oN 0), (oN 0), (oN 0), (oN 0), (oN 0), (oN 0), (oN 0), (oN 0), (oN 0), (oN 0), (oN 0), (oN 0), (oN 0), (oN 0), (oN 0), (oN 0), (oN 0), (oN 0), (oN 0), (oN 0), (oN 0), (oN 0), (oN 0), (oN 0), (oN 0), (oN 0), (oN 0), (oN 0), (oN 0), (oN 0), (oN 0), (oN 0), (oN 0), (oN 0), (oN 0), (oN 0), (oN 0), (oN 0), (oN 0), (oN 0), (oN 0), (oN 0), (oN 0), (oN 0), (oN 0), (oN 0), (oN 0), (oN 0), (oN 0), (oN 0), (oN 0), (oN 0), (oN 0), (oN 0), (oN 0), (oN 0), (oN 0), (oN 0), (oN 0), (oN 0), (oN 0), (oN 0), (oN 0), (oN 0), (oN 0), (oN 0), (oN 0), (oN 0), (oN 0), (oN 0), (oN 0), (oN 0), (oN 0), (oN 0), (oN 0), (oN 0), (oN 0), (oN 0), (oN 0), (oN 0), (oN 0), (oN 0), (oN 0), (oN 0), (oN 0), (oN 0), (oN 0), (oN 0), (oN 0), (oN 0), (oN 0), (oN 0), (oN 0), (oN 0), (oN 0), (oN 0), (oN 0), (oN 0), (oN 0), (oN 0), (oN 0), (oN 0), (oN 0), (oN 0), (oN 0), (oN 0), (oN 0), (oN 0), (oN 0), (oN 0), (oN 0), (oN 0), (oN 0), (oN 0), (oN 0), (oN 0), (oN 0), (oN 0), (oN 0), (oN 0), (oN 0), (oN 0), (oN 0), (oN 0), (oN 0), (oN 0), (oN 0), (oN 0), (oN 0), (oN 0), (oN 0), (oN 0), (oN 0), (oN 0), (oN 0), (oN 0), (oN 0), (oN 0), (oN 0), (oN 0), (oN 0), (oN 0), (oN 0), (oN 0), (oN 0), (oN 0), (oN 0), (oN 0), (oN 0), (oN 0), (oN 0), (oN 0), (oN 0), (oN 0), (oN 0), (oN 0), (oN 0), (oN 0), (oN 0), (oN 0), (oN 0), (oN 0), (oN 0), (oN 0), (oN 0), (oN 0), (oN 0), (oN 0), (oN 0), (oN 0), (oN 0), (oN 0), (oN 0), (oN 0), (oN 0), (oN 0), (oN 0), (oN 0), (oN 0), (oN 0), (oN 0), (oN 0), (oN 0), (oN 0), (oN 0), (oN 0), (oN 0), (oN 0), (oN 0), (oN 0), (oN 0), (oN 0), (oN 0), (oN 0), (oN 0), (oN 0), (oN 0), (oN 0), (oN 0), (oN 0), (oN 0), (oN 0), (oN 0), (oN 0), (oN 0), (oN 0), (oN 0), (oN 0), (oN 0), (oN 0), (oN 0), (oN 0), (oN 0), (oN 0), (oN 0), (oN 0), (oN 0), (oN 0), (oN 0), (oN 0), (oN 0), (oN 0), (oN 0), (oN 0), (oN 0), (oN 0), (oN 0), (oN 0), (oN 0), (oN 0), (oN 0), (oN 0), (oN 0), (oN 0), (oN 0), (oN 0), (oN 0), (oN 0), (oN 0), (oN 0), (oN 0), (oN 0), (oN 0), (oN 0), (oN 0), (oN 0), (oN 0), (oN 0), (oN 0), (oN 0), (oN 0), (oN 0), (oN 0), (oN 0), (oN 0), (oN 0), (oN 0), (oN 0), (oN 0), (oN 0), (oN 0), (oN 0), (oN 0), (oN 0), (oN 0), (oN 0), (oN 0), (oN 0), (oN 0), (oN 0), (oN 0), (oN 0), (oN 0), (oN 0), (oN 0), (oN 0), (oN 0), (oN 0), (oN 0), (oN 0), (oN 0), (oN 0), (oN 0), (oN 0), (oN 0), (oN 0), (oN 0), (oN 0), (oN 0), (oN 0), (oN 0), (oN 0), (oN 0), (oN 0), (oN 0), (oN 0), (oN 0), (oN 0), (oN 0), (oN 0), (oN 0), (oN 0), (oN 0), (oN 0), (oN 0), (oN 0), (oN 0), (oN 0), (oN 0), (oN 0), (oN 0), (oN 0), (oN 0), (oN 0), (oN 0), (oN 0), (oN 0), (oN 0), (oN 0), (oN 0), (oN 0), (oN 0), (oN 0), (oN 0), (oN 0), (oN 0), (oN 0), (oN 0), (oN 0), (oN 0), (oN 0), (oN 0), (oN 0), (oN 0), (oN 0), (oN 0), (oN 0), (oN 0), (oN 0), (oN 0), (oN 0), (oN 0), (oN 0), (oN 0), (oN 0), (oN 0), (oN 0), (oN 0), (oN 0), (oN 0), (oN 0), (oN 0), (oN 0), (oN 0), (oN 0), (oN 0), (oN 0), (oN 0), (oN 0), (oN 0), (oN 0), (oN 0), (oN 0), (oN 0), (oN 0), (oN 0), (oN 0), (oN 0), (oN 0), (oN 0), (oN 0), (oN 0), (oN 0), (oN 0), (oN 0), (oN 0), (oN 0), (oN 0), (oN 0), (oN 0), (oN 0), (oN 0), (oN 0), (oN 0), (oN 0), (oN 0), (oN 0), (oN 0), (oN 0), (oN 0), (oN 0), (oN 0), (oN 0), (oN 0), (oN 0), (oN 0), (oN 0), (oN 0), (oN 0), (oN 0), (oN 0), (oN 0), (oN 0), (oN 0), (oN 0), (oN 0), (oN 0), (oN 0), (oN 0), (oN 0), (oN 0), (oN 0), (oN 0), (oN 0), (oN 0), (oN 0), (oN 0), (oN 0), (oN 0), (oN 0), (oN 0), (oN 0), (oN 0), (oN 0), (oN 0), (oN 0), (oN 0), (oN 0), (oN 0)], .ints [(oN 0)], .ints [(oN 0)]] (ndAt (ndTollsQ P) 0).items)))
def n_TollsQ_0 (P : Program) : VT := (.branch (.lt (h0 87) (oN 64))
(.branch (.eq (.bits .and .i64 (h0 83) (h0 87)) (h0 87))
(.jump 0 [.keep 16, .keep 17, .keep 18, .keep 19, .keep 20, .lst 85, .ints [(.bits .or .u64 (h0 86) (.wrap .u64 (.shl .u64 (oN 1) (h0 87))))], .ints [(.add (h0 87) (oN 1))]] (ndAt (ndTollsQ P) 0).items)
(.jump 0 [.keep 16, .keep 17, .keep 18, .keep 19, .keep 20, .lst 85, .ints [(h0 86)], .ints [(.add (h0 87) (oN 1))]] (ndAt (ndTollsQ P) 0).items))
(.jump 1 [.keep 16, .keep 17, .keep 18, .keep 19, .keep 20, .lst 85, .ints [(h0 86)], .ints [(oN 0)]] (ndAt (ndTollsQ P) 1).items))
def n_TollsQ_1 (P : Program) : VT := (.branch (.lt (h0 87) (oN 64))
(.obl (oblC cImpQ [.lst 81, .keep 20, .lst 85, .ints [(h0 86)], .keep 16, .ints [(h0 82), (hN 82 1)], .ints [(h0 87)]]) (.both (.asm (asmC (outAt cImpQ.outs 0) [.lst 81, .keep 20, .lst 85, .ints [(h0 86)], .keep 16, .ints [(h0 82), (hN 82 1)], .ints [(h0 87)]]) (.jump 1 [.keep 16, .keep 17, .keep 18, .keep 19, .keep 20, .lst 85, .ints [(h0 86)], .ints [(.add (h0 87) (oN 1))]] (ndAt (ndTollsQ P) 1).items)) (.new (.new (.asm (asmC (outAt cImpQ.outs 1) [.lst 81, .keep 20, .lst 85, .ints [(h0 86)], .keep 16, .ints [(h0 82), (hN 82 1)], .ints [(h0 87)], .keep 24, .keep 25]) (.jump 2 [.keep 16, .keep 17, .keep 18, .keep 19, .keep 20, .lst 88, .ints [(h0 89)], .ints [(.add (h0 87) (oN 1))]] (ndAt (ndTollsQ P) 2).items))))))
(.ret 0 [.keep 16, .keep 17, .keep 18, .keep 19, .keep 20, .lst 85, .ints [(h0 86)]]))
def n_TollsQ_2 (P : Program) : VT := (.branch (.lt (h0 87) (oN 64))
(.obl (oblC cImpQ [.lst 81, .keep 20, .lst 85, .ints [(h0 86)], .keep 16, .ints [(h0 82), (hN 82 1)], .ints [(h0 87)]]) (.both (.asm (asmC (outAt cImpQ.outs 0) [.lst 81, .keep 20, .lst 85, .ints [(h0 86)], .keep 16, .ints [(h0 82), (hN 82 1)], .ints [(h0 87)]]) (.jump 2 [.keep 16, .keep 17, .keep 18, .keep 19, .keep 20, .lst 85, .ints [(h0 86)], .ints [(.add (h0 87) (oN 1))]] (ndAt (ndTollsQ P) 2).items)) (.new (.new (.asm (asmC (outAt cImpQ.outs 1) [.lst 81, .keep 20, .lst 85, .ints [(h0 86)], .keep 16, .ints [(h0 82), (hN 82 1)], .ints [(h0 87)], .keep 24, .keep 25]) (.jump 2 [.keep 16, .keep 17, .keep 18, .keep 19, .keep 20, .lst 88, .ints [(h0 89)], .ints [(.add (h0 87) (oN 1))]] (ndAt (ndTollsQ P) 2).items))))))
(.jump 1 [.keep 16, .keep 17, .keep 18, .keep 19, .keep 20, .lst 85, .ints [(h0 86)], .ints [(oN 0)]] (ndAt (ndTollsQ P) 1).items))
def e_TollsQN (P : Program) : VT := (.new (.new (.jump 0 [.keep 16, .keep 18, .ints [(oN 0), (oN 0), (oN 0), (oN 0), (oN 0), (oN 0), (oN 0), (oN 0), (oN 0), (oN 0), (oN 0), (oN 0), (oN 0), (oN 0), (oN 0), (oN 0), (oN 0), (oN 0), (oN 0), (oN 0), (oN 0), (oN 0), (oN 0), (oN 0), (oN 0), (oN 0), (oN 0), (oN 0), (oN 0), (oN 0), (oN 0), (oN 0), (oN 0), (oN 0), (oN 0), (oN 0), (oN 0), (oN 0), (oN 0), (oN 0), (oN 0), (oN 0), (oN 0), (oN 0), (oN 0), (oN 0), (oN 0), (oN 0), (oN 0), (oN 0), (oN 0), (oN 0), (oN 0), (oN 0), (oN 0), (oN 0), (oN 0), (oN 0), (oN 0), (oN 0), (oN 0), (oN 0), (oN 0), (oN 0), (oN 0), (oN 0), (oN 0), (oN 0), (oN 0), (oN 0), (oN 0), (oN 0), (oN 0), (oN 0), (oN 0), (oN 0), (oN 0), (oN 0), (oN 0), (oN 0), (oN 0), (oN 0), (oN 0), (oN 0), (oN 0), (oN 0), (oN 0), (oN 0), (oN 0), (oN 0), (oN 0), (oN 0), (oN 0), (oN 0), (oN 0), (oN 0), (oN 0), (oN 0), (oN 0), (oN 0), (oN 0), (oN 0), (oN 0), (oN 0), (oN 0), (oN 0), (oN 0), (oN 0), (oN 0), (oN 0), (oN 0), (oN 0), (oN 0), (oN 0), (oN 0), (oN 0), (oN 0), (oN 0), (oN 0), (oN 0), (oN 0), (oN 0), (oN 0), (oN 0), (oN 0), (oN 0), (oN 0), (oN 0), (oN 0), (oN 0), (oN 0), (oN 0), (oN 0), (oN 0), (oN 0), (oN 0), (oN 0), (oN 0), (oN 0), (oN 0), (oN 0), (oN 0), (oN 0), (oN 0), (oN 0), (oN 0), (oN 0), (oN 0), (oN 0), (oN 0), (oN 0), (oN 0), (oN 0), (oN 0), (oN 0), (oN 0), (oN 0), (oN 0), (oN 0), (oN 0), (oN 0), (oN 0), (oN 0), (oN 0), (oN 0), (oN 0), (oN 0), (oN 0), (oN 0), (oN 0), (oN 0), (oN 0), (oN 0), (oN 0), (oN 0), (oN 0), (oN 0), (oN 0), (oN 0), (oN 0), (oN 0), (oN 0), (oN 0), (oN 0), (oN 0), (oN 0), (oN 0), (oN 0), (oN 0), (oN 0), (oN 0), (oN 0), (oN 0), (oN 0), (oN 0), (oN 0), (oN 0), (oN 0), (oN 0), (oN 0), (oN 0), (oN 0), (oN 0), (oN 0), (oN 0), (oN 0), (oN 0), (oN 0), (oN 0), (oN 0), (oN 0), (oN 0), (oN 0), (oN 0), (oN 0), (oN 0), (oN 0), (oN 0), (oN 0), (oN 0), (oN 0), (oN 0), (oN 0), (oN 0), (oN 0), (oN 0), (oN 0), (oN 0), (oN 0), (oN 0), (oN 0), (oN 0), (oN 0), (oN 0), (oN 0), (oN 0), (oN 0), (oN 0), (oN 0), (oN 0), (oN 0), (oN 0), (oN 0), (oN 0), (oN 0), (oN 0), (oN 0), (oN 0), (oN 0), (oN 0), (oN 0), (oN 0), (oN 0), (oN 0), (oN 0), (oN 0), (oN 0), (oN 0), (oN 0), (oN 0), (oN 0), (oN 0), (oN 0), (oN 0), (oN 0), (oN 0), (oN 0), (oN 0), (oN 0), (oN 0), (oN 0), (oN 0), (oN 0), (oN 0), (oN 0), (oN 0), (oN 0), (oN 0), (oN 0), (oN 0), (oN 0), (oN 0), (oN 0), (oN 0), (oN 0), (oN 0), (oN 0), (oN 0), (oN 0), (oN 0), (oN 0), (oN 0), (oN 0), (oN 0), (oN 0), (oN 0), (oN 0), (oN 0), (oN 0), (oN 0), (oN 0), (oN 0), (oN 0), (oN 0), (oN 0), (oN 0), (oN 0), (oN 0), (oN 0), (oN 0), (oN 0), (oN 0), (oN 0), (oN 0), (oN 0), (oN 0), (oN 0), (oN 0), (oN 0), (oN 0), (oN 0), (oN 0), (oN 0), (oN 0), (oN 0), (oN 0), (oN 0), (oN 0), (oN 0), (oN 0), (oN 0), (oN 0), (oN 0), (oN 0), (oN 0), (oN 0), (oN 0), (oN 0), (oN 0), (oN 0), (oN 0), (oN 0), (oN 0), (oN 0), (oN 0), (oN 0), (oN 0), (oN 0), (oN 0), (oN 0), (oN 0), (oN 0), (oN 0), (oN 0), (oN 0), (oN 0), (oN 0), (oN 0), (oN 0), (oN 0), (oN 0), (oN 0), (oN 0), (oN 0), (oN 0), (oN 0), (oN 0), (oN 0), (oN 0), (oN 0), (oN 0), (oN 0), (oN 0), (oN 0), (oN 0), (oN 0), (oN 0), (oN 0), (oN 0), (oN 0), (oN 0), (oN 0), (oN 0), (oN 0), (oN 0), (oN 0), (oN 0), (oN 0), (oN 0), (oN 0), (oN 0), (oN 0), (oN 0), (oN 0), (oN 0), (oN 0), (oN 0), (oN 0), (oN 0), (oN 0), (oN 0), (oN 0), (oN 0), (oN 0), (oN 0), (oN 0), (oN 0), (oN 0), (oN 0), (oN 0), (oN 0), (oN 0), (oN 0), (oN 0), (oN 0), (oN 0), (oN 0), (oN 0), (oN 0), (oN 0), (oN 0), (oN 0), (oN 0), (oN 0), (oN 0), (oN 0), (oN 0), (oN 0), (oN 0), (oN 0), (oN 0), (oN 0), (oN 0), (oN 0), (oN 0), (oN 0), (oN 0), (oN 0), (oN 0), (oN 0), (oN 0), (oN 0), (oN 0), (oN 0), (oN 0), (oN 0), (oN 0), (oN 0), (oN 0), (oN 0), (oN 0), (oN 0), (oN 0), (oN 0), (oN 0), (oN 0), (oN 0), (oN 0), (oN 0), (oN 0), (oN 0), (oN 0), (oN 0), (oN 0), (oN 0), (oN 0), (oN 0), (oN 0), (oN 0), (oN 0), (oN 0), (oN 0), (oN 0), (oN 0), (oN 0), (oN 0), (oN 0), (oN 0), (oN 0), (oN 0), (oN 0), (oN 0), (oN 0), (oN 0), (oN 0), (oN 0), (oN 0), (oN 0), (oN 0), (oN 0), (oN 0), (oN 0), (oN 0), (oN 0), (oN 0), (oN 0), (oN 0), (oN 0), (oN 0), (oN 0), (oN 0), (oN 0), (oN 0), (oN 0), (oN 0), (oN 0), (oN 0), (oN 0), (oN 0), (oN 0), (oN 0), (oN 0)], .ints [(oN 0)], .ints [(oN 0)]] (ndAt (ndTollsQN P) 0).items)))
def n_TollsQN_0 (P : Program) : VT := (.branch (.lt (h0 84) (oN 64))
(.branch (.eq (.bits .and .i64 (h0 80) (h0 84)) (h0 84))
(.jump 0 [.keep 16, .keep 17, .lst 82, .ints [(.bits .or .u64 (h0 83) (.wrap .u64 (.shl .u64 (oN 1) (h0 84))))], .ints [(.add (h0 84) (oN 1))]] (ndAt (ndTollsQN P) 0).items)
(.jump 0 [.keep 16, .keep 17, .lst 82, .ints [(h0 83)], .ints [(.add (h0 84) (oN 1))]] (ndAt (ndTollsQN P) 0).items))
(.jump 1 [.keep 16, .keep 17, .lst 82, .ints [(h0 83)], .ints [(oN 0)]] (ndAt (ndTollsQN P) 1).items))
def n_TollsQN_1 (P : Program) : VT := (.branch (.lt (h0 84) (oN 64))
(.jump 1 [.keep 16, .keep 17, .lst 82, .ints [(h0 83)], .ints [(.add (h0 84) (oN 1))]] (ndAt (ndTollsQN P) 1).items)
(.ret 0 [.keep 16, .keep 17, .lst 82, .ints [(h0 83)]]))
def e_Tz (P : Program) : VT := (.branch (.eq (h0 80) (oN 0))
(.ret 0 [.keep 16, .keep 17, .ints [(oN 64)]])
(.need [(.le (oN 0) (.shr .u64 (.wrap .u64 (.mul (.bits .and .u64 (h0 80) (.wrap .u64 (.sub (oN 0) (h0 80)))) (oN 285870213051353865))) (oN 58))), (.lt (.shr .u64 (.wrap .u64 (.mul (.bits .and .u64 (h0 80) (.wrap .u64 (.sub (oN 0) (h0 80)))) (oN 285870213051353865))) (oN 58)) (oN 64))] (.need [(.le (oN 0) (.shr .u64 (.wrap .u64 (.mul (.bits .and .u64 (h0 80) (.wrap .u64 (.sub (oN 0) (h0 80)))) (oN 285870213051353865))) (oN 58))), (.lt (.shr .u64 (.wrap .u64 (.mul (.bits .and .u64 (h0 80) (.wrap .u64 (.sub (oN 0) (h0 80)))) (oN 285870213051353865))) (oN 58)) (.len 81))] (.ret 0 [.keep 16, .keep 17, .ints [(.wrap .i64 (.nth 81 (.shr .u64 (.wrap .u64 (.mul (.bits .and .u64 (h0 80) (.wrap .u64 (.sub (oN 0) (h0 80)))) (oN 285870213051353865))) (oN 58))))]]))))
def e_Each (P : Program) : VT := (.jump 0 [.keep 16, .keep 17, .keep 18, .keep 19, .keep 20, .ints [(h0 80)]] (ndAt (ndEach P) 0).items)
def n_Each_0 (P : Program) : VT := (.branch (.not (.eq (h0 85) (oN 0)))
(.obl (oblC cTz [.ints [(h0 85)], .lst 84]) (.new (.asm (asmC (outAt cTz.outs 0) [.ints [(h0 85)], .lst 84, .keep 22]) (.new (.new (.jump 1 [.keep 16, .keep 17, .keep 18, .keep 19, .keep 20, .ints [(.bits .and .u64 (h0 85) (.wrap .u64 (.sub (h0 85) (oN 1))))], .keep 24, .ints [(h0 86)]] (ndAt (ndEach P) 1).items))))))
(.ret 0 [.keep 16, .keep 17, .keep 18, .keep 19, .keep 20]))
def n_Each_1 (P : Program) : VT := (.branch (.not (.eq (h0 85) (oN 0)))
(.obl (oblC cTz [.ints [(h0 85)], .lst 84]) (.new (.asm (asmC (outAt cTz.outs 0) [.ints [(h0 85)], .lst 84, .keep 24]) (.new (.new (.asm (appAsm 26 (.whole 87) (.lits [(h0 88)])) (.new (.jump 1 [.keep 16, .keep 17, .keep 18, .keep 19, .keep 20, .ints [(.bits .and .u64 (h0 85) (.wrap .u64 (.sub (h0 85) (oN 1))))], .keep 27, .lst 90] (ndAt (ndEach P) 1).items))))))))
(.ret 1 [.keep 16, .keep 17, .keep 18, .keep 19, .keep 20, .keep 22, .lst 87]))
def e_List (P : Program) : VT := (.new (.new (.new (.obl (oblC cEach [.ints [(h0 80)], .keep 20, .keep 18, .keep 19, .lst 81]) (.both (.asm (asmC (outAt cEach.outs 0) [.ints [(h0 80)], .keep 20, .keep 18, .keep 19, .lst 81]) (.ret 0 [.keep 16, .keep 17])) (.new (.new (.asm (asmC (outAt cEach.outs 1) [.ints [(h0 80)], .keep 20, .keep 18, .keep 19, .lst 81, .keep 21, .keep 22]) (.ret 1 [.keep 16, .keep 17, .keep 21, .lst 86])))))))))
def e_Hop (P : Program) : VT := (.new (.branch (.not (.eq (.bits .andNot .i64 (h0 83) (oN 63)) (oN 0)))
(.new (.obl (oblC cAt1 [.keep 16, .lst 81, .ints [(h0 82), (hN 82 1)], .keep 22, .ints [(oN 1)]]) (.new (.new (.asm (asmC (outAt cAt1.outs 0) [.keep 16, .lst 81, .ints [(h0 82), (hN 82 1)], .keep 22, .ints [(oN 1)], .keep 23, .keep 24]) (.new (.obl (oblC cTollsQ [.keep 23, .lst 88, .ints [(.quo (.len 88) (oN 6)), (.add (.quo (.len 88) (oN 6)) (.room 23 6))], .ints [(h0 83)]]) (.new (.new (.new (.asm (asmC (outAt cTollsQ.outs 0) [.keep 23, .lst 88, .ints [(.quo (.len 88) (oN 6)), (.add (.quo (.len 88) (oN 6)) (.room 23 6))], .ints [(h0 83)], .keep 26, .keep 27, .keep 28]) (.obl (oblC cList [.ints [(.bits .xor .u64 (oN 18446744073709551615) (h0 92))], .lst 84]) (.both (.asm (asmC (outAt cList.outs 0) [.ints [(.bits .xor .u64 (oN 18446744073709551615) (h0 92))], .lst 84]) (.ret 0 [.keep 16, .keep 17, .keep 18, .keep 19, .keep 20])) (.new (.new (.asm (asmC (outAt cList.outs 1) [.ints [(.bits .xor .u64 (oN 18446744073709551615) (h0 92))], .lst 84, .keep 29, .keep 30]) (.ret 1 [.keep 16, .keep 17, .keep 18, .keep 19, .keep 20, .keep 29, .lst 94])))))))))))))))))
(.new (.obl (oblC cAt1 [.keep 16, .lst 81, .ints [(h0 82), (hN 82 1)], .keep 22, .ints [(oN 0)]]) (.new (.new (.asm (asmC (outAt cAt1.outs 0) [.keep 16, .lst 81, .ints [(h0 82), (hN 82 1)], .keep 22, .ints [(oN 0)], .keep 23, .keep 24]) (.new (.obl (oblC cTollsQ [.keep 23, .lst 88, .ints [(.quo (.len 88) (oN 6)), (.add (.quo (.len 88) (oN 6)) (.room 23 6))], .ints [(h0 83)]]) (.new (.new (.new (.asm (asmC (outAt cTollsQ.outs 0) [.keep 23, .lst 88, .ints [(.quo (.len 88) (oN 6)), (.add (.quo (.len 88) (oN 6)) (.room 23 6))], .ints [(h0 83)], .keep 26, .keep 27, .keep 28]) (.obl (oblC cList [.ints [(.bits .xor .u64 (oN 18446744073709551615) (h0 92))], .lst 84]) (.both (.asm (asmC (outAt cList.outs 0) [.ints [(.bits .xor .u64 (oN 18446744073709551615) (h0 92))], .lst 84]) (.ret 0 [.keep 16, .keep 17, .keep 18, .keep 19, .keep 20])) (.new (.new (.asm (asmC (outAt cList.outs 1) [.ints [(.bits .xor .u64 (oN 18446744073709551615) (h0 92))], .lst 84, .keep 29, .keep 30]) (.ret 1 [.keep 16, .keep 17, .keep 18, .keep 19, .keep 20, .keep 29, .lst 94])))))))))))))))))))
def e_HopN (P : Program) : VT := (.new (.branch (.not (.eq (.bits .andNot .i64 (h0 80) (oN 63)) (oN 0)))
 (.new (.new
(.bad 1)))
 (.new (.new (.new (.obl (oblC cTollsQN [.ints [(h0 80)]]) (.new (.new (.new (.asm (asmC (outAt cTollsQN.outs 0) [.ints [(h0 80)], .keep 22, .keep 23, .keep 24]) (.obl (oblC cList [.ints [(.bits .xor .u64 (oN 18446744073709551615) (h0 88))], .lst 81]) (.both (.asm (asmC (outAt cList.outs 0) [.ints [(.bits .xor .u64 (oN 18446744073709551615) (h0 88))], .lst 81]) (.ret 0 [.keep 16, .keep 17])) (.new (.new (.asm (asmC (outAt cList.outs 1) [.ints [(.bits .xor .u64 (oN 18446744073709551615) (h0 88))], .lst 81, .keep 25, .keep 26]) (.ret 1 [.keep 16, .keep 17, .keep 25, .lst 90]))))))))))))))))
end Ft
set_option linter.unusedVariables false
set_option linter.unusedSimpArgs false
open Go Mv Mw
namespace Ft
theorem bits_le (C : Int) : (bitsL C).length ≤ 64 := by
 unfold bitsL
 rw [List.length_map]
 exact Nat.le_trans (List.length_filter_le _ _) (by simp)
theorem tz_ok {x : Int} (h0 : 0 < x) (h1 : x < 2 ^ 64) : (0 ≤ tzIx (bitsOf .and .u64 x (IntKind.u64.wrap (0 - x))) ∧ tzIx (bitsOf .and .u64 x (IntKind.u64.wrap (0 - x))) < 64) ∧ LowB x (tab64'.getD (tzIx (bitsOf .and .u64 x (IntKind.u64.wrap (0 - x)))).toNat 0) := by
 obtain ⟨k, hk, e, h2, h3, ⟨h4, h5⟩, h6⟩ := low_all h0 h1
 rw [e]
 obtain ⟨a, b, c⟩ := tz_tab ⟨k, hk⟩
 simp only at a b c
 rw [c]
 exact ⟨⟨a, b⟩, ⟨Int.natCast_nonneg _, by omega⟩, ⟨h4, by omega⟩, h5, bits_low h2 hk h3 h6⟩
theorem u64_xor {x y : Nat} (hx : x < 2 ^ 64) (hy : y < 2 ^ 64) : bitsOf .xor .u64 (x : Int) (y : Int) = ((x ^^^ y : Nat) : Int) := by
 have h : x ^^^ y < 2 ^ 64 := Nat.xor_lt_two_pow hx hy
 show IntKind.u64.wrap (((BitVec.ofInt 64 (x : Int)) ^^^ (BitVec.ofInt 64 (y : Int))).toNat : Int) = _
 rw [ofInt_nat, ofInt_nat, BitVec.toNat_xor, BitVec.toNat_ofNat, BitVec.toNat_ofNat, Nat.mod_eq_of_lt hx, Nat.mod_eq_of_lt hy]
 exact wrapu64_fit (by omega) (by omega)
theorem inv_ok {C : Int} (h : 0 ≤ C ∧ C < 2 ^ 64) : (0 ≤ bitsOf .xor .u64 18446744073709551615 C ∧ bitsOf .xor .u64 18446744073709551615 C < 2 ^ 64) ∧ bitsL (bitsOf .xor .u64 18446744073709551615 C) = hopL C := by
 obtain ⟨c, rfl⟩ := nat_of h.1
 have hc : c < 2 ^ 64 := by omega
 have e : bitsOf .xor .u64 18446744073709551615 (c : Int) = ((18446744073709551615 ^^^ c : Nat) : Int) := u64_xor (x := 18446744073709551615) (by decide) hc
 have hx : 18446744073709551615 ^^^ c < 2 ^ 64 := Nat.xor_lt_two_pow (by decide) hc
 rw [e]
 refine ⟨⟨Int.natCast_nonneg _, by omega⟩, bits_inv fun i hi => ?_⟩
 rw [hasU_nat hx hi, hasU_nat hc hi, Nat.testBit_xor, show (18446744073709551615 : Nat) = 2 ^ 64 - 1 from rfl, Nat.testBit_two_pow_sub_one]
 simp [hi]
theorem v_Tz (P : Program) (ρ : Env) (hv : vals ρ) (hΓ : Γ0.On ρ) (hl : ρ.k.length = 18) (hp : cTz.pre ρ) : VC cTz (ndTz P) none ρ (e_Tz P) := by
 simp only [VC, oblC, asmC, appAsm, outAt, ndAt, allTrue, ve, BE.den, LX.den, nv, li, rowP, tT, e_Tz, cTz] at hp ⊢
 simp only [vb, bdList, hl, IE.den, forall_eq', implies_true, reduceIte, reduceCtorEq, Nat.reduceAdd, Nat.reduceSub, Nat.reduceLeDiff, Nat.reduceLT, Nat.reduceEqDiff] at hp ⊢
 obtain ⟨p1, p2, p3⟩ := hp
 generalize (ρ.list 80).getD 0 0 = x at *
 rw [p3]
 obtain ⟨⟨a, b⟩, c⟩ := tz_ok p1 p2
 have e : ∀ y, (IntKind.u64.wrap (y * 285870213051353865)).fdiv (2 ^ (Int.toNat 58).min 64) = tzIx y := fun y => rfl
 have hlen : ((tab64'.length : Nat) : Int) = 64 := rfl
 rw [e, hlen, wrap64_fit (by have := c.1; omega) (by have := c.1; omega)]
 exact ⟨fun h => by omega, fun _ => ⟨⟨a, b⟩, ⟨a, b⟩, c⟩⟩
theorem v_Each (P : Program) (ρ : Env) (hv : vals ρ) (hΓ : Γ0.On ρ) (hl : ρ.k.length = 21) (hp : cEach.pre ρ) : VC cEach (ndEach P) none ρ (e_Each P) := by
 simp only [VC, oblC, asmC, appAsm, outAt, ndAt, allTrue, ve, BE.den, LX.den, nv, li, rowP, tT, e_Each, ndEach, cEach, cEachP, u64R] at hp ⊢
 simp only [vb, bdList, hl, IE.den, forall_eq', implies_true, reduceIte, reduceCtorEq, Nat.reduceAdd, Nat.reduceSub, Nat.reduceLeDiff, Nat.reduceLT, Nat.reduceEqDiff] at hp ⊢
 exact ⟨hp.2, hp.1⟩
theorem v_Each_0 (P : Program) (ρ : Env) (hv : vals ρ) (hΓ : Γ0.On ρ) (hl : ρ.k.length = 22) (hp : (ndAt (ndEach P) 0).inv ρ) : VC cEach (ndEach P) (some ((ndAt (ndEach P) 0).mu ρ)) ρ (n_Each_0 P) := by
 simp only [VC, oblC, asmC, appAsm, outAt, ndAt, allTrue, ve, BE.den, LX.den, nv, li, rowP, tT, n_Each_0, ndEach, cEach, cEachP, cTz, u64R, LowB] at hp ⊢
 simp only [vb, bdList, hl, IE.den, forall_eq', implies_true, reduceIte, reduceCtorEq, Nat.reduceAdd, Nat.reduceSub, Nat.reduceLeDiff, Nat.reduceLT, Nat.reduceEqDiff] at hp ⊢
 obtain ⟨p1, p2, p3⟩ := hp
 refine ⟨fun h => ⟨⟨by omega, p2.2, p1⟩, ?_⟩, fun h => by rw [← p3, h]; exact bits_zero⟩
 rintro _ r ⟨q1, q2, q3, q4⟩ _ _ _ _
 exact ⟨⟨p1, q2, by rw [← p3, q4]; rfl, by simp⟩, by omega⟩
theorem v_Each_1 (P : Program) (ρ : Env) (hv : vals ρ) (hΓ : Γ0.On ρ) (hl : ρ.k.length = 24) (hp : (ndAt (ndEach P) 1).inv ρ) : VC cEach (ndEach P) (some ((ndAt (ndEach P) 1).mu ρ)) ρ (n_Each_1 P) := by
 simp only [VC, oblC, asmC, appAsm, outAt, ndAt, allTrue, ve, BE.den, LX.den, nv, li, rowP, tT, n_Each_1, ndEach, cEach, cEachP, cTz, u64R, LowB] at hp ⊢
 simp only [vb, bdList, hl, IE.den, forall_eq', implies_true, reduceIte, reduceCtorEq, Nat.reduceAdd, Nat.reduceSub, Nat.reduceLeDiff, Nat.reduceLT, Nat.reduceEqDiff] at hp ⊢
 obtain ⟨p1, p2, p3, p4⟩ := hp
 refine ⟨fun h => ⟨⟨by omega, p2.2, p1⟩, ?_⟩, fun h => ?_⟩
 ·rintro _ r ⟨q1, q2, q3, q4⟩ _ _ _ r2 h2 _ _
  refine ⟨⟨p1, q2, ?_, by rw [h2]; simp⟩, by omega⟩
  rw [h2, ← p3, q4, List.append_assoc]; rfl
 ·rw [h, bits_zero, List.append_nil] at p3
  have := bits_le ((ρ.list 80).getD 0 0)
  rw [← p3] at this
  exact ⟨p3, p4, this⟩
theorem v_List (P : Program) (ρ : Env) (hv : vals ρ) (hΓ : Γ0.On ρ) (hl : ρ.k.length = 18) (hp : cList.pre ρ) : VC cList (ndList P) none ρ (e_List P) := by
 simp only [VC, oblC, asmC, appAsm, outAt, ndAt, allTrue, ve, BE.den, LX.den, nv, li, rowP, tT, e_List, cList, cEach, cEachP, u64R] at hp ⊢
 simp only [vb, bdList, hl, IE.den, forall_eq', implies_true, reduceIte, reduceCtorEq, Nat.reduceAdd, Nat.reduceSub, Nat.reduceLeDiff, Nat.reduceLT, Nat.reduceEqDiff] at hp ⊢
 exact fun _ _ _ _ _ _ => ⟨hp, fun h => h, fun _ _ _ _ h => h⟩
theorem v_Hop (P : Program) (ρ : Env) (hv : vals ρ) (hΓ : Γ0.On ρ) (hl : ρ.k.length = 21) (hp : cHop.pre ρ) : VC cHop (ndHop P) none ρ (e_Hop P) := by
 simp only [VC, oblC, asmC, appAsm, outAt, ndAt, allTrue, ve, BE.den, LX.den, nv, li, rowP, tT, e_Hop, cHop, mel, cAt1, cTollsQ, cList, pA, pTl, nT, nL, u64R] at hp ⊢
 simp only [vb, bdList, hl, IE.den, forall_eq', implies_true, reduceIte, reduceCtorEq, Nat.reduceAdd, Nat.reduceSub, Nat.reduceLeDiff, Nat.reduceLT, Nat.reduceEqDiff] at hp ⊢
 obtain ⟨⟨n0, hag⟩, p0, ht⟩ := hp
 have h1 := andNot63 p0.1 (show (ρ.list 83).getD 0 0 < 2 ^ 6 by omega)
 generalize (ρ.list 83).getD 0 0 = pass at *
 generalize ρ.list 81 = L at *
 generalize (ρ.list 82).getD 0 0 = N at *
 obtain ⟨n, rfl⟩ : ∃ k : Nat, N = k := nat_of (by omega)
 simp only [Int.toNat_natCast] at *
 have hB := bench_ok hag
 refine fun _ _ => ⟨fun h => absurd h1 h, fun _ _ _ => ⟨⟨n0, hag⟩, ?_⟩⟩
 rintro _ _ _ r ⟨-, q1, q2⟩ _ _
 have hd := len_tdiv6 (L := List.map intOf r) (c := (n : Int)) (by omega) q2
 rw [hd, q1, Int.toNat_natCast]
 refine ⟨⟨n0, hB, p0⟩, ?_⟩
 intro _ _ _ r3 _ r4 hdn
 generalize (List.map intOf r4).getD 0 0 = C at *
 have hcl := hdn.cl hB
 obtain ⟨i1, i2⟩ := inv_ok hcl.1
 rw [i2]
 exact ⟨⟨i1, ht⟩, fun h => ⟨C, hcl, h.symm⟩, fun _ _ _ r h => ⟨⟨C, hcl, h.1⟩, h.2⟩⟩
theorem v_HopN (P : Program) (ρ : Env) (hv : vals ρ) (hΓ : Γ0.On ρ) (hl : ρ.k.length = 18) (hp : cHopN.pre ρ) : VC cHopN (ndHopN P) none ρ (e_HopN P) := by
 simp only [VC, oblC, asmC, appAsm, outAt, ndAt, allTrue, ve, BE.den, LX.den, nv, li, rowP, tT, e_HopN, cHopN, mel, cTollsQN, cList, noT, u64R] at hp ⊢
 simp only [vb, bdList, hl, IE.den, forall_eq', implies_true, reduceIte, reduceCtorEq, Nat.reduceAdd, Nat.reduceSub, Nat.reduceLeDiff, Nat.reduceLT, Nat.reduceEqDiff] at hp ⊢
 obtain ⟨p0, ht⟩ := hp
 have h1 := andNot63 p0.1 (show (ρ.list 80).getD 0 0 < 2 ^ 6 by omega)
 generalize (ρ.list 80).getD 0 0 = pass at *
 refine fun _ _ => ⟨fun h => absurd h1 h, fun _ _ _ _ _ _ _ => ⟨p0, ?_⟩⟩
 rintro _ r _ _ _ r1 ⟨z, c, hh⟩
 generalize (List.map intOf r1).getD 0 0 = C at *
 obtain ⟨i1, i2⟩ := inv_ok c
 have hn := hop_none c hh
 rw [i2]
 exact ⟨⟨i1, ht⟩, fun h => by rw [← h]; exact hn, fun _ _ _ r h => ⟨by rw [h.1]; exact hn, h.2⟩⟩
end Ft
set_option linter.unusedVariables false
open Go Mv Mw Go.Proofs
namespace Ft
theorem hkM_ok (main : Co) : HkOk Tryz.prog main (Xm Tryz.prog).hk :=
 hOr_ok hApp_ok (hOr_ok hHStore_ok (hOr_ok hMap_ok (hOr_ok (hExt_ok xTA_ok) hInv_ok)))
end Ft
set_option linter.unusedVariables false
open Go Mv Mw
namespace Ft
def e_May0 (P : Program) : VT := (.new (.branch (.eq (.bits .and .i64 (h0 81) (h0 80)) (h0 80))
(.ret 0 [.keep 16, .keep 17])
(.ret 1 [.keep 16, .keep 17])))
def e_Has0 (P : Program) : VT := (.ret 0 [.keep 16, .keep 17])
def e_Cmp1 (P : Program) : VT := (.branch (.not (.eq (h0 80) (h0 80)))
(.branch (.not (.eq (hN 80 1) (hN 80 1)))
(.ret 2 [.keep 16])
(.ret 0 [.keep 16]))
(.branch (.not (.eq (hN 80 1) (hN 80 1)))
(.ret 1 [.keep 16])
(.branch (.lt (h0 80) (hN 80 1))
(.ret 0 [.keep 16])
(.branch (.lt (hN 80 1) (h0 80))
(.ret 1 [.keep 16])
(.ret 2 [.keep 16])))))
def e_Cmp (P : Program) : VT := (.new (.new (.obl (oblC cCmp1 [.ints [(h0 80), (h0 81)]]) (.both (.asm (asmC (outAt cCmp1.outs 0) [.ints [(h0 80), (h0 81)]]) (.obl (oblC cCmp1 [.ints [(hN 80 1), (hN 81 1)]]) (.both (.asm (asmC (outAt cCmp1.outs 0) [.ints [(hN 80 1), (hN 81 1)]]) (.obl (oblC cCmp1 [.ints [(hN 80 7), (hN 81 7)]]) (.both (.asm (asmC (outAt cCmp1.outs 0) [.ints [(hN 80 7), (hN 81 7)]]) (.new (.ret 0 [.keep 16, .keep 17]))) (.both (.asm (asmC (outAt cCmp1.outs 1) [.ints [(hN 80 7), (hN 81 7)]]) (.new (.ret 0 [.keep 16, .keep 17]))) (.asm (asmC (outAt cCmp1.outs 2) [.ints [(hN 80 7), (hN 81 7)]]) (.new (.ret 0 [.keep 16, .keep 17]))))))) (.both (.asm (asmC (outAt cCmp1.outs 1) [.ints [(hN 80 1), (hN 81 1)]]) (.obl (oblC cCmp1 [.ints [(hN 80 7), (hN 81 7)]]) (.both (.asm (asmC (outAt cCmp1.outs 0) [.ints [(hN 80 7), (hN 81 7)]]) (.new (.ret 0 [.keep 16, .keep 17]))) (.both (.asm (asmC (outAt cCmp1.outs 1) [.ints [(hN 80 7), (hN 81 7)]]) (.new (.ret 0 [.keep 16, .keep 17]))) (.asm (asmC (outAt cCmp1.outs 2) [.ints [(hN 80 7), (hN 81 7)]]) (.new (.ret 0 [.keep 16, .keep 17]))))))) (.asm (asmC (outAt cCmp1.outs 2) [.ints [(hN 80 1), (hN 81 1)]]) (.obl (oblC cCmp1 [.ints [(hN 80 7), (hN 81 7)]]) (.both (.asm (asmC (outAt cCmp1.outs 0) [.ints [(hN 80 7), (hN 81 7)]]) (.new (.ret 0 [.keep 16, .keep 17]))) (.both (.asm (asmC (outAt cCmp1.outs 1) [.ints [(hN 80 7), (hN 81 7)]]) (.new (.ret 0 [.keep 16, .keep 17]))) (.asm (asmC (outAt cCmp1.outs 2) [.ints [(hN 80 7), (hN 81 7)]]) (.new (.ret 0 [.keep 16, .keep 17]))))))))))) (.both (.asm (asmC (outAt cCmp1.outs 1) [.ints [(h0 80), (h0 81)]]) (.obl (oblC cCmp1 [.ints [(hN 80 1), (hN 81 1)]]) (.both (.asm (asmC (outAt cCmp1.outs 0) [.ints [(hN 80 1), (hN 81 1)]]) (.obl (oblC cCmp1 [.ints [(hN 80 7), (hN 81 7)]]) (.both (.asm (asmC (outAt cCmp1.outs 0) [.ints [(hN 80 7), (hN 81 7)]]) (.new (.ret 1 [.keep 16, .keep 17]))) (.both (.asm (asmC (outAt cCmp1.outs 1) [.ints [(hN 80 7), (hN 81 7)]]) (.new (.ret 1 [.keep 16, .keep 17]))) (.asm (asmC (outAt cCmp1.outs 2) [.ints [(hN 80 7), (hN 81 7)]]) (.new (.ret 1 [.keep 16, .keep 17]))))))) (.both (.asm (asmC (outAt cCmp1.outs 1) [.ints [(hN 80 1), (hN 81 1)]]) (.obl (oblC cCmp1 [.ints [(hN 80 7), (hN 81 7)]]) (.both (.asm (asmC (outAt cCmp1.outs 0) [.ints [(hN 80 7), (hN 81 7)]]) (.new (.ret 1 [.keep 16, .keep 17]))) (.both (.asm (asmC (outAt cCmp1.outs 1) [.ints [(hN 80 7), (hN 81 7)]]) (.new (.ret 1 [.keep 16, .keep 17]))) (.asm (asmC (outAt cCmp1.outs 2) [.ints [(hN 80 7), (hN 81 7)]]) (.new (.ret 1 [.keep 16, .keep 17]))))))) (.asm (asmC (outAt cCmp1.outs 2) [.ints [(hN 80 1), (hN 81 1)]]) (.obl (oblC cCmp1 [.ints [(hN 80 7), (hN 81 7)]]) (.both (.asm (asmC (outAt cCmp1.outs 0) [.ints [(hN 80 7), (hN 81 7)]]) (.new (.ret 1 [.keep 16, .keep 17]))) (.both (.asm (asmC (outAt cCmp1.outs 1) [.ints [(hN 80 7), (hN 81 7)]]) (.new (.ret 1 [.keep 16, .keep 17]))) (.asm (asmC (outAt cCmp1.outs 2) [.ints [(hN 80 7), (hN 81 7)]]) (.new (.ret 1 [.keep 16, .keep 17]))))))))))) (.asm (asmC (outAt cCmp1.outs 2) [.ints [(h0 80), (h0 81)]]) (.obl (oblC cCmp1 [.ints [(hN 80 1), (hN 81 1)]]) (.both (.asm (asmC (outAt cCmp1.outs 0) [.ints [(hN 80 1), (hN 81 1)]]) (.obl (oblC cCmp1 [.ints [(hN 80 7), (hN 81 7)]]) (.both (.asm (asmC (outAt cCmp1.outs 0) [.ints [(hN 80 7), (hN 81 7)]]) (.new (.ret 0 [.keep 16, .keep 17]))) (.both (.asm (asmC (outAt cCmp1.outs 1) [.ints [(hN 80 7), (hN 81 7)]]) (.new (.ret 0 [.keep 16, .keep 17]))) (.asm (asmC (outAt cCmp1.outs 2) [.ints [(hN 80 7), (hN 81 7)]]) (.new (.ret 0 [.keep 16, .keep 17]))))))) (.both (.asm (asmC (outAt cCmp1.outs 1) [.ints [(hN 80 1), (hN 81 1)]]) (.obl (oblC cCmp1 [.ints [(hN 80 7), (hN 81 7)]]) (.both (.asm (asmC (outAt cCmp1.outs 0) [.ints [(hN 80 7), (hN 81 7)]]) (.new (.ret 1 [.keep 16, .keep 17]))) (.both (.asm (asmC (outAt cCmp1.outs 1) [.ints [(hN 80 7), (hN 81 7)]]) (.new (.ret 1 [.keep 16, .keep 17]))) (.asm (asmC (outAt cCmp1.outs 2) [.ints [(hN 80 7), (hN 81 7)]]) (.new (.ret 1 [.keep 16, .keep 17]))))))) (.asm (asmC (outAt cCmp1.outs 2) [.ints [(hN 80 1), (hN 81 1)]]) (.obl (oblC cCmp1 [.ints [(hN 80 7), (hN 81 7)]]) (.both (.asm (asmC (outAt cCmp1.outs 0) [.ints [(hN 80 7), (hN 81 7)]]) (.new (.ret 0 [.keep 16, .keep 17]))) (.both (.asm (asmC (outAt cCmp1.outs 1) [.ints [(hN 80 7), (hN 81 7)]]) (.new (.ret 1 [.keep 16, .keep 17]))) (.asm (asmC (outAt cCmp1.outs 2) [.ints [(hN 80 7), (hN 81 7)]]) (.new (.ret 2 [.keep 16, .keep 17]))))))))))))))))
def e_PutA (P : Program) : VT := (.new (.obl (oblC cMay [.ints [(h0 80), (hN 80 1), (hN 80 2), (hN 80 3), (hN 80 4), (hN 80 5)], .ints [(h0 81)]]) (.both (.asm (asmC (outAt cMay.outs 0) [.ints [(h0 80), (hN 80 1), (hN 80 2), (hN 80 3), (hN 80 4), (hN 80 5)], .ints [(h0 81)]]) (.ret 0 [.keep 16, .keep 17, .ints [(.bits .or .i64 (.bits .andNot .i64 (h0 81) (hN 80 2)) (hN 80 3))]])) (.asm (asmC (outAt cMay.outs 1) [.ints [(h0 80), (hN 80 1), (hN 80 2), (hN 80 3), (hN 80 4), (hN 80 5)], .ints [(h0 81)]]) (.bad 0)))))
def e_Thr (P : Program) : VT := (.new (.new (.obl (oblC cMay [.ints [(h0 80), (hN 80 1), (hN 80 2), (hN 80 3), (hN 80 4), (hN 80 5)], .ints [(h0 86)]]) (.both (.asm (asmC (outAt cMay.outs 0) [.ints [(h0 80), (hN 80 1), (hN 80 2), (hN 80 3), (hN 80 4), (hN 80 5)], .ints [(h0 86)]]) (.obl (oblC cPutA [.ints [(h0 80), (hN 80 1), (hN 80 2), (hN 80 3), (hN 80 4), (hN 80 5)], .ints [(h0 86)]]) (.new (.asm (asmC (outAt cPutA.outs 0) [.ints [(h0 80), (hN 80 1), (hN 80 2), (hN 80 3), (hN 80 4), (hN 80 5)], .ints [(h0 86)], .keep 25]) (.obl (oblC cHas [.ints [(h0 83)], .ints [(h0 89)]]) (.both (.asm (asmC (outAt cHas.outs 0) [.ints [(h0 83)], .ints [(h0 89)]]) (.obl (oblC cPutA [.ints [(h0 80), (hN 80 1), (hN 80 2), (hN 80 3), (hN 80 4), (hN 80 5)], .ints [(h0 86)]]) (.new (.asm (asmC (outAt cPutA.outs 0) [.ints [(h0 80), (hN 80 1), (hN 80 2), (hN 80 3), (hN 80 4), (hN 80 5)], .ints [(h0 86)], .keep 26]) (.new (.ret 1 [.keep 16, .keep 17, .keep 18, .keep 19, .keep 20, .keep 21, .keep 22, .ints [(.wrap .i64 (.add (.nth 82 (.mul (h0 90) (oN 8))) (hN 80 4))), (.wrap .i64 (.add (.nth 82 (.add (.mul (h0 90) (oN 8)) (oN 1))) (oN 1)))]])))))) (.asm (asmC (outAt cHas.outs 1) [.ints [(h0 83)], .ints [(h0 89)]]) (.ret 0 [.keep 16, .keep 17, .keep 18, .keep 19, .keep 20, .keep 21, .keep 22])))))))) (.asm (asmC (outAt cMay.outs 1) [.ints [(h0 80), (hN 80 1), (hN 80 2), (hN 80 3), (hN 80 4), (hN 80 5)], .ints [(h0 86)]]) (.ret 0 [.keep 16, .keep 17, .keep 18, .keep 19, .keep 20, .keep 21, .keep 22]))))))
def e_Imp (P : Program) : VT := (.jump 0 [.keep 16, .keep 17, .keep 18, .keep 19, .keep 20, .keep 21, .keep 22, .ints [(oN 0)]] (ndAt (ndImp P) 0).items)
def n_Imp_0 (P : Program) : VT := (.branch (.lt (h0 87) (h0 85))
(.need [(.le (.add (.mul (h0 87) (oN 6)) (oN 6)) (.len 80))] (.new (.obl (oblC cThr [.ints [(.nth 80 (.mul (h0 87) (oN 6))), (.nth 80 (.add (.mul (h0 87) (oN 6)) (oN 1))), (.nth 80 (.add (.mul (h0 87) (oN 6)) (oN 2))), (.nth 80 (.add (.mul (h0 87) (oN 6)) (oN 3))), (.nth 80 (.add (.mul (h0 87) (oN 6)) (oN 4))), (.nth 80 (.add (.mul (h0 87) (oN 6)) (oN 5)))], .keep 17, .lst 82, .ints [(h0 83)], .keep 20, .ints [(h0 85), (hN 85 1)], .ints [(h0 86)]]) (.both (.asm (asmC (outAt cThr.outs 0) [.ints [(.nth 80 (.mul (h0 87) (oN 6))), (.nth 80 (.add (.mul (h0 87) (oN 6)) (oN 1))), (.nth 80 (.add (.mul (h0 87) (oN 6)) (oN 2))), (.nth 80 (.add (.mul (h0 87) (oN 6)) (oN 3))), (.nth 80 (.add (.mul (h0 87) (oN 6)) (oN 4))), (.nth 80 (.add (.mul (h0 87) (oN 6)) (oN 5)))], .keep 17, .lst 82, .ints [(h0 83)], .keep 20, .ints [(h0 85), (hN 85 1)], .ints [(h0 86)]]) (.new (.jump 0 [.keep 16, .keep 17, .keep 18, .keep 19, .keep 20, .keep 21, .keep 22, .ints [(.add (h0 87) (oN 1))]] (ndAt (ndImp P) 0).items))) (.new (.asm (asmC (outAt cThr.outs 1) [.ints [(.nth 80 (.mul (h0 87) (oN 6))), (.nth 80 (.add (.mul (h0 87) (oN 6)) (oN 1))), (.nth 80 (.add (.mul (h0 87) (oN 6)) (oN 2))), (.nth 80 (.add (.mul (h0 87) (oN 6)) (oN 3))), (.nth 80 (.add (.mul (h0 87) (oN 6)) (oN 4))), (.nth 80 (.add (.mul (h0 87) (oN 6)) (oN 5)))], .keep 17, .lst 82, .ints [(h0 83)], .keep 20, .ints [(h0 85), (hN 85 1)], .ints [(h0 86)], .keep 25]) (.new (.obl (oblC cHas [.ints [(h0 83)], .ints [(h0 86)]]) (.both (.asm (asmC (outAt cHas.outs 0) [.ints [(h0 83)], .ints [(h0 86)]]) (.obl (oblC cCmp [.ints [(h0 89), (hN 89 1), (.nth 80 (.mul (h0 87) (oN 6))), (.nth 80 (.add (.mul (h0 87) (oN 6)) (oN 1))), (.nth 80 (.add (.mul (h0 87) (oN 6)) (oN 2))), (.nth 80 (.add (.mul (h0 87) (oN 6)) (oN 3))), (.nth 80 (.add (.mul (h0 87) (oN 6)) (oN 4))), (.nth 80 (.add (.mul (h0 87) (oN 6)) (oN 5)))], .ints [(.nth 82 (.mul (h0 86) (oN 8))), (.nth 82 (.add (.mul (h0 86) (oN 8)) (oN 1))), (.nth 82 (.add (.mul (h0 86) (oN 8)) (oN 2))), (.nth 82 (.add (.mul (h0 86) (oN 8)) (oN 3))), (.nth 82 (.add (.mul (h0 86) (oN 8)) (oN 4))), (.nth 82 (.add (.mul (h0 86) (oN 8)) (oN 5))), (.nth 82 (.add (.mul (h0 86) (oN 8)) (oN 6))), (.nth 82 (.add (.mul (h0 86) (oN 8)) (oN 7)))]]) (.both (.asm (asmC (outAt cCmp.outs 0) [.ints [(h0 89), (hN 89 1), (.nth 80 (.mul (h0 87) (oN 6))), (.nth 80 (.add (.mul (h0 87) (oN 6)) (oN 1))), (.nth 80 (.add (.mul (h0 87) (oN 6)) (oN 2))), (.nth 80 (.add (.mul (h0 87) (oN 6)) (oN 3))), (.nth 80 (.add (.mul (h0 87) (oN 6)) (oN 4))), (.nth 80 (.add (.mul (h0 87) (oN 6)) (oN 5)))], .ints [(.nth 82 (.mul (h0 86) (oN 8))), (.nth 82 (.add (.mul (h0 86) (oN 8)) (oN 1))), (.nth 82 (.add (.mul (h0 86) (oN 8)) (oN 2))), (.nth 82 (.add (.mul (h0 86) (oN 8)) (oN 3))), (.nth 82 (.add (.mul (h0 86) (oN 8)) (oN 4))), (.nth 82 (.add (.mul (h0 86) (oN 8)) (oN 5))), (.nth 82 (.add (.mul (h0 86) (oN 8)) (oN 6))), (.nth 82 (.add (.mul (h0 86) (oN 8)) (oN 7)))]]) (.new (.asm (putAsm 27 82 (.mul (h0 86) (oN 8)) [(h0 89), (hN 89 1), (.nth 80 (.mul (h0 87) (oN 6))), (.nth 80 (.add (.mul (h0 87) (oN 6)) (oN 1))), (.nth 80 (.add (.mul (h0 87) (oN 6)) (oN 2))), (.nth 80 (.add (.mul (h0 87) (oN 6)) (oN 3))), (.nth 80 (.add (.mul (h0 87) (oN 6)) (oN 4))), (.nth 80 (.add (.mul (h0 87) (oN 6)) (oN 5)))]) (.jump 1 [.keep 16, .keep 17, .keep 18, .keep 19, .keep 20, .keep 21, .keep 22, .lst 91, .ints [(.bits .or .u64 (h0 83) (.wrap .u64 (.shl .u64 (oN 1) (h0 86))))], .ints [(.add (h0 87) (oN 1))]] (ndAt (ndImp P) 1).items)))) (.both (.asm (asmC (outAt cCmp.outs 1) [.ints [(h0 89), (hN 89 1), (.nth 80 (.mul (h0 87) (oN 6))), (.nth 80 (.add (.mul (h0 87) (oN 6)) (oN 1))), (.nth 80 (.add (.mul (h0 87) (oN 6)) (oN 2))), (.nth 80 (.add (.mul (h0 87) (oN 6)) (oN 3))), (.nth 80 (.add (.mul (h0 87) (oN 6)) (oN 4))), (.nth 80 (.add (.mul (h0 87) (oN 6)) (oN 5)))], .ints [(.nth 82 (.mul (h0 86) (oN 8))), (.nth 82 (.add (.mul (h0 86) (oN 8)) (oN 1))), (.nth 82 (.add (.mul (h0 86) (oN 8)) (oN 2))), (.nth 82 (.add (.mul (h0 86) (oN 8)) (oN 3))), (.nth 82 (.add (.mul (h0 86) (oN 8)) (oN 4))), (.nth 82 (.add (.mul (h0 86) (oN 8)) (oN 5))), (.nth 82 (.add (.mul (h0 86) (oN 8)) (oN 6))), (.nth 82 (.add (.mul (h0 86) (oN 8)) (oN 7)))]]) (.jump 0 [.keep 16, .keep 17, .keep 18, .keep 19, .keep 20, .keep 21, .keep 22, .ints [(.add (h0 87) (oN 1))]] (ndAt (ndImp P) 0).items)) (.asm (asmC (outAt cCmp.outs 2) [.ints [(h0 89), (hN 89 1), (.nth 80 (.mul (h0 87) (oN 6))), (.nth 80 (.add (.mul (h0 87) (oN 6)) (oN 1))), (.nth 80 (.add (.mul (h0 87) (oN 6)) (oN 2))), (.nth 80 (.add (.mul (h0 87) (oN 6)) (oN 3))), (.nth 80 (.add (.mul (h0 87) (oN 6)) (oN 4))), (.nth 80 (.add (.mul (h0 87) (oN 6)) (oN 5)))], .ints [(.nth 82 (.mul (h0 86) (oN 8))), (.nth 82 (.add (.mul (h0 86) (oN 8)) (oN 1))), (.nth 82 (.add (.mul (h0 86) (oN 8)) (oN 2))), (.nth 82 (.add (.mul (h0 86) (oN 8)) (oN 3))), (.nth 82 (.add (.mul (h0 86) (oN 8)) (oN 4))), (.nth 82 (.add (.mul (h0 86) (oN 8)) (oN 5))), (.nth 82 (.add (.mul (h0 86) (oN 8)) (oN 6))), (.nth 82 (.add (.mul (h0 86) (oN 8)) (oN 7)))]]) (.jump 0 [.keep 16, .keep 17, .keep 18, .keep 19, .keep 20, .keep 21, .keep 22, .ints [(.add (h0 87) (oN 1))]] (ndAt (ndImp P) 0).items)))))) (.asm (asmC (outAt cHas.outs 1) [.ints [(h0 83)], .ints [(h0 86)]]) (.new (.asm (putAsm 27 82 (.mul (h0 86) (oN 8)) [(h0 89), (hN 89 1), (.nth 80 (.mul (h0 87) (oN 6))), (.nth 80 (.add (.mul (h0 87) (oN 6)) (oN 1))), (.nth 80 (.add (.mul (h0 87) (oN 6)) (oN 2))), (.nth 80 (.add (.mul (h0 87) (oN 6)) (oN 3))), (.nth 80 (.add (.mul (h0 87) (oN 6)) (oN 4))), (.nth 80 (.add (.mul (h0 87) (oN 6)) (oN 5)))]) (.jump 1 [.keep 16, .keep 17, .keep 18, .keep 19, .keep 20, .keep 21, .keep 22, .lst 91, .ints [(.bits .or .u64 (h0 83) (.wrap .u64 (.shl .u64 (oN 1) (h0 86))))], .ints [(.add (h0 87) (oN 1))]] (ndAt (ndImp P) 1).items)))))))))))))
(.ret 0 [.keep 16, .keep 17, .keep 18, .keep 19, .keep 20, .keep 21, .keep 22]))
def n_Imp_1 (P : Program) : VT := (.branch (.lt (h0 89) (h0 85))
(.need [(.le (.add (.mul (h0 89) (oN 6)) (oN 6)) (.len 80))] (.new (.obl (oblC cThr [.ints [(.nth 80 (.mul (h0 89) (oN 6))), (.nth 80 (.add (.mul (h0 89) (oN 6)) (oN 1))), (.nth 80 (.add (.mul (h0 89) (oN 6)) (oN 2))), (.nth 80 (.add (.mul (h0 89) (oN 6)) (oN 3))), (.nth 80 (.add (.mul (h0 89) (oN 6)) (oN 4))), (.nth 80 (.add (.mul (h0 89) (oN 6)) (oN 5)))], .keep 17, .lst 87, .ints [(h0 88)], .keep 20, .ints [(h0 85), (hN 85 1)], .ints [(h0 86)]]) (.both (.asm (asmC (outAt cThr.outs 0) [.ints [(.nth 80 (.mul (h0 89) (oN 6))), (.nth 80 (.add (.mul (h0 89) (oN 6)) (oN 1))), (.nth 80 (.add (.mul (h0 89) (oN 6)) (oN 2))), (.nth 80 (.add (.mul (h0 89) (oN 6)) (oN 3))), (.nth 80 (.add (.mul (h0 89) (oN 6)) (oN 4))), (.nth 80 (.add (.mul (h0 89) (oN 6)) (oN 5)))], .keep 17, .lst 87, .ints [(h0 88)], .keep 20, .ints [(h0 85), (hN 85 1)], .ints [(h0 86)]]) (.new (.jump 1 [.keep 16, .keep 17, .keep 18, .keep 19, .keep 20, .keep 21, .keep 22, .lst 87, .ints [(h0 88)], .ints [(.add (h0 89) (oN 1))]] (ndAt (ndImp P) 1).items))) (.new (.asm (asmC (outAt cThr.outs 1) [.ints [(.nth 80 (.mul (h0 89) (oN 6))), (.nth 80 (.add (.mul (h0 89) (oN 6)) (oN 1))), (.nth 80 (.add (.mul (h0 89) (oN 6)) (oN 2))), (.nth 80 (.add (.mul (h0 89) (oN 6)) (oN 3))), (.nth 80 (.add (.mul (h0 89) (oN 6)) (oN 4))), (.nth 80 (.add (.mul (h0 89) (oN 6)) (oN 5)))], .keep 17, .lst 87, .ints [(h0 88)], .keep 20, .ints [(h0 85), (hN 85 1)], .ints [(h0 86)], .keep 27]) (.new (.obl (oblC cHas [.ints [(h0 88)], .ints [(h0 86)]]) (.both (.asm (asmC (outAt cHas.outs 0) [.ints [(h0 88)], .ints [(h0 86)]]) (.obl (oblC cCmp [.ints [(h0 91), (hN 91 1), (.nth 80 (.mul (h0 89) (oN 6))), (.nth 80 (.add (.mul (h0 89) (oN 6)) (oN 1))), (.nth 80 (.add (.mul (h0 89) (oN 6)) (oN 2))), (.nth 80 (.add (.mul (h0 89) (oN 6)) (oN 3))), (.nth 80 (.add (.mul (h0 89) (oN 6)) (oN 4))), (.nth 80 (.add (.mul (h0 89) (oN 6)) (oN 5)))], .ints [(.nth 87 (.mul (h0 86) (oN 8))), (.nth 87 (.add (.mul (h0 86) (oN 8)) (oN 1))), (.nth 87 (.add (.mul (h0 86) (oN 8)) (oN 2))), (.nth 87 (.add (.mul (h0 86) (oN 8)) (oN 3))), (.nth 87 (.add (.mul (h0 86) (oN 8)) (oN 4))), (.nth 87 (.add (.mul (h0 86) (oN 8)) (oN 5))), (.nth 87 (.add (.mul (h0 86) (oN 8)) (oN 6))), (.nth 87 (.add (.mul (h0 86) (oN 8)) (oN 7)))]]) (.both (.asm (asmC (outAt cCmp.outs 0) [.ints [(h0 91), (hN 91 1), (.nth 80 (.mul (h0 89) (oN 6))), (.nth 80 (.add (.mul (h0 89) (oN 6)) (oN 1))), (.nth 80 (.add (.mul (h0 89) (oN 6)) (oN 2))), (.nth 80 (.add (.mul (h0 89) (oN 6)) (oN 3))), (.nth 80 (.add (.mul (h0 89) (oN 6)) (oN 4))), (.nth 80 (.add (.mul (h0 89) (oN 6)) (oN 5)))], .ints [(.nth 87 (.mul (h0 86) (oN 8))), (.nth 87 (.add (.mul (h0 86) (oN 8)) (oN 1))), (.nth 87 (.add (.mul (h0 86) (oN 8)) (oN 2))), (.nth 87 (.add (.mul (h0 86) (oN 8)) (oN 3))), (.nth 87 (.add (.mul (h0 86) (oN 8)) (oN 4))), (.nth 87 (.add (.mul (h0 86) (oN 8)) (oN 5))), (.nth 87 (.add (.mul (h0 86) (oN 8)) (oN 6))), (.nth 87 (.add (.mul (h0 86) (oN 8)) (oN 7)))]]) (.new (.asm (putAsm 29 87 (.mul (h0 86) (oN 8)) [(h0 91), (hN 91 1), (.nth 80 (.mul (h0 89) (oN 6))), (.nth 80 (.add (.mul (h0 89) (oN 6)) (oN 1))), (.nth 80 (.add (.mul (h0 89) (oN 6)) (oN 2))), (.nth 80 (.add (.mul (h0 89) (oN 6)) (oN 3))), (.nth 80 (.add (.mul (h0 89) (oN 6)) (oN 4))), (.nth 80 (.add (.mul (h0 89) (oN 6)) (oN 5)))]) (.jump 1 [.keep 16, .keep 17, .keep 18, .keep 19, .keep 20, .keep 21, .keep 22, .lst 93, .ints [(.bits .or .u64 (h0 88) (.wrap .u64 (.shl .u64 (oN 1) (h0 86))))], .ints [(.add (h0 89) (oN 1))]] (ndAt (ndImp P) 1).items)))) (.both (.asm (asmC (outAt cCmp.outs 1) [.ints [(h0 91), (hN 91 1), (.nth 80 (.mul (h0 89) (oN 6))), (.nth 80 (.add (.mul (h0 89) (oN 6)) (oN 1))), (.nth 80 (.add (.mul (h0 89) (oN 6)) (oN 2))), (.nth 80 (.add (.mul (h0 89) (oN 6)) (oN 3))), (.nth 80 (.add (.mul (h0 89) (oN 6)) (oN 4))), (.nth 80 (.add (.mul (h0 89) (oN 6)) (oN 5)))], .ints [(.nth 87 (.mul (h0 86) (oN 8))), (.nth 87 (.add (.mul (h0 86) (oN 8)) (oN 1))), (.nth 87 (.add (.mul (h0 86) (oN 8)) (oN 2))), (.nth 87 (.add (.mul (h0 86) (oN 8)) (oN 3))), (.nth 87 (.add (.mul (h0 86) (oN 8)) (oN 4))), (.nth 87 (.add (.mul (h0 86) (oN 8)) (oN 5))), (.nth 87 (.add (.mul (h0 86) (oN 8)) (oN 6))), (.nth 87 (.add (.mul (h0 86) (oN 8)) (oN 7)))]]) (.jump 1 [.keep 16, .keep 17, .keep 18, .keep 19, .keep 20, .keep 21, .keep 22, .lst 87, .ints [(h0 88)], .ints [(.add (h0 89) (oN 1))]] (ndAt (ndImp P) 1).items)) (.asm (asmC (outAt cCmp.outs 2) [.ints [(h0 91), (hN 91 1), (.nth 80 (.mul (h0 89) (oN 6))), (.nth 80 (.add (.mul (h0 89) (oN 6)) (oN 1))), (.nth 80 (.add (.mul (h0 89) (oN 6)) (oN 2))), (.nth 80 (.add (.mul (h0 89) (oN 6)) (oN 3))), (.nth 80 (.add (.mul (h0 89) (oN 6)) (oN 4))), (.nth 80 (.add (.mul (h0 89) (oN 6)) (oN 5)))], .ints [(.nth 87 (.mul (h0 86) (oN 8))), (.nth 87 (.add (.mul (h0 86) (oN 8)) (oN 1))), (.nth 87 (.add (.mul (h0 86) (oN 8)) (oN 2))), (.nth 87 (.add (.mul (h0 86) (oN 8)) (oN 3))), (.nth 87 (.add (.mul (h0 86) (oN 8)) (oN 4))), (.nth 87 (.add (.mul (h0 86) (oN 8)) (oN 5))), (.nth 87 (.add (.mul (h0 86) (oN 8)) (oN 6))), (.nth 87 (.add (.mul (h0 86) (oN 8)) (oN 7)))]]) (.jump 1 [.keep 16, .keep 17, .keep 18, .keep 19, .keep 20, .keep 21, .keep 22, .lst 87, .ints [(h0 88)], .ints [(.add (h0 89) (oN 1))]] (ndAt (ndImp P) 1).items)))))) (.asm (asmC (outAt cHas.outs 1) [.ints [(h0 88)], .ints [(h0 86)]]) (.new (.asm (putAsm 29 87 (.mul (h0 86) (oN 8)) [(h0 91), (hN 91 1), (.nth 80 (.mul (h0 89) (oN 6))), (.nth 80 (.add (.mul (h0 89) (oN 6)) (oN 1))), (.nth 80 (.add (.mul (h0 89) (oN 6)) (oN 2))), (.nth 80 (.add (.mul (h0 89) (oN 6)) (oN 3))), (.nth 80 (.add (.mul (h0 89) (oN 6)) (oN 4))), (.nth 80 (.add (.mul (h0 89) (oN 6)) (oN 5)))]) (.jump 1 [.keep 16, .keep 17, .keep 18, .keep 19, .keep 20, .keep 21, .keep 22, .lst 93, .ints [(.bits .or .u64 (h0 88) (.wrap .u64 (.shl .u64 (oN 1) (h0 86))))], .ints [(.add (h0 89) (oN 1))]] (ndAt (ndImp P) 1).items)))))))))))))
(.ret 1 [.keep 16, .keep 17, .keep 18, .keep 19, .keep 20, .keep 21, .keep 22, .lst 87, .ints [(h0 88)]]))
end Ft
set_option linter.unusedVariables false
set_option linter.unusedSimpArgs false
open Go Mv Mw
namespace Ft
theorem v_May0 (P : Program) (ρ : Env) (hv : vals ρ) (hΓ : Γ0.On ρ) (hl : ρ.k.length = 18) (hp : cMay0.pre ρ) : VC cMay0 (ndMay0 P) none ρ (e_May0 P) := by
 simp only [VC, oblC, asmC, appAsm, outAt, ndAt, allTrue, ve, BE.den, LX.den, nv, li, rowP, tT, e_May0, cMay0, oMay0, mel, andI] at hp ⊢
 simp only [vb, bdList, hl, IE.den, forall_eq', implies_true, reduceIte, reduceCtorEq, Nat.reduceAdd, Nat.reduceSub, Nat.reduceLeDiff, Nat.reduceLT, Nat.reduceEqDiff] at hp ⊢
 try exact fun _ _ => ⟨fun h => h, fun h => h⟩
theorem v_Has0 (P : Program) (ρ : Env) (hv : vals ρ) (hΓ : Γ0.On ρ) (hl : ρ.k.length = 18) (hp : cHas0.pre ρ) : VC cHas0 (ndHas0 P) none ρ (e_Has0 P) := by
 simp only [VC, oblC, asmC, appAsm, outAt, ndAt, allTrue, ve, BE.den, LX.den, nv, li, rowP, tT, e_Has0, cHas0, oHas0, mel] at hp ⊢
theorem v_Cmp1 (P : Program) (ρ : Env) (hv : vals ρ) (hΓ : Γ0.On ρ) (hl : ρ.k.length = 17) (hp : cCmp1.pre ρ) : VC cCmp1 (ndCmp1 P) none ρ (e_Cmp1 P) := by
 simp only [VC, oblC, asmC, appAsm, outAt, ndAt, allTrue, ve, BE.den, LX.den, nv, li, rowP, tT, e_Cmp1, cCmp1] at hp ⊢
 simp only [vb, bdList, hl, IE.den, forall_eq', implies_true, reduceIte, reduceCtorEq, Nat.reduceAdd, Nat.reduceSub, Nat.reduceLeDiff, Nat.reduceLT, Nat.reduceEqDiff] at hp ⊢
 exact fun _ _ => ⟨fun h2 => h2, fun h2 => ⟨fun h3 => h3, fun h3 => by omega⟩⟩
theorem v_PutA (P : Program) (ρ : Env) (hv : vals ρ) (hΓ : Γ0.On ρ) (hl : ρ.k.length = 18) (hp : cPutA.pre ρ) : VC cPutA (ndPutA P) none ρ (e_PutA P) := by
 simp only [VC, oblC, asmC, appAsm, outAt, ndAt, allTrue, ve, BE.den, LX.den, nv, li, rowP, tT, e_PutA, cPutA, cMay, cMay0, Con.split, oMay0, mel] at hp ⊢
 simp only [vb, bdList, hl, IE.den, forall_eq', implies_true, reduceIte, reduceCtorEq, Nat.reduceAdd, Nat.reduceSub, Nat.reduceLeDiff, Nat.reduceLT, Nat.reduceEqDiff] at hp ⊢
 obtain ⟨p1, p2, p3, p4⟩ := hp
 exact fun b r => ⟨p1, fun _ => ⟨rfl, aftA_rng p3 p4 p1⟩, fun h => by rw [p2] at h; cases h⟩
theorem v_Cmp (P : Program) (ρ : Env) (hv : vals ρ) (hΓ : Γ0.On ρ) (hl : ρ.k.length = 18) (hp : cCmp.pre ρ) : VC cCmp (ndCmp P) none ρ (e_Cmp P) := by
 simp only [VC, oblC, asmC, appAsm, outAt, ndAt, allTrue, ve, BE.den, LX.den, nv, li, rowP, tT, e_Cmp, cCmp, cCmp1, ltT] at hp ⊢
 simp only [vb, bdList, hl, IE.den, forall_eq', implies_true, reduceIte, reduceCtorEq, Nat.reduceAdd, Nat.reduceSub, Nat.reduceLeDiff, Nat.reduceLT, Nat.reduceEqDiff] at hp ⊢
 generalize (ρ.list 80).getD 0 0 = a
 generalize (ρ.list 81).getD 0 0 = a'
 generalize (ρ.list 80).getD 1 0 = b
 generalize (ρ.list 81).getD 1 0 = b'
 generalize (ρ.list 80).getD 7 0 = c
 generalize (ρ.list 81).getD 7 0 = c'
 intros
 refine ⟨?_, ?_, ?_⟩ <;> intro h1 <;> refine ⟨?_, ?_, ?_⟩ <;> intro h2 <;> refine ⟨?_, ?_, ?_⟩ <;> intro h3 <;> omega
theorem v_Thr (P : Program) (ρ : Env) (hv : vals ρ) (hΓ : Γ0.On ρ) (hl : ρ.k.length = 23) (hp : cThr.pre ρ) : VC cThr (ndThr P) none ρ (e_Thr P) := by
 simp only [VC, oblC, asmC, appAsm, outAt, ndAt, allTrue, ve, BE.den, LX.den, nv, li, rowP, tT, e_Thr, cThr, cMay, cMay0, cHas, cHas0, cPutA, Con.split, oMay0, oHas0, mel, thrY, agR] at hp ⊢
 simp only [vb, bdList, hl, IE.den, forall_eq', implies_true, reduceIte, reduceCtorEq, Nat.reduceAdd, Nat.reduceSub, Nat.reduceLeDiff, Nat.reduceLT, Nat.reduceEqDiff] at hp ⊢
 obtain ⟨p1, ⟨q1, q2⟩, p3, p4, p5⟩ := hp
 refine fun b r b' r' => ⟨p1, fun m => ⟨⟨p1, m, p3, p4⟩, fun b1 r1 => ?_⟩, fun m h => by rw [m] at h; exact absurd h.1 (by decide)⟩
 generalize (List.map intOf r1).getD 0 0 = t
 rintro ⟨rfl, t1⟩
 refine ⟨t1, fun h => ⟨⟨p1, m, p3, p4⟩, fun b2 r2 => ?_⟩, fun h h2 => by rw [h2.2] at h; cases h⟩
 generalize (List.map intOf r2).getD 0 0 = t2
 rintro ⟨rfl, t3⟩ b3 r3
 generalize aftA ((ρ.list 80).getD 2 0) ((ρ.list 80).getD 3 0) ((ρ.list 86).getD 0 0) = T at *
 obtain ⟨c1, c2, c3, c4⟩ := q2 T.toNat (by omega)
 have e1 : (T * 8).toNat = 8 * T.toNat := by omega
 have e2 : (T * 8 + 1).toNat = 8 * T.toNat + 1 := by omega
 have e3 : cst (ρ.list 82) T.toNat = (ρ.list 82).getD (8 * T.toNat) 0 := rfl
 have e4 : pts (ρ.list 82) T.toNat = (ρ.list 82).getD (8 * T.toNat + 1) 0 := rfl
 rw [e1, e2, ← e3, ← e4]
 exact ⟨⟨m, h⟩, wrap64_fit (by omega) (by omega), wrap64_fit (by omega) (by omega)⟩
end Ft
set_option linter.unusedVariables false
open Go Mv Mw Go.Proofs
namespace Ft
theorem hkT_ok (main : Co) : HkOk Tryz.prog main (Xt Tryz.prog).hk :=
 hOr_ok hApp_ok (hOr_ok hHStore_ok (hOr_ok (hExt_ok xMap_ok) (hExt_ok xTA_ok)))
end Ft
set_option linter.unusedVariables false
set_option linter.unusedSimpArgs false
open Go Mv Mw Go.Proofs
namespace Ft
theorem cf_May0 : ∀ ρ, cMay0.pre ρ → ∀ b ∈ cMay0.fs, b.den ρ = true := by
 simp only [cMay0, fM, mel, oMay0, oHas0, allTrue, sd, implies_true, IE.den, nm_, ge0, leN, nv, li, tT, Nat.reduceAdd]
 try (repeat' first | apply And.intro | intro _) <;> omega
theorem of_May0 : ∀ o ∈ cMay0.outs, ∀ ρ, o.post ρ → ∀ b ∈ o.fs, b.den ρ = true := by
 simp only [cMay0, fM, mel, oMay0, oHas0, allTrue, sd, implies_true, IE.den, nm_, ge0, leN, nv, li, tT, Nat.reduceAdd]
 try (repeat' first | apply And.intro | intro _) <;> omega
theorem nf_May0 (P : Program) : ∀ nd ∈ ndMay0 P, ∀ ρ, nd.inv ρ → ∀ b ∈ nd.fs, b.den ρ = true := by
 simp only [ndMay0, fM, mel, oMay0, oHas0, allTrue, sd, implies_true, IE.den, nm_, ge0, leN, nv, li, tT, Nat.reduceAdd]
 try (repeat' first | apply And.intro | intro _) <;> omega
theorem ok_May0 (mm : Bool) : cMay0.Ok Tryz.prog mm Γ0 :=
 con_by (X := Xt Tryz.prog) (cons := consMay0) (nds := ndMay0 Tryz.prog) (T0 := e_May0 Tryz.prog) (hkT_ok _) (fun d hd => by cases hd) (by kernel_rfl) (by kernel_rfl) rfl (by kernel_rfl) cf_May0 of_May0 (nf_May0 _) (by kernel_rfl) (fun ρ hv hΓ hl hp => v_May0 Tryz.prog ρ hv hΓ hl hp) trivial
theorem cf_Has0 : ∀ ρ, cHas0.pre ρ → ∀ b ∈ cHas0.fs, b.den ρ = true := by
 simp only [cHas0, fM, mel, oMay0, oHas0, allTrue, sd, implies_true, IE.den, nm_, ge0, leN, nv, li, tT, Nat.reduceAdd]
 try (repeat' first | apply And.intro | intro _) <;> omega
theorem of_Has0 : ∀ o ∈ cHas0.outs, ∀ ρ, o.post ρ → ∀ b ∈ o.fs, b.den ρ = true := by
 simp only [cHas0, fM, mel, oMay0, oHas0, allTrue, sd, implies_true, IE.den, nm_, ge0, leN, nv, li, tT, Nat.reduceAdd]
 try (repeat' first | apply And.intro | intro _) <;> omega
theorem nf_Has0 (P : Program) : ∀ nd ∈ ndHas0 P, ∀ ρ, nd.inv ρ → ∀ b ∈ nd.fs, b.den ρ = true := by
 simp only [ndHas0, fM, mel, oMay0, oHas0, allTrue, sd, implies_true, IE.den, nm_, ge0, leN, nv, li, tT, Nat.reduceAdd]
 try (repeat' first | apply And.intro | intro _) <;> omega
theorem ok_Has0 (mm : Bool) : cHas0.Ok Tryz.prog mm Γ0 :=
 con_by (X := Xt Tryz.prog) (cons := consHas0) (nds := ndHas0 Tryz.prog) (T0 := e_Has0 Tryz.prog) (hkT_ok _) (fun d hd => by cases hd) (by kernel_rfl) (by kernel_rfl) rfl (by kernel_rfl) cf_Has0 of_Has0 (nf_Has0 _) (by kernel_rfl) (fun ρ hv hΓ hl hp => v_Has0 Tryz.prog ρ hv hΓ hl hp) trivial
theorem cf_Cmp1 : ∀ ρ, cCmp1.pre ρ → ∀ b ∈ cCmp1.fs, b.den ρ = true := by
 simp only [cCmp1, fM, mel, oMay0, oHas0, allTrue, sd, implies_true, IE.den, nm_, ge0, leN, nv, li, tT, Nat.reduceAdd]
 try (repeat' first | apply And.intro | intro _) <;> omega
theorem of_Cmp1 : ∀ o ∈ cCmp1.outs, ∀ ρ, o.post ρ → ∀ b ∈ o.fs, b.den ρ = true := by
 simp only [cCmp1, fM, mel, oMay0, oHas0, allTrue, sd, implies_true, IE.den, nm_, ge0, leN, nv, li, tT, Nat.reduceAdd]
 try (repeat' first | apply And.intro | intro _) <;> omega
theorem nf_Cmp1 (P : Program) : ∀ nd ∈ ndCmp1 P, ∀ ρ, nd.inv ρ → ∀ b ∈ nd.fs, b.den ρ = true := by
 simp only [ndCmp1, fM, mel, oMay0, oHas0, allTrue, sd, implies_true, IE.den, nm_, ge0, leN, nv, li, tT, Nat.reduceAdd]
 try (repeat' first | apply And.intro | intro _) <;> omega
theorem ok_Cmp1 (mm : Bool) : cCmp1.Ok Tryz.prog mm Γ0 :=
 con_by (X := Xt Tryz.prog) (cons := consCmp1) (nds := ndCmp1 Tryz.prog) (T0 := e_Cmp1 Tryz.prog) (hkT_ok _) (fun d hd => by cases hd) (by kernel_rfl) (by kernel_rfl) rfl (by kernel_rfl) cf_Cmp1 of_Cmp1 (nf_Cmp1 _) (by kernel_rfl) (fun ρ hv hΓ hl hp => v_Cmp1 Tryz.prog ρ hv hΓ hl hp) trivial
theorem cf_Cmp : ∀ ρ, cCmp.pre ρ → ∀ b ∈ cCmp.fs, b.den ρ = true := by
 simp only [cCmp, fM, mel, oMay0, oHas0, allTrue, sd, implies_true, IE.den, nm_, ge0, leN, nv, li, tT, Nat.reduceAdd]
 try (repeat' first | apply And.intro | intro _) <;> omega
theorem of_Cmp : ∀ o ∈ cCmp.outs, ∀ ρ, o.post ρ → ∀ b ∈ o.fs, b.den ρ = true := by
 simp only [cCmp, fM, mel, oMay0, oHas0, allTrue, sd, implies_true, IE.den, nm_, ge0, leN, nv, li, tT, Nat.reduceAdd]
 try (repeat' first | apply And.intro | intro _) <;> omega
theorem nf_Cmp (P : Program) : ∀ nd ∈ ndCmp P, ∀ ρ, nd.inv ρ → ∀ b ∈ nd.fs, b.den ρ = true := by
 simp only [ndCmp, fM, mel, oMay0, oHas0, allTrue, sd, implies_true, IE.den, nm_, ge0, leN, nv, li, tT, Nat.reduceAdd]
 try (repeat' first | apply And.intro | intro _) <;> omega
theorem ok_Cmp (mm : Bool) : cCmp.Ok Tryz.prog mm Γ0 :=
 con_by (X := Xt Tryz.prog) (cons := consCmp) (nds := ndCmp Tryz.prog) (T0 := e_Cmp Tryz.prog) (hkT_ok _) (fun d hd => by
  rcases List.mem_cons.1 hd with rfl | hd
  ·exact ok_Cmp1 mm
  cases hd) (by kernel_rfl) (by kernel_rfl) rfl (by kernel_rfl) cf_Cmp of_Cmp (nf_Cmp _) (by kernel_rfl) (fun ρ hv hΓ hl hp => v_Cmp Tryz.prog ρ hv hΓ hl hp) trivial
end Ft
set_option linter.unusedVariables false
open Go Mv Mw Go.Proofs
namespace Ft
theorem ok_May (mm : Bool) : cMay.Ok Tryz.prog mm Γ0 :=
 (ok_May0 mm).split2 rfl rfl rfl rfl rfl rfl (fun ρ h e => by
  have e' : andI (nv ρ 17 0) (nv ρ 16 1) = 0 := of_decide_eq_true e
  have h' : andI (nv ρ 17 0) (nv ρ 16 0) = nv ρ 16 0 := h
  simp [mayA, h', e']) (fun ρ h e => by
  have e' : ¬ andI (nv ρ 17 0) (nv ρ 16 1) = 0 := of_decide_eq_false e
  simp [mayA, e']) fun ρ h => by
  have h' : ¬ andI (nv ρ 17 0) (nv ρ 16 0) = nv ρ 16 0 := h
  simp [mayA, h']
theorem ok_Has (mm : Bool) : cHas.Ok Tryz.prog mm Γ0 :=
 (ok_Has0 mm).split rfl rfl (fun ρ h e => e) fun ρ h e => e
end Ft
set_option linter.unusedVariables false
open Go Mv Mw
namespace Ft
def e_Stir (P : Program) : VT := (.branch (.var 0)
(.ret 0 [.keep 16, .keep 17, .keep 18, .ints [(.add (h0 82) (oN 1)), (.bits .xor .u64 (.wrap .u64 (.mul (.bits .xor .u64 (hN 82 1) (.add (h0 82) (oN 1))) (oN 10723151780598845931))) (.shr .u64 (.wrap .u64 (.mul (.bits .xor .u64 (hN 82 1) (.add (h0 82) (oN 1))) (oN 10723151780598845931))) (oN 31)))], .ints [(.shr .u64 (.bits .xor .u64 (.wrap .u64 (.mul (.bits .xor .u64 (.wrap .u64 (.mul (.bits .xor .u64 (hN 82 1) (.add (h0 82) (oN 1))) (oN 10723151780598845931))) (.shr .u64 (.wrap .u64 (.mul (.bits .xor .u64 (hN 82 1) (.add (h0 82) (oN 1))) (oN 10723151780598845931))) (oN 31))) (oN 15485907386658061715))) (.shr .u64 (.wrap .u64 (.mul (.bits .xor .u64 (.wrap .u64 (.mul (.bits .xor .u64 (hN 82 1) (.add (h0 82) (oN 1))) (oN 10723151780598845931))) (.shr .u64 (.wrap .u64 (.mul (.bits .xor .u64 (hN 82 1) (.add (h0 82) (oN 1))) (oN 10723151780598845931))) (oN 31))) (oN 15485907386658061715))) (oN 32))) (oN 9))]])
(.branch (.lt (h0 82) (.var 1))
(.need [(.le (oN 0) (.var 0))] (.need [(.le (oN 0) (.var 0)), (.lt (h0 82) (.len 0))] (.ret 0 [.keep 16, .keep 17, .keep 18, .ints [(.add (h0 82) (oN 1)), (.bits .xor .u64 (.wrap .u64 (.mul (.bits .xor .u64 (hN 82 1) (.bits .xor .u64 (.add (h0 82) (oN 1)) (.wrap .u64 (.mul (.wrap .u64 (.nth 0 (h0 82))) (oN 13787848793156543929))))) (oN 10723151780598845931))) (.shr .u64 (.wrap .u64 (.mul (.bits .xor .u64 (hN 82 1) (.bits .xor .u64 (.add (h0 82) (oN 1)) (.wrap .u64 (.mul (.wrap .u64 (.nth 0 (h0 82))) (oN 13787848793156543929))))) (oN 10723151780598845931))) (oN 31)))], .ints [(.shr .u64 (.bits .xor .u64 (.wrap .u64 (.mul (.bits .xor .u64 (.wrap .u64 (.mul (.bits .xor .u64 (hN 82 1) (.bits .xor .u64 (.add (h0 82) (oN 1)) (.wrap .u64 (.mul (.wrap .u64 (.nth 0 (h0 82))) (oN 13787848793156543929))))) (oN 10723151780598845931))) (.shr .u64 (.wrap .u64 (.mul (.bits .xor .u64 (hN 82 1) (.bits .xor .u64 (.add (h0 82) (oN 1)) (.wrap .u64 (.mul (.wrap .u64 (.nth 0 (h0 82))) (oN 13787848793156543929))))) (oN 10723151780598845931))) (oN 31))) (oN 15485907386658061715))) (.shr .u64 (.wrap .u64 (.mul (.bits .xor .u64 (.wrap .u64 (.mul (.bits .xor .u64 (hN 82 1) (.bits .xor .u64 (.add (h0 82) (oN 1)) (.wrap .u64 (.mul (.wrap .u64 (.nth 0 (h0 82))) (oN 13787848793156543929))))) (oN 10723151780598845931))) (.shr .u64 (.wrap .u64 (.mul (.bits .xor .u64 (hN 82 1) (.bits .xor .u64 (.add (h0 82) (oN 1)) (.wrap .u64 (.mul (.wrap .u64 (.nth 0 (h0 82))) (oN 13787848793156543929))))) (oN 10723151780598845931))) (oN 31))) (oN 15485907386658061715))) (oN 32))) (oN 9))]])))
(.ret 0 [.keep 16, .keep 17, .keep 18, .ints [(.add (h0 82) (oN 1)), (.bits .xor .u64 (.wrap .u64 (.mul (.bits .xor .u64 (hN 82 1) (.add (h0 82) (oN 1))) (oN 10723151780598845931))) (.shr .u64 (.wrap .u64 (.mul (.bits .xor .u64 (hN 82 1) (.add (h0 82) (oN 1))) (oN 10723151780598845931))) (oN 31)))], .ints [(.shr .u64 (.bits .xor .u64 (.wrap .u64 (.mul (.bits .xor .u64 (.wrap .u64 (.mul (.bits .xor .u64 (hN 82 1) (.add (h0 82) (oN 1))) (oN 10723151780598845931))) (.shr .u64 (.wrap .u64 (.mul (.bits .xor .u64 (hN 82 1) (.add (h0 82) (oN 1))) (oN 10723151780598845931))) (oN 31))) (oN 15485907386658061715))) (.shr .u64 (.wrap .u64 (.mul (.bits .xor .u64 (.wrap .u64 (.mul (.bits .xor .u64 (hN 82 1) (.add (h0 82) (oN 1))) (oN 10723151780598845931))) (.shr .u64 (.wrap .u64 (.mul (.bits .xor .u64 (hN 82 1) (.add (h0 82) (oN 1))) (oN 10723151780598845931))) (oN 31))) (oN 15485907386658061715))) (oN 32))) (oN 9))]])))
def e_To (P : Program) : VT := (.obl (oblC cStir [.keep 16, .keep 17, .ints [(h0 83), (hN 83 1)]]) (.new (.new (.asm (asmC (outAt cStir.outs 0) [.keep 16, .keep 17, .ints [(h0 83), (hN 83 1)], .keep 20, .keep 21]) (.branch (.lt (h0 82) (oN 1))
(.ret 0 [.keep 16, .keep 17, .keep 18, .keep 19, .ints [(h0 84), (hN 84 1)], .ints [(oN 0)]])
(.need [(.not (.eq (.wrap .u64 (.add (.wrap .u64 (h0 82)) (oN 1))) (oN 0)))] (.ret 0 [.keep 16, .keep 17, .keep 18, .keep 19, .ints [(h0 84), (hN 84 1)], .ints [(.wrap .i64 (.rem (h0 85) (.wrap .u64 (.add (.wrap .u64 (h0 82)) (oN 1)))))]])))))))
def e_Faults (P : Program) : VT := (.jump 0 [.keep 16, .keep 17, .keep 18, .keep 19, .ints [(oN 0), (oN 0)], .ints [(h0 83), (hN 83 1)]] (ndAt (ndFaults P) 0).items)
def n_Faults_0 (P : Program) : VT := (.branch (.lt (hN 84 1) (h0 82))
(.obl (oblC cTo [.keep 16, .keep 17, .ints [(oN 2)], .ints [(h0 85), (hN 85 1)]]) (.new (.new (.asm (asmC (outAt cTo.outs 0) [.keep 16, .keep 17, .ints [(oN 2)], .ints [(h0 85), (hN 85 1)], .keep 22, .keep 23]) (.branch (.eq (h0 87) (oN 0))
(.jump 0 [.keep 16, .keep 17, .keep 18, .keep 19, .ints [(.wrap .i64 (.add (h0 84) (.wrap .i64 (.shl .i64 (oN 1) (hN 84 1))))), (.add (hN 84 1) (oN 1))], .ints [(h0 86), (hN 86 1)]] (ndAt (ndFaults P) 0).items)
(.jump 0 [.keep 16, .keep 17, .keep 18, .keep 19, .ints [(h0 84), (.add (hN 84 1) (oN 1))], .ints [(h0 86), (hN 86 1)]] (ndAt (ndFaults P) 0).items))))))
(.ret 0 [.keep 16, .keep 17, .keep 18, .keep 19, .ints [(h0 85), (hN 85 1)], .ints [(h0 84)]]))
def e_Agent (P : Program) : VT := (.new (.obl (oblC cTo [.keep 16, .keep 17, .ints [(.sub (h0 82) (oN 1))], .ints [(h0 83), (hN 83 1)]]) (.new (.new (.asm (asmC (outAt cTo.outs 0) [.keep 16, .keep 17, .ints [(.sub (h0 82) (oN 1))], .ints [(h0 83), (hN 83 1)], .keep 21, .keep 22]) (.obl (oblC cFaults [.keep 16, .keep 17, .ints [(h0 82)], .ints [(h0 85), (hN 85 1)]]) (.new (.new (.asm (asmC (outAt cFaults.outs 0) [.keep 16, .keep 17, .ints [(h0 82)], .ints [(h0 85), (hN 85 1)], .keep 23, .keep 24]) (.obl (oblC cFaults [.keep 16, .keep 17, .ints [(h0 82)], .ints [(h0 87), (hN 87 1)]]) (.new (.new (.asm (asmC (outAt cFaults.outs 0) [.keep 16, .keep 17, .ints [(h0 82)], .ints [(h0 87), (hN 87 1)], .keep 25, .keep 26]) (.obl (oblC cTo [.keep 16, .keep 17, .ints [(oN 8)], .ints [(h0 89), (hN 89 1)]]) (.new (.new (.asm (asmC (outAt cTo.outs 0) [.keep 16, .keep 17, .ints [(oN 8)], .ints [(h0 89), (hN 89 1)], .keep 27, .keep 28]) (.new (.obl (oblC cFaults [.keep 16, .keep 17, .ints [(h0 82)], .ints [(h0 91), (hN 91 1)]]) (.new (.new (.asm (asmC (outAt cFaults.outs 0) [.keep 16, .keep 17, .ints [(h0 82)], .ints [(h0 91), (hN 91 1)], .keep 30, .keep 31]) (.obl (oblC cFaults [.keep 16, .keep 17, .ints [(h0 82)], .ints [(h0 94), (hN 94 1)]]) (.new (.new (.asm (asmC (outAt cFaults.outs 0) [.keep 16, .keep 17, .ints [(h0 82)], .ints [(h0 94), (hN 94 1)], .keep 32, .keep 33]) (.obl (oblC cTo [.keep 16, .keep 17, .ints [(oN 2)], .ints [(h0 96), (hN 96 1)]]) (.new (.new (.asm (asmC (outAt cTo.outs 0) [.keep 16, .keep 17, .ints [(oN 2)], .ints [(h0 96), (hN 96 1)], .keep 34, .keep 35]) (.branch (.not (.eq (h0 99) (oN 0)))
(.obl (oblC cTo [.keep 16, .keep 17, .ints [(.sub (h0 82) (oN 1))], .ints [(h0 98), (hN 98 1)]]) (.new (.new (.asm (asmC (outAt cTo.outs 0) [.keep 16, .keep 17, .ints [(.sub (h0 82) (oN 1))], .ints [(h0 98), (hN 98 1)], .keep 36, .keep 37]) (.obl (oblC cTo [.keep 16, .keep 17, .ints [(oN 2)], .ints [(h0 100), (hN 100 1)]]) (.new (.new (.asm (asmC (outAt cTo.outs 0) [.keep 16, .keep 17, .ints [(oN 2)], .ints [(h0 100), (hN 100 1)], .keep 38, .keep 39]) (.branch (.eq (h0 103) (oN 0))
(.obl (oblC cTo [.keep 16, .keep 17, .ints [(.sub (h0 82) (oN 1))], .ints [(h0 102), (hN 102 1)]]) (.new (.new (.asm (asmC (outAt cTo.outs 0) [.keep 16, .keep 17, .ints [(.sub (h0 82) (oN 1))], .ints [(h0 102), (hN 102 1)], .keep 40, .keep 41]) (.ret 0 [.keep 16, .keep 17, .keep 18, .keep 19, .ints [(h0 104), (hN 104 1)], .ints [(.wrap .i64 (.shl .i64 (oN 1) (h0 101))), (.bits .andNot .i64 (.wrap .i64 (.shl .i64 (oN 1) (h0 105))) (.wrap .i64 (.shl .i64 (oN 1) (h0 101)))), (.bits .or .i64 (.wrap .i64 (.shl .i64 (oN 1) (h0 86))) (.bits .and .i64 (h0 95) (h0 97))), (.bits .and .i64 (h0 88) (h0 90)), (.wrap .i64 (.add (oN 1) (h0 92)))]])))))
(.ret 0 [.keep 16, .keep 17, .keep 18, .keep 19, .ints [(h0 102), (hN 102 1)], .ints [(.wrap .i64 (.shl .i64 (oN 1) (h0 101))), (oN 0), (.bits .or .i64 (.wrap .i64 (.shl .i64 (oN 1) (h0 86))) (.bits .and .i64 (h0 95) (h0 97))), (.bits .and .i64 (h0 88) (h0 90)), (.wrap .i64 (.add (oN 1) (h0 92)))]]))))))))))
(.obl (oblC cTo [.keep 16, .keep 17, .ints [(oN 2)], .ints [(h0 98), (hN 98 1)]]) (.new (.new (.asm (asmC (outAt cTo.outs 0) [.keep 16, .keep 17, .ints [(oN 2)], .ints [(h0 98), (hN 98 1)], .keep 36, .keep 37]) (.branch (.eq (h0 101) (oN 0))
(.obl (oblC cTo [.keep 16, .keep 17, .ints [(.sub (h0 82) (oN 1))], .ints [(h0 100), (hN 100 1)]]) (.new (.new (.asm (asmC (outAt cTo.outs 0) [.keep 16, .keep 17, .ints [(.sub (h0 82) (oN 1))], .ints [(h0 100), (hN 100 1)], .keep 38, .keep 39]) (.ret 0 [.keep 16, .keep 17, .keep 18, .keep 19, .ints [(h0 102), (hN 102 1)], .ints [(oN 0), (.bits .andNot .i64 (.wrap .i64 (.shl .i64 (oN 1) (h0 103))) (oN 0)), (.bits .or .i64 (.wrap .i64 (.shl .i64 (oN 1) (h0 86))) (.bits .and .i64 (h0 95) (h0 97))), (.bits .and .i64 (h0 88) (h0 90)), (.wrap .i64 (.add (oN 1) (h0 92)))]])))))
(.ret 0 [.keep 16, .keep 17, .keep 18, .keep 19, .ints [(h0 100), (hN 100 1)], .ints [(oN 0), (oN 0), (.bits .or .i64 (.wrap .i64 (.shl .i64 (oN 1) (h0 86))) (.bits .and .i64 (h0 95) (h0 97))), (.bits .and .i64 (h0 88) (h0 90)), (.wrap .i64 (.add (oN 1) (h0 92)))]])))))))))))))))))))))))))))))))))))))
def e_Agents (P : Program) : VT := (.obl (oblC cTo [.keep 16, .keep 17, .ints [(.sub (h0 82) (oN 0))], .ints [(h0 83), (hN 83 1)]]) (.new (.new (.asm (asmC (outAt cTo.outs 0) [.keep 16, .keep 17, .ints [(.sub (h0 82) (oN 0))], .ints [(h0 83), (hN 83 1)], .keep 20, .keep 21]) (.jump 0 [.keep 16, .keep 17, .keep 18, .keep 19, .ints [(.wrap .i64 (h0 85))], .ints [(h0 84), (hN 84 1)]] (ndAt (ndAgents P) 0).items)))))
def n_Agents_0 (P : Program) : VT := (.branch (.lt (oN 0) (h0 84))
(.obl (oblC cAgent [.keep 16, .keep 17, .ints [(hN 82 1)], .ints [(h0 85), (hN 85 1)]]) (.new (.new (.asm (asmC (outAt cAgent.outs 0) [.keep 16, .keep 17, .ints [(hN 82 1)], .ints [(h0 85), (hN 85 1)], .keep 22, .keep 23]) (.new (.new (.jump 1 [.keep 16, .keep 17, .keep 18, .keep 19, .ints [(.sub (h0 84) (oN 1))], .ints [(h0 86), (hN 86 1)], .keep 25, .ints [(h0 87), (hN 87 1), (hN 87 2), (hN 87 3), (hN 87 4)]] (ndAt (ndAgents P) 1).items)))))))
(.ret 0 [.keep 16, .keep 17, .keep 18, .keep 19, .ints [(h0 85), (hN 85 1)]]))
def n_Agents_1 (P : Program) : VT := (.branch (.lt (oN 0) (h0 84))
(.obl (oblC cAgent [.keep 16, .keep 17, .ints [(hN 82 1)], .ints [(h0 85), (hN 85 1)]]) (.new (.new (.asm (asmC (outAt cAgent.outs 0) [.keep 16, .keep 17, .ints [(hN 82 1)], .ints [(h0 85), (hN 85 1)], .keep 24, .keep 25]) (.new (.need [(.eq (.mul (.quo (.len 87) (oN 5)) (oN 5)) (.len 87))] (.new (.asm (appAsm 27 (.whole 87) (.lits [(h0 89), (hN 89 1), (hN 89 2), (hN 89 3), (hN 89 4)])) (.new (.jump 1 [.keep 16, .keep 17, .keep 18, .keep 19, .ints [(.sub (h0 84) (oN 1))], .ints [(h0 88), (hN 88 1)], .keep 28, .lst 91] (ndAt (ndAgents P) 1).items))))))))))
(.ret 1 [.keep 16, .keep 17, .keep 18, .keep 19, .ints [(h0 85), (hN 85 1)], .keep 22, .lst 87]))
end Ft
set_option linter.unusedVariables false
set_option linter.unusedSimpArgs false
open Go Mv Mw
namespace Ft
theorem v_Stir (P : Program) (ρ : Env) (hv : vals ρ) (hΓ : Γ0.On ρ) (hl : ρ.k.length = 19) (hp : cStir.pre ρ) : VC cStir (ndStir P) none ρ (e_Stir P) := by
 simp only [VC, oblC, asmC, appAsm, outAt, ndAt, allTrue, ve, BE.den, LX.den, nv, li, rowP, tT, e_Stir, cStir] at hp ⊢
 simp only [envB_list_if, list_grow_if, bdList, len_grow, hl, int_envB, int_grow, bool_envB, bool_grow, List.getD_cons_zero, List.getD_cons_succ, List.map_cons, List.map_nil, Nat.reduceAdd, Nat.reduceSub, Nat.reduceLeDiff, Nat.reduceLT, Nat.reduceEqDiff, if_true, if_false, reduceIte, IE.den, oN_den, hN_den, h0_den, decide_eq_true_eq, decide_eq_false_iff_not, beq_iff_eq, beq_eq_false_iff_ne, ne_eq, Option.some.injEq, reduceCtorEq, forall_eq', true_and, false_implies, implies_true, and_true, natLit, bits64, bitsU64, Int.one_mul] at hp ⊢
 have nn2 : ∀ op x y (n : Nat), 0 ≤ (bitsOf op .u64 x y).fdiv (2 ^ n) := fun op x y n => fdiv_nn (bits_u64_nn _ _ _) (by
  have : ((2 : Int) ^ n) = ((2 ^ n : Nat) : Int) := by norm_cast
  rw [this]; exact Int.natCast_nonneg _)
 refine ⟨fun _ => nn2 _ _ _ _, fun _ => ⟨fun h => ⟨decide_eq_true hp.1.2, ⟨decide_eq_true hp.1.2, by omega⟩, nn2 _ _ _ _⟩, fun _ => nn2 _ _ _ _⟩⟩
theorem v_To (P : Program) (ρ : Env) (hv : vals ρ) (hΓ : Γ0.On ρ) (hl : ρ.k.length = 20) (hp : cTo.pre ρ) : VC cTo (ndTo P) none ρ (e_To P) := by
 simp only [VC, oblC, asmC, appAsm, outAt, ndAt, allTrue, ve, BE.den, LX.den, nv, li, rowP, tT, e_To, cTo, cStir] at hp ⊢
 simp only [envB_list_if, list_grow_if, bdList, len_grow, hl, int_envB, int_grow, bool_envB, bool_grow, List.getD_cons_zero, List.getD_cons_succ, List.map_cons, List.map_nil, Nat.reduceAdd, Nat.reduceSub, Nat.reduceLeDiff, Nat.reduceLT, Nat.reduceEqDiff, if_true, if_false, reduceIte, IE.den, oN_den, hN_den, h0_den, decide_eq_true_eq, decide_eq_false_iff_not, beq_iff_eq, beq_eq_false_iff_ne, ne_eq, Option.some.injEq, reduceCtorEq, forall_eq', true_and, false_implies, implies_true, and_true, natLit, bits64, bitsU64, Int.one_mul] at hp ⊢
 obtain ⟨p1, p2, p3, p4, p5⟩ := hp
 refine ⟨⟨p1, p2, p3⟩, fun b r b' r' ⟨q1, q2⟩ => ⟨fun h => ⟨q1, by omega, p5⟩, fun h => ?_⟩⟩
 have w1 : IntKind.u64.wrap ((ρ.list 82).getD 0 0) = (ρ.list 82).getD 0 0 := wrapu64_fit (by omega) (by omega)
 have w2 : IntKind.u64.wrap ((ρ.list 82).getD 0 0 + 1) = (ρ.list 82).getD 0 0 + 1 := wrapu64_fit (by omega) (by omega)
 rw [w1, w2]
 have hr := tmod_rng (x := (List.map intOf r').getD 0 0) (m := (ρ.list 82).getD 0 0 + 1) q2 (by omega)
 rw [wrap64_fit (by omega) (by omega)]
 refine ⟨?_, q1, hr.1, by omega⟩
 simp only [Bool.not_eq_true', beq_eq_false_iff_ne]
 omega
end Ft
set_option linter.unusedVariables false
set_option linter.unusedSimpArgs false
open Go Mv Mw
namespace Ft
theorem v_Faults (P : Program) (ρ : Env) (hv : vals ρ) (hΓ : Γ0.On ρ) (hl : ρ.k.length = 20) (hp : cFaults.pre ρ) : VC cFaults (ndFaults P) none ρ (e_Faults P) := by
 simp only [VC, oblC, asmC, appAsm, outAt, ndAt, allTrue, ve, BE.den, LX.den, nv, li, rowP, tT, e_Faults, ndFaults, cFaults] at hp ⊢
 simp only [vb, bdList, hl, IE.den, forall_eq', implies_true, reduceIte, reduceCtorEq, Nat.reduceAdd, Nat.reduceSub, Nat.reduceLeDiff, Nat.reduceLT, Nat.reduceEqDiff] at hp ⊢
 obtain ⟨p1, p2, p3, p4, p5⟩ := hp
 exact ⟨p1, by omega, by omega, by omega, p5, by decide, by omega, p2, p3⟩
theorem pow_step {i n : Int} (h0 : 0 ≤ i) (h1 : i ≤ 6) (hn : 0 ≤ n) (hn' : n < 2 ^ i.toNat) : IntKind.i64.wrap (n + IntKind.i64.wrap ((2 : Int) ^ (Nat.min i.toNat 64))) = n + 2 ^ i.toNat ∧ 0 ≤ n + 2 ^ i.toNat ∧ n + 2 ^ i.toNat < 2 ^ (i + 1).toNat ∧ n < 2 ^ (i + 1).toNat := by
 rw [(shl_one h0 (by omega)).2]
 have e : (i + 1).toNat = i.toNat + 1 := by omega
 have h := Nat.pow_le_pow_right (n := 2) (by decide) (show i.toNat ≤ 6 by omega)
 have e2 : ((2 : Int) ^ i.toNat) = ((2 ^ i.toNat : Nat) : Int) := by norm_cast
 rw [e, Int.pow_succ]
 rw [e2] at hn' ⊢
 generalize 2 ^ i.toNat = N at *
 rw [wrap64_fit (by omega) (by omega)]
 omega
theorem v_Faults_0 (P : Program) (ρ : Env) (hv : vals ρ) (hΓ : Γ0.On ρ) (hl : ρ.k.length = 22) (hp : (ndAt (ndFaults P) 0).inv ρ) : VC cFaults (ndFaults P) (some ((ndAt (ndFaults P) 0).mu ρ)) ρ (n_Faults_0 P) := by
 simp only [VC, oblC, asmC, appAsm, outAt, ndAt, allTrue, ve, BE.den, LX.den, nv, li, rowP, tT, n_Faults_0, ndFaults, cFaults, cTo] at hp ⊢
 simp only [vb, bdList, hl, IE.den, forall_eq', implies_true, reduceIte, reduceCtorEq, Nat.reduceAdd, Nat.reduceSub, Nat.reduceLeDiff, Nat.reduceLT, Nat.reduceEqDiff] at hp ⊢
 obtain ⟨p1, p2, p3, p4, p5, p6, p7, p8, p9⟩ := hp
 refine ⟨fun hlt => ⟨⟨p1, by omega, by omega, by omega, by omega⟩, fun b r b' r' ⟨q1, q2, q3⟩ => ?_⟩, fun hge => ⟨by omega, by omega, p2, ?_, p5⟩⟩
 ·obtain ⟨s1, s2, s3, s4⟩ := pow_step p3 (by omega) p2 p6
  exact ⟨fun _ => ⟨⟨p1, by exact s1 ▸ s2, by omega, by omega, p5, by exact s1 ▸ s3, by omega, p8, p9⟩, by omega⟩, fun _ => ⟨⟨p1, p2, by omega, by omega, p5, s4, by omega, p8, p9⟩, by omega⟩⟩
 ·rw [show (ρ.list 82).getD 0 0 = (ρ.list 84).getD 1 0 by omega]; exact p6
theorem v_Agent (P : Program) (ρ : Env) (hv : vals ρ) (hΓ : Γ0.On ρ) (hl : ρ.k.length = 20) (hp : cAgent.pre ρ) : VC cAgent (ndAgent P) none ρ (e_Agent P) := by
 simp only [VC, oblC, asmC, appAsm, outAt, ndAt, allTrue, ve, BE.den, LX.den, nv, li, rowP, tT, e_Agent, ndAgent, cAgent, cTo, cFaults, agV, andI] at hp ⊢
 simp only [vb, bdList, hl, IE.den, forall_eq', implies_true, reduceIte, reduceCtorEq, Nat.reduceAdd, Nat.reduceSub, Nat.reduceLeDiff, Nat.reduceLT, Nat.reduceEqDiff] at hp ⊢
 obtain ⟨p1, p2, p3, p4, p5⟩ := hp
 have S : ∀ x : Int, 0 ≤ x → x ≤ (ρ.list 82).getD 0 0 - 1 → 0 ≤ IntKind.i64.wrap ((2 : Int) ^ (Nat.min x.toNat 64)) ∧ IntKind.i64.wrap ((2 : Int) ^ (Nat.min x.toNat 64)) < 2 ^ ((ρ.list 82).getD 0 0).toNat := fun x h0 h1 => shl_rng h0 h1 (by omega)
 have hk : ((ρ.list 82).getD 0 0).toNat ≤ 61 := by omega
 have W6 : ∀ x : Int, x < 2 ^ ((ρ.list 82).getD 0 0).toNat → x < 2 ^ 61 := fun x => pow_lt61 (by omega) (by omega)
 have Z : (0 : Int) < 2 ^ ((ρ.list 82).getD 0 0).toNat := pow_pos_
 intro _ _
 refine ⟨⟨p1, by omega, by omega, by omega, by omega⟩, ?_⟩
 rintro _ r1 _ x1 ⟨a1, a2, a3⟩
 generalize (List.map intOf r1).getD 0 0 = t1 at *
 generalize (List.map intOf x1).getD 0 0 = y1 at *
 refine ⟨⟨p1, by omega, by omega, by omega, by omega⟩, ?_⟩
 rintro _ r2 _ x2 ⟨b1, b2, b3, b4, _⟩
 generalize (List.map intOf r2).getD 0 0 = t2 at *
 generalize (List.map intOf x2).getD 0 0 = y2 at *
 refine ⟨⟨p1, by omega, by omega, by omega, by omega⟩, ?_⟩
 rintro _ r3 _ x3 ⟨c1, c2, c3, c4, _⟩
 generalize (List.map intOf r3).getD 0 0 = t3 at *
 generalize (List.map intOf x3).getD 0 0 = y3 at *
 refine ⟨⟨p1, by omega, by omega, by omega, by omega⟩, ?_⟩
 rintro _ r4 _ x4 ⟨d1, d2, d3⟩
 generalize (List.map intOf r4).getD 0 0 = t4 at *
 generalize (List.map intOf x4).getD 0 0 = y4 at *
 intro _ _
 refine ⟨⟨p1, by omega, by omega, by omega, by omega⟩, ?_⟩
 rintro _ r5 _ x5 ⟨e1, e2, e3, e4, _⟩
 generalize (List.map intOf r5).getD 0 0 = t5 at *
 generalize (List.map intOf x5).getD 0 0 = y5 at *
 refine ⟨⟨p1, by omega, by omega, by omega, by omega⟩, ?_⟩
 rintro _ r6 _ x6 ⟨f1, f2, f3, f4, _⟩
 generalize (List.map intOf r6).getD 0 0 = t6 at *
 generalize (List.map intOf x6).getD 0 0 = y6 at *
 have k1 := S y1 a2 (by omega)
 have k2 := and_rng hk b3 b4 c3 c4
 have k3 := and_rng hk e3 e4 f3 f4
 have k4 := or_rng hk k1.1 k1.2 k3.1 k3.2
 have k5 : IntKind.i64.wrap (1 + y4) = 1 + y4 := wrap64_fit (by omega) (by omega)
 rw [k5]
 refine ⟨⟨p1, by omega, by omega, by omega, by omega⟩, ?_⟩
 rintro _ r7 _ x7 ⟨g1, g2, g3⟩
 generalize (List.map intOf r7).getD 0 0 = t7 at *
 generalize (List.map intOf x7).getD 0 0 = y7 at *
 refine ⟨fun _ => ⟨⟨p1, by omega, by omega, by omega, by omega⟩, ?_⟩, fun _ => ⟨⟨p1, by omega, by omega, by omega, by omega⟩, ?_⟩⟩
 ·rintro _ r8 _ x8 ⟨i1, i2, i3⟩
  generalize (List.map intOf r8).getD 0 0 = t8 at *
  generalize (List.map intOf x8).getD 0 0 = y8 at *
  have k6 := S y8 i2 (by omega)
  refine ⟨⟨p1, by omega, by omega, by omega, by omega⟩, ?_⟩
  rintro _ r9 _ x9 ⟨j1, j2, j3⟩
  generalize (List.map intOf r9).getD 0 0 = t9 at *
  generalize (List.map intOf x9).getD 0 0 = y9 at *
  refine ⟨fun _ => ⟨⟨p1, by omega, by omega, by omega, by omega⟩, ?_⟩, fun _ => ⟨by omega, by omega, k6, ⟨Int.le_refl 0, Z⟩, k4, k2, by omega, by omega, and_zero_r k6.1 (W6 _ k6.2)⟩⟩
  rintro _ ra _ xa ⟨l1, l2, l3⟩
  have k7 := S _ l2 (by omega)
  exact ⟨by omega, by omega, k6, andNot_rng hk k7.1 k7.2 k6.1 k6.2, k4, k2, by omega, by omega, and_andNot k7.1 (W6 _ k7.2) k6.1 (W6 _ k6.2)⟩
 ·rintro _ r9 _ x9 ⟨j1, j2, j3⟩
  generalize (List.map intOf r9).getD 0 0 = t9 at *
  generalize (List.map intOf x9).getD 0 0 = y9 at *
  refine ⟨fun _ => ⟨⟨p1, by omega, by omega, by omega, by omega⟩, ?_⟩, fun _ => ⟨by omega, by omega, ⟨Int.le_refl 0, Z⟩, ⟨Int.le_refl 0, Z⟩, k4, k2, by omega, by omega, and_zero_r (Int.le_refl 0) (W6 0 Z)⟩⟩
  rintro _ ra _ xa ⟨l1, l2, l3⟩
  have k7 := S _ l2 (by omega)
  have k8 := andNot_rng hk k7.1 k7.2 (Int.le_refl 0) Z
  exact ⟨by omega, by omega, ⟨Int.le_refl 0, Z⟩, k8, k4, k2, by omega, by omega, and_zero_l k8.1 (W6 _ k8.2)⟩
end Ft
set_option linter.unusedVariables false
set_option linter.unusedSimpArgs false
open Go Mv Mw
namespace Ft
theorem agV_five {f : Nat} {M : List Int} (h : agV f M 0) {L : List Int} (h0 : L.getD 0 0 = M.getD 0 0) (h1 : L.getD 1 0 = M.getD 1 0) (h2 : L.getD 2 0 = M.getD 2 0) (h3 : L.getD 3 0 = M.getD 3 0) (h4 : L.getD 4 0 = M.getD 4 0) : agV f L 0 := by
 unfold agV at h ⊢
 simpa only [Nat.mul_zero, Nat.zero_add, h0, h1, h2, h3, h4] using h
theorem agV_app {f c : Nat} {L M : List Int} (hL : L.length = 5 * c) (h : ∀ i, i < c → agV f L i) (hM : agV f M 0) : ∀ i, i < c + 1 → agV f (L ++ M) i := by
 intro i hi
 by_cases hc : i < c
 ·have h := h i hc
  unfold agV at h ⊢
  simp only [getD_app, hL, show 5 * i < 5 * c by omega, show 5 * i + 1 < 5 * c by omega, show 5 * i + 2 < 5 * c by omega, show 5 * i + 3 < 5 * c by omega, show 5 * i + 4 < 5 * c by omega, if_true]
  exact h
 ·have e : i = c := by omega
  subst e
  unfold agV at hM ⊢
  simp only [getD_app, hL, show ¬ (5 * i < 5 * i) by omega, show ¬ (5 * i + 1 < 5 * i) by omega, show ¬ (5 * i + 2 < 5 * i) by omega, show ¬ (5 * i + 3 < 5 * i) by omega, show ¬ (5 * i + 4 < 5 * i) by omega, if_false, Nat.sub_self, Nat.add_sub_cancel_left]
  simpa only [Nat.mul_zero, Nat.zero_add] using hM
theorem v_Agents (P : Program) (ρ : Env) (hv : vals ρ) (hΓ : Γ0.On ρ) (hl : ρ.k.length = 20) (hp : cAgents.pre ρ) : VC cAgents (ndAgents P) none ρ (e_Agents P) := by
 simp only [VC, oblC, asmC, appAsm, outAt, ndAt, allTrue, ve, BE.den, LX.den, nv, li, rowP, tT, e_Agents, ndAgents, cAgents, cTo] at hp ⊢
 simp only [vb, bdList, hl, IE.den, forall_eq', implies_true, reduceIte, reduceCtorEq, Nat.reduceAdd, Nat.reduceSub, Nat.reduceLeDiff, Nat.reduceLT, Nat.reduceEqDiff] at hp ⊢
 obtain ⟨p1, p2, p3, p4, p5, p6, p7⟩ := hp
 refine ⟨⟨p1, p2, by omega, by omega, by omega⟩, ?_⟩
 rintro _ r _ x ⟨a1, a2, a3⟩
 rw [wrap64_fit (by omega) (by omega)]
 exact ⟨p1, a2, by omega, p7, p4, p5, by omega, by omega, p2, p3⟩
theorem v_Agents_0 (P : Program) (ρ : Env) (hv : vals ρ) (hΓ : Γ0.On ρ) (hl : ρ.k.length = 22) (hp : (ndAt (ndAgents P) 0).inv ρ) : VC cAgents (ndAgents P) (some ((ndAt (ndAgents P) 0).mu ρ)) ρ (n_Agents_0 P) := by
 simp only [VC, oblC, asmC, appAsm, outAt, ndAt, allTrue, ve, BE.den, LX.den, nv, li, rowP, tT, n_Agents_0, ndAgents, cAgents, cAgent] at hp ⊢
 simp only [vb, bdList, hl, IE.den, forall_eq', implies_true, reduceIte, reduceCtorEq, Nat.reduceAdd, Nat.reduceSub, Nat.reduceLeDiff, Nat.reduceLT, Nat.reduceEqDiff] at hp ⊢
 obtain ⟨p1, p2, p3, p4, p5, p6, p7, p8, p9, p10⟩ := hp
 refine ⟨fun h => ⟨⟨p1, by omega, by omega, p5, p6⟩, ?_⟩, fun h => ⟨p7, by omega⟩⟩
 rintro _ r _ x ⟨a1, a2, a3⟩ _ _ _ _
 refine ⟨⟨p1, by omega, p4, p5, p6, by omega, p9, p10, 1, Nat.le_refl 1, by omega, by omega, rfl, fun i hi => ?_⟩, by omega⟩
 have e : i = 0 := by omega
 subst e
 exact agV_five a3 rfl rfl rfl rfl rfl
theorem v_Agents_1 (P : Program) (ρ : Env) (hv : vals ρ) (hΓ : Γ0.On ρ) (hl : ρ.k.length = 24) (hp : (ndAt (ndAgents P) 1).inv ρ) : VC cAgents (ndAgents P) (some ((ndAt (ndAgents P) 1).mu ρ)) ρ (n_Agents_1 P) := by
 simp only [VC, oblC, asmC, appAsm, outAt, ndAt, allTrue, ve, BE.den, LX.den, nv, li, rowP, tT, n_Agents_1, ndAgents, cAgents, cAgent] at hp ⊢
 simp only [vb, bdList, hl, IE.den, forall_eq', implies_true, reduceIte, reduceCtorEq, Nat.reduceAdd, Nat.reduceSub, Nat.reduceLeDiff, Nat.reduceLT, Nat.reduceEqDiff] at hp ⊢
 obtain ⟨p1, p2, p4, p5, p6, p7, p9, p10, c, c1, c2, c3, c4, c5⟩ := hp
 refine ⟨fun h => ⟨⟨p1, by omega, by omega, p5, p6⟩, ?_⟩, fun h => ⟨p7, by omega, c, c1, by omega, p4, c4, c5⟩⟩
 rintro _ r _ x ⟨a1, a2, a3⟩ _ _
 refine ⟨by rw [len_tdiv c4]; omega, ?_⟩
 intro _ y hy _ _
 refine ⟨⟨p1, by omega, p4, p5, p6, by omega, p9, p10, c + 1, by omega, by omega, by omega, ?_, ?_⟩, by omega⟩
 ·rw [hy, List.length_append, c4]; simp only [List.length_cons, List.length_nil]; omega
 ·rw [hy]; exact agV_app c4 c5 (agV_five a3 rfl rfl rfl rfl rfl)
end Ft
set_option linter.unusedVariables false
set_option linter.unusedSimpArgs false
open Go Mv Mw Go.Proofs
namespace Ft
theorem cf_Stir : ∀ ρ, cStir.pre ρ → ∀ b ∈ cStir.fs, b.den ρ = true := by
 simp only [cStir, allTrue, sd, implies_true, IE.den, nm_, ge0, leN, nv, li, tT, Nat.reduceAdd]
 try (repeat' first | apply And.intro | intro _) <;> omega
theorem of_Stir : ∀ o ∈ cStir.outs, ∀ ρ, o.post ρ → ∀ b ∈ o.fs, b.den ρ = true := by
 simp only [cStir, allTrue, sd, implies_true, IE.den, nm_, ge0, leN, nv, li, tT, Nat.reduceAdd]
 try (repeat' first | apply And.intro | intro _) <;> omega
theorem nf_Stir (P : Program) : ∀ nd ∈ ndStir P, ∀ ρ, nd.inv ρ → ∀ b ∈ nd.fs, b.den ρ = true := by
 simp only [ndStir, allTrue, sd, implies_true, IE.den, nm_, ge0, leN, nv, li, tT, Nat.reduceAdd]
 try (repeat' first | apply And.intro | intro _) <;> omega
theorem ok_Stir (mm : Bool) : cStir.Ok Tryz.prog mm Γ0 :=
 con_by (X := Xf Tryz.prog) (cons := consStir) (nds := ndStir Tryz.prog) (T0 := e_Stir Tryz.prog) (hk_ok _) (fun d hd => by cases hd) (by kernel_rfl) (by kernel_rfl) rfl (by kernel_rfl) cf_Stir of_Stir (nf_Stir _) (by kernel_rfl) (fun ρ hv hΓ hl hp => v_Stir Tryz.prog ρ hv hΓ hl hp) trivial
theorem cf_To : ∀ ρ, cTo.pre ρ → ∀ b ∈ cTo.fs, b.den ρ = true := by
 simp only [cTo, allTrue, sd, implies_true, IE.den, nm_, ge0, leN, nv, li, tT, Nat.reduceAdd]
 try (repeat' first | apply And.intro | intro _) <;> omega
theorem of_To : ∀ o ∈ cTo.outs, ∀ ρ, o.post ρ → ∀ b ∈ o.fs, b.den ρ = true := by
 simp only [cTo, allTrue, sd, implies_true, IE.den, nm_, ge0, leN, nv, li, tT, Nat.reduceAdd]
 try (repeat' first | apply And.intro | intro _) <;> omega
theorem nf_To (P : Program) : ∀ nd ∈ ndTo P, ∀ ρ, nd.inv ρ → ∀ b ∈ nd.fs, b.den ρ = true := by
 simp only [ndTo, allTrue, sd, implies_true, IE.den, nm_, ge0, leN, nv, li, tT, Nat.reduceAdd]
 try (repeat' first | apply And.intro | intro _) <;> omega
theorem ok_To (mm : Bool) : cTo.Ok Tryz.prog mm Γ0 :=
 con_by (X := Xf Tryz.prog) (cons := consTo) (nds := ndTo Tryz.prog) (T0 := e_To Tryz.prog) (hk_ok _) (fun d hd => by
  rcases List.mem_cons.1 hd with rfl | hd
  ·exact ok_Stir mm
  cases hd) (by kernel_rfl) (by kernel_rfl) rfl (by kernel_rfl) cf_To of_To (nf_To _) (by kernel_rfl) (fun ρ hv hΓ hl hp => v_To Tryz.prog ρ hv hΓ hl hp) trivial
theorem cf_Faults : ∀ ρ, cFaults.pre ρ → ∀ b ∈ cFaults.fs, b.den ρ = true := by
 simp only [cFaults, allTrue, sd, implies_true, IE.den, nm_, ge0, leN, nv, li, tT, Nat.reduceAdd]
 try (repeat' first | apply And.intro | intro _) <;> omega
theorem of_Faults : ∀ o ∈ cFaults.outs, ∀ ρ, o.post ρ → ∀ b ∈ o.fs, b.den ρ = true := by
 simp only [cFaults, allTrue, sd, implies_true, IE.den, nm_, ge0, leN, nv, li, tT, Nat.reduceAdd]
 try intro ρ hp; exact ⟨by omega, pow_le63 hp.2.2.2.1 hp.2.2.2.2⟩
theorem nf_Faults (P : Program) : ∀ nd ∈ ndFaults P, ∀ ρ, nd.inv ρ → ∀ b ∈ nd.fs, b.den ρ = true := by
 simp only [ndFaults, allTrue, sd, implies_true, IE.den, nm_, ge0, leN, nv, li, tT, Nat.reduceAdd]
 try intro ρ hp; exact ⟨by omega, pow_le63 hp.2.2.2.2.2.1 (by omega), by omega, by omega, by omega, by omega⟩
theorem ok_Faults (mm : Bool) : cFaults.Ok Tryz.prog mm Γ0 :=
 con_by (X := Xf Tryz.prog) (cons := consFaults) (nds := ndFaults Tryz.prog) (T0 := e_Faults Tryz.prog) (hk_ok _) (fun d hd => by
  rcases List.mem_cons.1 hd with rfl | hd
  ·exact ok_To mm
  cases hd) (by kernel_rfl) (by kernel_rfl) rfl (by kernel_rfl) cf_Faults of_Faults (nf_Faults _) (by kernel_rfl) (fun ρ hv hΓ hl hp => v_Faults Tryz.prog ρ hv hΓ hl hp) ⟨⟨n_Faults_0 Tryz.prog, by kernel_rfl, fun ρ hv hΓ hl hi => v_Faults_0 Tryz.prog ρ hv hΓ hl hi⟩, trivial⟩
theorem cf_Agent : ∀ ρ, cAgent.pre ρ → ∀ b ∈ cAgent.fs, b.den ρ = true := by
 simp only [cAgent, allTrue, sd, implies_true, IE.den, nm_, ge0, leN, nv, li, tT, Nat.reduceAdd]
 try (repeat' first | apply And.intro | intro _) <;> omega
theorem of_Agent : ∀ o ∈ cAgent.outs, ∀ ρ, o.post ρ → ∀ b ∈ o.fs, b.den ρ = true := by
 simp only [cAgent, allTrue, sd, implies_true, IE.den, nm_, ge0, leN, nv, li, tT, Nat.reduceAdd]
 try (repeat' first | apply And.intro | intro _) <;> omega
theorem nf_Agent (P : Program) : ∀ nd ∈ ndAgent P, ∀ ρ, nd.inv ρ → ∀ b ∈ nd.fs, b.den ρ = true := by
 simp only [ndAgent, allTrue, sd, implies_true, IE.den, nm_, ge0, leN, nv, li, tT, Nat.reduceAdd]
 try (repeat' first | apply And.intro | intro _) <;> omega
theorem ok_Agent (mm : Bool) : cAgent.Ok Tryz.prog mm Γ0 :=
 con_by (X := Xf Tryz.prog) (cons := consAgent) (nds := ndAgent Tryz.prog) (T0 := e_Agent Tryz.prog) (hk_ok _) (fun d hd => by
  rcases List.mem_cons.1 hd with rfl | hd
  ·exact ok_To mm
  rcases List.mem_cons.1 hd with rfl | hd
  ·exact ok_Faults mm
  cases hd) (by kernel_rfl) (by kernel_rfl) rfl (by kernel_rfl) cf_Agent of_Agent (nf_Agent _) (by kernel_rfl) (fun ρ hv hΓ hl hp => v_Agent Tryz.prog ρ hv hΓ hl hp) trivial
theorem cf_Agents : ∀ ρ, cAgents.pre ρ → ∀ b ∈ cAgents.fs, b.den ρ = true := by
 simp only [cAgents, allTrue, sd, implies_true, IE.den, nm_, ge0, leN, nv, li, tT, Nat.reduceAdd]
 try (repeat' first | apply And.intro | intro _) <;> omega
theorem of_Agents : ∀ o ∈ cAgents.outs, ∀ ρ, o.post ρ → ∀ b ∈ o.fs, b.den ρ = true := by
 simp only [cAgents, allTrue, sd, implies_true, IE.den, nm_, ge0, leN, nv, li, tT, Nat.reduceAdd]
 try rintro ρ ⟨h1, h2, c, h3, h4, h5, h6, h7⟩; exact ⟨by omega, by omega⟩
theorem nf_Agents (P : Program) : ∀ nd ∈ ndAgents P, ∀ ρ, nd.inv ρ → ∀ b ∈ nd.fs, b.den ρ = true := by
 simp only [ndAgents, allTrue, sd, implies_true, IE.den, nm_, ge0, leN, nv, li, tT, Nat.reduceAdd]
 try refine ⟨by intros; (repeat' apply And.intro) <;> omega, ?_⟩; rintro ρ ⟨h1, h2, h3, h4, h5, h6, h7, h8, c, c1, c2, c3, c4, c5⟩; (repeat' apply And.intro) <;> omega
theorem ok_Agents (mm : Bool) : cAgents.Ok Tryz.prog mm Γ0 :=
 con_by (X := Xf Tryz.prog) (cons := consAgents) (nds := ndAgents Tryz.prog) (T0 := e_Agents Tryz.prog) (hk_ok _) (fun d hd => by
  rcases List.mem_cons.1 hd with rfl | hd
  ·exact ok_To mm
  rcases List.mem_cons.1 hd with rfl | hd
  ·exact ok_Agent mm
  cases hd) (by kernel_rfl) (by kernel_rfl) rfl (by kernel_rfl) cf_Agents of_Agents (nf_Agents _) (by kernel_rfl) (fun ρ hv hΓ hl hp => v_Agents Tryz.prog ρ hv hΓ hl hp) ⟨⟨n_Agents_0 Tryz.prog, by kernel_rfl, fun ρ hv hΓ hl hi => v_Agents_0 Tryz.prog ρ hv hΓ hl hi⟩, ⟨⟨n_Agents_1 Tryz.prog, by kernel_rfl, fun ρ hv hΓ hl hi => v_Agents_1 Tryz.prog ρ hv hΓ hl hi⟩, trivial⟩⟩
end Ft
set_option linter.unusedVariables false
set_option linter.unusedSimpArgs false
open Go Mv Mw Go.Proofs
namespace Ft
theorem cf_ChkAg : ∀ ρ, cChkAg.pre ρ → ∀ b ∈ cChkAg.fs, b.den ρ = true := by
 simp only [cChkAg, pA, fA, agsV, allTrue, sd, implies_true, IE.den, nm_, ge0, leN, nv, li, tT, Nat.reduceAdd]
 try rintro ρ ⟨-, -, -, -, h1, h2, -⟩; exact ⟨h1, h2⟩
theorem of_ChkAg : ∀ o ∈ cChkAg.outs, ∀ ρ, o.post ρ → ∀ b ∈ o.fs, b.den ρ = true := by
 simp only [cChkAg, pA, fA, agsV, allTrue, sd, implies_true, IE.den, nm_, ge0, leN, nv, li, tT, Nat.reduceAdd]
 try (repeat' first | apply And.intro | intro _) <;> omega
theorem nf_ChkAg (P : Program) : ∀ nd ∈ ndChkAg P, ∀ ρ, nd.inv ρ → ∀ b ∈ nd.fs, b.den ρ = true := by
 simp only [ndChkAg, pA, fA, agsV, allTrue, sd, implies_true, IE.den, nm_, ge0, leN, nv, li, tT, Nat.reduceAdd]
 try (repeat' first | apply And.intro | intro _) <;> omega
theorem ok_ChkAg (mm : Bool) : cChkAg.Ok Tryz.prog mm Γ0 :=
 con_by (X := Xf Tryz.prog) (cons := consChkAg) (nds := ndChkAg Tryz.prog) (T0 := e_ChkAg Tryz.prog) (hk_ok _) (fun d hd => by cases hd) (by kernel_rfl) (by kernel_rfl) rfl (by kernel_rfl) cf_ChkAg of_ChkAg (nf_ChkAg _) (by kernel_rfl) (fun ρ hv hΓ hl hp => v_ChkAg Tryz.prog ρ hv hΓ hl hp) trivial
theorem cf_Check : ∀ ρ, cCheck.pre ρ → ∀ b ∈ cCheck.fs, b.den ρ = true := by
 simp only [cCheck, pA, fA, agsV, allTrue, sd, implies_true, IE.den, nm_, ge0, leN, nv, li, tT, Nat.reduceAdd]
 try (repeat' first | apply And.intro | intro _) <;> omega
theorem of_Check : ∀ o ∈ cCheck.outs, ∀ ρ, o.post ρ → ∀ b ∈ o.fs, b.den ρ = true := by
 simp only [cCheck, pA, fA, agsV, allTrue, sd, implies_true, IE.den, nm_, ge0, leN, nv, li, tT, Nat.reduceAdd]
 try (repeat' first | apply And.intro | intro _) <;> omega
theorem nf_Check (P : Program) : ∀ nd ∈ ndCheck P, ∀ ρ, nd.inv ρ → ∀ b ∈ nd.fs, b.den ρ = true := by
 simp only [ndCheck, pA, fA, agsV, allTrue, sd, implies_true, IE.den, nm_, ge0, leN, nv, li, tT, Nat.reduceAdd]
 try (repeat' first | apply And.intro | intro _) <;> omega
theorem ok_Check (mm : Bool) : cCheck.Ok Tryz.prog mm Γ0 :=
 con_by (X := Xf Tryz.prog) (cons := consCheck) (nds := ndCheck Tryz.prog) (T0 := e_Check Tryz.prog) (hk_ok _) (fun d hd => by
  rcases List.mem_cons.1 hd with rfl | hd
  ·exact ok_ChkAg mm
  cases hd) (by kernel_rfl) (by kernel_rfl) rfl (by kernel_rfl) cf_Check of_Check (nf_Check _) (by kernel_rfl) (fun ρ hv hΓ hl hp => v_Check Tryz.prog ρ hv hΓ hl hp) ⟨⟨n_Check_0 Tryz.prog, by kernel_rfl, fun ρ hv hΓ hl hi => v_Check_0 Tryz.prog ρ hv hΓ hl hi⟩, trivial⟩
theorem cf_At1 : ∀ ρ, cAt1.pre ρ → ∀ b ∈ cAt1.fs, b.den ρ = true := by
 simp only [cAt1, pA, fA, agsV, allTrue, sd, implies_true, IE.den, nm_, ge0, leN, nv, li, tT, Nat.reduceAdd]
 try (repeat' first | apply And.intro | intro _) <;> omega
theorem of_At1 : ∀ o ∈ cAt1.outs, ∀ ρ, o.post ρ → ∀ b ∈ o.fs, b.den ρ = true := by
 simp only [cAt1, pA, fA, agsV, allTrue, sd, implies_true, IE.den, nm_, ge0, leN, nv, li, tT, Nat.reduceAdd]
 try (repeat' first | apply And.intro | intro _) <;> omega
theorem nf_At1 (P : Program) : ∀ nd ∈ ndAt1 P, ∀ ρ, nd.inv ρ → ∀ b ∈ nd.fs, b.den ρ = true := by
 simp only [ndAt1, pA, fA, agsV, allTrue, sd, implies_true, IE.den, nm_, ge0, leN, nv, li, tT, Nat.reduceAdd]
 try (repeat' first | apply And.intro | intro _) <;> omega
theorem ok_At1 (mm : Bool) : cAt1.Ok Tryz.prog mm Γ0 :=
 con_by (X := Xf Tryz.prog) (cons := consAt1) (nds := ndAt1 Tryz.prog) (T0 := e_At1 Tryz.prog) (hk_ok _) (fun d hd => by
  rcases List.mem_cons.1 hd with rfl | hd
  ·exact ok_Check mm
  cases hd) (by kernel_rfl) (by kernel_rfl) rfl (by kernel_rfl) cf_At1 of_At1 (nf_At1 _) (by kernel_rfl) (fun ρ hv hΓ hl hp => v_At1 Tryz.prog ρ hv hΓ hl hp) ⟨⟨n_At1_0 Tryz.prog, by kernel_rfl, fun ρ hv hΓ hl hi => v_At1_0 Tryz.prog ρ hv hΓ hl hi⟩, ⟨⟨n_At1_1 Tryz.prog, by kernel_rfl, fun ρ hv hΓ hl hi => v_At1_1 Tryz.prog ρ hv hΓ hl hi⟩, trivial⟩⟩
end Ft
set_option linter.unusedVariables false
set_option linter.unusedSimpArgs false
open Go Mv Mw
namespace Ft
theorem v_Imp (P : Program) (ρ : Env) (hv : vals ρ) (hΓ : Γ0.On ρ) (hl : ρ.k.length = 23) (hp : cImp.pre ρ) : VC cImp (ndImp P) none ρ (e_Imp P) := by
 simp only [VC, oblC, asmC, appAsm, outAt, ndAt, allTrue, ve, BE.den, LX.den, nv, li, rowP, tT, e_Imp, ndImp, cImp, mel, pImp, okP, nB] at hp ⊢
 simp only [vb, bdList, hl, IE.den, forall_eq', implies_true, reduceIte, reduceCtorEq, Nat.reduceAdd, Nat.reduceSub, Nat.reduceLeDiff, Nat.reduceLT, Nat.reduceEqDiff] at hp ⊢
 obtain ⟨h1, h2, h3, h4⟩ := hp
 exact ⟨⟨h1, h2, h3, h4⟩, by omega, by omega, fun j hj => by omega⟩
theorem v_Imp_0 (P : Program) (ρ : Env) (hv : vals ρ) (hΓ : Γ0.On ρ) (hl : ρ.k.length = 24) (hp : (ndAt (ndImp P) 0).inv ρ) : VC cImp (ndImp P) (some ((ndAt (ndImp P) 0).mu ρ)) ρ (n_Imp_0 P) := by
 simp only [VC, oblC, asmC, appAsm, outAt, ndAt, allTrue, ve, BE.den, LX.den, nv, li, rowP, tT, n_Imp_0, ndImp, cImp, cThr, cHas, cHas0, cCmp, Con.split, oHas0, mel, thrY, agR, pImp, okP, nB, goOn_, putAsm] at hp ⊢
 simp only [vb, bdList, hl, IE.den, forall_eq', implies_true, reduceIte, reduceCtorEq, Nat.reduceAdd, Nat.reduceSub, Nat.reduceLeDiff, Nat.reduceLT, Nat.reduceEqDiff] at hp ⊢
 obtain ⟨⟨m0, n1, hB, g0, hok⟩, i0, i1, hnb⟩ := hp
 generalize (ρ.list 87).getD 0 0 = i at *
 generalize ρ.list 80 = B at *
 generalize (ρ.list 85).getD 0 0 = n at *
 generalize (ρ.list 86).getD 0 0 = M at *
 generalize ρ.list 82 = T0 at *
 generalize (ρ.list 83).getD 0 0 = C0 at *
 obtain ⟨j, rfl⟩ := nat_of i0
 obtain ⟨m, rfl⟩ := nat_of m0.1
 obtain ⟨nn, rfl⟩ : ∃ k : Nat, n = k := nat_of (by omega)
 simp only [Int.toNat_natCast] at *
 have hm : m < 64 := by omega
 have hlen := hB.len
 have hrT : rngT T0 := ⟨hok.len, fun k hk => by have := hok.rng k hk; omega⟩
 have E0 : ((j : Int) * 6).toNat = 6 * j := by omega
 have E1 : ((j : Int) * 6 + 1).toNat = 6 * j + 1 := by omega
 have E2 : ((j : Int) * 6 + 2).toNat = 6 * j + 2 := by omega
 have E3 : ((j : Int) * 6 + 3).toNat = 6 * j + 3 := by omega
 have E4 : ((j : Int) * 6 + 4).toNat = 6 * j + 4 := by omega
 have E5 : ((j : Int) * 6 + 5).toNat = 6 * j + 5 := by omega
 have G0 : B.getD (6 * j) 0 = fld B j 0 := rfl
 have G1 : B.getD (6 * j + 1) 0 = fld B j 1 := rfl
 have G2 : B.getD (6 * j + 2) 0 = fld B j 2 := rfl
 have G3 : B.getD (6 * j + 3) 0 = fld B j 3 := rfl
 have G4 : B.getD (6 * j + 4) 0 = fld B j 4 := rfl
 have G5 : B.getD (6 * j + 5) 0 = fld B j 5 := rfl
 have F0 : ((m : Int) * 8).toNat = 8 * m := by omega
 have F1 : ((m : Int) * 8 + 1).toNat = 8 * m + 1 := by omega
 have F7 : ((m : Int) * 8 + 7).toNat = 8 * m + 7 := by omega
 have H0 : T0.getD (8 * m) 0 = cst T0 m := rfl
 have H1 : T0.getD (8 * m + 1) 0 = pts T0 m := rfl
 have H7 : T0.getD (8 * m + 7) 0 = num T0 m := rfl
 have J0 : mayA (fld B j 0) (fld B j 1) m = mayJ B m j := rfl
 have J1 : aftA (fld B j 2) (fld B j 3) m = aftJ B m j := rfl
 have W : bitsOf .or .u64 C0 (IntKind.u64.wrap (2 ^ Nat.min m 64)) = withU C0 m := by unfold withU; rw [Int.one_mul, Int.toNat_natCast]
 simp only [E0, E1, E2, E3, E4, E5, G0, G1, G2, G3, G4, G5, F0, F1, F7, H0, H1, H7, J0, J1, W]
 have few := hB.few
 refine ⟨fun hj => ?_, fun hj k hk => hnb k (by omega)⟩
 have hjn : j < nn := by omega
 obtain ⟨a0, a1, a2, a3, a4, a5⟩ := hB.rng j hjn
 have gen : ∀ (a b : Nat) (r : List Int), Better B T0 C0 m j → r = putL T0 (8 * m) (newT B T0 m j) → r.length = 512 ∧ (∀ g, OkT B nn g T0 C0 → OkT B nn g r (withU C0 m)) ∧ phi r (withU C0 m) < phi T0 C0 := by
  rintro _ _ r hb rfl
  exact ⟨(hok.better hB hm hjn hb).1.len, fun g hg => (hg.better hB hm hjn hb).1, (hok.better hB hm hjn hb).2⟩
 have no : ¬ Better B T0 C0 m j → ∀ k : Nat, (k : Int) < j + 1 → ¬ Better B T0 C0 m k := fun h k hk => by
  by_cases e : k = j
  ·rw [e]; exact h
  ·exact hnb k (by omega)
 refine ⟨by omega, fun _ _ => ⟨⟨m0, hrT, a2, a3, a4⟩, fun hn _ _ => ⟨⟨⟨m0, n1, hB, g0, hok⟩, by omega, by omega, no fun hb => hn ⟨hb.1, hb.2.1⟩⟩, by omega⟩, ?_⟩⟩
 rintro _ r ⟨⟨y1, y2⟩, x1, x2⟩ _ _
 rw [x1, x2]
 refine ⟨m0, fun h1 => ⟨fun h2 _ r2 h3 => ⟨⟨⟨m0, n1, hB, g0, hok⟩, by omega, by omega, gen 0 0 _ ⟨y1, y2, .inr h2⟩ h3⟩, by omega⟩, ?_, ?_⟩, fun h1 _ r2 h3 => ⟨⟨⟨m0, n1, hB, g0, hok⟩, by omega, by omega, gen 0 0 _ ⟨y1, y2, .inl h1⟩ h3⟩, by omega⟩⟩
 all_goals exact fun h2 => ⟨⟨⟨m0, n1, hB, g0, hok⟩, by omega, by omega, no fun hb => by
  rcases hb.2.2 with h | h
  ·rw [h1] at h; cases h
  ·exact h2 h⟩, by omega⟩
theorem v_Imp_1 (P : Program) (ρ : Env) (hv : vals ρ) (hΓ : Γ0.On ρ) (hl : ρ.k.length = 26) (hp : (ndAt (ndImp P) 1).inv ρ) : VC cImp (ndImp P) (some ((ndAt (ndImp P) 1).mu ρ)) ρ (n_Imp_1 P) := by
 simp only [VC, oblC, asmC, appAsm, outAt, ndAt, allTrue, ve, BE.den, LX.den, nv, li, rowP, tT, n_Imp_1, ndImp, cImp, cThr, cHas, cHas0, cCmp, Con.split, oHas0, mel, thrY, agR, pImp, okP, nB, goOn_, putAsm] at hp ⊢
 simp only [vb, bdList, hl, IE.den, forall_eq', implies_true, reduceIte, reduceCtorEq, Nat.reduceAdd, Nat.reduceSub, Nat.reduceLeDiff, Nat.reduceLT, Nat.reduceEqDiff] at hp ⊢
 obtain ⟨⟨m0, n1, hB, g0, hok0⟩, i0, i1, hl1, hgo, hphi⟩ := hp
 generalize (ρ.list 89).getD 0 0 = i at *
 generalize ρ.list 80 = B at *
 generalize (ρ.list 85).getD 0 0 = n at *
 generalize (ρ.list 86).getD 0 0 = M at *
 generalize ρ.list 82 = T0 at *
 generalize (ρ.list 83).getD 0 0 = C0 at *
 generalize ρ.list 87 = T1 at *
 generalize (ρ.list 88).getD 0 0 = C1 at *
 have hok := hgo g0 hok0
 obtain ⟨j, rfl⟩ := nat_of i0
 obtain ⟨m, rfl⟩ := nat_of m0.1
 obtain ⟨nn, rfl⟩ : ∃ k : Nat, n = k := nat_of (by omega)
 simp only [Int.toNat_natCast] at *
 have hm : m < 64 := by omega
 have hlen := hB.len
 have hrT : rngT T1 := ⟨hok.len, fun k hk => by have := hok.rng k hk; omega⟩
 have E0 : ((j : Int) * 6).toNat = 6 * j := by omega
 have E1 : ((j : Int) * 6 + 1).toNat = 6 * j + 1 := by omega
 have E2 : ((j : Int) * 6 + 2).toNat = 6 * j + 2 := by omega
 have E3 : ((j : Int) * 6 + 3).toNat = 6 * j + 3 := by omega
 have E4 : ((j : Int) * 6 + 4).toNat = 6 * j + 4 := by omega
 have E5 : ((j : Int) * 6 + 5).toNat = 6 * j + 5 := by omega
 have G0 : B.getD (6 * j) 0 = fld B j 0 := rfl
 have G1 : B.getD (6 * j + 1) 0 = fld B j 1 := rfl
 have G2 : B.getD (6 * j + 2) 0 = fld B j 2 := rfl
 have G3 : B.getD (6 * j + 3) 0 = fld B j 3 := rfl
 have G4 : B.getD (6 * j + 4) 0 = fld B j 4 := rfl
 have G5 : B.getD (6 * j + 5) 0 = fld B j 5 := rfl
 have F0 : ((m : Int) * 8).toNat = 8 * m := by omega
 have F1 : ((m : Int) * 8 + 1).toNat = 8 * m + 1 := by omega
 have F7 : ((m : Int) * 8 + 7).toNat = 8 * m + 7 := by omega
 have H0 : T1.getD (8 * m) 0 = cst T1 m := rfl
 have H1 : T1.getD (8 * m + 1) 0 = pts T1 m := rfl
 have H7 : T1.getD (8 * m + 7) 0 = num T1 m := rfl
 have J0 : mayA (fld B j 0) (fld B j 1) m = mayJ B m j := rfl
 have J1 : aftA (fld B j 2) (fld B j 3) m = aftJ B m j := rfl
 have W : bitsOf .or .u64 C1 (IntKind.u64.wrap (2 ^ Nat.min m 64)) = withU C1 m := by unfold withU; rw [Int.one_mul, Int.toNat_natCast]
 simp only [E0, E1, E2, E3, E4, E5, G0, G1, G2, G3, G4, G5, F0, F1, F7, H0, H1, H7, J0, J1, W]
 have few := hB.few
 refine ⟨fun hj => ?_, fun hj => ⟨hl1, hgo, hphi⟩⟩
 have hjn : j < nn := by omega
 obtain ⟨a0, a1, a2, a3, a4, a5⟩ := hB.rng j hjn
 have gen : ∀ (a b : Nat) (r : List Int), Better B T1 C1 m j → r = putL T1 (8 * m) (newT B T1 m j) → r.length = 512 ∧ (∀ g, OkT B nn g T0 C0 → OkT B nn g r (withU C1 m)) ∧ phi r (withU C1 m) < phi T0 C0 := by
  rintro _ _ r hb rfl
  exact ⟨(hok.better hB hm hjn hb).1.len, fun g hg => ((hgo g hg).better hB hm hjn hb).1, Nat.lt_trans (hok.better hB hm hjn hb).2 hphi⟩
 refine ⟨by omega, fun _ _ => ⟨⟨m0, hrT, a2, a3, a4⟩, fun hn _ _ => ⟨⟨⟨m0, n1, hB, g0, hok0⟩, by omega, by omega, hl1, hgo, hphi⟩, by omega⟩, ?_⟩⟩
 rintro _ r ⟨⟨y1, y2⟩, x1, x2⟩ _ _
 rw [x1, x2]
 refine ⟨m0, fun h1 => ⟨fun h2 _ r2 h3 => ⟨⟨⟨m0, n1, hB, g0, hok0⟩, by omega, by omega, gen 0 0 _ ⟨y1, y2, .inr h2⟩ h3⟩, by omega⟩, ?_, ?_⟩, fun h1 _ r2 h3 => ⟨⟨⟨m0, n1, hB, g0, hok0⟩, by omega, by omega, gen 0 0 _ ⟨y1, y2, .inl h1⟩ h3⟩, by omega⟩⟩
 all_goals exact fun h2 => ⟨⟨⟨m0, n1, hB, g0, hok0⟩, by omega, by omega, hl1, hgo, hphi⟩, by omega⟩
end Ft
set_option linter.unusedVariables false
open Go Mv Mw
namespace Ft
def e_Tolls (P : Program) : VT := (.new (.new (.jump 0 [.keep 16, .keep 17, .keep 18, .keep 19, .keep 21, .ints [(oN 0), (oN 0), (oN 0), (oN 0), (oN 0), (oN 0), (oN 0), (oN 0), (oN 0), (oN 0), (oN 0), (oN 0), (oN 0), (oN 0), (oN 0), (oN 0), (oN 0), (oN 0), (oN 0), (oN 0), (oN 0), (oN 0), (oN 0), (oN 0), (oN 0), (oN 0), (oN 0), (oN 0), (oN 0), (oN 0), (oN 0), (oN 0), (oN 0), (oN 0), (oN 0), (oN 0), (oN 0), (oN 0), (oN 0), (oN 0), (oN 0), (oN 0), (oN 0), (oN 0), (oN 0), (oN 0), (oN 0), (oN 0), (oN 0), (oN 0), (oN 0), (oN 0), (oN 0), (oN 0), (oN 0), (oN 0), (oN 0), (oN 0), (oN 0), (oN 0), (oN 0), (oN 0), (oN 0), (oN 0), (oN 0), (oN 0), (oN 0), (oN 0), (oN 0), (oN 0), (oN 0), (oN 0), (oN 0), (oN 0), (oN 0), (oN 0), (oN 0), (oN 0), (oN 0), (oN 0), (oN 0), (oN 0), (oN 0), (oN 0), (oN 0), (oN 0), (oN 0), (oN 0), (oN 0), (oN 0), (oN 0), (oN 0), (oN 0), (oN 0), (oN 0), (oN 0), (oN 0), (oN 0), (oN 0), (oN 0), (oN 0), (oN 0), (oN 0), (oN 0), (oN 0), (oN 0), (oN 0), (oN 0), (oN 0), (oN 0), (oN 0), (oN 0), (oN 0), (oN 0), (oN 0), (oN 0), (oN 0), (oN 0), (oN 0), (oN 0), (oN 0), (oN 0), (oN 0), (oN 0), (oN 0), (oN 0), (oN 0), (oN 0), (oN 0), (oN 0), (oN 0), (oN 0), (oN 0), (oN 0), (oN 0), (oN 0), (oN 0), (oN 0), (oN 0), (oN 0), (oN 0), (oN 0), (oN 0), (oN 0), (oN 0), (oN 0), (oN 0), (oN 0), (oN 0), (oN 0), (oN 0), (oN 0), (oN 0), (oN 0), (oN 0), (oN 0), (oN 0), (oN 0), (oN 0), (oN 0), (oN 0), (oN 0), (oN 0), (oN 0), (oN 0), (oN 0), (oN 0), (oN 0), (oN 0), (oN 0), (oN 0), (oN 0), (oN 0), (oN 0), (oN 0), (oN 0), (oN 0), (oN 0), (oN 0), (oN 0), (oN 0), (oN 0), (oN 0), (oN 0), (oN 0), (oN 0), (oN 0), (oN 0), (oN 0), (oN 0), (oN 0), (oN 0), (oN 0), (oN 0), (oN 0), (oN 0), (oN 0), (oN 0), (oN 0), (oN 0), (oN 0), (oN 0), (oN 0), (oN 0), (oN 0), (oN 0), (oN 0), (oN 0), (oN 0), (oN 0), (oN 0), (oN 0), (oN 0), (oN 0), (oN 0), (oN 0), (oN 0), (oN 0), (oN 0), (oN 0), (oN 0), (oN 0), (oN 0), (oN 0), (oN 0), (oN 0), (oN 0), (oN 0), (oN 0), (oN 0), (oN 0), (oN 0), (oN 0), (oN 0), (oN 0), (oN 0), (oN 0), (oN 0), (oN 0), (oN 0), (oN 0), (oN 0), (oN 0), (oN 0), (oN 0), (oN 0), (oN 0), (oN 0), (oN 0), (oN 0), (oN 0), (oN 0), (oN 0), (oN 0), (oN 0), (oN 0), (oN 0), (oN 0), (oN 0), (oN 0), (oN 0), (oN 0), (oN 0), (oN 0), (oN 0), (oN 0), (oN 0), (oN 0), (oN 0), (oN 0), (oN 0), (oN 0), (oN 0), (oN 0), (oN 0), (oN 0), (oN 0), (oN 0), (oN 0), (oN 0), (oN 0), (oN 0), (oN 0), (oN 0), (oN 0), (oN 0), (oN 0), (oN 0), (oN 0), (oN 0), (oN 0), (oN 0), (oN 0), (oN 0), (oN 0), (oN 0), (oN 0), (oN 0), (oN 0), (oN 0), (oN 0), (oN 0), (oN 0), (oN 0), (oN 0), (oN 0), (oN 0), (oN 0), (oN 0), (oN 0), (oN 0), (oN 0), (oN 0), (oN 0), (oN 0), (oN 0), (oN 0), (oN 0), (oN 0), (oN 0), (oN 0), (oN 0), (oN 0), (oN 0), (oN 0), (oN 0), (oN 0), (oN 0), (oN 0), (oN 0), (oN 0), (oN 0), (oN 0), (oN 0), (oN 0), (oN 0), (oN 0), (oN 0), (oN 0), (oN 0), (oN 0), (oN 0), (oN 0), (oN 0), (oN 0), (oN 0), (oN 0), (oN 0), (oN 0), (oN 0), (oN 0), (oN 0), (oN 0), (oN 0), (oN 0), (oN 0), (oN 0), (oN 0), (oN 0), (oN 0), (oN 0), (oN 0), (oN 0), (oN 0), (oN 0), (oN 0), (oN 0), (oN 0), (oN 0), (oN 0), (oN 0), (oN 0), (oN 0), (oN 0), (oN 0), (oN 0), (oN 0), (oN 0), (oN 0), (oN 0), (oN 0), (oN 0), (oN 0), (oN 0), (oN 0), (oN 0), (oN 0), (oN 0), (oN 0), (oN 0), (oN 0), (oN 0), (oN 0), (oN 0), (oN 0), (oN 0), (oN 0), (oN 0), (oN 0), (oN 0), (oN 0), (oN 0), (oN 0), (oN 0), (oN 0), (oN 0), (oN 0), (oN 0), (oN 0), (oN 0), (oN 0), (oN 0), (oN 0), (oN 0), (oN 0), (oN 0), (oN 0), (oN 0), (oN 0), (oN 0), (oN 0), (oN 0), (oN 0), (oN 0), (oN 0), (oN 0), (oN 0), (oN 0), (oN 0), (oN 0), (oN 0), (oN 0), (oN 0), (oN 0), (oN 0), (oN 0), (oN 0), (oN 0), (oN 0), (oN 0), (oN 0), (oN 0), (oN 0), (oN 0), (oN 0), (oN 0), (oN 0), (oN 0), (oN 0), (oN 0), (oN 0), (oN 0), (oN 0), (oN 0), (oN 0), (oN 0), (oN 0), (oN 0), (oN 0), (oN 0), (oN 0), (oN 0), (oN 0), (oN 0), (oN 0), (oN 0), (oN 0), (oN 0), (oN 0), (oN 0), (oN 0), (oN 0), (oN 0), (oN 0), (oN 0), (oN 0), (oN 0), (oN 0), (oN 0), (oN 0), (oN 0), (oN 0), (oN 0), (oN 0), (oN 0), (oN 0), (oN 0), (oN 0), (oN 0), (oN 0), (oN 0), (oN 0), (oN 0), (oN 0), (oN 0), (oN 0), (oN 0), (oN 0), (oN 0), (oN 0), (oN 0), (oN 0), (oN 0), (oN 0), (oN 0), (oN 0), (oN 0), (oN 0), (oN 0), (oN 0), (oN 0), (oN 0)], .ints [(oN 0)], .ints [(oN 0)]] (ndAt (ndTolls P) 0).items)))
def n_Tolls_0 (P : Program) : VT := (.branch (.lt (h0 87) (oN 64))
(.branch (.eq (.bits .and .i64 (h0 83) (h0 87)) (h0 87))
(.jump 0 [.keep 16, .keep 17, .keep 18, .keep 19, .keep 20, .lst 85, .ints [(.bits .or .u64 (h0 86) (.wrap .u64 (.shl .u64 (oN 1) (h0 87))))], .ints [(.add (h0 87) (oN 1))]] (ndAt (ndTolls P) 0).items)
(.jump 0 [.keep 16, .keep 17, .keep 18, .keep 19, .keep 20, .lst 85, .ints [(h0 86)], .ints [(.add (h0 87) (oN 1))]] (ndAt (ndTolls P) 0).items))
(.jump 1 [.keep 16, .keep 17, .keep 18, .keep 19, .keep 20, .lst 85, .ints [(h0 86)], .ints [(oN 0)]] (ndAt (ndTolls P) 1).items))
def n_Tolls_1 (P : Program) : VT := (.branch (.lt (h0 87) (oN 64))
(.obl (oblC cImp [.lst 81, .keep 20, .lst 85, .ints [(h0 86)], .keep 16, .ints [(h0 82), (hN 82 1)], .ints [(h0 87)]]) (.both (.asm (asmC (outAt cImp.outs 0) [.lst 81, .keep 20, .lst 85, .ints [(h0 86)], .keep 16, .ints [(h0 82), (hN 82 1)], .ints [(h0 87)]]) (.jump 1 [.keep 16, .keep 17, .keep 18, .keep 19, .keep 20, .lst 85, .ints [(h0 86)], .ints [(.add (h0 87) (oN 1))]] (ndAt (ndTolls P) 1).items)) (.new (.new (.asm (asmC (outAt cImp.outs 1) [.lst 81, .keep 20, .lst 85, .ints [(h0 86)], .keep 16, .ints [(h0 82), (hN 82 1)], .ints [(h0 87)], .keep 24, .keep 25]) (.jump 2 [.keep 16, .keep 17, .keep 18, .keep 19, .keep 20, .lst 88, .ints [(h0 89)], .ints [(.add (h0 87) (oN 1))]] (ndAt (ndTolls P) 2).items))))))
(.ret 0 [.keep 16, .keep 17, .keep 18, .keep 19, .keep 20, .lst 85, .ints [(h0 86)]]))
def n_Tolls_2 (P : Program) : VT := (.branch (.lt (h0 87) (oN 64))
(.obl (oblC cImp [.lst 81, .keep 20, .lst 85, .ints [(h0 86)], .keep 16, .ints [(h0 82), (hN 82 1)], .ints [(h0 87)]]) (.both (.asm (asmC (outAt cImp.outs 0) [.lst 81, .keep 20, .lst 85, .ints [(h0 86)], .keep 16, .ints [(h0 82), (hN 82 1)], .ints [(h0 87)]]) (.jump 2 [.keep 16, .keep 17, .keep 18, .keep 19, .keep 20, .lst 85, .ints [(h0 86)], .ints [(.add (h0 87) (oN 1))]] (ndAt (ndTolls P) 2).items)) (.new (.new (.asm (asmC (outAt cImp.outs 1) [.lst 81, .keep 20, .lst 85, .ints [(h0 86)], .keep 16, .ints [(h0 82), (hN 82 1)], .ints [(h0 87)], .keep 24, .keep 25]) (.jump 2 [.keep 16, .keep 17, .keep 18, .keep 19, .keep 20, .lst 88, .ints [(h0 89)], .ints [(.add (h0 87) (oN 1))]] (ndAt (ndTolls P) 2).items))))))
(.jump 1 [.keep 16, .keep 17, .keep 18, .keep 19, .keep 20, .lst 85, .ints [(h0 86)], .ints [(oN 0)]] (ndAt (ndTolls P) 1).items))
def e_WayT (P : Program) : VT := (.obl (oblC cHas [.ints [(h0 83)], .ints [(h0 86)]]) (.both (.asm (asmC (outAt cHas.outs 0) [.ints [(h0 83)], .ints [(h0 86)]]) (.jump 0 [.keep 16, .keep 17, .keep 18, .keep 19, .keep 20, .keep 21, .keep 22, .ints [(.nth 82 (.mul (h0 86) (oN 8)))]] (ndAt (ndWayT P) 0).items)) (.asm (asmC (outAt cHas.outs 1) [.ints [(h0 83)], .ints [(h0 86)]]) (.ret 0 [.keep 16, .keep 17, .keep 18, .keep 19, .keep 20, .keep 21, .keep 22]))))
def n_WayT_0 (P : Program) : VT := (.branch (.lt (oN 0) (.nth 82 (.add (.mul (h0 86) (oN 8)) (oN 1))))
(.new (.new (.new (.obl (oblC cPutA [.ints [(.nth 82 (.add (.mul (h0 86) (oN 8)) (oN 2))), (.nth 82 (.add (.add (.mul (h0 86) (oN 8)) (oN 2)) (oN 1))), (.nth 82 (.add (.add (.mul (h0 86) (oN 8)) (oN 2)) (oN 2))), (.nth 82 (.add (.add (.mul (h0 86) (oN 8)) (oN 2)) (oN 3))), (.nth 82 (.add (.add (.mul (h0 86) (oN 8)) (oN 2)) (oN 4))), (.nth 82 (.add (.add (.mul (h0 86) (oN 8)) (oN 2)) (oN 5)))], .ints [(h0 86)]]) (.new (.asm (asmC (outAt cPutA.outs 0) [.ints [(.nth 82 (.add (.mul (h0 86) (oN 8)) (oN 2))), (.nth 82 (.add (.add (.mul (h0 86) (oN 8)) (oN 2)) (oN 1))), (.nth 82 (.add (.add (.mul (h0 86) (oN 8)) (oN 2)) (oN 2))), (.nth 82 (.add (.add (.mul (h0 86) (oN 8)) (oN 2)) (oN 3))), (.nth 82 (.add (.add (.mul (h0 86) (oN 8)) (oN 2)) (oN 4))), (.nth 82 (.add (.add (.mul (h0 86) (oN 8)) (oN 2)) (oN 5)))], .ints [(h0 86)], .keep 27]) (.jump 1 [.keep 16, .keep 17, .keep 18, .keep 19, .keep 20, .keep 21, .keep 22, .ints [(h0 87), (h0 91)], .keep 26, .ints [(.nth 82 (.add (.add (.mul (h0 86) (oN 8)) (oN 2)) (oN 5)))]] (ndAt (ndWayT P) 1).items)))))))
(.ret 1 [.keep 16, .keep 17, .keep 18, .keep 19, .keep 20, .keep 21, .keep 22, .ints [(h0 87)]]))
def n_WayT_1 (P : Program) : VT := (.branch (.lt (oN 0) (.nth 82 (.add (.mul (hN 87 1) (oN 8)) (oN 1))))
(.new (.new (.new (.asm (appAsm 28 (.whole 89) (.lits [(.nth 82 (.add (.add (.mul (hN 87 1) (oN 8)) (oN 2)) (oN 5)))])) (.new (.obl (oblC cPutA [.ints [(.nth 82 (.add (.mul (hN 87 1) (oN 8)) (oN 2))), (.nth 82 (.add (.add (.mul (hN 87 1) (oN 8)) (oN 2)) (oN 1))), (.nth 82 (.add (.add (.mul (hN 87 1) (oN 8)) (oN 2)) (oN 2))), (.nth 82 (.add (.add (.mul (hN 87 1) (oN 8)) (oN 2)) (oN 3))), (.nth 82 (.add (.add (.mul (hN 87 1) (oN 8)) (oN 2)) (oN 4))), (.nth 82 (.add (.add (.mul (hN 87 1) (oN 8)) (oN 2)) (oN 5)))], .ints [(hN 87 1)]]) (.new (.asm (asmC (outAt cPutA.outs 0) [.ints [(.nth 82 (.add (.mul (hN 87 1) (oN 8)) (oN 2))), (.nth 82 (.add (.add (.mul (hN 87 1) (oN 8)) (oN 2)) (oN 1))), (.nth 82 (.add (.add (.mul (hN 87 1) (oN 8)) (oN 2)) (oN 2))), (.nth 82 (.add (.add (.mul (hN 87 1) (oN 8)) (oN 2)) (oN 3))), (.nth 82 (.add (.add (.mul (hN 87 1) (oN 8)) (oN 2)) (oN 4))), (.nth 82 (.add (.add (.mul (hN 87 1) (oN 8)) (oN 2)) (oN 5)))], .ints [(hN 87 1)], .keep 30]) (.jump 1 [.keep 16, .keep 17, .keep 18, .keep 19, .keep 20, .keep 21, .keep 22, .ints [(h0 87), (h0 94)], .keep 29, .lst 92] (ndAt (ndWayT P) 1).items)))))))))
(.ret 2 [.keep 16, .keep 17, .keep 18, .keep 19, .keep 20, .keep 21, .keep 22, .ints [(h0 87)], .keep 24, .lst 89]))
end Ft
set_option linter.unusedVariables false
set_option linter.unusedSimpArgs false
open Go Mv Mw
namespace Ft
set_option maxRecDepth 20000 in
theorem v_Tolls (P : Program) (ρ : Env) (hv : vals ρ) (hΓ : Γ0.On ρ) (hl : ρ.k.length = 20) (hp : cTolls.pre ρ) : VC cTolls (ndTolls P) none ρ (e_Tolls P) := by
 unfold e_Tolls
 simp only [VC, oblC, asmC, appAsm, outAt, ndAt, allTrue, ve, BE.den, LX.den, nv, li, rowP, tT, ndTolls, cTolls, mel, pTl, nT] at hp ⊢
 simp only [vb, bdList, hl, IE.den, forall_eq', implies_true, reduceIte, reduceCtorEq, Nat.reduceAdd, Nat.reduceSub, Nat.reduceLeDiff, Nat.reduceLT, Nat.reduceEqDiff] at hp ⊢
 intro _ _ _ _
 refine ⟨hp, by rfl, ⟨by omega, by omega⟩, by omega, by omega, fun m hm => ⟨fun h => ?_, fun h => by omega⟩⟩
 rw [show (0 : Int) = ((0 : Nat) : Int) from rfl, hasU_nat (by decide) hm, Nat.zero_testBit] at h
 cases h
theorem v_Tolls_0 (P : Program) (ρ : Env) (hv : vals ρ) (hΓ : Γ0.On ρ) (hl : ρ.k.length = 24) (hp : (ndAt (ndTolls P) 0).inv ρ) : VC cTolls (ndTolls P) (some ((ndAt (ndTolls P) 0).mu ρ)) ρ (n_Tolls_0 P) := by
 simp only [VC, oblC, asmC, appAsm, outAt, ndAt, allTrue, ve, BE.den, LX.den, nv, li, rowP, tT, n_Tolls_0, ndTolls, cTolls, mel, pTl, nT, cImp, pImp, goOn_, okP, nB] at hp ⊢
 simp only [vb, bdList, hl, IE.den, forall_eq', implies_true, reduceIte, reduceCtorEq, Nat.reduceAdd, Nat.reduceSub, Nat.reduceLeDiff, Nat.reduceLT, Nat.reduceEqDiff] at hp ⊢
 obtain ⟨p0, hz, hC, i0, i1, hh⟩ := hp
 generalize (ρ.list 87).getD 0 0 = i at *
 generalize (ρ.list 83).getD 0 0 = a at *
 generalize (ρ.list 86).getD 0 0 = C at *
 generalize (ρ.list 82).getD 0 0 = n at *
 generalize ρ.list 81 = B at *
 rw [hz]
 obtain ⟨k, rfl⟩ := nat_of i0
 simp only [Int.toNat_natCast] at *
 have W : bitsOf .or .u64 C (IntKind.u64.wrap (2 ^ Nat.min k 64)) = withU C k := by unfold withU; rw [Int.one_mul, Int.toNat_natCast]
 rw [W]
 refine ⟨fun hk => ⟨fun h => ⟨⟨p0, trivial, withU_rng hC.1 hC.2 (by omega), by omega, by omega, fun m hm => ?_⟩, by omega⟩, fun h => ⟨⟨p0, trivial, hC, by omega, by omega, fun m hm => ?_⟩, by omega⟩⟩, fun hk => ?_⟩
 ·rw [hasU_withU hC.1 hC.2 (by omega) hm, Bool.or_eq_true, hh m hm, decide_eq_true_eq]
  have : gP a k = true := by unfold gP andI; simp [h]
  by_cases e : k = m
  ·subst e
   exact ⟨fun _ => ⟨by omega, this⟩, fun _ => .inr rfl⟩
  ·exact ⟨fun h => h.elim (fun h => ⟨by omega, h.2⟩) fun h => absurd h e, fun h => .inl ⟨by omega, h.2⟩⟩
 ·rw [hh m hm]
  have : ¬ gP a k = true := by unfold gP andI; simp [h]
  by_cases e : k = m
  ·subst e
   exact ⟨fun h => absurd h.2 this, fun h => absurd h.2 this⟩
  ·exact ⟨fun h => ⟨by omega, h.2⟩, fun h => ⟨by omega, h.2⟩⟩
 ·have hok : OkT B n.toNat (gP a) zer C := OkT.start hC.1 hC.2 fun m hm => by
   rw [Bool.eq_iff_iff, hh m hm]
   exact ⟨fun h => h.2, fun h => ⟨by omega, h⟩⟩
  refine ⟨⟨p0, hok, by omega, by omega, fun m j hm => by omega⟩, ?_⟩
  have := hok.phi_le
  omega
theorem v_Tolls_1 (P : Program) (ρ : Env) (hv : vals ρ) (hΓ : Γ0.On ρ) (hl : ρ.k.length = 24) (hp : (ndAt (ndTolls P) 1).inv ρ) : VC cTolls (ndTolls P) (some ((ndAt (ndTolls P) 1).mu ρ)) ρ (n_Tolls_1 P) := by
 simp only [VC, oblC, asmC, appAsm, outAt, ndAt, allTrue, ve, BE.den, LX.den, nv, li, rowP, tT, n_Tolls_1, ndTolls, cTolls, mel, pTl, nT, cImp, pImp, goOn_, okP, nB] at hp ⊢
 simp only [vb, bdList, hl, IE.den, forall_eq', implies_true, reduceIte, reduceCtorEq, Nat.reduceAdd, Nat.reduceSub, Nat.reduceLeDiff, Nat.reduceLT, Nat.reduceEqDiff] at hp ⊢
 obtain ⟨p0, hok, i0, i1, hno⟩ := hp
 generalize (ρ.list 87).getD 0 0 = i at *
 refine ⟨fun hk => ⟨⟨by omega, p0.1, p0.2.1, _, hok⟩, fun h => ⟨⟨p0, hok, by omega, by omega, fun m j hm hj => ?_⟩, by omega⟩, ?_⟩, fun hk => ⟨hok, fun m j hm hj => hno m j (by omega) hj⟩⟩
 ·by_cases e : (m : Int) = i
  ·have := h j hj
   rwa [← e, Int.toNat_natCast] at this
  ·exact hno m j (by omega) hj
 ·rintro _ r _ r' ⟨-, h1, h2⟩
  exact ⟨⟨p0, h1 _ hok, by omega, by omega⟩, by omega⟩
theorem v_Tolls_2 (P : Program) (ρ : Env) (hv : vals ρ) (hΓ : Γ0.On ρ) (hl : ρ.k.length = 24) (hp : (ndAt (ndTolls P) 2).inv ρ) : VC cTolls (ndTolls P) (some ((ndAt (ndTolls P) 2).mu ρ)) ρ (n_Tolls_2 P) := by
 simp only [VC, oblC, asmC, appAsm, outAt, ndAt, allTrue, ve, BE.den, LX.den, nv, li, rowP, tT, n_Tolls_2, ndTolls, cTolls, mel, pTl, nT, cImp, pImp, goOn_, okP, nB] at hp ⊢
 simp only [vb, bdList, hl, IE.den, forall_eq', implies_true, reduceIte, reduceCtorEq, Nat.reduceAdd, Nat.reduceSub, Nat.reduceLeDiff, Nat.reduceLT, Nat.reduceEqDiff] at hp ⊢
 obtain ⟨p0, hok, i0, i1⟩ := hp
 generalize (ρ.list 87).getD 0 0 = i at *
 refine ⟨fun hk => ⟨⟨by omega, p0.1, p0.2.1, _, hok⟩, fun h => ⟨⟨p0, hok, by omega, by omega⟩, by omega⟩, ?_⟩, fun hk => ⟨⟨p0, hok, by omega, by omega, fun m j hm => by omega⟩, by omega⟩⟩
 rintro _ r _ r' ⟨-, h1, h2⟩
 exact ⟨⟨p0, h1 _ hok, by omega, by omega⟩, by omega⟩
theorem v_WayT (P : Program) (ρ : Env) (hv : vals ρ) (hΓ : Γ0.On ρ) (hl : ρ.k.length = 23) (hp : cWayT.pre ρ) : VC cWayT (ndWayT P) none ρ (e_WayT P) := by
 simp only [VC, oblC, asmC, appAsm, outAt, ndAt, allTrue, ve, BE.den, LX.den, nv, li, rowP, tT, e_WayT, ndWayT, cWayT, mel, pWt, cHas, cHas0, Con.split, oHas0, nB] at hp ⊢
 simp only [vb, bdList, hl, IE.den, forall_eq', implies_true, reduceIte, reduceCtorEq, Nat.reduceAdd, Nat.reduceSub, Nat.reduceLeDiff, Nat.reduceLT, Nat.reduceEqDiff] at hp ⊢
 refine ⟨hp.1, fun h => ⟨hp, h, ?_⟩, fun h => h⟩
 unfold cst
 congr 1
 omega
theorem v_WayT_0 (P : Program) (ρ : Env) (hv : vals ρ) (hΓ : Γ0.On ρ) (hl : ρ.k.length = 24) (hp : (ndAt (ndWayT P) 0).inv ρ) : VC cWayT (ndWayT P) (some ((ndAt (ndWayT P) 0).mu ρ)) ρ (n_WayT_0 P) := by
 simp only [VC, oblC, asmC, appAsm, outAt, ndAt, allTrue, ve, BE.den, LX.den, nv, li, rowP, tT, n_WayT_0, ndWayT, cWayT, mel, pWt, cPutA, nB] at hp ⊢
 simp only [vb, bdList, hl, IE.den, forall_eq', implies_true, reduceIte, reduceCtorEq, Nat.reduceAdd, Nat.reduceSub, Nat.reduceLeDiff, Nat.reduceLT, Nat.reduceEqDiff] at hp ⊢
 obtain ⟨p0, hh, hc⟩ := hp
 obtain ⟨pm, pn, hB, ⟨g, hd⟩, ple⟩ := p0
 have ple1 := ple hh
 generalize (ρ.list 86).getD 0 0 = x at *
 generalize ρ.list 82 = T at *
 have E0 : (x * 8 + 1).toNat = 8 * x.toNat + 1 := by omega
 have E1 : T.getD (8 * x.toNat + 1) 0 = pts T x.toNat := rfl
 rw [E0, E1]
 have hge := (hd.ok.rng x.toNat (by omega)).1.1
 refine ⟨fun h => ?_, fun h => ⟨hh, by omega, hc⟩⟩
 intro _ _ _ _ _ _
 have e0 : (x * 8 + 2).toNat = 8 * x.toNat + 2 + 0 := by omega
 have e1 : (x * 8 + 2 + 1).toNat = 8 * x.toNat + 2 + 1 := by omega
 have e2 : (x * 8 + 2 + 2).toNat = 8 * x.toNat + 2 + 2 := by omega
 have e3 : (x * 8 + 2 + 3).toNat = 8 * x.toNat + 2 + 3 := by omega
 have e5 : (x * 8 + 2 + 5).toNat = 8 * x.toNat + 2 + 5 := by omega
 rw [e0, e1, e2, e3, e5]
 have hw := WayTo.nil (B := ρ.list 80) (n := ((ρ.list 85).getD 0 0).toNat) (P := T) pm hh
 rw [← hc] at hw
 refine ⟨⟨pm, (hw.step (x' := 0) hd hB h).1⟩, fun _ r => ?_⟩
 rintro ⟨h1, h2⟩
 obtain ⟨s1, s2, s3⟩ := (hw.step hd hB h).2 h1
 exact ⟨⟨⟨pm, pn, hB, ⟨g, hd⟩, ple⟩, hh, hc, ⟨by simp, by simp⟩, s1⟩, by omega⟩
theorem v_WayT_1 (P : Program) (ρ : Env) (hv : vals ρ) (hΓ : Γ0.On ρ) (hl : ρ.k.length = 26) (hp : (ndAt (ndWayT P) 1).inv ρ) : VC cWayT (ndWayT P) (some ((ndAt (ndWayT P) 1).mu ρ)) ρ (n_WayT_1 P) := by
 simp only [VC, oblC, asmC, appAsm, outAt, ndAt, allTrue, ve, BE.den, LX.den, nv, li, rowP, tT, n_WayT_1, ndWayT, cWayT, mel, pWt, cPutA, nB] at hp ⊢
 simp only [vb, bdList, hl, IE.den, forall_eq', implies_true, reduceIte, reduceCtorEq, Nat.reduceAdd, Nat.reduceSub, Nat.reduceLeDiff, Nat.reduceLT, Nat.reduceEqDiff] at hp ⊢
 obtain ⟨p0, hh, hc, ⟨l1, l2⟩, hw⟩ := hp
 obtain ⟨pm, pn, hB, ⟨g, hd⟩, ple⟩ := p0
 have ple1 := ple hh
 generalize (ρ.list 87).getD 1 0 = x at *
 generalize ρ.list 82 = T at *
 generalize ρ.list 89 = L at *
 have hmx := hw.mel
 have E0 : (x * 8 + 1).toNat = 8 * x.toNat + 1 := by omega
 have E1 : T.getD (8 * x.toNat + 1) 0 = pts T x.toNat := rfl
 rw [E0, E1]
 have hge := (hd.ok.rng x.toNat (by omega)).1.1
 refine ⟨fun h => ?_, fun h => ⟨hh, hc, ⟨l1, l2⟩, x, hw, by omega⟩⟩
 intro _ _ _ _ _ r hr
 rw [hr]
 have e0 : (x * 8 + 2).toNat = 8 * x.toNat + 2 + 0 := by omega
 have e1 : (x * 8 + 2 + 1).toNat = 8 * x.toNat + 2 + 1 := by omega
 have e2 : (x * 8 + 2 + 2).toNat = 8 * x.toNat + 2 + 2 := by omega
 have e3 : (x * 8 + 2 + 3).toNat = 8 * x.toNat + 2 + 3 := by omega
 have e5 : (x * 8 + 2 + 5).toNat = 8 * x.toNat + 2 + 5 := by omega
 rw [e0, e1, e2, e3, e5]
 refine fun _ _ => ⟨⟨hmx, (hw.step (x' := 0) hd hB h).1⟩, fun _ r => ?_⟩
 rintro ⟨h1, h2⟩
 obtain ⟨s1, s2, s3⟩ := (hw.step hd hB h).2 h1
 have := hw.puts
 have := s1.puts
 rw [List.length_append, List.length_singleton] at *
 exact ⟨⟨⟨pm, pn, hB, ⟨g, hd⟩, ple⟩, hh, hc, ⟨by omega, by omega⟩, s1⟩, by omega⟩
end Ft
set_option linter.unusedVariables false
open Go Mv Mw
namespace Ft
def e_Cheap (P : Program) : VT := (.new (.branch (.not (.eq (.bits .andNot .i64 (h0 83) (oN 63)) (oN 0)))
(.new (.obl (oblC cAt1 [.keep 16, .lst 81, .ints [(h0 82), (hN 82 1)], .keep 21, .ints [(oN 1)]]) (.new (.new (.asm (asmC (outAt cAt1.outs 0) [.keep 16, .lst 81, .ints [(h0 82), (hN 82 1)], .keep 21, .ints [(oN 1)], .keep 22, .keep 23]) (.new (.obl (oblC cTolls [.keep 22, .lst 87, .ints [(.quo (.len 87) (oN 6)), (.add (.quo (.len 87) (oN 6)) (.room 22 6))], .ints [(hN 83 1)]]) (.new (.new (.new (.asm (asmC (outAt cTolls.outs 0) [.keep 22, .lst 87, .ints [(.quo (.len 87) (oN 6)), (.add (.quo (.len 87) (oN 6)) (.room 22 6))], .ints [(hN 83 1)], .keep 25, .keep 26, .keep 27]) (.obl (oblC cWayT [.lst 87, .keep 25, .lst 90, .ints [(h0 91)], .keep 22, .ints [(.quo (.len 87) (oN 6)), (.add (.quo (.len 87) (oN 6)) (.room 22 6))], .ints [(h0 83)]]) (.both (.asm (asmC (outAt cWayT.outs 0) [.lst 87, .keep 25, .lst 90, .ints [(h0 91)], .keep 22, .ints [(.quo (.len 87) (oN 6)), (.add (.quo (.len 87) (oN 6)) (.room 22 6))], .ints [(h0 83)]]) (.ret 0 [.keep 16, .keep 17, .keep 18, .keep 19])) (.both (.new (.asm (asmC (outAt cWayT.outs 1) [.lst 87, .keep 25, .lst 90, .ints [(h0 91)], .keep 22, .ints [(.quo (.len 87) (oN 6)), (.add (.quo (.len 87) (oN 6)) (.room 22 6))], .ints [(h0 83)], .keep 28]) (.ret 1 [.keep 16, .keep 17, .keep 18, .keep 19, .ints [(h0 92)]]))) (.new (.new (.new (.asm (asmC (outAt cWayT.outs 2) [.lst 87, .keep 25, .lst 90, .ints [(h0 91)], .keep 22, .ints [(.quo (.len 87) (oN 6)), (.add (.quo (.len 87) (oN 6)) (.room 22 6))], .ints [(h0 83)], .keep 28, .keep 29, .keep 30]) (.ret 2 [.keep 16, .keep 17, .keep 18, .keep 19, .ints [(h0 92)], .keep 29, .lst 94])))))))))))))))))))
(.branch (.not (.eq (.bits .andNot .i64 (hN 83 1) (oN 63)) (oN 0)))
(.new (.obl (oblC cAt1 [.keep 16, .lst 81, .ints [(h0 82), (hN 82 1)], .keep 21, .ints [(oN 1)]]) (.new (.new (.asm (asmC (outAt cAt1.outs 0) [.keep 16, .lst 81, .ints [(h0 82), (hN 82 1)], .keep 21, .ints [(oN 1)], .keep 22, .keep 23]) (.new (.obl (oblC cTolls [.keep 22, .lst 87, .ints [(.quo (.len 87) (oN 6)), (.add (.quo (.len 87) (oN 6)) (.room 22 6))], .ints [(hN 83 1)]]) (.new (.new (.new (.asm (asmC (outAt cTolls.outs 0) [.keep 22, .lst 87, .ints [(.quo (.len 87) (oN 6)), (.add (.quo (.len 87) (oN 6)) (.room 22 6))], .ints [(hN 83 1)], .keep 25, .keep 26, .keep 27]) (.obl (oblC cWayT [.lst 87, .keep 25, .lst 90, .ints [(h0 91)], .keep 22, .ints [(.quo (.len 87) (oN 6)), (.add (.quo (.len 87) (oN 6)) (.room 22 6))], .ints [(h0 83)]]) (.both (.asm (asmC (outAt cWayT.outs 0) [.lst 87, .keep 25, .lst 90, .ints [(h0 91)], .keep 22, .ints [(.quo (.len 87) (oN 6)), (.add (.quo (.len 87) (oN 6)) (.room 22 6))], .ints [(h0 83)]]) (.ret 0 [.keep 16, .keep 17, .keep 18, .keep 19])) (.both (.new (.asm (asmC (outAt cWayT.outs 1) [.lst 87, .keep 25, .lst 90, .ints [(h0 91)], .keep 22, .ints [(.quo (.len 87) (oN 6)), (.add (.quo (.len 87) (oN 6)) (.room 22 6))], .ints [(h0 83)], .keep 28]) (.ret 1 [.keep 16, .keep 17, .keep 18, .keep 19, .ints [(h0 92)]]))) (.new (.new (.new (.asm (asmC (outAt cWayT.outs 2) [.lst 87, .keep 25, .lst 90, .ints [(h0 91)], .keep 22, .ints [(.quo (.len 87) (oN 6)), (.add (.quo (.len 87) (oN 6)) (.room 22 6))], .ints [(h0 83)], .keep 28, .keep 29, .keep 30]) (.ret 2 [.keep 16, .keep 17, .keep 18, .keep 19, .ints [(h0 92)], .keep 29, .lst 94])))))))))))))))))))
(.new (.obl (oblC cAt1 [.keep 16, .lst 81, .ints [(h0 82), (hN 82 1)], .keep 21, .ints [(oN 0)]]) (.new (.new (.asm (asmC (outAt cAt1.outs 0) [.keep 16, .lst 81, .ints [(h0 82), (hN 82 1)], .keep 21, .ints [(oN 0)], .keep 22, .keep 23]) (.new (.obl (oblC cTolls [.keep 22, .lst 87, .ints [(.quo (.len 87) (oN 6)), (.add (.quo (.len 87) (oN 6)) (.room 22 6))], .ints [(hN 83 1)]]) (.new (.new (.new (.asm (asmC (outAt cTolls.outs 0) [.keep 22, .lst 87, .ints [(.quo (.len 87) (oN 6)), (.add (.quo (.len 87) (oN 6)) (.room 22 6))], .ints [(hN 83 1)], .keep 25, .keep 26, .keep 27]) (.obl (oblC cWayT [.lst 87, .keep 25, .lst 90, .ints [(h0 91)], .keep 22, .ints [(.quo (.len 87) (oN 6)), (.add (.quo (.len 87) (oN 6)) (.room 22 6))], .ints [(h0 83)]]) (.both (.asm (asmC (outAt cWayT.outs 0) [.lst 87, .keep 25, .lst 90, .ints [(h0 91)], .keep 22, .ints [(.quo (.len 87) (oN 6)), (.add (.quo (.len 87) (oN 6)) (.room 22 6))], .ints [(h0 83)]]) (.ret 0 [.keep 16, .keep 17, .keep 18, .keep 19])) (.both (.new (.asm (asmC (outAt cWayT.outs 1) [.lst 87, .keep 25, .lst 90, .ints [(h0 91)], .keep 22, .ints [(.quo (.len 87) (oN 6)), (.add (.quo (.len 87) (oN 6)) (.room 22 6))], .ints [(h0 83)], .keep 28]) (.ret 1 [.keep 16, .keep 17, .keep 18, .keep 19, .ints [(h0 92)]]))) (.new (.new (.new (.asm (asmC (outAt cWayT.outs 2) [.lst 87, .keep 25, .lst 90, .ints [(h0 91)], .keep 22, .ints [(.quo (.len 87) (oN 6)), (.add (.quo (.len 87) (oN 6)) (.room 22 6))], .ints [(h0 83)], .keep 28, .keep 29, .keep 30]) (.ret 2 [.keep 16, .keep 17, .keep 18, .keep 19, .ints [(h0 92)], .keep 29, .lst 94]))))))))))))))))))))))
def e_TollsN (P : Program) : VT := (.new (.new (.jump 0 [.keep 16, .keep 18, .ints [(oN 0), (oN 0), (oN 0), (oN 0), (oN 0), (oN 0), (oN 0), (oN 0), (oN 0), (oN 0), (oN 0), (oN 0), (oN 0), (oN 0), (oN 0), (oN 0), (oN 0), (oN 0), (oN 0), (oN 0), (oN 0), (oN 0), (oN 0), (oN 0), (oN 0), (oN 0), (oN 0), (oN 0), (oN 0), (oN 0), (oN 0), (oN 0), (oN 0), (oN 0), (oN 0), (oN 0), (oN 0), (oN 0), (oN 0), (oN 0), (oN 0), (oN 0), (oN 0), (oN 0), (oN 0), (oN 0), (oN 0), (oN 0), (oN 0), (oN 0), (oN 0), (oN 0), (oN 0), (oN 0), (oN 0), (oN 0), (oN 0), (oN 0), (oN 0), (oN 0), (oN 0), (oN 0), (oN 0), (oN 0), (oN 0), (oN 0), (oN 0), (oN 0), (oN 0), (oN 0), (oN 0), (oN 0), (oN 0), (oN 0), (oN 0), (oN 0), (oN 0), (oN 0), (oN 0), (oN 0), (oN 0), (oN 0), (oN 0), (oN 0), (oN 0), (oN 0), (oN 0), (oN 0), (oN 0), (oN 0), (oN 0), (oN 0), (oN 0), (oN 0), (oN 0), (oN 0), (oN 0), (oN 0), (oN 0), (oN 0), (oN 0), (oN 0), (oN 0), (oN 0), (oN 0), (oN 0), (oN 0), (oN 0), (oN 0), (oN 0), (oN 0), (oN 0), (oN 0), (oN 0), (oN 0), (oN 0), (oN 0), (oN 0), (oN 0), (oN 0), (oN 0), (oN 0), (oN 0), (oN 0), (oN 0), (oN 0), (oN 0), (oN 0), (oN 0), (oN 0), (oN 0), (oN 0), (oN 0), (oN 0), (oN 0), (oN 0), (oN 0), (oN 0), (oN 0), (oN 0), (oN 0), (oN 0), (oN 0), (oN 0), (oN 0), (oN 0), (oN 0), (oN 0), (oN 0), (oN 0), (oN 0), (oN 0), (oN 0), (oN 0), (oN 0), (oN 0), (oN 0), (oN 0), (oN 0), (oN 0), (oN 0), (oN 0), (oN 0), (oN 0), (oN 0), (oN 0), (oN 0), (oN 0), (oN 0), (oN 0), (oN 0), (oN 0), (oN 0), (oN 0), (oN 0), (oN 0), (oN 0), (oN 0), (oN 0), (oN 0), (oN 0), (oN 0), (oN 0), (oN 0), (oN 0), (oN 0), (oN 0), (oN 0), (oN 0), (oN 0), (oN 0), (oN 0), (oN 0), (oN 0), (oN 0), (oN 0), (oN 0), (oN 0), (oN 0), (oN 0), (oN 0), (oN 0), (oN 0), (oN 0), (oN 0), (oN 0), (oN 0), (oN 0), (oN 0), (oN 0), (oN 0), (oN 0), (oN 0), (oN 0), (oN 0), (oN 0), (oN 0), (oN 0), (oN 0), (oN 0), (oN 0), (oN 0), (oN 0), (oN 0), (oN 0), (oN 0), (oN 0), (oN 0), (oN 0), (oN 0), (oN 0), (oN 0), (oN 0), (oN 0), (oN 0), (oN 0), (oN 0), (oN 0), (oN 0), (oN 0), (oN 0), (oN 0), (oN 0), (oN 0), (oN 0), (oN 0), (oN 0), (oN 0), (oN 0), (oN 0), (oN 0), (oN 0), (oN 0), (oN 0), (oN 0), (oN 0), (oN 0), (oN 0), (oN 0), (oN 0), (oN 0), (oN 0), (oN 0), (oN 0), (oN 0), (oN 0), (oN 0), (oN 0), (oN 0), (oN 0), (oN 0), (oN 0), (oN 0), (oN 0), (oN 0), (oN 0), (oN 0), (oN 0), (oN 0), (oN 0), (oN 0), (oN 0), (oN 0), (oN 0), (oN 0), (oN 0), (oN 0), (oN 0), (oN 0), (oN 0), (oN 0), (oN 0), (oN 0), (oN 0), (oN 0), (oN 0), (oN 0), (oN 0), (oN 0), (oN 0), (oN 0), (oN 0), (oN 0), (oN 0), (oN 0), (oN 0), (oN 0), (oN 0), (oN 0), (oN 0), (oN 0), (oN 0), (oN 0), (oN 0), (oN 0), (oN 0), (oN 0), (oN 0), (oN 0), (oN 0), (oN 0), (oN 0), (oN 0), (oN 0), (oN 0), (oN 0), (oN 0), (oN 0), (oN 0), (oN 0), (oN 0), (oN 0), (oN 0), (oN 0), (oN 0), (oN 0), (oN 0), (oN 0), (oN 0), (oN 0), (oN 0), (oN 0), (oN 0), (oN 0), (oN 0), (oN 0), (oN 0), (oN 0), (oN 0), (oN 0), (oN 0), (oN 0), (oN 0), (oN 0), (oN 0), (oN 0), (oN 0), (oN 0), (oN 0), (oN 0), (oN 0), (oN 0), (oN 0), (oN 0), (oN 0), (oN 0), (oN 0), (oN 0), (oN 0), (oN 0), (oN 0), (oN 0), (oN 0), (oN 0), (oN 0), (oN 0), (oN 0), (oN 0), (oN 0), (oN 0), (oN 0), (oN 0), (oN 0), (oN 0), (oN 0), (oN 0), (oN 0), (oN 0), (oN 0), (oN 0), (oN 0), (oN 0), (oN 0), (oN 0), (oN 0), (oN 0), (oN 0), (oN 0), (oN 0), (oN 0), (oN 0), (oN 0), (oN 0), (oN 0), (oN 0), (oN 0), (oN 0), (oN 0), (oN 0), (oN 0), (oN 0), (oN 0), (oN 0), (oN 0), (oN 0), (oN 0), (oN 0), (oN 0), (oN 0), (oN 0), (oN 0), (oN 0), (oN 0), (oN 0), (oN 0), (oN 0), (oN 0), (oN 0), (oN 0), (oN 0), (oN 0), (oN 0), (oN 0), (oN 0), (oN 0), (oN 0), (oN 0), (oN 0), (oN 0), (oN 0), (oN 0), (oN 0), (oN 0), (oN 0), (oN 0), (oN 0), (oN 0), (oN 0), (oN 0), (oN 0), (oN 0), (oN 0), (oN 0), (oN 0), (oN 0), (oN 0), (oN 0), (oN 0), (oN 0), (oN 0), (oN 0), (oN 0), (oN 0), (oN 0), (oN 0), (oN 0), (oN 0), (oN 0), (oN 0), (oN 0), (oN 0), (oN 0), (oN 0), (oN 0), (oN 0), (oN 0), (oN 0), (oN 0), (oN 0), (oN 0), (oN 0), (oN 0), (oN 0), (oN 0), (oN 0), (oN 0), (oN 0), (oN 0), (oN 0), (oN 0), (oN 0), (oN 0), (oN 0), (oN 0), (oN 0), (oN 0), (oN 0), (oN 0), (oN 0), (oN 0), (oN 0), (oN 0), (oN 0), (oN 0), (oN 0), (oN 0), (oN 0), (oN 0), (oN 0), (oN 0), (oN 0), (oN 0)], .ints [(oN 0)], .ints [(oN 0)]] (ndAt (ndTollsN P) 0).items)))
def n_TollsN_0 (P : Program) : VT := (.branch (.lt (h0 84) (oN 64))
(.branch (.eq (.bits .and .i64 (h0 80) (h0 84)) (h0 84))
(.jump 0 [.keep 16, .keep 17, .lst 82, .ints [(.bits .or .u64 (h0 83) (.wrap .u64 (.shl .u64 (oN 1) (h0 84))))], .ints [(.add (h0 84) (oN 1))]] (ndAt (ndTollsN P) 0).items)
(.jump 0 [.keep 16, .keep 17, .lst 82, .ints [(h0 83)], .ints [(.add (h0 84) (oN 1))]] (ndAt (ndTollsN P) 0).items))
(.jump 1 [.keep 16, .keep 17, .lst 82, .ints [(h0 83)], .ints [(oN 0)]] (ndAt (ndTollsN P) 1).items))
def n_TollsN_1 (P : Program) : VT := (.branch (.lt (h0 84) (oN 64))
(.jump 1 [.keep 16, .keep 17, .lst 82, .ints [(h0 83)], .ints [(.add (h0 84) (oN 1))]] (ndAt (ndTollsN P) 1).items)
(.ret 0 [.keep 16, .keep 17, .lst 82, .ints [(h0 83)]]))
def e_WayN (P : Program) : VT := (.obl (oblC cHas [.ints [(h0 82)], .ints [(h0 83)]]) (.both (.asm (asmC (outAt cHas.outs 0) [.ints [(h0 82)], .ints [(h0 83)]]) (.jump 0 [.keep 16, .keep 17, .keep 18, .keep 19, .ints [(.nth 81 (.mul (h0 83) (oN 8)))]] (ndAt (ndWayN P) 0).items)) (.asm (asmC (outAt cHas.outs 1) [.ints [(h0 82)], .ints [(h0 83)]]) (.ret 0 [.keep 16, .keep 17, .keep 18, .keep 19]))))
def n_WayN_0 (P : Program) : VT := (.branch (.lt (oN 0) (.nth 81 (.add (.mul (h0 83) (oN 8)) (oN 1))))
(.new (.new (.new (.obl (oblC cPutA [.ints [(.nth 81 (.add (.mul (h0 83) (oN 8)) (oN 2))), (.nth 81 (.add (.add (.mul (h0 83) (oN 8)) (oN 2)) (oN 1))), (.nth 81 (.add (.add (.mul (h0 83) (oN 8)) (oN 2)) (oN 2))), (.nth 81 (.add (.add (.mul (h0 83) (oN 8)) (oN 2)) (oN 3))), (.nth 81 (.add (.add (.mul (h0 83) (oN 8)) (oN 2)) (oN 4))), (.nth 81 (.add (.add (.mul (h0 83) (oN 8)) (oN 2)) (oN 5)))], .ints [(h0 83)]]) (.new (.asm (asmC (outAt cPutA.outs 0) [.ints [(.nth 81 (.add (.mul (h0 83) (oN 8)) (oN 2))), (.nth 81 (.add (.add (.mul (h0 83) (oN 8)) (oN 2)) (oN 1))), (.nth 81 (.add (.add (.mul (h0 83) (oN 8)) (oN 2)) (oN 2))), (.nth 81 (.add (.add (.mul (h0 83) (oN 8)) (oN 2)) (oN 3))), (.nth 81 (.add (.add (.mul (h0 83) (oN 8)) (oN 2)) (oN 4))), (.nth 81 (.add (.add (.mul (h0 83) (oN 8)) (oN 2)) (oN 5)))], .ints [(h0 83)], .keep 24]) (.jump 1 [.keep 16, .keep 17, .keep 18, .keep 19, .ints [(h0 84), (h0 88)], .keep 23, .ints [(.nth 81 (.add (.add (.mul (h0 83) (oN 8)) (oN 2)) (oN 5)))]] (ndAt (ndWayN P) 1).items)))))))
(.ret 1 [.keep 16, .keep 17, .keep 18, .keep 19, .ints [(h0 84)]]))
def n_WayN_1 (P : Program) : VT := (.branch (.lt (oN 0) (.nth 81 (.add (.mul (hN 84 1) (oN 8)) (oN 1))))
(.new (.new (.new (.asm (appAsm 25 (.whole 86) (.lits [(.nth 81 (.add (.add (.mul (hN 84 1) (oN 8)) (oN 2)) (oN 5)))])) (.new (.obl (oblC cPutA [.ints [(.nth 81 (.add (.mul (hN 84 1) (oN 8)) (oN 2))), (.nth 81 (.add (.add (.mul (hN 84 1) (oN 8)) (oN 2)) (oN 1))), (.nth 81 (.add (.add (.mul (hN 84 1) (oN 8)) (oN 2)) (oN 2))), (.nth 81 (.add (.add (.mul (hN 84 1) (oN 8)) (oN 2)) (oN 3))), (.nth 81 (.add (.add (.mul (hN 84 1) (oN 8)) (oN 2)) (oN 4))), (.nth 81 (.add (.add (.mul (hN 84 1) (oN 8)) (oN 2)) (oN 5)))], .ints [(hN 84 1)]]) (.new (.asm (asmC (outAt cPutA.outs 0) [.ints [(.nth 81 (.add (.mul (hN 84 1) (oN 8)) (oN 2))), (.nth 81 (.add (.add (.mul (hN 84 1) (oN 8)) (oN 2)) (oN 1))), (.nth 81 (.add (.add (.mul (hN 84 1) (oN 8)) (oN 2)) (oN 2))), (.nth 81 (.add (.add (.mul (hN 84 1) (oN 8)) (oN 2)) (oN 3))), (.nth 81 (.add (.add (.mul (hN 84 1) (oN 8)) (oN 2)) (oN 4))), (.nth 81 (.add (.add (.mul (hN 84 1) (oN 8)) (oN 2)) (oN 5)))], .ints [(hN 84 1)], .keep 27]) (.jump 1 [.keep 16, .keep 17, .keep 18, .keep 19, .ints [(h0 84), (h0 91)], .keep 26, .lst 89] (ndAt (ndWayN P) 1).items)))))))))
(.bad 1))
def e_CheapN (P : Program) : VT := (.new (.branch (.not (.eq (.bits .andNot .i64 (h0 80) (oN 63)) (oN 0)))
 (.new (.new
(.bad 1)))
 (.branch (.not (.eq (.bits .andNot .i64 (hN 80 1) (oN 63)) (oN 0)))
 (.new (.new
(.bad 1)))
 (.new (.new (.new (.obl (oblC cTollsN [.ints [(hN 80 1)]]) (.new (.new (.new (.asm (asmC (outAt cTollsN.outs 0) [.ints [(hN 80 1)], .keep 21, .keep 22, .keep 23]) (.obl (oblC cWayN [.keep 21, .lst 86, .ints [(h0 87)], .ints [(h0 80)]]) (.both (.asm (asmC (outAt cWayN.outs 0) [.keep 21, .lst 86, .ints [(h0 87)], .ints [(h0 80)]]) (.ret 0 [.keep 16])) (.new (.asm (asmC (outAt cWayN.outs 1) [.keep 21, .lst 86, .ints [(h0 87)], .ints [(h0 80)], .keep 24]) (.ret 1 [.keep 16, .ints [(h0 88)]]))))))))))))))))
def e_Pass (P : Program) : VT := (.obl (oblC cFaults [.keep 16, .keep 17, .ints [(h0 82)], .ints [(h0 83), (hN 83 1)]]) (.new (.new (.asm (asmC (outAt cFaults.outs 0) [.keep 16, .keep 17, .ints [(h0 82)], .ints [(h0 83), (hN 83 1)], .keep 20, .keep 21]) (.obl (oblC cFaults [.keep 16, .keep 17, .ints [(h0 82)], .ints [(h0 84), (hN 84 1)]]) (.new (.new (.asm (asmC (outAt cFaults.outs 0) [.keep 16, .keep 17, .ints [(h0 82)], .ints [(h0 84), (hN 84 1)], .keep 22, .keep 23]) (.ret 0 [.keep 16, .keep 17, .keep 18, .keep 19, .ints [(h0 86), (hN 86 1)], .ints [(.bits .or .i64 (.bits .andNot .i64 (oN 63) (.wrap .i64 (.sub (.wrap .i64 (.shl .i64 (oN 1) (h0 82))) (oN 1)))) (.bits .and .i64 (h0 85) (h0 87)))]])))))))))
end Ft
set_option linter.unusedVariables false
set_option linter.unusedSimpArgs false
open Go Mv Mw
namespace Ft
set_option maxRecDepth 20000 in
theorem v_TollsN (P : Program) (ρ : Env) (hv : vals ρ) (hΓ : Γ0.On ρ) (hl : ρ.k.length = 17) (hp : cTollsN.pre ρ) : VC cTollsN (ndTollsN P) none ρ (e_TollsN P) := by
 unfold e_TollsN
 simp only [VC, oblC, asmC, appAsm, outAt, ndAt, allTrue, ve, BE.den, LX.den, nv, li, rowP, tT, ndTollsN, cTollsN, mel] at hp ⊢
 simp only [vb, bdList, hl, IE.den, forall_eq', implies_true, reduceIte, reduceCtorEq, Nat.reduceAdd, Nat.reduceSub, Nat.reduceLeDiff, Nat.reduceLT, Nat.reduceEqDiff] at hp ⊢
 intro _ _ _ _
 refine ⟨hp, by rfl, ⟨by omega, by omega⟩, by omega, by omega, fun m hm => ⟨fun h => ?_, fun h => by omega⟩⟩
 rw [show (0 : Int) = ((0 : Nat) : Int) from rfl, hasU_nat (by decide) hm, Nat.zero_testBit] at h
 cases h
theorem v_TollsN_0 (P : Program) (ρ : Env) (hv : vals ρ) (hΓ : Γ0.On ρ) (hl : ρ.k.length = 21) (hp : (ndAt (ndTollsN P) 0).inv ρ) : VC cTollsN (ndTollsN P) (some ((ndAt (ndTollsN P) 0).mu ρ)) ρ (n_TollsN_0 P) := by
 simp only [VC, oblC, asmC, appAsm, outAt, ndAt, allTrue, ve, BE.den, LX.den, nv, li, rowP, tT, n_TollsN_0, ndTollsN, cTollsN, mel, noT] at hp ⊢
 simp only [vb, bdList, hl, IE.den, forall_eq', implies_true, reduceIte, reduceCtorEq, Nat.reduceAdd, Nat.reduceSub, Nat.reduceLeDiff, Nat.reduceLT, Nat.reduceEqDiff] at hp ⊢
 obtain ⟨p0, hz, hC, i0, i1, hh⟩ := hp
 generalize (ρ.list 84).getD 0 0 = i at *
 generalize (ρ.list 80).getD 0 0 = a at *
 generalize (ρ.list 83).getD 0 0 = C at *
 rw [hz]
 obtain ⟨k, rfl⟩ := nat_of i0
 simp only [Int.toNat_natCast] at *
 have W : bitsOf .or .u64 C (IntKind.u64.wrap (2 ^ Nat.min k 64)) = withU C k := by unfold withU; rw [Int.one_mul, Int.toNat_natCast]
 rw [W]
 refine ⟨fun hk => ⟨fun h => ⟨⟨p0, trivial, withU_rng hC.1 hC.2 (by omega), by omega, by omega, fun m hm => ?_⟩, by omega⟩, fun h => ⟨⟨p0, trivial, hC, by omega, by omega, fun m hm => ?_⟩, by omega⟩⟩, fun hk => ?_⟩
 ·rw [hasU_withU hC.1 hC.2 (by omega) hm, Bool.or_eq_true, hh m hm, decide_eq_true_eq]
  have : gP a k = true := by unfold gP andI; simp [h]
  by_cases e : k = m
  ·subst e
   exact ⟨fun _ => ⟨by omega, this⟩, fun _ => .inr rfl⟩
  ·exact ⟨fun h => h.elim (fun h => ⟨by omega, h.2⟩) fun h => absurd h e, fun h => .inl ⟨by omega, h.2⟩⟩
 ·rw [hh m hm]
  have : ¬ gP a k = true := by unfold gP andI; simp [h]
  by_cases e : k = m
  ·subst e
   exact ⟨fun h => absurd h.2 this, fun h => absurd h.2 this⟩
  ·exact ⟨fun h => ⟨by omega, h.2⟩, fun h => ⟨by omega, h.2⟩⟩
 ·refine ⟨⟨⟨trivial, hC, fun m hm => ?_⟩, by omega, by omega⟩, by omega⟩
  rw [hh m hm]
  exact ⟨fun h => h.2, fun h => ⟨by omega, h⟩⟩
theorem v_TollsN_1 (P : Program) (ρ : Env) (hv : vals ρ) (hΓ : Γ0.On ρ) (hl : ρ.k.length = 21) (hp : (ndAt (ndTollsN P) 1).inv ρ) : VC cTollsN (ndTollsN P) (some ((ndAt (ndTollsN P) 1).mu ρ)) ρ (n_TollsN_1 P) := by
 simp only [VC, oblC, asmC, appAsm, outAt, ndAt, allTrue, ve, BE.den, LX.den, nv, li, rowP, tT, n_TollsN_1, ndTollsN, cTollsN, mel] at hp ⊢
 simp only [vb, bdList, hl, IE.den, forall_eq', implies_true, reduceIte, reduceCtorEq, Nat.reduceAdd, Nat.reduceSub, Nat.reduceLeDiff, Nat.reduceLT, Nat.reduceEqDiff] at hp ⊢
 obtain ⟨p0, i0, i1⟩ := hp
 exact ⟨fun _ => ⟨⟨p0, by omega, by omega⟩, by omega⟩, fun _ => p0⟩
theorem v_WayN (P : Program) (ρ : Env) (hv : vals ρ) (hΓ : Γ0.On ρ) (hl : ρ.k.length = 20) (hp : cWayN.pre ρ) : VC cWayN (ndWayN P) none ρ (e_WayN P) := by
 simp only [VC, oblC, asmC, appAsm, outAt, ndAt, allTrue, ve, BE.den, LX.den, nv, li, rowP, tT, e_WayN, ndWayN, cWayN, mel, cHas, cHas0, Con.split, oHas0] at hp ⊢
 simp only [vb, bdList, hl, IE.den, forall_eq', implies_true, reduceIte, reduceCtorEq, Nat.reduceAdd, Nat.reduceSub, Nat.reduceLeDiff, Nat.reduceLT, Nat.reduceEqDiff] at hp ⊢
 refine ⟨hp.1, fun h => ⟨hp.1, hp.2, h, ?_⟩, fun h => h⟩
 rw [hp.2, zer_get]
theorem v_WayN_0 (P : Program) (ρ : Env) (hv : vals ρ) (hΓ : Γ0.On ρ) (hl : ρ.k.length = 21) (hp : (ndAt (ndWayN P) 0).inv ρ) : VC cWayN (ndWayN P) (some ((ndAt (ndWayN P) 0).mu ρ)) ρ (n_WayN_0 P) := by
 simp only [VC, oblC, asmC, appAsm, outAt, ndAt, allTrue, ve, BE.den, LX.den, nv, li, rowP, tT, n_WayN_0, ndWayN, cWayN, mel, cPutA] at hp ⊢
 simp only [vb, bdList, hl, IE.den, forall_eq', implies_true, reduceIte, reduceCtorEq, Nat.reduceAdd, Nat.reduceSub, Nat.reduceLeDiff, Nat.reduceLT, Nat.reduceEqDiff] at hp ⊢
 obtain ⟨h1, h2, h3, h4⟩ := hp
 rw [h2]
 simp only [zer_get]
 exact ⟨fun h => absurd h (by decide), fun _ => ⟨h3, h4⟩⟩
theorem v_WayN_1 (P : Program) (ρ : Env) (hv : vals ρ) (hΓ : Γ0.On ρ) (hl : ρ.k.length = 23) (hp : (ndAt (ndWayN P) 1).inv ρ) : VC cWayN (ndWayN P) (some ((ndAt (ndWayN P) 1).mu ρ)) ρ (n_WayN_1 P) := by
 exact False.elim hp
theorem v_CheapN (P : Program) (ρ : Env) (hv : vals ρ) (hΓ : Γ0.On ρ) (hl : ρ.k.length = 17) (hp : cCheapN.pre ρ) : VC cCheapN (ndCheapN P) none ρ (e_CheapN P) := by
 simp only [VC, oblC, asmC, appAsm, outAt, ndAt, allTrue, ve, BE.den, LX.den, nv, li, rowP, tT, e_CheapN, ndCheapN, cCheapN, mel, cTollsN, cWayN, noT] at hp ⊢
 simp only [vb, bdList, hl, IE.den, forall_eq', implies_true, reduceIte, reduceCtorEq, Nat.reduceAdd, Nat.reduceSub, Nat.reduceLeDiff, Nat.reduceLT, Nat.reduceEqDiff] at hp ⊢
 obtain ⟨m0, p0⟩ := hp
 have h0 := andNot63 m0.1 (show (ρ.list 80).getD 0 0 < 2 ^ 6 by omega)
 have h1 := andNot63 p0.1 (show (ρ.list 80).getD 1 0 < 2 ^ 6 by omega)
 generalize (ρ.list 80).getD 0 0 = m at *
 obtain ⟨k, rfl⟩ := nat_of m0.1
 intro _ _
 refine ⟨fun h => absurd h0 h, fun _ => ⟨fun h => absurd h1 h, fun _ _ _ _ _ _ _ => ⟨p0, ?_⟩⟩⟩
 rintro _ _ _ r _ r1 ⟨z, c, hh⟩
 have hk := hh k (by omega)
 refine ⟨⟨m0, z⟩, fun h => ?_, fun _ r2 h => ⟨h.2, hk.1 h.1⟩⟩
 rw [h] at hk
 rw [Int.toNat_natCast]
 cases hg : gP ((ρ.list 80).getD 1 0) k with
 | false => rfl
 | true => exact absurd (hk.2 hg) (by decide)
theorem v_Cheap (P : Program) (ρ : Env) (hv : vals ρ) (hΓ : Γ0.On ρ) (hl : ρ.k.length = 20) (hp : cCheap.pre ρ) : VC cCheap (ndCheap P) none ρ (e_Cheap P) := by
 simp only [VC, oblC, asmC, appAsm, outAt, ndAt, allTrue, ve, BE.den, LX.den, nv, li, rowP, tT, e_Cheap, ndCheap, cCheap, mel, cAt1, cTolls, cWayT, pA, pTl, nT, pWt, nB, nL] at hp ⊢
 simp only [vb, bdList, hl, IE.den, forall_eq', implies_true, reduceIte, reduceCtorEq, Nat.reduceAdd, Nat.reduceSub, Nat.reduceLeDiff, Nat.reduceLT, Nat.reduceEqDiff] at hp ⊢
 obtain ⟨⟨n0, hag⟩, m0, p0⟩ := hp
 have h0 := andNot63 m0.1 (show (ρ.list 83).getD 0 0 < 2 ^ 6 by omega)
 have h1 := andNot63 p0.1 (show (ρ.list 83).getD 1 0 < 2 ^ 6 by omega)
 generalize (ρ.list 83).getD 0 0 = m at *
 generalize (ρ.list 83).getD 1 0 = pass at *
 generalize ρ.list 81 = L at *
 generalize (ρ.list 82).getD 0 0 = N at *
 obtain ⟨n, rfl⟩ : ∃ k : Nat, N = k := nat_of (by omega)
 obtain ⟨k, rfl⟩ := nat_of m0.1
 simp only [Int.toNat_natCast] at *
 have hB := bench_ok hag
 have hk : k < 64 := by omega
 intro _ _
 refine ⟨fun h => absurd h0 h, fun _ => ⟨fun h => absurd h1 h, fun _ _ _ => ⟨⟨n0, hag⟩, ?_⟩⟩⟩
 rintro _ _ _ r ⟨-, q1, q2⟩ _ _
 have ht := len_tdiv6 (L := List.map intOf r) (c := (n : Int)) (by omega) q2
 rw [ht, q1, Int.toNat_natCast]
 refine ⟨⟨n0, hB, p0⟩, ?_⟩
 intro _ _ _ r3 _ r4 hd
 generalize List.map intOf r3 = T at *
 generalize (List.map intOf r4).getD 0 0 = C at *
 refine ⟨⟨m0, n0, hB, ⟨_, hd⟩, fun h => hd.puts_le hB hk h⟩, fun h c hw => ?_, ?_, ?_⟩
 ·have := (hd.le hB hw).2.1
  rw [Int.toNat_natCast, h] at this
  cases this
 ·rintro _ r5 ⟨a1, a2, a3⟩
  have hg := hd.near hB hk a1 a2
  exact ⟨by rw [a3]; exact (hd.ok.goal k hk hg).2.1, hg⟩
 ·rintro _ r5 _ _ _ r7 ⟨a1, a2, a3, x, hw, a4⟩
  generalize List.map intOf r7 = W at *
  rw [a2] at hw ⊢
  have hmx := hw.mel
  obtain ⟨y, rfl⟩ := nat_of hmx.1
  have hy : y < 64 := by omega
  have hputs := hw.puts
  have hcost := hw.cost
  simp only [Int.toNat_natCast] at *
  have hgy := hd.near hB hy hw.has a4
  have hfar := hd.far hk (by omega)
  obtain ⟨e, he⟩ := nat_of (hd.ok.rng k hk).1.1
  refine ⟨⟨hd.wy hB e k hk a1 he, fun d hw => (hd.le hB hw).2.2⟩, ?_, ⟨hw.up, ?_, ?_⟩, hfar, a3⟩
  ·obtain ⟨j, j1, j2, j3⟩ := hd.first hB hk a1 (by omega)
   exact ⟨j, j1, j2, j3⟩
  ·have := hw.at_
   unfold runL
   rw [← this]
   exact hgy
  ·unfold sumL
   rw [(hd.ok.goal y hy hgy).2.1] at hcost
   omega
theorem v_Pass (P : Program) (ρ : Env) (hv : vals ρ) (hΓ : Γ0.On ρ) (hl : ρ.k.length = 20) (hp : cPass.pre ρ) : VC cPass (ndPass P) none ρ (e_Pass P) := by
 simp only [VC, oblC, asmC, appAsm, outAt, ndAt, allTrue, ve, BE.den, LX.den, nv, li, rowP, tT, e_Pass, ndPass, cPass, mel, cFaults] at hp ⊢
 simp only [vb, bdList, hl, IE.den, forall_eq', implies_true, reduceIte, reduceCtorEq, Nat.reduceAdd, Nat.reduceSub, Nat.reduceLeDiff, Nat.reduceLT, Nat.reduceEqDiff] at hp ⊢
 obtain ⟨p0, a0, a1, f0, f1⟩ := hp
 generalize (ρ.list 82).getD 0 0 = few at *
 refine ⟨⟨p0, a0, by omega, f0, f1⟩, ?_⟩
 rintro _ r _ r1 ⟨b1, b2, b3, b4, -⟩
 refine ⟨⟨p0, by omega, by omega, f0, f1⟩, ?_⟩
 rintro _ r2 _ r3 ⟨c1, c2, c3, c4, -⟩
 have b5 := pow_le63 b4 f1
 have c5 := pow_le63 c4 f1
 obtain ⟨q, rfl⟩ := nat_of f0
 rw [Int.toNat_natCast]
 have h1 : ∀ k : Nat, k < 7 → 0 ≤ bitsOf .andNot .i64 63 (IntKind.i64.wrap (IntKind.i64.wrap (2 ^ Nat.min k 64) - 1)) ∧ bitsOf .andNot .i64 63 (IntKind.i64.wrap (IntKind.i64.wrap (2 ^ Nat.min k 64) - 1)) < 2 ^ 6 := by decide
 obtain ⟨u1, u2⟩ := h1 q (by omega)
 have v := and_rng (k := 6) (by decide) b3 (show _ < 2 ^ 6 by omega) c3 (by omega)
 have := or_rng (k := 6) (by decide) u1 u2 v.1 v.2
 exact ⟨by omega, by omega, by omega, by omega⟩
end Ft
set_option linter.unusedVariables false
set_option linter.unusedSimpArgs false
open Go Mv Mw Go.Proofs
namespace Ft
theorem cf_PutA : ∀ ρ, cPutA.pre ρ → ∀ b ∈ cPutA.fs, b.den ρ = true := by
 simp only [cPutA, fM, mel, fT, fBn, fImp, pImp, okP, nB, fTl, pTl, nT, pWt, pA, fA, agsV, noT, nL, goOn_, allTrue, sd, implies_true, IE.den, nm_, ge0, leN, nv, li, tT, Nat.reduceAdd]
 try (repeat' first | apply And.intro | intro _) <;> omega
theorem of_PutA : ∀ o ∈ cPutA.outs, ∀ ρ, o.post ρ → ∀ b ∈ o.fs, b.den ρ = true := by
 simp only [cPutA, fM, mel, fT, fBn, fImp, pImp, okP, nB, fTl, pTl, nT, pWt, pA, fA, agsV, noT, nL, goOn_, allTrue, sd, implies_true, IE.den, nm_, ge0, leN, nv, li, tT, Nat.reduceAdd]
 try (repeat' first | apply And.intro | intro _) <;> omega
theorem nf_PutA (P : Program) : ∀ nd ∈ ndPutA P, ∀ ρ, nd.inv ρ → ∀ b ∈ nd.fs, b.den ρ = true := by
 simp only [ndPutA, fM, mel, fT, fBn, fImp, pImp, okP, nB, fTl, pTl, nT, pWt, pA, fA, agsV, noT, nL, goOn_, allTrue, sd, implies_true, IE.den, nm_, ge0, leN, nv, li, tT, Nat.reduceAdd]
 try (repeat' first | apply And.intro | intro _) <;> omega
theorem ok_PutA (mm : Bool) : cPutA.Ok Tryz.prog mm Γ0 :=
 con_by (X := Xt Tryz.prog) (cons := consPutA) (nds := ndPutA Tryz.prog) (T0 := e_PutA Tryz.prog) (hkT_ok _) (fun d hd => by
  rcases List.mem_cons.1 hd with rfl | hd
  ·exact ok_May mm
  cases hd) (by kernel_rfl) (by kernel_rfl) rfl (by kernel_rfl) cf_PutA of_PutA (nf_PutA _) (by kernel_rfl) (fun ρ hv hΓ hl hp => v_PutA Tryz.prog ρ hv hΓ hl hp) trivial
theorem cf_Thr : ∀ ρ, cThr.pre ρ → ∀ b ∈ cThr.fs, b.den ρ = true := by
 simp only [cThr, fM, mel, fT, fBn, fImp, pImp, okP, nB, fTl, pTl, nT, pWt, pA, fA, agsV, noT, nL, goOn_, allTrue, sd, implies_true, IE.den, nm_, ge0, leN, nv, li, tT, Nat.reduceAdd]
 try rintro ρ ⟨h1, h2, h3⟩; have := h2.1; omega
theorem of_Thr : ∀ o ∈ cThr.outs, ∀ ρ, o.post ρ → ∀ b ∈ o.fs, b.den ρ = true := by
 simp only [cThr, fM, mel, fT, fBn, fImp, pImp, okP, nB, fTl, pTl, nT, pWt, pA, fA, agsV, noT, nL, goOn_, allTrue, sd, implies_true, IE.den, nm_, ge0, leN, nv, li, tT, Nat.reduceAdd]
 try (repeat' first | apply And.intro | intro _) <;> omega
theorem nf_Thr (P : Program) : ∀ nd ∈ ndThr P, ∀ ρ, nd.inv ρ → ∀ b ∈ nd.fs, b.den ρ = true := by
 simp only [ndThr, fM, mel, fT, fBn, fImp, pImp, okP, nB, fTl, pTl, nT, pWt, pA, fA, agsV, noT, nL, goOn_, allTrue, sd, implies_true, IE.den, nm_, ge0, leN, nv, li, tT, Nat.reduceAdd]
 try (repeat' first | apply And.intro | intro _) <;> omega
theorem ok_Thr (mm : Bool) : cThr.Ok Tryz.prog mm Γ0 :=
 con_by (X := Xt Tryz.prog) (cons := consThr) (nds := ndThr Tryz.prog) (T0 := e_Thr Tryz.prog) (hkT_ok _) (fun d hd => by
  rcases List.mem_cons.1 hd with rfl | hd
  ·exact ok_May mm
  rcases List.mem_cons.1 hd with rfl | hd
  ·exact ok_Has mm
  rcases List.mem_cons.1 hd with rfl | hd
  ·exact ok_PutA mm
  cases hd) (by kernel_rfl) (by kernel_rfl) rfl (by kernel_rfl) cf_Thr of_Thr (nf_Thr _) (by kernel_rfl) (fun ρ hv hΓ hl hp => v_Thr Tryz.prog ρ hv hΓ hl hp) trivial
theorem cf_Imp : ∀ ρ, cImp.pre ρ → ∀ b ∈ cImp.fs, b.den ρ = true := by
 simp only [cImp, fM, mel, fT, fBn, fImp, pImp, okP, nB, fTl, pTl, nT, pWt, pA, fA, agsV, noT, nL, goOn_, allTrue, sd, implies_true, IE.den, nm_, ge0, leN, nv, li, tT, Nat.reduceAdd]
 try rintro ρ ⟨h1, h2, h3, g, h4⟩; have a := h3.len; have b := h3.few; have c := h4.len; omega
theorem of_Imp : ∀ o ∈ cImp.outs, ∀ ρ, o.post ρ → ∀ b ∈ o.fs, b.den ρ = true := by
 simp only [cImp, fM, mel, fT, fBn, fImp, pImp, okP, nB, fTl, pTl, nT, pWt, pA, fA, agsV, noT, nL, goOn_, allTrue, sd, implies_true, IE.den, nm_, ge0, leN, nv, li, tT, Nat.reduceAdd]
 try rintro ρ ⟨h1, -⟩; omega
theorem nf_Imp (P : Program) : ∀ nd ∈ ndImp P, ∀ ρ, nd.inv ρ → ∀ b ∈ nd.fs, b.den ρ = true := by
 simp only [ndImp, fM, mel, fT, fBn, fImp, pImp, okP, nB, fTl, pTl, nT, pWt, pA, fA, agsV, noT, nL, goOn_, allTrue, sd, implies_true, IE.den, nm_, ge0, leN, nv, li, tT, Nat.reduceAdd]
 try exact ⟨by rintro ρ ⟨⟨h1, h2, h3, g, h4⟩, h5, h6, -⟩; have a := h3.len; have b := h3.few; have c := h4.len; omega, by rintro ρ ⟨⟨h1, h2, h3, g, h4⟩, h5, h6, h7, -⟩; have a := h3.len; have b := h3.few; have c := h4.len; omega⟩
theorem ok_Imp (mm : Bool) : cImp.Ok Tryz.prog mm Γ0 :=
 con_by (X := Xt Tryz.prog) (cons := consImp) (nds := ndImp Tryz.prog) (T0 := e_Imp Tryz.prog) (hkT_ok _) (fun d hd => by
  rcases List.mem_cons.1 hd with rfl | hd
  ·exact ok_Thr mm
  rcases List.mem_cons.1 hd with rfl | hd
  ·exact ok_Has mm
  rcases List.mem_cons.1 hd with rfl | hd
  ·exact ok_Cmp mm
  cases hd) (by kernel_rfl) (by kernel_rfl) rfl (by kernel_rfl) cf_Imp of_Imp (nf_Imp _) (by kernel_rfl) (fun ρ hv hΓ hl hp => v_Imp Tryz.prog ρ hv hΓ hl hp) ⟨⟨n_Imp_0 Tryz.prog, by kernel_rfl, fun ρ hv hΓ hl hi => v_Imp_0 Tryz.prog ρ hv hΓ hl hi⟩, ⟨⟨n_Imp_1 Tryz.prog, by kernel_rfl, fun ρ hv hΓ hl hi => v_Imp_1 Tryz.prog ρ hv hΓ hl hi⟩, trivial⟩⟩
theorem cf_Tolls : ∀ ρ, cTolls.pre ρ → ∀ b ∈ cTolls.fs, b.den ρ = true := by
 simp only [cTolls, fM, mel, fT, fBn, fImp, pImp, okP, nB, fTl, pTl, nT, pWt, pA, fA, agsV, noT, nL, goOn_, allTrue, sd, implies_true, IE.den, nm_, ge0, leN, nv, li, tT, Nat.reduceAdd]
 try rintro ρ ⟨h1, h3, h4⟩; have a := h3.len; have b := h3.few; omega
theorem of_Tolls : ∀ o ∈ cTolls.outs, ∀ ρ, o.post ρ → ∀ b ∈ o.fs, b.den ρ = true := by
 simp only [cTolls, fM, mel, fT, fBn, fImp, pImp, okP, nB, fTl, pTl, nT, pWt, pA, fA, agsV, noT, nL, goOn_, allTrue, sd, implies_true, IE.den, nm_, ge0, leN, nv, li, tT, Nat.reduceAdd]
 try intro ρ h; have c := h.ok.len; omega
theorem nf_Tolls (P : Program) : ∀ nd ∈ ndTolls P, ∀ ρ, nd.inv ρ → ∀ b ∈ nd.fs, b.den ρ = true := by
 simp only [ndTolls, fM, mel, fT, fBn, fImp, pImp, okP, nB, fTl, pTl, nT, pWt, pA, fA, agsV, noT, nL, goOn_, allTrue, sd, implies_true, IE.den, nm_, ge0, leN, nv, li, tT, Nat.reduceAdd]
 try exact ⟨by rintro ρ ⟨⟨h1, h3, h4⟩, z, -, h5, h6, -⟩; have a := h3.len; have b := h3.few; have c := congrArg List.length z; rw [zer_len] at c; omega, by rintro ρ ⟨⟨h1, h3, h4⟩, h7, h5, h6, -⟩; have a := h3.len; have b := h3.few; have c := h7.len; omega, by rintro ρ ⟨⟨h1, h3, h4⟩, h7, h5, h6⟩; have a := h3.len; have b := h3.few; have c := h7.len; omega⟩
theorem ok_Tolls (mm : Bool) : cTolls.Ok Tryz.prog mm Γ0 :=
 con_by (X := Xt Tryz.prog) (cons := consTolls) (nds := ndTolls Tryz.prog) (T0 := e_Tolls Tryz.prog) (hkT_ok _) (fun d hd => by
  rcases List.mem_cons.1 hd with rfl | hd
  ·exact ok_Imp mm
  cases hd) (by kernel_rfl) (by kernel_rfl) rfl (by kernel_rfl) cf_Tolls of_Tolls (nf_Tolls _) (by kernel_rfl) (fun ρ hv hΓ hl hp => v_Tolls Tryz.prog ρ hv hΓ hl hp) ⟨⟨n_Tolls_0 Tryz.prog, by kernel_rfl, fun ρ hv hΓ hl hi => v_Tolls_0 Tryz.prog ρ hv hΓ hl hi⟩, ⟨⟨n_Tolls_1 Tryz.prog, by kernel_rfl, fun ρ hv hΓ hl hi => v_Tolls_1 Tryz.prog ρ hv hΓ hl hi⟩, ⟨⟨n_Tolls_2 Tryz.prog, by kernel_rfl, fun ρ hv hΓ hl hi => v_Tolls_2 Tryz.prog ρ hv hΓ hl hi⟩, trivial⟩⟩⟩
theorem cf_WayT : ∀ ρ, cWayT.pre ρ → ∀ b ∈ cWayT.fs, b.den ρ = true := by
 simp only [cWayT, fM, mel, fT, fBn, fImp, pImp, okP, nB, fTl, pTl, nT, pWt, pA, fA, agsV, noT, nL, goOn_, allTrue, sd, implies_true, IE.den, nm_, ge0, leN, nv, li, tT, Nat.reduceAdd]
 try rintro ρ ⟨h1, h2, h3, ⟨g, h4⟩, -⟩; have a := h3.len; have b := h3.few; have c := h4.ok.len; omega
theorem of_WayT : ∀ o ∈ cWayT.outs, ∀ ρ, o.post ρ → ∀ b ∈ o.fs, b.den ρ = true := by
 simp only [cWayT, fM, mel, fT, fBn, fImp, pImp, okP, nB, fTl, pTl, nT, pWt, pA, fA, agsV, noT, nL, goOn_, allTrue, sd, implies_true, IE.den, nm_, ge0, leN, nv, li, tT, Nat.reduceAdd]
 try (repeat' first | apply And.intro | intro _) <;> omega
theorem nf_WayT (P : Program) : ∀ nd ∈ ndWayT P, ∀ ρ, nd.inv ρ → ∀ b ∈ nd.fs, b.den ρ = true := by
 simp only [ndWayT, fM, mel, fT, fBn, fImp, pImp, okP, nB, fTl, pTl, nT, pWt, pA, fA, agsV, noT, nL, goOn_, allTrue, sd, implies_true, IE.den, nm_, ge0, leN, nv, li, tT, Nat.reduceAdd]
 try exact ⟨by rintro ρ ⟨⟨h1, h2, h3, ⟨g, h4⟩, -⟩, -⟩; have a := h3.len; have b := h3.few; have c := h4.ok.len; omega, by rintro ρ ⟨⟨h1, h2, h3, ⟨g, h4⟩, -⟩, -, -, h5, h6⟩; have a := h3.len; have b := h3.few; have c := h4.ok.len; have d := h6.mel; omega⟩
theorem ok_WayT (mm : Bool) : cWayT.Ok Tryz.prog mm Γ0 :=
 con_by (X := Xt Tryz.prog) (cons := consWayT) (nds := ndWayT Tryz.prog) (T0 := e_WayT Tryz.prog) (hkT_ok _) (fun d hd => by
  rcases List.mem_cons.1 hd with rfl | hd
  ·exact ok_Has mm
  rcases List.mem_cons.1 hd with rfl | hd
  ·exact ok_PutA mm
  cases hd) (by kernel_rfl) (by kernel_rfl) rfl (by kernel_rfl) cf_WayT of_WayT (nf_WayT _) (by kernel_rfl) (fun ρ hv hΓ hl hp => v_WayT Tryz.prog ρ hv hΓ hl hp) ⟨⟨n_WayT_0 Tryz.prog, by kernel_rfl, fun ρ hv hΓ hl hi => v_WayT_0 Tryz.prog ρ hv hΓ hl hi⟩, ⟨⟨n_WayT_1 Tryz.prog, by kernel_rfl, fun ρ hv hΓ hl hi => v_WayT_1 Tryz.prog ρ hv hΓ hl hi⟩, trivial⟩⟩
theorem cf_TollsN : ∀ ρ, cTollsN.pre ρ → ∀ b ∈ cTollsN.fs, b.den ρ = true := by
 simp only [cTollsN, fM, mel, fT, fBn, fImp, pImp, okP, nB, fTl, pTl, nT, pWt, pA, fA, agsV, noT, nL, goOn_, allTrue, sd, implies_true, IE.den, nm_, ge0, leN, nv, li, tT, Nat.reduceAdd]
 try (repeat' first | apply And.intro | intro _) <;> omega
theorem of_TollsN : ∀ o ∈ cTollsN.outs, ∀ ρ, o.post ρ → ∀ b ∈ o.fs, b.den ρ = true := by
 simp only [cTollsN, fM, mel, fT, fBn, fImp, pImp, okP, nB, fTl, pTl, nT, pWt, pA, fA, agsV, noT, nL, goOn_, allTrue, sd, implies_true, IE.den, nm_, ge0, leN, nv, li, tT, Nat.reduceAdd]
 try rintro ρ ⟨z, -⟩; have c := congrArg List.length z; rw [zer_len] at c; omega
theorem nf_TollsN (P : Program) : ∀ nd ∈ ndTollsN P, ∀ ρ, nd.inv ρ → ∀ b ∈ nd.fs, b.den ρ = true := by
 simp only [ndTollsN, fM, mel, fT, fBn, fImp, pImp, okP, nB, fTl, pTl, nT, pWt, pA, fA, agsV, noT, nL, goOn_, allTrue, sd, implies_true, IE.den, nm_, ge0, leN, nv, li, tT, Nat.reduceAdd]
 try exact ⟨by rintro ρ ⟨h1, z, -, h5, h6, -⟩; have c := congrArg List.length z; rw [zer_len] at c; omega, by rintro ρ ⟨⟨z, -⟩, h5, h6⟩; have c := congrArg List.length z; rw [zer_len] at c; omega⟩
theorem ok_TollsN (mm : Bool) : cTollsN.Ok Tryz.prog mm Γ0 :=
 con_by (X := Xt Tryz.prog) (cons := consTollsN) (nds := ndTollsN Tryz.prog) (T0 := e_TollsN Tryz.prog) (hkT_ok _) (fun d hd => by cases hd) (by kernel_rfl) (by kernel_rfl) rfl (by kernel_rfl) cf_TollsN of_TollsN (nf_TollsN _) (by kernel_rfl) (fun ρ hv hΓ hl hp => v_TollsN Tryz.prog ρ hv hΓ hl hp) ⟨⟨n_TollsN_0 Tryz.prog, by kernel_rfl, fun ρ hv hΓ hl hi => v_TollsN_0 Tryz.prog ρ hv hΓ hl hi⟩, ⟨⟨n_TollsN_1 Tryz.prog, by kernel_rfl, fun ρ hv hΓ hl hi => v_TollsN_1 Tryz.prog ρ hv hΓ hl hi⟩, trivial⟩⟩
theorem cf_WayN : ∀ ρ, cWayN.pre ρ → ∀ b ∈ cWayN.fs, b.den ρ = true := by
 simp only [cWayN, fM, mel, fT, fBn, fImp, pImp, okP, nB, fTl, pTl, nT, pWt, pA, fA, agsV, noT, nL, goOn_, allTrue, sd, implies_true, IE.den, nm_, ge0, leN, nv, li, tT, Nat.reduceAdd]
 try rintro ρ ⟨h1, z⟩; have c := congrArg List.length z; rw [zer_len] at c; omega
theorem of_WayN : ∀ o ∈ cWayN.outs, ∀ ρ, o.post ρ → ∀ b ∈ o.fs, b.den ρ = true := by
 simp only [cWayN, fM, mel, fT, fBn, fImp, pImp, okP, nB, fTl, pTl, nT, pWt, pA, fA, agsV, noT, nL, goOn_, allTrue, sd, implies_true, IE.den, nm_, ge0, leN, nv, li, tT, Nat.reduceAdd]
 try (repeat' first | apply And.intro | intro _) <;> omega
theorem nf_WayN (P : Program) : ∀ nd ∈ ndWayN P, ∀ ρ, nd.inv ρ → ∀ b ∈ nd.fs, b.den ρ = true := by
 simp only [ndWayN, fM, mel, fT, fBn, fImp, pImp, okP, nB, fTl, pTl, nT, pWt, pA, fA, agsV, noT, nL, goOn_, allTrue, sd, implies_true, IE.den, nm_, ge0, leN, nv, li, tT, Nat.reduceAdd]
 try rintro ρ ⟨h1, z, -⟩; have c := congrArg List.length z; rw [zer_len] at c; omega
theorem ok_WayN (mm : Bool) : cWayN.Ok Tryz.prog mm Γ0 :=
 con_by (X := Xt Tryz.prog) (cons := consWayN) (nds := ndWayN Tryz.prog) (T0 := e_WayN Tryz.prog) (hkT_ok _) (fun d hd => by
  rcases List.mem_cons.1 hd with rfl | hd
  ·exact ok_Has mm
  rcases List.mem_cons.1 hd with rfl | hd
  ·exact ok_PutA mm
  cases hd) (by kernel_rfl) (by kernel_rfl) rfl (by kernel_rfl) cf_WayN of_WayN (nf_WayN _) (by kernel_rfl) (fun ρ hv hΓ hl hp => v_WayN Tryz.prog ρ hv hΓ hl hp) ⟨⟨n_WayN_0 Tryz.prog, by kernel_rfl, fun ρ hv hΓ hl hi => v_WayN_0 Tryz.prog ρ hv hΓ hl hi⟩, ⟨⟨n_WayN_1 Tryz.prog, by kernel_rfl, fun ρ hv hΓ hl hi => v_WayN_1 Tryz.prog ρ hv hΓ hl hi⟩, trivial⟩⟩
theorem cf_CheapN : ∀ ρ, cCheapN.pre ρ → ∀ b ∈ cCheapN.fs, b.den ρ = true := by
 simp only [cCheapN, fM, mel, fT, fBn, fImp, pImp, okP, nB, fTl, pTl, nT, pWt, pA, fA, agsV, noT, nL, goOn_, allTrue, sd, implies_true, IE.den, nm_, ge0, leN, nv, li, tT, Nat.reduceAdd]
 try (repeat' first | apply And.intro | intro _) <;> omega
theorem of_CheapN : ∀ o ∈ cCheapN.outs, ∀ ρ, o.post ρ → ∀ b ∈ o.fs, b.den ρ = true := by
 simp only [cCheapN, fM, mel, fT, fBn, fImp, pImp, okP, nB, fTl, pTl, nT, pWt, pA, fA, agsV, noT, nL, goOn_, allTrue, sd, implies_true, IE.den, nm_, ge0, leN, nv, li, tT, Nat.reduceAdd]
 try (repeat' first | apply And.intro | intro _) <;> omega
theorem nf_CheapN (P : Program) : ∀ nd ∈ ndCheapN P, ∀ ρ, nd.inv ρ → ∀ b ∈ nd.fs, b.den ρ = true := by
 simp only [ndCheapN, fM, mel, fT, fBn, fImp, pImp, okP, nB, fTl, pTl, nT, pWt, pA, fA, agsV, noT, nL, goOn_, allTrue, sd, implies_true, IE.den, nm_, ge0, leN, nv, li, tT, Nat.reduceAdd]
 try (repeat' first | apply And.intro | intro _) <;> omega
theorem ok_CheapN (mm : Bool) : cCheapN.Ok Tryz.prog mm Γ0 :=
 con_by (X := Xt Tryz.prog) (cons := consCheapN) (nds := ndCheapN Tryz.prog) (T0 := e_CheapN Tryz.prog) (hkT_ok _) (fun d hd => by
  rcases List.mem_cons.1 hd with rfl | hd
  ·exact ok_TollsN mm
  rcases List.mem_cons.1 hd with rfl | hd
  ·exact ok_WayN mm
  cases hd) (by kernel_rfl) (by kernel_rfl) rfl (by kernel_rfl) cf_CheapN of_CheapN (nf_CheapN _) (by kernel_rfl) (fun ρ hv hΓ hl hp => v_CheapN Tryz.prog ρ hv hΓ hl hp) trivial
theorem cf_Cheap : ∀ ρ, cCheap.pre ρ → ∀ b ∈ cCheap.fs, b.den ρ = true := by
 simp only [cCheap, fM, mel, fT, fBn, fImp, pImp, okP, nB, fTl, pTl, nT, pWt, pA, fA, agsV, noT, nL, goOn_, allTrue, sd, implies_true, IE.den, nm_, ge0, leN, nv, li, tT, Nat.reduceAdd]
 try (repeat' first | apply And.intro | intro _) <;> omega
theorem of_Cheap : ∀ o ∈ cCheap.outs, ∀ ρ, o.post ρ → ∀ b ∈ o.fs, b.den ρ = true := by
 simp only [cCheap, fM, mel, fT, fBn, fImp, pImp, okP, nB, fTl, pTl, nT, pWt, pA, fA, agsV, noT, nL, goOn_, allTrue, sd, implies_true, IE.den, nm_, ge0, leN, nv, li, tT, Nat.reduceAdd]
 try (repeat' first | apply And.intro | intro _) <;> omega
theorem nf_Cheap (P : Program) : ∀ nd ∈ ndCheap P, ∀ ρ, nd.inv ρ → ∀ b ∈ nd.fs, b.den ρ = true := by
 simp only [ndCheap, fM, mel, fT, fBn, fImp, pImp, okP, nB, fTl, pTl, nT, pWt, pA, fA, agsV, noT, nL, goOn_, allTrue, sd, implies_true, IE.den, nm_, ge0, leN, nv, li, tT, Nat.reduceAdd]
 try (repeat' first | apply And.intro | intro _) <;> omega
theorem ok_Cheap (mm : Bool) : cCheap.Ok Tryz.prog mm Γ0 :=
 con_by (X := Xt Tryz.prog) (cons := consCheap) (nds := ndCheap Tryz.prog) (T0 := e_Cheap Tryz.prog) (hkT_ok _) (fun d hd => by
  rcases List.mem_cons.1 hd with rfl | hd
  ·exact ok_At1 mm
  rcases List.mem_cons.1 hd with rfl | hd
  ·exact ok_Tolls mm
  rcases List.mem_cons.1 hd with rfl | hd
  ·exact ok_WayT mm
  cases hd) (by kernel_rfl) (by kernel_rfl) rfl (by kernel_rfl) cf_Cheap of_Cheap (nf_Cheap _) (by kernel_rfl) (fun ρ hv hΓ hl hp => v_Cheap Tryz.prog ρ hv hΓ hl hp) trivial
theorem cf_Pass : ∀ ρ, cPass.pre ρ → ∀ b ∈ cPass.fs, b.den ρ = true := by
 simp only [cPass, fM, mel, fT, fBn, fImp, pImp, okP, nB, fTl, pTl, nT, pWt, pA, fA, agsV, noT, nL, goOn_, allTrue, sd, implies_true, IE.den, nm_, ge0, leN, nv, li, tT, Nat.reduceAdd]
 try (repeat' first | apply And.intro | intro _) <;> omega
theorem of_Pass : ∀ o ∈ cPass.outs, ∀ ρ, o.post ρ → ∀ b ∈ o.fs, b.den ρ = true := by
 simp only [cPass, fM, mel, fT, fBn, fImp, pImp, okP, nB, fTl, pTl, nT, pWt, pA, fA, agsV, noT, nL, goOn_, allTrue, sd, implies_true, IE.den, nm_, ge0, leN, nv, li, tT, Nat.reduceAdd]
 try (repeat' first | apply And.intro | intro _) <;> omega
theorem nf_Pass (P : Program) : ∀ nd ∈ ndPass P, ∀ ρ, nd.inv ρ → ∀ b ∈ nd.fs, b.den ρ = true := by
 simp only [ndPass, fM, mel, fT, fBn, fImp, pImp, okP, nB, fTl, pTl, nT, pWt, pA, fA, agsV, noT, nL, goOn_, allTrue, sd, implies_true, IE.den, nm_, ge0, leN, nv, li, tT, Nat.reduceAdd]
 try (repeat' first | apply And.intro | intro _) <;> omega
theorem ok_Pass (mm : Bool) : cPass.Ok Tryz.prog mm Γ0 :=
 con_by (X := Xt Tryz.prog) (cons := consPass) (nds := ndPass Tryz.prog) (T0 := e_Pass Tryz.prog) (hkT_ok _) (fun d hd => by
  rcases List.mem_cons.1 hd with rfl | hd
  ·exact ok_Faults mm
  cases hd) (by kernel_rfl) (by kernel_rfl) rfl (by kernel_rfl) cf_Pass of_Pass (nf_Pass _) (by kernel_rfl) (fun ρ hv hΓ hl hp => v_Pass Tryz.prog ρ hv hΓ hl hp) trivial
end Ft
set_option linter.unusedVariables false
set_option linter.unusedSimpArgs false
open Go Mv Mw
namespace Ft
theorem v_CmpQ (P : Program) (ρ : Env) (hv : vals ρ) (hΓ : Γ0.On ρ) (hl : ρ.k.length = 18) (hp : cCmpQ.pre ρ) : VC cCmpQ (ndCmpQ P) none ρ (e_CmpQ P) := by
 simp only [VC, oblC, asmC, appAsm, outAt, ndAt, allTrue, ve, BE.den, LX.den, nv, li, rowP, tT, e_CmpQ, cCmpQ, cCmp1] at hp ⊢
 simp only [vb, bdList, hl, IE.den, forall_eq', implies_true, reduceIte, reduceCtorEq, Nat.reduceAdd, Nat.reduceSub, Nat.reduceLeDiff, Nat.reduceLT, Nat.reduceEqDiff] at hp ⊢
 generalize (ρ.list 80).getD 1 0 = b
 generalize (ρ.list 81).getD 1 0 = b'
 intros
 refine ⟨?_, ?_, ?_⟩ <;> intro h1 <;> omega
theorem v_ThrQ (P : Program) (ρ : Env) (hv : vals ρ) (hΓ : Γ0.On ρ) (hl : ρ.k.length = 23) (hp : cThrQ.pre ρ) : VC cThrQ (ndThrQ P) none ρ (e_ThrQ P) := by
 simp only [VC, oblC, asmC, appAsm, outAt, ndAt, allTrue, ve, BE.den, LX.den, nv, li, rowP, tT, e_ThrQ, cThrQ, cMay, cMay0, cHas, cHas0, cPutA, Con.split, oMay0, oHas0, mel, thrY, agR] at hp ⊢
 simp only [vb, bdList, hl, IE.den, forall_eq', implies_true, reduceIte, reduceCtorEq, Nat.reduceAdd, Nat.reduceSub, Nat.reduceLeDiff, Nat.reduceLT, Nat.reduceEqDiff] at hp ⊢
 obtain ⟨p1, ⟨q1, q2⟩, p3, p4, p5⟩ := hp
 refine fun b r b' r' => ⟨p1, fun m => ⟨⟨p1, m, p3, p4⟩, fun b1 r1 => ?_⟩, fun m h => by rw [m] at h; exact absurd h.1 (by decide)⟩
 generalize (List.map intOf r1).getD 0 0 = t
 rintro ⟨rfl, t1⟩
 refine ⟨t1, fun h => ⟨⟨p1, m, p3, p4⟩, fun b2 r2 => ?_⟩, fun h h2 => by rw [h2.2] at h; cases h⟩
 generalize (List.map intOf r2).getD 0 0 = t2
 rintro ⟨rfl, t3⟩ b3 r3
 generalize aftA ((ρ.list 80).getD 2 0) ((ρ.list 80).getD 3 0) ((ρ.list 86).getD 0 0) = T at *
 obtain ⟨c1, c2, c3, c4⟩ := q2 T.toNat (by omega)
 have e1 : (T * 8).toNat = 8 * T.toNat := by omega
 have e2 : (T * 8 + 1).toNat = 8 * T.toNat + 1 := by omega
 have e3 : cst (ρ.list 82) T.toNat = (ρ.list 82).getD (8 * T.toNat) 0 := rfl
 have e4 : pts (ρ.list 82) T.toNat = (ρ.list 82).getD (8 * T.toNat + 1) 0 := rfl
 rw [e1, e2, ← e3, ← e4]
 exact ⟨⟨m, h⟩, wrap64_fit (by omega) (by omega), wrap64_fit (by omega) (by omega)⟩
theorem v_ImpQ (P : Program) (ρ : Env) (hv : vals ρ) (hΓ : Γ0.On ρ) (hl : ρ.k.length = 23) (hp : cImpQ.pre ρ) : VC cImpQ (ndImpQ P) none ρ (e_ImpQ P) := by
 simp only [VC, oblC, asmC, appAsm, outAt, ndAt, allTrue, ve, BE.den, LX.den, nv, li, rowP, tT, e_ImpQ, ndImpQ, cImpQ, mel, pImpQ, okPQ, nB] at hp ⊢
 simp only [vb, bdList, hl, IE.den, forall_eq', implies_true, reduceIte, reduceCtorEq, Nat.reduceAdd, Nat.reduceSub, Nat.reduceLeDiff, Nat.reduceLT, Nat.reduceEqDiff] at hp ⊢
 obtain ⟨h1, h2, h3, h4⟩ := hp
 exact ⟨⟨h1, h2, h3, h4⟩, by omega, by omega, fun j hj => by omega⟩
theorem v_ImpQ_0 (P : Program) (ρ : Env) (hv : vals ρ) (hΓ : Γ0.On ρ) (hl : ρ.k.length = 24) (hp : (ndAt (ndImpQ P) 0).inv ρ) : VC cImpQ (ndImpQ P) (some ((ndAt (ndImpQ P) 0).mu ρ)) ρ (n_ImpQ_0 P) := by
 simp only [VC, oblC, asmC, appAsm, outAt, ndAt, allTrue, ve, BE.den, LX.den, nv, li, rowP, tT, n_ImpQ_0, ndImpQ, cImpQ, cThrQ, cHas, cHas0, cCmpQ, Con.split, oHas0, mel, thrY, agR, pImpQ, okPQ, nB, goOnQ, putAsm] at hp ⊢
 simp only [vb, bdList, hl, IE.den, forall_eq', implies_true, reduceIte, reduceCtorEq, Nat.reduceAdd, Nat.reduceSub, Nat.reduceLeDiff, Nat.reduceLT, Nat.reduceEqDiff] at hp ⊢
 obtain ⟨⟨m0, n1, hB, g0, hok⟩, i0, i1, hnb⟩ := hp
 generalize (ρ.list 87).getD 0 0 = i at *
 generalize ρ.list 80 = B at *
 generalize (ρ.list 85).getD 0 0 = n at *
 generalize (ρ.list 86).getD 0 0 = M at *
 generalize ρ.list 82 = T0 at *
 generalize (ρ.list 83).getD 0 0 = C0 at *
 obtain ⟨j, rfl⟩ := nat_of i0
 obtain ⟨m, rfl⟩ := nat_of m0.1
 obtain ⟨nn, rfl⟩ : ∃ k : Nat, n = k := nat_of (by omega)
 simp only [Int.toNat_natCast] at *
 have hm : m < 64 := by omega
 have hlen := hB.len
 have hrT : rngT T0 := ⟨hok.len, fun k hk => by have := hok.rng k hk; omega⟩
 have E0 : ((j : Int) * 6).toNat = 6 * j := by omega
 have E1 : ((j : Int) * 6 + 1).toNat = 6 * j + 1 := by omega
 have E2 : ((j : Int) * 6 + 2).toNat = 6 * j + 2 := by omega
 have E3 : ((j : Int) * 6 + 3).toNat = 6 * j + 3 := by omega
 have E4 : ((j : Int) * 6 + 4).toNat = 6 * j + 4 := by omega
 have E5 : ((j : Int) * 6 + 5).toNat = 6 * j + 5 := by omega
 have G0 : B.getD (6 * j) 0 = fld B j 0 := rfl
 have G1 : B.getD (6 * j + 1) 0 = fld B j 1 := rfl
 have G2 : B.getD (6 * j + 2) 0 = fld B j 2 := rfl
 have G3 : B.getD (6 * j + 3) 0 = fld B j 3 := rfl
 have G4 : B.getD (6 * j + 4) 0 = fld B j 4 := rfl
 have G5 : B.getD (6 * j + 5) 0 = fld B j 5 := rfl
 have F0 : ((m : Int) * 8).toNat = 8 * m := by omega
 have F1 : ((m : Int) * 8 + 1).toNat = 8 * m + 1 := by omega
 have F7 : ((m : Int) * 8 + 7).toNat = 8 * m + 7 := by omega
 have H0 : T0.getD (8 * m) 0 = cst T0 m := rfl
 have H1 : T0.getD (8 * m + 1) 0 = pts T0 m := rfl
 have H7 : T0.getD (8 * m + 7) 0 = num T0 m := rfl
 have J0 : mayA (fld B j 0) (fld B j 1) m = mayJ B m j := rfl
 have J1 : aftA (fld B j 2) (fld B j 3) m = aftJ B m j := rfl
 have W : bitsOf .or .u64 C0 (IntKind.u64.wrap (2 ^ Nat.min m 64)) = withU C0 m := by unfold withU; rw [Int.one_mul, Int.toNat_natCast]
 simp only [E0, E1, E2, E3, E4, E5, G0, G1, G2, G3, G4, G5, F0, F1, F7, H0, H1, H7, J0, J1, W]
 have few := hB.few
 refine ⟨fun hj => ?_, fun hj k hk => hnb k (by omega)⟩
 have hjn : j < nn := by omega
 obtain ⟨a0, a1, a2, a3, a4, a5⟩ := hB.rng j hjn
 have gen : ∀ (a b : Nat) (r : List Int), BetterQ B T0 C0 m j → r = putL T0 (8 * m) (newT B T0 m j) → r.length = 512 ∧ (∀ g, OkQ B nn g T0 C0 → OkQ B nn g r (withU C0 m)) ∧ phiQ r (withU C0 m) < phiQ T0 C0 := by
  rintro _ _ r hb rfl
  exact ⟨(hok.better hB hm hjn hb).1.len, fun g hg => (hg.better hB hm hjn hb).1, (hok.better hB hm hjn hb).2⟩
 have no : ¬ BetterQ B T0 C0 m j → ∀ k : Nat, (k : Int) < j + 1 → ¬ BetterQ B T0 C0 m k := fun h k hk => by
  by_cases e : k = j
  ·rw [e]; exact h
  ·exact hnb k (by omega)
 refine ⟨by omega, fun _ _ => ⟨⟨m0, hrT, a2, a3, a4⟩, fun hn _ _ => ⟨⟨⟨m0, n1, hB, g0, hok⟩, by omega, by omega, no fun hb => hn ⟨hb.1, hb.2.1⟩⟩, by omega⟩, ?_⟩⟩
 rintro _ r ⟨⟨y1, y2⟩, x1, x2⟩ _ _
 rw [x1, x2]
 refine ⟨m0, fun h1 => ⟨fun h2 _ r2 h3 => ⟨⟨⟨m0, n1, hB, g0, hok⟩, by omega, by omega, gen 0 0 _ ⟨y1, y2, .inr h2⟩ h3⟩, by omega⟩, ?_, ?_⟩, fun h1 _ r2 h3 => ⟨⟨⟨m0, n1, hB, g0, hok⟩, by omega, by omega, gen 0 0 _ ⟨y1, y2, .inl h1⟩ h3⟩, by omega⟩⟩
 all_goals exact fun h2 => ⟨⟨⟨m0, n1, hB, g0, hok⟩, by omega, by omega, no fun hb => by
  rcases hb.2.2 with h | h
  ·rw [h1] at h; cases h
  ·exact h2 h⟩, by omega⟩
theorem v_ImpQ_1 (P : Program) (ρ : Env) (hv : vals ρ) (hΓ : Γ0.On ρ) (hl : ρ.k.length = 26) (hp : (ndAt (ndImpQ P) 1).inv ρ) : VC cImpQ (ndImpQ P) (some ((ndAt (ndImpQ P) 1).mu ρ)) ρ (n_ImpQ_1 P) := by
 simp only [VC, oblC, asmC, appAsm, outAt, ndAt, allTrue, ve, BE.den, LX.den, nv, li, rowP, tT, n_ImpQ_1, ndImpQ, cImpQ, cThrQ, cHas, cHas0, cCmpQ, Con.split, oHas0, mel, thrY, agR, pImpQ, okPQ, nB, goOnQ, putAsm] at hp ⊢
 simp only [vb, bdList, hl, IE.den, forall_eq', implies_true, reduceIte, reduceCtorEq, Nat.reduceAdd, Nat.reduceSub, Nat.reduceLeDiff, Nat.reduceLT, Nat.reduceEqDiff] at hp ⊢
 obtain ⟨⟨m0, n1, hB, g0, hok0⟩, i0, i1, hl1, hgo, hphi⟩ := hp
 generalize (ρ.list 89).getD 0 0 = i at *
 generalize ρ.list 80 = B at *
 generalize (ρ.list 85).getD 0 0 = n at *
 generalize (ρ.list 86).getD 0 0 = M at *
 generalize ρ.list 82 = T0 at *
 generalize (ρ.list 83).getD 0 0 = C0 at *
 generalize ρ.list 87 = T1 at *
 generalize (ρ.list 88).getD 0 0 = C1 at *
 have hok := hgo g0 hok0
 obtain ⟨j, rfl⟩ := nat_of i0
 obtain ⟨m, rfl⟩ := nat_of m0.1
 obtain ⟨nn, rfl⟩ : ∃ k : Nat, n = k := nat_of (by omega)
 simp only [Int.toNat_natCast] at *
 have hm : m < 64 := by omega
 have hlen := hB.len
 have hrT : rngT T1 := ⟨hok.len, fun k hk => by have := hok.rng k hk; omega⟩
 have E0 : ((j : Int) * 6).toNat = 6 * j := by omega
 have E1 : ((j : Int) * 6 + 1).toNat = 6 * j + 1 := by omega
 have E2 : ((j : Int) * 6 + 2).toNat = 6 * j + 2 := by omega
 have E3 : ((j : Int) * 6 + 3).toNat = 6 * j + 3 := by omega
 have E4 : ((j : Int) * 6 + 4).toNat = 6 * j + 4 := by omega
 have E5 : ((j : Int) * 6 + 5).toNat = 6 * j + 5 := by omega
 have G0 : B.getD (6 * j) 0 = fld B j 0 := rfl
 have G1 : B.getD (6 * j + 1) 0 = fld B j 1 := rfl
 have G2 : B.getD (6 * j + 2) 0 = fld B j 2 := rfl
 have G3 : B.getD (6 * j + 3) 0 = fld B j 3 := rfl
 have G4 : B.getD (6 * j + 4) 0 = fld B j 4 := rfl
 have G5 : B.getD (6 * j + 5) 0 = fld B j 5 := rfl
 have F0 : ((m : Int) * 8).toNat = 8 * m := by omega
 have F1 : ((m : Int) * 8 + 1).toNat = 8 * m + 1 := by omega
 have F7 : ((m : Int) * 8 + 7).toNat = 8 * m + 7 := by omega
 have H0 : T1.getD (8 * m) 0 = cst T1 m := rfl
 have H1 : T1.getD (8 * m + 1) 0 = pts T1 m := rfl
 have H7 : T1.getD (8 * m + 7) 0 = num T1 m := rfl
 have J0 : mayA (fld B j 0) (fld B j 1) m = mayJ B m j := rfl
 have J1 : aftA (fld B j 2) (fld B j 3) m = aftJ B m j := rfl
 have W : bitsOf .or .u64 C1 (IntKind.u64.wrap (2 ^ Nat.min m 64)) = withU C1 m := by unfold withU; rw [Int.one_mul, Int.toNat_natCast]
 simp only [E0, E1, E2, E3, E4, E5, G0, G1, G2, G3, G4, G5, F0, F1, F7, H0, H1, H7, J0, J1, W]
 have few := hB.few
 refine ⟨fun hj => ?_, fun hj => ⟨hl1, hgo, hphi⟩⟩
 have hjn : j < nn := by omega
 obtain ⟨a0, a1, a2, a3, a4, a5⟩ := hB.rng j hjn
 have gen : ∀ (a b : Nat) (r : List Int), BetterQ B T1 C1 m j → r = putL T1 (8 * m) (newT B T1 m j) → r.length = 512 ∧ (∀ g, OkQ B nn g T0 C0 → OkQ B nn g r (withU C1 m)) ∧ phiQ r (withU C1 m) < phiQ T0 C0 := by
  rintro _ _ r hb rfl
  exact ⟨(hok.better hB hm hjn hb).1.len, fun g hg => ((hgo g hg).better hB hm hjn hb).1, Nat.lt_trans (hok.better hB hm hjn hb).2 hphi⟩
 refine ⟨by omega, fun _ _ => ⟨⟨m0, hrT, a2, a3, a4⟩, fun hn _ _ => ⟨⟨⟨m0, n1, hB, g0, hok0⟩, by omega, by omega, hl1, hgo, hphi⟩, by omega⟩, ?_⟩⟩
 rintro _ r ⟨⟨y1, y2⟩, x1, x2⟩ _ _
 rw [x1, x2]
 refine ⟨m0, fun h1 => ⟨fun h2 _ r2 h3 => ⟨⟨⟨m0, n1, hB, g0, hok0⟩, by omega, by omega, gen 0 0 _ ⟨y1, y2, .inr h2⟩ h3⟩, by omega⟩, ?_, ?_⟩, fun h1 _ r2 h3 => ⟨⟨⟨m0, n1, hB, g0, hok0⟩, by omega, by omega, gen 0 0 _ ⟨y1, y2, .inl h1⟩ h3⟩, by omega⟩⟩
 all_goals exact fun h2 => ⟨⟨⟨m0, n1, hB, g0, hok0⟩, by omega, by omega, hl1, hgo, hphi⟩, by omega⟩
end Ft
set_option linter.unusedVariables false
set_option linter.unusedSimpArgs false
open Go Mv Mw
namespace Ft
set_option maxRecDepth 20000 in
theorem v_TollsQ (P : Program) (ρ : Env) (hv : vals ρ) (hΓ : Γ0.On ρ) (hl : ρ.k.length = 20) (hp : cTollsQ.pre ρ) : VC cTollsQ (ndTollsQ P) none ρ (e_TollsQ P) := by
 unfold e_TollsQ
 simp only [VC, oblC, asmC, appAsm, outAt, ndAt, allTrue, ve, BE.den, LX.den, nv, li, rowP, tT, ndTollsQ, cTollsQ, mel, pTl, nT] at hp ⊢
 simp only [vb, bdList, hl, IE.den, forall_eq', implies_true, reduceIte, reduceCtorEq, Nat.reduceAdd, Nat.reduceSub, Nat.reduceLeDiff, Nat.reduceLT, Nat.reduceEqDiff] at hp ⊢
 intro _ _ _ _
 refine ⟨hp, by rfl, ⟨by omega, by omega⟩, by omega, by omega, fun m hm => ⟨fun h => ?_, fun h => by omega⟩⟩
 rw [show (0 : Int) = ((0 : Nat) : Int) from rfl, hasU_nat (by decide) hm, Nat.zero_testBit] at h
 cases h
theorem v_TollsQ_0 (P : Program) (ρ : Env) (hv : vals ρ) (hΓ : Γ0.On ρ) (hl : ρ.k.length = 24) (hp : (ndAt (ndTollsQ P) 0).inv ρ) : VC cTollsQ (ndTollsQ P) (some ((ndAt (ndTollsQ P) 0).mu ρ)) ρ (n_TollsQ_0 P) := by
 simp only [VC, oblC, asmC, appAsm, outAt, ndAt, allTrue, ve, BE.den, LX.den, nv, li, rowP, tT, n_TollsQ_0, ndTollsQ, cTollsQ, mel, pTl, nT, cImpQ, pImpQ, goOnQ, okPQ, nB] at hp ⊢
 simp only [vb, bdList, hl, IE.den, forall_eq', implies_true, reduceIte, reduceCtorEq, Nat.reduceAdd, Nat.reduceSub, Nat.reduceLeDiff, Nat.reduceLT, Nat.reduceEqDiff] at hp ⊢
 obtain ⟨p0, hz, hC, i0, i1, hh⟩ := hp
 generalize (ρ.list 87).getD 0 0 = i at *
 generalize (ρ.list 83).getD 0 0 = a at *
 generalize (ρ.list 86).getD 0 0 = C at *
 generalize (ρ.list 82).getD 0 0 = n at *
 generalize ρ.list 81 = B at *
 rw [hz]
 obtain ⟨k, rfl⟩ := nat_of i0
 simp only [Int.toNat_natCast] at *
 have W : bitsOf .or .u64 C (IntKind.u64.wrap (2 ^ Nat.min k 64)) = withU C k := by unfold withU; rw [Int.one_mul, Int.toNat_natCast]
 rw [W]
 refine ⟨fun hk => ⟨fun h => ⟨⟨p0, trivial, withU_rng hC.1 hC.2 (by omega), by omega, by omega, fun m hm => ?_⟩, by omega⟩, fun h => ⟨⟨p0, trivial, hC, by omega, by omega, fun m hm => ?_⟩, by omega⟩⟩, fun hk => ?_⟩
 ·rw [hasU_withU hC.1 hC.2 (by omega) hm, Bool.or_eq_true, hh m hm, decide_eq_true_eq]
  have : gP a k = true := by unfold gP andI; simp [h]
  by_cases e : k = m
  ·subst e
   exact ⟨fun _ => ⟨by omega, this⟩, fun _ => .inr rfl⟩
  ·exact ⟨fun h => h.elim (fun h => ⟨by omega, h.2⟩) fun h => absurd h e, fun h => .inl ⟨by omega, h.2⟩⟩
 ·rw [hh m hm]
  have : ¬ gP a k = true := by unfold gP andI; simp [h]
  by_cases e : k = m
  ·subst e
   exact ⟨fun h => absurd h.2 this, fun h => absurd h.2 this⟩
  ·exact ⟨fun h => ⟨by omega, h.2⟩, fun h => ⟨by omega, h.2⟩⟩
 ·have hok : OkQ B n.toNat (gP a) zer C := OkQ.start hC.1 hC.2 fun m hm => by
   rw [Bool.eq_iff_iff, hh m hm]
   exact ⟨fun h => h.2, fun h => ⟨by omega, h⟩⟩
  refine ⟨⟨p0, hok, by omega, by omega, fun m j hm => by omega⟩, ?_⟩
  have := hok.phi_le
  omega
theorem v_TollsQ_1 (P : Program) (ρ : Env) (hv : vals ρ) (hΓ : Γ0.On ρ) (hl : ρ.k.length = 24) (hp : (ndAt (ndTollsQ P) 1).inv ρ) : VC cTollsQ (ndTollsQ P) (some ((ndAt (ndTollsQ P) 1).mu ρ)) ρ (n_TollsQ_1 P) := by
 simp only [VC, oblC, asmC, appAsm, outAt, ndAt, allTrue, ve, BE.den, LX.den, nv, li, rowP, tT, n_TollsQ_1, ndTollsQ, cTollsQ, mel, pTl, nT, cImpQ, pImpQ, goOnQ, okPQ, nB] at hp ⊢
 simp only [vb, bdList, hl, IE.den, forall_eq', implies_true, reduceIte, reduceCtorEq, Nat.reduceAdd, Nat.reduceSub, Nat.reduceLeDiff, Nat.reduceLT, Nat.reduceEqDiff] at hp ⊢
 obtain ⟨p0, hok, i0, i1, hno⟩ := hp
 generalize (ρ.list 87).getD 0 0 = i at *
 refine ⟨fun hk => ⟨⟨by omega, p0.1, p0.2.1, _, hok⟩, fun h => ⟨⟨p0, hok, by omega, by omega, fun m j hm hj => ?_⟩, by omega⟩, ?_⟩, fun hk => ⟨hok, fun m j hm hj => hno m j (by omega) hj⟩⟩
 ·by_cases e : (m : Int) = i
  ·have := h j hj
   rwa [← e, Int.toNat_natCast] at this
  ·exact hno m j (by omega) hj
 ·rintro _ r _ r' ⟨-, h1, h2⟩
  exact ⟨⟨p0, h1 _ hok, by omega, by omega⟩, by omega⟩
theorem v_TollsQ_2 (P : Program) (ρ : Env) (hv : vals ρ) (hΓ : Γ0.On ρ) (hl : ρ.k.length = 24) (hp : (ndAt (ndTollsQ P) 2).inv ρ) : VC cTollsQ (ndTollsQ P) (some ((ndAt (ndTollsQ P) 2).mu ρ)) ρ (n_TollsQ_2 P) := by
 simp only [VC, oblC, asmC, appAsm, outAt, ndAt, allTrue, ve, BE.den, LX.den, nv, li, rowP, tT, n_TollsQ_2, ndTollsQ, cTollsQ, mel, pTl, nT, cImpQ, pImpQ, goOnQ, okPQ, nB] at hp ⊢
 simp only [vb, bdList, hl, IE.den, forall_eq', implies_true, reduceIte, reduceCtorEq, Nat.reduceAdd, Nat.reduceSub, Nat.reduceLeDiff, Nat.reduceLT, Nat.reduceEqDiff] at hp ⊢
 obtain ⟨p0, hok, i0, i1⟩ := hp
 generalize (ρ.list 87).getD 0 0 = i at *
 refine ⟨fun hk => ⟨⟨by omega, p0.1, p0.2.1, _, hok⟩, fun h => ⟨⟨p0, hok, by omega, by omega⟩, by omega⟩, ?_⟩, fun hk => ⟨⟨p0, hok, by omega, by omega, fun m j hm => by omega⟩, by omega⟩⟩
 rintro _ r _ r' ⟨-, h1, h2⟩
 exact ⟨⟨p0, h1 _ hok, by omega, by omega⟩, by omega⟩
set_option maxRecDepth 20000 in
theorem v_TollsQN (P : Program) (ρ : Env) (hv : vals ρ) (hΓ : Γ0.On ρ) (hl : ρ.k.length = 17) (hp : cTollsQN.pre ρ) : VC cTollsQN (ndTollsQN P) none ρ (e_TollsQN P) := by
 unfold e_TollsQN
 simp only [VC, oblC, asmC, appAsm, outAt, ndAt, allTrue, ve, BE.den, LX.den, nv, li, rowP, tT, ndTollsQN, cTollsQN, mel] at hp ⊢
 simp only [vb, bdList, hl, IE.den, forall_eq', implies_true, reduceIte, reduceCtorEq, Nat.reduceAdd, Nat.reduceSub, Nat.reduceLeDiff, Nat.reduceLT, Nat.reduceEqDiff] at hp ⊢
 intro _ _ _ _
 refine ⟨hp, by rfl, ⟨by omega, by omega⟩, by omega, by omega, fun m hm => ⟨fun h => ?_, fun h => by omega⟩⟩
 rw [show (0 : Int) = ((0 : Nat) : Int) from rfl, hasU_nat (by decide) hm, Nat.zero_testBit] at h
 cases h
theorem v_TollsQN_0 (P : Program) (ρ : Env) (hv : vals ρ) (hΓ : Γ0.On ρ) (hl : ρ.k.length = 21) (hp : (ndAt (ndTollsQN P) 0).inv ρ) : VC cTollsQN (ndTollsQN P) (some ((ndAt (ndTollsQN P) 0).mu ρ)) ρ (n_TollsQN_0 P) := by
 simp only [VC, oblC, asmC, appAsm, outAt, ndAt, allTrue, ve, BE.den, LX.den, nv, li, rowP, tT, n_TollsQN_0, ndTollsQN, cTollsQN, mel, noT] at hp ⊢
 simp only [vb, bdList, hl, IE.den, forall_eq', implies_true, reduceIte, reduceCtorEq, Nat.reduceAdd, Nat.reduceSub, Nat.reduceLeDiff, Nat.reduceLT, Nat.reduceEqDiff] at hp ⊢
 obtain ⟨p0, hz, hC, i0, i1, hh⟩ := hp
 generalize (ρ.list 84).getD 0 0 = i at *
 generalize (ρ.list 80).getD 0 0 = a at *
 generalize (ρ.list 83).getD 0 0 = C at *
 rw [hz]
 obtain ⟨k, rfl⟩ := nat_of i0
 simp only [Int.toNat_natCast] at *
 have W : bitsOf .or .u64 C (IntKind.u64.wrap (2 ^ Nat.min k 64)) = withU C k := by unfold withU; rw [Int.one_mul, Int.toNat_natCast]
 rw [W]
 refine ⟨fun hk => ⟨fun h => ⟨⟨p0, trivial, withU_rng hC.1 hC.2 (by omega), by omega, by omega, fun m hm => ?_⟩, by omega⟩, fun h => ⟨⟨p0, trivial, hC, by omega, by omega, fun m hm => ?_⟩, by omega⟩⟩, fun hk => ?_⟩
 ·rw [hasU_withU hC.1 hC.2 (by omega) hm, Bool.or_eq_true, hh m hm, decide_eq_true_eq]
  have : gP a k = true := by unfold gP andI; simp [h]
  by_cases e : k = m
  ·subst e
   exact ⟨fun _ => ⟨by omega, this⟩, fun _ => .inr rfl⟩
  ·exact ⟨fun h => h.elim (fun h => ⟨by omega, h.2⟩) fun h => absurd h e, fun h => .inl ⟨by omega, h.2⟩⟩
 ·rw [hh m hm]
  have : ¬ gP a k = true := by unfold gP andI; simp [h]
  by_cases e : k = m
  ·subst e
   exact ⟨fun h => absurd h.2 this, fun h => absurd h.2 this⟩
  ·exact ⟨fun h => ⟨by omega, h.2⟩, fun h => ⟨by omega, h.2⟩⟩
 ·refine ⟨⟨⟨trivial, hC, fun m hm => ?_⟩, by omega, by omega⟩, by omega⟩
  rw [hh m hm]
  exact ⟨fun h => h.2, fun h => ⟨by omega, h⟩⟩
theorem v_TollsQN_1 (P : Program) (ρ : Env) (hv : vals ρ) (hΓ : Γ0.On ρ) (hl : ρ.k.length = 21) (hp : (ndAt (ndTollsQN P) 1).inv ρ) : VC cTollsQN (ndTollsQN P) (some ((ndAt (ndTollsQN P) 1).mu ρ)) ρ (n_TollsQN_1 P) := by
 simp only [VC, oblC, asmC, appAsm, outAt, ndAt, allTrue, ve, BE.den, LX.den, nv, li, rowP, tT, n_TollsQN_1, ndTollsQN, cTollsQN, mel] at hp ⊢
 simp only [vb, bdList, hl, IE.den, forall_eq', implies_true, reduceIte, reduceCtorEq, Nat.reduceAdd, Nat.reduceSub, Nat.reduceLeDiff, Nat.reduceLT, Nat.reduceEqDiff] at hp ⊢
 obtain ⟨p0, i0, i1⟩ := hp
 exact ⟨fun _ => ⟨⟨p0, by omega, by omega⟩, by omega⟩, fun _ => p0⟩
end Ft
set_option linter.unusedVariables false
set_option linter.unusedSimpArgs false
open Go Mv Mw Go.Proofs
namespace Ft
theorem cf_CmpQ : ∀ ρ, cCmpQ.pre ρ → ∀ b ∈ cCmpQ.fs, b.den ρ = true := by
 simp only [cCmpQ, fM, mel, fT, fBn, fImp, pImpQ, okPQ, nB, fTl, pTl, nT, pA, fA, agsV, noT, nL, goOnQ, cEachP, u64R, fB64, LowB, allTrue, sd, implies_true, IE.den, nm_, ge0, leN, nv, li, tT, Nat.reduceAdd]
 try (repeat' first | apply And.intro | intro _) <;> omega
theorem of_CmpQ : ∀ o ∈ cCmpQ.outs, ∀ ρ, o.post ρ → ∀ b ∈ o.fs, b.den ρ = true := by
 simp only [cCmpQ, fM, mel, fT, fBn, fImp, pImpQ, okPQ, nB, fTl, pTl, nT, pA, fA, agsV, noT, nL, goOnQ, cEachP, u64R, fB64, LowB, allTrue, sd, implies_true, IE.den, nm_, ge0, leN, nv, li, tT, Nat.reduceAdd]
 try (repeat' first | apply And.intro | intro _) <;> omega
theorem nf_CmpQ (P : Program) : ∀ nd ∈ ndCmpQ P, ∀ ρ, nd.inv ρ → ∀ b ∈ nd.fs, b.den ρ = true := by
 simp only [ndCmpQ, fM, mel, fT, fBn, fImp, pImpQ, okPQ, nB, fTl, pTl, nT, pA, fA, agsV, noT, nL, goOnQ, cEachP, u64R, fB64, LowB, allTrue, sd, implies_true, IE.den, nm_, ge0, leN, nv, li, tT, Nat.reduceAdd]
 try (repeat' first | apply And.intro | intro _) <;> omega
theorem ok_CmpQ (mm : Bool) : cCmpQ.Ok Tryz.prog mm Γ0 :=
 con_by (X := Xm Tryz.prog) (cons := consCmpQ) (nds := ndCmpQ Tryz.prog) (T0 := e_CmpQ Tryz.prog) (hkM_ok _) (fun d hd => by
  rcases List.mem_cons.1 hd with rfl | hd
  ·exact ok_Cmp1 mm
  cases hd) (by kernel_rfl) (by kernel_rfl) rfl (by kernel_rfl) cf_CmpQ of_CmpQ (nf_CmpQ _) (by kernel_rfl) (fun ρ hv hΓ hl hp => v_CmpQ Tryz.prog ρ hv hΓ hl hp) trivial
theorem cf_ThrQ : ∀ ρ, cThrQ.pre ρ → ∀ b ∈ cThrQ.fs, b.den ρ = true := by
 simp only [cThrQ, fM, mel, fT, fBn, fImp, pImpQ, okPQ, nB, fTl, pTl, nT, pA, fA, agsV, noT, nL, goOnQ, cEachP, u64R, fB64, LowB, allTrue, sd, implies_true, IE.den, nm_, ge0, leN, nv, li, tT, Nat.reduceAdd]
 try rintro ρ ⟨h1, h2, h3⟩; have := h2.1; omega
theorem of_ThrQ : ∀ o ∈ cThrQ.outs, ∀ ρ, o.post ρ → ∀ b ∈ o.fs, b.den ρ = true := by
 simp only [cThrQ, fM, mel, fT, fBn, fImp, pImpQ, okPQ, nB, fTl, pTl, nT, pA, fA, agsV, noT, nL, goOnQ, cEachP, u64R, fB64, LowB, allTrue, sd, implies_true, IE.den, nm_, ge0, leN, nv, li, tT, Nat.reduceAdd]
 try (repeat' first | apply And.intro | intro _) <;> omega
theorem nf_ThrQ (P : Program) : ∀ nd ∈ ndThrQ P, ∀ ρ, nd.inv ρ → ∀ b ∈ nd.fs, b.den ρ = true := by
 simp only [ndThrQ, fM, mel, fT, fBn, fImp, pImpQ, okPQ, nB, fTl, pTl, nT, pA, fA, agsV, noT, nL, goOnQ, cEachP, u64R, fB64, LowB, allTrue, sd, implies_true, IE.den, nm_, ge0, leN, nv, li, tT, Nat.reduceAdd]
 try (repeat' first | apply And.intro | intro _) <;> omega
theorem ok_ThrQ (mm : Bool) : cThrQ.Ok Tryz.prog mm Γ0 :=
 con_by (X := Xm Tryz.prog) (cons := consThrQ) (nds := ndThrQ Tryz.prog) (T0 := e_ThrQ Tryz.prog) (hkM_ok _) (fun d hd => by
  rcases List.mem_cons.1 hd with rfl | hd
  ·exact ok_May mm
  rcases List.mem_cons.1 hd with rfl | hd
  ·exact ok_Has mm
  rcases List.mem_cons.1 hd with rfl | hd
  ·exact ok_PutA mm
  cases hd) (by kernel_rfl) (by kernel_rfl) rfl (by kernel_rfl) cf_ThrQ of_ThrQ (nf_ThrQ _) (by kernel_rfl) (fun ρ hv hΓ hl hp => v_ThrQ Tryz.prog ρ hv hΓ hl hp) trivial
theorem cf_ImpQ : ∀ ρ, cImpQ.pre ρ → ∀ b ∈ cImpQ.fs, b.den ρ = true := by
 simp only [cImpQ, fM, mel, fT, fBn, fImp, pImpQ, okPQ, nB, fTl, pTl, nT, pA, fA, agsV, noT, nL, goOnQ, cEachP, u64R, fB64, LowB, allTrue, sd, implies_true, IE.den, nm_, ge0, leN, nv, li, tT, Nat.reduceAdd]
 try rintro ρ ⟨h1, h2, h3, g, h4⟩; have a := h3.len; have b := h3.few; have c := h4.len; omega
theorem of_ImpQ : ∀ o ∈ cImpQ.outs, ∀ ρ, o.post ρ → ∀ b ∈ o.fs, b.den ρ = true := by
 simp only [cImpQ, fM, mel, fT, fBn, fImp, pImpQ, okPQ, nB, fTl, pTl, nT, pA, fA, agsV, noT, nL, goOnQ, cEachP, u64R, fB64, LowB, allTrue, sd, implies_true, IE.den, nm_, ge0, leN, nv, li, tT, Nat.reduceAdd]
 try rintro ρ ⟨h1, -⟩; omega
theorem nf_ImpQ (P : Program) : ∀ nd ∈ ndImpQ P, ∀ ρ, nd.inv ρ → ∀ b ∈ nd.fs, b.den ρ = true := by
 simp only [ndImpQ, fM, mel, fT, fBn, fImp, pImpQ, okPQ, nB, fTl, pTl, nT, pA, fA, agsV, noT, nL, goOnQ, cEachP, u64R, fB64, LowB, allTrue, sd, implies_true, IE.den, nm_, ge0, leN, nv, li, tT, Nat.reduceAdd]
 try exact ⟨by rintro ρ ⟨⟨h1, h2, h3, g, h4⟩, h5, h6, -⟩; have a := h3.len; have b := h3.few; have c := h4.len; omega, by rintro ρ ⟨⟨h1, h2, h3, g, h4⟩, h5, h6, h7, -⟩; have a := h3.len; have b := h3.few; have c := h4.len; omega⟩
theorem ok_ImpQ (mm : Bool) : cImpQ.Ok Tryz.prog mm Γ0 :=
 con_by (X := Xm Tryz.prog) (cons := consImpQ) (nds := ndImpQ Tryz.prog) (T0 := e_ImpQ Tryz.prog) (hkM_ok _) (fun d hd => by
  rcases List.mem_cons.1 hd with rfl | hd
  ·exact ok_ThrQ mm
  rcases List.mem_cons.1 hd with rfl | hd
  ·exact ok_Has mm
  rcases List.mem_cons.1 hd with rfl | hd
  ·exact ok_CmpQ mm
  cases hd) (by kernel_rfl) (by kernel_rfl) rfl (by kernel_rfl) cf_ImpQ of_ImpQ (nf_ImpQ _) (by kernel_rfl) (fun ρ hv hΓ hl hp => v_ImpQ Tryz.prog ρ hv hΓ hl hp) ⟨⟨n_ImpQ_0 Tryz.prog, by kernel_rfl, fun ρ hv hΓ hl hi => v_ImpQ_0 Tryz.prog ρ hv hΓ hl hi⟩, ⟨⟨n_ImpQ_1 Tryz.prog, by kernel_rfl, fun ρ hv hΓ hl hi => v_ImpQ_1 Tryz.prog ρ hv hΓ hl hi⟩, trivial⟩⟩
theorem cf_TollsQ : ∀ ρ, cTollsQ.pre ρ → ∀ b ∈ cTollsQ.fs, b.den ρ = true := by
 simp only [cTollsQ, fM, mel, fT, fBn, fImp, pImpQ, okPQ, nB, fTl, pTl, nT, pA, fA, agsV, noT, nL, goOnQ, cEachP, u64R, fB64, LowB, allTrue, sd, implies_true, IE.den, nm_, ge0, leN, nv, li, tT, Nat.reduceAdd]
 try rintro ρ ⟨h1, h3, h4⟩; have a := h3.len; have b := h3.few; omega
theorem of_TollsQ : ∀ o ∈ cTollsQ.outs, ∀ ρ, o.post ρ → ∀ b ∈ o.fs, b.den ρ = true := by
 simp only [cTollsQ, fM, mel, fT, fBn, fImp, pImpQ, okPQ, nB, fTl, pTl, nT, pA, fA, agsV, noT, nL, goOnQ, cEachP, u64R, fB64, LowB, allTrue, sd, implies_true, IE.den, nm_, ge0, leN, nv, li, tT, Nat.reduceAdd]
 try intro ρ h; have c := h.ok.len; omega
theorem nf_TollsQ (P : Program) : ∀ nd ∈ ndTollsQ P, ∀ ρ, nd.inv ρ → ∀ b ∈ nd.fs, b.den ρ = true := by
 simp only [ndTollsQ, fM, mel, fT, fBn, fImp, pImpQ, okPQ, nB, fTl, pTl, nT, pA, fA, agsV, noT, nL, goOnQ, cEachP, u64R, fB64, LowB, allTrue, sd, implies_true, IE.den, nm_, ge0, leN, nv, li, tT, Nat.reduceAdd]
 try exact ⟨by rintro ρ ⟨⟨h1, h3, h4⟩, z, -, h5, h6, -⟩; have a := h3.len; have b := h3.few; have c := congrArg List.length z; rw [zer_len] at c; omega, by rintro ρ ⟨⟨h1, h3, h4⟩, h7, h5, h6, -⟩; have a := h3.len; have b := h3.few; have c := h7.len; omega, by rintro ρ ⟨⟨h1, h3, h4⟩, h7, h5, h6⟩; have a := h3.len; have b := h3.few; have c := h7.len; omega⟩
theorem ok_TollsQ (mm : Bool) : cTollsQ.Ok Tryz.prog mm Γ0 :=
 con_by (X := Xm Tryz.prog) (cons := consTollsQ) (nds := ndTollsQ Tryz.prog) (T0 := e_TollsQ Tryz.prog) (hkM_ok _) (fun d hd => by
  rcases List.mem_cons.1 hd with rfl | hd
  ·exact ok_ImpQ mm
  cases hd) (by kernel_rfl) (by kernel_rfl) rfl (by kernel_rfl) cf_TollsQ of_TollsQ (nf_TollsQ _) (by kernel_rfl) (fun ρ hv hΓ hl hp => v_TollsQ Tryz.prog ρ hv hΓ hl hp) ⟨⟨n_TollsQ_0 Tryz.prog, by kernel_rfl, fun ρ hv hΓ hl hi => v_TollsQ_0 Tryz.prog ρ hv hΓ hl hi⟩, ⟨⟨n_TollsQ_1 Tryz.prog, by kernel_rfl, fun ρ hv hΓ hl hi => v_TollsQ_1 Tryz.prog ρ hv hΓ hl hi⟩, ⟨⟨n_TollsQ_2 Tryz.prog, by kernel_rfl, fun ρ hv hΓ hl hi => v_TollsQ_2 Tryz.prog ρ hv hΓ hl hi⟩, trivial⟩⟩⟩
theorem cf_TollsQN : ∀ ρ, cTollsQN.pre ρ → ∀ b ∈ cTollsQN.fs, b.den ρ = true := by
 simp only [cTollsQN, fM, mel, fT, fBn, fImp, pImpQ, okPQ, nB, fTl, pTl, nT, pA, fA, agsV, noT, nL, goOnQ, cEachP, u64R, fB64, LowB, allTrue, sd, implies_true, IE.den, nm_, ge0, leN, nv, li, tT, Nat.reduceAdd]
 try (repeat' first | apply And.intro | intro _) <;> omega
theorem of_TollsQN : ∀ o ∈ cTollsQN.outs, ∀ ρ, o.post ρ → ∀ b ∈ o.fs, b.den ρ = true := by
 simp only [cTollsQN, fM, mel, fT, fBn, fImp, pImpQ, okPQ, nB, fTl, pTl, nT, pA, fA, agsV, noT, nL, goOnQ, cEachP, u64R, fB64, LowB, allTrue, sd, implies_true, IE.den, nm_, ge0, leN, nv, li, tT, Nat.reduceAdd]
 try rintro ρ ⟨z, -⟩; have c := congrArg List.length z; rw [zer_len] at c; omega
theorem nf_TollsQN (P : Program) : ∀ nd ∈ ndTollsQN P, ∀ ρ, nd.inv ρ → ∀ b ∈ nd.fs, b.den ρ = true := by
 simp only [ndTollsQN, fM, mel, fT, fBn, fImp, pImpQ, okPQ, nB, fTl, pTl, nT, pA, fA, agsV, noT, nL, goOnQ, cEachP, u64R, fB64, LowB, allTrue, sd, implies_true, IE.den, nm_, ge0, leN, nv, li, tT, Nat.reduceAdd]
 try exact ⟨by rintro ρ ⟨h1, z, -, h5, h6, -⟩; have c := congrArg List.length z; rw [zer_len] at c; omega, by rintro ρ ⟨⟨z, -⟩, h5, h6⟩; have c := congrArg List.length z; rw [zer_len] at c; omega⟩
theorem ok_TollsQN (mm : Bool) : cTollsQN.Ok Tryz.prog mm Γ0 :=
 con_by (X := Xm Tryz.prog) (cons := consTollsQN) (nds := ndTollsQN Tryz.prog) (T0 := e_TollsQN Tryz.prog) (hkM_ok _) (fun d hd => by cases hd) (by kernel_rfl) (by kernel_rfl) rfl (by kernel_rfl) cf_TollsQN of_TollsQN (nf_TollsQN _) (by kernel_rfl) (fun ρ hv hΓ hl hp => v_TollsQN Tryz.prog ρ hv hΓ hl hp) ⟨⟨n_TollsQN_0 Tryz.prog, by kernel_rfl, fun ρ hv hΓ hl hi => v_TollsQN_0 Tryz.prog ρ hv hΓ hl hi⟩, ⟨⟨n_TollsQN_1 Tryz.prog, by kernel_rfl, fun ρ hv hΓ hl hi => v_TollsQN_1 Tryz.prog ρ hv hΓ hl hi⟩, trivial⟩⟩
theorem cf_Tz : ∀ ρ, cTz.pre ρ → ∀ b ∈ cTz.fs, b.den ρ = true := by
 simp only [cTz, fM, mel, fT, fBn, fImp, pImpQ, okPQ, nB, fTl, pTl, nT, pA, fA, agsV, noT, nL, goOnQ, cEachP, u64R, fB64, LowB, allTrue, sd, implies_true, IE.den, nm_, ge0, leN, nv, li, tT, Nat.reduceAdd]
 try (repeat' first | apply And.intro | intro _) <;> omega
theorem of_Tz : ∀ o ∈ cTz.outs, ∀ ρ, o.post ρ → ∀ b ∈ o.fs, b.den ρ = true := by
 simp only [cTz, fM, mel, fT, fBn, fImp, pImpQ, okPQ, nB, fTl, pTl, nT, pA, fA, agsV, noT, nL, goOnQ, cEachP, u64R, fB64, LowB, allTrue, sd, implies_true, IE.den, nm_, ge0, leN, nv, li, tT, Nat.reduceAdd]
 try (repeat' first | apply And.intro | intro _) <;> omega
theorem nf_Tz (P : Program) : ∀ nd ∈ ndTz P, ∀ ρ, nd.inv ρ → ∀ b ∈ nd.fs, b.den ρ = true := by
 simp only [ndTz, fM, mel, fT, fBn, fImp, pImpQ, okPQ, nB, fTl, pTl, nT, pA, fA, agsV, noT, nL, goOnQ, cEachP, u64R, fB64, LowB, allTrue, sd, implies_true, IE.den, nm_, ge0, leN, nv, li, tT, Nat.reduceAdd]
 try (repeat' first | apply And.intro | intro _) <;> omega
theorem ok_Tz (mm : Bool) : cTz.Ok Tryz.prog mm Γ0 :=
 con_by (X := Xm Tryz.prog) (cons := consTz) (nds := ndTz Tryz.prog) (T0 := e_Tz Tryz.prog) (hkM_ok _) (fun d hd => by cases hd) (by kernel_rfl) (by kernel_rfl) rfl (by kernel_rfl) cf_Tz of_Tz (nf_Tz _) (by kernel_rfl) (fun ρ hv hΓ hl hp => v_Tz Tryz.prog ρ hv hΓ hl hp) trivial
theorem cf_Each : ∀ ρ, cEach.pre ρ → ∀ b ∈ cEach.fs, b.den ρ = true := by
 simp only [cEach, fM, mel, fT, fBn, fImp, pImpQ, okPQ, nB, fTl, pTl, nT, pA, fA, agsV, noT, nL, goOnQ, cEachP, u64R, fB64, LowB, allTrue, sd, implies_true, IE.den, nm_, ge0, leN, nv, li, tT, Nat.reduceAdd]
 try (repeat' first | apply And.intro | intro _) <;> omega
theorem of_Each : ∀ o ∈ cEach.outs, ∀ ρ, o.post ρ → ∀ b ∈ o.fs, b.den ρ = true := by
 simp only [cEach, fM, mel, fT, fBn, fImp, pImpQ, okPQ, nB, fTl, pTl, nT, pA, fA, agsV, noT, nL, goOnQ, cEachP, u64R, fB64, LowB, allTrue, sd, implies_true, IE.den, nm_, ge0, leN, nv, li, tT, Nat.reduceAdd]
 try (repeat' first | apply And.intro | intro _) <;> omega
theorem nf_Each (P : Program) : ∀ nd ∈ ndEach P, ∀ ρ, nd.inv ρ → ∀ b ∈ nd.fs, b.den ρ = true := by
 simp only [ndEach, fM, mel, fT, fBn, fImp, pImpQ, okPQ, nB, fTl, pTl, nT, pA, fA, agsV, noT, nL, goOnQ, cEachP, u64R, fB64, LowB, allTrue, sd, implies_true, IE.den, nm_, ge0, leN, nv, li, tT, Nat.reduceAdd]
 try exact ⟨by rintro ρ ⟨-, h, -⟩; omega, by rintro ρ ⟨-, h, e, h1⟩; have := bits_le ((ρ.list 80).getD 0 0); rw [← e, List.length_append] at this; omega⟩
theorem ok_Each (mm : Bool) : cEach.Ok Tryz.prog mm Γ0 :=
 con_by (X := Xm Tryz.prog) (cons := consEach) (nds := ndEach Tryz.prog) (T0 := e_Each Tryz.prog) (hkM_ok _) (fun d hd => by
  rcases List.mem_cons.1 hd with rfl | hd
  ·exact ok_Tz mm
  cases hd) (by kernel_rfl) (by kernel_rfl) rfl (by kernel_rfl) cf_Each of_Each (nf_Each _) (by kernel_rfl) (fun ρ hv hΓ hl hp => v_Each Tryz.prog ρ hv hΓ hl hp) ⟨⟨n_Each_0 Tryz.prog, by kernel_rfl, fun ρ hv hΓ hl hi => v_Each_0 Tryz.prog ρ hv hΓ hl hi⟩, ⟨⟨n_Each_1 Tryz.prog, by kernel_rfl, fun ρ hv hΓ hl hi => v_Each_1 Tryz.prog ρ hv hΓ hl hi⟩, trivial⟩⟩
theorem cf_List : ∀ ρ, cList.pre ρ → ∀ b ∈ cList.fs, b.den ρ = true := by
 simp only [cList, fM, mel, fT, fBn, fImp, pImpQ, okPQ, nB, fTl, pTl, nT, pA, fA, agsV, noT, nL, goOnQ, cEachP, u64R, fB64, LowB, allTrue, sd, implies_true, IE.den, nm_, ge0, leN, nv, li, tT, Nat.reduceAdd]
 try (repeat' first | apply And.intro | intro _) <;> omega
theorem of_List : ∀ o ∈ cList.outs, ∀ ρ, o.post ρ → ∀ b ∈ o.fs, b.den ρ = true := by
 simp only [cList, fM, mel, fT, fBn, fImp, pImpQ, okPQ, nB, fTl, pTl, nT, pA, fA, agsV, noT, nL, goOnQ, cEachP, u64R, fB64, LowB, allTrue, sd, implies_true, IE.den, nm_, ge0, leN, nv, li, tT, Nat.reduceAdd]
 try (repeat' first | apply And.intro | intro _) <;> omega
theorem nf_List (P : Program) : ∀ nd ∈ ndList P, ∀ ρ, nd.inv ρ → ∀ b ∈ nd.fs, b.den ρ = true := by
 simp only [ndList, fM, mel, fT, fBn, fImp, pImpQ, okPQ, nB, fTl, pTl, nT, pA, fA, agsV, noT, nL, goOnQ, cEachP, u64R, fB64, LowB, allTrue, sd, implies_true, IE.den, nm_, ge0, leN, nv, li, tT, Nat.reduceAdd]
 try (repeat' first | apply And.intro | intro _) <;> omega
theorem ok_List (mm : Bool) : cList.Ok Tryz.prog mm Γ0 :=
 con_by (X := Xm Tryz.prog) (cons := consList) (nds := ndList Tryz.prog) (T0 := e_List Tryz.prog) (hkM_ok _) (fun d hd => by
  rcases List.mem_cons.1 hd with rfl | hd
  ·exact ok_Each mm
  cases hd) (by kernel_rfl) (by kernel_rfl) rfl (by kernel_rfl) cf_List of_List (nf_List _) (by kernel_rfl) (fun ρ hv hΓ hl hp => v_List Tryz.prog ρ hv hΓ hl hp) trivial
theorem cf_Hop : ∀ ρ, cHop.pre ρ → ∀ b ∈ cHop.fs, b.den ρ = true := by
 simp only [cHop, fM, mel, fT, fBn, fImp, pImpQ, okPQ, nB, fTl, pTl, nT, pA, fA, agsV, noT, nL, goOnQ, cEachP, u64R, fB64, LowB, allTrue, sd, implies_true, IE.den, nm_, ge0, leN, nv, li, tT, Nat.reduceAdd]
 try (repeat' first | apply And.intro | intro _) <;> omega
theorem of_Hop : ∀ o ∈ cHop.outs, ∀ ρ, o.post ρ → ∀ b ∈ o.fs, b.den ρ = true := by
 simp only [cHop, fM, mel, fT, fBn, fImp, pImpQ, okPQ, nB, fTl, pTl, nT, pA, fA, agsV, noT, nL, goOnQ, cEachP, u64R, fB64, LowB, allTrue, sd, implies_true, IE.den, nm_, ge0, leN, nv, li, tT, Nat.reduceAdd]
 try (repeat' first | apply And.intro | intro _) <;> omega
theorem nf_Hop (P : Program) : ∀ nd ∈ ndHop P, ∀ ρ, nd.inv ρ → ∀ b ∈ nd.fs, b.den ρ = true := by
 simp only [ndHop, fM, mel, fT, fBn, fImp, pImpQ, okPQ, nB, fTl, pTl, nT, pA, fA, agsV, noT, nL, goOnQ, cEachP, u64R, fB64, LowB, allTrue, sd, implies_true, IE.den, nm_, ge0, leN, nv, li, tT, Nat.reduceAdd]
 try (repeat' first | apply And.intro | intro _) <;> omega
theorem ok_Hop (mm : Bool) : cHop.Ok Tryz.prog mm Γ0 :=
 con_by (X := Xm Tryz.prog) (cons := consHop) (nds := ndHop Tryz.prog) (T0 := e_Hop Tryz.prog) (hkM_ok _) (fun d hd => by
  rcases List.mem_cons.1 hd with rfl | hd
  ·exact ok_At1 mm
  rcases List.mem_cons.1 hd with rfl | hd
  ·exact ok_TollsQ mm
  rcases List.mem_cons.1 hd with rfl | hd
  ·exact ok_List mm
  cases hd) (by kernel_rfl) (by kernel_rfl) rfl (by kernel_rfl) cf_Hop of_Hop (nf_Hop _) (by kernel_rfl) (fun ρ hv hΓ hl hp => v_Hop Tryz.prog ρ hv hΓ hl hp) trivial
theorem cf_HopN : ∀ ρ, cHopN.pre ρ → ∀ b ∈ cHopN.fs, b.den ρ = true := by
 simp only [cHopN, fM, mel, fT, fBn, fImp, pImpQ, okPQ, nB, fTl, pTl, nT, pA, fA, agsV, noT, nL, goOnQ, cEachP, u64R, fB64, LowB, allTrue, sd, implies_true, IE.den, nm_, ge0, leN, nv, li, tT, Nat.reduceAdd]
 try (repeat' first | apply And.intro | intro _) <;> omega
theorem of_HopN : ∀ o ∈ cHopN.outs, ∀ ρ, o.post ρ → ∀ b ∈ o.fs, b.den ρ = true := by
 simp only [cHopN, fM, mel, fT, fBn, fImp, pImpQ, okPQ, nB, fTl, pTl, nT, pA, fA, agsV, noT, nL, goOnQ, cEachP, u64R, fB64, LowB, allTrue, sd, implies_true, IE.den, nm_, ge0, leN, nv, li, tT, Nat.reduceAdd]
 try (repeat' first | apply And.intro | intro _) <;> omega
theorem nf_HopN (P : Program) : ∀ nd ∈ ndHopN P, ∀ ρ, nd.inv ρ → ∀ b ∈ nd.fs, b.den ρ = true := by
 simp only [ndHopN, fM, mel, fT, fBn, fImp, pImpQ, okPQ, nB, fTl, pTl, nT, pA, fA, agsV, noT, nL, goOnQ, cEachP, u64R, fB64, LowB, allTrue, sd, implies_true, IE.den, nm_, ge0, leN, nv, li, tT, Nat.reduceAdd]
 try (repeat' first | apply And.intro | intro _) <;> omega
theorem ok_HopN (mm : Bool) : cHopN.Ok Tryz.prog mm Γ0 :=
 con_by (X := Xm Tryz.prog) (cons := consHopN) (nds := ndHopN Tryz.prog) (T0 := e_HopN Tryz.prog) (hkM_ok _) (fun d hd => by
  rcases List.mem_cons.1 hd with rfl | hd
  ·exact ok_TollsQN mm
  rcases List.mem_cons.1 hd with rfl | hd
  ·exact ok_List mm
  cases hd) (by kernel_rfl) (by kernel_rfl) rfl (by kernel_rfl) cf_HopN of_HopN (nf_HopN _) (by kernel_rfl) (fun ρ hv hΓ hl hp => v_HopN Tryz.prog ρ hv hΓ hl hp) trivial
end Ft
set_option linter.unusedVariables false
open Go Mv Mw
namespace Ft
def tab64 : List Int := [0, 1, 56, 2, 57, 49, 28, 3, 61, 58, 42, 50, 38, 29, 17, 4, 62, 47, 59, 36, 45, 43, 51, 22, 53, 39, 33, 30, 24, 18, 12, 5, 63, 55, 48, 27, 60, 41, 37, 16, 46, 35, 44, 21, 52, 32, 23, 11, 54, 26, 40, 15, 34, 20, 31, 10, 25, 14, 19, 9, 13, 8, 7, 6]
def oGe : SO := .cells [rtOf LB 79] 156
def oTab : SO := .cells (tab64.map fun n => .int .u8 (.lit n)) 199
def roG : List (Nat × SO) := [(0, oGe), (1, oTab)]
def cFined : Con := { id := 19, f := 19, m := 0, args := [], ro := roG, fs := [], pre := fun _ => True, outs := [{ n := 0, v := yes_, rw := [], fs := [], post := fun _ => True }] }
def hkF (P : Program) : Hk_ := hOr (hExt (xClear P)) <| hOr (hExt (xApp P)) <| hOr (hObv P) <| hOr (hPop P) <| hOr (hExt (xTail P)) <| hOr (hMap P) (hOr (hExt (xAs P LB)) (hOr (hExt (xAs P LE)) (hOr (hExt (xNot LB 29)) (hExt (xTA P)))))
def Fa : CfA := ⟨hkF, [77, 130, 131, 139, 140, 147]⟩
end Ft
set_option linter.unusedVariables false
open Go Mv Mw Go.Proofs
namespace Ft
def pL (ρ : Env) : Prop := 1 ≤ nv ρ 18 0 ∧ nv ρ 18 0 ≤ 64 ∧ nv ρ 18 0 ≤ ((li ρ 17).length : Nat)
def fL : List BE := [.le (.lit (.ofNat 1)) (nm_ 18 0), leN (nm_ 18 0) 64]
def cFind : Con := { id := 17, f := 18, m := 4, args := [sli 16 18, iv 19 0], ro := [(16, oI 17 16)], fs := fL, pre := pL, outs := [{ n := 0, v := .int .i64 (.lit (.negSucc 0)), rw := [], fs := [], post := fun ρ => ∀ j : Nat, (j : Int) < nv ρ 18 0 → (li ρ 17).getD j 0 ≠ nv ρ 19 0 }, { id := 1, n := 1, v := iv 20 0, rw := [], fs := [ge0 (nm_ 20 0)], post := fun ρ => 0 ≤ nv ρ 20 0 ∧ nv ρ 20 0 < nv ρ 18 0 ∧ (li ρ 17).getD (nv ρ 20 0).toNat 0 = nv ρ 19 0 }] }
def ndFind (P : Program) : List NdS := [{ key := 0, n := 1, items := itemsAt P 18 0, sl := [(0, sli 16 18), (1, iv 19 0), (5, iv 20 0)], ro := [(16, oI 17 16)], fs := fL ++ [ge0 (nm_ 20 0), leN (nm_ 20 0) 64], inv := fun ρ => pL ρ ∧ 0 ≤ nv ρ 20 0 ∧ nv ρ 20 0 ≤ nv ρ 18 0 ∧ ∀ j : Nat, (j : Int) < nv ρ 20 0 → (li ρ 17).getD j 0 ≠ nv ρ 19 0, mu := fun ρ => (65 - nv ρ 20 0).toNat }]
def consFind : List Con := []
def roM : List (Nat × SO) := roN ++ roG
def gle (p q : Int) : Prop := ∀ m, m < 64 → gP p m = true → gP q m = true
def moreV (L M : List Int) (n : Nat) : Prop := agsV M (n + 1) ∧ ∀ i, i < 5 * n → M.getD i 0 = L.getD i 0
def subL (l m : List Int) : Prop := ∀ x ∈ l, x ∈ m
def PM (L M : List Int) (p q : Int) : Prop := agsV L (nA L) ∧ 1 ≤ nA L ∧ moreV L M (nA L) ∧ (0 ≤ p ∧ p ≤ 63) ∧ (0 ≤ q ∧ q ≤ 63) ∧ gle p q
def pM (ρ : Env) : Prop := PM (li ρ 18) (li ρ 20) (nv ρ 21 0) (nv ρ 21 1)
def PN (M : List Int) (p q : Int) : Prop := agsV M 1 ∧ (0 ≤ p ∧ p ≤ 63) ∧ (0 ≤ q ∧ q ≤ 63) ∧ gle p q
def pN (ρ : Env) : Prop := PN (li ρ 18) (nv ρ 19 0) (nv ρ 19 1)
def fA0 : List BE := [.le (.lit (.ofNat 5)) (.len 82), leN (.len 82) 20, .le (.lit (.ofNat 5)) (.len 84), leN (.len 84) 20] ++ fM 21 0 ++ fM 21 1
def fN0 : List BE := [.le (.lit (.ofNat 5)) (.len 82), leN (.len 82) 20] ++ fM 19 0 ++ fM 19 1
def oneL (l : List Int) : Prop := 1 ≤ l.length ∧ l.length ≤ 64
def cRow : Con := { id := 70, f := 7, m := 1, args := [sNums], ro := roM, fs := [], pre := rowP, outs := [{ n := 0, v := yes_, rw := [], fs := [], post := fun _ => True }] }
def ndRow (P : Program) : List NdS := [
 { key := 0, n := 5, items := itemsAt P 7 0, sl := [(4, gro 5 17 18), (5, iv 21 0), (6, gro 5 19 20), (7, iv 21 1), (10, nil_), (12, nil_), (14, e0)], rw := [(17, oA 18 17), (19, oA 20 19)], ro := roM, fs := fA0, inv := fun ρ => pM ρ, mu := fun ρ => 2000 },
 { key := 0, n := 9, items := itemsAt P 7 0, sl := [(4, gro 5 17 18), (5, iv 21 0), (6, gro 5 19 20), (7, iv 21 1), (8, gro 1 22 23), (10, nil_), (12, gro 1 24 25), (14, e0)], rw := [(17, oA 18 17), (19, oA 20 19), (22, oI 23 22), (24, oI 25 24)], ro := roM, fs := fA0 ++ fB64 23 ++ fB64 25, inv := fun ρ => pM ρ ∧ oneL (li ρ 23) ∧ oneL (li ρ 25) ∧ subL (li ρ 25) (li ρ 23), mu := fun ρ => 2000 },
 { key := 0, n := 9, items := itemsAt P 7 0, sl := [(4, gro 5 17 18), (5, iv 21 0), (6, gro 5 19 20), (7, iv 21 1), (8, gro 1 22 23), (10, gro 1 24 25), (12, nil_), (14, iv 21 2)], rw := [(17, oA 18 17), (19, oA 20 19), (22, oI 23 22), (24, oI 25 24)], ro := roM, fs := fA0 ++ fB64 23 ++ fB64 25 ++ [ge0 (nm_ 21 2), leN (nm_ 21 2) 64], inv := fun ρ => pM ρ ∧ oneL (li ρ 23) ∧ oneL (li ρ 25) ∧ subL (li ρ 25) (li ρ 23) ∧ 0 ≤ nv ρ 21 2 ∧ nv ρ 21 2 ≤ ((li ρ 25).length : Nat), mu := fun ρ => (2000 + 64 - nv ρ 21 2).toNat },
 { key := 0, n := 11, items := itemsAt P 7 0, sl := [(4, gro 5 17 18), (5, iv 21 0), (6, gro 5 19 20), (7, iv 21 1), (8, gro 1 22 23), (10, gro 1 24 25), (12, gro 1 26 27), (14, iv 21 2)], rw := [(17, oA 18 17), (19, oA 20 19), (22, oI 23 22), (24, oI 25 24), (26, oI 27 26)], ro := roM, fs := fA0 ++ fB64 23 ++ fB64 25 ++ fB64 27 ++ [ge0 (nm_ 21 2), leN (nm_ 21 2) 64], inv := fun ρ => pM ρ ∧ oneL (li ρ 23) ∧ oneL (li ρ 25) ∧ oneL (li ρ 27) ∧ subL (li ρ 25) (li ρ 23) ∧ subL (li ρ 27) (li ρ 23) ∧ 0 ≤ nv ρ 21 2 ∧ nv ρ 21 2 ≤ ((li ρ 25).length : Nat), mu := fun ρ => (2000 + 64 - nv ρ 21 2).toNat },
 { key := 2, n := 5, items := itemsAt P 7 2, sl := [(4, gro 5 17 18), (5, iv 21 0), (6, gro 5 19 20), (7, iv 21 1), (12, nil_), (15, e0)], rw := [(17, oA 18 17), (19, oA 20 19)], ro := roM, fs := fA0, inv := fun ρ => pM ρ, mu := fun ρ => 1000 },
 { key := 2, n := 9, items := itemsAt P 7 2, sl := [(4, gro 5 17 18), (5, iv 21 0), (6, gro 5 19 20), (7, iv 21 1), (8, gro 1 22 23), (12, gro 1 24 25), (15, iv 21 2)], rw := [(17, oA 18 17), (19, oA 20 19), (22, oI 23 22), (24, oI 25 24)], ro := roM, fs := fA0 ++ fB64 23 ++ fB64 25 ++ [ge0 (nm_ 21 2), leN (nm_ 21 2) 64], inv := fun ρ => pM ρ ∧ oneL (li ρ 23) ∧ oneL (li ρ 25) ∧ subL (li ρ 25) (li ρ 23) ∧ 0 ≤ nv ρ 21 2 ∧ nv ρ 21 2 ≤ ((li ρ 25).length : Nat), mu := fun ρ => (1000 + 64 - nv ρ 21 2).toNat },
 { key := 4, n := 5, items := itemsAt P 7 4, sl := [(4, gro 5 17 18), (5, iv 21 0), (6, gro 5 19 20), (7, iv 21 1), (16, iv 21 2)], rw := [(17, oA 18 17), (19, oA 20 19)], ro := roM, fs := fA0 ++ [ge0 (nm_ 21 2), leN (nm_ 21 2) 8], inv := fun ρ => pM ρ ∧ 0 ≤ nv ρ 21 2 ∧ nv ρ 21 2 ≤ 8, mu := fun ρ => (8 - nv ρ 21 2).toNat },
 { key := 0, n := 3, items := itemsAt P 7 0, sl := [(4, nil_), (5, iv 19 0), (6, gro 5 17 18), (7, iv 19 1), (10, nil_), (12, nil_), (14, e0)], rw := [(17, oA 18 17)], ro := roM, fs := fN0, inv := fun ρ => pN ρ, mu := fun ρ => 2000 },
 { key := 0, n := 7, items := itemsAt P 7 0, sl := [(4, nil_), (5, iv 19 0), (6, gro 5 17 18), (7, iv 19 1), (8, gro 1 20 21), (10, nil_), (12, gro 1 22 23), (14, e0)], rw := [(17, oA 18 17), (20, oI 21 20), (22, oI 23 22)], ro := roM, fs := fN0 ++ fB64 21 ++ fB64 23, inv := fun ρ => pN ρ ∧ oneL (li ρ 21) ∧ oneL (li ρ 23) ∧ subL (li ρ 23) (li ρ 21), mu := fun ρ => 2000 },
 { key := 0, n := 7, items := itemsAt P 7 0, sl := [(4, nil_), (5, iv 19 0), (6, gro 5 17 18), (7, iv 19 1), (8, gro 1 20 21), (10, gro 1 22 23), (12, nil_), (14, iv 19 2)], rw := [(17, oA 18 17), (20, oI 21 20), (22, oI 23 22)], ro := roM, fs := fN0 ++ fB64 21 ++ fB64 23 ++ [ge0 (nm_ 19 2), leN (nm_ 19 2) 64], inv := fun ρ => pN ρ ∧ oneL (li ρ 21) ∧ oneL (li ρ 23) ∧ subL (li ρ 23) (li ρ 21) ∧ 0 ≤ nv ρ 19 2 ∧ nv ρ 19 2 ≤ ((li ρ 23).length : Nat), mu := fun ρ => (2000 + 64 - nv ρ 19 2).toNat },
 { key := 0, n := 9, items := itemsAt P 7 0, sl := [(4, nil_), (5, iv 19 0), (6, gro 5 17 18), (7, iv 19 1), (8, gro 1 20 21), (10, gro 1 22 23), (12, gro 1 24 25), (14, iv 19 2)], rw := [(17, oA 18 17), (20, oI 21 20), (22, oI 23 22), (24, oI 25 24)], ro := roM, fs := fN0 ++ fB64 21 ++ fB64 23 ++ fB64 25 ++ [ge0 (nm_ 19 2), leN (nm_ 19 2) 64], inv := fun ρ => pN ρ ∧ oneL (li ρ 21) ∧ oneL (li ρ 23) ∧ oneL (li ρ 25) ∧ subL (li ρ 23) (li ρ 21) ∧ subL (li ρ 25) (li ρ 21) ∧ 0 ≤ nv ρ 19 2 ∧ nv ρ 19 2 ≤ ((li ρ 23).length : Nat), mu := fun ρ => (2000 + 64 - nv ρ 19 2).toNat },
 { key := 2, n := 3, items := itemsAt P 7 2, sl := [(4, nil_), (5, iv 19 0), (6, gro 5 17 18), (7, iv 19 1), (12, nil_), (15, e0)], rw := [(17, oA 18 17)], ro := roM, fs := fN0, inv := fun ρ => pN ρ, mu := fun ρ => 1000 },
 { key := 2, n := 7, items := itemsAt P 7 2, sl := [(4, nil_), (5, iv 19 0), (6, gro 5 17 18), (7, iv 19 1), (8, gro 1 20 21), (12, gro 1 22 23), (15, iv 19 2)], rw := [(17, oA 18 17), (20, oI 21 20), (22, oI 23 22)], ro := roM, fs := fN0 ++ fB64 21 ++ fB64 23 ++ [ge0 (nm_ 19 2), leN (nm_ 19 2) 64], inv := fun ρ => pN ρ ∧ oneL (li ρ 21) ∧ oneL (li ρ 23) ∧ subL (li ρ 23) (li ρ 21) ∧ 0 ≤ nv ρ 19 2 ∧ nv ρ 19 2 ≤ ((li ρ 23).length : Nat), mu := fun ρ => (1000 + 64 - nv ρ 19 2).toNat },
 { key := 4, n := 3, items := itemsAt P 7 4, sl := [(4, nil_), (5, iv 19 0), (6, gro 5 17 18), (7, iv 19 1), (16, iv 19 2)], rw := [(17, oA 18 17)], ro := roM, fs := fN0 ++ [ge0 (nm_ 19 2), leN (nm_ 19 2) 8], inv := fun ρ => pN ρ ∧ 0 ≤ nv ρ 19 2 ∧ nv ρ 19 2 ≤ 8, mu := fun ρ => (8 - nv ρ 19 2).toNat }]
def consRow : List Con := [cTo, cAgents, cAgent, cPass, cHop, cHopN, cFind, cCheap, cCheapN, cFined]
end Ft
set_option linter.unusedVariables false
open Go Mv Mw
namespace Ft
def b0_ : Bd := .ints [(.quo (.len 82) (oN 5)), (.add (.quo (.len 82) (oN 5)) (.room 17 5))]
def b1_ : Bd := .ints [(oN 0), (oN 1), (oN 56), (oN 2), (oN 57), (oN 49), (oN 28), (oN 3), (oN 61), (oN 58), (oN 42), (oN 50), (oN 38), (oN 29), (oN 17), (oN 4), (oN 62), (oN 47), (oN 59), (oN 36), (oN 45), (oN 43), (oN 51), (oN 22), (oN 53), (oN 39), (oN 33), (oN 30), (oN 24), (oN 18), (oN 12), (oN 5), (oN 63), (oN 55), (oN 48), (oN 27), (oN 60), (oN 41), (oN 37), (oN 16), (oN 46), (oN 35), (oN 44), (oN 21), (oN 52), (oN 32), (oN 23), (oN 11), (oN 54), (oN 26), (oN 40), (oN 15), (oN 34), (oN 20), (oN 31), (oN 10), (oN 25), (oN 14), (oN 19), (oN 9), (oN 13), (oN 8), (oN 7), (oN 6)]
def b2_ : Bd := .ints [(hN 85 2), (hN 85 1)]
def b3_ : Bd := .ints [(.quo (.len 84) (oN 5)), (.add (.quo (.len 84) (oN 5)) (.room 19 5))]
def b4_ : Bd := .ints [(h0 85), (hN 85 1), (.add (hN 85 2) (oN 1))]
def b5_ : Bd := .ints [(hN 83 2), (hN 83 1)]
def b6_ : Bd := .ints [(hN 85 2), (h0 85)]
def b7_ : Bd := .ints [(.bits .or .i64 (h0 84) (.wrap .i64 (.shl .i64 (oN 1) (h0 91))))]
def b8_ : Bd := .ints [(.bits .or .i64 (h0 86) (.wrap .i64 (.shl .i64 (oN 1) (h0 96))))]
def b9_ : Bd := .ints [(h0 87), (hN 87 1), (hN 87 2), (hN 87 3), (hN 87 4)]
def b10_ : Bd := .ints [(h0 83), (hN 83 1), (.add (hN 83 2) (oN 1))]
def b11_ : Bd := .ints [(.len 87), (.add (.len 87) (.room 22 1))]
def b12_ : Bd := .ints [(.len 85), (.add (.len 85) (.room 20 1))]
def b13_ : Bd := .ints [(.quo (.len 93) (oN 5)), (.add (.quo (.len 93) (oN 5)) (.room 30 5))]
def e_Find (P : Program) : VT := (.jump 0 [.keep 16, .keep 17, .keep 18, .keep 19, .ints [(oN 0)]] (ndAt (ndFind P) 0).items)
def n_Find_0 (P : Program) : VT := (.branch (.lt (h0 84) (h0 82))
(.need [(.lt (h0 84) (.len 81))] (.branch (.eq (.nth 81 (h0 84)) (h0 83))
(.ret 1 [.keep 16, .keep 17, .keep 18, .keep 19, .ints [(h0 84)]])
(.jump 0 [.keep 16, .keep 17, .keep 18, .keep 19, .ints [(.add (h0 84) (oN 1))]] (ndAt (ndFind P) 0).items)))
(.ret 0 [.keep 16, .keep 17, .keep 18, .keep 19]))
def e_Row (P : Program) : VT := (.new (.obl (oblC cAgents [.keep 16, .keep 17, .ints [(oN 3), (oN 3)], .ints [(oN 0), (oN 11400714819323198485)]]) (.both (.new (.asm (asmC (outAt cAgents.outs 0) [.keep 16, .keep 17, .ints [(oN 3), (oN 3)], .ints [(oN 0), (oN 11400714819323198485)], .keep 18]) (.obl (oblC cPass [.keep 16, .keep 17, .ints [(oN 3)], .ints [(h0 82), (hN 82 1)]]) (.new (.new (.asm (asmC (outAt cPass.outs 0) [.keep 16, .keep 17, .ints [(oN 3)], .ints [(h0 82), (hN 82 1)], .keep 19, .keep 20]) (.new (.obl (oblC cAgent [.keep 16, .keep 17, .ints [(oN 3)], .ints [(h0 83), (hN 83 1)]]) (.new (.new (.asm (asmC (outAt cAgent.outs 0) [.keep 16, .keep 17, .ints [(oN 3)], .ints [(h0 83), (hN 83 1)], .keep 22, .keep 23]) (.new (.new (.obl (oblC cTo [.keep 16, .keep 17, .ints [(oN 2)], .ints [(h0 86), (hN 86 1)]]) (.new (.new (.asm (asmC (outAt cTo.outs 0) [.keep 16, .keep 17, .ints [(oN 2)], .ints [(h0 86), (hN 86 1)], .keep 26, .keep 27]) (.obl (oblC cHopN [.ints [(h0 84)], b1_]) (.both (.asm (asmC (outAt cHopN.outs 0) [.ints [(h0 84)], b1_]) (.obl (oblC cHop [.keep 25, b9_, .ints [(oN 1), (.add (oN 1) (.room 25 5))], .ints [(h0 84)], b1_]) (.both (.asm (asmC (outAt cHop.outs 0) [.keep 25, b9_, .ints [(oN 1), (.add (oN 1) (.room 25 5))], .ints [(h0 84)], b1_]) (.obl (oblC cHopN [b7_, b1_]) (.both (.asm (asmC (outAt cHopN.outs 0) [b7_, b1_]) (.jump 7 [.keep 16, .keep 25, b9_, .ints [(h0 84), (.bits .or .i64 (h0 84) (.wrap .i64 (.shl .i64 (oN 1) (h0 91))))]] (ndAt (ndRow P) 7).items)) (.new (.new (.asm (asmC (outAt cHopN.outs 1) [b7_, b1_, .keep 28, .keep 29])
(.bad 1))))))) (.new (.new (.asm (asmC (outAt cHop.outs 1) [.keep 25, b9_, .ints [(oN 1), (.add (oN 1) (.room 25 5))], .ints [(h0 84)], b1_, .keep 28, .keep 29]) (.obl (oblC cHopN [b7_, b1_]) (.both (.asm (asmC (outAt cHopN.outs 0) [b7_, b1_])
(.bad 1)) (.new (.new (.asm (asmC (outAt cHopN.outs 1) [b7_, b1_, .keep 30, .keep 31])
(.bad 1)))))))))))) (.new (.new (.asm (asmC (outAt cHopN.outs 1) [.ints [(h0 84)], b1_, .keep 28, .keep 29]) (.obl (oblC cHop [.keep 25, b9_, .ints [(oN 1), (.add (oN 1) (.room 25 5))], .ints [(h0 84)], b1_]) (.both (.asm (asmC (outAt cHop.outs 0) [.keep 25, b9_, .ints [(oN 1), (.add (oN 1) (.room 25 5))], .ints [(h0 84)], b1_]) (.obl (oblC cHopN [b7_, b1_]) (.both (.asm (asmC (outAt cHopN.outs 0) [b7_, b1_]) (.jump 7 [.keep 16, .keep 25, b9_, .ints [(h0 84), (.bits .or .i64 (h0 84) (.wrap .i64 (.shl .i64 (oN 1) (h0 91))))]] (ndAt (ndRow P) 7).items)) (.new (.new (.asm (asmC (outAt cHopN.outs 1) [b7_, b1_, .keep 30, .keep 31]) (.branch (.lt (.len 93) (.len 95))
(.bad 1)
 (.jump 8 [.keep 16, .keep 25, b9_, .ints [(h0 84), (.bits .or .i64 (h0 84) (.wrap .i64 (.shl .i64 (oN 1) (h0 91))))], .keep 28, .lst 93, .keep 30, .lst 95] (ndAt (ndRow P) 8).items)))))))) (.new (.new (.asm (asmC (outAt cHop.outs 1) [.keep 25, b9_, .ints [(oN 1), (.add (oN 1) (.room 25 5))], .ints [(h0 84)], b1_, .keep 30, .keep 31]) (.obl (oblC cHopN [b7_, b1_]) (.both (.asm (asmC (outAt cHopN.outs 0) [b7_, b1_]) (.branch (.lt (.len 93) (.len 95))
(.bad 1)
 (.jump 9 [.keep 16, .keep 25, b9_, .ints [(h0 84), (.bits .or .i64 (h0 84) (.wrap .i64 (.shl .i64 (oN 1) (h0 91)))), (oN 0)], .keep 28, .lst 93, .keep 30, .lst 95] (ndAt (ndRow P) 9).items))) (.new (.new (.asm (asmC (outAt cHopN.outs 1) [b7_, b1_, .keep 32, .keep 33]) (.branch (.lt (.len 93) (.len 95))
(.bad 1)
 (.branch (.lt (.len 93) (.len 97))
(.bad 1)
 (.jump 10 [.keep 16, .keep 25, b9_, .ints [(h0 84), (.bits .or .i64 (h0 84) (.wrap .i64 (.shl .i64 (oN 1) (h0 91)))), (oN 0)], .keep 28, .lst 93, .keep 30, .lst 95, .keep 32, .lst 97] (ndAt (ndRow P) 10).items))))))))))))))))))))))))))))))))))) (.new (.new (.new (.asm (asmC (outAt cAgents.outs 1) [.keep 16, .keep 17, .ints [(oN 3), (oN 3)], .ints [(oN 0), (oN 11400714819323198485)], .keep 18, .keep 19, .keep 20]) (.obl (oblC cPass [.keep 16, .keep 17, .ints [(oN 3)], .ints [(h0 82), (hN 82 1)]]) (.new (.new (.asm (asmC (outAt cPass.outs 0) [.keep 16, .keep 17, .ints [(oN 3)], .ints [(h0 82), (hN 82 1)], .keep 21, .keep 22]) (.new (.need [(.le (.mul (.quo (.len 84) (oN 5)) (oN 5)) (.len 84))] (.new (.asm (appAsm 24 (.lits []) (.sub 84 (oN 0) (.mul (.quo (.len 84) (oN 5)) (oN 5)))) (.new (.obl (oblC cAgent [.keep 16, .keep 17, .ints [(oN 3)], .ints [(h0 85), (hN 85 1)]]) (.new (.new (.asm (asmC (outAt cAgent.outs 0) [.keep 16, .keep 17, .ints [(oN 3)], .ints [(h0 85), (hN 85 1)], .keep 26, .keep 27]) (.new (.need [(.le (oN 0) (.quo (.len 88) (oN 5))), (.eq (.mul (.quo (.len 88) (oN 5)) (oN 5)) (.len 88)), (.le (.add (.quo (.len 88) (oN 5)) (oN 1)) (oN 3518437208787))] (.new (.asm (appAsm 29 (.whole 88) (.lits [(h0 91), (hN 91 1), (hN 91 2), (hN 91 3), (hN 91 4)])) (.new (.obl (oblC cTo [.keep 16, .keep 17, .ints [(oN 2)], .ints [(h0 90), (hN 90 1)]]) (.new (.new (.asm (asmC (outAt cTo.outs 0) [.keep 16, .keep 17, .ints [(oN 2)], .ints [(h0 90), (hN 90 1)], .keep 31, .keep 32]) (.obl (oblC cHop [.keep 19, .lst 84, b3_, .ints [(h0 86)], b1_]) (.both (.asm (asmC (outAt cHop.outs 0) [.keep 19, .lst 84, b3_, .ints [(h0 86)], b1_]) (.obl (oblC cHop [.keep 30, .lst 93, b13_, .ints [(h0 86)], b1_]) (.both (.asm (asmC (outAt cHop.outs 0) [.keep 30, .lst 93, b13_, .ints [(h0 86)], b1_]) (.obl (oblC cHop [.keep 19, .lst 84, b3_, b8_, b1_]) (.both (.asm (asmC (outAt cHop.outs 0) [.keep 19, .lst 84, b3_, b8_, b1_]) (.jump 0 [.keep 16, .keep 19, .lst 84, .keep 30, .lst 93, .ints [(h0 86), (.bits .or .i64 (h0 86) (.wrap .i64 (.shl .i64 (oN 1) (h0 96))))]] (ndAt (ndRow P) 0).items)) (.new (.new (.asm (asmC (outAt cHop.outs 1) [.keep 19, .lst 84, b3_, b8_, b1_, .keep 33, .keep 34])
(.bad 1))))))) (.new (.new (.asm (asmC (outAt cHop.outs 1) [.keep 30, .lst 93, b13_, .ints [(h0 86)], b1_, .keep 33, .keep 34]) (.obl (oblC cHop [.keep 19, .lst 84, b3_, b8_, b1_]) (.both (.asm (asmC (outAt cHop.outs 0) [.keep 19, .lst 84, b3_, b8_, b1_])
(.bad 1)) (.new (.new (.asm (asmC (outAt cHop.outs 1) [.keep 19, .lst 84, b3_, b8_, b1_, .keep 35, .keep 36])
(.bad 1)))))))))))) (.new (.new (.asm (asmC (outAt cHop.outs 1) [.keep 19, .lst 84, b3_, .ints [(h0 86)], b1_, .keep 33, .keep 34]) (.obl (oblC cHop [.keep 30, .lst 93, b13_, .ints [(h0 86)], b1_]) (.both (.asm (asmC (outAt cHop.outs 0) [.keep 30, .lst 93, b13_, .ints [(h0 86)], b1_]) (.obl (oblC cHop [.keep 19, .lst 84, b3_, b8_, b1_]) (.both (.asm (asmC (outAt cHop.outs 0) [.keep 19, .lst 84, b3_, b8_, b1_]) (.jump 0 [.keep 16, .keep 19, .lst 84, .keep 30, .lst 93, .ints [(h0 86), (.bits .or .i64 (h0 86) (.wrap .i64 (.shl .i64 (oN 1) (h0 96))))]] (ndAt (ndRow P) 0).items)) (.new (.new (.asm (asmC (outAt cHop.outs 1) [.keep 19, .lst 84, b3_, b8_, b1_, .keep 35, .keep 36]) (.branch (.lt (.len 98) (.len 100))
(.bad 1)
 (.jump 1 [.keep 16, .keep 19, .lst 84, .keep 30, .lst 93, .ints [(h0 86), (.bits .or .i64 (h0 86) (.wrap .i64 (.shl .i64 (oN 1) (h0 96))))], .keep 33, .lst 98, .keep 35, .lst 100] (ndAt (ndRow P) 1).items)))))))) (.new (.new (.asm (asmC (outAt cHop.outs 1) [.keep 30, .lst 93, b13_, .ints [(h0 86)], b1_, .keep 35, .keep 36]) (.obl (oblC cHop [.keep 19, .lst 84, b3_, b8_, b1_]) (.both (.asm (asmC (outAt cHop.outs 0) [.keep 19, .lst 84, b3_, b8_, b1_]) (.branch (.lt (.len 98) (.len 100))
(.bad 1)
 (.jump 2 [.keep 16, .keep 19, .lst 84, .keep 30, .lst 93, .ints [(h0 86), (.bits .or .i64 (h0 86) (.wrap .i64 (.shl .i64 (oN 1) (h0 96)))), (oN 0)], .keep 33, .lst 98, .keep 35, .lst 100] (ndAt (ndRow P) 2).items))) (.new (.new (.asm (asmC (outAt cHop.outs 1) [.keep 19, .lst 84, b3_, b8_, b1_, .keep 37, .keep 38]) (.branch (.lt (.len 98) (.len 100))
(.bad 1)
 (.branch (.lt (.len 98) (.len 102))
(.bad 1)
 (.jump 3 [.keep 16, .keep 19, .lst 84, .keep 30, .lst 93, .ints [(h0 86), (.bits .or .i64 (h0 86) (.wrap .i64 (.shl .i64 (oN 1) (h0 96)))), (oN 0)], .keep 33, .lst 98, .keep 35, .lst 100, .keep 37, .lst 102] (ndAt (ndRow P) 3).items)))))))))))))))))))))))))))))))))))))))))))))))
def n_Row_0 (P : Program) : VT := (.jump 4 [.keep 16, .keep 17, .lst 82, .keep 19, .lst 84, .ints [(h0 85), (hN 85 1)]] (ndAt (ndRow P) 4).items)
def n_Row_1 (P : Program) : VT := (.jump 5 [.keep 16, .keep 17, .lst 82, .keep 19, .lst 84, .ints [(h0 85), (hN 85 1), (oN 0)], .keep 22, .lst 87, .keep 24, .lst 89] (ndAt (ndRow P) 5).items)
def n_Row_2 (P : Program) : VT := (.branch (.lt (hN 85 2) (.len 89))
 (.obl (oblC cFind [.keep 22, .lst 87, b11_, .ints [(.nth 89 (hN 85 2))]]) (.both (.asm (asmC (outAt cFind.outs 0) [.keep 22, .lst 87, b11_, .ints [(.nth 89 (hN 85 2))]])
(.bad 1)) (.new (.asm (asmC (outAt cFind.outs 1) [.keep 22, .lst 87, b11_, .ints [(.nth 89 (hN 85 2))], .keep 26]) (.branch (.lt (h0 90) (oN 0))
(.bad 1)
 (.jump 2 [.keep 16, .keep 17, .lst 82, .keep 19, .lst 84, b4_, .keep 22, .lst 87, .keep 24, .lst 89] (ndAt (ndRow P) 2).items))))))
 (.jump 4 [.keep 16, .keep 17, .lst 82, .keep 19, .lst 84, .ints [(h0 85), (hN 85 1)]] (ndAt (ndRow P) 4).items))
def n_Row_3 (P : Program) : VT := (.branch (.lt (hN 85 2) (.len 89))
 (.obl (oblC cFind [.keep 22, .lst 87, b11_, .ints [(.nth 89 (hN 85 2))]]) (.both (.asm (asmC (outAt cFind.outs 0) [.keep 22, .lst 87, b11_, .ints [(.nth 89 (hN 85 2))]])
(.bad 1)) (.new (.asm (asmC (outAt cFind.outs 1) [.keep 22, .lst 87, b11_, .ints [(.nth 89 (hN 85 2))], .keep 28]) (.branch (.lt (h0 92) (oN 0))
(.bad 1)
 (.jump 3 [.keep 16, .keep 17, .lst 82, .keep 19, .lst 84, b4_, .keep 22, .lst 87, .keep 24, .lst 89, .keep 26, .lst 91] (ndAt (ndRow P) 3).items))))))
 (.jump 5 [.keep 16, .keep 17, .lst 82, .keep 19, .lst 84, .ints [(h0 85), (hN 85 1), (oN 0)], .keep 22, .lst 87, .keep 26, .lst 91] (ndAt (ndRow P) 5).items))
def n_Row_4 (P : Program) : VT := (.jump 6 [.keep 16, .keep 17, .lst 82, .keep 19, .lst 84, .ints [(h0 85), (hN 85 1), (oN 0)]] (ndAt (ndRow P) 6).items)
def n_Row_5 (P : Program) : VT := (.branch (.lt (hN 85 2) (.len 89))
 (.obl (oblC cFind [.keep 22, .lst 87, b11_, .ints [(.nth 89 (hN 85 2))]]) (.both (.asm (asmC (outAt cFind.outs 0) [.keep 22, .lst 87, b11_, .ints [(.nth 89 (hN 85 2))]])
(.bad 1)) (.new (.asm (asmC (outAt cFind.outs 1) [.keep 22, .lst 87, b11_, .ints [(.nth 89 (hN 85 2))], .keep 26]) (.branch (.lt (h0 90) (oN 0))
(.bad 1)
 (.jump 5 [.keep 16, .keep 17, .lst 82, .keep 19, .lst 84, b4_, .keep 22, .lst 87, .keep 24, .lst 89] (ndAt (ndRow P) 5).items))))))
 (.jump 6 [.keep 16, .keep 17, .lst 82, .keep 19, .lst 84, .ints [(h0 85), (hN 85 1), (oN 0)]] (ndAt (ndRow P) 6).items))
def n_Row_6 (P : Program) : VT := (.branch (.lt (hN 85 2) (oN 8))
 (.obl (oblC cCheap [.keep 17, .lst 82, b0_, b6_]) (.both (.asm (asmC (outAt cCheap.outs 0) [.keep 17, .lst 82, b0_, b6_]) (.obl (oblC cCheap [.keep 19, .lst 84, b3_, b6_]) (.both (.asm (asmC (outAt cCheap.outs 0) [.keep 19, .lst 84, b3_, b6_]) (.obl (oblC cCheap [.keep 17, .lst 82, b0_, b2_]) (.both (.asm (asmC (outAt cCheap.outs 0) [.keep 17, .lst 82, b0_, b2_]) (.jump 6 [.keep 16, .keep 17, .lst 82, .keep 19, .lst 84, b4_] (ndAt (ndRow P) 6).items)) (.both (.new (.asm (asmC (outAt cCheap.outs 1) [.keep 17, .lst 82, b0_, b2_, .keep 22]) (.jump 6 [.keep 16, .keep 17, .lst 82, .keep 19, .lst 84, b4_] (ndAt (ndRow P) 6).items))) (.new (.new (.new (.asm (asmC (outAt cCheap.outs 2) [.keep 17, .lst 82, b0_, b2_, .keep 22, .keep 23, .keep 24]) (.jump 6 [.keep 16, .keep 17, .lst 82, .keep 19, .lst 84, b4_] (ndAt (ndRow P) 6).items))))))))) (.both (.new (.asm (asmC (outAt cCheap.outs 1) [.keep 19, .lst 84, b3_, b6_, .keep 22]) (.obl (oblC cCheap [.keep 17, .lst 82, b0_, b2_]) (.both (.asm (asmC (outAt cCheap.outs 0) [.keep 17, .lst 82, b0_, b2_]) (.jump 6 [.keep 16, .keep 17, .lst 82, .keep 19, .lst 84, b4_] (ndAt (ndRow P) 6).items)) (.both (.new (.asm (asmC (outAt cCheap.outs 1) [.keep 17, .lst 82, b0_, b2_, .keep 23]) (.jump 6 [.keep 16, .keep 17, .lst 82, .keep 19, .lst 84, b4_] (ndAt (ndRow P) 6).items))) (.new (.new (.new (.asm (asmC (outAt cCheap.outs 2) [.keep 17, .lst 82, b0_, b2_, .keep 23, .keep 24, .keep 25]) (.jump 6 [.keep 16, .keep 17, .lst 82, .keep 19, .lst 84, b4_] (ndAt (ndRow P) 6).items)))))))))) (.new (.new (.new (.asm (asmC (outAt cCheap.outs 2) [.keep 19, .lst 84, b3_, b6_, .keep 22, .keep 23, .keep 24]) (.obl (oblC cCheap [.keep 17, .lst 82, b0_, b2_]) (.both (.asm (asmC (outAt cCheap.outs 0) [.keep 17, .lst 82, b0_, b2_]) (.jump 6 [.keep 16, .keep 17, .lst 82, .keep 19, .lst 84, b4_] (ndAt (ndRow P) 6).items)) (.both (.new (.asm (asmC (outAt cCheap.outs 1) [.keep 17, .lst 82, b0_, b2_, .keep 25]) (.jump 6 [.keep 16, .keep 17, .lst 82, .keep 19, .lst 84, b4_] (ndAt (ndRow P) 6).items))) (.new (.new (.new (.asm (asmC (outAt cCheap.outs 2) [.keep 17, .lst 82, b0_, b2_, .keep 25, .keep 26, .keep 27]) (.jump 6 [.keep 16, .keep 17, .lst 82, .keep 19, .lst 84, b4_] (ndAt (ndRow P) 6).items)))))))))))))))) (.both (.new (.asm (asmC (outAt cCheap.outs 1) [.keep 17, .lst 82, b0_, b6_, .keep 22]) (.obl (oblC cCheap [.keep 19, .lst 84, b3_, b6_]) (.both (.asm (asmC (outAt cCheap.outs 0) [.keep 19, .lst 84, b3_, b6_]) (.obl (oblC cCheap [.keep 17, .lst 82, b0_, b2_]) (.both (.asm (asmC (outAt cCheap.outs 0) [.keep 17, .lst 82, b0_, b2_])
(.bad 1)) (.both (.new (.asm (asmC (outAt cCheap.outs 1) [.keep 17, .lst 82, b0_, b2_, .keep 23])
(.bad 1))) (.new (.new (.new (.asm (asmC (outAt cCheap.outs 2) [.keep 17, .lst 82, b0_, b2_, .keep 23, .keep 24, .keep 25])
(.bad 1))))))))) (.both (.new (.asm (asmC (outAt cCheap.outs 1) [.keep 19, .lst 84, b3_, b6_, .keep 23]) (.obl (oblC cCheap [.keep 17, .lst 82, b0_, b2_]) (.both (.asm (asmC (outAt cCheap.outs 0) [.keep 17, .lst 82, b0_, b2_])
(.bad 1)) (.both (.new (.asm (asmC (outAt cCheap.outs 1) [.keep 17, .lst 82, b0_, b2_, .keep 24]) (.branch (.lt (h0 86) (h0 87))
(.bad 1)
 (.branch (.lt (h0 86) (h0 88))
(.bad 1)
 (.jump 6 [.keep 16, .keep 17, .lst 82, .keep 19, .lst 84, b4_] (ndAt (ndRow P) 6).items))))) (.new (.new (.new (.asm (asmC (outAt cCheap.outs 2) [.keep 17, .lst 82, b0_, b2_, .keep 24, .keep 25, .keep 26]) (.branch (.lt (h0 86) (h0 87))
(.bad 1)
 (.branch (.lt (h0 86) (h0 88))
(.bad 1)
 (.jump 6 [.keep 16, .keep 17, .lst 82, .keep 19, .lst 84, b4_] (ndAt (ndRow P) 6).items)))))))))))) (.new (.new (.new (.asm (asmC (outAt cCheap.outs 2) [.keep 19, .lst 84, b3_, b6_, .keep 23, .keep 24, .keep 25]) (.obl (oblC cCheap [.keep 17, .lst 82, b0_, b2_]) (.both (.asm (asmC (outAt cCheap.outs 0) [.keep 17, .lst 82, b0_, b2_])
(.bad 1)) (.both (.new (.asm (asmC (outAt cCheap.outs 1) [.keep 17, .lst 82, b0_, b2_, .keep 26]) (.branch (.lt (h0 86) (h0 87))
(.bad 1)
 (.branch (.lt (h0 86) (h0 90))
(.bad 1)
 (.jump 6 [.keep 16, .keep 17, .lst 82, .keep 19, .lst 84, b4_] (ndAt (ndRow P) 6).items))))) (.new (.new (.new (.asm (asmC (outAt cCheap.outs 2) [.keep 17, .lst 82, b0_, b2_, .keep 26, .keep 27, .keep 28]) (.branch (.lt (h0 86) (h0 87))
(.bad 1)
 (.branch (.lt (h0 86) (h0 90))
(.bad 1)
 (.jump 6 [.keep 16, .keep 17, .lst 82, .keep 19, .lst 84, b4_] (ndAt (ndRow P) 6).items))))))))))))))))))) (.new (.new (.new (.asm (asmC (outAt cCheap.outs 2) [.keep 17, .lst 82, b0_, b6_, .keep 22, .keep 23, .keep 24]) (.obl (oblC cCheap [.keep 19, .lst 84, b3_, b6_]) (.both (.asm (asmC (outAt cCheap.outs 0) [.keep 19, .lst 84, b3_, b6_]) (.obl (oblC cCheap [.keep 17, .lst 82, b0_, b2_]) (.both (.asm (asmC (outAt cCheap.outs 0) [.keep 17, .lst 82, b0_, b2_])
(.bad 1)) (.both (.new (.asm (asmC (outAt cCheap.outs 1) [.keep 17, .lst 82, b0_, b2_, .keep 25])
(.bad 1))) (.new (.new (.new (.asm (asmC (outAt cCheap.outs 2) [.keep 17, .lst 82, b0_, b2_, .keep 25, .keep 26, .keep 27])
(.bad 1))))))))) (.both (.new (.asm (asmC (outAt cCheap.outs 1) [.keep 19, .lst 84, b3_, b6_, .keep 25]) (.obl (oblC cCheap [.keep 17, .lst 82, b0_, b2_]) (.both (.asm (asmC (outAt cCheap.outs 0) [.keep 17, .lst 82, b0_, b2_])
(.bad 1)) (.both (.new (.asm (asmC (outAt cCheap.outs 1) [.keep 17, .lst 82, b0_, b2_, .keep 26]) (.branch (.lt (h0 86) (h0 89))
(.bad 1)
 (.branch (.lt (h0 86) (h0 90))
(.bad 1)
 (.jump 6 [.keep 16, .keep 17, .lst 82, .keep 19, .lst 84, b4_] (ndAt (ndRow P) 6).items))))) (.new (.new (.new (.asm (asmC (outAt cCheap.outs 2) [.keep 17, .lst 82, b0_, b2_, .keep 26, .keep 27, .keep 28]) (.branch (.lt (h0 86) (h0 89))
(.bad 1)
 (.branch (.lt (h0 86) (h0 90))
(.bad 1)
 (.jump 6 [.keep 16, .keep 17, .lst 82, .keep 19, .lst 84, b4_] (ndAt (ndRow P) 6).items)))))))))))) (.new (.new (.new (.asm (asmC (outAt cCheap.outs 2) [.keep 19, .lst 84, b3_, b6_, .keep 25, .keep 26, .keep 27]) (.obl (oblC cCheap [.keep 17, .lst 82, b0_, b2_]) (.both (.asm (asmC (outAt cCheap.outs 0) [.keep 17, .lst 82, b0_, b2_])
(.bad 1)) (.both (.new (.asm (asmC (outAt cCheap.outs 1) [.keep 17, .lst 82, b0_, b2_, .keep 28]) (.branch (.lt (h0 86) (h0 89))
(.bad 1)
 (.branch (.lt (h0 86) (h0 92))
(.bad 1)
 (.jump 6 [.keep 16, .keep 17, .lst 82, .keep 19, .lst 84, b4_] (ndAt (ndRow P) 6).items))))) (.new (.new (.new (.asm (asmC (outAt cCheap.outs 2) [.keep 17, .lst 82, b0_, b2_, .keep 28, .keep 29, .keep 30]) (.branch (.lt (h0 86) (h0 89))
(.bad 1)
 (.branch (.lt (h0 86) (h0 92))
(.bad 1)
 (.jump 6 [.keep 16, .keep 17, .lst 82, .keep 19, .lst 84, b4_] (ndAt (ndRow P) 6).items))))))))))))))))))))))))
 (.obl (oblC cFined []) (.asm (asmC (outAt cFined.outs 0) []) (.ret 0 [.keep 16]))))
def n_Row_7 (P : Program) : VT := (.jump 11 [.keep 16, .keep 17, .lst 82, .ints [(h0 83), (hN 83 1)]] (ndAt (ndRow P) 11).items)
def n_Row_8 (P : Program) : VT := (.jump 12 [.keep 16, .keep 17, .lst 82, .ints [(h0 83), (hN 83 1), (oN 0)], .keep 20, .lst 85, .keep 22, .lst 87] (ndAt (ndRow P) 12).items)
def n_Row_9 (P : Program) : VT := (.branch (.lt (hN 83 2) (.len 87))
 (.obl (oblC cFind [.keep 20, .lst 85, b12_, .ints [(.nth 87 (hN 83 2))]]) (.both (.asm (asmC (outAt cFind.outs 0) [.keep 20, .lst 85, b12_, .ints [(.nth 87 (hN 83 2))]])
(.bad 1)) (.new (.asm (asmC (outAt cFind.outs 1) [.keep 20, .lst 85, b12_, .ints [(.nth 87 (hN 83 2))], .keep 24]) (.branch (.lt (h0 88) (oN 0))
(.bad 1)
 (.jump 9 [.keep 16, .keep 17, .lst 82, b10_, .keep 20, .lst 85, .keep 22, .lst 87] (ndAt (ndRow P) 9).items))))))
 (.jump 11 [.keep 16, .keep 17, .lst 82, .ints [(h0 83), (hN 83 1)]] (ndAt (ndRow P) 11).items))
def n_Row_10 (P : Program) : VT := (.branch (.lt (hN 83 2) (.len 87))
 (.obl (oblC cFind [.keep 20, .lst 85, b12_, .ints [(.nth 87 (hN 83 2))]]) (.both (.asm (asmC (outAt cFind.outs 0) [.keep 20, .lst 85, b12_, .ints [(.nth 87 (hN 83 2))]])
(.bad 1)) (.new (.asm (asmC (outAt cFind.outs 1) [.keep 20, .lst 85, b12_, .ints [(.nth 87 (hN 83 2))], .keep 26]) (.branch (.lt (h0 90) (oN 0))
(.bad 1)
 (.jump 10 [.keep 16, .keep 17, .lst 82, b10_, .keep 20, .lst 85, .keep 22, .lst 87, .keep 24, .lst 89] (ndAt (ndRow P) 10).items))))))
 (.jump 12 [.keep 16, .keep 17, .lst 82, .ints [(h0 83), (hN 83 1), (oN 0)], .keep 20, .lst 85, .keep 24, .lst 89] (ndAt (ndRow P) 12).items))
def n_Row_11 (P : Program) : VT := (.jump 13 [.keep 16, .keep 17, .lst 82, .ints [(h0 83), (hN 83 1), (oN 0)]] (ndAt (ndRow P) 13).items)
def n_Row_12 (P : Program) : VT := (.branch (.lt (hN 83 2) (.len 87))
 (.obl (oblC cFind [.keep 20, .lst 85, b12_, .ints [(.nth 87 (hN 83 2))]]) (.both (.asm (asmC (outAt cFind.outs 0) [.keep 20, .lst 85, b12_, .ints [(.nth 87 (hN 83 2))]])
(.bad 1)) (.new (.asm (asmC (outAt cFind.outs 1) [.keep 20, .lst 85, b12_, .ints [(.nth 87 (hN 83 2))], .keep 24]) (.branch (.lt (h0 88) (oN 0))
(.bad 1)
 (.jump 12 [.keep 16, .keep 17, .lst 82, b10_, .keep 20, .lst 85, .keep 22, .lst 87] (ndAt (ndRow P) 12).items))))))
 (.jump 13 [.keep 16, .keep 17, .lst 82, .ints [(h0 83), (hN 83 1), (oN 0)]] (ndAt (ndRow P) 13).items))
def n_Row_13 (P : Program) : VT := (.branch (.lt (hN 83 2) (oN 8))
 (.obl (oblC cCheapN [.ints [(hN 83 2), (h0 83)]]) (.both (.asm (asmC (outAt cCheapN.outs 0) [.ints [(hN 83 2), (h0 83)]]) (.obl (oblC cCheap [.keep 17, .lst 82, b0_, .ints [(hN 83 2), (h0 83)]]) (.both (.asm (asmC (outAt cCheap.outs 0) [.keep 17, .lst 82, b0_, .ints [(hN 83 2), (h0 83)]]) (.obl (oblC cCheapN [b5_]) (.both (.asm (asmC (outAt cCheapN.outs 0) [b5_]) (.jump 13 [.keep 16, .keep 17, .lst 82, b10_] (ndAt (ndRow P) 13).items)) (.new (.asm (asmC (outAt cCheapN.outs 1) [b5_, .keep 20]) (.jump 13 [.keep 16, .keep 17, .lst 82, b10_] (ndAt (ndRow P) 13).items)))))) (.both (.new (.asm (asmC (outAt cCheap.outs 1) [.keep 17, .lst 82, b0_, .ints [(hN 83 2), (h0 83)], .keep 20]) (.obl (oblC cCheapN [b5_]) (.both (.asm (asmC (outAt cCheapN.outs 0) [b5_]) (.jump 13 [.keep 16, .keep 17, .lst 82, b10_] (ndAt (ndRow P) 13).items)) (.new (.asm (asmC (outAt cCheapN.outs 1) [b5_, .keep 21]) (.jump 13 [.keep 16, .keep 17, .lst 82, b10_] (ndAt (ndRow P) 13).items))))))) (.new (.new (.new (.asm (asmC (outAt cCheap.outs 2) [.keep 17, .lst 82, b0_, .ints [(hN 83 2), (h0 83)], .keep 20, .keep 21, .keep 22]) (.obl (oblC cCheapN [b5_]) (.both (.asm (asmC (outAt cCheapN.outs 0) [b5_]) (.jump 13 [.keep 16, .keep 17, .lst 82, b10_] (ndAt (ndRow P) 13).items)) (.new (.asm (asmC (outAt cCheapN.outs 1) [b5_, .keep 23]) (.jump 13 [.keep 16, .keep 17, .lst 82, b10_] (ndAt (ndRow P) 13).items))))))))))))) (.new (.asm (asmC (outAt cCheapN.outs 1) [.ints [(hN 83 2), (h0 83)], .keep 20]) (.obl (oblC cCheap [.keep 17, .lst 82, b0_, .ints [(hN 83 2), (h0 83)]]) (.both (.asm (asmC (outAt cCheap.outs 0) [.keep 17, .lst 82, b0_, .ints [(hN 83 2), (h0 83)]]) (.obl (oblC cCheapN [b5_]) (.both (.asm (asmC (outAt cCheapN.outs 0) [b5_])
(.bad 1)) (.new (.asm (asmC (outAt cCheapN.outs 1) [b5_, .keep 21])
(.bad 1)))))) (.both (.new (.asm (asmC (outAt cCheap.outs 1) [.keep 17, .lst 82, b0_, .ints [(hN 83 2), (h0 83)], .keep 21]) (.obl (oblC cCheapN [b5_]) (.both (.asm (asmC (outAt cCheapN.outs 0) [b5_])
(.bad 1)) (.new (.asm (asmC (outAt cCheapN.outs 1) [b5_, .keep 22]) (.branch (.lt (h0 84) (h0 85))
(.bad 1)
 (.branch (.lt (h0 84) (h0 86))
(.bad 1)
 (.jump 13 [.keep 16, .keep 17, .lst 82, b10_] (ndAt (ndRow P) 13).items))))))))) (.new (.new (.new (.asm (asmC (outAt cCheap.outs 2) [.keep 17, .lst 82, b0_, .ints [(hN 83 2), (h0 83)], .keep 21, .keep 22, .keep 23]) (.obl (oblC cCheapN [b5_]) (.both (.asm (asmC (outAt cCheapN.outs 0) [b5_])
(.bad 1)) (.new (.asm (asmC (outAt cCheapN.outs 1) [b5_, .keep 24]) (.branch (.lt (h0 84) (h0 85))
(.bad 1)
 (.branch (.lt (h0 84) (h0 88))
(.bad 1)
 (.jump 13 [.keep 16, .keep 17, .lst 82, b10_] (ndAt (ndRow P) 13).items))))))))))))))))))
 (.obl (oblC cFined []) (.asm (asmC (outAt cFined.outs 0) []) (.ret 0 [.keep 16]))))
end Ft
set_option linter.unusedVariables false
set_option linter.unusedSimpArgs false
open Go Mv Mw
namespace Ft
theorem v_Find (P : Program) (ρ : Env) (hv : vals ρ) (hΓ : Γ0.On ρ) (hl : ρ.k.length = 20) (hp : cFind.pre ρ) : VC cFind (ndFind P) none ρ (e_Find P) := by
 simp only [VC, oblC, asmC, appAsm, outAt, ndAt, allTrue, ve, BE.den, LX.den, nv, li, rowP, tT, e_Find, ndFind, cFind, pL] at hp ⊢
 simp only [vb, bdList, hl, IE.den, forall_eq', implies_true, reduceIte, reduceCtorEq, Nat.reduceAdd, Nat.reduceSub, Nat.reduceLeDiff, Nat.reduceLT, Nat.reduceEqDiff] at hp ⊢
 exact ⟨hp, by omega, by omega, by omega⟩
theorem below_succ {p : Nat → Prop} {k : Int} (h0 : 0 ≤ k) (h : ∀ j : Nat, (j : Int) < k → p j) (hk : p k.toNat) : ∀ j : Nat, (j : Int) < k + 1 → p j := fun j hj => by
 by_cases e : (j : Int) < k
 ·exact h j e
 ·have : j = k.toNat := by omega
  rw [this]; exact hk
theorem v_Find_0 (P : Program) (ρ : Env) (hv : vals ρ) (hΓ : Γ0.On ρ) (hl : ρ.k.length = 21) (hp : (ndAt (ndFind P) 0).inv ρ) : VC cFind (ndFind P) (some ((ndAt (ndFind P) 0).mu ρ)) ρ (n_Find_0 P) := by
 simp only [VC, oblC, asmC, appAsm, outAt, ndAt, allTrue, ve, BE.den, LX.den, nv, li, rowP, tT, n_Find_0, ndFind, cFind, pL] at hp ⊢
 simp only [vb, bdList, hl, IE.den, forall_eq', implies_true, reduceIte, reduceCtorEq, Nat.reduceAdd, Nat.reduceSub, Nat.reduceLeDiff, Nat.reduceLT, Nat.reduceEqDiff] at hp ⊢
 obtain ⟨⟨p1, p2, p3⟩, p4, p5, p6⟩ := hp
 exact ⟨fun hlt => ⟨by omega, fun he => ⟨p4, hlt, he⟩, fun he => ⟨⟨⟨p1, p2, p3⟩, by omega, by omega, below_succ p4 p6 he⟩, by omega⟩⟩, fun hge j hj => p6 j (by omega)⟩
end Ft
set_option linter.unusedVariables false
set_option linter.unusedSimpArgs false
open Go Mv Mw Go.Proofs
namespace Ft
theorem cf_Find : ∀ ρ, cFind.pre ρ → ∀ b ∈ cFind.fs, b.den ρ = true := by
 simp only [cFind, fM, mel, fT, fBn, fImp, pImpQ, okPQ, nB, fTl, pTl, nT, pA, fA, agsV, noT, nL, goOnQ, cEachP, u64R, fB64, LowB, fL, pL, fA0, fN0, pM, pN, PM, PN, roM, roN, roG, moreV, oneL, allTrue, sd, implies_true, IE.den, nm_, ge0, leN, nv, li, tT, Nat.reduceAdd]
 try (repeat' first | apply And.intro | intro _) <;> omega
theorem of_Find : ∀ o ∈ cFind.outs, ∀ ρ, o.post ρ → ∀ b ∈ o.fs, b.den ρ = true := by
 simp only [cFind, fM, mel, fT, fBn, fImp, pImpQ, okPQ, nB, fTl, pTl, nT, pA, fA, agsV, noT, nL, goOnQ, cEachP, u64R, fB64, LowB, fL, pL, fA0, fN0, pM, pN, PM, PN, roM, roN, roG, moreV, oneL, allTrue, sd, implies_true, IE.den, nm_, ge0, leN, nv, li, tT, Nat.reduceAdd]
 try (repeat' first | apply And.intro | intro _) <;> omega
theorem nf_Find (P : Program) : ∀ nd ∈ ndFind P, ∀ ρ, nd.inv ρ → ∀ b ∈ nd.fs, b.den ρ = true := by
 simp only [ndFind, fM, mel, fT, fBn, fImp, pImpQ, okPQ, nB, fTl, pTl, nT, pA, fA, agsV, noT, nL, goOnQ, cEachP, u64R, fB64, LowB, fL, pL, fA0, fN0, pM, pN, PM, PN, roM, roN, roG, moreV, oneL, allTrue, sd, implies_true, IE.den, nm_, ge0, leN, nv, li, tT, Nat.reduceAdd]
 try (repeat' first | apply And.intro | intro _) <;> omega
theorem ok_Find (mm : Bool) : cFind.Ok Tryz.prog mm Γ0 :=
 con_by (X := Xm Tryz.prog) (cons := consFind) (nds := ndFind Tryz.prog) (T0 := e_Find Tryz.prog) (hkM_ok _) (fun d hd => by cases hd) (by kernel_rfl) (by kernel_rfl) rfl (by kernel_rfl) cf_Find of_Find (nf_Find _) (by kernel_rfl) (fun ρ hv hΓ hl hp => v_Find Tryz.prog ρ hv hΓ hl hp) ⟨⟨n_Find_0 Tryz.prog, by kernel_rfl, fun ρ hv hΓ hl hi => v_Find_0 Tryz.prog ρ hv hΓ hl hi⟩, trivial⟩
end Ft
set_option linter.unusedVariables false
open Go Mv Mw Go.Proofs
namespace Ft
theorem Fa_ok (mm : Bool) : HkOk Tryz.prog (noRel mm) (Fa.hk Tryz.prog) :=
 hOr_ok (hExt_ok xClear_ok) (hOr_ok (hExt_ok xApp_ok) (hOr_ok hObv_ok (hOr_ok hPop_ok (hOr_ok (hExt_ok xTail_ok) (hOr_ok hMap_ok (hOr_ok (hExt_ok (xAs_ok LB_as)) (hOr_ok (hExt_ok (xAs_ok LE_as)) (hOr_ok (hExt_ok (xNot_ok LB_not)) (hExt_ok xTA_ok)))))))))
end Ft
