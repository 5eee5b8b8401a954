/- A logic over the machine and a run of a program on unknown values, in the kernel. No statement of the project is proved in this text. -/
import Derived.Test.YtcidaiiknhfkiaaGreatDoorProg
import Derived.Test.YtcidaiiknhfkiaaGreatDoorm4
set_option linter.unusedVariables false
set_option linter.unusedSimpArgs false
namespace Mw
open Go Mv
section
variable {P : Program} {ρ : Env} {hp : Hp} {F S0 S : Own}
theorem run_growU [Loud S0] (hv : vals ρ) {ats : Array TypeId} {ty : TypeId} {args : Array Value} {st xt el : TypeId} {k : IntKind} {ti : TypeInfo} {zs : List SC} {n : Nat}
  (hst : ats[0]? = some st) (hxt : ats[1]? = some xt) (hargs : args[0]? = some (.slice none 0 0)) (hargs1 : args[1]? = some (.int .i64 ((n + 1 : Nat) : Int))) (hu : P.underlying st = some (.slice el)) (hux : P.underlying xt = some (.int k)) (hi : P.info? el = some ti)
  (hz : zeroCells P el = some zs) (c1 : zs.length = ti.size) (c2 : 1 ≤ ti.size) (c3 : n + 1 ≤ 2 ^ 40) (c4 : (2 * (n + 1) + 192) * ti.bytes ≤ 2 ^ 48) {K : Except Value Value → Own → Prop}
  (hK : ∀ (r : Nat) (cs : List Value), (S.full r = none ∧ S.ro r = none) → (n + 1) * ti.size ≤ cs.length → K (.ok (.slice (some ⟨r, 0, none⟩) (n + 1) (cs.length / ti.size))) (S.set r (.cells cs.toArray el (0, 0)))) :
  Run P S0 (Builtin.append_ ats ty args) S K := by
 obtain ⟨hzo, z, hzc, hzr⟩ := qar (ρ := ρ) (P := P) (S0 := S0) hv hz
 have hzsize : z.cells.size = ti.size := by rw [hzc]; simpa using c1
 unfold Builtin.append_
 simp only [hst, hxt, hargs, hargs1, bind]
 refine run_underlying hu ?_
 refine run_sizeOf hi ?_
 refine run_underlying hux ?_
 refine Run.bind (Run.pure (S := S) ?_)
 simp only [if_true, Bool.not_true, Bool.false_eq_true, if_false, asInt, pure, Sem.bind]
 refine Run.bind (Run.bind (Run.pure (S := S) (Run.pure (S := S) ?_)))
 have hwr : IntKind.i64.wrap ((n + 1 : Nat) : Int) = Int.ofNat (n + 1) := wrap_small (show n + 1 ≤ 2 ^ 48 by omega)
 simp only [hwr]
 have q1 : ¬ (Int.ofNat (n + 1) < 0) := by simp only [Int.ofNat_eq_natCast]; omega
 have q2 : ¬ (Int.ofNat (n + 1) * (ti.bytes : Int) > 2 ^ 48) := by
  have e1 : Int.ofNat (n + 1) * (ti.bytes : Int) = (((n + 1) * ti.bytes : Nat) : Int) := by simp
  have e2 : (n + 1) * ti.bytes ≤ (2 * (n + 1) + 192) * ti.bytes := Nat.mul_le_mul_right _ (by omega)
  rw [e1]; omega
 have q3 : ¬ (0 + (Int.ofNat (n + 1)).toNat ≤ 0) := by simp only [Int.ofNat_eq_natCast, Int.toNat_natCast]; omega
 rw [if_neg q1]
 refine run_typeInfo hi ?_
 rw [if_neg q2, if_neg q3]
 refine run_typeInfo hi ?_
 have q4 : ¬ (((0 + (Int.ofNat (n + 1)).toNat : Nat) : Int) > IntKind.i64.max ∧ (True ∨ ti.bytes = 0)) := by
  rintro ⟨h, _⟩
  have : IntKind.i64.max = 9223372036854775807 := by decide
  simp only [Int.ofNat_eq_natCast, Int.toNat_natCast] at h
  omega
 rw [if_neg q4]
 refine run_typeInfo hi ?_
 have hN : 0 + (Int.ofNat (n + 1)).toNat = n + 1 := by simp only [Int.ofNat_eq_natCast, Int.toNat_natCast]; omega
 have hM : (Int.ofNat (n + 1)).toNat = n + 1 := rfl
 have q5 : ¬ (Builtin.nextslicecap (0 + (Int.ofNat (n + 1)).toNat) 0 * ti.bytes > 2 ^ 48) := by
  rw [hN]
  have h1 := nextslicecap_le (n := n + 1) (c := 0) (by omega)
  have h2 := Nat.mul_le_mul_right ti.bytes h1
  omega
 rw [if_neg q5, hN, hM]
 refine Run.choose fun q hq1 hq2 => ?_
 have hle : n + 1 ≤ q := by
  obtain ⟨t, rfl⟩ := hq2 rfl
  exact Nat.le_add_right _ _
 refine run_typeInfo hi (run_askRoom ?_)
 refine Run.bind (Run.pure (S := S) ?_)
 rw [if_neg (show ¬ ((n + 1) * ti.size = 0) by
  have := Nat.mul_le_mul (show 1 ≤ n + 1 by omega) c2
  omega)]
 refine Run.bind (hzr (g := fun z => Sem.pure (Builtin.zeroCells z.cells (n + 1))) (Run.pure (S := S) ?_))
 refine hzr ?_
 refine Run.new fun r h2 h3 => Run.pure ?_
 have := hK r ((Builtin.zeroCells z.cells (n + 1)).toList ++ (Builtin.zeroCells z.cells (q - (n + 1))).toList) ⟨h2, h3⟩ (by
  rw [List.length_append, Array.length_toList, qbc, hzsize]; omega)
 rw [List.length_append, Array.length_toList, Array.length_toList, qbc, qbc, hzsize, ← Nat.add_mul, show n + 1 + (q - (n + 1)) = q by omega, Nat.mul_div_cancel _ (by omega)] at this
 have e1 : (#[] ++ Builtin.zeroCells z.cells (n + 1) ++ Builtin.zeroCells z.cells (q - (n + 1))) = ((Builtin.zeroCells z.cells (n + 1)).toList ++ (Builtin.zeroCells z.cells (q - (n + 1))).toList).toArray := by
  apply Array.ext'; simp
 rw [e1]
 exact this
end
def growN : Nat := 1048576
def growB (nk size : Nat) (n : IE) : BE := .le n (.add (.lit (.ofNat 0)) (.room nk size))
def growAsm (nk size : Nat) (n : IE) (ρ : Env) : Prop := (growB nk size n).den ρ = true
def hGrowU (P : Program) : Hk_ := fun ex C Γ items ops rest o tail σ nk k => match o.op with
 | .call c => match c.callee with
  | .builtin .append => match o.dst.all (· < C.size), c.args[0]?, c.args[1]?, c.argTypes[0]?, c.argTypes[1]? with
   | true, some x, some y, some st, some xt => match P.underlying st, P.underlying xt, evC σ.sl x, evC σ.sl y with
    | some (.slice e), some (.int _), some (.lit (.slice none 0 0)), some (.int .i64 n) => match P.info? e, zeroCells P e with
     | some ti, some zs => match Nat.beq zs.length ti.size && (Nat.ble 1 ti.size && Nat.ble ((2 * growN + 192) * ti.bytes) (2 ^ 48)) with
      | true => some (.needs (toShow Γ [.le (.lit (.ofNat 1)) n, .le n (.lit (.ofNat growN))]) (.new (.asm (growAsm nk ti.size n) (.word 14 [nk, ti.size] [n] [])
        (ex C (Γ.add (growB nk ti.size n) true) (.inRegion ops rest :: tail) { σ with sl := putD σ.sl o.dst (.slice nk (.lit (.ofNat 0)) n (.add (.lit (.ofNat 0)) (.room nk ti.size))), hp := { σ.hp with rw := σ.hp.rw.set nk (.row [] e nk) } } (nk + 1) k))))
      | false => none
     | _, _ => none
    | _, _, _, _ => none
   | _, _, _, _, _ => none
  | _ => none
 | _ => none
theorem needs_of {D : Env → SEx → SS → Prop} {E : Env → List Item → SS → Prop} {ρ : Env} {l : List BE} {t : Tree} (h : holds D E ρ (Tree.needs l t)) : (∀ c ∈ l, c.den ρ = true) ∧ holds D E ρ t := by
 unfold Tree.needs at h
 split at h
 ·exact ⟨fun c hc => (by cases hc), h⟩
 ·exact h
theorem hGrowU_ok {P : Program} {main : Co} : HkOk P main (hGrowU P) where
 alloc ex C Γ items ops rest o tail σ nk k t ho := by simp only [hGrowU, ho]
 bs ex C Γ items ops rest o tail σ nk k t n ps ho := by simp only [hGrowU, ho]
 good := by
  intro D E ex C Γ items items' tail ops i rest rest' o σ k ρ Q F r t hr hv hΓ hK ho ht hh a S hf hw hst hn
  unfold hGrowU at ht
  split at ht
  ·rename_i c hop
   split at ht
   ·rename_i hcal
    split at ht
    ·rename_i x y st xt hd hx0 hy0 hst0 hxt0
     split at ht
     ·rename_i e kx nn hu hux hsx hsy
      split at ht
      ·rename_i ti zs hi hz
       split at ht
       ·rename_i hc
        simp only [Bool.and_eq_true] at hc
        obtain ⟨c1, c2, c3⟩ := hc
        have c1 := Nat.eq_of_beq_eq_true c1
        have c2 := Nat.le_of_ble_eq_true c2
        have c3 := Nat.le_of_ble_eq_true c3
        simp only [Option.some.injEq] at ht; subst ht
        obtain ⟨hneeds, hh⟩ := needs_of hh
        have hall := qbv hΓ hneeds
        have g1 := hall _ List.mem_cons_self
        have g2 := hall _ (List.mem_cons_of_mem _ List.mem_cons_self)
        haveI := hf.hp.loud
        have hev := qax hf.sl
        obtain ⟨_, hs'⟩ := hev _ _ hsx
        obtain ⟨hno, hy'⟩ := hev _ _ hsy
        have hpl : plainOp r.round o = true := by unfold plainOp; rw [hop]; simp
        obtain ⟨callee, args, ats⟩ := c
        simp only at hcal hx0 hy0 hst0 hxt0
        subst hcal
        have hred : execOp a.eval o = (do pure (.value (← Builtin.append_ ats o.type (args.map a.eval))) : Sem Next) := by
         simp only [execOp, hop, resolve, invoke, builtin]
         rfl
        have g1 : (1 : Int) ≤ nn.den ρ := of_decide_eq_true g1
        have g2 : nn.den ρ ≤ ((growN : Nat) : Int) := of_decide_eq_true g2
        obtain ⟨n, en⟩ : ∃ n : Nat, nn.den ρ = ((n + 1 : Nat) : Int) := ⟨(nn.den ρ - 1).toNat, by omega⟩
        have hnle : n + 1 ≤ growN := by omega
        have hbytes : (2 * (n + 1) + 192) * ti.bytes ≤ 2 ^ 48 := Nat.le_trans (Nat.mul_le_mul_right _ (by omega)) c3
        refine qcb ho hw hpl ?_
        rw [hred]
        refine qak (run_growU (P := P) (ρ := ρ) (n := n) hv hst0 hxt0 (by simp [hx0, hs', SC.den]) (by simp [hy0, hy', SC.den, en]) hu hux hi hz c1 c2 (by unfold growN at hnle; omega) hbytes fun rb cs hrb hle => ?_)
        show wpI P main r (.inRegion ops rest' :: tail) Q (a.put o.dst _) _
        let ρ1 := ρ.grow rb cs
        have he : Ext ρ ρ1 := Ext.grow _ _ _
        have l1 : ρ1.k.length = ρ.k.length + 1 := qab _ _ _
        have r1 : ρ1.rest ρ.k.length = cs := qaj _ _ _
        have b1 : ρ1.blk ρ.k.length = rb := qav _ _ _
        have hden : (SO.row [] e ρ.k.length).den ρ1 = .cells cs.toArray e (0, 0) := by
         simp only [SO.den, List.map_nil, List.nil_append, r1]
        have hs1 : Sat ρ1 { σ.hp with rw := σ.hp.rw.set ρ.k.length (.row [] e ρ.k.length) } F (S.set rb (.cells cs.toArray e (0, 0))) := by
         rw [← hden]
         exact hf.hp.new hrb.1 hrb.2 ⟨by omega, fun x hx => (by cases hx)⟩
        have hvok : (SC.slice ρ.k.length (.lit (.ofNat 0)) nn (.add (.lit (.ofNat 0)) (.room ρ.k.length ti.size))).ok ρ1.k.length := ⟨by rw [l1]; omega, trivial, IE.ok_mono (by rw [l1]; omega) hno, trivial, by show ρ.k.length < _; rw [l1]; omega⟩
        have hvd : (SC.slice ρ.k.length (.lit (.ofNat 0)) nn (.add (.lit (.ofNat 0)) (.room ρ.k.length ti.size))).den ρ1 = .slice (some ⟨rb, 0, none⟩) (n + 1) (cs.length / ti.size) := by
         have e1 : nn.den ρ1 = ((n + 1 : Nat) : Int) := by rw [qcn he hno, en]
         have e2 : IE.den ρ1 (.add (.lit (.ofNat 0)) (.room ρ.k.length ti.size)) = ((cs.length / ti.size : Nat) : Int) := by simp [IE.den, r1]
         simp only [SC.den, e1, e2, b1, Int.toNat_natCast]
         rfl
        have hfit := (hf.later he hs1).put (dst := o.dst) hd hvok
        rw [hvd] at hfit
        have hb : (growB ρ.k.length ti.size nn).den ρ1 = true := by
         have e1 : nn.den ρ1 = ((n + 1 : Nat) : Int) := by rw [qcn he hno, en]
         have e2 : IE.den ρ1 (.add (.lit (.ofNat 0)) (.room ρ.k.length ti.size)) = ((cs.length / ti.size : Nat) : Int) := by simp [IE.den, r1]
         refine decide_eq_true ?_
         rw [e1, e2]
         have := (Nat.le_div_iff_mul_le (show 0 < ti.size by omega)).2 hle
         exact Int.ofNat_le.2 this
        exact hn ρ1 (Γ.add (growB ρ.k.length ti.size nn) true) _ _ _ he (qah he hv) ((hΓ.grow _ _).add ⟨IE.ok_mono (by rw [l1]; omega) hno, trivial, by show ρ.k.length < _; rw [l1]; omega⟩ hb) hfit ⟨_, rfl⟩ (by rw [l1]; exact hh _ _ hb)
       ·cases ht
      ·cases ht
     ·cases ht
    ·cases ht
   ·cases ht
  ·cases ht
open Go Mv
theorem sym_step {P : Program} {main : Co} {D : Env → SEx → SS → Prop} {E : Env → List Item → SS → Prop} {ex : Run_} {C : Cx} {Γ : Facts} {items' tail : List Item} {ops : Array Oper} {i : Nat} {rest rest' : List Nat} {o : Oper} {σ : SS} {k : Kont} {ρ : Env} {Q : Ex → St → Own → Prop} {F : Own} {r : Ctx} {eff : Eff} {a : St} {S : Own}
  (ho : ops[i]? = some o) (hw : Region.wanted o (yielded ops a.tmps) = true) (hv : vals ρ) (hΓ : Γ.On ρ) (hf : Fit C.size F ρ σ a S) (hd : o.dst.all (· < C.size) = true) (hpl : plainOp r.round o = true) (heff : symOp P σ.hp (evC σ.sl) o.op = some eff)
  (hh : holds D E ρ (applyEff Γ o.dst σ ρ.k.length (fun σ nk => ex C Γ (.inRegion ops rest :: items') σ nk k) eff))
  (hn : ∀ ρ' σ' a' S', Ext ρ ρ' → vals ρ' → Γ.On ρ' → Fit C.size F ρ' σ' a' S' → (∃ v, a'.tmps = (a.put o.dst v).tmps) → holds D E ρ' (ex C Γ (.inRegion ops rest :: items') σ' ρ'.k.length k) → wpI P main r (.inRegion ops rest' :: tail) Q a' S') :
  wpI P main r (.inRegion ops (i :: rest') :: tail) Q a S := by
 refine qcb ho hw hpl ?_
 haveI := hf.hp.loud
 have hg := qem (P := P) (S0 := S) hv hf.hp (qax hf.sl) heff
 exact Run.mono (qca (next := fun a' S' => (∃ v, a'.tmps = (a.put o.dst v).tmps) → wpI P main r (.inRegion ops rest' :: tail) Q a' S') hΓ hg hf hd hh fun ρ' σ' a' S' he hΓ' hf' hh hx => hn ρ' σ' a' S' he (qah he hv) hΓ' hf' hx hh) fun e S' h => qel h
def asmPe (m ty b z nk : Nat) (off : IE) (ρ : Env) : Prop :=
  ∃ ns hd, ns.length = m ∧ ρ.rest b = padN (off.den ρ).toNat (ρ.rest (nk + 4)) ++ (numV ns ++ hd :: ρ.rest (nk + 5)) ∧ (ρ.rest (nk + 4)).length = (off.den ρ).toNat ∧
    ((ρ.list (64 + nk) = ns ++ [1, 0, 0] ∧ hd = .slice none 0 0) ∨
     (ρ.list (64 + nk) = ns ++ [0, (((ρ.list (64 + (nk + 3))).length : Nat) : Int), (((ρ.list (64 + (nk + 3))).length + (ρ.rest (nk + 1)).length : Nat) : Int)] ∧
      hd = .slice (some ⟨ρ.blk (nk + 3), 0, none⟩) (ρ.list (64 + (nk + 3))).length ((ρ.list (64 + (nk + 3))).length + (ρ.rest (nk + 1)).length) ∧
      (ρ.blk (nk + 3), Obj.cells (numV (ρ.list (64 + (nk + 3))) ++ ρ.rest (nk + 1)).toArray ty (0, 0)) ∈ frzL (zR ρ z) ∧
      ρ.rest (nk + 2) = offL (ρ.blk (nk + 3)) (zR ρ z))) ∧
    ((frzL (zR ρ z)).map Prod.fst).Nodup
def itemW (nk m flag : Nat) : List SC := itemL nk m (match flag with | 1 => .lit (.slice none 0 0) | _ => slV nk m)
def oblNo (na m flag r q b : Nat) (off : IE) (ρ : Env) : Prop := ρ.rest b = padN (off.den ρ).toNat (ρ.rest q) ++ ((itemW na m flag).map (SC.den ρ) ++ ρ.rest r)
def asmNo (nk : Nat) (off ln cp : IE) (ρ : Env) : Prop := ρ.list (64 + nk) = [off.den ρ, ln.den ρ, cp.den ρ]
def isRowB (e b : Nat) : Option SO → Bool
 | some (.row [] e' b') => Nat.beq e' e && Nat.beq b' b
 | _ => false
theorem isRowB_eq {e b : Nat} {o : Option SO} (h : isRowB e b o = true) : o = some (.row [] e b) := by
 unfold isRowB at h
 split at h
 ·simp only [Bool.and_eq_true] at h
  rw [Nat.eq_of_beq_eq_true h.1, Nat.eq_of_beq_eq_true h.2]
 ·cases h
theorem padN_take {n : Nat} {vs : List Value} (h : n ≤ vs.length) : padN n (vs.take n) = vs.take n := by
 apply List.ext_getElem?
 intro i
 unfold padN
 rw [List.getElem?_map]
 by_cases hi : i < n
 ·rw [List.getElem?_range hi, List.getElem?_take_of_lt hi]
  have : i < vs.length := by omega
  simp [List.getD_eq_getElem?_getD, List.getElem?_take_of_lt hi, List.getElem?_eq_getElem this]
 ·rw [List.getElem?_eq_none (by simp; omega), List.getElem?_eq_none (by rw [List.length_take]; omega)]; rfl
def hPeel (P : Program) (R : RawT) : Hk_ := fun ex C Γ items ops rest o tail σ nk k => match o.op with
 | .call c => match c.callee with
  | .builtin .len => match o.dst.all (· < C.size), c.args[0]? with
   | true, some x => match evC σ.sl x with
    | some (.slice b off ln cp) => match σ.hp.rw.look b with
     | some (.row [] e b') => match Nat.beq b' b && (Nat.beq e R.el && (zGh σ.hp.gh && isRowB e b ((σ.hp.rw.set (nk + 3) (.lrow .i64 (64 + (nk + 3)) R.sl (nk + 1))).look b))), symOp P σ.hp (evC σ.sl) o.op with
      | true, some eff => some (.branch (.eq ln (.lit (.ofNat 0)))
        (applyEff (Γ.add (.eq ln (.lit (.ofNat 0))) true) o.dst σ nk (fun σ nk => ex C (Γ.add (.eq ln (.lit (.ofNat 0))) true) (.inRegion ops rest :: tail) σ nk k) eff)
        (.obl (oblLd R.m R.sl b (zNo σ.hp.gh) off) (.word 10 [R.m, R.sl, b, zNo σ.hp.gh] [off] [])
         (.new (.new (.new (.new (.new (.new (.asm (asmPe R.m R.sl b (zNo σ.hp.gh) nk off) (.word 16 [R.m, R.sl, b, zNo σ.hp.gh, nk] [off] [])
          (.branch (.eq (.nth (64 + nk) (.lit (.ofNat R.m))) (.lit (.ofNat 1)))
           (match symOp P { σ.hp with rw := σ.hp.rw.set b (.cut off (itemW nk R.m 1) e (nk + 5) (nk + 4)) } (evC σ.sl) o.op with
            | some eff => applyEff (Γ.add (.eq ln (.lit (.ofNat 0))) false) o.dst { σ with hp := { σ.hp with rw := σ.hp.rw.set b (.cut off (itemW nk R.m 1) e (nk + 5) (nk + 4)) } } (nk + 6) (fun σ nk => ex C (Γ.add (.eq ln (.lit (.ofNat 0))) false) (.inRegion ops rest :: tail) σ nk k) eff
            | none => .bad)
           (match symOp P ⟨(σ.hp.rw.set (nk + 3) (.lrow .i64 (64 + (nk + 3)) R.sl (nk + 1))).set b (.cut off (itemW nk R.m 0) e (nk + 5) (nk + 4)), σ.hp.ro, .frz (nk + 2)⟩ (evC σ.sl) o.op with
            | some eff => applyEff (Γ.add (.eq ln (.lit (.ofNat 0))) false) o.dst { σ with hp := ⟨(σ.hp.rw.set (nk + 3) (.lrow .i64 (64 + (nk + 3)) R.sl (nk + 1))).set b (.cut off (itemW nk R.m 0) e (nk + 5) (nk + 4)), σ.hp.ro, .frz (nk + 2)⟩ } (nk + 6) (fun σ nk => ex C (Γ.add (.eq ln (.lit (.ofNat 0))) false) (.inRegion ops rest :: tail) σ nk k) eff
            | none => .bad)))))))))))
      | _, _ => none
     | _ => none
    | _ => none
   | _, _ => none
  | _ => none
 | _ => none
def naOf (m : Nat) : List SC → Option Nat
 | .int .i64 (.nth l (.lit (.ofNat 0))) :: _ => some (l - 64)
 | _ => none
def isItem (m : Nat) (l : List SC) : Option (Nat × Nat) := match naOf m l with
 | some na => match eqL l (itemW na m 1) with
  | true => some (na, 1)
  | false => match eqL l (itemW na m 0) with
   | true => some (na, 0)
   | false => none
 | none => none
theorem isItem_eq {m : Nat} {l : List SC} {na fl : Nat} (h : isItem m l = some (na, fl)) : l = itemW na m fl := by
 unfold isItem at h
 split at h
 ·split at h
  ·rename_i he; cases h; exact eqL_eq he
  ·split at h
   ·rename_i he; cases h; exact eqL_eq he
   ·cases h
 ·cases h
def hNorm (P : Program) (R : RawT) : Hk_ := fun ex C Γ items ops rest o tail σ nk k => match o.op with
 | .store t x (.tmp d) => match o.dst.all (· < C.size), σ.sl.look d with
  | true, some (.slice b off ln cp) => match σ.hp.rw.look b with
   | some (.cut off0 l e r q) => match Nat.beq e R.el, isItem R.m l with
    | true, some (na, fl) => match symOp P { σ.hp with rw := σ.hp.rw.set b (.row [] e b) } (evC (σ.sl.set d (.slice b (.nth (64 + nk) (.lit (.ofNat 0))) (.nth (64 + nk) (.lit (.ofNat 1))) (.nth (64 + nk) (.lit (.ofNat 2)))))) o.op with
     | some eff => some (.obl (oblNo na R.m fl r q b off0) (.word 15 [na, R.m, fl, r, q, b] [off0] []) (.new (.asm (asmNo nk off ln cp) (.word 15 [nk] [off, ln, cp] [])
       (applyEff Γ o.dst { σ with sl := σ.sl.set d (.slice b (.nth (64 + nk) (.lit (.ofNat 0))) (.nth (64 + nk) (.lit (.ofNat 1))) (.nth (64 + nk) (.lit (.ofNat 2)))), hp := { σ.hp with rw := σ.hp.rw.set b (.row [] e b) } } (nk + 1) (fun σ nk => ex C Γ (.inRegion ops rest :: tail) σ nk k) eff))))
     | none => none
    | _, _ => none
   | _ => none
  | _, _ => none
 | _ => none
theorem hNorm_ok {P : Program} {main : Co} {R : RawT} : HkOk P main (hNorm P R) where
 alloc ex C Γ items ops rest o tail σ nk k t ho := by simp only [hNorm, ho]
 bs ex C Γ items ops rest o tail σ nk k t n ps ho := by simp only [hNorm, ho]
 good := by
  intro D E ex C Γ items items' tail ops i rest rest' o σ k ρ Q F r t hr hv hΓ hK ho ht hh a S hf hw hst hn
  unfold hNorm at ht
  split at ht
  ·rename_i t' x d hop
   split at ht
   ·rename_i b off ln cp hd hsl
    split at ht
    ·rename_i off0 l e r0 q hb
     split at ht
     ·rename_i na fl he hit
      split at ht
      ·rename_i eff heff
       simp only [Option.some.injEq] at ht; subst ht
       obtain ⟨hobl, hh⟩ := hh
       have hpl : plainOp r.round o = true := by unfold plainOp; rw [hop]; simp
       have hl := isItem_eq hit
       subst hl
       obtain ⟨hvo, -⟩ := hf.sl _ _ hsl
       obtain ⟨k1, k2, k3⟩ := hf.hp.has _ _ hb
       have hden : (SO.row [] e b).den ρ = (SO.cut off0 (itemW na R.m fl) e r0 q).den ρ := by
        simp only [SO.den, List.map_nil, List.nil_append]
        rw [show ρ.rest b = _ from hobl]
       have hs1 : Sat ρ { σ.hp with rw := σ.hp.rw.set b (.row [] e b) } F S := by
        have := hf.hp.put (o' := .row [] e b) hb ⟨k1, fun x hx => (by cases hx)⟩
        rw [hden, ← own_self k3] at this
        exact this
       let ρ1 := ρ.grow 0 (numV [off.den ρ, ln.den ρ, cp.den ρ])
       have hx : Ext ρ ρ1 := Ext.grow _ _ _
       have l1 : ρ1.k.length = ρ.k.length + 1 := qab _ _ _
       have hli : ρ1.list (64 + ρ.k.length) = [off.den ρ, ln.den ρ, cp.den ρ] := by rw [qde, qaj, qcw]
       have h3 := hh 0 (numV [off.den ρ, ln.den ρ, cp.den ρ]) (by
        show ρ1.list (64 + ρ.k.length) = _
        rw [hli, qcn hx hvo.2.1, qcn hx hvo.2.2.1, qcn hx hvo.2.2.2])
       have hf1 : Fit C.size F ρ1 { σ with hp := { σ.hp with rw := σ.hp.rw.set b (.row [] e b) } } a S := hf.later hx hs1.grow
       have hvd : (SC.slice b (.nth (64 + ρ.k.length) (.lit (.ofNat 0))) (.nth (64 + ρ.k.length) (.lit (.ofNat 1))) (.nth (64 + ρ.k.length) (.lit (.ofNat 2)))).den ρ1 = (SC.slice b off ln cp).den ρ1 := by
        have e0 : IE.den ρ1 (.nth (64 + ρ.k.length) (.lit (.ofNat 0))) = off.den ρ1 := by
         show (ρ1.list (64 + ρ.k.length)).getD 0 0 = _; rw [hli, qcn hx hvo.2.1]; rfl
        have e1 : IE.den ρ1 (.nth (64 + ρ.k.length) (.lit (.ofNat 1))) = ln.den ρ1 := by
         show (ρ1.list (64 + ρ.k.length)).getD 1 0 = _; rw [hli, qcn hx hvo.2.2.1]; rfl
        have e2 : IE.den ρ1 (.nth (64 + ρ.k.length) (.lit (.ofNat 2))) = cp.den ρ1 := by
         show (ρ1.list (64 + ρ.k.length)).getD 2 0 = _; rw [hli, qcn hx hvo.2.2.2]; rfl
        simp only [SC.den, e0, e1, e2]
       have hf2 := hf1.slot (d := d) (v' := .slice b (.nth (64 + ρ.k.length) (.lit (.ofNat 0))) (.nth (64 + ρ.k.length) (.lit (.ofNat 1))) (.nth (64 + ρ.k.length) (.lit (.ofNat 2)))) hsl
        ⟨by rw [l1]; omega, ⟨fun _ => by rw [l1]; omega, trivial⟩, ⟨fun _ => by rw [l1]; omega, trivial⟩, ⟨fun _ => by rw [l1]; omega, trivial⟩⟩ hvd
       rw [SS.withSl_eq] at hf2
       rw [← l1] at h3
       refine sym_step (P := P) (Γ := Γ) (eff := eff) (rest := rest) (items' := items') ho hw (qah hx hv) (hΓ.grow _ _) hf2 hd hpl heff h3 fun ρ' σ' a' S' he' hv' hΓ' hf' hx' hh' => hn ρ' Γ σ' a' S' (hx.trans he') hv' hΓ' hf' hx' hh'
      ·cases ht
     ·cases ht
    ·cases ht
   ·cases ht
  ·cases ht
theorem onExt {Γ : Facts} {ρ ρ' : Env} (hΓ : Γ.On ρ) (he : Ext ρ ρ') : Γ.On ρ' := by
 have : ∀ ρ', Ext ρ ρ' → Γ.On ρ' := Ext.ind hΓ fun ρ' b r _ ih => ih.grow b r
 exact this _ he
set_option maxHeartbeats 2000000 in
theorem hPeel_ok {P : Program} {main : Co} {R : RawT} : HkOk P main (hPeel P R) where
 alloc ex C Γ items ops rest o tail σ nk k t ho := by simp only [hPeel, ho]
 bs ex C Γ items ops rest o tail σ nk k t n ps ho := by simp only [hPeel, ho]
 good := by
  intro D E ex C Γ items items' tail ops i rest rest' o σ k ρ Q F r t hr hv hΓ hK ho ht hh a S hf hw hst hn
  unfold hPeel at ht
  split at ht
  ·rename_i c hop
   split at ht
   ·rename_i hcal
    split at ht
    ·rename_i x hd hx0
     split at ht
     ·rename_i b off ln cp hx
      split at ht
      ·rename_i e b' hb
       split at ht
       ·rename_i eff hc heff
        simp only [Bool.and_eq_true] at hc
        obtain ⟨c1, c2, c3, c4⟩ := hc
        cases Nat.eq_of_beq_eq_true c1
        cases Nat.eq_of_beq_eq_true c2
        have c4 := isRowB_eq c4
        simp only [Option.some.injEq] at ht; subst ht
        have hpl : plainOp r.round o = true := by
         unfold plainOp; rw [hop]; simp
        obtain ⟨hvo, -⟩ := qax hf.sl _ _ hx
        have hcok : (BE.eq ln (.lit (.ofNat 0))).ok ρ.k.length := ⟨hvo.2.2.1, trivial⟩
        cases hz0 : (BE.eq ln (.lit (.ofNat 0))).den ρ with
        | true => exact sym_step (P := P) (rest := rest) (items' := items') ho hw hv (hΓ.add hcok hz0) hf hd hpl heff (hh.1 hz0) fun ρ' σ' a' S' he' hv' hΓ' hf' hx' hh' => hn ρ' _ σ' a' S' he' hv' hΓ' hf' hx' hh'
        | false =>
         obtain ⟨hobl, hh⟩ := hh.2 hz0
         obtain ⟨ns, hd0, tl, hns, hdrop, hslc⟩ := hobl
         obtain ⟨k1, k2, k3⟩ := hf.hp.has _ _ hb
         have hlen : (off.den ρ).toNat ≤ (ρ.rest b).length := by
          rcases Nat.lt_or_ge (ρ.rest b).length (off.den ρ).toNat with h | h
          ·rw [List.drop_eq_nil_of_le (by omega)] at hdrop
           have := congrArg List.length hdrop
           simp at this
          ·exact h
         have hrow : ρ.rest b = (ρ.rest b).take (off.den ρ).toNat ++ (numV ns ++ hd0 :: tl) := by rw [← hdrop, List.take_append_drop]
         obtain ⟨z1, z2⟩ := hf.hp.zfacts
         rcases hslc with hnil | ⟨w, ws, sp, hdv, hmem⟩
         ·
          let ρ1 := ρ.grow 0 (numV (ns ++ [1, 0, 0]))
          let ρ4 := ((ρ1.grow 0 []).grow 0 []).grow 0 []
          let ρ5 := ρ4.grow 0 ((ρ.rest b).take (off.den ρ).toNat)
          let ρ6 := ρ5.grow 0 tl
          have l1 : ρ1.k.length = ρ.k.length + 1 := qab _ _ _
          have l4 : ρ4.k.length = ρ.k.length + 4 := by rw [qab, qab, qab, l1]
          have l5 : ρ5.k.length = ρ.k.length + 5 := by rw [qab, l4]
          have l6 : ρ6.k.length = ρ.k.length + 6 := by rw [qab, l5]
          have he1 : Ext ρ ρ1 := Ext.grow _ _ _
          have he14 : Ext ρ1 ρ4 := ((Ext.grow _ _ _).trans (Ext.grow _ _ _)).trans (Ext.grow _ _ _)
          have he46 : Ext ρ4 ρ6 := (Ext.grow _ _ _).trans (Ext.grow _ _ _)
          have he : Ext ρ ρ6 := (he1.trans he14).trans he46
          have h3 := hh 0 (numV (ns ++ [1, 0, 0])) 0 [] 0 [] 0 [] 0 ((ρ.rest b).take (off.den ρ).toNat) 0 tl
          have r0 : ρ6.rest ρ.k.length = numV (ns ++ [1, 0, 0]) := by
           rw [qaz (he14.trans he46) (by omega)]; exact qaj _ _ _
          have r4 : ρ6.rest (ρ.k.length + 4) = (ρ.rest b).take (off.den ρ).toNat := by
           rw [qaq ρ5 _ _ (by omega), ← l4]; exact qaj _ _ _
          have r5 : ρ6.rest (ρ.k.length + 5) = tl := by rw [← l5]; exact qaj _ _ _
          have hl : ρ6.list (64 + ρ.k.length) = ns ++ [1, 0, 0] := by rw [qde, r0, qcw]
          have eoff : off.den ρ6 = off.den ρ := qcn he hvo.2.1
          have eb : ρ6.rest b = ρ.rest b := qaz he k1
          have ez : zR ρ6 (zNo σ.hp.gh) = zRest ρ σ.hp.gh := by rw [zR_no, qfh hf.hp he]
          have h4 := h3 (by
           show asmPe R.m R.sl b (zNo σ.hp.gh) ρ.k.length off ρ6
           refine ⟨ns, hd0, hns, ?_, by rw [r4, eoff, List.length_take, Nat.min_eq_left hlen], .inl ⟨hl, hnil⟩, by rw [ez]; exact z1⟩
           rw [eb, eoff, r4, r5, padN_take hlen]; exact hrow)
          have h5 := h4.1 (by
           show ((ρ6.list (64 + ρ.k.length)).getD R.m 0 == 1) = true
           rw [hl, ← hns, List.getD_eq_getElem?_getD, List.getElem?_append_right (Nat.le_refl _), Nat.sub_self]; rfl)
          split at h5
          ·rename_i eff2 heff2
           have hs6 : Sat ρ6 σ.hp F S := (((((hf.hp.grow).grow).grow).grow).grow).grow
           have hitem : (itemW ρ.k.length R.m 1).map (SC.den ρ6) = numV ns ++ [hd0] := by
            unfold itemW
            rw [← hns, itemL_den hl, hnil]; rfl
           have hden : (SO.cut off (itemW ρ.k.length R.m 1) R.el (ρ.k.length + 5) (ρ.k.length + 4)).den ρ6 = (SO.row [] R.el b).den ρ6 := by
            simp only [SO.den, List.map_nil, List.nil_append, eb, eoff, r4, r5, hitem, padN_take hlen]
            conv => rhs; rw [hrow]
            simp
           have hs7 : Sat ρ6 { σ.hp with rw := σ.hp.rw.set b (.cut off (itemW ρ.k.length R.m 1) R.el (ρ.k.length + 5) (ρ.k.length + 4)) } F S := by
            have := hs6.put (o' := .cut off (itemW ρ.k.length R.m 1) R.el (ρ.k.length + 5) (ρ.k.length + 4)) hb ⟨IE.ok_mono (by omega) hvo.2.1, ⟨by omega, by omega⟩, itemL_ok (by omega) trivial⟩
            rw [hden, ← own_self (hs6.has _ _ hb).2.2] at this
            exact this
           have hfit := hf.later he hs7
           have hcd : (BE.eq ln (.lit (.ofNat 0))).den ρ6 = false := by
            show (ln.den ρ6 == 0) = false
            rw [qcn he hvo.2.2.1]; exact hz0
           have hok6 : (BE.eq ln (.lit (.ofNat 0))).ok ρ6.k.length := ⟨IE.ok_mono (by omega) hvo.2.2.1, trivial⟩
           rw [← l6] at h5
           exact sym_step (P := P) (rest := rest) (items' := items') ho hw (qah he hv) ((onExt hΓ he).add hok6 hcd) hfit hd hpl heff2 h5 fun ρ' σ' a' S' he' hv' hΓ' hf' hx' hh' => hn ρ' _ σ' a' S' (he.trans he') hv' hΓ' hf' hx' hh'
          ·exact h5.elim
         ·
          let ρ1 := ρ.grow 0 (numV (ns ++ [0, ((ws.length : Nat) : Int), ((ws.length + sp.length : Nat) : Int)]))
          let ρ2 := ρ1.grow 0 sp
          let ρ3 := ρ2.grow 0 (offL w (zRest ρ σ.hp.gh))
          let ρ4 := ρ3.grow w (numV ws)
          let ρ5 := ρ4.grow 0 ((ρ.rest b).take (off.den ρ).toNat)
          let ρ6 := ρ5.grow 0 tl
          have l1 : ρ1.k.length = ρ.k.length + 1 := qab _ _ _
          have l2 : ρ2.k.length = ρ.k.length + 2 := by rw [qab, l1]
          have l3 : ρ3.k.length = ρ.k.length + 3 := by rw [qab, l2]
          have l4 : ρ4.k.length = ρ.k.length + 4 := by rw [qab, l3]
          have l5 : ρ5.k.length = ρ.k.length + 5 := by rw [qab, l4]
          have l6 : ρ6.k.length = ρ.k.length + 6 := by rw [qab, l5]
          have he2 : Ext ρ ρ2 := (Ext.grow _ _ _).trans (Ext.grow _ _ _)
          have he23 : Ext ρ2 ρ3 := Ext.grow _ _ _
          have he34 : Ext ρ3 ρ4 := Ext.grow _ _ _
          have he46 : Ext ρ4 ρ6 := (Ext.grow _ _ _).trans (Ext.grow _ _ _)
          have he4 : Ext ρ ρ4 := (he2.trans he23).trans he34
          have he : Ext ρ ρ6 := he4.trans he46
          have h3 := hh 0 (numV (ns ++ [0, ((ws.length : Nat) : Int), ((ws.length + sp.length : Nat) : Int)])) 0 sp 0 (offL w (zRest ρ σ.hp.gh)) w (numV ws) 0 ((ρ.rest b).take (off.den ρ).toNat) 0 tl
          have r0 : ρ6.rest ρ.k.length = numV (ns ++ [0, ((ws.length : Nat) : Int), ((ws.length + sp.length : Nat) : Int)]) := by
           rw [qaz (((Ext.grow ρ1 0 sp).trans he23).trans (he34.trans he46)) (by omega)]; exact qaj _ _ _
          have r1 : ρ6.rest (ρ.k.length + 1) = sp := by
           rw [qaz (he23.trans (he34.trans he46)) (by omega), ← l1]; exact qaj _ _ _
          have r2 : ρ6.rest (ρ.k.length + 2) = offL w (zRest ρ σ.hp.gh) := by
           rw [qaz (he34.trans he46) (by omega), ← l2]; exact qaj _ _ _
          have r3 : ρ6.rest (ρ.k.length + 3) = numV ws := by
           rw [qaz he46 (by omega), ← l3]; exact qaj _ _ _
          have b3 : ρ6.blk (ρ.k.length + 3) = w := by
           rw [qbd he46 (by omega), ← l3]; exact qav _ _ _
          have r4 : ρ6.rest (ρ.k.length + 4) = (ρ.rest b).take (off.den ρ).toNat := by
           rw [qaq ρ5 _ _ (by omega), ← l4]; exact qaj _ _ _
          have r5 : ρ6.rest (ρ.k.length + 5) = tl := by rw [← l5]; exact qaj _ _ _
          have hl : ρ6.list (64 + ρ.k.length) = ns ++ [0, ((ws.length : Nat) : Int), ((ws.length + sp.length : Nat) : Int)] := by rw [qde, r0, qcw]
          have hl3 : ρ6.list (64 + (ρ.k.length + 3)) = ws := by rw [qde, r3, qcw]
          have eoff : off.den ρ6 = off.den ρ := qcn he hvo.2.1
          have eb : ρ6.rest b = ρ.rest b := qaz he k1
          have ez : zR ρ6 (zNo σ.hp.gh) = zRest ρ σ.hp.gh := by rw [zR_no, qfh hf.hp he]
          rw [zR_no] at hmem
          have h4 := h3 (by
           show asmPe R.m R.sl b (zNo σ.hp.gh) ρ.k.length off ρ6
           refine ⟨ns, hd0, hns, ?_, by rw [r4, eoff, List.length_take, Nat.min_eq_left hlen], .inr ⟨?_, ?_, ?_, ?_⟩, by rw [ez]; exact z1⟩
           ·rw [eb, eoff, r4, r5, padN_take hlen]; exact hrow
           ·rw [hl, hl3, r1]
           ·rw [hl3, b3, r1]; exact hdv
           ·rw [ez, b3, hl3, r1]; exact hmem
           ·rw [r2, b3, ez])
          have h5 := h4.2 (by
           show ((ρ6.list (64 + ρ.k.length)).getD R.m 0 == 1) = false
           rw [hl, ← hns, List.getD_eq_getElem?_getD, List.getElem?_append_right (Nat.le_refl _), Nat.sub_self]; rfl)
          split at h5
          ·rename_i eff2 heff2
           have hs2 : Sat ρ2 σ.hp F S := (hf.hp.grow).grow
           have ez2 : zRest ρ2 σ.hp.gh = zRest ρ σ.hp.gh := qfh hf.hp he2
           have hs3 : Sat ρ3 ⟨σ.hp.rw, σ.hp.ro, .frz (ρ.k.length + 2)⟩ F S := by
            have := hs2.zdrop (b := w) (ob := .cells (numV ws ++ sp).toArray R.sl (0, 0)) c3 (by rw [ez2]; exact hmem)
            rw [ez2, l2] at this
            exact this
           obtain ⟨f1, f2, f3⟩ := z2 _ hmem
           have hl4 : ρ4.list (64 + (ρ.k.length + 3)) = ws := by
            rw [qde, show ρ4.rest (ρ.k.length + 3) = numV ws from by rw [← l3]; exact qaj _ _ _, qcw]
           have r14 : ρ4.rest (ρ.k.length + 1) = sp := by
            rw [qaz (he23.trans he34) (by omega), ← l1]; exact qaj _ _ _
           have hs4 := hs3.zadopt (b := w) (r := numV ws) (o := .lrow .i64 (64 + (ρ.k.length + 3)) R.sl (ρ.k.length + 1)) (by
             show S.full w = some (SO.den ρ4 _)
             simp only [SO.den]
             rw [hl4, r14]
             exact f1) ⟨fun _ => by rw [l3]; omega, by rw [l3]; omega⟩ f2 (fun j u hj => by
             have h6 := f3 j u hj
             have hlt := (hf.hp.has j u hj).1
             rw [qbd (he2.trans he23) hlt]
             exact h6) (fun x hx => by
             have e : zRest ρ3 (.frz (ρ.k.length + 2)) = offL w (zRest ρ σ.hp.gh) := by
              show ρ3.rest (ρ.k.length + 2) = _
              rw [← l2]; exact qaj _ _ _
             rw [e, frzL_off] at hx
             have := (List.mem_filter.1 hx).2
             simpa using this)
           rw [l3] at hs4
           have hs6 : Sat ρ6 ⟨σ.hp.rw.set (ρ.k.length + 3) (.lrow .i64 (64 + (ρ.k.length + 3)) R.sl (ρ.k.length + 1)), σ.hp.ro, .frz (ρ.k.length + 2)⟩ F S := (hs4.grow).grow
           have hsl : (slV ρ.k.length R.m).den ρ6 = hd0 := by
            have e1 : IE.den ρ6 (.nth (64 + ρ.k.length) (.lit (.ofNat (R.m + 1)))) = (ws.length : Nat) := by
             show (ρ6.list (64 + ρ.k.length)).getD (R.m + 1) 0 = _
             rw [hl, ← hns, List.getD_eq_getElem?_getD, List.getElem?_append_right (by omega), Nat.add_sub_cancel_left]; rfl
            have e2 : IE.den ρ6 (.nth (64 + ρ.k.length) (.lit (.ofNat (R.m + 2)))) = (ws.length + sp.length : Nat) := by
             show (ρ6.list (64 + ρ.k.length)).getD (R.m + 2) 0 = _
             rw [hl, ← hns, List.getD_eq_getElem?_getD, List.getElem?_append_right (by omega), Nat.add_sub_cancel_left]; rfl
            unfold slV
            simp only [SC.den, e1, e2, b3, Int.toNat_natCast]
            rw [hdv]; rfl
           have hitem : (itemW ρ.k.length R.m 0).map (SC.den ρ6) = numV ns ++ [hd0] := by
            show (itemL ρ.k.length R.m (slV ρ.k.length R.m)).map (SC.den ρ6) = _
            have := itemL_den (v := slV ρ.k.length R.m) hl
            rw [hns] at this
            rw [this, hsl]
           have hden : (SO.cut off (itemW ρ.k.length R.m 0) R.el (ρ.k.length + 5) (ρ.k.length + 4)).den ρ6 = (SO.row [] R.el b).den ρ6 := by
            simp only [SO.den, List.map_nil, List.nil_append, eb, eoff, r4, r5, hitem, padN_take hlen]
            conv => rhs; rw [hrow]
            simp
           have hs7 : Sat ρ6 ⟨(σ.hp.rw.set (ρ.k.length + 3) (.lrow .i64 (64 + (ρ.k.length + 3)) R.sl (ρ.k.length + 1))).set b (.cut off (itemW ρ.k.length R.m 0) R.el (ρ.k.length + 5) (ρ.k.length + 4)), σ.hp.ro, .frz (ρ.k.length + 2)⟩ F S := by
            have := hs6.put (o' := .cut off (itemW ρ.k.length R.m 0) R.el (ρ.k.length + 5) (ρ.k.length + 4)) c4 ⟨IE.ok_mono (by omega) hvo.2.1, ⟨by omega, by omega⟩, itemL_ok (by omega) ⟨by omega, trivial, ⟨fun _ => by omega, trivial⟩, ⟨fun _ => by omega, trivial⟩⟩⟩
            rw [hden, ← own_self (hs6.has _ _ c4).2.2] at this
            exact this
           have hfit := hf.later he hs7
           have hcd : (BE.eq ln (.lit (.ofNat 0))).den ρ6 = false := by
            show (ln.den ρ6 == 0) = false
            rw [qcn he hvo.2.2.1]; exact hz0
           have hok6 : (BE.eq ln (.lit (.ofNat 0))).ok ρ6.k.length := ⟨IE.ok_mono (by omega) hvo.2.2.1, trivial⟩
           rw [← l6] at h5
           exact sym_step (P := P) (rest := rest) (items' := items') ho hw (qah he hv) ((onExt hΓ he).add hok6 hcd) hfit hd hpl heff2 h5 fun ρ' σ' a' S' he' hv' hΓ' hf' hx' hh' => hn ρ' _ σ' a' S' (he.trans he') hv' hΓ' hf' hx' hh'
          ·exact h5.elim
       ·cases ht
      ·cases ht
     ·cases ht
    ·cases ht
   ·cases ht
  ·cases ht
open Go Mv
def clrAsm (nk l : Nat) (off : IE) (ρ : Env) : Prop := (ρ.list (64 + nk)).length = (ρ.list l).length ∧ (ρ.list (64 + nk)).take (off.den ρ).toNat = (ρ.list l).take (off.den ρ).toNat
def isI64 : SC → Bool
 | .int .i64 _ => true
 | .lit (.int .i64 _) => true
 | _ => false
theorem isI64_den {ρ : Env} {x : SC} (h : isI64 x = true) : x.den ρ = .int .i64 (intOf (x.den ρ)) := by
 unfold isI64 at h
 split at h
 ·rfl
 ·rfl
 ·cases h
def hClearS (P : Program) : Hk_ := fun ex C Γ items ops rest o tail σ nk k => match o.op with
 | .call c => match c.callee with
  | .builtin .clear => match o.dst.all (· < C.size), c.args[0]?, c.argTypes[0]? with
   | true, some x, some t => match P.underlying t, evC σ.sl x with
    | some (.slice e), some (.slice b off ln cp) => match P.info? e, zeroCells P e, σ.hp.rw.look b with
     | some ti, some zs, some (.lrow .i64 l te r) => match Nat.beq zs.length ti.size && (Nat.ble 1 ti.size && zs.all isI64) with
      | true => some (.needs (toShow Γ [.le (.lit (.ofNat 0)) off, .le (.lit (.ofNat 0)) ln, .le (.add off (.mul ln (.lit (.ofNat ti.size)))) (.len l)]) (.new (.asm (clrAsm nk l off) (.word 17 [nk, l] [off] [])
        (ex C Γ (.inRegion ops rest :: tail) { σ with sl := putD σ.sl o.dst (.tup []), hp := { σ.hp with rw := σ.hp.rw.set b (.lrow .i64 (64 + nk) te r) } } (nk + 1) k))))
      | false => none
     | _, _, _ => none
    | _, _ => none
   | _, _, _ => none
  | _ => none
 | _ => none
theorem hClearS_ok {P : Program} {main : Co} : HkOk P main (hClearS P) where
 alloc ex C Γ items ops rest o tail σ nk k t ho := by simp only [hClearS, ho]
 bs ex C Γ items ops rest o tail σ nk k t n ps ho := by simp only [hClearS, ho]
 good := by
  intro D E ex C Γ items items' tail ops i rest rest' o σ k ρ Q F r t hr hv hΓ hK ho ht hh a S hf hw hst hn
  unfold hClearS at ht
  split at ht
  ·rename_i c hop
   split at ht
   ·rename_i hcal
    split at ht
    ·rename_i x t' hd hx0 ht0
     split at ht
     ·rename_i e b off ln cp hu hx
      split at ht
      ·rename_i ti zs l te rr hi hz hb
       split at ht
       ·rename_i hc
        simp only [Bool.and_eq_true] at hc
        obtain ⟨c1, c2, c3⟩ := hc
        have c1 := Nat.eq_of_beq_eq_true c1
        have c2 := Nat.le_of_ble_eq_true c2
        simp only [Option.some.injEq] at ht; subst ht
        obtain ⟨hneeds, hh⟩ := needs_of hh
        have hall := qbv hΓ hneeds
        have g1 : (0 : Int) ≤ off.den ρ := of_decide_eq_true (hall _ List.mem_cons_self)
        have g2 : (0 : Int) ≤ ln.den ρ := of_decide_eq_true (hall _ (List.mem_cons_of_mem _ List.mem_cons_self))
        have g3 : off.den ρ + ln.den ρ * (ti.size : Nat) ≤ ((ρ.list l).length : Nat) := of_decide_eq_true (hall _ (List.mem_cons_of_mem _ (List.mem_cons_of_mem _ List.mem_cons_self)))
        haveI := hf.hp.loud
        have hev := qax hf.sl
        obtain ⟨hxo, hx'⟩ := hev _ _ hx
        obtain ⟨k1, k2, k3⟩ := hf.hp.has _ _ hb
        have hpl : plainOp r.round o = true := by unfold plainOp; rw [hop]; simp
        obtain ⟨callee, args, ats⟩ := c
        simp only at hcal hx0 ht0
        subst hcal
        have hred : execOp a.eval o = (do pure (.value (← Builtin.clear_ ats o.type (args.map a.eval))) : Sem Next) := by
         simp only [execOp, hop, resolve, invoke, builtin]
         rfl
        have hargs : (args.map a.eval)[0]? = some (.slice (some ⟨ρ.blk b, (off.den ρ).toNat, none⟩) (ln.den ρ).toNat (cp.den ρ).toNat) := by
         simp [hx0, hx', SC.den]
        obtain ⟨O, eO⟩ := Int.eq_ofNat_of_zero_le g1
        obtain ⟨N, eN⟩ := Int.eq_ofNat_of_zero_le g2
        have hle : O + N * ti.size ≤ (ρ.list l).length := by
         rw [eO, eN, ← Int.natCast_mul] at g3; omega
        have hso : (SO.lrow .i64 l te rr).ok ρ.k.length := k2
        have hden : (SO.lrow .i64 l te rr).den ρ = .cells ((((ρ.list l).map (Value.int .i64)).map ofSc).map (SC.den ρ) ++ ρ.rest rr).toArray te (0, 0) := by
         simp only [SO.den, qbo]
        have fin : ∀ (L : List Int) (S' : Own), L.length = (ρ.list l).length → L.take O = (ρ.list l).take O → S' = S.set (ρ.blk b) (.cells (L.map (Value.int .i64) ++ ρ.rest rr).toArray te (0, 0)) → wpI P main r (.inRegion ops rest' :: tail) Q (a.put o.dst (.tuple #[])) S' := fun L S' h1 h2 hS => by
         subst hS
         let ρ1 := ρ.grow 0 (L.map (Value.int .i64))
         have he1 : Ext ρ ρ1 := Ext.grow _ _ _
         have hl1 : ρ1.k.length = ρ.k.length + 1 := qab _ _ _
         have hL : ρ1.list (64 + ρ.k.length) = L := qcz
         have h3 := hh 0 (L.map (Value.int .i64)) (by
          show (ρ1.list (64 + ρ.k.length)).length = (ρ1.list l).length ∧ (ρ1.list (64 + ρ.k.length)).take (off.den ρ1).toNat = (ρ1.list l).take (off.den ρ1).toNat
          rw [hL, list_old he1 hso.1, qcn he1 hxo.2.1, eO]
          exact ⟨h1, h2⟩)
         have hso' : (SO.lrow .i64 (64 + ρ.k.length) te rr).ok ρ1.k.length := ⟨fun _ => by rw [hl1]; omega, by rw [hl1]; have := hso.2; omega⟩
         have hdn : (SO.lrow .i64 (64 + ρ.k.length) te rr).den ρ1 = .cells (L.map (Value.int .i64) ++ ρ.rest rr).toArray te (0, 0) := by
          simp only [SO.den, hL, qaz he1 hso.2]
         have hsat1 : Sat ρ1 σ.hp F S := hf.hp.grow
         have hsat2 := hsat1.put (i := b) hb hso'
         rw [hdn, show ρ1.blk b = ρ.blk b from qae ρ _ _ k1] at hsat2
         have hfit := hf.later he1 hsat2
         have hfit2 := hfit.put (dst := o.dst) (v := .tup []) hd trivial
         exact hn ρ1 Γ _ _ _ he1 (qah he1 hv) (hΓ.grow _ _) hfit2 ⟨_, rfl⟩ (by rw [hl1]; exact h3)
        refine qcb ho hw hpl ?_
        rw [hred]
        refine qak ?_
        unfold Builtin.clear_
        rw [ht0, hargs]
        simp only [bind]
        refine run_underlying hu ?_
        rw [eN, eO, Int.toNat_natCast, Int.toNat_natCast]
        cases N with
        | zero =>
         refine Run.pure ?_
         have : (SO.lrow .i64 l te rr).den ρ = .cells ((ρ.list l).map (Value.int .i64) ++ ρ.rest rr).toArray te (0, 0) := by simp only [SO.den]
         exact fin (ρ.list l) S rfl rfl (by rw [← this]; exact own_self k3)
        | succ N =>
         obtain ⟨hzo, z, hzc, hzr⟩ := qar (ρ := ρ) (P := P) (S0 := S) hv hz
         refine hzr ?_
         have hzs : z.cells.size = ti.size := by rw [hzc]; simpa using c1
         have hcells : Builtin.zeroCells z.cells (N + 1) = ((zeroRow zs ((N + 1) * ti.size)).map (SC.den ρ)).toArray := by
          have := qex (ρ := ρ) hzc (by omega) ((N + 1) * ti.size)
          unfold Builtin.zeroCells
          rw [hzs]
          rw [hzs] at this
          exact this
         rw [hcells]
         have hmem : ∀ x ∈ zeroRow zs ((N + 1) * ti.size), x ∈ zs := fun x hx => by
          obtain ⟨j, -, rfl⟩ := List.mem_map.1 hx
          have hlt : j % zs.length < zs.length := Nat.mod_lt _ (by omega)
          rw [List.getD_eq_getElem?_getD, List.getElem?_eq_getElem hlt]
          exact List.getElem_mem hlt
         have hzl : (zeroRow zs ((N + 1) * ti.size)).length = (N + 1) * ti.size := by unfold zeroRow; rw [List.length_map, List.length_range]
         rw [hden] at k3
         refine qdk hv k3 (List.all_eq_true.2 fun x hx => by
          have := List.all_eq_true.1 c3 x (hmem x hx)
          unfold isI64 at this
          split at this <;> first | rfl | cases this) (by rw [List.length_map, List.length_map, hzl]; exact hle) ?_
         refine Run.pure ?_
         let V := ((zeroRow zs ((N + 1) * ti.size)).map (SC.den ρ)).map intOf
         have hV : (zeroRow zs ((N + 1) * ti.size)).map (SC.den ρ) = V.map (Value.int .i64) := by
          simp only [V, List.map_map]
          exact List.map_congr_left fun x hx => isI64_den (List.all_eq_true.1 c3 x (hmem x hx))
         refine fin ((ρ.list l).take O ++ V ++ (ρ.list l).drop (O + V.length)) _ ?_ ?_ ?_
         ·simp only [V, List.length_append, List.length_take, List.length_drop, List.length_map, hzl]
          omega
         ·rw [List.append_assoc, List.take_left' (by rw [List.length_take]; omega)]
         ·congr 2
          simp only [splice]
          rw [qeo, qbo, hV]
          simp only [List.map_append, List.map_take, List.map_drop, List.length_map, V]
       ·cases ht
      ·cases ht
     ·cases ht
    ·cases ht
   ·cases ht
  ·cases ht
def lStE (P : Program) (t : TypeId) (v : SC) : Option (List IE) := match cellsOf v with
 | some new => match (decide (sizeT P t = some new.length)) && new.all SC.single with
  | true => asI64 new
  | false => none
 | none => none
theorem lStE_ok {P : Program} {t : TypeId} {v : SC} {es : List IE} (h : lStE P t v = some es) : ∃ new, cellsOf v = some new ∧ sizeT P t = some new.length ∧ new.all SC.single = true ∧ asI64 new = some es := by
 unfold lStE at h
 split at h
 ·rename_i new hc
  split at h
  ·rename_i hcond
   simp only [Bool.and_eq_true, decide_eq_true_eq] at hcond
   exact ⟨new, hc, hcond.1, hcond.2, h⟩
  ·cases h
 ·cases h
def hLStore (P : Program) : Hk_ := fun ex C Γ items ops rest o tail σ nk k => match o.op with
 | .store t x y => match evC σ.sl x, evC σ.sl y with
  | some (.ptr b off), some v => match σ.hp.rw.look b with
   | some (.lrow .i64 l te rr) => match o.dst.all (· < C.size), lStE P t v with
    | true, some es => some (.needs (toShow Γ (notNeg off ++ [.le (.plus off (.lit es.length)) (.len l)])) (.new (.asm (putAsm nk l off es) (.word 1 [nk, l] (off :: es) [])
      (ex C Γ (.inRegion ops rest :: tail) { σ with sl := putD σ.sl o.dst undefS, hp := { σ.hp with rw := σ.hp.rw.set b (.lrow .i64 (64 + nk) te rr) } } (nk + 1) k))))
    | _, _ => none
   | _ => none
  | _, _ => none
 | _ => none
theorem hLStore_ok {P : Program} {main : Co} : HkOk P main (hLStore P) where
 alloc ex C Γ items ops rest o tail σ nk k t ho := by simp only [hLStore, ho]
 bs ex C Γ items ops rest o tail σ nk k t n ps ho := by simp only [hLStore, ho]
 good := by
  intro D E ex C Γ items items' tail ops i rest rest' o σ k ρ Q F r t hr hv hΓ hK ho ht hh a S hf hw hst hn
  unfold hLStore at ht
  split at ht
  ·rename_i ty x y hop
   split at ht
   ·rename_i b off v hx hy
    have hev := qax hf.sl
    obtain ⟨hokx, hx'⟩ := hev x _ hx
    obtain ⟨hoky, hy'⟩ := hev y _ hy
    split at ht
    ·rename_i l te rr hb
     obtain ⟨hlt, hso, hfull⟩ := hf.hp.has _ _ hb
     have hden : (SO.lrow .i64 l te rr).den ρ = .cells ((((ρ.list l).map (Value.int .i64)).map ofSc).map (SC.den ρ) ++ ρ.rest rr).toArray te (0, 0) := by
      simp only [SO.den, qbo]
     rw [hden] at hfull
     have hpl : plainOp r.round o = true := by
      unfold plainOp
      rw [hop]; simp
     have hred : execOp a.eval o = ((storeVar ty ⟨ρ.blk b, (off.den ρ).toNat, none⟩ (v.den ρ)).bind fun _ => Sem.pure Next.skip) := by
      simp only [execOp, hop]
      show ((Instr.storeAt ty (a.eval x) (a.eval y)).bind fun _ => Sem.pure Next.skip) = _
      rw [hx', hy']
      rfl
     haveI := hf.hp.loud
     split at ht
     ·rename_i es hdst hq
      simp only [Option.some.injEq] at ht; subst ht
      obtain ⟨new, hc, hsz, h1, has⟩ := lStE_ok hq
      obtain ⟨hneeds, hh⟩ := qay hh
      have hneeds := qbv hΓ hneeds
      have h0 : 0 ≤ off.den ρ := qbg fun c hc => hneeds c (by simp [hc])
      have hle : (IE.plus off (.lit es.length)).den ρ ≤ ((ρ.list l).length : Nat) := of_decide_eq_true (hneeds (.le (.plus off (.lit es.length)) (.len l)) (by simp))
      rw [IE.den_plus] at hle
      simp only [IE.den] at hle
      have hnew : new = es.map (.int .i64) := qef has
      have hnl : new.length = es.length := by rw [hnew]; simp
      let L := putL (ρ.list l) (off.den ρ).toNat (es.map (IE.den ρ))
      refine qcb ho hw hpl ?_
      rw [hred]
      refine Run.bind (Run.mono (qdc (K := fun r S' => r = .ok () ∧ S' = S.set (ρ.blk b) (.cells (L.map (Value.int .i64) ++ ρ.rest rr).toArray te (0, 0))) hv hfull hc h1 hsz (by simp only [List.length_map]; omega) ?_) ?_)
      ·refine ⟨rfl, ?_⟩
       congr 4
       simp only [splice, L, putL]
       rw [qeo, qbo, qeo]
       simp only [List.length_map, hnl]
       congr 2
       rw [hnew]
       simp [List.map_map, Function.comp_def, SC.den]
      ·rintro z S' ⟨rfl, rfl⟩
       refine Run.pure ?_
       let ρ1 := ρ.grow 0 (L.map (Value.int .i64))
       have he1 : Ext ρ ρ1 := Ext.grow _ _ _
       have hl1 : ρ1.k.length = ρ.k.length + 1 := qab _ _ _
       have hL : ρ1.list (64 + ρ.k.length) = L := qcz
       have hesok : ∀ x ∈ es, x.ok ρ.k.length := asI64_ok has (fun x hx => qbs hc hoky x hx)
       have h3 := hh 0 (L.map (Value.int .i64)) (by
        show ρ1.list (64 + ρ.k.length) = putL (ρ1.list l) (off.den ρ1).toNat (es.map (IE.den ρ1))
        rw [hL, list_old he1 hso.1, qcn he1 hokx.2, show es.map (IE.den ρ1) = es.map (IE.den ρ) from List.map_congr_left fun x hx => IE.den_grow _ (hesok x hx)])
       have hso' : (SO.lrow .i64 (64 + ρ.k.length) te rr).ok ρ1.k.length := ⟨fun _ => by rw [hl1]; omega, by rw [hl1]; have := hso.2; omega⟩
       have hdn : (SO.lrow .i64 (64 + ρ.k.length) te rr).den ρ1 = .cells (L.map (Value.int .i64) ++ ρ.rest rr).toArray te (0, 0) := by
        simp only [SO.den, hL, qaz he1 hso.2]
       have hsat1 : Sat ρ1 σ.hp F S := hf.hp.grow
       have hsat2 := hsat1.put (i := b) hb hso'
       rw [hdn, show ρ1.blk b = ρ.blk b from qae ρ _ _ hlt] at hsat2
       have hfit := hf.later he1 hsat2
       have hfit2 := hfit.put (dst := o.dst) (v := undefS) hdst trivial
       exact hn ρ1 Γ _ _ _ he1 (qah he1 hv) (hΓ.grow _ _) hfit2 ⟨_, rfl⟩ (by rw [hl1]; exact h3)
     ·cases ht
    ·cases ht
   ·cases ht
  ·cases ht
open Go Mv
def puO (b : Nat) (off ln cp : IE) : PuO := match b with
 | 0 => .nil
 | b + 1 => .raw b off ln cp
def puW (w l r : Nat) (sl sc : IE) : PuW := match w with
 | 0 => .nil
 | w + 1 => .row w l r sl sc
def qOp : Nat → Option Nat
 | 0 => none
 | q + 1 => some q
def oblH (k : Nat) (ns : List Nat) (es : List IE) : Env → Prop := match k, ns, es with
 | 10, [m, ty, b, z], [off] => oblLd m ty b z off
 | 11, [m, b], [off, ln, cp] => oblPu m (puO b off ln cp)
 | 12, [m, q], _ => oblMl m q
 | 13, [m, q], es => oblMu m (qOp q) es
 | 15, [na, m, fl, r, q, b], [off] => oblNo na m fl r q b off
 | _, _, _ => fun _ => False
def asmH (k : Nat) (ns : List Nat) (es : List IE) : Env → Prop := match k, ns, es with
 | 10, [m, ty, b, z, nk], [off] => asmLd m ty b z nk off
 | 11, [m, ty, z, nk, b, w, l, r], off :: ln :: cp :: sl :: sc :: es => asmPu m ty (puO b off ln cp) (puW w l r sl sc) z nk es
 | 12, [q, nk], es => asmMl q nk es
 | 13, [q, nk], es => asmMu (qOp q) nk es
 | 14, [nk, size], [n] => growAsm nk size n
 | 15, [nk], [off, ln, cp] => asmNo nk off ln cp
 | 16, [m, ty, b, z, nk], [off] => asmPe m ty b z nk off
 | 17, [nk, l], [off] => clrAsm nk l off
 | _, _, _ => fun _ => True
end Mw
open Go Mv Mw
namespace Ft
def rSt : RawT := ⟨143, 3, 3, 143⟩
def mVis : MapT := ⟨95, 3⟩
def hkO (P : Program) : Hk_ := hOr (hPushR P rSt) (hOr (hPeel P rSt) (hOr (hNorm P rSt) (hOr (hMapU P mVis) (hOr (hMapL P mVis) (hOr (hGrowU P) (hOr (hApp P) (hOr (hHStore P) (hOr (hMap P) (hOr (hExt (xTA P)) (hOr (hExt (xClearQ P)) (hOr (hExt (xClear P)) (hOr (hClearS P) (hOr (hLStore P) (hInv P))))))))))))))
def Xo (P : Program) : Cf := ⟨hkO P, Γ0, 100000⟩
def i3 (p : Nat) : SC := .agg [iv p 0, iv p 1, iv p 2]
def st4 (p : Nat) (w : SC) : SC := .agg [iv p 0, iv p 1, iv p 2, w]
def mel3 (ρ : Env) (p : Nat) : Prop := mel ρ p 0 ∧ mel ρ p 1 ∧ mel ρ p 2
def fM3 (p : Nat) : List BE := fM p 0 ++ fM p 1 ++ fM p 2
def agF (ρ : Env) (p : Nat) : Prop := (0 ≤ nv ρ p 2 ∧ nv ρ p 2 ≤ 63) ∧ (0 ≤ nv ρ p 3 ∧ nv ρ p 3 ≤ 63)
def may3 (ρ : Env) (p q : Nat) : Prop := mayA (nv ρ q 0) (nv ρ q 1) (nv ρ p 0) = true ∧ mayA (nv ρ q 0) (nv ρ q 1) (nv ρ p 1) = true ∧ mayA (nv ρ q 0) (nv ρ q 1) (nv ρ p 2) = true
def aft3 (ρ : Env) (p q r : Nat) : Prop := nv ρ r 0 = aftA (nv ρ q 2) (nv ρ q 3) (nv ρ p 0) ∧ nv ρ r 1 = aftA (nv ρ q 2) (nv ρ q 3) (nv ρ p 1) ∧ nv ρ r 2 = aftA (nv ρ q 2) (nv ρ q 3) (nv ρ p 2)
def cAft : Con := { id := 130, f := 145, m := 2, args := [i3 16, aAg 17], fs := fM3 16, pre := fun ρ => mel3 ρ 16 ∧ agF ρ 17, outs := [
  { n := 0, v := .tup [.agg [e0, e0, e0], no_], rw := [], fs := [], post := fun ρ => ¬ may3 ρ 16 17 },
  { id := 1, n := 1, v := .tup [i3 18, yes_], rw := [], fs := fM3 18, post := fun ρ => may3 ρ 16 17 ∧ aft3 ρ 16 17 18 ∧ mel3 ρ 18 }] }
def ndAft (P : Program) : List NdS := []
def consAft : List Con := [cMay, cPutA]
def cThenN : Con := { id := 131, f := 121, m := 2, args := [st4 16 nil_, aAg 17], fs := [], pre := fun ρ => True, outs := [
  { n := 2, v := gro 1 18 19, rw := [(18, oI 19 18)], fs := [.le (.lit (.ofNat 1)) (.len 83), leN (.len 83) 1], post := fun ρ => li ρ 19 = [nv ρ 17 5] }] }
def ndThenN (P : Program) : List NdS := []
def consThenN : List Con := []
def oIr (l r : Nat) : SO := .lrow .i64 (64 + l) 3 r
def cThen : Con := { id := 132, f := 121, m := 6, args := [st4 16 (.slice 18 (.lit (.ofNat 0)) (nm_ 20 0) (nm_ 20 1)), aAg 17], ro := [(18, oIr 19 21)], fs := [.le (.lit (.ofNat 1)) (nm_ 20 0), leN (nm_ 20 0) 262144, .eq (nm_ 20 0) (.len 83), leN (.len 83) 262144], pre := fun ρ => 1 ≤ nv ρ 20 0 ∧ nv ρ 20 0 ≤ 262144 ∧ nv ρ 20 0 = ((li ρ 19).length : Nat), outs := [
  { n := 2, v := gro 1 22 23, rw := [(22, oI 23 22)], fs := [.le (.lit (.ofNat 1)) (.len 87), leN (.len 87) 262145], post := fun ρ => li ρ 23 = li ρ 19 ++ [nv ρ 17 5] ∧ (li ρ 19).length ≤ 262144 }] }
def ndThen (P : Program) : List NdS := []
def consThen : List Con := []
def mB (B : List Int) (i : Nat) (x : Int) : Bool := mayA (B.getD (6 * i) 0) (B.getD (6 * i + 1) 0) x
def aB (B : List Int) (i : Nat) (x : Int) : Int := aftA (B.getD (6 * i + 2) 0) (B.getD (6 * i + 3) 0) x
def noB (B : List Int) (i : Nat) : Int := B.getD (6 * i + 5) 0
def mT (B : List Int) (i : Nat) (s : List Int) : Bool := s.all (mB B i)
def aT (B : List Int) (i : Nat) (s : List Int) : List Int := s.map (aB B i)
abbrev Way := List Int × List Int
def kid (B s w : List Int) (i : Nat) : List Way := if mT B i s = true then [(aT B i s, w ++ [noB B i])] else []
def kids (B s w : List Int) : Nat → List Way
 | 0 => []
 | i + 1 => kids B s w i ++ kid B s w i
theorem kids_len (B s w : List Int) : ∀ n, (kids B s w n).length ≤ n
 | 0 => Nat.le_refl _
 | n + 1 => by
  rw [kids, List.length_append]
  have := kids_len B s w n
  have : (kid B s w n).length ≤ 1 := by unfold kid; split <;> simp
  omega
def QOk : List Value → List Value → List Way → Prop
 | _, vs, [] => vs = []
 | Z, vs, (s, w) :: A => ∃ hd tl, s.length = 3 ∧ vs = numV s ++ hd :: tl ∧
   ((w = [] ∧ hd = .slice none 0 0 ∧ QOk Z tl A) ∨ ∃ b sp, 1 ≤ w.length ∧ hd = .slice (some ⟨b, 0, none⟩) w.length (w.length + List.length sp) ∧ (b, Obj.cells (numV w ++ sp).toArray 3 (0, 0)) ∈ frzL Z ∧ QOk (offL b Z) tl A)
theorem qea (s : List Int) : (numV s).length = s.length := List.length_map _
theorem QOk.len : ∀ {A : List Way} {Z vs : List Value}, QOk Z vs A → vs.length = 4 * A.length
 | [], Z, vs, h => by rw [show vs = [] from h]; rfl
 | (s, w) :: A, Z, vs, h => by
  obtain ⟨hd, tl, h1, rfl, h2⟩ := h
  have : tl.length = 4 * A.length := by
   rcases h2 with ⟨_, _, h⟩ | ⟨b, sp, _, _, _, h⟩ <;> exact h.len
  rw [List.length_append, qea, List.length_cons, List.length_cons, this, h1]; omega
theorem offL_append (b : Nat) (r s : List Value) : offL b (r ++ s) = offL b r ++ offL b s := List.filter_append ..
theorem offL_E {b b' : Nat} {ty : TypeId} {cs : List Value} (h : b' ≠ b) : offL b [frzE b' ty cs] = [frzE b' ty cs] := by
 unfold offL
 rw [List.filter_cons_of_pos]
 ·rfl
 ·simp [offV, frzV_E, h]
theorem QOk.push {b' : Nat} {s w : List Int} {sp : List Value} (hs : s.length = 3) (hw : 1 ≤ w.length) : ∀ {A : List Way} {Z vs : List Value}, QOk Z vs A → (∀ x ∈ frzL Z, x.1 ≠ b') →
  QOk (Z ++ [frzE b' 3 (numV w ++ sp)]) (vs ++ (numV s ++ [.slice (some ⟨b', 0, none⟩) w.length (w.length + sp.length)])) (A ++ [(s, w)])
 | [], Z, vs, h, hb => by
  rw [show vs = [] from h]
  refine ⟨_, [], hs, by simp, .inr ⟨b', sp, hw, rfl, ?_, rfl⟩⟩
  rw [qdu, frzL_E]
  exact List.mem_append_right _ List.mem_cons_self
 | (s', w') :: A, Z, vs, h, hb => by
  obtain ⟨hd, tl, h1, h2, h3⟩ := h
  refine ⟨hd, tl ++ (numV s ++ [.slice (some ⟨b', 0, none⟩) w.length (w.length + sp.length)]), h1, by rw [h2]; simp, ?_⟩
  rcases h3 with ⟨k1, k2, k3⟩ | ⟨b, sp', k1, k2, k3, k4⟩
  ·exact .inl ⟨k1, k2, k3.push hs hw hb⟩
  ·refine .inr ⟨b, sp', k1, k2, by rw [qdu]; exact List.mem_append_left _ k3, ?_⟩
   rw [offL_append, offL_E (Ne.symm (hb _ k3))]
   refine k4.push hs hw fun x hx => hb x ?_
   rw [frzL_off] at hx
   exact (List.mem_filter.1 hx).1
def clr (pass : Int) (s : List Int) : Prop := ∀ x ∈ s, bitsOf .andNot .i64 x pass = 0
inductive Bfs (B : List Int) (n : Nat) (pass : Int) (most : Nat) (s0 : List Int) : List (List Int) → List Way → Prop
 | init : Bfs B n pass most s0 [] [(s0, [])]
 | skip {V : List (List Int)} {s w : List Int} {Q : List Way} : Bfs B n pass most s0 V ((s, w) :: Q) → s ∈ V → Bfs B n pass most s0 V Q
 | visit {V : List (List Int)} {s w : List Int} {Q : List Way} : Bfs B n pass most s0 V ((s, w) :: Q) → s ∉ V → w.length ≤ most → ¬ clr pass s → Bfs B n pass most s0 (V ++ [s]) (Q ++ kids B s w n)
def NoneB (B : List Int) (n : Nat) (pass : Int) (most : Nat) (s0 : List Int) : Prop := ∃ V Q, Bfs B n pass most s0 V Q ∧ (Q = [] ∨ ∃ s w Q', Q = (s, w) :: Q' ∧ s ∉ V ∧ most < w.length)
def FoundB (B : List Int) (n : Nat) (pass : Int) (most : Nat) (s0 w : List Int) : Prop := ∃ V s Q, Bfs B n pass most s0 V ((s, w) :: Q) ∧ s ∉ V ∧ w.length ≤ most ∧ clr pass s
def qSl (p q : Nat) : SC := .slice p (nm_ q 0) (nm_ q 1) (nm_ q 2)
def oRaw (p : Nat) : SO := .row [] 143 p
def oQue (p q : Nat) : SO := .cells [qSl p q] 167
def live (ρ : Env) (p q : Nat) : List Value := ((ρ.rest p).drop (nv ρ q 0).toNat).take ((nv ρ q 1).toNat * 4)
def qNum (ρ : Env) (p q : Nat) : Prop := 0 ≤ nv ρ q 0 ∧ 0 ≤ nv ρ q 1 ∧ nv ρ q 1 ≤ nv ρ q 2 ∧ nv ρ q 0 + nv ρ q 2 * 4 ≤ ((ρ.rest p).length : Nat)
def pBn (ρ : Env) : Prop := 0 ≤ nv ρ 18 0 ∧ nv ρ 18 0 ≤ 4 ∧ (6 * nv ρ 18 0 ≤ ((li ρ 17).length : Nat) ∧ ((li ρ 17).length : Nat) ≤ 24) ∧ ∀ i : Nat, (i : Int) < nv ρ 18 0 → (0 ≤ (li ρ 17).getD (6 * i + 2) 0 ∧ (li ρ 17).getD (6 * i + 2) 0 ≤ 63) ∧ (0 ≤ (li ρ 17).getD (6 * i + 3) 0 ∧ (li ρ 17).getD (6 * i + 3) 0 ≤ 63)
def fBn' : List BE := [ge0 (nm_ 18 0), leN (nm_ 18 0) 4, .le (.mul (.lit (.ofNat 6)) (nm_ 18 0)) (.len 81), leN (.len 81) 24]
def fQu (q : Nat) : List BE := [ge0 (nm_ q 0), ge0 (nm_ q 1), leN (nm_ q 1) 1000000, .le (nm_ q 1) (nm_ q 2)]
def s3 (ρ : Env) (p : Nat) : List Int := [nv ρ p 0, nv ρ p 1, nv ρ p 2]
def fnPush (p : Nat) : SC := .fn (.func 131) [pt p] []
def Qmore (ρ : Env) (z p q z' p' q' : Nat) (K : List Way) : Prop := ∀ A, QOk (ρ.rest z) (live ρ p q) A → QOk (ρ.rest z') (live ρ p' q') (A ++ K)
def nBe (ρ : Env) : Nat := (nv ρ 18 0).toNat
def wFur : SC := .slice 24 (.lit (.ofNat 0)) (nm_ 26 0) (nm_ 26 1)
def pFur (ρ : Env) (w : List Int) : Prop := pBn ρ ∧ mel3 ρ 19 ∧ qNum ρ 21 22 ∧ nv ρ 22 1 ≤ 900000 ∧ w.length ≤ 200000
def fWay : List BE := [.le (.lit (.ofNat 1)) (nm_ 26 0), leN (nm_ 26 0) 200000, .eq (nm_ 26 0) (.len 89), leN (.len 89) 200000]
def cFur : Con := { id := 133, f := 133, m := 12, args := [st4 19 wFur, sli 16 18, fnPush 20], rw := [(20, oQue 21 22), (21, oRaw 21)], ro := [(16, oB 17 16), (24, oIr 25 27)], zi := some 23, fs := fBn' ++ fM3 19 ++ fQu 22 ++ fWay, pre := fun ρ => pFur ρ (li ρ 25) ∧ 1 ≤ nv ρ 26 0 ∧ nv ρ 26 0 = ((li ρ 25).length : Nat), outs := [
  { n := 3, v := .tup [], rw := [(20, oQue 28 29), (28, oRaw 28)], fs := fQu 29, zo := some 30, post := fun ρ => qNum ρ 28 29 ∧ nv ρ 29 1 ≤ nv ρ 22 1 + 4 ∧ nv ρ 22 1 ≤ 900000 ∧ Qmore ρ 23 21 22 30 28 29 (kids (li ρ 17) (s3 ρ 19) (li ρ 25) (nBe ρ)) }] }
def ndFur (P : Program) : List NdS := [{ key := 0, n := 5, items := itemsAt P 133 0, sl := [(2, fnPush 20), (3, pt 28), (10, sli 16 18), (11, iv 18 0), (12, iv 29 0)], rw := [(28, .cells [iv 19 0, iv 19 1, iv 19 2, wFur] 143), (20, oQue 30 31), (30, oRaw 30)], ro := [(16, oB 17 16), (24, oIr 25 27)], zn := some 32, fs := fBn' ++ fM3 19 ++ fQu 31 ++ [ge0 (nm_ 29 0), leN (nm_ 29 0) 4] ++ fWay, inv := fun ρ => pFur ρ (li ρ 25) ∧ (1 ≤ nv ρ 26 0 ∧ nv ρ 26 0 = ((li ρ 25).length : Nat)) ∧ (0 ≤ nv ρ 29 0 ∧ nv ρ 29 0 ≤ nv ρ 18 0) ∧ qNum ρ 30 31 ∧ nv ρ 31 1 ≤ nv ρ 22 1 + nv ρ 29 0 ∧ Qmore ρ 23 21 22 32 30 31 (kids (li ρ 17) (s3 ρ 19) (li ρ 25) (nv ρ 29 0).toNat), mu := fun ρ => (5 - nv ρ 29 0).toNat }]
def consFur : List Con := [cAft, cThen]
def cFurN : Con := { id := 134, f := 133, m := 8, args := [st4 19 nil_, sli 16 18, fnPush 20], rw := [(20, oQue 21 22), (21, oRaw 21)], ro := [(16, oB 17 16)], zi := some 23, fs := fBn' ++ fM3 19 ++ fQu 22, pre := fun ρ => pFur ρ [], outs := [
  { n := 3, v := .tup [], rw := [(20, oQue 24 25), (24, oRaw 24)], fs := fQu 25, zo := some 26, post := fun ρ => qNum ρ 24 25 ∧ nv ρ 25 1 ≤ nv ρ 22 1 + 4 ∧ nv ρ 22 1 ≤ 900000 ∧ Qmore ρ 23 21 22 26 24 25 (kids (li ρ 17) (s3 ρ 19) [] (nBe ρ)) }] }
def ndFurN (P : Program) : List NdS := [{ key := 0, n := 5, items := itemsAt P 133 0, sl := [(2, fnPush 20), (3, pt 24), (10, sli 16 18), (11, iv 18 0), (12, iv 25 0)], rw := [(24, .cells [iv 19 0, iv 19 1, iv 19 2, nil_] 143), (20, oQue 26 27), (26, oRaw 26)], ro := [(16, oB 17 16)], zn := some 28, fs := fBn' ++ fM3 19 ++ fQu 27 ++ [ge0 (nm_ 25 0), leN (nm_ 25 0) 4], inv := fun ρ => pFur ρ [] ∧ (0 ≤ nv ρ 25 0 ∧ nv ρ 25 0 ≤ nv ρ 18 0) ∧ qNum ρ 26 27 ∧ nv ρ 27 1 ≤ nv ρ 22 1 + nv ρ 25 0 ∧ Qmore ρ 23 21 22 28 26 27 (kids (li ρ 17) (s3 ρ 19) [] (nv ρ 25 0).toNat), mu := fun ρ => (5 - nv ρ 25 0).toNat }]
def consFurN : List Con := [cAft, cThenN]
def nL (ρ : Env) : Nat := (nv ρ 18 0).toNat
def cPass : Con := { id := 41, f := 32, m := 4, args := [pt 17, iv 18 0], rw := [(17, oHat 19)], ro := roN, fs := [ge0 (nm_ 19 0), leN (nm_ 19 0) T60, ge0 (nm_ 18 0), leN (nm_ 18 0) 6], pre := fun ρ => rowP ρ ∧ 0 ≤ nv ρ 19 0 ∧ nv ρ 19 0 ≤ T60 ∧ 0 ≤ nv ρ 18 0 ∧ nv ρ 18 0 ≤ 6, outs := [{ n := 2, v := iv 21 0, rw := [(17, oHat 20)], fs := fM 21 0, post := fun ρ => nv ρ 19 0 ≤ nv ρ 20 0 ∧ nv ρ 20 0 ≤ nv ρ 19 0 + 12 ∧ mel ρ 21 0 }] }
def ndPass (P : Program) : List NdS := []
def consPass : List Con := [cFaults]
def nA (L : List Int) : Nat := L.length / 5
def twC0 : List Bd := [.ints [(.nth 81 (.mul (h0 83) (oN 5))), (.nth 81 (.add (.mul (h0 83) (oN 5)) (oN 1))), (.nth 81 (.add (.mul (h0 83) (oN 5)) (oN 2))), (.nth 81 (.add (.mul (h0 83) (oN 5)) (oN 3))), (.nth 81 (.add (.mul (h0 83) (oN 5)) (oN 4)))]]
def twC1 : VT := .branch (.eq (.bits .and .i64 (h0 80) (hN 80 1)) (oN 0)) (.new (.bad 1)) (.new (.bad 1))
def twC2 (P : Program) : VT := .jump 0 kk20 (ndAt (ndAt1 P) 0).items
def e_ChkAg (P : Program) : VT := .new (.new (.branch (.not (.eq (.bits .andNot .i64 (h0 80) (oN 63)) (oN 0))) twC1 (.branch (.not (.eq (.bits .andNot .i64 (hN 80 1) (oN 63)) (oN 0))) twC1 (.branch (.not (.eq (.bits .andNot .i64 (hN 80 2) (oN 63)) (oN 0))) twC1 (.branch (.not (.eq (.bits .andNot .i64 (hN 80 3) (oN 63)) (oN 0))) twC1 (.branch (.eq (.bits .and .i64 (h0 80) (hN 80 1)) (oN 0)) (.new (.ret 0 [.keep 16])) (.new (.bad 1))))))))
def e_Check (P : Program) : VT := .jump 0 [.keep 16, .keep 17, .keep 18, .ints [(oN 0)]] (ndAt (ndCheck P) 0).items
def n_Check_0 (P : Program) : VT := .branch (.lt (h0 83) (h0 82)) (.need [(.le (.add (.mul (h0 83) (oN 5)) (oN 5)) (.len 81))] (.new (vob cChkAg twC0 (vsm cChkAg 0 twC0 (.jump 0 [.keep 16, .keep 17, .keep 18, .ints [(.add (h0 83) (oN 1))]] (ndAt (ndCheck P) 0).items))))) (.ret 0 [.keep 16, .keep 17, .keep 18])
def e_At1 (P : Program) : VT := vob cCheck [.keep 16, .lst 81, .ints [(h0 82), (hN 82 1)]] (vsm cCheck 0 [.keep 16, .lst 81, .ints [(h0 82), (hN 82 1)]] (.branch (.not (.eq (h0 84) (oN 0))) (.new (.branch (.not (.eq (h0 84) (oN 0))) (.branch (.not (.eq (h0 84) (oN 0))) (.bad 1) (twC2 P)) (twC2 P))) (.new (twC2 P))))
def n_At1_0 (P : Program) : VT := .need [(.le (oN 5) (.len 81))] (.new (.new (.new (.jump 1 (vap kk20 [.ints [(oN 1)], .keep 23, .ints [(h0 81), (hN 81 1), (hN 81 2), (hN 81 3), (hN 81 4), (oN 0)]]) (ndAt (ndAt1 P) 1).items))))
def n_At1_1 (P : Program) : VT := .branch (.lt (h0 85) (h0 82)) (.need [(.le (.add (.mul (h0 85) (oN 5)) (oN 5)) (.len 81))] (.new (.new (.need [(.eq (.mul (.quo (.len 87) (oN 6)) (oN 6)) (.len 87))] (.new (.asm (appAsm 26 (.whole 87) (.lits [(.nth 81 (.mul (h0 85) (oN 5))), (.nth 81 (.add (.mul (h0 85) (oN 5)) (oN 1))), (.nth 81 (.add (.mul (h0 85) (oN 5)) (oN 2))), (.nth 81 (.add (.mul (h0 85) (oN 5)) (oN 3))), (.nth 81 (.add (.mul (h0 85) (oN 5)) (oN 4))), (h0 85)])) (.new (.jump 1 (vap kk20 [.ints [(.add (h0 85) (oN 1))], .keep 27, .lst 90]) (ndAt (ndAt1 P) 1).items)))))))) (.ret 0 (vap kk20 [.keep 22, .lst 87]))
theorem idx5 {i : Int} (h0 : 0 ≤ i) : (i * 5).toNat = 5 * i.toNat ∧ (i * 5 + 1).toNat = 5 * i.toNat + 1 ∧ (i * 5 + 2).toNat = 5 * i.toNat + 2 ∧ (i * 5 + 3).toNat = 5 * i.toNat + 3 ∧ (i * 5 + 4).toNat = 5 * i.toNat + 4 := by omega
theorem ags_at {L : List Int} {n : Nat} (h : agsV L n) {i : Int} (h0 : 0 ≤ i) (h1 : i < n) : agV 6 L i.toNat := h.2.2 _ (by omega)
theorem ags_len {L : List Int} {n : Int} (h : agsV L n.toNat) {i : Int} (h0 : 0 ≤ i) (h1 : i < n) : i * 5 + 5 ≤ (L.length : Nat) := by
 have := h.1; omega
theorem qbp {x : Int} (h0 : 0 ≤ x) (h1 : x < 2 ^ 6) : bitsOf .andNot .i64 x 63 = 0 := by
 obtain ⟨n, rfl⟩ := qfg h0
 have h : n < 64 := by omega
 revert h
 clear h0 h1
 revert n
 have : ∀ n : Nat, n < 64 → bitsOf .andNot .i64 (n : Int) 63 = 0 := by decide
 exact this
theorem benchL_len (L : List Int) : ∀ n, (benchL L n).length = 6 * n
 | 0 => rfl
 | n + 1 => by
  show (benchL L n ++ _).length = _
  rw [List.length_append, benchL_len L n]
  simp only [List.length_cons, List.length_nil]; omega
theorem benchL_get (L : List Int) {n i : Nat} (h : i < n) : (benchL L n).getD (6 * i) 0 = L.getD (5 * i) 0 ∧ (benchL L n).getD (6 * i + 1) 0 = L.getD (5 * i + 1) 0 ∧ (benchL L n).getD (6 * i + 2) 0 = L.getD (5 * i + 2) 0 ∧ (benchL L n).getD (6 * i + 3) 0 = L.getD (5 * i + 3) 0 ∧ (benchL L n).getD (6 * i + 5) 0 = i := by
 induction n with
 | zero => omega
 | succ n ih =>
  show (benchL L n ++ _).getD _ 0 = _ ∧ (benchL L n ++ _).getD _ 0 = _ ∧ (benchL L n ++ _).getD _ 0 = _ ∧ (benchL L n ++ _).getD _ 0 = _ ∧ (benchL L n ++ _).getD _ 0 = _
  simp only [getD_app, benchL_len]
  by_cases hc : i < n
  ·rw [if_pos (by omega), if_pos (by omega), if_pos (by omega), if_pos (by omega), if_pos (by omega)]
   exact ih hc
  ·have e : i = n := by omega
   subst e
   rw [if_neg (by omega), if_neg (by omega), if_neg (by omega), if_neg (by omega), if_neg (by omega)]
   simp only [Nat.sub_self, Nat.add_sub_cancel_left]
   exact ⟨rfl, rfl, rfl, rfl, rfl⟩
theorem len_tdiv6 {L : List Int} {c : Int} (hc : 0 ≤ c) (h : ((L.length : Nat) : Int) = 6 * c) : ((L.length : Nat) : Int).tdiv 6 = c := by
 rw [h, Int.tdiv_eq_ediv_of_nonneg (by omega)]
 omega
theorem v_ChkAg (P : Program) : V0 cChkAg (ndChkAg P) 17 (e_ChkAg P) := fun ρ hv hΓ hl hp => by
 simp only [VC, outAt, ndAt, allTrue, ve, BE.den, LX.den, li, tT, e_ChkAg, twC1, ndChkAg, cChkAg] at hp ⊢
 simp only [qbk, qam, bdList, qab, hl, qed, qdm, qdf, qcr, List.getD_cons_zero, List.getD_cons_succ, List.map_cons, List.map_nil, Nat.reduceAdd, Nat.reduceSub, Nat.reduceLeDiff, Nat.reduceLT, Nat.reduceEqDiff, if_true, if_false, reduceIte, IE.den, qfp, hN_den, qdh, decide_eq_true_eq, decide_eq_false_iff_not, beq_iff_eq, beq_eq_false_iff_ne, ne_eq, Option.some.injEq, reduceCtorEq, forall_eq', true_and, false_implies, implies_true, and_true, natLit, bits64, bitsU64, Int.one_mul, Bool.not_eq_true', Bool.not_eq_false'] at hp ⊢
 obtain ⟨⟨b0, b1⟩, ⟨b2, b3⟩, ⟨b4, b5⟩, ⟨b6, b7⟩, -, -, b10⟩ := hp
 have h0 := qbp b0 b1
 have h1 := qbp b2 b3
 have h2 := qbp b4 b5
 have h3 := qbp b6 b7
 intro _ _ _ _
 exact ⟨fun h => absurd h0 h, fun _ => ⟨fun h => absurd h1 h, fun _ => ⟨fun h => absurd h2 h, fun _ => ⟨fun h => absurd h3 h, fun _ h => absurd b10 h⟩⟩⟩⟩
theorem v_Check (P : Program) : V0 cCheck (ndCheck P) 19 (e_Check P) := fun ρ hv hΓ hl hp => by
 simp only [VC, outAt, ndAt, allTrue, ve, BE.den, LX.den, nv, li, tT, e_Check, ndCheck, cCheck, pA] at hp ⊢
 simp only [qbk, qam, bdList, qab, hl, qed, qdm, qdf, qcr, List.getD_cons_zero, List.getD_cons_succ, List.map_cons, List.map_nil, Nat.reduceAdd, Nat.reduceSub, Nat.reduceLeDiff, Nat.reduceLT, Nat.reduceEqDiff, if_true, if_false, reduceIte, IE.den, qfp, hN_den, qdh, decide_eq_true_eq, decide_eq_false_iff_not, beq_iff_eq, beq_eq_false_iff_ne, ne_eq, Option.some.injEq, reduceCtorEq, forall_eq', true_and, false_implies, implies_true, and_true, natLit, bits64, bitsU64, Int.one_mul, Bool.not_eq_true', Bool.not_eq_false'] at hp ⊢
 exact ⟨hp, by omega, by omega⟩
theorem agV_at {f : Nat} {L M : List Int} {i : Nat} (h : agV f L i) (h0 : M.getD 0 0 = L.getD (5 * i) 0) (h1 : M.getD 1 0 = L.getD (5 * i + 1) 0) (h2 : M.getD 2 0 = L.getD (5 * i + 2) 0) (h3 : M.getD 3 0 = L.getD (5 * i + 3) 0) (h4 : M.getD 4 0 = L.getD (5 * i + 4) 0) : agV f M 0 := by
 unfold agV at h ⊢
 simpa only [Nat.mul_zero, Nat.zero_add, h0, h1, h2, h3, h4] using h
theorem v_Check_0 (P : Program) : VN cCheck (ndCheck P) 0 20 (n_Check_0 P) := fun ρ hv hΓ hl hp => by
 simp only [VC, oblC, asmC, outAt, ndAt, allTrue, ve, BE.den, LX.den, nv, li, tT, n_Check_0, twC0, vob, vsm, ndCheck, cCheck, cChkAg, pA] at hp ⊢
 simp only [qbk, qam, bdList, qab, hl, qed, qdm, qdf, qcr, List.getD_cons_zero, List.getD_cons_succ, List.map_cons, List.map_nil, Nat.reduceAdd, Nat.reduceSub, Nat.reduceLeDiff, Nat.reduceLT, Nat.reduceEqDiff, if_true, if_false, reduceIte, IE.den, qfp, hN_den, qdh, decide_eq_true_eq, decide_eq_false_iff_not, beq_iff_eq, beq_eq_false_iff_ne, ne_eq, Option.some.injEq, reduceCtorEq, forall_eq', true_and, false_implies, implies_true, and_true, natLit, bits64, bitsU64, Int.one_mul, Bool.not_eq_true', Bool.not_eq_false'] at hp ⊢
 obtain ⟨⟨p1, p2⟩, p3, p4⟩ := hp
 have hn := p2.2.1
 intro hlt
 have a := ags_at p2 p3 (by omega)
 obtain ⟨e0, e1, e2, e3, e4⟩ := idx5 p3
 refine ⟨ags_len p2 p3 hlt, fun _ _ => ⟨?_, fun _ => ⟨⟨⟨p1, p2⟩, by omega, by omega⟩, by omega⟩⟩⟩
 rw [e0, e1, e2, e3, e4]
 exact agV_at a rfl rfl rfl rfl rfl
theorem v_At1 (P : Program) : V0 cAt1 (ndAt1 P) 21 (e_At1 P) := fun ρ hv hΓ hl hp => by
 simp only [VC, oblC, asmC, outAt, ndAt, allTrue, ve, BE.den, LX.den, nv, li, tT, e_At1, twC2, kk20, vob, vsm, ndAt1, cAt1, cCheck, pA] at hp ⊢
 simp only [qbk, qam, bdList, qab, hl, qed, qdm, qdf, qcr, List.getD_cons_zero, List.getD_cons_succ, List.map_cons, List.map_nil, Nat.reduceAdd, Nat.reduceSub, Nat.reduceLeDiff, Nat.reduceLT, Nat.reduceEqDiff, if_true, if_false, reduceIte, IE.den, qfp, hN_den, qdh, decide_eq_true_eq, decide_eq_false_iff_not, beq_iff_eq, beq_eq_false_iff_ne, ne_eq, Option.some.injEq, reduceCtorEq, forall_eq', true_and, false_implies, implies_true, and_true, natLit, bits64, bitsU64, Int.one_mul, Bool.not_eq_true', Bool.not_eq_false'] at hp ⊢
 obtain ⟨p1, p2⟩ := hp
 exact ⟨p1, fun _ => ⟨fun h => absurd p2 h, fun _ _ _ => p1⟩⟩
theorem v_At1_0 (P : Program) : VN cAt1 (ndAt1 P) 0 21 (n_At1_0 P) := fun ρ hv hΓ hl hp => by
 simp only [VC, outAt, ndAt, allTrue, ve, BE.den, LX.den, nv, li, tT, n_At1_0, kk20, vap, ndAt1, cAt1, pA] at hp ⊢
 simp only [qbk, qam, bdList, qab, hl, qed, qdm, qdf, qcr, List.getD_cons_zero, List.getD_cons_succ, List.map_cons, List.map_nil, Nat.reduceAdd, Nat.reduceSub, Nat.reduceLeDiff, Nat.reduceLT, Nat.reduceEqDiff, if_true, if_false, reduceIte, IE.den, qfp, hN_den, qdh, decide_eq_true_eq, decide_eq_false_iff_not, beq_iff_eq, beq_eq_false_iff_ne, ne_eq, Option.some.injEq, reduceCtorEq, forall_eq', true_and, false_implies, implies_true, and_true, natLit, bits64, bitsU64, Int.one_mul, Bool.not_eq_true', Bool.not_eq_false'] at hp ⊢
 have h := hp.2.1
 refine ⟨decide_eq_true (show (5 : Int) ≤ ((ρ.list 81).length : Nat) by omega), fun _ _ _ _ _ _ => ⟨⟨hp, Int.le_refl 1, hp.1, rfl, rfl⟩, by decide⟩⟩
theorem v_At1_1 (P : Program) : VN cAt1 (ndAt1 P) 1 24 (n_At1_1 P) := fun ρ hv hΓ hl hp => by
 simp only [VC, appAsm, outAt, ndAt, allTrue, ve, BE.den, LX.den, nv, li, tT, n_At1_1, kk20, vap, ndAt1, cAt1, pA] at hp ⊢
 simp only [qbk, qam, bdList, qab, hl, qed, qdm, qdf, qcr, List.getD_cons_zero, List.getD_cons_succ, List.map_cons, List.map_nil, Nat.reduceAdd, Nat.reduceSub, Nat.reduceLeDiff, Nat.reduceLT, Nat.reduceEqDiff, if_true, if_false, reduceIte, IE.den, qfp, hN_den, qdh, decide_eq_true_eq, decide_eq_false_iff_not, beq_iff_eq, beq_eq_false_iff_ne, ne_eq, Option.some.injEq, reduceCtorEq, forall_eq', true_and, false_implies, implies_true, and_true, natLit, bits64, bitsU64, Int.one_mul, Bool.not_eq_true', Bool.not_eq_false'] at hp ⊢
 obtain ⟨⟨p1, p2⟩, p3, p4, p5, p6⟩ := hp
 have hn := p2.2.1
 have h0 : 0 ≤ (ρ.list 85).getD 0 0 := by omega
 refine ⟨fun hlt => ⟨ags_len p2 h0 hlt, fun _ _ _ _ => ⟨by rw [len_tdiv6 h0 p6]; omega, fun _ x hx _ _ => ⟨⟨⟨p1, p2⟩, by omega, by omega, ?_, ?_⟩, by omega⟩⟩⟩, fun hge => ?_⟩
 ·obtain ⟨e0, e1, e2, e3, e4⟩ := idx5 h0
  rw [hx, p5, e0, e1, e2, e3, e4, show ((ρ.list 85).getD 0 0 + 1).toNat = ((ρ.list 85).getD 0 0).toNat + 1 by omega]
  show _ = benchL _ _ ++ _
  rw [Int.toNat_of_nonneg h0]
 ·rw [hx, List.length_append]
  simp only [List.length_cons, List.length_nil]
  omega
 ·have he : (ρ.list 82).getD 0 0 = (ρ.list 85).getD 0 0 := by omega
  exact ⟨⟨p1, p2⟩, by rw [he]; exact p5, by rw [he]; exact p6⟩
theorem benchL_four (L : List Int) {n i : Nat} (h : i < n) : (benchL L n).getD (6 * i + 4) 0 = L.getD (5 * i + 4) 0 := by
 induction n with
 | zero => omega
 | succ n ih =>
  show (benchL L n ++ _).getD _ 0 = _
  simp only [getD_app, benchL_len]
  by_cases hc : i < n
  ·rw [if_pos (by omega)]; exact ih hc
  ·have e : i = n := by omega
   subst e
   rw [if_neg (by omega)]
   simp only [Nat.add_sub_cancel_left]
   rfl
theorem bench_ok {L : List Int} {n : Nat} (h : agsV L n) : Bench (benchL L n) n := by
 refine ⟨benchL_len L n, h.2.1, fun j hj => ?_⟩
 obtain ⟨a, b, c, d, e⟩ := benchL_get L hj
 have f := benchL_four L hj
 obtain ⟨v1, v2, v3, v4, v5, v6, -⟩ := h.2.2 j hj
 unfold fld
 rw [Nat.add_zero, a, b, c, d, e, f]
 omega
theorem fld_bench {L : List Int} {n j : Nat} (hj : j < n) : fld (benchL L n) j 0 = L.getD (5 * j) 0 ∧ fld (benchL L n) j 1 = L.getD (5 * j + 1) 0 ∧ fld (benchL L n) j 2 = L.getD (5 * j + 2) 0 ∧ fld (benchL L n) j 3 = L.getD (5 * j + 3) 0 ∧ fld (benchL L n) j 4 = L.getD (5 * j + 4) 0 := by
 obtain ⟨a, b, c, d, e⟩ := benchL_get L hj
 exact ⟨a, b, c, d, benchL_four L hj⟩
theorem agV_mono {L : List Int} {i : Nat} (h : agV 4 L i) : agV 6 L i := by
 unfold agV at h ⊢
 omega
theorem nA_of {L : List Int} {c : Nat} (h : L.length = 5 * c) : nA L = c := by
 unfold nA; omega
open Go Mv Mw Go.Proofs Go.Extern
def ext_ (fn : Func) : Array Value → Sem Value := (Extern.find fn).getD fun args => ReflectliteValue.unpack (args.getD 0 (.tuple #[]))
theorem LB_as : AsLib Tryz.prog LB where
 valueOf := ⟨Tryz.f123, Tryz.func123, by kernel_rfl, by kernel_rfl, by kernel_rfl, by kernel_rfl⟩
 typ := ⟨Tryz.f124, Tryz.func124, by kernel_rfl, by kernel_rfl, by kernel_rfl, by kernel_rfl⟩
 isNil := ⟨Tryz.f125, Tryz.func125, by kernel_rfl, by kernel_rfl, by kernel_rfl, by kernel_rfl⟩
 elemV := ⟨Tryz.f142, Tryz.func142, by kernel_rfl, by kernel_rfl, by kernel_rfl, by kernel_rfl⟩
 setV := ⟨Tryz.f143, Tryz.func143, by kernel_rfl, by kernel_rfl, by kernel_rfl, by kernel_rfl⟩
 typeOf := ⟨Tryz.f141, Tryz.func141, by kernel_rfl, by kernel_rfl, by kernel_rfl, by kernel_rfl⟩
 mkP := fun _ => by kernel_rfl
 mkE := fun _ => by kernel_rfl
 mkA := fun _ => by kernel_rfl
 type_ := fun _ => by kernel_rfl
 partsP := fun _ => by kernel_rfl
 partsE := fun _ => by kernel_rfl
 partsA := fun _ => by kernel_rfl
 flag := by kernel_rfl
 elem? := by kernel_rfl
 direct := by kernel_rfl
 typeOf_ := fun _ => by kernel_rfl
 kindP := ⟨162, ext_ Tryz.f162, fun _ => by kernel_rfl, ⟨Tryz.f162, Tryz.func162, by kernel_rfl, by kernel_rfl, by kernel_rfl, by kernel_rfl⟩, by kernel_rfl, by kernel_rfl⟩
 elemT := ⟨173, ext_ Tryz.f173, fun _ => by kernel_rfl, ⟨Tryz.f173, Tryz.func173, by kernel_rfl, by kernel_rfl, by kernel_rfl, by kernel_rfl⟩, by kernel_rfl⟩
 impl := ⟨174, ext_ Tryz.f174, fun _ => by kernel_rfl, ⟨Tryz.f174, Tryz.func174, by kernel_rfl, by kernel_rfl, by kernel_rfl, by kernel_rfl⟩, by kernel_rfl⟩
 assign := ⟨171, ext_ Tryz.f171, fun _ => by kernel_rfl, ⟨Tryz.f171, Tryz.func171, by kernel_rfl, by kernel_rfl, by kernel_rfl, by kernel_rfl⟩, by kernel_rfl⟩
theorem LE_as : AsLib Tryz.prog LE where
 valueOf := ⟨Tryz.f123, Tryz.func123, by kernel_rfl, by kernel_rfl, by kernel_rfl, by kernel_rfl⟩
 typ := ⟨Tryz.f124, Tryz.func124, by kernel_rfl, by kernel_rfl, by kernel_rfl, by kernel_rfl⟩
 isNil := ⟨Tryz.f125, Tryz.func125, by kernel_rfl, by kernel_rfl, by kernel_rfl, by kernel_rfl⟩
 elemV := ⟨Tryz.f142, Tryz.func142, by kernel_rfl, by kernel_rfl, by kernel_rfl, by kernel_rfl⟩
 setV := ⟨Tryz.f143, Tryz.func143, by kernel_rfl, by kernel_rfl, by kernel_rfl, by kernel_rfl⟩
 typeOf := ⟨Tryz.f141, Tryz.func141, by kernel_rfl, by kernel_rfl, by kernel_rfl, by kernel_rfl⟩
 mkP := fun _ => by kernel_rfl
 mkE := fun _ => by kernel_rfl
 mkA := fun _ => by kernel_rfl
 type_ := fun _ => by kernel_rfl
 partsP := fun _ => by kernel_rfl
 partsE := fun _ => by kernel_rfl
 partsA := fun _ => by kernel_rfl
 flag := by kernel_rfl
 elem? := by kernel_rfl
 direct := by kernel_rfl
 typeOf_ := fun _ => by kernel_rfl
 kindP := ⟨162, ext_ Tryz.f162, fun _ => by kernel_rfl, ⟨Tryz.f162, Tryz.func162, by kernel_rfl, by kernel_rfl, by kernel_rfl, by kernel_rfl⟩, by kernel_rfl, by kernel_rfl⟩
 elemT := ⟨173, ext_ Tryz.f173, fun _ => by kernel_rfl, ⟨Tryz.f173, Tryz.func173, by kernel_rfl, by kernel_rfl, by kernel_rfl, by kernel_rfl⟩, by kernel_rfl⟩
 impl := ⟨174, ext_ Tryz.f174, fun _ => by kernel_rfl, ⟨Tryz.f174, Tryz.func174, by kernel_rfl, by kernel_rfl, by kernel_rfl, by kernel_rfl⟩, by kernel_rfl⟩
 assign := ⟨171, ext_ Tryz.f171, fun _ => by kernel_rfl, ⟨Tryz.f171, Tryz.func171, by kernel_rfl, by kernel_rfl, by kernel_rfl, by kernel_rfl⟩, by kernel_rfl⟩
theorem LB_not : NotLib Tryz.prog LB 29 where
 typeOf := ⟨Tryz.f141, Tryz.func141, by kernel_rfl, by kernel_rfl, by kernel_rfl, by kernel_rfl⟩
 typeOf_ := fun _ => by kernel_rfl
 assign := ⟨171, ext_ Tryz.f171, fun _ => by kernel_rfl, ⟨Tryz.f171, Tryz.func171, by kernel_rfl, by kernel_rfl, by kernel_rfl, by kernel_rfl⟩, by kernel_rfl⟩
theorem hk_ok (main : Co) : HkOk Tryz.prog main (Xf Tryz.prog).hk :=
 qau hApp_ok (qau (qbr xMap_ok) (qau (qbr (xAs_ok LB_as)) (qau (qbr (xAs_ok LE_as)) (qau (qbr (xNot_ok LB_not)) (qbr xTA_ok)))))
open Go Mv Mw Go.Proofs
def hkM (P : Program) : Hk_ := hOr (hApp P) (hOr (hHStore P) (hOr (hMap P) (hOr (hExt (xTA P)) (hInv P))))
def Xm (P : Program) : Cf := ⟨hkM P, Γ0, 100000⟩
def rfIn : Code → Option (Array Tmp × Code × Code)
 | .rangeFunc _ p a b => some (p, a, b)
 | .seq a b => match rfIn a with
  | some x => some x
  | none => rfIn b
 | .block _ a => rfIn a
 | _ => none
def rfP (P : Program) (f : FuncId) : Array Tmp × Code × Code := match rfIn (bodyIn P f) with
 | some x => x
 | none => (#[], .skip, .skip)
def u64R (x : Int) : Prop := 0 ≤ x ∧ x < 2 ^ 64
def fB64 (p : Nat) : List BE := [.le (.lit (.ofNat 1)) (.len (64 + p)), leN (.len (64 + p)) 64]
def oClS (P : Program) (st : LoopState) (pend : Option Code) : SO := .rng 20 29 (setsT [(0, .agg [.ref 23]), (1, sli 16 18), (2, i3 19), (3, iv 28 0), (4, iv 28 1), (5, pt 32), (7, pt 33), (8, pt 27), (9, pt 29), (10, pt 30), (11, pt 31), (13, .agg [.ref 23]), (14, sli 16 18), (15, i3 19), (16, .fn (.func 130) [] [pt 22, pt 25, pt 26])]) 78 (rfP P 78).1 (rfP P 78).2.1 (rfP P 78).2.2 st pend 21
def oCl (P : Program) : SO := oClS P .ready none
def rwWv (q : Nat) (v : SC) : List (Nat × SO) := [(22, .cells [.ref 23] 97), (23, .mapq q), (25, .cells [iv 19 0, iv 19 1, iv 19 2] 101), (26, .cells [sli 16 18] 73), (27, .cells [iv 28 0] 82), (29, .cells [iv 28 1] 3), (30, .cells [v] 22), (31, .cells [e0] 29)]
def rwW (q : Nat) : List (Nat × SO) := rwWv q nil_
def fWs : List BE := fBn' ++ fM3 19 ++ fM 28 0 ++ [ge0 (nm_ 28 1), leN (nm_ 28 1) 63]
def slW (p : Nat) (b : SC) : List (Nat × SC) := [(0, .yield 20), (1, pt 22), (2, pt 25), (3, pt 26), (5, pt 34), (6, pt p), (7, b)]
def pWs (ρ : Env) : Prop := pBn ρ ∧ mel3 ρ 19 ∧ mel ρ 28 0 ∧ 0 ≤ nv ρ 28 1 ∧ nv ρ 28 1 ≤ 63
def BfsR (ρ : Env) (V : List (List Int)) (Q : List Way) : Prop := Bfs (li ρ 17) (nBe ρ) (nv ρ 28 0) (nv ρ 28 1).toNat (s3 ρ 19) V Q
def noneR (ρ : Env) : Prop := NoneB (li ρ 17) (nBe ρ) (nv ρ 28 0) (nv ρ 28 1).toNat (s3 ρ 19)
def foundR (ρ : Env) (w : List Int) : Prop := FoundB (li ρ 17) (nBe ρ) (nv ρ 28 0) (nv ρ 28 1).toNat (s3 ρ 19) w
def visR (ρ : Env) (q : Nat) (V : List (List Int)) : Prop := KeysOk 3 (ρ.rest q) ∧ keysQ (ρ.rest q) = V.map keyV
def muW (ρ : Env) (q l : Nat) : Nat := 5 * (262145 - (keysQ (ρ.rest q)).length) + (nv ρ l 1).toNat + 1
def cWaysP (P : Program) : Con := { id := 135, f := 130, m := 18, args := [.yield 20, pt 22, pt 25, pt 26], rw := (20, oCl P) :: rwW 24, ro := [(16, oB 17 16)], fs := fWs, pre := fun ρ => pWs ρ, outs := [
  { n := 1, v := .tup [], rw := (20, oCl P) :: rwW 34, post := fun ρ => noneR ρ },
  { id := 1, n := 1, v := .tup [], rw := (20, oClS P .done (some (.exit 0))) :: rwW 34, post := fun ρ => noneR ρ },
  { id := 2, n := 1, v := .tup [], rw := (20, oClS P .done (some .ret)) :: rwW 34, post := fun ρ => foundR ρ [] },
  { id := 3, n := 5, v := .tup [], rw := (20, oClS P .done (some .ret)) :: rwWv 34 (.slice 35 (.lit (.ofNat 0)) (nm_ 37 0) (nm_ 37 1)) ++ [(35, oIr 36 38)], fs := [.le (.lit (.ofNat 1)) (nm_ 37 0), leN (nm_ 37 0) 63, .eq (nm_ 37 0) (.len 100)], post := fun ρ => foundR ρ (li ρ 36) ∧ 1 ≤ nv ρ 37 0 ∧ nv ρ 37 0 ≤ 63 ∧ nv ρ 37 0 = ((li ρ 36).length : Nat) }] }
def ndWays (P : Program) : List NdS := [
 { key := 0, n := 11, items := itemsAt P 130 0, sl := slW 38 yes_, rw := (20, oCl P) :: rwW 43 ++ [(34, oQue 35 36), (35, oRaw 35), (38, .cells [iv 39 0, iv 39 1, iv 39 2, .slice 40 (.lit (.ofNat 0)) (nm_ 42 0) (nm_ 42 1)] 143), (40, oIr 41 44)], ro := [(16, oB 17 16)], zn := some 37, fs := fWs ++ fQu 36 ++ fM3 39 ++ [.le (.lit (.ofNat 1)) (nm_ 42 0), leN (nm_ 42 0) 200000, .eq (nm_ 42 0) (.len 105), leN (.len 105) 200000], inv := fun ρ => pWs ρ ∧ mel3 ρ 39 ∧ qNum ρ 35 36 ∧ (1 ≤ nv ρ 42 0 ∧ nv ρ 42 0 ≤ 200000 ∧ nv ρ 42 0 = ((li ρ 41).length : Nat)) ∧ ∃ V A, BfsR ρ V ((s3 ρ 39, li ρ 41) :: A) ∧ visR ρ 43 V ∧ QOk (ρ.rest 37) (live ρ 35 36) A, mu := fun ρ => muW ρ 43 36 },
 { key := 0, n := 7, items := itemsAt P 130 0, sl := slW 38 yes_, rw := (20, oCl P) :: rwW 40 ++ [(34, oQue 35 36), (35, oRaw 35), (38, .cells [iv 39 0, iv 39 1, iv 39 2, nil_] 143)], ro := [(16, oB 17 16)], zn := some 37, fs := fWs ++ fQu 36 ++ fM3 39, inv := fun ρ => pWs ρ ∧ mel3 ρ 39 ∧ qNum ρ 35 36 ∧ ∃ V A, BfsR ρ V ((s3 ρ 39, []) :: A) ∧ visR ρ 40 V ∧ QOk (ρ.rest 37) (live ρ 35 36) A, mu := fun ρ => muW ρ 40 36 },
 { key := 0, n := 3, items := itemsAt P 130 0, sl := slW 36 no_, rw := (20, oCl P) :: rwW 35, ro := [(16, oB 17 16)], fs := fWs, inv := fun ρ => pWs ρ ∧ noneR ρ, mu := fun ρ => 0 }]
def consWaysP (P : Program) : List Con := [cFur, cFurN]
def nonC (ρ : Env) : Prop := NoneB (li ρ 17) (nBe ρ) (nv ρ 22 0) (nv ρ 22 1).toNat (s3 ρ 19)
def fouC (ρ : Env) (w : List Int) : Prop := FoundB (li ρ 17) (nBe ρ) (nv ρ 22 0) (nv ρ 22 1).toNat (s3 ρ 19) w
def cClear : Con := { id := 136, f := 78, m := 7, args := [.agg [.ref 20], sli 16 18, i3 19, iv 22 0, iv 22 1], rw := [(20, .mapq 21)], ro := [(16, oB 17 16)], fs := fBn' ++ fM3 19 ++ fM 22 0 ++ [ge0 (nm_ 22 1), leN (nm_ 22 1) 63], pre := fun ρ => pBn ρ ∧ mel3 ρ 19 ∧ mel ρ 22 0 ∧ 0 ≤ nv ρ 22 1 ∧ nv ρ 22 1 ≤ 63, outs := [
  { n := 1, v := .tup [nil_, .int .i64 (.lit (.ofNat 11))], rw := [(20, .mapq 23)], post := fun ρ => nonC ρ },
  { id := 1, n := 1, v := .tup [nil_, e0], rw := [(20, .mapq 23)], post := fun ρ => fouC ρ [] },
  { id := 2, n := 5, v := .tup [.slice 24 (.lit (.ofNat 0)) (nm_ 26 0) (nm_ 26 1), e0], rw := [(20, .mapq 23), (24, oIr 25 27)], fs := [.le (.lit (.ofNat 1)) (nm_ 26 0), leN (nm_ 26 0) 63, .eq (nm_ 26 0) (.len 89)], post := fun ρ => fouC ρ (li ρ 25) ∧ 1 ≤ nv ρ 26 0 ∧ nv ρ 26 0 ≤ 63 ∧ nv ρ 26 0 = ((li ρ 25).length : Nat) }] }
def ndClear (P : Program) : List NdS := []
noncomputable def cWays : Con := cWaysP Tryz.prog
noncomputable def consClear : List Con := [cWays]
def Good (s : List Int) : Prop := s.length = 3 ∧ ∀ x ∈ s, 0 ≤ x ∧ x ≤ 63
theorem good3 {x y z : Int} : Good [x, y, z] ↔ (0 ≤ x ∧ x ≤ 63) ∧ (0 ≤ y ∧ y ≤ 63) ∧ 0 ≤ z ∧ z ≤ 63 := by
 simp [Good]
def AgR (B : List Int) (n : Nat) : Prop := ∀ i, i < n → (0 ≤ B.getD (6 * i + 2) 0 ∧ B.getD (6 * i + 2) 0 ≤ 63) ∧ (0 ≤ B.getD (6 * i + 3) 0 ∧ B.getD (6 * i + 3) 0 ≤ 63)
theorem good_aT {B : List Int} {n i : Nat} {s : List Int} (hB : AgR B n) (hi : i < n) (hs : Good s) : Good (aT B i s) := by
 refine ⟨by rw [aT, List.length_map]; exact hs.1, fun x hx => ?_⟩
 obtain ⟨y, hy, rfl⟩ := List.mem_map.1 hx
 exact aftA_rng (hB i hi).1 (hB i hi).2 (hs.2 y hy)
theorem mem_kids {B s w : List Int} {x : Way} : ∀ {n : Nat}, x ∈ kids B s w n ↔ ∃ i, i < n ∧ mT B i s = true ∧ x = (aT B i s, w ++ [noB B i])
 | 0 => by simp [kids]
 | n + 1 => by
  rw [kids, List.mem_append, mem_kids]
  constructor
  ·rintro (⟨i, h1, h2⟩ | h)
   ·exact ⟨i, by omega, h2⟩
   ·unfold kid at h
    split at h
    ·rename_i hm
     exact ⟨n, by omega, hm, by simpa using h⟩
    ·cases h
  ·rintro ⟨i, h1, h2, h3⟩
   by_cases e : i = n
   ·subst e
    right
    rw [kid, if_pos h2, h3]; exact List.mem_singleton.2 rfl
   ·exact .inl ⟨i, by omega, h2, h3⟩
def numS (s : List Int) : Nat := (s.getD 0 0).toNat * 4096 + (s.getD 1 0).toNat * 64 + (s.getD 2 0).toNat
theorem good_eq {s : List Int} (h : s.length = 3) : s = [s.getD 0 0, s.getD 1 0, s.getD 2 0] := by
 match s, h with
 | [a, b, c], _ => rfl
theorem numS_inj {s t : List Int} (hs : Good s) (ht : Good t) (h : numS s = numS t) : s = t := by
 have es := good_eq hs.1
 have et := good_eq ht.1
 rw [es] at hs
 rw [et] at ht
 have a := good3.1 hs
 have b := good3.1 ht
 unfold numS at h
 have e0 : s.getD 0 0 = t.getD 0 0 := by omega
 have e1 : s.getD 1 0 = t.getD 1 0 := by omega
 have e2 : s.getD 2 0 = t.getD 2 0 := by omega
 rw [es, et, e0, e1, e2]
theorem numS_lt {s : List Int} (hs : Good s) : numS s < 262144 := by
 rw [good_eq hs.1] at hs
 have a := good3.1 hs
 unfold numS; omega
theorem qfr {α β : Type} {f : α → β} : ∀ {l : List α}, l.Nodup → (∀ x ∈ l, ∀ y ∈ l, f x = f y → x = y) → (l.map f).Nodup
 | [], _, _ => List.nodup_nil
 | a :: l, h, hf => by
  rw [List.map_cons, List.nodup_cons]
  rw [List.nodup_cons] at h
  refine ⟨fun hm => ?_, qfr h.2 fun x hx y hy => hf x (List.mem_cons_of_mem _ hx) y (List.mem_cons_of_mem _ hy)⟩
  obtain ⟨y, hy, e⟩ := List.mem_map.1 hm
  have := hf y (List.mem_cons_of_mem _ hy) a List.mem_cons_self e
  subst this
  exact h.1 hy
theorem few_states {V : List (List Int)} (hV : V.Nodup) (hg : ∀ s ∈ V, Good s) : V.length ≤ 262144 := by
 have h := (qes 262144 (V.map numS) (qfr hV fun x hx y hy => numS_inj (hg x hx) (hg y hy)) fun x hx => by
  obtain ⟨y, hy, rfl⟩ := List.mem_map.1 hx
  exact numS_lt (hg y hy)).1
 rwa [List.length_map] at h
structure BfsI (B : List Int) (n most : Nat) (V : List (List Int)) (Q : List Way) : Prop where
 nd : V.Nodup
 gV : ∀ s ∈ V, Good s
 gQ : ∀ x ∈ Q, Good x.1 ∧ x.2.length ≤ most + 1
 ln : Q.length ≤ 3 * V.length + 1
theorem Bfs.inv {B : List Int} {n : Nat} {pass : Int} {most : Nat} {s0 : List Int} (hB : AgR B n) (hn : n ≤ 4) (h0 : Good s0) {V : List (List Int)} {Q : List Way} (h : Bfs B n pass most s0 V Q) : BfsI B n most V Q := by
 induction h with
 | init => exact ⟨List.nodup_nil, (by intro s hs; cases hs), fun x hx => by rw [List.mem_singleton.1 hx]; exact ⟨h0, by simp⟩, by simp⟩
 | skip _ _ ih => exact ⟨ih.nd, ih.gV, fun x hx => ih.gQ x (List.mem_cons_of_mem _ hx), by have := ih.ln; rw [List.length_cons] at this; omega⟩
 | @visit V s w Q _ hs hw _ ih =>
  have gs := (ih.gQ _ List.mem_cons_self).1
  refine ⟨?_, fun t ht => ?_, fun x hx => ?_, ?_⟩
  ·rw [List.nodup_append]
   refine ⟨ih.nd, by simp, fun a ha b hb e => ?_⟩
   rw [List.mem_singleton.1 hb] at e
   exact hs (e ▸ ha)
  ·rcases List.mem_append.1 ht with h | h
   ·exact ih.gV t h
   ·rw [List.mem_singleton.1 h]; exact gs
  ·rcases List.mem_append.1 hx with h | h
   ·exact ih.gQ x (List.mem_cons_of_mem _ h)
   ·obtain ⟨i, h1, h2, rfl⟩ := mem_kids.1 h
    exact ⟨good_aT hB h1 gs, by show (w ++ [noB B i]).length ≤ _; rw [List.length_append, List.length_singleton]; omega⟩
  ·have := ih.ln
   have := kids_len B s w n
   rw [List.length_append, List.length_append, List.length_singleton]
   rw [List.length_cons] at *
   omega
theorem BfsI.few {B : List Int} {n most : Nat} {V : List (List Int)} {Q : List Way} (h : BfsI B n most V Q) : V.length ≤ 262144 := few_states h.nd h.gV
theorem numV_inj : ∀ {s t : List Int}, numV s = numV t → s = t
 | [], [], _ => rfl
 | [], _ :: _, h => by cases h
 | _ :: _, [], h => by cases h
 | a :: s, b :: t, h => by
  unfold numV at h
  rw [List.map_cons, List.map_cons] at h
  injection h with h1 h2
  injection h1 with _ h1
  rw [h1, numV_inj (s := s) (t := t) h2]
theorem keyV_inj {s t : List Int} (h : keyV s = keyV t) : s = t := by
 unfold keyV at h
 injection h with h
 exact numV_inj (by simpa using congrArg Array.toList h)
theorem mem_keys {V : List (List Int)} {s : List Int} : keyV s ∈ V.map keyV ↔ s ∈ V := by
 constructor
 ·intro h
  obtain ⟨t, ht, e⟩ := List.mem_map.1 h
  rwa [← keyV_inj e]
 ·exact fun h => List.mem_map_of_mem h
def Vis (r : List Value) (V : List (List Int)) : Prop := KeysOk 3 r ∧ keysQ r = V.map keyV
theorem Vis.len {r : List Value} {V : List (List Int)} (h : Vis r V) : (keysQ r).length = V.length := by rw [h.2, List.length_map]
theorem Vis.nil : Vis [] [] := ⟨(by intro x hx; cases hx), rfl⟩
theorem Vis.add {r r' : List Value} {V : List (List Int)} {s : List Int} (h : Vis r V) (hs : s.length = 3) (e : pairsQ r' = pairsQ r ++ [(keyV s, .bool true)]) : Vis r' (V ++ [s]) := by
 refine ⟨fun x hx => ?_, ?_⟩
 ·rw [e] at hx
  rcases List.mem_append.1 hx with hx | hx
  ·exact h.1 x hx
  ·rw [List.mem_singleton.1 hx]; exact ⟨rfl, s, hs, rfl⟩
 ·have h2 := h.2
  unfold keysQ at h2 ⊢
  rw [e, List.map_append, h2, List.map_append]; rfl
theorem numV_split {s t : List Int} {a b : Value} {x y : List Value} (hs : s.length = 3) (ht : t.length = 3) (h : numV s ++ a :: x = numV t ++ b :: y) : s = t ∧ a = b ∧ x = y := by
 obtain ⟨h1, h2⟩ := List.append_inj h (by rw [qea, qea, hs, ht])
 exact ⟨numV_inj h1, (List.cons.inj h2).1, (List.cons.inj h2).2⟩
theorem QOk.first {Z R : List Value} {s w : List Int} {A : List Way} {off k : Nat} (h : QOk Z ((R.drop off).take k) ((s, w) :: A)) : s.length = 3 ∧ ∃ hd tl, R.drop off = numV s ++ hd :: tl ∧
  ((w = [] ∧ hd = .slice none 0 0 ∧ QOk Z (tl.take (k - 4)) A) ∨ ∃ b sp, 1 ≤ w.length ∧ hd = .slice (some ⟨b, 0, none⟩) w.length (w.length + List.length sp) ∧ (b, Obj.cells (numV w ++ sp).toArray 3 (0, 0)) ∈ frzL Z ∧ QOk (offL b Z) (tl.take (k - 4)) A) := by
 obtain ⟨hd, tl, h1, h2, h3⟩ := h
 have e : (tl ++ (R.drop off).drop k).take (k - 4) = tl := by
  have hl := congrArg List.length h2
  rw [List.length_take, List.length_append, qea, h1, List.length_cons] at hl
  by_cases hk : k ≤ (R.drop off).length
  ·exact List.take_left' (by omega)
  ·rw [List.drop_eq_nil_of_le (by omega), List.append_nil]
   exact List.take_of_length_le (by omega)
 refine ⟨h1, hd, tl ++ (R.drop off).drop k, ?_, ?_⟩
 ·have e2 := List.take_append_drop k (R.drop off)
  rw [h2, List.append_assoc] at e2
  exact e2.symm
 ·rw [e]; exact h3
theorem obl_first {ρ : Env} {b z : Nat} {off : IE} {k : Nat} {A : List Way} (h : QOk (zR ρ z) (((ρ.rest b).drop (off.den ρ).toNat).take k) A) (h0 : A ≠ []) : oblLd 3 3 b z off ρ := by
 match A, h0 with
 | (s, w) :: A, _ =>
  obtain ⟨h1, hd, tl, h2, h3⟩ := h.first
  refine ⟨s, hd, tl, h1, h2, ?_⟩
  rcases h3 with ⟨-, e, -⟩ | ⟨b, sp, -, e, hm, -⟩
  ·exact .inl e
  ·exact .inr ⟨b, w, sp, e, hm⟩
theorem drop_padN {n : Nat} {p x : List Value} (h : p.length = n) : (padN n p ++ x).drop n = x := by
 rw [List.drop_left']
 unfold padN; simp
theorem key_uniq : ∀ {l : List (Nat × Obj)} {b : Nat} {x y : Obj}, (l.map Prod.fst).Nodup → (b, x) ∈ l → (b, y) ∈ l → x = y
 | a :: l, b, x, y, hn, hx, hy => by
  rw [List.map_cons, List.nodup_cons] at hn
  rcases List.mem_cons.1 hx with hx | hx <;> rcases List.mem_cons.1 hy with hy | hy
  ·rw [← hx] at hy; exact (Prod.mk.inj hy).2.symm
  ·exact absurd (by rw [← hx]; exact List.mem_map.2 ⟨(b, y), hy, rfl⟩) hn.1
  ·exact absurd (by rw [← hy]; exact List.mem_map.2 ⟨(b, x), hx, rfl⟩) hn.1
  ·exact key_uniq hn.2 hx hy
theorem pop_env {ρ : Env} {b z nk : Nat} {off : IE} {len cap : Int} {A : List Way} (ho : 0 ≤ off.den ρ) (h1 : len ≤ cap) (h0 : 0 < len) (hq : QOk (zR ρ z) (((ρ.rest b).drop (off.den ρ).toNat).take (len.toNat * 4)) A) (hpe : asmPe 3 3 b z nk off ρ) :
  ∃ s w A', A = (s, w) :: A' ∧ s = [(ρ.list (64 + nk)).getD 0 0, (ρ.list (64 + nk)).getD 1 0, (ρ.list (64 + nk)).getD 2 0] ∧
   ((ρ.list (64 + nk)).getD 3 0 = 1 → w = [] ∧ QOk (zR ρ z) (((ρ.rest b).drop (off.den ρ + 4 * min 1 (cap - 1)).toNat).take ((len - 1).toNat * 4)) A' ∧ oblNo nk 3 1 (nk + 5) (nk + 4) b off ρ) ∧
   ((ρ.list (64 + nk)).getD 3 0 ≠ 1 → w = ρ.list (64 + (nk + 3)) ∧ 1 ≤ w.length ∧ (ρ.list (64 + nk)).getD 4 0 = w.length ∧ QOk (ρ.rest (nk + 2)) (((ρ.rest b).drop (off.den ρ + 4 * min 1 (cap - 1)).toNat).take ((len - 1).toNat * 4)) A' ∧ oblNo nk 3 0 (nk + 5) (nk + 4) b off ρ) := by
 match A, hq with
 | [], hq =>
  obtain ⟨ns, hd, n3, hR, hp, -⟩ := hpe
  exfalso
  have := hq.len
  rw [hR, drop_padN hp, List.length_take, List.length_append, qea, n3, List.length_nil] at this
  simp only [List.length_cons] at this
  omega
 | (s, w) :: A, hq =>
  obtain ⟨s3, hd, tl, e1, e2⟩ := hq.first
  obtain ⟨ns, hd', n3, hR, hp, hcase, hnd⟩ := hpe
  have hdr : (ρ.rest b).drop (off.den ρ).toNat = numV ns ++ hd' :: ρ.rest (nk + 5) := by rw [hR, drop_padN hp]
  rw [hdr] at e1
  obtain ⟨rfl, rfl, rfl⟩ := numV_split n3 s3 e1
  have live : ∀ {Z : List Value}, QOk Z ((ρ.rest (nk + 5)).take (len.toNat * 4 - 4)) A → QOk Z (((ρ.rest b).drop (off.den ρ + 4 * min 1 (cap - 1)).toNat).take ((len - 1).toNat * 4)) A := fun {Z} h => by
   rw [show (len - 1).toNat * 4 = len.toNat * 4 - 4 by omega]
   by_cases hc : len = 1
   ·subst hc
    rw [show Int.toNat 1 * 4 - 4 = 0 from rfl, List.take_zero] at h ⊢
    exact h
   ·rw [show (off.den ρ + 4 * min 1 (cap - 1)).toNat = (off.den ρ).toNat + 4 by omega, ← List.drop_drop, hdr]
    rw [show (numV ns ++ hd' :: ρ.rest (nk + 5)).drop 4 = ρ.rest (nk + 5) by
     rw [show numV ns ++ hd' :: ρ.rest (nk + 5) = (numV ns ++ [hd']) ++ ρ.rest (nk + 5) by simp]
     exact List.drop_left' (by rw [List.length_append, qea, n3]; rfl)]
    exact h
  rcases hcase with ⟨hL, hh⟩ | ⟨hL, hh, hm, hz⟩
  ·have g3 : (ρ.list (64 + nk)).getD 3 0 = 1 := by rw [hL]; match ns, n3 with | [_, _, _], _ => rfl
   refine ⟨ns, w, A, rfl, by rw [hL]; match ns, n3 with | [_, _, _], _ => rfl, fun _ => ?_, fun h => absurd g3 h⟩
   rcases e2 with ⟨hw, -, hq'⟩ | ⟨b', sp, -, hw, -⟩
   ·refine ⟨hw, live hq', ?_⟩
    show ρ.rest b = _ ++ ((itemL nk 3 (.lit (.slice none 0 0))).map _ ++ _)
    have := itemL_den (v := .lit (.slice none 0 0)) hL
    rw [n3] at this
    rw [this, hR, List.append_assoc, hh]; rfl
   ·rw [hh] at hw; cases hw
  ·have g3 : (ρ.list (64 + nk)).getD 3 0 = 0 := by rw [hL]; match ns, n3 with | [_, _, _], _ => rfl
   have g4 : (ρ.list (64 + nk)).getD 4 0 = ((ρ.list (64 + (nk + 3))).length : Nat) := by rw [hL]; match ns, n3 with | [_, _, _], _ => rfl
   have g5 : (ρ.list (64 + nk)).getD 5 0 = ((ρ.list (64 + (nk + 3))).length + (ρ.rest (nk + 1)).length : Nat) := by rw [hL]; match ns, n3 with | [_, _, _], _ => rfl
   refine ⟨ns, w, A, rfl, by rw [hL]; match ns, n3 with | [_, _, _], _ => rfl, fun h => absurd h (by rw [g3]; decide), fun _ => ?_⟩
   rcases e2 with ⟨-, hw, -⟩ | ⟨b', sp, w1, hw, hm', hq'⟩
   ·rw [hh] at hw; cases hw
   ·rw [hh] at hw
    injection hw with hb hn hc
    injection hb with hb
    injection hb with hb
    subst hb
    have hu := key_uniq hnd hm hm'
    injection hu with hu
    have hu := congrArg Array.toList hu
    simp only at hu
    have hi := (List.append_inj hu (by rw [qea, qea, hn])).1
    have ew := numV_inj hi
    refine ⟨ew.symm, w1, by rw [g4, ← ew], ?_, ?_⟩
    ·rw [hz]; exact live hq'
    ·show ρ.rest b = _ ++ ((itemL nk 3 (slV nk 3)).map _ ++ _)
     have := itemL_den (v := slV nk 3) hL
     rw [n3] at this
     have e : hd' = (slV nk 3).den ρ := by
      rw [hh]
      simp only [slV, SC.den, IE.den]
      rw [show (Int.ofNat (3 + 1)).toNat = 4 from rfl, show (Int.ofNat (3 + 2)).toNat = 5 from rfl, g4, g5, Int.toNat_natCast, Int.toNat_natCast]
      rfl
     rw [this, hR, List.append_assoc, e]
     rfl
def G3 (x y z : Int) : Prop := (0 ≤ x ∧ x ≤ 63) ∧ (0 ≤ y ∧ y ≤ 63) ∧ 0 ≤ z ∧ z ≤ 63
def BnR (B : List Int) (n : Int) : Prop := 0 ≤ n ∧ n ≤ 4 ∧ (6 * n ≤ (B.length : Nat) ∧ (B.length : Nat) ≤ 24) ∧ ∀ i : Nat, (i : Int) < n → (0 ≤ B.getD (6 * i + 2) 0 ∧ B.getD (6 * i + 2) 0 ≤ 63) ∧ (0 ≤ B.getD (6 * i + 3) 0 ∧ B.getD (6 * i + 3) 0 ≤ 63)
def PW (B : List Int) (n x y z pass most : Int) : Prop := BnR B n ∧ G3 x y z ∧ (0 ≤ pass ∧ pass ≤ 63) ∧ 0 ≤ most ∧ most ≤ 63
def QN (a b c : Int) (l : Nat) : Prop := 0 ≤ a ∧ 0 ≤ b ∧ b ≤ c ∧ a + c * 4 ≤ (l : Nat)
theorem G3_eq (ρ : Env) (p : Nat) : mel3 ρ p = G3 (nv ρ p 0) (nv ρ p 1) (nv ρ p 2) := rfl
theorem qci (ρ : Env) : pBn ρ = BnR (li ρ 17) (nv ρ 18 0) := rfl
theorem PW_eq (ρ : Env) : pWs ρ = PW (li ρ 17) (nv ρ 18 0) (nv ρ 19 0) (nv ρ 19 1) (nv ρ 19 2) (nv ρ 28 0) (nv ρ 28 1) := rfl
theorem QN_eq (ρ : Env) (p q : Nat) : qNum ρ p q = QN (nv ρ q 0) (nv ρ q 1) (nv ρ q 2) (ρ.rest p).length := rfl
theorem Vis_eq (ρ : Env) (q : Nat) (V : List (List Int)) : visR ρ q V = Vis (ρ.rest q) V := rfl
theorem s3_eq (ρ : Env) (p : Nat) : s3 ρ p = [nv ρ p 0, nv ρ p 1, nv ρ p 2] := rfl
abbrev Bf (B : List Int) (n x y z pass most : Int) (V : List (List Int)) (Q : List Way) : Prop := Bfs B n.toNat pass most.toNat [x, y, z] V Q
theorem Bf_eq (ρ : Env) (V : List (List Int)) (Q : List Way) : BfsR ρ V Q = Bf (li ρ 17) (nv ρ 18 0) (nv ρ 19 0) (nv ρ 19 1) (nv ρ 19 2) (nv ρ 28 0) (nv ρ 28 1) V Q := rfl
abbrev NoB (B : List Int) (n x y z pass most : Int) : Prop := NoneB B n.toNat pass most.toNat [x, y, z]
theorem NoB_eq (ρ : Env) : noneR ρ = NoB (li ρ 17) (nv ρ 18 0) (nv ρ 19 0) (nv ρ 19 1) (nv ρ 19 2) (nv ρ 28 0) (nv ρ 28 1) := rfl
abbrev FoB (B : List Int) (n x y z pass most : Int) (w : List Int) : Prop := FoundB B n.toNat pass most.toNat [x, y, z] w
theorem FoB_eq (ρ : Env) (w : List Int) : foundR ρ w = FoB (li ρ 17) (nv ρ 18 0) (nv ρ 19 0) (nv ρ 19 1) (nv ρ 19 2) (nv ρ 28 0) (nv ρ 28 1) w := rfl
theorem PW.inv {B : List Int} {n x y z pass most : Int} (h : PW B n x y z pass most) {V : List (List Int)} {Q : List Way} (hb : Bf B n x y z pass most V Q) : BfsI B n.toNat most.toNat V Q :=
 Bfs.inv (fun i hi => h.1.2.2.2 i (by omega)) (by have := h.1.2.1; omega) (good3.2 h.2.1) hb
theorem Bf.none {B : List Int} {n x y z pass most : Int} {V : List (List Int)} (hb : Bf B n x y z pass most V []) : NoB B n x y z pass most := ⟨V, [], hb, .inl rfl⟩
theorem G3.good {x y z : Int} : G3 x y z ↔ Good [x, y, z] := good3.symm
def muN (r : List Value) (l : Int) : Nat := 5 * (262145 - (keysQ r).length) + l.toNat + 1
theorem muN_eq (ρ : Env) (q l : Nat) : muW ρ q l = muN (ρ.rest q) (nv ρ l 1) := rfl
theorem min_if (x : Int) : (if x < 1 then x else 1) = min 1 x := by
 split <;> omega
theorem QOk.cnt {Z R : List Value} {a l c : Int} {A : List Way} (hQ : QN a l c R.length) (hq : QOk Z ((R.drop a.toNat).take (l.toNat * 4)) A) : l = (A.length : Nat) := by
 have := hq.len
 obtain ⟨h0, h1, h2, h3⟩ := hQ
 rw [List.length_take, List.length_drop] at this
 omega
theorem pop_core {R Z : List Value} {L : List Int} {n x y z pass most a l c : Int} {V : List (List Int)} {A : List Way} (hW : PW L n x y z pass most) (hb : Bf L n x y z pass most V A) (hQ : QN a l c R.length) (hq : QOk Z ((R.drop a.toNat).take (l.toNat * 4)) A)
  {ρ : Env} {bq zq nk : Nat} {off : IE} (hR : ρ.rest bq = R) (hZ : ρ.rest zq = Z) (hoff : off.den ρ = a) (h0 : ¬l = 0) (hpe : asmPe 3 3 bq (zq + 1) nk off ρ) {T : List Int} (hT : T = [a + 4 * (if c - 1 < 1 then c - 1 else 1), l - 1, c - 1]) :
  G3 ((ρ.list (64 + nk)).getD 0 0) ((ρ.list (64 + nk)).getD 1 0) ((ρ.list (64 + nk)).getD 2 0) ∧ QN (T.getD 0 0) (T.getD 1 0) (T.getD 2 0) R.length ∧
   ((ρ.list (64 + nk)).getD 3 0 = 1 → ∃ A', Bf L n x y z pass most V (([(ρ.list (64 + nk)).getD 0 0, (ρ.list (64 + nk)).getD 1 0, (ρ.list (64 + nk)).getD 2 0], []) :: A') ∧ QOk Z ((R.drop (T.getD 0 0).toNat).take ((T.getD 1 0).toNat * 4)) A') ∧
   (¬(ρ.list (64 + nk)).getD 3 0 = 1 → (1 ≤ (ρ.list (64 + nk)).getD 4 0 ∧ (ρ.list (64 + nk)).getD 4 0 ≤ 200000 ∧ (ρ.list (64 + nk)).getD 4 0 = ((ρ.list (64 + (nk + 3))).length : Nat)) ∧
    ∃ A', Bf L n x y z pass most V (([(ρ.list (64 + nk)).getD 0 0, (ρ.list (64 + nk)).getD 1 0, (ρ.list (64 + nk)).getD 2 0], ρ.list (64 + (nk + 3))) :: A') ∧ QOk (ρ.rest (nk + 2)) ((R.drop (T.getD 0 0).toNat).take ((T.getD 1 0).toNat * 4)) A') := by
 subst hR hZ hoff
 obtain ⟨q0, q1, q2, q3⟩ := hQ
 obtain ⟨s, w, A', rfl, hs, k1, k2⟩ := pop_env (z := zq + 1) (cap := c) q0 q2 (by omega) hq hpe
 subst hT
 simp only [List.getD_cons_zero, List.getD_cons_succ, min_if]
 have inv := hW.inv hb
 have g := inv.gQ _ List.mem_cons_self
 rw [hs] at g hb
 have m63 := hW.2.2.2
 refine ⟨G3.good.2 g.1, ⟨by omega, by omega, by omega, by omega⟩, fun h => ?_, fun h => ?_⟩
 ·obtain ⟨hw, h1, -⟩ := k1 h
  subst hw
  exact ⟨A', hb, h1⟩
 ·obtain ⟨hw, w1, h4, h1, -⟩ := k2 h
  have g2 : w.length ≤ most.toNat + 1 := g.2
  subst hw
  refine ⟨⟨by omega, by omega, h4⟩, A', hb, h1⟩
theorem pop_no {A : List Way} {ρ : Env} {bq zq nk : Nat} {off : IE} {R Z : List Value} {a l c : Int} (hQ : QN a l c R.length) (hq : QOk Z ((R.drop a.toNat).take (l.toNat * 4)) A) (hR : ρ.rest bq = R) (hZ : ρ.rest zq = Z) (hoff : off.den ρ = a) (h0 : ¬l = 0) (hpe : asmPe 3 3 bq (zq + 1) nk off ρ) :
  ((ρ.list (64 + nk)).getD 3 0 = 1 → oblNo nk 3 1 (nk + 5) (nk + 4) bq off ρ) ∧ (¬(ρ.list (64 + nk)).getD 3 0 = 1 → oblNo nk 3 0 (nk + 5) (nk + 4) bq off ρ) := by
 subst hR hZ hoff
 obtain ⟨q0, q1, q2, q3⟩ := hQ
 obtain ⟨s, w, A', rfl, hs, k1, k2⟩ := pop_env (z := zq + 1) (cap := c) q0 q2 (by omega) hq hpe
 exact ⟨fun h => (k1 h).2.2, fun h => (k2 h).2.2.2.2⟩
theorem pop_ld {A : List Way} {ρ : Env} {bq zq : Nat} {off : IE} {R Z : List Value} {a l c : Int} (hQ : QN a l c R.length) (hq : QOk Z ((R.drop a.toNat).take (l.toNat * 4)) A) (hR : ρ.rest bq = R) (hZ : ρ.rest zq = Z) (hoff : off.den ρ = a) (h0 : ¬l = 0) : oblLd 3 3 bq (zq + 1) off ρ := by
 have hn := QOk.cnt hQ hq
 subst hR hZ hoff
 exact obl_first (z := zq + 1) hq fun e => by
  subst e
  simp only [List.length_nil] at hn
  omega
abbrev gr6 (ρ : Env) (b0 : Nat) (r0 : List Value) (b1 : Nat) (r1 : List Value) (b2 : Nat) (r2 : List Value) (b3 : Nat) (r3 : List Value) (b4 : Nat) (r4 : List Value) (b5 : Nat) (r5 : List Value) : Env := (((((ρ.grow b0 r0).grow b1 r1).grow b2 r2).grow b3 r3).grow b4 r4).grow b5 r5
theorem pop_goal {M R Z : List Value} {L : List Int} {n x y z pass most a l c : Int} {V : List (List Int)} {A : List Way} {mu0 : Nat} (hW : PW L n x y z pass most) (hb : Bf L n x y z pass most V A) (hV : Vis M V) (hQ : QN a l c R.length) (hq : QOk Z ((R.drop a.toNat).take (l.toNat * 4)) A) (hmu : muN M l ≤ mu0)
    {ρ : Env} {bq zq nk : Nat} {off : IE} (hk : ρ.k.length = nk) (hbq : bq < nk) (hzq : zq < nk) (hR : ρ.rest bq = R) (hZ : ρ.rest zq = Z) (hoff : ∀ ρ', Ext ρ ρ' → off.den ρ' = a) :
    (l = 0 → (PW L n x y z pass most ∧ NoB L n x y z pass most) ∧ 0 < mu0) ∧
    (¬l = 0 → oblLd 3 3 bq (zq + 1) off ρ ∧ ∀ (b0 : Nat) (r0 : List Value) (b1 : Nat) (r1 : List Value) (b2 : Nat) (r2 : List Value) (b3 : Nat) (r3 : List Value) (b4 : Nat) (r4 : List Value) (b5 : Nat) (r5 : List Value),
      asmPe 3 3 bq (zq + 1) nk off (gr6 ρ b0 r0 b1 r1 b2 r2 b3 r3 b4 r4 b5 r5) →
      ((r0.map intOf).getD 3 0 = 1 → 0 < l ∧ 1 ≤ l ∧ 1 ≤ l ∧ oblNo nk 3 1 (nk + 5) (nk + 4) bq off (gr6 ρ b0 r0 b1 r1 b2 r2 b3 r3 b4 r4 b5 r5) ∧ ∀ (b : Nat) (r : List Value), r.map intOf = [a + 4 * (if c - 1 < 1 then c - 1 else 1), l - 1, c - 1] →
        (PW L n x y z pass most ∧ G3 ((r0.map intOf).getD 0 0) ((r0.map intOf).getD 1 0) ((r0.map intOf).getD 2 0) ∧ QN ((r.map intOf).getD 0 0) ((r.map intOf).getD 1 0) ((r.map intOf).getD 2 0) R.length ∧
          ∃ V A, Bf L n x y z pass most V (([(r0.map intOf).getD 0 0, (r0.map intOf).getD 1 0, (r0.map intOf).getD 2 0], []) :: A) ∧ Vis M V ∧ QOk Z ((R.drop ((r.map intOf).getD 0 0).toNat).take (((r.map intOf).getD 1 0).toNat * 4)) A) ∧ muN M ((r.map intOf).getD 1 0) < mu0) ∧
      (¬(r0.map intOf).getD 3 0 = 1 → 0 < l ∧ 1 ≤ l ∧ 1 ≤ l ∧ oblNo nk 3 0 (nk + 5) (nk + 4) bq off (gr6 ρ b0 r0 b1 r1 b2 r2 b3 r3 b4 r4 b5 r5) ∧ ∀ (b : Nat) (r : List Value), r.map intOf = [a + 4 * (if c - 1 < 1 then c - 1 else 1), l - 1, c - 1] →
        (PW L n x y z pass most ∧ G3 ((r0.map intOf).getD 0 0) ((r0.map intOf).getD 1 0) ((r0.map intOf).getD 2 0) ∧ QN ((r.map intOf).getD 0 0) ((r.map intOf).getD 1 0) ((r.map intOf).getD 2 0) R.length ∧
          (1 ≤ (r0.map intOf).getD 4 0 ∧ (r0.map intOf).getD 4 0 ≤ 200000 ∧ (r0.map intOf).getD 4 0 = ((r3.map intOf).length : Nat)) ∧
          ∃ V A, Bf L n x y z pass most V (([(r0.map intOf).getD 0 0, (r0.map intOf).getD 1 0, (r0.map intOf).getD 2 0], r3.map intOf) :: A) ∧ Vis M V ∧ QOk r2 ((R.drop ((r.map intOf).getD 0 0).toNat).take (((r.map intOf).getD 1 0).toNat * 4)) A) ∧ muN M ((r.map intOf).getD 1 0) < mu0)) := by
  have l0 : 0 ≤ l := hQ.2.1
  refine ⟨fun h => ⟨⟨hW, ?_⟩, by unfold muN at hmu; omega⟩, fun h0 => ⟨pop_ld hQ hq hR hZ (hoff _ (Ext.refl _)) h0, fun b0 r0 b1 r1 b2 r2 b3 r3 b4 r4 b5 r5 hpe => ?_⟩⟩
  · have := QOk.cnt hQ hq
    have : A = [] := List.eq_nil_of_length_eq_zero (by omega)
    subst this
    exact hb.none
  have x6 : Ext ρ (gr6 ρ b0 r0 b1 r1 b2 r2 b3 r3 b4 r4 b5 r5) := (((((Ext.grow ρ b0 r0).trans (Ext.grow _ b1 r1)).trans (Ext.grow _ b2 r2)).trans (Ext.grow _ b3 r3)).trans (Ext.grow _ b4 r4)).trans (Ext.grow _ b5 r5)
  have eR : (gr6 ρ b0 r0 b1 r1 b2 r2 b3 r3 b4 r4 b5 r5).rest bq = R := by rw [qaz x6 (by omega), hR]
  have eZ : (gr6 ρ b0 r0 b1 r1 b2 r2 b3 r3 b4 r4 b5 r5).rest zq = Z := by rw [qaz x6 (by omega), hZ]
  have e0 : (gr6 ρ b0 r0 b1 r1 b2 r2 b3 r3 b4 r4 b5 r5).list (64 + nk) = r0.map intOf := by
    simp only [gr6, qam, qab, hk]
    simp only [show ¬ (64 + nk = 64 + (nk + 1 + 1 + 1 + 1 + 1)) by omega, show ¬ (64 + nk = 64 + (nk + 1 + 1 + 1 + 1)) by omega, show ¬ (64 + nk = 64 + (nk + 1 + 1 + 1)) by omega, show ¬ (64 + nk = 64 + (nk + 1 + 1)) by omega, show ¬ (64 + nk = 64 + (nk + 1)) by omega, if_false, if_true]
  have e3 : (gr6 ρ b0 r0 b1 r1 b2 r2 b3 r3 b4 r4 b5 r5).list (64 + (nk + 3)) = r3.map intOf := by
    simp only [gr6, qam, qab, hk]
    simp only [show ¬ (64 + (nk + 3) = 64 + (nk + 1 + 1 + 1 + 1 + 1)) by omega, show ¬ (64 + (nk + 3) = 64 + (nk + 1 + 1 + 1 + 1)) by omega, show (64 + (nk + 3) = 64 + (nk + 1 + 1 + 1)) by omega, if_false, if_true]
  have e2 : (gr6 ρ b0 r0 b1 r1 b2 r2 b3 r3 b4 r4 b5 r5).rest (nk + 2) = r2 := by
    simp only [gr6, qat, qab, hk]
    simp only [show ¬ (nk + 2 = nk + 1 + 1 + 1 + 1 + 1) by omega, show ¬ (nk + 2 = nk + 1 + 1 + 1 + 1) by omega, show ¬ (nk + 2 = nk + 1 + 1 + 1) by omega, show (nk + 2 = nk + 1 + 1) by omega, if_false, if_true]
  have no := pop_no hQ hq eR eZ (hoff _ x6) h0 hpe
  have core := fun {T : List Int} (hT : T = _) => pop_core hW hb hQ hq eR eZ (hoff _ x6) h0 hpe hT
  rw [e0] at no
  rw [e0, e3, e2] at core
  have mu : ∀ {r : List Int}, r = [a + 4 * (if c - 1 < 1 then c - 1 else 1), l - 1, c - 1] → muN M (r.getD 1 0) < mu0 := fun {r} h => by
    subst h
    unfold muN at hmu ⊢
    simp only [List.getD_cons_zero, List.getD_cons_succ]
    omega
  refine ⟨fun h => ⟨by omega, by omega, by omega, no.1 h, fun b r hr => ?_⟩, fun h => ⟨by omega, by omega, by omega, no.2 h, fun b r hr => ?_⟩⟩
  · obtain ⟨c1, c2, c3, -⟩ := core hr
    obtain ⟨A', c4, c5⟩ := c3 h
    exact ⟨⟨hW, c1, c2, V, A', c4, hV, c5⟩, mu hr⟩
  · obtain ⟨c1, c2, -, c3⟩ := core hr
    obtain ⟨c6, A', c4, c5⟩ := c3 h
    exact ⟨⟨hW, c1, c2, c6, V, A', c4, hV, c5⟩, mu hr⟩
theorem wq_le {L : List Int} {n x y z pass most a l c : Int} {R Z : List Value} {V : List (List Int)} {s : Way} {A : List Way} (hW : PW L n x y z pass most) (hQ : QN a l c R.length) (hb : Bf L n x y z pass most V (s :: A)) (hq : QOk Z ((R.drop a.toNat).take (l.toNat * 4)) A) : l ≤ 1000000 := by
 have := QOk.cnt hQ hq
 have inv := hW.inv hb
 have := inv.ln
 have := inv.few
 rw [List.length_cons] at *
 omega
abbrev Qa := Int × Int × Int × Int
def mayQ (a : Qa) (m : Int) : Bool := mayA a.1 a.2.1 m
def aftQ (a : Qa) (m : Int) : Int := aftA a.2.2.1 a.2.2.2 m
inductive Rch (A : List Qa) (m : Int) : Int → Prop
 | refl : Rch A m m
 | step {k : Int} {a : Qa} : Rch A m k → a ∈ A → mayQ a k = true → Rch A m (aftQ a k)
def Can (A : List Qa) (p m : Int) : Prop := ∃ k, Rch A m k ∧ bitsOf .andNot .i64 k p = 0
def qB (B : List Int) (i : Nat) : Qa := (B.getD (6 * i) 0, B.getD (6 * i + 1) 0, B.getD (6 * i + 2) 0, B.getD (6 * i + 3) 0)
def qsB (B : List Int) (n : Nat) : List Qa := (List.range n).map (qB B)
theorem mem_qsB {B : List Int} {n : Nat} {a : Qa} : a ∈ qsB B n ↔ ∃ i, i < n ∧ a = qB B i := by
 unfold qsB
 rw [List.mem_map]
 constructor
 ·rintro ⟨i, hi, rfl⟩; exact ⟨i, List.mem_range.1 hi, rfl⟩
 ·rintro ⟨i, hi, rfl⟩; exact ⟨i, List.mem_range.2 hi, rfl⟩
def tri (k : Int) : List Int := [k, k, k]
theorem mT_tri {B : List Int} {i : Nat} {k : Int} : mT B i (tri k) = mayQ (qB B i) k := by
 show ((mB B i k) && ((mB B i k) && ((mB B i k) && true))) = _
 show ((mB B i k) && ((mB B i k) && ((mB B i k) && true))) = mB B i k
 cases mB B i k <;> rfl
theorem aT_tri {B : List Int} {i : Nat} {k : Int} : aT B i (tri k) = tri (aftQ (qB B i) k) := rfl
theorem tri_inj {k l : Int} (h : tri k = tri l) : k = l := (List.cons.inj h).1
theorem clr_tri {p k : Int} : clr p (tri k) ↔ bitsOf .andNot .i64 k p = 0 := by
 simp [clr, tri]
structure BfsJ (B : List Int) (n : Nat) (p m : Int) (V : List (List Int)) (Q : List Way) : Prop where
 rV : ∀ s ∈ V, ∃ k, s = tri k ∧ Rch (qsB B n) m k
 rQ : ∀ x ∈ Q, (∃ k, x.1 = tri k ∧ Rch (qsB B n) m k) ∧ x.2.length ≤ V.length
 nc : ∀ s ∈ V, ¬clr p s
 cl : ∀ k, tri k ∈ V → ∀ i, i < n → mayQ (qB B i) k = true → tri (aftQ (qB B i) k) ∈ V ∨ ∃ x ∈ Q, x.1 = tri (aftQ (qB B i) k)
 st : tri m ∈ V ∨ ∃ x ∈ Q, x.1 = tri m
theorem Bfs.invJ {B : List Int} {n : Nat} {p m : Int} {most : Nat} {V : List (List Int)} {Q : List Way} (h : Bfs B n p most (tri m) V Q) : BfsJ B n p m V Q := by
 generalize hs : tri m = s0 at h
 induction h with
 | init =>
  subst hs
  refine ⟨by simp, fun x hx => ?_, by simp, by simp, .inr ⟨_, List.mem_singleton.2 rfl, rfl⟩⟩
  rw [List.mem_singleton.1 hx]
  exact ⟨⟨m, rfl, .refl⟩, Nat.le_refl _⟩
 | @skip V s w Q _ hv ih =>
  refine ⟨ih.rV, fun x hx => ih.rQ x (List.mem_cons_of_mem _ hx), ih.nc, fun k hk i hi hm => ?_, ?_⟩
  ·rcases ih.cl k hk i hi hm with h | ⟨x, hx, e⟩
   ·exact .inl h
   ·rcases List.mem_cons.1 hx with rfl | hx
    ·exact .inl (e ▸ hv)
    ·exact .inr ⟨x, hx, e⟩
  ·rcases ih.st with h | ⟨x, hx, e⟩
   ·exact .inl h
   ·rcases List.mem_cons.1 hx with rfl | hx
    ·exact .inl (e ▸ hv)
    ·exact .inr ⟨x, hx, e⟩
 | @visit V s w Q _ hv hw hc ih =>
  obtain ⟨⟨k0, e0, r0⟩, l0⟩ := ih.rQ _ List.mem_cons_self
  simp only at e0 l0
  subst e0
  have mv : ∀ {t : List Int}, (t ∈ V ∨ ∃ x ∈ (tri k0, w) :: Q, x.1 = t) → t ∈ V ++ [tri k0] ∨ ∃ x ∈ Q ++ kids B (tri k0) w n, x.1 = t := fun {t} h => by
   rcases h with h | ⟨x, hx, e⟩
   ·exact .inl (List.mem_append_left _ h)
   ·rcases List.mem_cons.1 hx with rfl | hx
    ·exact .inl (List.mem_append_right _ (List.mem_singleton.2 e.symm))
    ·exact .inr ⟨x, List.mem_append_left _ hx, e⟩
  refine ⟨fun t ht => ?_, fun x hx => ?_, fun t ht => ?_, fun k hk i hi hm => ?_, mv ih.st⟩
  ·rcases List.mem_append.1 ht with h | h
   ·exact ih.rV t h
   ·exact ⟨k0, List.mem_singleton.1 h, r0⟩
  ·rw [List.length_append, List.length_singleton]
   rcases List.mem_append.1 hx with h | h
   ·have := ih.rQ x (List.mem_cons_of_mem _ h)
    exact ⟨this.1, by omega⟩
   ·obtain ⟨i, h1, h2, rfl⟩ := mem_kids.1 h
    rw [mT_tri] at h2
    refine ⟨⟨_, aT_tri, .step r0 (mem_qsB.2 ⟨i, h1, rfl⟩) h2⟩, ?_⟩
    show (w ++ [noB B i]).length ≤ _
    rw [List.length_append, List.length_singleton]; omega
  ·rcases List.mem_append.1 ht with h | h
   ·exact ih.nc t h
   ·rw [List.mem_singleton.1 h]; exact hc
  ·rcases List.mem_append.1 hk with h | h
   ·exact mv (ih.cl k h i hi hm)
   ·have e := tri_inj (List.mem_singleton.1 h)
    subst e
    exact .inr ⟨_, List.mem_append_right _ (mem_kids.2 ⟨i, hi, by rw [mT_tri]; exact hm, rfl⟩), aT_tri⟩
theorem found_can {B : List Int} {n : Nat} {p m : Int} {most : Nat} {w : List Int} (h : FoundB B n p most (tri m) w) : Can (qsB B n) p m := by
 obtain ⟨V, s, Q, hb, -, -, hc⟩ := h
 obtain ⟨⟨k, e, r⟩, -⟩ := hb.invJ.rQ _ List.mem_cons_self
 simp only at e
 subst e
 exact ⟨k, r, clr_tri.1 hc⟩
theorem good_tri {k : Int} (h : Good (tri k)) : 0 ≤ k ∧ k ≤ 63 := h.2 k List.mem_cons_self
theorem none_can {B : List Int} {n : Nat} {p m : Int} (hB : AgR B n) (hn : n ≤ 4) (hm : 0 ≤ m ∧ m ≤ 63) (h : NoneB B n p 63 (tri m)) : ¬Can (qsB B n) p m := by
 obtain ⟨V, Q, hb, hx⟩ := h
 have j := hb.invJ
 have inv := hb.inv hB hn ⟨rfl, fun x hx => by simp only [tri, List.mem_cons, List.not_mem_nil, or_false, or_self] at hx; subst hx; exact hm⟩
 have hQ : Q = [] := by
  rcases hx with h | ⟨s, w, Q', rfl, hs, hw⟩
  ·exact h
  ·exfalso
   obtain ⟨⟨k, e, r⟩, l⟩ := j.rQ _ List.mem_cons_self
   have gs := (inv.gQ _ List.mem_cons_self).1
   simp only at e l gs
   have nd : (V ++ [s]).Nodup := by
    rw [List.nodup_append]
    refine ⟨inv.nd, by simp, fun a ha b hb e => ?_⟩
    rw [List.mem_singleton.1 hb] at e
    exact hs (e ▸ ha)
   have tr : ∀ x ∈ V ++ [s], ∃ k, x = tri k ∧ 0 ≤ k ∧ k ≤ 63 := fun x hx => by
    rcases List.mem_append.1 hx with h | h
    ·obtain ⟨k, e, -⟩ := j.rV x h
     exact ⟨k, e, good_tri (e ▸ inv.gV x h)⟩
    ·rw [List.mem_singleton.1 h]
     exact ⟨k, e, good_tri (e ▸ gs)⟩
   have h := (qes 64 ((V ++ [s]).map fun x => (x.getD 0 0).toNat) (qfr nd fun x hx y hy he => by
    obtain ⟨a, rfl, a1⟩ := tr x hx
    obtain ⟨b, rfl, b1⟩ := tr y hy
    simp only [tri, List.getD_cons_zero] at he
    have : a = b := by omega
    rw [this]) fun x hx => by
     obtain ⟨y, hy, rfl⟩ := List.mem_map.1 hx
     obtain ⟨a, rfl, a1⟩ := tr y hy
     simp only [tri, List.getD_cons_zero]
     omega).1
   rw [List.length_map, List.length_append, List.length_singleton] at h
   omega
 subst hQ
 rintro ⟨k, r, hc⟩
 have : tri k ∈ V := by
  clear hc
  induction r with
  | refl =>
   rcases j.st with h | ⟨x, hx, -⟩
   ·exact h
   ·cases hx
  | step _ ha hm ih =>
   obtain ⟨i, hi, rfl⟩ := mem_qsB.1 ha
   rcases j.cl _ ih i hi hm with h | ⟨x, hx, -⟩
   ·exact h
   ·cases hx
 exact j.nc _ this (clr_tri.2 hc)
def pBo (ρ : Env) : Prop := pBn ρ ∧ 1 ≤ nv ρ 18 0 ∧ ∀ i : Nat, (i : Int) < nv ρ 18 0 → noB (li ρ 17) i = i
def fn129 (p : Nat) : SC := .fn (.func 129) [] [pt p]
def box3 (q : Nat) : SO := .cells [iv q 0] 3
def DropB (B : List Int) (x n : Nat) (L : List Int) : Prop := ∀ t, t < 6 * (n - 1) → L.getD t 0 = B.getD (if t < 6 * x then t else t + 6) 0
def pX (ρ : Env) : Prop := pBo ρ ∧ 0 ≤ nv ρ 20 0 ∧ nv ρ 20 0 < nv ρ 18 0
def cIdx : Con := { id := 137, f := 144, m := 5, args := [sli 16 18, fn129 19], ro := [(16, oB 17 16), (19, box3 20)], fs := fBn', pre := pX, outs := [
  { n := 1, v := iv 21 0, rw := [], fs := [ge0 (nm_ 21 0), .lt (nm_ 21 0) (nm_ 18 0)], post := fun ρ => nv ρ 21 0 = nv ρ 20 0 ∧ 0 ≤ nv ρ 21 0 ∧ nv ρ 21 0 < nv ρ 18 0 }] }
def ndIdx (P : Program) : List NdS := [{ key := 0, n := 1, items := itemsAt P 144 0, sl := [(0, sli 16 18), (1, fn129 19), (7, iv 18 0), (8, iv 21 0)], ro := [(16, oB 17 16), (19, box3 20)], fs := fBn' ++ [ge0 (nm_ 21 0), leN (nm_ 21 0) 4], inv := fun ρ => pX ρ ∧ 0 ≤ nv ρ 21 0 ∧ nv ρ 21 0 ≤ nv ρ 20 0, mu := fun ρ => (5 - nv ρ 21 0).toNat }]
def consIdx : List Con := []
def cDel : Con := { id := 138, f := 127, m := 5, args := [sli 16 18, fn129 19], rw := [(16, oB 17 16)], ro := [(19, box3 20)], fs := fBn' ++ [.le (nm_ 18 0) (nm_ 18 1)], pre := fun ρ => pX ρ ∧ nv ρ 18 0 ≤ nv ρ 18 1, outs := [
  { n := 2, v := .slice 16 (.lit (.ofNat 0)) (nm_ 22 0) (nm_ 18 1), rw := [(16, oB 21 16)], fs := [ge0 (nm_ 22 0), leN (nm_ 22 0) 4, .le (.mul (.lit (.ofNat 6)) (nm_ 22 0)) (.len 85), leN (.len 85) 24], post := fun ρ => nv ρ 22 0 = nv ρ 18 0 - 1 ∧ 1 ≤ nv ρ 18 0 ∧ nv ρ 18 0 ≤ 4 ∧ 6 * nv ρ 22 0 ≤ ((li ρ 21).length : Nat) ∧ ((li ρ 21).length : Nat) ≤ 24 ∧ DropB (li ρ 17) (nv ρ 20 0).toNat (nv ρ 18 0).toNat (li ρ 21) }] }
def ndDel (P : Program) : List NdS := [{ key := 0, n := 2, items := itemsAt P 127 0, sl := [(0, sli 16 18), (1, fn129 19), (5, iv 22 0), (6, iv 22 1)], rw := [(16, oB 21 16)], ro := [(19, box3 20)], fs := fBn' ++ [.le (nm_ 18 0) (nm_ 18 1), ge0 (nm_ 22 0), ge0 (nm_ 22 1), leN (nm_ 22 1) 4, .le (.mul (.lit (.ofNat 6)) (nm_ 18 0)) (.len 85), leN (.len 85) 24], inv := fun ρ => pX ρ ∧ nv ρ 18 0 ≤ nv ρ 18 1 ∧ nv ρ 22 0 + 1 = nv ρ 22 1 ∧ nv ρ 20 0 < nv ρ 22 1 ∧ nv ρ 22 1 ≤ nv ρ 18 0 ∧ 6 * nv ρ 18 0 ≤ ((li ρ 21).length : Nat) ∧ ((li ρ 21).length : Nat) ≤ 24 ∧ DropB (li ρ 17) (nv ρ 20 0).toNat (nv ρ 22 1).toNat (li ρ 21) ∧ (∀ t : Nat, 6 * nv ρ 22 0 ≤ (t : Int) → (li ρ 21).getD t 0 = (li ρ 17).getD t 0), mu := fun ρ => (5 - nv ρ 22 1).toNat }]
def consDel : List Con := [cIdx]
def cWo : Con := { id := 139, f := 106, m := 4, args := [sli 16 18, iv 19 0], ro := [(16, oB 17 16)], fs := fBn', pre := fun ρ => pBo ρ ∧ 0 ≤ nv ρ 19 0 ∧ nv ρ 19 0 < nv ρ 18 0 ∧ ((li ρ 17).length : Nat) = 6 * nv ρ 18 0, outs := [
  { n := 3, v := .slice 20 (.lit (.ofNat 0)) (nm_ 22 0) (nm_ 22 1), rw := [(20, oB 21 20)], fs := [ge0 (nm_ 22 0), leN (nm_ 22 0) 4, .le (.mul (.lit (.ofNat 6)) (nm_ 22 0)) (.len 85), leN (.len 85) 24], post := fun ρ => nv ρ 22 0 = nv ρ 18 0 - 1 ∧ 1 ≤ nv ρ 18 0 ∧ nv ρ 18 0 ≤ 4 ∧ 6 * nv ρ 22 0 ≤ ((li ρ 21).length : Nat) ∧ ((li ρ 21).length : Nat) ≤ 24 ∧ DropB (li ρ 17) (nv ρ 19 0).toNat (nv ρ 18 0).toNat (li ρ 21) }] }
def ndWo (P : Program) : List NdS := []
def consWo : List Con := [cDel]
def canR (ρ : Env) : Prop := Can (qsB (li ρ 17) (nBe ρ)) (nv ρ 21 1) (nv ρ 21 0)
def cCan : Con := { id := 140, f := 104, m := 6, args := [.agg [.ref 19], sli 16 18, iv 21 0, iv 21 1], rw := [(19, .mapq 20)], ro := [(16, oB 17 16)], fs := fBn' ++ fM 21 0 ++ fM 21 1, pre := fun ρ => pBn ρ ∧ mel ρ 21 0 ∧ mel ρ 21 1, outs := [
  { n := 1, v := no_, rw := [(19, .mapq 22)], post := fun ρ => ¬canR ρ },
  { id := 1, n := 1, v := yes_, rw := [(19, .mapq 22)], post := fun ρ => canR ρ }] }
def ndCan (P : Program) : List NdS := []
def consCan : List Con := [cClear]
open Classical in
noncomputable def selL (P : Nat → Prop) : Nat → List Int
 | 0 => []
 | n + 1 => selL P n ++ if P n then [(n : Int)] else []
def needV (A : List Qa) (p m : Int) (i : Nat) : Prop := ¬Can (A.eraseIdx i) p m
def spoilV (A : List Qa) (p m : Int) (i : Nat) : Prop := mayQ (A.getD i (0, 0, 0, 0)) m = true ∧ ¬Can A p (aftQ (A.getD i (0, 0, 0, 0)) m)
def bxN : List (Nat × SO) := [(19, .cells [.ref 23] 97), (20, .cells [sli 16 18] 73), (21, .cells [iv 25 0] 82), (22, .cells [iv 25 1] 82)]
def fnN : SC := .fn (.func 105) [] [pt 19, pt 20, pt 21, pt 22]
def fnS : SC := .fn (.func 107) [] [pt 21, pt 19, pt 20, pt 22]
def pTh (ρ : Env) : Prop := pBo ρ ∧ mel ρ 25 0 ∧ mel ρ 25 1 ∧ ((li ρ 17).length : Nat) = 6 * nv ρ 18 0
def BnO (B : List Int) (n : Int) : Prop := BnR B n ∧ 1 ≤ n ∧ ∀ i : Nat, (i : Int) < n → noB B i = i
def PT (B : List Int) (n m p : Int) : Prop := BnO B n ∧ (0 ≤ m ∧ m ≤ 63) ∧ (0 ≤ p ∧ p ≤ 63) ∧ (B.length : Int) = 6 * n
theorem BnO_eq (ρ : Env) : pBo ρ = BnO (li ρ 17) (nv ρ 18 0) := rfl
theorem PT_eq (ρ : Env) : pTh ρ = PT (li ρ 17) (nv ρ 18 0) (nv ρ 25 0) (nv ρ 25 1) := rfl
def fTh : List BE := fBn' ++ [.eq (.len 81) (.mul (.lit (.ofNat 6)) (nm_ 18 0))] ++ fM 25 0 ++ fM 25 1
def cThX (id : Nat) (fv : SC) (S : List Qa → Int → Int → Nat → Prop) : Con := { id := id, f := 64, m := 10, args := [sli 16 18, fv], rw := bxN ++ [(23, .mapq 24)], ro := [(16, oB 17 16)], fs := fTh, pre := pTh, outs := [
  { n := 1, v := nil_, rw := bxN ++ [(23, .mapq 26)], post := fun ρ => selL (S (qsB (li ρ 17) (nBe ρ)) (nv ρ 25 1) (nv ρ 25 0)) (nBe ρ) = [] },
  { id := 1, n := 3, v := gro 1 27 28, rw := bxN ++ [(23, .mapq 26), (27, oI 28 27)], fs := [.le (.lit (.ofNat 1)) (.len 92), leN (.len 92) 4], post := fun ρ => selL (S (qsB (li ρ 17) (nBe ρ)) (nv ρ 25 1) (nv ρ 25 0)) (nBe ρ) = li ρ 28 ∧ 1 ≤ (li ρ 28).length ∧ (li ρ 28).length ≤ 4 }] }
def ndThX (fv : SC) (S : List Qa → Int → Int → Nat → Prop) (P : Program) : List NdS := [
 { key := 0, n := 2, items := itemsAt P 64 0, sl := [(1, fv), (5, nil_), (8, sli 16 18), (9, iv 18 0), (10, iv 26 0)], rw := bxN ++ [(23, .mapq 27)], ro := [(16, oB 17 16)], fs := fTh ++ [ge0 (nm_ 26 0), leN (nm_ 26 0) 4], inv := fun ρ => pTh ρ ∧ 0 ≤ nv ρ 26 0 ∧ nv ρ 26 0 ≤ nv ρ 18 0 ∧ selL (S (qsB (li ρ 17) (nBe ρ)) (nv ρ 25 1) (nv ρ 25 0)) (nv ρ 26 0).toNat = [], mu := fun ρ => (5 - nv ρ 26 0).toNat },
 { key := 0, n := 4, items := itemsAt P 64 0, sl := [(1, fv), (5, gro 1 28 29), (8, sli 16 18), (9, iv 18 0), (10, iv 26 0)], rw := bxN ++ [(23, .mapq 27), (28, oI 29 28)], ro := [(16, oB 17 16)], fs := fTh ++ [ge0 (nm_ 26 0), leN (nm_ 26 0) 4, ge0 (.len 93), leN (.len 93) 4], inv := fun ρ => pTh ρ ∧ 0 ≤ nv ρ 26 0 ∧ nv ρ 26 0 ≤ nv ρ 18 0 ∧ selL (S (qsB (li ρ 17) (nBe ρ)) (nv ρ 25 1) (nv ρ 25 0)) (nv ρ 26 0).toNat = li ρ 29 ∧ 1 ≤ (li ρ 29).length ∧ (li ρ 29).length ≤ (nv ρ 26 0).toNat, mu := fun ρ => (5 - nv ρ 26 0).toNat }]
def cThN : Con := cThX 141 fnN needV
def ndThN (P : Program) : List NdS := ndThX fnN needV P
def consThN : List Con := [cWo, cCan]
def cThS : Con := cThX 142 fnS spoilV
def ndThS (P : Program) : List NdS := ndThX fnS spoilV P
def consThS : List Con := [cMay, cPutA, cCan]
def e11 : SC := .int .i64 (.lit (.ofNat 11))
def qn (ρ : Env) : List Qa := qsB (li ρ 17) (nBe ρ)
def cNsX (id f : Nat) (S : List Qa → Int → Int → Nat → Prop) : Con := { id := id, f := f, m := 4, args := [sli 16 18, iv 19 0, iv 19 1], ro := [(16, oB 17 16)], fs := fBn' ++ [.eq (.len 81) (.mul (.lit (.ofNat 6)) (nm_ 18 0))] ++ fM 19 0 ++ fM 19 1, pre := fun ρ => pBo ρ ∧ mel ρ 19 0 ∧ mel ρ 19 1 ∧ ((li ρ 17).length : Nat) = 6 * nv ρ 18 0, outs := [
  { n := 0, v := .tup [nil_, e11], rw := [], post := fun ρ => ¬Can (qn ρ) (nv ρ 19 1) (nv ρ 19 0) },
  { id := 1, n := 0, v := .tup [nil_, e0], rw := [], post := fun ρ => Can (qn ρ) (nv ρ 19 1) (nv ρ 19 0) ∧ selL (S (qn ρ) (nv ρ 19 1) (nv ρ 19 0)) (nBe ρ) = [] },
  { id := 2, n := 2, v := .tup [gro 1 20 21, e0], rw := [(20, oI 21 20)], fs := [.le (.lit (.ofNat 1)) (.len 85), leN (.len 85) 4], post := fun ρ => Can (qn ρ) (nv ρ 19 1) (nv ρ 19 0) ∧ selL (S (qn ρ) (nv ρ 19 1) (nv ρ 19 0)) (nBe ρ) = li ρ 21 ∧ 1 ≤ (li ρ 21).length ∧ (li ρ 21).length ≤ 4 }] }
def cNd : Con := cNsX 143 75 needV
def ndNd (P : Program) : List NdS := []
def consNd : List Con := [cCan, cThN]
def cSp : Con := cNsX 144 76 spoilV
def ndSp (P : Program) : List NdS := []
def consSp : List Con := [cCan, cThS]
def qA (L : List Int) (i : Nat) : Qa := (L.getD (5 * i) 0, L.getD (5 * i + 1) 0, L.getD (5 * i + 2) 0, L.getD (5 * i + 3) 0)
def qsA (L : List Int) (n : Nat) : List Qa := (List.range n).map (qA L)
def qa (ρ : Env) : List Qa := qsA (li ρ 17) (nBe ρ)
def fAg : List BE := fA ++ fM 19 0 ++ fM 19 1
def pAg (ρ : Env) : Prop := pA ρ ∧ mel ρ 19 0 ∧ mel ρ 19 1
def cNeX (id f : Nat) (S : List Qa → Int → Int → Nat → Prop) : Con := { id := id, f := f, m := 4, args := [sli 16 18, iv 19 0, iv 19 1], ro := [(16, oA 17 16)], fs := fAg, pre := pAg, outs := [
  { n := 0, v := .tup [nil_, e11], rw := [], post := fun ρ => ¬Can (qa ρ) (nv ρ 19 1) (nv ρ 19 0) },
  { id := 1, n := 0, v := .tup [nil_, e0], rw := [], post := fun ρ => Can (qa ρ) (nv ρ 19 1) (nv ρ 19 0) ∧ selL (S (qa ρ) (nv ρ 19 1) (nv ρ 19 0)) (nBe ρ) = [] },
  { id := 2, n := 2, v := .tup [gro 1 20 21, e0], rw := [(20, oI 21 20)], fs := [.le (.lit (.ofNat 1)) (.len 85), leN (.len 85) 4], post := fun ρ => Can (qa ρ) (nv ρ 19 1) (nv ρ 19 0) ∧ selL (S (qa ρ) (nv ρ 19 1) (nv ρ 19 0)) (nBe ρ) = li ρ 21 ∧ 1 ≤ (li ρ 21).length ∧ (li ρ 21).length ≤ 4 }] }
def cNeed : Con := cNeX 145 33 needV
def ndNeed (P : Program) : List NdS := []
def consNeed : List Con := [cAt1, cNd]
def cSpoil : Con := cNeX 146 34 spoilV
def ndSpoil (P : Program) : List NdS := []
def consSpoil : List Con := [cAt1, cSp]
def cShort : Con := { id := 147, f := 35, m := 4, args := [sli 16 18, iv 19 0, iv 19 1], ro := [(16, oA 17 16)], fs := fAg, pre := pAg, outs := [
  { n := 0, v := .tup [nil_, e11], rw := [], post := fun ρ => ¬Can (qa ρ) (nv ρ 19 1) (nv ρ 19 0) },
  { id := 1, n := 0, v := .tup [nil_, e0], rw := [], post := fun ρ => Can (qa ρ) (nv ρ 19 1) (nv ρ 19 0) },
  { id := 2, n := 4, v := .tup [.slice 20 (.lit (.ofNat 0)) (nm_ 22 0) (nm_ 22 1), e0], rw := [(20, oIr 21 23)], post := fun ρ => Can (qa ρ) (nv ρ 19 1) (nv ρ 19 0) }] }
def ndShort (P : Program) : List NdS := []
def consShort : List Con := [cAt1, cClear]
def hkN (P : Program) : Hk_ := hOr (hApp P) (hOr (hHStore P) (hOr (hMap P) (hOr (hExt (xTA P)) (hOr (hExt (xClear P)) (hInv P)))))
def Xn (P : Program) : Cf := ⟨hkN P, Γ0, 100000⟩
def cNoX (id f : Nat) : Con := { id := id, f := f, m := 1, args := [nil_, iv 16 0, iv 16 1], fs := fM 16 0 ++ fM 16 1, pre := fun ρ => mel ρ 16 0 ∧ mel ρ 16 1, outs := [
  { n := 0, v := .tup [nil_, e11], rw := [], post := fun ρ => ¬Can [] (nv ρ 16 1) (nv ρ 16 0) },
  { id := 1, n := 0, v := .tup [nil_, e0], rw := [], post := fun ρ => Can [] (nv ρ 16 1) (nv ρ 16 0) }] }
def cShortN : Con := cNoX 148 35
def ndShortN (P : Program) : List NdS := []
def consShortN : List Con := []
def cNeedN : Con := cNoX 149 33
def ndNeedN (P : Program) : List NdS := []
def consNeedN : List Con := []
def cSpoilN : Con := cNoX 150 34
def ndSpoilN (P : Program) : List NdS := []
def consSpoilN : List Con := []
def cFoll : Con := { id := 151, f := 36, m := 6, args := [sli 16 18, iv 19 0, .slice 20 (.lit (.ofNat 0)) (.lit (.ofNat 1)) (.lit (.ofNat 1))], ro := [(16, oA 17 16), (20, box3 21)], fs := fA ++ fM 19 0 ++ [ge0 (nm_ 21 0), .lt (nm_ 21 0) (nm_ 18 0)], pre := fun ρ => pA ρ ∧ mel ρ 19 0 ∧ 0 ≤ nv ρ 21 0 ∧ nv ρ 21 0 < nv ρ 18 0, outs := [
  { n := 0, v := .tup [e0, no_], rw := [], post := fun ρ => mayQ (qA (li ρ 17) (nv ρ 21 0).toNat) (nv ρ 19 0) = false },
  { id := 1, n := 1, v := .tup [iv 22 0, yes_], rw := [], fs := fM 22 0, post := fun ρ => mayQ (qA (li ρ 17) (nv ρ 21 0).toNat) (nv ρ 19 0) = true ∧ nv ρ 22 0 = aftQ (qA (li ρ 17) (nv ρ 21 0).toNat) (nv ρ 19 0) ∧ mel ρ 22 0 }] }
def ndFoll (P : Program) : List NdS := []
def consFoll : List Con := []
set_option maxRecDepth 20000
def toC36 : Bd := .ints [(h0 82), (hN 82 1)]
def toC34 : List Bd := [.keep 16, .lst 81, toC36, .keep 21, .ints [(oN 1)]]
def toC25 : List Bd := (vap toC34 [.keep 22, .keep 23])
def toC31 : Bd := .ints [(.quo (.len 87) (oN 6)), (.add (.quo (.len 87) (oN 6)) (.room 22 6))]
def toC8 : List Bd := [.keep 22, .lst 87, toC31, .ints [(h0 83), (h0 83), (h0 83)], .keep 25, .ints [], .ints [(hN 83 1), (oN 63)]]
def toC7 : List Bd := (vap toC8 [.keep 29])
def toC1 : VT := .new (.new (.new (.new (.new (vob cClear toC8 (.both (.new (vsm cClear 0 toC7 (.ret 0 kk19))) (.both (.new (vsm cClear 1 toC7 (.ret 1 kk19))) (.new (.new (.new (.new (.new (vsm cClear 2 (vap toC8 [.keep 29, .keep 30, .keep 31, .keep 32, .keep 33]) (.ret 2 (vap kk19 [.keep 30, .lst 95, .ints [(h0 96), (hN 96 1)], .keep 33])))))))))))))))
def toC0 : VT := .new (vob cAt1 toC34 (.new (.new (vsm cAt1 0 toC25 toC1))))
def toC16 : List Bd := [.keep 22, .lst 87, toC31, .ints [(h0 83), (hN 83 1)]]
def toC11 : List Bd := (vap toC16 [.keep 24, .keep 25])
def toC4 : VT := vob cNd toC16 (.both (vsm cNd 0 toC16 (.ret 0 kk19)) (.both (vsm cNd 1 toC16 (.ret 1 kk19)) (.new (.new (vsm cNd 2 toC11 (.ret 2 (vap kk19 [.keep 24, .lst 89])))))))
def toC2 : VT := .new (vob cAt1 toC34 (.new (.new (vsm cAt1 0 toC25 toC4))))
def toC5 : VT := vob cSp toC16 (.both (vsm cSp 0 toC16 (.ret 0 kk19)) (.both (vsm cSp 1 toC16 (.ret 1 kk19)) (.new (.new (vsm cSp 2 toC11 (.ret 2 (vap kk19 [.keep 24, .lst 89])))))))
def toC3 : VT := .new (vob cAt1 toC34 (.new (.new (vsm cAt1 0 toC25 toC5))))
def toC6 : List Bd := [.ints [(.nth 81 (.mul (h0 90) (oN 6))), (.nth 81 (.add (.mul (h0 90) (oN 6)) (oN 1))), (.nth 81 (.add (.mul (h0 90) (oN 6)) (oN 2))), (.nth 81 (.add (.mul (h0 90) (oN 6)) (oN 3))), (.nth 81 (.add (.mul (h0 90) (oN 6)) (oN 4))), (.nth 81 (.add (.mul (h0 90) (oN 6)) (oN 5)))], .ints [(h0 89)]]
def toC14 : List Bd := [.keep 16, .lst 81, toC36, .keep 25, .keep 20, .keep 21, .keep 22, .keep 24, .keep 26, .ints [(h0 83), (hN 83 1)]]
def toC9 : List Bd := (vap toC14 [.keep 27, .keep 28, .keep 29])
def toC10 : List Bd := (vap toC14 [.keep 27])
def toC15 : List Bd := [.keep 16, .lst 81, toC36, .ints [(h0 85), (h0 85), (h0 85)], .keep 19, .keep 20, .ints [(hN 85 1), (oN 63)]]
def toC12 : List Bd := (vap toC15 [.keep 26])
def toC30 : List Bd := [.keep 16, .lst 81, toC36, .keep 24, .ints [], .ints [(h0 83), (hN 83 1)]]
def toC22 : List Bd := (vap toC30 [.keep 26])
def toC13 : VT := .new (vsm cCan 0 toC22 (.ret 0 kk19))
def toC17 : List Bd := [.keep 23, .lst 86, .ints [(.quo (.len 86) (oN 6)), (.add (.quo (.len 86) (oN 6)) (.room 23 6))], .keep 20, .ints [(h0 83)]]
def toC26 : List Bd := [.keep 30, .lst 95, .ints [(h0 96), (hN 96 1)], .keep 23, .keep 27, .ints [(h0 89), (hN 89 1)]]
def toC18 : List Bd := (vap toC26 [.keep 33])
def toC27 : List Bd := [.keep 32, .lst 97, .ints [(h0 98), (hN 98 1)], .keep 23, .keep 27, .ints [(h0 89), (hN 89 1)]]
def toC19 : List Bd := (vap toC27 [.keep 35])
def toC28 : List Bd := [.keep 16, .lst 81, toC36, .keep 23, .keep 27, .ints [(h0 94), (hN 89 1)]]
def toC20 : List Bd := (vap toC28 [.keep 31])
def toC29 : List Bd := [.keep 16, .lst 81, toC36, .keep 23, .keep 27, .ints [(h0 96), (hN 89 1)]]
def toC21 : List Bd := (vap toC29 [.keep 33])
def toC35 : Bd := .ints [(.nth 81 (.add (.mul (h0 90) (oN 6)) (oN 5)))]
def toC23 : List Bd := [.keep 16, .lst 81, toC36, toC35]
def toC33 : List Bd := [.keep 16, .lst 81, toC36, .keep 21, .ints [(oN 0)]]
def toC24 : List Bd := (vap toC33 [.keep 22, .keep 23])
def toC32 : List Bd := [.keep 16, .lst 81, toC36, .keep 19, .ints [(h0 84)]]
def e_Idx (P : Program) : VT := .jump 0 (vap kk20 [.ints [(oN 0)]]) (ndAt (ndIdx P) 0).items
def n_Idx_0 (P : Program) : VT := .branch (.lt (h0 85) (h0 82)) (.need [(.le (.add (.mul (h0 85) (oN 6)) (oN 6)) (.len 81))] (.new (.branch (.eq (.nth 81 (.add (.mul (h0 85) (oN 6)) (oN 5))) (h0 84)) (.ret 0 (vap kk20 [.ints [(h0 85)]])) (.jump 0 (vap kk20 [.ints [(.add (h0 85) (oN 1))]]) (ndAt (ndIdx P) 0).items)))) (.ret 0 (vap kk20 [.ints [(.lit (-1))]]))
def e_Del (P : Program) : VT := vob cIdx toC32 (.new (vsm cIdx 0 (vap toC32 [.keep 21]) (.branch (.eq (h0 85) (.lit (-1))) (.ret 0 (vap kk20 [.lst 81, .ints [(h0 82)]])) (.jump 0 (vap kk20 [.lst 81, .ints [(h0 85), (.wrap .i64 (.add (h0 85) (oN 1)))]]) (ndAt (ndDel P) 0).items))))
def n_Del_0 (P : Program) : VT := .branch (.lt (hN 86 1) (h0 82)) (.need [(.le (.add (.mul (hN 86 1) (oN 6)) (oN 6)) (.len 85))] (.new (.new (.branch (.not (.eq (.nth 85 (.add (.mul (hN 86 1) (oN 6)) (oN 5))) (h0 84))) (.need [(.lt (h0 86) (h0 82))] (.need [(.le (oN 0) (.mul (h0 86) (oN 6))), (.le (.add (.mul (h0 86) (oN 6)) (oN 6)) (.len 85))] (.new (.asm (putAsm 25 85 (.mul (h0 86) (oN 6)) [(.nth 85 (.mul (hN 86 1) (oN 6))), (.nth 85 (.add (.mul (hN 86 1) (oN 6)) (oN 1))), (.nth 85 (.add (.mul (hN 86 1) (oN 6)) (oN 2))), (.nth 85 (.add (.mul (hN 86 1) (oN 6)) (oN 3))), (.nth 85 (.add (.mul (hN 86 1) (oN 6)) (oN 4))), (.nth 85 (.add (.mul (hN 86 1) (oN 6)) (oN 5)))]) (.jump 0 (vap kk20 [.lst 89, .ints [(.wrap .i64 (.add (h0 86) (oN 1))), (.add (hN 86 1) (oN 1))]]) (ndAt (ndDel P) 0).items))))) (.jump 0 (vap kk20 [.lst 85, .ints [(h0 86), (.add (hN 86 1) (oN 1))]]) (ndAt (ndDel P) 0).items))))) (.need [(.le (h0 86) (h0 82))] (.need [(.le (oN 0) (.mul (.mul (h0 86) (oN 6)) (.min (oN 1) (.sub (hN 82 1) (h0 86))))), (.le (oN 0) (.sub (h0 82) (h0 86))), (.le (.add (.mul (.mul (h0 86) (oN 6)) (.min (oN 1) (.sub (hN 82 1) (h0 86)))) (.mul (.sub (h0 82) (h0 86)) (oN 6))) (.len 85))] (.new (.asm (asmH 17 [23, 85] [(.mul (.mul (h0 86) (oN 6)) (.min (oN 1) (.sub (hN 82 1) (h0 86))))]) (.need [(.le (h0 86) (hN 82 1))] (.ret 0 (vap kk20 [.lst 87, .ints [(h0 86)]])))))))
def e_Wo (P : Program) : VT := .new (.new (.need [(.le (.mul (h0 82) (oN 6)) (.len 81))] (.new (.asm (appAsm 22 (.lits []) (.sub 81 (oN 0) (.mul (h0 82) (oN 6)))) (.new (vob cDel toC17 (.new (.new (vsm cDel 0 (vap toC17 [.keep 24, .keep 25]) (.ret 0 (vap kk19 [.keep 23, .lst 88, .ints [(h0 89), (.add (.quo (.len 86) (oN 6)) (.room 23 6))]])))))))))))
def e_Can (P : Program) : VT := .new (.new (.new (.new (vob cClear toC15 (.both (.new (vsm cClear 0 toC12 (.ret 0 (vap kk21 [.keep 26])))) (.both (.new (vsm cClear 1 toC12 (.ret 1 (vap kk21 [.keep 26])))) (.new (.new (.new (.new (.new (vsm cClear 2 (vap toC15 [.keep 26, .keep 27, .keep 28, .keep 29, .keep 30]) (.ret 1 (vap kk21 [.keep 26]))))))))))))))
def e_ThN (P : Program) : VT := .jump 0 (vap kk25 [.ints [(oN 0)], .keep 24]) (ndAt (ndThN P) 0).items
def n_ThN_0 (P : Program) : VT := .branch (.lt (h0 90) (h0 82)) (.need [(.le (.add (.mul (h0 90) (oN 6)) (oN 6)) (.len 81))] (.new (.new (vob cWo toC23 (.new (.new (.new (vsm cWo 0 (vap toC23 [.keep 30, .keep 31, .keep 32]) (vob cCan toC26 (.both (.new (vsm cCan 0 toC18 (.new (.new (.jump 1 (vap kk25 [.ints [(.add (h0 90) (oN 1))], .keep 33, .keep 35, toC35]) (ndAt (ndThN P) 1).items))))) (.new (vsm cCan 1 toC18 (.jump 0 (vap kk25 [.ints [(.add (h0 90) (oN 1))], .keep 33]) (ndAt (ndThN P) 0).items))))))))))))) (.ret 0 (vap kk25 [.keep 27]))
def n_ThN_1 (P : Program) : VT := .branch (.lt (h0 90) (h0 82)) (.need [(.le (.add (.mul (h0 90) (oN 6)) (oN 6)) (.len 81))] (.new (.new (vob cWo toC23 (.new (.new (.new (vsm cWo 0 (vap toC23 [.keep 32, .keep 33, .keep 34]) (vob cCan toC27 (.both (.new (vsm cCan 0 toC19 (.new (.new (.asm (appAsm 37 (.whole 93) (.lits [(.nth 81 (.add (.mul (h0 90) (oN 6)) (oN 5)))])) (.new (.jump 1 (vap kk25 [.ints [(.add (h0 90) (oN 1))], .keep 35, .keep 38, .lst 101]) (ndAt (ndThN P) 1).items))))))) (.new (vsm cCan 1 toC19 (.jump 1 (vap kk25 [.ints [(.add (h0 90) (oN 1))], .keep 35, .keep 28, .lst 93]) (ndAt (ndThN P) 1).items))))))))))))) (.ret 1 (vap kk25 [.keep 27, .keep 28, .lst 93]))
def e_ThS (P : Program) : VT := .jump 0 (vap kk25 [.ints [(oN 0)], .keep 24]) (ndAt (ndThS P) 0).items
def n_ThS_0 (P : Program) : VT := .branch (.lt (h0 90) (h0 82)) (.need [(.le (.add (.mul (h0 90) (oN 6)) (oN 6)) (.len 81))] (.new (.new (vob cMay toC6 (.both (vsm cMay 0 toC6 (vob cPutA toC6 (.new (vsm cPutA 0 (vap toC6 [.keep 30]) (vob cCan toC28 (.both (.new (vsm cCan 0 toC20 (.new (.new (.jump 1 (vap kk25 [.ints [(.add (h0 90) (oN 1))], .keep 31, .keep 33, toC35]) (ndAt (ndThS P) 1).items))))) (.new (vsm cCan 1 toC20 (.jump 0 (vap kk25 [.ints [(.add (h0 90) (oN 1))], .keep 31]) (ndAt (ndThS P) 0).items))))))))) (vsm cMay 1 toC6 (.jump 0 (vap kk25 [.ints [(.add (h0 90) (oN 1))], .keep 27]) (ndAt (ndThS P) 0).items))))))) (.ret 0 (vap kk25 [.keep 27]))
def n_ThS_1 (P : Program) : VT := .branch (.lt (h0 90) (h0 82)) (.need [(.le (.add (.mul (h0 90) (oN 6)) (oN 6)) (.len 81))] (.new (.new (vob cMay toC6 (.both (vsm cMay 0 toC6 (vob cPutA toC6 (.new (vsm cPutA 0 (vap toC6 [.keep 32]) (vob cCan toC29 (.both (.new (vsm cCan 0 toC21 (.new (.new (.asm (appAsm 35 (.whole 93) (.lits [(.nth 81 (.add (.mul (h0 90) (oN 6)) (oN 5)))])) (.new (.jump 1 (vap kk25 [.ints [(.add (h0 90) (oN 1))], .keep 33, .keep 36, .lst 99]) (ndAt (ndThS P) 1).items))))))) (.new (vsm cCan 1 toC21 (.jump 1 (vap kk25 [.ints [(.add (h0 90) (oN 1))], .keep 33, .keep 28, .lst 93]) (ndAt (ndThS P) 1).items))))))))) (vsm cMay 1 toC6 (.jump 1 (vap kk25 [.ints [(.add (h0 90) (oN 1))], .keep 27, .keep 28, .lst 93]) (ndAt (ndThS P) 1).items))))))) (.ret 1 (vap kk25 [.keep 27, .keep 28, .lst 93]))
def e_Nd (P : Program) : VT := .new (.new (.new (.new (.new (.new (vob cCan toC30 (.both toC13 (.new (vsm cCan 1 toC22 (vob cThN toC14 (.both (.new (vsm cThN 0 toC10 (.ret 1 kk19))) (.new (.new (.new (vsm cThN 1 toC9 (.ret 2 (vap kk19 [.keep 28, .lst 93])))))))))))))))))
def e_Sp (P : Program) : VT := .new (.new (.new (.new (.new (.new (vob cCan toC30 (.both toC13 (.new (vsm cCan 1 toC22 (vob cThS toC14 (.both (.new (vsm cThS 0 toC10 (.ret 1 kk19))) (.new (.new (.new (vsm cThS 1 toC9 (.ret 2 (vap kk19 [.keep 28, .lst 93])))))))))))))))))
def e_Need (P : Program) : VT := .new (.branch (.not (.eq (.bits .andNot .i64 (h0 83) (oN 63)) (oN 0))) toC2 (.branch (.not (.eq (.bits .andNot .i64 (hN 83 1) (oN 63)) (oN 0))) toC2 (.new (vob cAt1 toC33 (.new (.new (vsm cAt1 0 toC24 toC4)))))))
def e_Spoil (P : Program) : VT := .new (.branch (.not (.eq (.bits .andNot .i64 (h0 83) (oN 63)) (oN 0))) toC3 (.branch (.not (.eq (.bits .andNot .i64 (hN 83 1) (oN 63)) (oN 0))) toC3 (.new (vob cAt1 toC33 (.new (.new (vsm cAt1 0 toC24 toC5)))))))
def e_Short (P : Program) : VT := .new (.branch (.not (.eq (.bits .andNot .i64 (h0 83) (oN 63)) (oN 0))) toC0 (.branch (.not (.eq (.bits .andNot .i64 (hN 83 1) (oN 63)) (oN 0))) toC0 (.new (vob cAt1 toC33 (.new (.new (vsm cAt1 0 toC24 toC1)))))))
def e_Foll (P : Program) : VT := .branch (.lt (h0 85) (oN 0)) (.ret 0 kk21) (.need [(.le (oN 0) (.mul (h0 85) (oN 5))), (.le (.add (.mul (h0 85) (oN 5)) (oN 5)) (.len 81))] (.new (.branch (.not (.eq (.bits .and .i64 (h0 83) (.nth 81 (.mul (h0 85) (oN 5)))) (.nth 81 (.mul (h0 85) (oN 5))))) (.ret 0 kk21) (.branch (.not (.eq (.bits .and .i64 (h0 83) (.nth 81 (.add (.mul (h0 85) (oN 5)) (oN 1)))) (oN 0))) (.ret 0 kk21) (.ret 1 (vap kk21 [.ints [(.bits .or .i64 (.bits .andNot .i64 (h0 83) (.nth 81 (.add (.mul (h0 85) (oN 5)) (oN 2)))) (.nth 81 (.add (.mul (h0 85) (oN 5)) (oN 3))))]]))))))
def toD1 : VT := .new (.new (.new (.new (.new (.new (.new (.new (.new (.new (.new (.new (.new (.new (.new (.new (.new (.new (.new (.new (.new (.new (.new (.new (.new (.new (.branch (.pick (.eq (.bits .andNot .i64 (h0 80) (hN 80 1)) (oN 0)) (.pick (.eq (.bits .andNot .i64 (h0 80) (hN 80 1)) (oN 0)) (.pick (.eq (.bits .andNot .i64 (h0 80) (hN 80 1)) (oN 0)) (.lit true) (.lit false)) (.lit false)) (.lit false)) (.ret 1 [.keep 16]) (.new (.new (.new (.ret 0 [.keep 16]))))))))))))))))))))))))))))))
def toD0 : VT := .new (.branch (.not (.eq (.bits .andNot .i64 (h0 80) (oN 63)) (oN 0))) (.new (.new (.bad 1))) (.branch (.not (.eq (.bits .andNot .i64 (hN 80 1) (oN 63)) (oN 0))) (.new (.new (.bad 1))) (.new (.new (.new (.new (.new toD1)))))))
def e_ShortN (P : Program) : VT := .new (.branch (.not (.eq (.bits .andNot .i64 (h0 80) (oN 63)) (oN 0))) (.new (.new (.bad 1))) (.branch (.not (.eq (.bits .andNot .i64 (hN 80 1) (oN 63)) (oN 0))) (.new (.new (.bad 1))) toD1))
def e_NeedN (P : Program) : VT := toD0
def e_SpoilN (P : Program) : VT := toD0
def toB1 : List Bd := [.keep 16, .lst 81, .ints [(h0 82), (hN 82 1)], .ints [(h0 83), (hN 83 1), (hN 83 2)], .keep 33, .keep 32, .keep 29, .keep 20, .keep 21, .keep 31, .keep 30, .keep 25, .ints [(h0 86), (hN 86 1)], .keep 26, .keep 27, .keep 28, .keep 23, .keep 24]
def toB0 : List Bd := (vap toB1 [.keep 34])
def toB2 : List Bd := [.keep 16, .lst 81, .ints [(h0 82), (hN 82 1)], .ints [(h0 103), (hN 103 1), (hN 103 2)], .keep 34, .keep 35, .ints [(h0 100), (hN 100 1), (hN 100 2)], .keep 37, .keep 40, .lst 105, .ints [(h0 106), (hN 106 1)], .keep 44]
def toB3 : List Bd := [.keep 16, .lst 81, .ints [(h0 82), (hN 82 1)], .ints [(h0 103), (hN 103 1), (hN 103 2)], .keep 34, .keep 35, .ints [(h0 100), (hN 100 1), (hN 100 2)], .keep 37]
def e_Ways (P : Program) : VT := .new (.new (.new (.obl (oblH 11 [3, 0] [(oN 0), (oN 0), (oN 0)]) (.new (.new (.new (.asm (asmH 11 [3, 3, 0, 37, 0, 0, 0, 0] [(oN 0), (oN 0), (oN 0), (oN 0), (oN 0), (h0 83), (hN 83 1), (hN 83 2)]) (.new (.branch (.eq (hN 101 1) (oN 0)) (.need [(.le (oN 0) (hN 101 1))] (.new (.jump 2 (vap kk34 [.ints [], .keep 41]) (ndAt (ndWays P) 2).items))) (.obl (oblH 10 [3, 3, 39, 39] [(h0 101)]) (.new (.new (.new (.new (.new (.new (.asm (asmH 16 [3, 3, 39, 39, 41] [(h0 101)]) (.branch (.eq (hN 105 3) (oN 1)) (.need [(.le (oN 0) (hN 101 1))] (.need [(.le (oN 0) (h0 101)), (.lt (oN 0) (hN 101 1))] (.need [(.le (oN 0) (h0 101)), (.le (oN 0) (hN 101 1)), (.le (hN 101 1) (hN 101 2)), (.le (oN 1) (hN 101 1))] (.need [(.le (oN 0) (h0 101)), (.le (oN 0) (hN 101 1)), (.le (hN 101 1) (hN 101 2)), (.le (oN 1) (hN 101 1))] (.obl (oblH 15 [41, 3, 1, 46, 45, 39] [(h0 101)]) (.new (.asm (asmH 15 [47] [(.add (h0 101) (.mul (oN 4) (.min (oN 1) (.sub (hN 101 2) (oN 1))))), (.sub (hN 101 1) (oN 1)), (.sub (hN 101 2) (oN 1))]) (.new (.jump 1 (vap kk34 [.keep 39, .ints [(h0 111), (hN 111 1), (hN 111 2)], .keep 38, .keep 48, .ints [(h0 105), (hN 105 1), (hN 105 2)], .ints []]) (ndAt (ndWays P) 1).items))))))))) (.need [(.le (oN 0) (hN 101 1))] (.need [(.le (oN 0) (h0 101)), (.lt (oN 0) (hN 101 1))] (.need [(.le (oN 0) (h0 101)), (.le (oN 0) (hN 101 1)), (.le (hN 101 1) (hN 101 2)), (.le (oN 1) (hN 101 1))] (.need [(.le (oN 0) (h0 101)), (.le (oN 0) (hN 101 1)), (.le (hN 101 1) (hN 101 2)), (.le (oN 1) (hN 101 1))] (.obl (oblH 15 [41, 3, 0, 46, 45, 39] [(h0 101)]) (.new (.asm (asmH 15 [47] [(.add (h0 101) (.mul (oN 4) (.min (oN 1) (.sub (hN 101 2) (oN 1))))), (.sub (hN 101 1) (oN 1)), (.sub (hN 101 2) (oN 1))]) (.new (.jump 0 (vap kk34 [.keep 39, .ints [(h0 111), (hN 111 1), (hN 111 2)], .keep 43, .keep 48, .ints [(h0 105), (hN 105 1), (hN 105 2)], .keep 44, .lst 108, .ints [(hN 105 4), (hN 105 5)], .ints [], .keep 42]) (ndAt (ndWays P) 0).items)))))))))))))))))))))))))))
def n_Ways_0 (P : Program) : VT := .obl (oblH 12 [3, 43] []) (.new (.asm (asmH 12 [43, 45] [(h0 103), (hN 103 1), (hN 103 2)]) (.branch (.eq (h0 109) (oN 1)) (.new (.new (.branch (.eq (hN 100 1) (oN 0)) (.jump 2 (vap kk34 [.keep 43, .keep 46]) (ndAt (ndWays P) 2).items) (.obl (oblH 10 [3, 3, 35, 38] [(h0 100)]) (.new (.new (.new (.new (.new (.new (.asm (asmH 16 [3, 3, 35, 38, 48] [(h0 100)]) (.branch (.eq (hN 112 3) (oN 1)) (.need [(.lt (oN 0) (hN 100 1))] (.need [(.le (oN 1) (hN 100 1))] (.need [(.le (oN 1) (hN 100 1))] (.obl (oblH 15 [48, 3, 1, 53, 52, 35] [(h0 100)]) (.new (.asm (asmH 15 [54] [(.add (h0 100) (.mul (oN 4) (.min (oN 1) (.sub (hN 100 2) (oN 1))))), (.sub (hN 100 1) (oN 1)), (.sub (hN 100 2) (oN 1))]) (.jump 1 (vap kk35 [.ints [(h0 118), (hN 118 1), (hN 118 2)], .keep 37, .keep 46, .ints [(h0 112), (hN 112 1), (hN 112 2)], .keep 43]) (ndAt (ndWays P) 1).items))))))) (.need [(.lt (oN 0) (hN 100 1))] (.need [(.le (oN 1) (hN 100 1))] (.need [(.le (oN 1) (hN 100 1))] (.obl (oblH 15 [48, 3, 0, 53, 52, 35] [(h0 100)]) (.new (.asm (asmH 15 [54] [(.add (h0 100) (.mul (oN 4) (.min (oN 1) (.sub (hN 100 2) (oN 1))))), (.sub (hN 100 1) (oN 1)), (.sub (hN 100 2) (oN 1))]) (.jump 0 (vap kk35 [.ints [(h0 118), (hN 118 1), (hN 118 2)], .keep 50, .keep 46, .ints [(h0 112), (hN 112 1), (hN 112 2)], .keep 51, .lst 115, .ints [(hN 112 4), (hN 112 5)], .keep 43, .keep 49]) (ndAt (ndWays P) 0).items))))))))))))))))))) (.obl (oblH 13 [3, 44] [(h0 103), (hN 103 1), (hN 103 2)]) (.new (.asm (asmH 13 [44, 46] [(h0 103), (hN 103 1), (hN 103 2)]) (.new (.branch (.lt (hN 92 1) (h0 106)) (.ret 1 (vap kk33 [.keep 46])) (.new (.branch (.pick (.eq (.bits .andNot .i64 (h0 103) (h0 92)) (oN 0)) (.pick (.eq (.bits .andNot .i64 (hN 103 1) (h0 92)) (oN 0)) (.pick (.eq (.bits .andNot .i64 (hN 103 2) (h0 92)) (oN 0)) (.lit true) (.lit false)) (.lit false)) (.lit false)) (.ret 3 (vap kk33 [.keep 46, .keep 40, .lst 105, .ints [(h0 106), (hN 106 1)], .keep 44])) (vob cFur toB2 (.new (.new (.new (vsm cFur 0 (vap toB2 [.keep 49, .keep 50, .keep 51]) (.new (.new (.branch (.eq (hN 114 1) (oN 0)) (.jump 2 (vap kk34 [.keep 46, .keep 52]) (ndAt (ndWays P) 2).items) (.obl (oblH 10 [3, 3, 49, 52] [(h0 114)]) (.new (.new (.new (.new (.new (.new (.asm (asmH 16 [3, 3, 49, 52, 54] [(h0 114)]) (.branch (.eq (hN 118 3) (oN 1)) (.need [(.lt (oN 0) (hN 114 1))] (.need [(.le (oN 1) (hN 114 1))] (.need [(.le (oN 1) (hN 114 1))] (.obl (oblH 15 [54, 3, 1, 59, 58, 49] [(h0 114)]) (.new (.asm (asmH 15 [60] [(.add (h0 114) (.mul (oN 4) (.min (oN 1) (.sub (hN 114 2) (oN 1))))), (.sub (hN 114 1) (oN 1)), (.sub (hN 114 2) (oN 1))]) (.jump 1 (vap kk34 [.keep 49, .ints [(h0 124), (hN 124 1), (hN 124 2)], .keep 51, .keep 52, .ints [(h0 118), (hN 118 1), (hN 118 2)], .keep 46]) (ndAt (ndWays P) 1).items))))))) (.need [(.lt (oN 0) (hN 114 1))] (.need [(.le (oN 1) (hN 114 1))] (.need [(.le (oN 1) (hN 114 1))] (.obl (oblH 15 [54, 3, 0, 59, 58, 49] [(h0 114)]) (.new (.asm (asmH 15 [60] [(.add (h0 114) (.mul (oN 4) (.min (oN 1) (.sub (hN 114 2) (oN 1))))), (.sub (hN 114 1) (oN 1)), (.sub (hN 114 2) (oN 1))]) (.jump 0 (vap kk34 [.keep 49, .ints [(h0 124), (hN 124 1), (hN 124 2)], .keep 56, .keep 52, .ints [(h0 118), (hN 118 1), (hN 118 2)], .keep 57, .lst 121, .ints [(hN 118 4), (hN 118 5)], .keep 46, .keep 55]) (ndAt (ndWays P) 0).items))))))))))))))))))))))))))))))))))
def n_Ways_1 (P : Program) : VT := .obl (oblH 12 [3, 40] []) (.new (.asm (asmH 12 [40, 41] [(h0 103), (hN 103 1), (hN 103 2)]) (.branch (.eq (h0 105) (oN 1)) (.new (.new (.branch (.eq (hN 100 1) (oN 0)) (.jump 2 (vap kk34 [.keep 40, .keep 42]) (ndAt (ndWays P) 2).items) (.obl (oblH 10 [3, 3, 35, 38] [(h0 100)]) (.new (.new (.new (.new (.new (.new (.asm (asmH 16 [3, 3, 35, 38, 44] [(h0 100)]) (.branch (.eq (hN 108 3) (oN 1)) (.need [(.lt (oN 0) (hN 100 1))] (.need [(.le (oN 1) (hN 100 1))] (.need [(.le (oN 1) (hN 100 1))] (.obl (oblH 15 [44, 3, 1, 49, 48, 35] [(h0 100)]) (.new (.asm (asmH 15 [50] [(.add (h0 100) (.mul (oN 4) (.min (oN 1) (.sub (hN 100 2) (oN 1))))), (.sub (hN 100 1) (oN 1)), (.sub (hN 100 2) (oN 1))]) (.jump 1 (vap kk35 [.ints [(h0 114), (hN 114 1), (hN 114 2)], .keep 37, .keep 42, .ints [(h0 108), (hN 108 1), (hN 108 2)], .keep 40]) (ndAt (ndWays P) 1).items))))))) (.need [(.lt (oN 0) (hN 100 1))] (.need [(.le (oN 1) (hN 100 1))] (.need [(.le (oN 1) (hN 100 1))] (.obl (oblH 15 [44, 3, 0, 49, 48, 35] [(h0 100)]) (.new (.asm (asmH 15 [50] [(.add (h0 100) (.mul (oN 4) (.min (oN 1) (.sub (hN 100 2) (oN 1))))), (.sub (hN 100 1) (oN 1)), (.sub (hN 100 2) (oN 1))]) (.jump 0 (vap kk35 [.ints [(h0 114), (hN 114 1), (hN 114 2)], .keep 46, .keep 42, .ints [(h0 108), (hN 108 1), (hN 108 2)], .keep 47, .lst 111, .ints [(hN 108 4), (hN 108 5)], .keep 40, .keep 45]) (ndAt (ndWays P) 0).items))))))))))))))))))) (.obl (oblH 13 [3, 41] [(h0 103), (hN 103 1), (hN 103 2)]) (.new (.asm (asmH 13 [41, 42] [(h0 103), (hN 103 1), (hN 103 2)]) (.new (.new (.branch (.pick (.eq (.bits .andNot .i64 (h0 103) (h0 92)) (oN 0)) (.pick (.eq (.bits .andNot .i64 (hN 103 1) (h0 92)) (oN 0)) (.pick (.eq (.bits .andNot .i64 (hN 103 2) (h0 92)) (oN 0)) (.lit true) (.lit false)) (.lit false)) (.lit false)) (.ret 2 (vap kk33 [.keep 42])) (vob cFurN toB3 (.new (.new (.new (vsm cFurN 0 (vap toB3 [.keep 45, .keep 46, .keep 47]) (.new (.new (.branch (.eq (hN 110 1) (oN 0)) (.jump 2 (vap kk34 [.keep 42, .keep 48]) (ndAt (ndWays P) 2).items) (.obl (oblH 10 [3, 3, 45, 48] [(h0 110)]) (.new (.new (.new (.new (.new (.new (.asm (asmH 16 [3, 3, 45, 48, 50] [(h0 110)]) (.branch (.eq (hN 114 3) (oN 1)) (.need [(.lt (oN 0) (hN 110 1))] (.need [(.le (oN 1) (hN 110 1))] (.need [(.le (oN 1) (hN 110 1))] (.obl (oblH 15 [50, 3, 1, 55, 54, 45] [(h0 110)]) (.new (.asm (asmH 15 [56] [(.add (h0 110) (.mul (oN 4) (.min (oN 1) (.sub (hN 110 2) (oN 1))))), (.sub (hN 110 1) (oN 1)), (.sub (hN 110 2) (oN 1))]) (.jump 1 (vap kk34 [.keep 45, .ints [(h0 120), (hN 120 1), (hN 120 2)], .keep 47, .keep 48, .ints [(h0 114), (hN 114 1), (hN 114 2)], .keep 42]) (ndAt (ndWays P) 1).items))))))) (.need [(.lt (oN 0) (hN 110 1))] (.need [(.le (oN 1) (hN 110 1))] (.need [(.le (oN 1) (hN 110 1))] (.obl (oblH 15 [50, 3, 0, 55, 54, 45] [(h0 110)]) (.new (.asm (asmH 15 [56] [(.add (h0 110) (.mul (oN 4) (.min (oN 1) (.sub (hN 110 2) (oN 1))))), (.sub (hN 110 1) (oN 1)), (.sub (hN 110 2) (oN 1))]) (.jump 0 (vap kk34 [.keep 45, .ints [(h0 120), (hN 120 1), (hN 120 2)], .keep 52, .keep 48, .ints [(h0 114), (hN 114 1), (hN 114 2)], .keep 53, .lst 117, .ints [(hN 114 4), (hN 114 5)], .keep 42, .keep 51]) (ndAt (ndWays P) 0).items)))))))))))))))))))))))))))))))))
def n_Ways_2 (P : Program) : VT := .ret 0 (vap kk33 [.keep 35])
noncomputable def e_Clear (P : Program) : VT := .new (.new (.new (.new (.new (.new (.new (.new (.new (.new (.new (vob cWays toB1 (.both (.new (vsm cWays 0 toB0 (.ret 0 (vap kk22 [.keep 34])))) (.both (.new (vsm cWays 1 toB0 (.ret 0 (vap kk22 [.keep 34])))) (.both (.new (vsm cWays 2 toB0 (.ret 1 (vap kk22 [.keep 34])))) (.new (.new (.new (.new (.new (vsm cWays 3 (vap toB1 [.keep 34, .keep 35, .keep 36, .keep 37, .keep 38]) (.ret 2 (vap kk22 [.keep 34, .keep 35, .lst 100, .ints [(h0 101), (hN 101 1)], .keep 38]))))))))))))))))))))))
def toA3 : Bd := .ints [(.nth 81 (.mul (h0 93) (oN 6))), (.nth 81 (.add (.mul (h0 93) (oN 6)) (oN 1))), (.nth 81 (.add (.mul (h0 93) (oN 6)) (oN 2))), (.nth 81 (.add (.mul (h0 93) (oN 6)) (oN 3))), (.nth 81 (.add (.mul (h0 93) (oN 6)) (oN 4))), (.nth 81 (.add (.mul (h0 93) (oN 6)) (oN 5)))]
def toA0 : List Bd := [.ints [(h0 83), (hN 83 1), (hN 83 2)], toA3, .keep 24, .lst 89, .ints [(h0 90), (hN 90 1)], .keep 27]
def toA1 : List Bd := [.ints [(h0 83), (hN 83 1), (hN 83 2)], toA3]
def toA2 : List Bd := [.ints [(h0 83), (hN 83 1), (hN 83 2)], .ints [(.nth 81 (.mul (h0 89) (oN 6))), (.nth 81 (.add (.mul (h0 89) (oN 6)) (oN 1))), (.nth 81 (.add (.mul (h0 89) (oN 6)) (oN 2))), (.nth 81 (.add (.mul (h0 89) (oN 6)) (oN 3))), (.nth 81 (.add (.mul (h0 89) (oN 6)) (oN 4))), (.nth 81 (.add (.mul (h0 89) (oN 6)) (oN 5)))]]
def toA4 : List Bd := [.ints [(h0 81), (hN 81 1), (hN 81 2), (hN 81 3), (hN 81 4), (hN 81 5)], .ints [(hN 80 1)]]
def toA5 : List Bd := [.ints [(h0 81), (hN 81 1), (hN 81 2), (hN 81 3), (hN 81 4), (hN 81 5)], .ints [(hN 80 2)]]
def toA6 : List Bd := [.ints [(h0 81), (hN 81 1), (hN 81 2), (hN 81 3), (hN 81 4), (hN 81 5)], .ints [(h0 80)]]
def toA7 : List Bd := [.ints [(oN 0)], .keep 21, .ints [(h0 86), (hN 86 1), (hN 86 2)], .keep 23]
def e_Aft (P : Program) : VT := .new (.new (.new (vob cMay toA6 (.both (vsm cMay 0 toA6 (vob cPutA toA6 (.new (vsm cPutA 0 (vap toA6 [.keep 21]) (vob cMay toA4 (.both (vsm cMay 0 toA4 (vob cPutA toA4 (.new (vsm cPutA 0 (vap toA4 [.keep 22]) (vob cMay toA5 (.both (vsm cMay 0 toA5 (vob cPutA toA5 (.new (vsm cPutA 0 (vap toA5 [.keep 23]) (.ret 1 [.keep 16, .keep 17, .ints [(h0 85), (h0 86), (h0 87)]]))))) (vsm cMay 1 toA5 (.ret 0 [.keep 16, .keep 17])))))))) (vsm cMay 1 toA4 (.ret 0 [.keep 16, .keep 17])))))))) (vsm cMay 1 toA6 (.ret 0 [.keep 16, .keep 17]))))))
def e_ThenN (P : Program) : VT := .new (.new (.new (.new (.new (.asm (asmH 14 [22, 1] [(oN 1)]) (.new (.new (.ret 0 [.keep 16, .keep 17, .keep 24, .ints [(hN 81 5)]]))))))))
def e_Then (P : Program) : VT := .new (.new (.new (.new (.new (.asm (asmH 14 [26, 1] [(.sub (.add (h0 84) (oN 1)) (oN 0))]) (.need [(.le (h0 84) (.len 83))] (.new (.asm (appAsm 27 (.lits []) (.sub 83 (oN 0) (h0 84))) (.new (.need [(.le (.add (.len 91) (oN 1)) (oN 17592186044320))] (.new (.asm (appAsm 29 (.whole 91) (.lits [(hN 81 5)])) (.new (.ret 0 (vap kk21 [.keep 30, .lst 93])))))))))))))))
def e_Fur (P : Program) : VT := .new (.jump 0 (vap kk28 toA7) (ndAt (ndFur P) 0).items)
def n_Fur_0 (P : Program) : VT := .branch (.lt (h0 93) (h0 82)) (.need [(.le (.add (.mul (h0 93) (oN 6)) (oN 6)) (.len 81))] (.new (vob cAft toA1 (.both (vsm cAft 0 toA1 (.new (.jump 0 (vap kk28 [.ints [(.add (h0 93) (oN 1))], .keep 30, .ints [(h0 95), (hN 95 1), (hN 95 2)], .keep 32]) (ndAt (ndFur P) 0).items))) (.new (vsm cAft 1 (vap toA1 [.keep 34]) (.new (vob cThen toA0 (.new (.new (vsm cThen 0 (vap toA0 [.keep 36, .keep 37]) (.new (.new (.obl (oblH 11 [3, 31] [(h0 95), (hN 95 1), (hN 95 2)]) (.new (.new (.new (.asm (asmH 11 [3, 3, 33, 40, 31, 37, 101, 36] [(h0 95), (hN 95 1), (hN 95 2), (.len 101), (.add (.len 101) (.room 36 1)), (h0 98), (hN 98 1), (hN 98 2)]) (.jump 0 (vap kk28 [.ints [(.add (h0 93) (oN 1))], .keep 42, .ints [(h0 104), (hN 104 1), (hN 104 2)], .keep 41]) (ndAt (ndFur P) 0).items))))))))))))))))))) (.ret 0 (vap kk27 [.keep 30, .ints [(h0 95), (hN 95 1), (hN 95 2)], .keep 32]))
def e_FurN (P : Program) : VT := .new (.jump 0 (vap kk24 toA7) (ndAt (ndFurN P) 0).items)
def n_FurN_0 (P : Program) : VT := .branch (.lt (h0 89) (h0 82)) (.need [(.le (.add (.mul (h0 89) (oN 6)) (oN 6)) (.len 81))] (.new (vob cAft toA2 (.both (vsm cAft 0 toA2 (.new (.jump 0 (vap kk24 [.ints [(.add (h0 89) (oN 1))], .keep 26, .ints [(h0 91), (hN 91 1), (hN 91 2)], .keep 28]) (ndAt (ndFurN P) 0).items))) (.new (vsm cAft 1 (vap toA2 [.keep 30]) (.new (vob cThenN toA2 (.new (.new (vsm cThenN 0 (vap toA2 [.keep 32, .keep 33]) (.new (.new (.obl (oblH 11 [3, 27] [(h0 91), (hN 91 1), (hN 91 2)]) (.new (.new (.new (.asm (asmH 11 [3, 3, 29, 36, 27, 33, 97, 32] [(h0 91), (hN 91 1), (hN 91 2), (.len 97), (.add (.len 97) (.room 32 1)), (h0 94), (hN 94 1), (hN 94 2)]) (.jump 0 (vap kk24 [.ints [(.add (h0 89) (oN 1))], .keep 38, .ints [(h0 100), (hN 100 1), (hN 100 2)], .keep 37]) (ndAt (ndFurN P) 0).items))))))))))))))))))) (.ret 0 (vap kk23 [.keep 26, .ints [(h0 91), (hN 91 1), (hN 91 2)], .keep 28]))
theorem v_Aft (P : Program) : V0 cAft (ndAft P) 18 (e_Aft P) := fun ρ hv hΓ hl hp => by
 simp only [VC, oblC, asmC, outAt, ndAt, allTrue, ve, BE.den, LX.den, nv, tT, e_Aft, toA5, toA4, toA6, vob, vsm, vap, cAft, cMay, cMay0, cPutA, Con.split, oMay0, mel, mel3, agF, may3, aft3] at hp ⊢
 simp only [vb, bdList, hl, IE.den, forall_eq', implies_true, reduceIte, reduceCtorEq, Nat.reduceAdd, Nat.reduceSub, Nat.reduceLeDiff, Nat.reduceLT, Nat.reduceEqDiff] at hp ⊢
 obtain ⟨⟨m0, m1, m2⟩, f1, f2⟩ := hp
 intro _ _ _ _ _ _
 refine ⟨m0, fun h0 => ⟨⟨m0, h0, f1, f2⟩, fun _ r1 => ?_⟩, fun h0 h => ?_⟩
 ·generalize (List.map intOf r1).getD 0 0 = a0
  rintro ⟨rfl, a1⟩
  refine ⟨m1, fun h1 => ⟨⟨m1, h1, f1, f2⟩, fun _ r2 => ?_⟩, fun h1 h => ?_⟩
  ·generalize (List.map intOf r2).getD 0 0 = b0
   rintro ⟨rfl, b1⟩
   refine ⟨m2, fun h2 => ⟨⟨m2, h2, f1, f2⟩, fun _ r3 => ?_⟩, fun h2 h => ?_⟩
   ·generalize (List.map intOf r3).getD 0 0 = c0
    rintro ⟨rfl, c1⟩
    exact ⟨⟨h0, h1, h2⟩, ⟨rfl, rfl, rfl⟩, a1, b1, c1⟩
   ·rw [h.2.2] at h2; cases h2
  ·rw [h.2.1] at h1; cases h1
 ·rw [h.1] at h0; cases h0
theorem v_ThenN (P : Program) : V0 cThenN (ndThenN P) 18 (e_ThenN P) := fun ρ hv hΓ hl hp => by
 simp only [VC, outAt, ndAt, allTrue, ve, BE.den, LX.den, nv, li, tT, e_ThenN, cThenN, asmH, growAsm, growB] at hp ⊢
 simp only [vb, bdList, hl, IE.den, forall_eq', implies_true, reduceIte, reduceCtorEq, Nat.reduceAdd, Nat.reduceSub, Nat.reduceLeDiff, Nat.reduceLT, Nat.reduceEqDiff] at hp ⊢
theorem v_Then (P : Program) : V0 cThen (ndThen P) 22 (e_Then P) := fun ρ hv hΓ hl hp => by
 simp only [VC, appAsm, outAt, ndAt, allTrue, ve, BE.den, LX.den, nv, li, tT, e_Then, kk21, vap, cThen, asmH, growAsm, growB] at hp ⊢
 simp only [vb, bdList, hl, IE.den, forall_eq', implies_true, reduceIte, reduceCtorEq, Nat.reduceAdd, Nat.reduceSub, Nat.reduceLeDiff, Nat.reduceLT, Nat.reduceEqDiff] at hp ⊢
 obtain ⟨p1, p2, p3⟩ := hp
 intro _ _ _ _ _ _ _ _ _ _ _
 refine ⟨by omega, fun _ r e1 _ _ => ⟨?_, fun _ r2 e2 _ _ => ?_⟩⟩
 ·have := congrArg List.length e1
  simp only [List.nil_append, List.length_take, List.length_drop] at this
  omega
 ·refine ⟨?_, by omega⟩
  rw [e2, e1, List.nil_append]
  congr 1
  rw [show Int.toNat 0 = 0 from rfl, List.drop_zero, List.take_of_length_le (by omega)]
theorem v_Fur (P : Program) : V0 cFur (ndFur P) 28 (e_Fur P) := fun ρ hv hΓ hl hp => by
 simp only [VC, outAt, ndAt, allTrue, ve, BE.den, LX.den, nv, li, tT, e_Fur, toA7, kk28, vap, ndFur, cFur, pFur, pBn, mel, mel3, qNum, Qmore, live, nBe, s3] at hp ⊢
 simp only [vb, qaa, bdRest, bdList, hl, IE.den, forall_eq', implies_true, reduceIte, reduceCtorEq, Nat.reduceAdd, Nat.reduceSub, Nat.reduceLeDiff, Nat.reduceLT, Nat.reduceEqDiff] at hp ⊢
 obtain ⟨p1, p2⟩ := hp
 intro _ _
 obtain ⟨⟨b0, b1, b2, b3⟩, m, q, l1, l2⟩ := p1
 refine ⟨⟨⟨b0, b1, b2, b3⟩, m, q, l1, l2⟩, p2, ⟨by omega, by omega⟩, q, by omega, fun A h => ?_⟩
 rw [show Int.toNat 0 = 0 from rfl, kids, List.append_nil]
 exact h
theorem mT3 {B : List Int} {i : Nat} {x y z : Int} : mT B i [x, y, z] = true ↔ mB B i x = true ∧ mB B i y = true ∧ mB B i z = true := by
 simp [mT, List.all_cons]
theorem kids_no {B s w : List Int} {i : Nat} (h : mT B i s ≠ true) : kids B s w (i + 1) = kids B s w i := by
 rw [kids, kid, if_neg h, List.append_nil]
theorem kids_yes {B s w : List Int} {i : Nat} (h : mT B i s = true) : kids B s w (i + 1) = kids B s w i ++ [(aT B i s, w ++ [noB B i])] := by
 rw [kids, kid, if_pos h]
theorem QOk.kid {B s w w' s' : List Int} {i b' : Nat} {Z0 v0 Z v Z' v' sp : List Value} {n c : Nat} (h : ∀ A, QOk Z0 v0 A → QOk Z v (A ++ kids B s w i)) (hm : mT B i s = true) (hs : s' = aT B i s) (h3 : s'.length = 3)
  (hw : w' = w ++ [noB B i]) (hn : n = w'.length) (hc : c = w'.length + sp.length) (hZ : Z' = Z ++ [frzE b' 3 (numV w' ++ sp)]) (hnd : ((frzL Z').map Prod.fst).Nodup) (hv : v' = v ++ (numV s' ++ [.slice (some ⟨b', 0, none⟩) n c])) (A : List Way) (hA : QOk Z0 v0 A) : QOk Z' v' (A ++ kids B s w (i + 1)) := by
 subst hs hw hn hc hZ hv
 rw [kids_yes hm, ← List.append_assoc A]
 refine QOk.push (w := w ++ [noB B i]) h3 (by simp) (h A hA) fun x hx => ?_
 rw [qdu, frzL_E, List.map_append, List.nodup_append] at hnd
 exact fun e => hnd.2.2 x.1 (List.mem_map_of_mem hx) b' (by simp) e
theorem getD3 {l : List Int} {a b c : Int} (h : l = [a, b, c]) : l.getD 0 0 = a ∧ l.getD 1 0 = b ∧ l.getD 2 0 = c := by subst h; exact ⟨rfl, rfl, rfl⟩
theorem v_Fur_0 (P : Program) : VN cFur (ndFur P) 0 33 (n_Fur_0 P) := fun ρ hv hΓ hl hp => by
 simp only [VC, oblC, asmC, outAt, ndAt, allTrue, ve, BE.den, LX.den, nv, li, tT, n_Fur_0, toA0, toA3, toA1, kk28, kk27, vob, vsm, vap, ndFur, cFur, cAft, cThen, asmH, oblH, puO, puW, oblPu, asmPu, PuO.n, PuO.vals, PuW.val, PuW.ent, zR, pFur, pBn, mel, mel3, agF, may3, aft3, qNum, Qmore, live, nBe, s3] at hp ⊢
 simp only [vb, qaa, bdRest, bdList, hl, IE.den, forall_eq', implies_true, reduceIte, reduceCtorEq, Nat.reduceAdd, Nat.reduceSub, Nat.reduceLeDiff, Nat.reduceLT, Nat.reduceEqDiff] at hp ⊢
 obtain ⟨p1, ⟨w1, w2⟩, ⟨i0, i1⟩, q, l3, hq⟩ := hp
 have P1 := p1
 obtain ⟨⟨b0, b1, b2, b3⟩, m, q0, l1, l2⟩ := p1
 generalize (ρ.list 93).getD 0 0 = i at *
 generalize (ρ.list 82).getD 0 0 = n at *
 obtain ⟨i, rfl⟩ := Int.eq_ofNat_of_zero_le i0
 rw [show ((i : Int) * 6).toNat = 6 * i by omega, show ((i : Int) * 6 + 1).toNat = 6 * i + 1 by omega, show ((i : Int) * 6 + 2).toNat = 6 * i + 2 by omega, show ((i : Int) * 6 + 3).toNat = 6 * i + 3 by omega, show ((i : Int) * 6 + 5).toNat = 6 * i + 5 by omega, show ((i : Int) + 1).toNat = i + 1 by omega]
 rw [show (i : Int).toNat = i by omega] at hq
 refine ⟨fun hi => ⟨by omega, fun _ _ => ⟨⟨m, b3 i hi⟩, fun hn _ _ => ⟨⟨P1, ⟨w1, w2⟩, ⟨by omega, by omega⟩, q, by omega, ?_⟩, by omega⟩, fun _ r1 hy _ r2 => ⟨⟨w1, by omega, w2⟩, fun _ r3 _ r4 hw _ _ _ _ => ⟨⟨by omega, by omega, by omega⟩, fun _ r7 _ r8 _ r9 hx => ⟨⟨P1, ⟨w1, w2⟩, ⟨by omega, by omega⟩, ?_⟩, by omega⟩⟩⟩⟩⟩, fun hi => ⟨q, by omega, l1, ?_⟩⟩
 ·rw [kids_no (fun h => hn (mT3.1 h))]
  exact hq
 ·obtain ⟨off, cp, e7, e1, e2, e3, e4, e5⟩ := hx
  obtain ⟨g0, g1, g2⟩ := getD3 e7
  rw [g0, g1, g2]
  obtain ⟨h1, ⟨h20, h21, h22⟩, h3⟩ := hy
  rw [h20, h21, h22] at e3
  refine ⟨⟨by omega, by omega, by omega, by omega⟩, by omega, ?_⟩
  rw [show ((off : Nat) : Int).toNat = off from rfl, Int.toNat_natCast, e3]
  exact QOk.kid hq (mT3.2 h1) rfl rfl hw.1 (by simp) (by omega) e4 e5 rfl
 ·have : i = n.toNat := by omega
  rw [← this]; exact hq
theorem v_FurN (P : Program) : V0 cFurN (ndFurN P) 24 (e_FurN P) := fun ρ hv hΓ hl hp => by
 simp only [VC, outAt, ndAt, allTrue, ve, BE.den, LX.den, nv, li, tT, e_FurN, toA7, kk24, vap, ndFurN, cFurN, pFur, pBn, mel, mel3, qNum, Qmore, live, nBe, s3] at hp ⊢
 simp only [vb, qaa, bdRest, bdList, hl, IE.den, forall_eq', implies_true, reduceIte, reduceCtorEq, Nat.reduceAdd, Nat.reduceSub, Nat.reduceLeDiff, Nat.reduceLT, Nat.reduceEqDiff] at hp ⊢
 intro _ _
 obtain ⟨⟨b0, b1, b2, b3⟩, m, q, l1⟩ := hp
 refine ⟨⟨⟨b0, b1, b2, b3⟩, m, q, l1⟩, ⟨by omega, by omega⟩, q, by omega, fun A h => ?_⟩
 rw [show Int.toNat 0 = 0 from rfl, kids, List.append_nil]
 exact h
theorem v_FurN_0 (P : Program) : VN cFurN (ndFurN P) 0 29 (n_FurN_0 P) := fun ρ hv hΓ hl hp => by
 simp only [VC, oblC, asmC, outAt, ndAt, allTrue, ve, BE.den, LX.den, nv, li, tT, n_FurN_0, toA2, kk24, kk23, vob, vsm, vap, ndFurN, cFurN, cAft, cThenN, asmH, oblH, puO, puW, oblPu, asmPu, PuO.n, PuO.vals, PuW.val, PuW.ent, zR, pFur, pBn, mel, mel3, agF, may3, aft3, qNum, Qmore, live, nBe, s3] at hp ⊢
 simp only [vb, qaa, bdRest, bdList, hl, IE.den, forall_eq', implies_true, reduceIte, reduceCtorEq, Nat.reduceAdd, Nat.reduceSub, Nat.reduceLeDiff, Nat.reduceLT, Nat.reduceEqDiff] at hp ⊢
 obtain ⟨p1, ⟨i0, i1⟩, q, l3, hq⟩ := hp
 have P1 := p1
 obtain ⟨⟨b0, b1, b2, b3⟩, m, q0, l1, l2⟩ := p1
 generalize (ρ.list 89).getD 0 0 = i at *
 generalize (ρ.list 82).getD 0 0 = n at *
 obtain ⟨i, rfl⟩ := Int.eq_ofNat_of_zero_le i0
 rw [show ((i : Int) * 6).toNat = 6 * i by omega, show ((i : Int) * 6 + 1).toNat = 6 * i + 1 by omega, show ((i : Int) * 6 + 2).toNat = 6 * i + 2 by omega, show ((i : Int) * 6 + 3).toNat = 6 * i + 3 by omega, show ((i : Int) * 6 + 5).toNat = 6 * i + 5 by omega, show ((i : Int) + 1).toNat = i + 1 by omega]
 rw [show (i : Int).toNat = i by omega] at hq
 refine ⟨fun hi => ⟨by omega, fun _ _ => ⟨⟨m, b3 i hi⟩, fun hn _ _ => ⟨⟨P1, ⟨by omega, by omega⟩, q, by omega, ?_⟩, by omega⟩, fun _ r1 hy _ r2 => fun _ r3 _ r4 hw _ _ _ _ => ⟨⟨by omega, by omega, by omega⟩, fun _ r7 _ r8 _ r9 hx => ⟨⟨P1, ⟨by omega, by omega⟩, ?_⟩, by omega⟩⟩⟩⟩, fun hi => ⟨q, by omega, l1, ?_⟩⟩
 ·rw [kids_no (fun h => hn (mT3.1 h))]
  exact hq
 ·obtain ⟨off, cp, e7, e1, e2, e3, e4, e5⟩ := hx
  obtain ⟨g0, g1, g2⟩ := getD3 e7
  rw [g0, g1, g2]
  obtain ⟨h1, ⟨h20, h21, h22⟩, h3⟩ := hy
  rw [h20, h21, h22] at e3
  refine ⟨⟨by omega, by omega, by omega, by omega⟩, by omega, ?_⟩
  rw [show ((off : Nat) : Int).toNat = off from rfl, Int.toNat_natCast, e3]
  exact QOk.kid hq (mT3.2 h1) rfl rfl hw (by simp) (by omega) e4 e5 rfl
 ·have : i = n.toNat := by omega
  rw [← this]; exact hq
end Ft
namespace Mw
open Go Mv
theorem list_at {ρ ρ' : Env} (he : Ext ρ ρ') {l : Nat} (h : l < ρ.k.length + 64) (h' : 64 ≤ l) : ρ'.list l = ρ.list l := by
 have := list_same he (p := l - 64) (by omega)
 rwa [show 64 + (l - 64) = l by omega] at this
end Mw
open Go Mv Mw Go.Proofs
namespace Ft
theorem clr3 {p x y z : Int} : (if bitsOf .andNot .i64 x p = 0 then if bitsOf .andNot .i64 y p = 0 then if bitsOf .andNot .i64 z p = 0 then true else false else false else false) = true ↔ clr p [x, y, z] := by
 unfold clr
 simp only [List.mem_cons, List.not_mem_nil, or_false, forall_eq_or_imp, forall_eq]
 split
 ·split
  ·split <;> simp_all
  ·simp_all
 ·simp_all
theorem v_Ways (P : Program) (ρ : Env) (hv : vals ρ) (hΓ : Γ0.On ρ) (hl : ρ.k.length = 34) (hp : (cWaysP P).pre ρ) : VC (cWaysP P) (ndWays P) none ρ (e_Ways P) := by
 simp only [VC, outAt, ndAt, allTrue, ve, BE.den, LX.den, nv, li, tT, PW_eq, QN_eq, Vis_eq, s3_eq, Bf_eq, NoB_eq, FoB_eq, qci, G3_eq, muN_eq, min_if, e_Ways, kk34, vap, ndWays, cWaysP, asmH, oblH, puO, puW, oblPu, asmPu, PuO.n, PuO.vals, PuW.val, PuW.ent, zR, oblMl, oblMu, asmMl, asmMu, qOp, keyQ, asmNo, live, nBe] at hp ⊢
 simp only [vb, qaa, bdRest, bdList, hl, IE.den, forall_eq', implies_true, reduceIte, reduceCtorEq, Nat.reduceAdd, Nat.reduceSub, Nat.reduceLeDiff, Nat.reduceLT, Nat.reduceEqDiff] at hp ⊢
 rintro b0 r0 b1 r1 b2 r2 b3 r3 b4 r4 b5 r5 ⟨off, cp, e3, c1, c2, ed, e4, -⟩ b6 r6
 have e4 : r4 = [] := e4
 subst e4
 obtain ⟨g0, g1, g2⟩ := getD3 e3
 rw [g0, g1, g2]
 refine ⟨fun h => by omega, fun hne => ?_⟩
 have hq : QOk (zR ρ 0) ((r5.drop (off : Int).toNat).take ((1 : Int).toNat * 4)) [([(ρ.list 83).getD 0 0, (ρ.list 83).getD 1 0, (ρ.list 83).getD 2 0], [])] := by
  rw [show ((off : Nat) : Int).toNat = off from rfl, show (1 : Int).toNat = 1 from rfl, ed]
  exact ⟨.slice none 0 0, [], rfl, rfl, .inl ⟨rfl, rfl, rfl⟩⟩
 have Q0 : QN (off : Int) 1 (cp : Int) r5.length := ⟨by omega, by omega, by omega, by omega⟩
 have G := (pop_goal (ρ := ((((((ρ.grow b0 r0).grow b1 r1).grow b2 r2).grow b3 r3).grow b4 []).grow b5 r5).grow b6 r6) (off := h0 101) (mu0 := muN [] 1) (M := []) (Z := []) (nk := 41) (bq := 39) (zq := 38) hp Bfs.init Vis.nil Q0 hq (Nat.le_refl _) (by simp only [qab, hl]) (by omega) (by omega) (by simp only [qat, qab, hl, Nat.reduceAdd, Nat.reduceEqDiff, if_false, if_true]) (by simp only [qat, qab, hl, Nat.reduceAdd, Nat.reduceEqDiff, if_false, if_true])
   (fun ρ' x => by rw [qdh, list_at x (by simp only [qab, hl]; omega) (by omega)]; simp only [qam, qab, hl, Nat.reduceAdd, Nat.reduceEqDiff, if_false, if_true]; exact g0)).2 hne
 refine ⟨G.1, fun _ r7 _ r8 _ r9 _ r10 _ r11 _ r12 hpe => ⟨fun h => ?_, fun h => ?_⟩⟩
 ·have K := (G.2 _ _ _ _ _ _ _ _ _ _ _ _ hpe).1 h
  exact ⟨by omega, ⟨by omega, by omega⟩, ⟨by omega, by omega, by omega, by omega⟩, ⟨by omega, by omega, by omega, by omega⟩, K.2.2.2.1, fun b r e _ _ => (K.2.2.2.2 b r e).1⟩
 ·have K := (G.2 _ _ _ _ _ _ _ _ _ _ _ _ hpe).2 h
  exact ⟨by omega, ⟨by omega, by omega⟩, ⟨by omega, by omega, by omega, by omega⟩, ⟨by omega, by omega, by omega, by omega⟩, K.2.2.2.1, fun b r e _ _ => (K.2.2.2.2 b r e).1⟩
theorem v_Ways_0 (P : Program) (ρ : Env) (hv : vals ρ) (hΓ : Γ0.On ρ) (hl : ρ.k.length = 45) (hp : (ndAt (ndWays P) 0).inv ρ) : VC (cWaysP P) (ndWays P) (some ((ndAt (ndWays P) 0).mu ρ)) ρ (n_Ways_0 P) := by
 simp only [VC, oblC, asmC, outAt, ndAt, allTrue, ve, BE.den, LX.den, nv, li, tT, PW_eq, QN_eq, Vis_eq, s3_eq, Bf_eq, NoB_eq, FoB_eq, qci, G3_eq, muN_eq, min_if, n_Ways_0, toB2, kk34, kk35, kk33, vob, vsm, vap, ndWays, cWaysP, cFur, asmH, oblH, puO, puW, oblPu, asmPu, PuO.n, PuO.vals, PuW.val, PuW.ent, zR, oblMl, oblMu, asmMl, asmMu, qOp, keyQ, asmNo, pFur, Qmore, live, nBe] at hp ⊢
 simp only [vb, qaa, bdRest, bdList, hl, IE.den, forall_eq', implies_true, reduceIte, reduceCtorEq, Nat.reduceAdd, Nat.reduceSub, Nat.reduceLeDiff, Nat.reduceLT, Nat.reduceEqDiff] at hp ⊢
 obtain ⟨hW, g, q, ⟨w1, w2, w3⟩, V, A, hb, hV, hq⟩ := hp
 have inv := hW.inv hb
 have cnt := QOk.cnt q hq
 have fewV := inv.few
 have ln := inv.ln
 rw [List.length_cons] at ln
 refine ⟨hV.1, fun b r hx => ⟨fun h1 _ _ _ _ => ?_, fun h1 => ?_⟩⟩
 ·have hs : [(ρ.list 103).getD 0 0, (ρ.list 103).getD 1 0, (ρ.list 103).getD 2 0] ∈ V := by
   rcases hx with ⟨-, hx⟩ | ⟨e, -⟩
   ·rw [hV.2] at hx; exact mem_keys.1 hx
   ·rw [e] at h1; simp at h1
  exact pop_goal (nk := 48) (bq := 35) (zq := 37) hW (.skip hb hs) hV q hq (Nat.le_refl _) (by simp only [qab, hl]) (by omega) (by omega) (by simp only [qat, qab, hl, Nat.reduceAdd, Nat.reduceEqDiff, if_false]) (by simp only [qat, qab, hl, Nat.reduceAdd, Nat.reduceEqDiff, if_false])
   fun ρ' x => by rw [qdh, list_at x (by simp only [qab, hl]; omega) (by omega)]; simp only [qam, qab, hl, Nat.reduceAdd, Nat.reduceEqDiff, if_false]
 ·have hs : ¬[(ρ.list 103).getD 0 0, (ρ.list 103).getD 1 0, (ρ.list 103).getD 2 0] ∈ V := by
   rcases hx with ⟨e, -⟩ | ⟨-, hx⟩
   ·rw [e] at h1; simp at h1
   ·rw [hV.2] at hx; exact fun h => hx (mem_keys.2 h)
  refine ⟨⟨hV.1, by rw [hV.2]; exact fun h => hs (mem_keys.1 h)⟩, fun _ r1 e1 _ _ => ⟨fun h => ⟨V, _, hb, .inr ⟨_, _, A, rfl, hs, by have := hW.2.2.2; omega⟩⟩, fun hm _ _ => ⟨fun hc => ?_, fun hc => ⟨⟨⟨hW.1, g, q, by omega, by have := hW.2.2.2; omega⟩, w1, w3⟩, fun _ r4 _ r5 _ r6 hf _ _ _ _ => ?_⟩⟩⟩⟩
  ·refine ⟨⟨V, _, A, hb, hs, by have := hW.2.2.2; omega, ?_⟩, w1, by have := hW.2.2.2; omega, w3⟩
   exact clr3.1 hc
  ·obtain ⟨q', l1, l2, hm'⟩ := hf
   have hb' := Bfs.visit hb hs (by have := hW.2.2.2; omega) (fun h => by rw [clr3.2 h] at hc; cases hc)
   have fewV' := (hW.inv hb').few
   rw [List.length_append, List.length_singleton] at fewV'
   have hV' := hV.add (s := [(ρ.list 103).getD 0 0, (ρ.list 103).getD 1 0, (ρ.list 103).getD 2 0]) rfl e1
   exact pop_goal (nk := 54) (bq := 49) (zq := 51) hW hb' hV' q' (hm' A hq) (by unfold muN; rw [hV'.len, hV.len, List.length_append, List.length_singleton]; omega) (by simp only [qab, hl]) (by omega) (by omega) (by simp only [qat, qab, hl, Nat.reduceAdd, Nat.reduceEqDiff, if_false, if_true]) (by simp only [qat, qab, hl, Nat.reduceAdd, Nat.reduceEqDiff, if_false, if_true])
    fun ρ' x => by rw [qdh, list_at x (by simp only [qab, hl]; omega) (by omega)]; simp only [qam, qab, hl, Nat.reduceAdd, Nat.reduceEqDiff, if_false, if_true]
theorem v_Ways_1 (P : Program) (ρ : Env) (hv : vals ρ) (hΓ : Γ0.On ρ) (hl : ρ.k.length = 41) (hp : (ndAt (ndWays P) 1).inv ρ) : VC (cWaysP P) (ndWays P) (some ((ndAt (ndWays P) 1).mu ρ)) ρ (n_Ways_1 P) := by
 simp only [VC, oblC, asmC, outAt, ndAt, allTrue, ve, BE.den, LX.den, nv, li, tT, PW_eq, QN_eq, Vis_eq, s3_eq, Bf_eq, NoB_eq, FoB_eq, qci, G3_eq, muN_eq, min_if, n_Ways_1, toB3, kk34, kk35, kk33, vob, vsm, vap, ndWays, cWaysP, cFurN, asmH, oblH, puO, puW, oblPu, asmPu, PuO.n, PuO.vals, PuW.val, PuW.ent, zR, oblMl, oblMu, asmMl, asmMu, qOp, keyQ, asmNo, pFur, Qmore, live, nBe] at hp ⊢
 simp only [vb, qaa, bdRest, bdList, hl, IE.den, forall_eq', implies_true, reduceIte, reduceCtorEq, Nat.reduceAdd, Nat.reduceSub, Nat.reduceLeDiff, Nat.reduceLT, Nat.reduceEqDiff] at hp ⊢
 obtain ⟨hW, g, q, V, A, hb, hV, hq⟩ := hp
 have inv := hW.inv hb
 have cnt := QOk.cnt q hq
 have fewV := inv.few
 have ln := inv.ln
 rw [List.length_cons] at ln
 refine ⟨hV.1, fun b r hx => ⟨fun h1 _ _ _ _ => ?_, fun h1 => ?_⟩⟩
 ·have hs : [(ρ.list 103).getD 0 0, (ρ.list 103).getD 1 0, (ρ.list 103).getD 2 0] ∈ V := by
   rcases hx with ⟨-, hx⟩ | ⟨e, -⟩
   ·rw [hV.2] at hx; exact mem_keys.1 hx
   ·rw [e] at h1; simp at h1
  exact pop_goal (nk := 44) (bq := 35) (zq := 37) hW (.skip hb hs) hV q hq (Nat.le_refl _) (by simp only [qab, hl]) (by omega) (by omega) (by simp only [qat, qab, hl, Nat.reduceAdd, Nat.reduceEqDiff, if_false]) (by simp only [qat, qab, hl, Nat.reduceAdd, Nat.reduceEqDiff, if_false])
   fun ρ' x => by rw [qdh, list_at x (by simp only [qab, hl]; omega) (by omega)]; simp only [qam, qab, hl, Nat.reduceAdd, Nat.reduceEqDiff, if_false]
 ·have hs : ¬[(ρ.list 103).getD 0 0, (ρ.list 103).getD 1 0, (ρ.list 103).getD 2 0] ∈ V := by
   rcases hx with ⟨e, -⟩ | ⟨-, hx⟩
   ·rw [e] at h1; simp at h1
   ·rw [hV.2] at hx; exact fun h => hx (mem_keys.2 h)
  refine ⟨⟨hV.1, by rw [hV.2]; exact fun h => hs (mem_keys.1 h)⟩, fun _ r1 e1 _ _ _ _ => ⟨fun hc => ?_, fun hc => ⟨⟨hW.1, g, q, by omega, by simp⟩, fun _ r4 _ r5 _ r6 hf _ _ _ _ => ?_⟩⟩⟩
  ·refine ⟨V, _, A, hb, hs, by simp, ?_⟩
   exact clr3.1 hc
  ·obtain ⟨q', l1, l2, hm'⟩ := hf
   have hb' := Bfs.visit hb hs (by simp) (fun h => by rw [clr3.2 h] at hc; cases hc)
   have fewV' := (hW.inv hb').few
   rw [List.length_append, List.length_singleton] at fewV'
   have hV' := hV.add (s := [(ρ.list 103).getD 0 0, (ρ.list 103).getD 1 0, (ρ.list 103).getD 2 0]) rfl e1
   exact pop_goal (nk := 50) (bq := 45) (zq := 47) hW hb' hV' q' (hm' A hq) (by unfold muN; rw [hV'.len, hV.len, List.length_append, List.length_singleton]; omega) (by simp only [qab, hl]) (by omega) (by omega) (by simp only [qat, qab, hl, Nat.reduceAdd, Nat.reduceEqDiff, if_false, if_true]) (by simp only [qat, qab, hl, Nat.reduceAdd, Nat.reduceEqDiff, if_false, if_true])
    fun ρ' x => by rw [qdh, list_at x (by simp only [qab, hl]; omega) (by omega)]; simp only [qam, qab, hl, Nat.reduceAdd, Nat.reduceEqDiff, if_false, if_true]
theorem v_Ways_2 (P : Program) (ρ : Env) (hv : vals ρ) (hΓ : Γ0.On ρ) (hl : ρ.k.length = 37) (hp : (ndAt (ndWays P) 2).inv ρ) : VC (cWaysP P) (ndWays P) (some ((ndAt (ndWays P) 2).mu ρ)) ρ (n_Ways_2 P) := by
 simp only [VC, outAt, ndAt, allTrue, ve, BE.den, LX.den, nv, li, tT, NoB_eq, PW_eq, n_Ways_2, kk33, vap, ndWays, cWaysP] at hp ⊢
 simp only [vb, qaa, bdRest, bdList, hl, IE.den, forall_eq', implies_true, reduceIte, reduceCtorEq, Nat.reduceAdd, Nat.reduceSub, Nat.reduceLeDiff, Nat.reduceLT, Nat.reduceEqDiff] at hp ⊢
 exact hp.2
theorem v_Clear (P : Program) : V0 cClear (ndClear P) 23 (e_Clear P) := fun ρ hv hΓ hl hp => by
 simp only [VC, oblC, asmC, outAt, ndAt, allTrue, ve, BE.den, LX.den, nv, li, tT, qci, G3_eq, NoB_eq, FoB_eq, PW_eq, s3_eq, nonC, fouC, nBe, e_Clear, toB0, toB1, kk22, vob, vsm, vap, ndClear, cClear, cWays, cWaysP] at hp ⊢
 simp only [vb, qaa, bdRest, bdList, hl, IE.den, forall_eq', implies_true, reduceIte, reduceCtorEq, Nat.reduceAdd, Nat.reduceSub, Nat.reduceLeDiff, Nat.reduceLT, Nat.reduceEqDiff] at hp ⊢
 intros
 exact ⟨⟨hp.1, hp.2.1, hp.2.2⟩, fun _ _ h => h, fun _ _ h => h, fun _ _ h => h, fun _ _ _ _ _ _ _ _ _ _ h => h⟩
theorem wrap1 {x : Int} (h0 : 0 ≤ x) (h1 : x ≤ 1000) : IntKind.i64.wrap x = x := qcc (by omega) (by omega)
theorem v_Idx (P : Program) : V0 cIdx (ndIdx P) 21 (e_Idx P) := fun ρ hv hΓ hl hp => by
 simp only [VC, outAt, ndAt, allTrue, ve, BE.den, LX.den, nv, li, tT, e_Idx, kk20, vap, ndIdx, cIdx, pX, pBo, qci] at hp ⊢
 simp only [vb, qaa, bdRest, bdList, hl, IE.den, forall_eq', implies_true, reduceIte, reduceCtorEq, Nat.reduceAdd, Nat.reduceSub, Nat.reduceLeDiff, Nat.reduceLT, Nat.reduceEqDiff] at hp ⊢
 exact ⟨hp, by omega, by omega⟩
theorem v_Idx_0 (P : Program) : VN cIdx (ndIdx P) 0 22 (n_Idx_0 P) := fun ρ hv hΓ hl hp => by
 simp only [VC, outAt, ndAt, allTrue, ve, BE.den, LX.den, nv, li, tT, n_Idx_0, kk20, vap, ndIdx, cIdx, pX, pBo, qci] at hp ⊢
 simp only [vb, qaa, bdRest, bdList, hl, IE.den, forall_eq', implies_true, reduceIte, reduceCtorEq, Nat.reduceAdd, Nat.reduceSub, Nat.reduceLeDiff, Nat.reduceLT, Nat.reduceEqDiff] at hp ⊢
 obtain ⟨⟨⟨b, n1, hno⟩, x0, x1⟩, i0, i1⟩ := hp
 have B := b
 obtain ⟨b0, b1, b2, -⟩ := b
 generalize (ρ.list 85).getD 0 0 = i at *
 obtain ⟨i, rfl⟩ := Int.eq_ofNat_of_zero_le i0
 rw [show ((i : Int) * 6 + 5).toNat = 6 * i + 5 by omega]
 refine ⟨fun h => ⟨by omega, fun _ _ => ⟨fun e => ?_, fun e => ⟨⟨⟨⟨B, n1, hno⟩, x0, x1⟩, by omega, ?_⟩, by omega⟩⟩⟩, fun h => by omega⟩
 ·have := hno i h
  unfold noB at this
  omega
 ·have := hno i h
  unfold noB at this
  omega
theorem v_Del (P : Program) : V0 cDel (ndDel P) 21 (e_Del P) := fun ρ hv hΓ hl hp => by
 simp only [VC, oblC, asmC, outAt, ndAt, allTrue, ve, BE.den, LX.den, nv, li, tT, e_Del, toC32, toC36, kk20, vob, vsm, vap, ndDel, cDel, cIdx, pX, pBo, qci] at hp ⊢
 simp only [vb, qaa, bdRest, bdList, hl, IE.den, forall_eq', implies_true, reduceIte, reduceCtorEq, Nat.reduceAdd, Nat.reduceSub, Nat.reduceLeDiff, Nat.reduceLT, Nat.reduceEqDiff] at hp ⊢
 obtain ⟨⟨⟨b, n1, hno⟩, x0, x1⟩, c1⟩ := hp
 have B := b
 obtain ⟨b0, b1, b2, -⟩ := b
 refine ⟨⟨⟨B, n1, hno⟩, x0, x1⟩, fun _ r hr => ⟨fun h => by omega, fun h => ?_⟩⟩
 rw [wrap1 (by omega) (by omega)]
 refine ⟨⟨⟨B, n1, hno⟩, x0, x1⟩, c1, rfl, by omega, by omega, by omega, by omega, fun t ht => ?_⟩
 rw [if_pos (by omega)]
theorem v_Del_0 (P : Program) : VN cDel (ndDel P) 0 23 (n_Del_0 P) := fun ρ hv hΓ hl hp => by
 simp only [VC, outAt, ndAt, allTrue, ve, BE.den, LX.den, nv, li, tT, n_Del_0, kk20, vap, ndDel, cDel, pX, pBo, qci, asmH, clrAsm, putAsm] at hp ⊢
 simp only [vb, qaa, bdRest, bdList, hl, IE.den, forall_eq', implies_true, reduceIte, reduceCtorEq, Nat.reduceAdd, Nat.reduceSub, Nat.reduceLeDiff, Nat.reduceLT, Nat.reduceEqDiff] at hp ⊢
 obtain ⟨⟨⟨b, n1, hno⟩, x0, x1⟩, c1, ij, xj, jn, l1, l2, hd, hs⟩ := hp
 have B := b
 obtain ⟨b0, b1, b2, -⟩ := b
 generalize (ρ.list 86).getD 0 0 = i at *
 generalize (ρ.list 86).getD 1 0 = j at *
 obtain ⟨i, rfl⟩ := Int.eq_ofNat_of_zero_le (show 0 ≤ i by omega)
 obtain rfl : j = ((i + 1 : Nat) : Int) := by omega
 refine ⟨fun h => ⟨by omega, fun _ _ _ _ => ⟨fun hn => ⟨by omega, ⟨by omega, by omega⟩, fun _ r hr => ?_⟩, fun he => ?_⟩⟩, fun h => ⟨by omega, ?_⟩⟩
 ·rw [wrap1 (by omega) (by omega)]
  rw [show ((i : Int) * 6).toNat = 6 * i by omega] at hr
  have len : (List.map intOf r).length = (ρ.list 85).length := by rw [hr]; exact putL_len (by simp only [List.length_cons, List.length_nil]; omega)
  refine ⟨⟨⟨⟨B, n1, hno⟩, x0, x1⟩, c1, by omega, by omega, by omega, by omega, by omega, fun t ht => ?_, fun t ht => ?_⟩, by omega⟩
  ·rw [hr, putL_get (by simp only [List.length_cons, List.length_nil]; omega)]
   simp only [List.length_cons, List.length_nil]
   have e : ∀ k : Nat, k < 6 → (ρ.list 85).getD (6 * (i + 1) + k) 0 = (ρ.list 81).getD (6 * (i + 1) + k) 0 := fun k hk => hs _ (by omega)
   split
   ·rename_i hc
    rw [if_neg (by omega)]
    obtain ⟨k, rfl⟩ : ∃ k, t = 6 * i + k := ⟨t - 6 * i, by omega⟩
    have hk : k < 6 := by omega
    rw [Nat.add_sub_cancel_left, show 6 * i + k + 6 = 6 * (i + 1) + k by omega, ← e k hk]
    rw [show (((i + 1 : Nat) : Int) * 6).toNat = 6 * (i + 1) + 0 by omega, show (((i + 1 : Nat) : Int) * 6 + 1).toNat = 6 * (i + 1) + 1 by omega, show (((i + 1 : Nat) : Int) * 6 + 2).toNat = 6 * (i + 1) + 2 by omega, show (((i + 1 : Nat) : Int) * 6 + 3).toNat = 6 * (i + 1) + 3 by omega, show (((i + 1 : Nat) : Int) * 6 + 4).toNat = 6 * (i + 1) + 4 by omega, show (((i + 1 : Nat) : Int) * 6 + 5).toNat = 6 * (i + 1) + 5 by omega]
    match k, hk with
    | 0, _ => rfl
    | 1, _ => rfl
    | 2, _ => rfl
    | 3, _ => rfl
    | 4, _ => rfl
    | 5, _ => rfl
   ·rename_i hc
    exact hd t (by omega)
  ·rw [hr, putL_get (by simp only [List.length_cons, List.length_nil]; omega)]
   simp only [List.length_cons, List.length_nil]
   rw [if_neg (by omega)]
   exact hs t (by omega)
 ·exfalso
  have := hno (i + 1) h
  unfold noB at this
  rw [show (((i + 1 : Nat) : Int) * 6 + 5).toNat = 6 * (i + 1) + 5 by omega, hs _ (by omega)] at he
  omega
 ·rw [if_neg (by omega)]
  refine ⟨⟨by omega, by omega, by omega⟩, fun _ r hr => ⟨by omega, by omega, by omega, by omega, by omega, by omega, fun t ht => ?_⟩⟩
  have h1 := congrArg (fun l => l.getD t 0) hr.2
  simp only [List.getD_eq_getElem?_getD] at h1
  rw [List.getElem?_take_of_lt (by omega), List.getElem?_take_of_lt (by omega)] at h1
  rw [List.getD_eq_getElem?_getD, h1, ← List.getD_eq_getElem?_getD]
  exact hd t (by omega)
theorem v_Wo (P : Program) : V0 cWo (ndWo P) 20 (e_Wo P) := fun ρ hv hΓ hl hp => by
 simp only [VC, oblC, asmC, appAsm, outAt, ndAt, allTrue, ve, BE.den, LX.den, nv, li, tT, e_Wo, toC17, kk19, vob, vsm, vap, ndWo, cWo, cDel, pX, pBo, qci] at hp ⊢
 simp only [vb, qaa, bdRest, bdList, hl, IE.den, forall_eq', implies_true, reduceIte, reduceCtorEq, Nat.reduceAdd, Nat.reduceSub, Nat.reduceLeDiff, Nat.reduceLT, Nat.reduceEqDiff] at hp ⊢
 obtain ⟨⟨b, n1, hno⟩, x0, x1, hlen⟩ := hp
 have B := b
 obtain ⟨b0, b1, b2, -⟩ := b
 intro _ _ _ _
 refine ⟨by omega, fun _ r hr _ r1 => ?_⟩
 rw [show Int.toNat 0 = 0 from rfl, List.drop_zero, List.nil_append, List.take_of_length_le (by omega)] at hr
 rw [hr, hlen, Int.mul_comm, Int.mul_tdiv_cancel _ (by decide)]
 refine ⟨⟨⟨⟨B, n1, hno⟩, x0, x1⟩, by omega⟩, fun _ _ _ _ h => h⟩
theorem v_Can (P : Program) : V0 cCan (ndCan P) 22 (e_Can P) := fun ρ hv hΓ hl hp => by
 simp only [VC, oblC, asmC, outAt, ndAt, allTrue, ve, BE.den, LX.den, nv, li, tT, e_Can, toC12, toC15, toC36, kk21, vob, vsm, vap, ndCan, cCan, cClear, canR, qci, G3_eq, nonC, fouC, nBe, s3, mel] at hp ⊢
 simp only [vb, qaa, bdRest, bdList, hl, IE.den, forall_eq', implies_true, reduceIte, reduceCtorEq, Nat.reduceAdd, Nat.reduceSub, Nat.reduceLeDiff, Nat.reduceLT, Nat.reduceEqDiff] at hp ⊢
 obtain ⟨b, m, p⟩ := hp
 intros
 refine ⟨⟨b, ⟨m, m, m⟩, p, by decide, by decide⟩, fun _ _ h => none_can (fun i hi => b.2.2.2 i (by omega)) (by have := b.2.1; omega) m h, fun _ _ h => found_can h, fun _ _ _ _ _ _ _ _ _ _ h => found_can h.1⟩
theorem qsB_get {B : List Int} {n i : Nat} : (qsB B n)[i]? = if i < n then some (qB B i) else none := by
 unfold qsB
 rw [List.getElem?_map]
 split
 ·rename_i h; rw [List.getElem?_range h]; rfl
 ·rename_i h; rw [List.getElem?_eq_none (by rw [List.length_range]; omega)]; rfl
theorem qsB_getD {B : List Int} {n i : Nat} {d : Qa} (h : i < n) : (qsB B n).getD i d = qB B i := by
 rw [List.getD_eq_getElem?_getD, qsB_get, if_pos h]; rfl
theorem qsA_get {L : List Int} {n i : Nat} : (qsA L n)[i]? = if i < n then some (qA L i) else none := by
 unfold qsA
 rw [List.getElem?_map]
 split
 ·rename_i h; rw [List.getElem?_range h]; rfl
 ·rename_i h; rw [List.getElem?_eq_none (by rw [List.length_range]; omega)]; rfl
theorem qdy {L : List Int} {n i : Nat} {d : Qa} (h : i < n) : (qsA L n).getD i d = qA L i := by
 rw [List.getD_eq_getElem?_getD, qsA_get, if_pos h]; rfl
theorem qsB_bench (L : List Int) (n : Nat) : qsB (benchL L n) n = qsA L n := by
 apply List.ext_getElem?
 intro i
 rw [qsB_get, qsA_get]
 split
 ·rename_i h
  obtain ⟨a, b, c, d, e⟩ := fld_bench (L := L) h
  unfold fld at a b c d
  rw [Nat.add_zero] at a
  unfold qB qA
  rw [a, b, c, d]
 ·rfl
theorem bnO_bench {L : List Int} {n : Int} (h1 : 1 ≤ n) (h : agsV L n.toNat) : BnO (benchL L n.toNat) n := by
 have b := bench_ok h
 have hn := h.2.1
 have hl := b.len
 refine ⟨⟨by omega, by omega, ⟨by omega, by omega⟩, fun i hi => ?_⟩, h1, fun i hi => ?_⟩
 ·obtain ⟨-, -, c, d, -⟩ := b.rng i (by omega)
  exact ⟨c, d⟩
 ·exact (b.rng i (by omega)).2.2.2.2.2
theorem drop_qs {B L : List Int} {x n : Nat} (hx : x < n) (h : DropB B x n L) : qsB L (n - 1) = (qsB B n).eraseIdx x := by
 apply List.ext_getElem?
 intro i
 rw [List.getElem?_eraseIdx, qsB_get]
 have e : i < n - 1 → qB L i = if i < x then qB B i else qB B (i + 1) := fun hi => by
  have g : ∀ k : Nat, k < 6 → L.getD (6 * i + k) 0 = if i < x then B.getD (6 * i + k) 0 else B.getD (6 * (i + 1) + k) 0 := fun k hk => by
   rw [h _ (by omega)]
   by_cases hc : i < x
   ·rw [if_pos hc, if_pos (by omega)]
   ·rw [if_neg hc, if_neg (by omega), show 6 * i + k + 6 = 6 * (i + 1) + k by omega]
  have g0 := g 0 (by omega)
  rw [Nat.add_zero, Nat.add_zero] at g0
  unfold qB
  rw [g0, g 1 (by omega), g 2 (by omega), g 3 (by omega)]
  split <;> rfl
 by_cases hi : i < n - 1
 ·rw [if_pos hi, e hi]
  by_cases hc : i < x
  ·rw [if_pos hc, if_pos hc, qsB_get, if_pos (by omega)]
  ·rw [if_neg hc, if_neg hc, qsB_get, if_pos (by omega)]
 ·rw [if_neg hi]
  by_cases hc : i < x
  ·omega
  ·rw [if_neg hc, qsB_get, if_neg (by omega)]
theorem bnR_drop {B L : List Int} {n m : Int} {x : Nat} (hB : BnR B n) (hm : m = n - 1) (h1 : 1 ≤ n) (hl : 6 * m ≤ (L.length : Nat)) (h24 : L.length ≤ 24) (h : DropB B x n.toNat L) : BnR L m := by
 obtain ⟨b0, b1, b2, b3⟩ := hB
 refine ⟨by omega, by omega, ⟨hl, by omega⟩, fun i hi => ?_⟩
 have g : ∀ k : Nat, k < 6 → L.getD (6 * i + k) 0 = if i < x then B.getD (6 * i + k) 0 else B.getD (6 * (i + 1) + k) 0 := fun k hk => by
  rw [h _ (by omega)]
  by_cases hc : i < x
  ·rw [if_pos hc, if_pos (by omega)]
  ·rw [if_neg hc, if_neg (by omega), show 6 * i + k + 6 = 6 * (i + 1) + k by omega]
 rw [g 2 (by omega), g 3 (by omega)]
 split
 ·exact b3 i (by omega)
 ·exact b3 (i + 1) (by omega)
theorem selL_yes {P : Nat → Prop} {n : Nat} (h : P n) : selL P (n + 1) = selL P n ++ [(n : Int)] := by
 rw [selL, if_pos h]
theorem qfm {P : Nat → Prop} {n : Nat} (h : ¬P n) : selL P (n + 1) = selL P n := by
 rw [selL, if_neg h, List.append_nil]
theorem mem_selL {P : Nat → Prop} : ∀ {n : Nat} {x : Int}, x ∈ selL P n ↔ ∃ i : Nat, i < n ∧ P i ∧ x = i
 | 0, x => by simp [selL]
 | n + 1, x => by
  by_cases h : P n
  ·rw [selL_yes h, List.mem_append, mem_selL]
   constructor
   ·rintro (⟨i, a, b, c⟩ | e)
    ·exact ⟨i, by omega, b, c⟩
    ·exact ⟨n, by omega, h, List.mem_singleton.1 e⟩
   ·rintro ⟨i, a, b, c⟩
    by_cases e : i = n
    ·subst e; exact .inr (List.mem_singleton.2 c)
    ·exact .inl ⟨i, by omega, b, c⟩
  ·rw [qfm h, mem_selL]
   constructor
   ·rintro ⟨i, a, b, c⟩; exact ⟨i, by omega, b, c⟩
   ·rintro ⟨i, a, b, c⟩
    by_cases e : i = n
    ·subst e; exact absurd b h
    ·exact ⟨i, by omega, b, c⟩
theorem can_none {p m : Int} : Can [] p m ↔ bitsOf .andNot .i64 m p = 0 := by
 constructor
 ·rintro ⟨k, r, hc⟩
  cases r with
  | refl => exact hc
  | step _ h _ => cases h
 ·exact fun h => ⟨m, .refl, h⟩
theorem v_ThN (P : Program) : V0 cThN (ndThN P) 26 (e_ThN P) := fun ρ hv hΓ hl hp => by
 simp only [VC, outAt, ndAt, allTrue, ve, BE.den, LX.den, nv, li, tT, e_ThN, kk25, vap, ndThN, cThN, cThX, ndThX, PT_eq, BnO_eq, qci, nBe, mel] at hp ⊢
 simp only [vb, qaa, bdRest, bdList, hl, IE.den, forall_eq', implies_true, reduceIte, reduceCtorEq, Nat.reduceAdd, Nat.reduceSub, Nat.reduceLeDiff, Nat.reduceLT, Nat.reduceEqDiff] at hp ⊢
 exact ⟨hp, by omega, hp.1.1.1, rfl⟩
theorem v_ThS (P : Program) : V0 cThS (ndThS P) 26 (e_ThS P) := fun ρ hv hΓ hl hp => by
 simp only [VC, outAt, ndAt, allTrue, ve, BE.den, LX.den, nv, li, tT, e_ThS, kk25, vap, ndThS, cThS, cThX, ndThX, PT_eq, BnO_eq, qci, nBe, mel, Con.split] at hp ⊢
 simp only [vb, qaa, bdRest, bdList, hl, IE.den, forall_eq', implies_true, reduceIte, reduceCtorEq, Nat.reduceAdd, Nat.reduceSub, Nat.reduceLeDiff, Nat.reduceLT, Nat.reduceEqDiff] at hp ⊢
 exact ⟨hp, by omega, hp.1.1.1, rfl⟩
theorem v_ThN_0 (P : Program) : VN cThN (ndThN P) 0 28 (n_ThN_0 P) := fun ρ hv hΓ hl hp => by
 simp only [VC, oblC, asmC, outAt, ndAt, allTrue, ve, BE.den, LX.den, nv, li, tT, n_ThN_0, toC35, toC18, toC26, toC23, toC36, kk25, vob, vsm, vap, ndThN, cThN, cThX, ndThX, PT_eq, BnO_eq, qci, canR, nBe, cWo, cCan, mel] at hp ⊢
 simp only [vb, qaa, bdRest, bdList, hl, IE.den, forall_eq', implies_true, reduceIte, reduceCtorEq, Nat.reduceAdd, Nat.reduceSub, Nat.reduceLeDiff, Nat.reduceLT, Nat.reduceEqDiff] at hp ⊢
 obtain ⟨hP, i0, i1, hs⟩ := hp
 obtain ⟨⟨b, n1, hno⟩, m, p, len⟩ := id hP
 have B := b
 obtain ⟨b0, b1, b2, b3⟩ := b
 generalize (ρ.list 90).getD 0 0 = i at *
 obtain ⟨i, rfl⟩ := Int.eq_ofNat_of_zero_le i0
 rw [Int.toNat_natCast] at hs
 refine ⟨fun h => ?_, fun h => by rw [show ((ρ.list 82).getD 0 0).toNat = i by omega]; rw [show ((ρ.list 82).getD 0 0).toNat = i by omega] at hs; exact hs⟩
 have hi := hno i h
 unfold noB at hi
 rw [show ((i : Int) * 6 + 5).toNat = 6 * i + 5 by omega, hi, show ((i : Int) + 1).toNat = i + 1 by omega, Int.toNat_natCast]
 refine ⟨by omega, fun _ _ _ _ => ⟨⟨hP.1, by omega, h, len⟩, fun _ _ _ r3 _ r4 hx => ?_⟩⟩
 obtain ⟨x0, x1, x2, x3, x4, x5⟩ := hx
 have hq := drop_qs (by omega) x5
 rw [show ((ρ.list 82).getD 0 0).toNat - 1 = ((List.map intOf r4).getD 0 0).toNat by omega] at hq
 rw [hq]
 refine ⟨⟨bnR_drop B x0 x1 x3 x4 x5, m, p⟩, fun _ _ hc _ _ _ _ => ⟨⟨hP, by omega, by omega, ?_, by simp, by simp⟩, by omega⟩, fun _ _ hc => ⟨⟨hP, by omega, by omega, ?_⟩, by omega⟩⟩
 ·rw [selL_yes hc, hs]; rfl
 ·rw [qfm (fun hn => hn hc), hs]
theorem v_ThN_1 (P : Program) : VN cThN (ndThN P) 1 30 (n_ThN_1 P) := fun ρ hv hΓ hl hp => by
 simp only [VC, oblC, asmC, appAsm, outAt, ndAt, allTrue, ve, BE.den, LX.den, nv, li, tT, n_ThN_1, toC19, toC27, toC23, toC35, toC36, kk25, vob, vsm, vap, ndThN, cThN, cThX, ndThX, PT_eq, BnO_eq, qci, canR, nBe, cWo, cCan, mel] at hp ⊢
 simp only [vb, qaa, bdRest, bdList, hl, IE.den, forall_eq', implies_true, reduceIte, reduceCtorEq, Nat.reduceAdd, Nat.reduceSub, Nat.reduceLeDiff, Nat.reduceLT, Nat.reduceEqDiff] at hp ⊢
 obtain ⟨hP, i0, i1, hs, l1, l2⟩ := hp
 obtain ⟨⟨b, n1, hno⟩, m, p, len⟩ := id hP
 have B := b
 obtain ⟨b0, b1, b2, b3⟩ := b
 generalize (ρ.list 90).getD 0 0 = i at *
 obtain ⟨i, rfl⟩ := Int.eq_ofNat_of_zero_le i0
 rw [Int.toNat_natCast] at hs
 refine ⟨fun h => ?_, fun h => ⟨by rw [show ((ρ.list 82).getD 0 0).toNat = i by omega]; rw [show ((ρ.list 82).getD 0 0).toNat = i by omega] at hs; exact hs, l1, by omega⟩⟩
 have hi := hno i h
 unfold noB at hi
 rw [show ((i : Int) * 6 + 5).toNat = 6 * i + 5 by omega, hi, show ((i : Int) + 1).toNat = i + 1 by omega, Int.toNat_natCast]
 refine ⟨by omega, fun _ _ _ _ => ⟨⟨hP.1, by omega, h, len⟩, fun _ _ _ r3 _ r4 hx => ?_⟩⟩
 obtain ⟨x0, x1, x2, x3, x4, x5⟩ := hx
 have hq := drop_qs (by omega) x5
 rw [show ((ρ.list 82).getD 0 0).toNat - 1 = ((List.map intOf r4).getD 0 0).toNat by omega] at hq
 rw [hq]
 refine ⟨⟨bnR_drop B x0 x1 x3 x4 x5, m, p⟩, fun _ _ hc _ _ _ r7 e7 _ _ => ⟨⟨hP, by omega, by omega, ?_, ?_, ?_⟩, by omega⟩, fun _ _ hc => ⟨⟨hP, by omega, by omega, ?_, l1, by omega⟩, by omega⟩⟩
 ·rw [selL_yes hc, hs, e7]
 ·rw [e7, List.length_append, List.length_singleton]; omega
 ·rw [e7, List.length_append, List.length_singleton]; omega
 ·rw [qfm (fun hn => hn hc), hs]
theorem v_ThS_0 (P : Program) : VN cThS (ndThS P) 0 28 (n_ThS_0 P) := fun ρ hv hΓ hl hp => by
 simp only [VC, oblC, asmC, outAt, ndAt, allTrue, ve, BE.den, LX.den, nv, li, tT, n_ThS_0, toC35, toC20, toC28, toC36, toC6, kk25, vob, vsm, vap, ndThS, cThS, cThX, ndThX, PT_eq, BnO_eq, qci, canR, nBe, cCan, mel, cMay, cMay0, Con.split, oMay0, cPutA] at hp ⊢
 simp only [vb, qaa, bdRest, bdList, hl, IE.den, forall_eq', implies_true, reduceIte, reduceCtorEq, Nat.reduceAdd, Nat.reduceSub, Nat.reduceLeDiff, Nat.reduceLT, Nat.reduceEqDiff] at hp ⊢
 obtain ⟨hP, i0, i1, hs⟩ := hp
 obtain ⟨⟨b, n1, hno⟩, m, p, len⟩ := id hP
 have B := b
 obtain ⟨b0, b1, b2, b3⟩ := b
 generalize (ρ.list 90).getD 0 0 = i at *
 obtain ⟨i, rfl⟩ := Int.eq_ofNat_of_zero_le i0
 rw [Int.toNat_natCast] at hs
 refine ⟨fun h => ?_, fun h => by rw [show ((ρ.list 82).getD 0 0).toNat = i by omega]; rw [show ((ρ.list 82).getD 0 0).toNat = i by omega] at hs; exact hs⟩
 have hi := hno i h
 unfold noB at hi
 have hf := b3 i h
 have hg : (qsB (ρ.list 81) ((ρ.list 82).getD 0 0).toNat).getD i (0, 0, 0, 0) = qB (ρ.list 81) i := qsB_getD (by omega)
 rw [show ((i : Int) * 6 + 5).toNat = 6 * i + 5 by omega, hi, show ((i : Int) + 1).toNat = i + 1 by omega, show ((i : Int) * 6).toNat = 6 * i by omega, show ((i : Int) * 6 + 1).toNat = 6 * i + 1 by omega, show ((i : Int) * 6 + 2).toNat = 6 * i + 2 by omega, show ((i : Int) * 6 + 3).toNat = 6 * i + 3 by omega]
 have yes : mayQ (qB (ρ.list 81) i) ((ρ.list 89).getD 0 0) = true → ¬Can (qsB (ρ.list 81) ((ρ.list 82).getD 0 0).toNat) ((ρ.list 89).getD 1 0) (aftQ (qB (ρ.list 81) i) ((ρ.list 89).getD 0 0)) → spoilV (qsB (ρ.list 81) ((ρ.list 82).getD 0 0).toNat) ((ρ.list 89).getD 1 0) ((ρ.list 89).getD 0 0) i := fun h1 h2 => by
  unfold spoilV; rw [hg]; exact ⟨h1, h2⟩
 have no : spoilV (qsB (ρ.list 81) ((ρ.list 82).getD 0 0).toNat) ((ρ.list 89).getD 1 0) ((ρ.list 89).getD 0 0) i → mayQ (qB (ρ.list 81) i) ((ρ.list 89).getD 0 0) = true ∧ ¬Can (qsB (ρ.list 81) ((ρ.list 82).getD 0 0).toNat) ((ρ.list 89).getD 1 0) (aftQ (qB (ρ.list 81) i) ((ρ.list 89).getD 0 0)) := fun h => by
  unfold spoilV at h; rw [hg] at h; exact h
 refine ⟨by omega, fun _ _ _ _ => ⟨m, fun hm => ⟨⟨m, hm, hf⟩, fun _ r2 h2 => ⟨⟨B, h2.2, p⟩, fun _ _ hc _ _ _ _ => ⟨⟨hP, by omega, by omega, ?_, by simp, by simp⟩, by omega⟩, fun _ _ hc => ⟨⟨hP, by omega, by omega, ?_⟩, by omega⟩⟩⟩, fun hm => ⟨⟨hP, by omega, by omega, ?_⟩, by omega⟩⟩⟩
 ·rw [h2.1] at hc
  rw [selL_yes (yes hm hc), hs]; rfl
 ·rw [h2.1] at hc
  rw [qfm (fun hn => (no hn).2 hc), hs]
 ·rw [qfm (fun hn => by have := (no hn).1; rw [show mayQ (qB (ρ.list 81) i) ((ρ.list 89).getD 0 0) = false from hm] at this; cases this), hs]
theorem v_ThS_1 (P : Program) : VN cThS (ndThS P) 1 30 (n_ThS_1 P) := fun ρ hv hΓ hl hp => by
 simp only [VC, oblC, asmC, appAsm, outAt, ndAt, allTrue, ve, BE.den, LX.den, nv, li, tT, n_ThS_1, toC21, toC29, toC36, toC6, kk25, vob, vsm, vap, ndThS, cThS, cThX, ndThX, PT_eq, BnO_eq, qci, canR, nBe, cCan, mel, cMay, cMay0, Con.split, oMay0, cPutA] at hp ⊢
 simp only [vb, qaa, bdRest, bdList, hl, IE.den, forall_eq', implies_true, reduceIte, reduceCtorEq, Nat.reduceAdd, Nat.reduceSub, Nat.reduceLeDiff, Nat.reduceLT, Nat.reduceEqDiff] at hp ⊢
 obtain ⟨hP, i0, i1, hs, l1, l2⟩ := hp
 obtain ⟨⟨b, n1, hno⟩, m, p, len⟩ := id hP
 have B := b
 obtain ⟨b0, b1, b2, b3⟩ := b
 generalize (ρ.list 90).getD 0 0 = i at *
 obtain ⟨i, rfl⟩ := Int.eq_ofNat_of_zero_le i0
 rw [Int.toNat_natCast] at hs
 refine ⟨fun h => ?_, fun h => ⟨by rw [show ((ρ.list 82).getD 0 0).toNat = i by omega]; rw [show ((ρ.list 82).getD 0 0).toNat = i by omega] at hs; exact hs, l1, by omega⟩⟩
 have hi := hno i h
 unfold noB at hi
 have hf := b3 i h
 have hg : (qsB (ρ.list 81) ((ρ.list 82).getD 0 0).toNat).getD i (0, 0, 0, 0) = qB (ρ.list 81) i := qsB_getD (by omega)
 rw [show ((i : Int) * 6 + 5).toNat = 6 * i + 5 by omega, hi, show ((i : Int) + 1).toNat = i + 1 by omega, show ((i : Int) * 6).toNat = 6 * i by omega, show ((i : Int) * 6 + 1).toNat = 6 * i + 1 by omega, show ((i : Int) * 6 + 2).toNat = 6 * i + 2 by omega, show ((i : Int) * 6 + 3).toNat = 6 * i + 3 by omega]
 have yes : mayQ (qB (ρ.list 81) i) ((ρ.list 89).getD 0 0) = true → ¬Can (qsB (ρ.list 81) ((ρ.list 82).getD 0 0).toNat) ((ρ.list 89).getD 1 0) (aftQ (qB (ρ.list 81) i) ((ρ.list 89).getD 0 0)) → spoilV (qsB (ρ.list 81) ((ρ.list 82).getD 0 0).toNat) ((ρ.list 89).getD 1 0) ((ρ.list 89).getD 0 0) i := fun h1 h2 => by
  unfold spoilV; rw [hg]; exact ⟨h1, h2⟩
 have no : spoilV (qsB (ρ.list 81) ((ρ.list 82).getD 0 0).toNat) ((ρ.list 89).getD 1 0) ((ρ.list 89).getD 0 0) i → mayQ (qB (ρ.list 81) i) ((ρ.list 89).getD 0 0) = true ∧ ¬Can (qsB (ρ.list 81) ((ρ.list 82).getD 0 0).toNat) ((ρ.list 89).getD 1 0) (aftQ (qB (ρ.list 81) i) ((ρ.list 89).getD 0 0)) := fun h => by
  unfold spoilV at h; rw [hg] at h; exact h
 refine ⟨by omega, fun _ _ _ _ => ⟨m, fun hm => ⟨⟨m, hm, hf⟩, fun _ r2 h2 => ⟨⟨B, h2.2, p⟩, fun _ _ hc _ _ _ r7 e7 _ _ => ⟨⟨hP, by omega, by omega, ?_, ?_, ?_⟩, by omega⟩, fun _ _ hc => ⟨⟨hP, by omega, by omega, ?_, l1, by omega⟩, by omega⟩⟩⟩, fun hm => ⟨⟨hP, by omega, by omega, ?_, l1, by omega⟩, by omega⟩⟩⟩
 ·rw [h2.1] at hc
  rw [selL_yes (yes hm hc), hs, e7]
 ·rw [e7, List.length_append, List.length_singleton]; omega
 ·rw [e7, List.length_append, List.length_singleton]; omega
 ·rw [h2.1] at hc
  rw [qfm (fun hn => (no hn).2 hc), hs]
 ·rw [qfm (fun hn => by have := (no hn).1; rw [show mayQ (qB (ρ.list 81) i) ((ρ.list 89).getD 0 0) = false from hm] at this; cases this), hs]
theorem v_Nd (P : Program) : V0 cNd (ndNd P) 20 (e_Nd P) := fun ρ hv hΓ hl hp => by
 simp only [VC, oblC, asmC, outAt, ndAt, allTrue, ve, BE.den, LX.den, nv, li, tT, e_Nd, toC9, toC14, toC36, toC10, toC22, toC30, toC13, kk19, vob, vsm, vap, ndNd, cNd, cNsX, qn, BnO_eq, qci, canR, nBe, cThN, cThX, PT_eq, cCan, mel] at hp ⊢
 simp only [vb, qaa, bdRest, bdList, hl, IE.den, forall_eq', implies_true, reduceIte, reduceCtorEq, Nat.reduceAdd, Nat.reduceSub, Nat.reduceLeDiff, Nat.reduceLT, Nat.reduceEqDiff] at hp ⊢
 obtain ⟨b, m, p, len⟩ := hp
 intros
 refine ⟨⟨b.1, m, p⟩, fun _ _ h => h, fun _ _ h => ⟨⟨b, m, p, len⟩, fun _ _ h2 => ⟨h, h2⟩, fun _ _ _ _ _ _ h2 => ⟨h, h2⟩⟩⟩
theorem v_Sp (P : Program) : V0 cSp (ndSp P) 20 (e_Sp P) := fun ρ hv hΓ hl hp => by
 simp only [VC, oblC, asmC, outAt, ndAt, allTrue, ve, BE.den, LX.den, nv, li, tT, e_Sp, toC9, toC14, toC36, toC10, toC22, toC30, toC13, kk19, vob, vsm, vap, ndSp, cSp, cNsX, qn, BnO_eq, qci, canR, nBe, cThS, cThX, PT_eq, cCan, mel] at hp ⊢
 simp only [vb, qaa, bdRest, bdList, hl, IE.den, forall_eq', implies_true, reduceIte, reduceCtorEq, Nat.reduceAdd, Nat.reduceSub, Nat.reduceLeDiff, Nat.reduceLT, Nat.reduceEqDiff] at hp ⊢
 obtain ⟨b, m, p, len⟩ := hp
 intros
 refine ⟨⟨b.1, m, p⟩, fun _ _ h => h, fun _ _ h => ⟨⟨b, m, p, len⟩, fun _ _ h2 => ⟨h, h2⟩, fun _ _ _ _ _ _ h2 => ⟨h, h2⟩⟩⟩
theorem v_Need (P : Program) : V0 cNeed (ndNeed P) 20 (e_Need P) := fun ρ hv hΓ hl hp => by
 simp only [VC, oblC, asmC, outAt, ndAt, allTrue, ve, BE.den, LX.den, nv, li, tT, e_Need, toC4, toC11, toC16, toC31, toC24, toC33, toC36, toC2, toC25, toC34, kk19, vob, vsm, vap, ndNeed, cNeed, cNeX, cNsX, cAt1, cNd, qn, qa, pAg, pA, BnO_eq, qci, nBe, mel] at hp ⊢
 simp only [vb, qaa, bdRest, bdList, hl, IE.den, forall_eq', implies_true, reduceIte, reduceCtorEq, Nat.reduceAdd, Nat.reduceSub, Nat.reduceLeDiff, Nat.reduceLT, Nat.reduceEqDiff] at hp ⊢
 obtain ⟨⟨n1, ag⟩, m, p⟩ := hp
 have m63 := qbp m.1 (by omega)
 have p63 := qbp p.1 (by omega)
 refine fun _ _ => ⟨fun h => absurd m63 h, fun _ => ⟨fun h => absurd p63 h, fun _ _ _ => ⟨⟨n1, ag⟩, fun _ r _ _ hx => ?_⟩⟩⟩
 obtain ⟨-, e, l⟩ := hx
 rw [l, Int.mul_comm, Int.mul_tdiv_cancel _ (by decide), e, qsB_bench]
 exact ⟨⟨bnO_bench n1 ag, m, p, Int.mul_comm _ _⟩, fun h => h, fun h => h, fun _ _ _ _ h => h⟩
theorem v_Spoil (P : Program) : V0 cSpoil (ndSpoil P) 20 (e_Spoil P) := fun ρ hv hΓ hl hp => by
 simp only [VC, oblC, asmC, outAt, ndAt, allTrue, ve, BE.den, LX.den, nv, li, tT, e_Spoil, toC5, toC11, toC16, toC31, toC24, toC33, toC36, toC3, toC25, toC34, kk19, vob, vsm, vap, ndSpoil, cSpoil, cNeX, cNsX, cAt1, cSp, qn, qa, pAg, pA, BnO_eq, qci, nBe, mel] at hp ⊢
 simp only [vb, qaa, bdRest, bdList, hl, IE.den, forall_eq', implies_true, reduceIte, reduceCtorEq, Nat.reduceAdd, Nat.reduceSub, Nat.reduceLeDiff, Nat.reduceLT, Nat.reduceEqDiff] at hp ⊢
 obtain ⟨⟨n1, ag⟩, m, p⟩ := hp
 have m63 := qbp m.1 (by omega)
 have p63 := qbp p.1 (by omega)
 refine fun _ _ => ⟨fun h => absurd m63 h, fun _ => ⟨fun h => absurd p63 h, fun _ _ _ => ⟨⟨n1, ag⟩, fun _ r _ _ hx => ?_⟩⟩⟩
 obtain ⟨-, e, l⟩ := hx
 rw [l, Int.mul_comm, Int.mul_tdiv_cancel _ (by decide), e, qsB_bench]
 exact ⟨⟨bnO_bench n1 ag, m, p, Int.mul_comm _ _⟩, fun h => h, fun h => h, fun _ _ _ _ h => h⟩
theorem v_Short (P : Program) : V0 cShort (ndShort P) 20 (e_Short P) := fun ρ hv hΓ hl hp => by
 simp only [VC, oblC, asmC, outAt, ndAt, allTrue, ve, BE.den, LX.den, nv, li, tT, e_Short, toC1, toC7, toC8, toC31, toC24, toC33, toC36, toC0, toC25, toC34, kk19, vob, vsm, vap, ndShort, cShort, cAt1, cClear, nonC, fouC, s3, G3_eq, qa, pAg, pA, qci, nBe, mel] at hp ⊢
 simp only [vb, qaa, bdRest, bdList, hl, IE.den, forall_eq', implies_true, reduceIte, reduceCtorEq, Nat.reduceAdd, Nat.reduceSub, Nat.reduceLeDiff, Nat.reduceLT, Nat.reduceEqDiff] at hp ⊢
 obtain ⟨⟨n1, ag⟩, m, p⟩ := hp
 have m63 := qbp m.1 (by omega)
 have p63 := qbp p.1 (by omega)
 refine fun _ _ => ⟨fun h => absurd m63 h, fun _ => ⟨fun h => absurd p63 h, fun _ _ _ => ⟨⟨n1, ag⟩, fun _ r _ _ hx => ?_⟩⟩⟩
 obtain ⟨-, e, l⟩ := hx
 rw [l, Int.mul_comm, Int.mul_tdiv_cancel _ (by decide), e, ← qsB_bench]
 have b := (bnO_bench n1 ag).1
 intros
 exact ⟨⟨b, ⟨m, m, m⟩, p, by decide, by decide⟩, fun _ _ h => none_can (fun i hi => b.2.2.2 i (by omega)) (by have := b.2.1; omega) m h, fun _ _ h => found_can h, fun _ _ _ _ _ _ _ _ _ _ h => found_can h.1⟩
theorem v_Foll (P : Program) : V0 cFoll (ndFoll P) 22 (e_Foll P) := fun ρ hv hΓ hl hp => by
 simp only [VC, outAt, ndAt, allTrue, ve, BE.den, LX.den, nv, li, tT, e_Foll, kk21, vap, ndFoll, cFoll, pA, mel] at hp ⊢
 simp only [vb, qaa, bdRest, bdList, hl, IE.den, forall_eq', implies_true, reduceIte, reduceCtorEq, Nat.reduceAdd, Nat.reduceSub, Nat.reduceLeDiff, Nat.reduceLT, Nat.reduceEqDiff] at hp ⊢
 obtain ⟨⟨n1, ag⟩, m, x0, x1⟩ := hp
 generalize (ρ.list 85).getD 0 0 = i at *
 obtain ⟨i, rfl⟩ := Int.eq_ofNat_of_zero_le x0
 have hl := ag.1
 obtain ⟨-, -, c, d, -⟩ := ag.2.2 i (by omega)
 rw [show ((i : Int) * 5).toNat = 5 * i by omega, show ((i : Int) * 5 + 1).toNat = 5 * i + 1 by omega, show ((i : Int) * 5 + 2).toNat = 5 * i + 2 by omega, show ((i : Int) * 5 + 3).toNat = 5 * i + 3 by omega, Int.toNat_natCast]
 have e : mayQ (qA (ρ.list 81) i) ((ρ.list 83).getD 0 0) = (decide (bitsOf .and .i64 ((ρ.list 83).getD 0 0) ((ρ.list 81).getD (5 * i) 0) = (ρ.list 81).getD (5 * i) 0) && decide (bitsOf .and .i64 ((ρ.list 83).getD 0 0) ((ρ.list 81).getD (5 * i + 1) 0) = 0)) := rfl
 rw [e]
 refine ⟨fun h => by omega, fun _ => ⟨⟨by omega, by omega⟩, fun _ _ => ⟨fun h => by rw [decide_eq_false h]; rfl, fun h1 => ⟨fun h => by rw [decide_eq_false h, Bool.and_false], fun h2 => ⟨by rw [decide_eq_true h1, decide_eq_true h2]; rfl, rfl, ?_⟩⟩⟩⟩⟩
 exact aftA_rng ⟨c.1, by omega⟩ ⟨d.1, by omega⟩ m
theorem v_ShortN (P : Program) : V0 cShortN (ndShortN P) 17 (e_ShortN P) := fun ρ hv hΓ hl hp => by
 simp only [VC, outAt, ndAt, allTrue, ve, BE.den, LX.den, nv, tT, e_ShortN, toD1, ndShortN, cShortN, cNoX, mel, can_none] at hp ⊢
 simp only [vb, qaa, bdRest, bdList, hl, IE.den, forall_eq', implies_true, reduceIte, reduceCtorEq, Nat.reduceAdd, Nat.reduceSub, Nat.reduceLeDiff, Nat.reduceLT, Nat.reduceEqDiff] at hp ⊢
 obtain ⟨m, p⟩ := hp
 have m63 := qbp m.1 (by omega)
 have p63 := qbp p.1 (by omega)
 refine fun _ _ => ⟨fun h => absurd m63 h, fun _ => ⟨fun h => absurd p63 h, fun _ => ?_⟩⟩
 intros
 by_cases hc : bitsOf .andNot .i64 ((ρ.list 80).getD 0 0) ((ρ.list 80).getD 1 0) = 0
 ·refine ⟨fun _ => hc, fun h => ?_⟩
  simp only [if_pos hc] at h
  cases h
 ·refine ⟨fun h => ?_, fun _ => ?_⟩
  ·simp only [if_neg hc] at h
   cases h
  ·intros
   exact hc
theorem v_NeedN (P : Program) : V0 cNeedN (ndNeedN P) 17 (e_NeedN P) := fun ρ hv hΓ hl hp => by
 simp only [VC, outAt, ndAt, allTrue, ve, BE.den, LX.den, nv, tT, e_NeedN, toD0, toD1, ndNeedN, cNeedN, cNoX, mel, can_none] at hp ⊢
 simp only [vb, qaa, bdRest, bdList, hl, IE.den, forall_eq', implies_true, reduceIte, reduceCtorEq, Nat.reduceAdd, Nat.reduceSub, Nat.reduceLeDiff, Nat.reduceLT, Nat.reduceEqDiff] at hp ⊢
 obtain ⟨m, p⟩ := hp
 have m63 := qbp m.1 (by omega)
 have p63 := qbp p.1 (by omega)
 refine fun _ _ => ⟨fun h => absurd m63 h, fun _ => ⟨fun h => absurd p63 h, fun _ => ?_⟩⟩
 intros
 by_cases hc : bitsOf .andNot .i64 ((ρ.list 80).getD 0 0) ((ρ.list 80).getD 1 0) = 0
 ·refine ⟨fun _ => hc, fun h => ?_⟩
  simp only [if_pos hc] at h
  cases h
 ·refine ⟨fun h => ?_, fun _ => ?_⟩
  ·simp only [if_neg hc] at h
   cases h
  ·intros
   exact hc
theorem v_SpoilN (P : Program) : V0 cSpoilN (ndSpoilN P) 17 (e_SpoilN P) := fun ρ hv hΓ hl hp => by
 simp only [VC, outAt, ndAt, allTrue, ve, BE.den, LX.den, nv, tT, e_SpoilN, toD0, toD1, ndSpoilN, cSpoilN, cNoX, mel, can_none] at hp ⊢
 simp only [vb, qaa, bdRest, bdList, hl, IE.den, forall_eq', implies_true, reduceIte, reduceCtorEq, Nat.reduceAdd, Nat.reduceSub, Nat.reduceLeDiff, Nat.reduceLT, Nat.reduceEqDiff] at hp ⊢
 obtain ⟨m, p⟩ := hp
 have m63 := qbp m.1 (by omega)
 have p63 := qbp p.1 (by omega)
 refine fun _ _ => ⟨fun h => absurd m63 h, fun _ => ⟨fun h => absurd p63 h, fun _ => ?_⟩⟩
 intros
 by_cases hc : bitsOf .andNot .i64 ((ρ.list 80).getD 0 0) ((ρ.list 80).getD 1 0) = 0
 ·refine ⟨fun _ => hc, fun h => ?_⟩
  simp only [if_pos hc] at h
  cases h
 ·refine ⟨fun h => ?_, fun _ => ?_⟩
  ·simp only [if_neg hc] at h
   cases h
  ·intros
   exact hc
def twT0 : VT := .ret 0 [.keep 16, .keep 17, .keep 18, .ints [(.add (h0 82) (oN 1)), (.bits .xor .u64 (.wrap .u64 (.mul (.bits .xor .u64 (hN 82 1) (.add (h0 82) (oN 1))) (oN 10723151780598845931))) (.shr .u64 (.wrap .u64 (.mul (.bits .xor .u64 (hN 82 1) (.add (h0 82) (oN 1))) (oN 10723151780598845931))) (oN 31)))], .ints [(.shr .u64 (.bits .xor .u64 (.wrap .u64 (.mul (.bits .xor .u64 (.wrap .u64 (.mul (.bits .xor .u64 (hN 82 1) (.add (h0 82) (oN 1))) (oN 10723151780598845931))) (.shr .u64 (.wrap .u64 (.mul (.bits .xor .u64 (hN 82 1) (.add (h0 82) (oN 1))) (oN 10723151780598845931))) (oN 31))) (oN 15485907386658061715))) (.shr .u64 (.wrap .u64 (.mul (.bits .xor .u64 (.wrap .u64 (.mul (.bits .xor .u64 (hN 82 1) (.add (h0 82) (oN 1))) (oN 10723151780598845931))) (.shr .u64 (.wrap .u64 (.mul (.bits .xor .u64 (hN 82 1) (.add (h0 82) (oN 1))) (oN 10723151780598845931))) (oN 31))) (oN 15485907386658061715))) (oN 32))) (oN 9))]]
def twT16 : Bd := .ints [(.sub (h0 82) (oN 1))]
def twT1 : List Bd := [.keep 16, .keep 17, twT16, .ints [(h0 102), (hN 102 1)]]
def twT2 : List Bd := [.keep 16, .keep 17, twT16, .ints [(h0 100), (hN 100 1)]]
def twT17 : Bd := .ints [(h0 83), (hN 83 1)]
def twT3 : List Bd := [.keep 16, .keep 17, twT16, twT17]
def twT4 : List Bd := [.keep 16, .keep 17, twT16, .ints [(h0 98), (hN 98 1)]]
def twT5 : List Bd := [.keep 16, .keep 17, .ints [(.sub (h0 82) (oN 0))], twT17]
def twT6 : List Bd := [.keep 16, .keep 17, .ints [(hN 82 1)], .ints [(h0 85), (hN 85 1)]]
def twT7 : List Bd := [.keep 16, .keep 17, .ints [(oN 2)], .ints [(h0 100), (hN 100 1)]]
def twT8 : List Bd := [.keep 16, .keep 17, .ints [(h0 82)], .ints [(h0 85), (hN 85 1)]]
def twT9 : List Bd := [.keep 16, .keep 17, .ints [(h0 82)], .ints [(h0 87), (hN 87 1)]]
def twT10 : List Bd := [.keep 16, .keep 17, .ints [(h0 82)], .ints [(h0 91), (hN 91 1)]]
def twT11 : List Bd := [.keep 16, .keep 17, .ints [(h0 82)], .ints [(h0 94), (hN 94 1)]]
def twT12 : List Bd := [.keep 16, .keep 17, .ints [(oN 2)], .ints [(h0 85), (hN 85 1)]]
def twT13 : List Bd := [.keep 16, .keep 17, .ints [(oN 8)], .ints [(h0 89), (hN 89 1)]]
def twT14 : List Bd := [.keep 16, .keep 17, .ints [(oN 2)], .ints [(h0 96), (hN 96 1)]]
def twT15 : List Bd := [.keep 16, .keep 17, .ints [(oN 2)], .ints [(h0 98), (hN 98 1)]]
def e_Stir (P : Program) : VT := .branch (.var 0) twT0 (.branch (.lt (h0 82) (.var 1)) (.need [(.le (oN 0) (.var 0))] (.need [(.le (oN 0) (.var 0)), (.lt (h0 82) (.len 0))] (.ret 0 [.keep 16, .keep 17, .keep 18, .ints [(.add (h0 82) (oN 1)), (.bits .xor .u64 (.wrap .u64 (.mul (.bits .xor .u64 (hN 82 1) (.bits .xor .u64 (.add (h0 82) (oN 1)) (.wrap .u64 (.mul (.wrap .u64 (.nth 0 (h0 82))) (oN 13787848793156543929))))) (oN 10723151780598845931))) (.shr .u64 (.wrap .u64 (.mul (.bits .xor .u64 (hN 82 1) (.bits .xor .u64 (.add (h0 82) (oN 1)) (.wrap .u64 (.mul (.wrap .u64 (.nth 0 (h0 82))) (oN 13787848793156543929))))) (oN 10723151780598845931))) (oN 31)))], .ints [(.shr .u64 (.bits .xor .u64 (.wrap .u64 (.mul (.bits .xor .u64 (.wrap .u64 (.mul (.bits .xor .u64 (hN 82 1) (.bits .xor .u64 (.add (h0 82) (oN 1)) (.wrap .u64 (.mul (.wrap .u64 (.nth 0 (h0 82))) (oN 13787848793156543929))))) (oN 10723151780598845931))) (.shr .u64 (.wrap .u64 (.mul (.bits .xor .u64 (hN 82 1) (.bits .xor .u64 (.add (h0 82) (oN 1)) (.wrap .u64 (.mul (.wrap .u64 (.nth 0 (h0 82))) (oN 13787848793156543929))))) (oN 10723151780598845931))) (oN 31))) (oN 15485907386658061715))) (.shr .u64 (.wrap .u64 (.mul (.bits .xor .u64 (.wrap .u64 (.mul (.bits .xor .u64 (hN 82 1) (.bits .xor .u64 (.add (h0 82) (oN 1)) (.wrap .u64 (.mul (.wrap .u64 (.nth 0 (h0 82))) (oN 13787848793156543929))))) (oN 10723151780598845931))) (.shr .u64 (.wrap .u64 (.mul (.bits .xor .u64 (hN 82 1) (.bits .xor .u64 (.add (h0 82) (oN 1)) (.wrap .u64 (.mul (.wrap .u64 (.nth 0 (h0 82))) (oN 13787848793156543929))))) (oN 10723151780598845931))) (oN 31))) (oN 15485907386658061715))) (oN 32))) (oN 9))]]))) twT0)
def e_To (P : Program) : VT := vob cStir [.keep 16, .keep 17, twT17] (.new (.new (vsm cStir 0 (vap [.keep 16, .keep 17, twT17] [.keep 20, .keep 21]) (.branch (.lt (h0 82) (oN 1)) (.ret 0 (vap kk19 [.ints [(h0 84), (hN 84 1)], .ints [(oN 0)]])) (.need [(.not (.eq (.wrap .u64 (.add (.wrap .u64 (h0 82)) (oN 1))) (oN 0)))] (.ret 0 (vap kk19 [.ints [(h0 84), (hN 84 1)], .ints [(.wrap .i64 (.rem (h0 85) (.wrap .u64 (.add (.wrap .u64 (h0 82)) (oN 1)))))]])))))))
def e_Faults (P : Program) : VT := .jump 0 (vap kk19 [.ints [(oN 0), (oN 0)], twT17]) (ndAt (ndFaults P) 0).items
def n_Faults_0 (P : Program) : VT := .branch (.lt (hN 84 1) (h0 82)) (vob cTo twT12 (.new (.new (vsm cTo 0 (vap twT12 [.keep 22, .keep 23]) (.branch (.eq (h0 87) (oN 0)) (.jump 0 (vap kk19 [.ints [(.wrap .i64 (.add (h0 84) (.wrap .i64 (.shl .i64 (oN 1) (hN 84 1))))), (.add (hN 84 1) (oN 1))], .ints [(h0 86), (hN 86 1)]]) (ndAt (ndFaults P) 0).items) (.jump 0 (vap kk19 [.ints [(h0 84), (.add (hN 84 1) (oN 1))], .ints [(h0 86), (hN 86 1)]]) (ndAt (ndFaults P) 0).items)))))) (.ret 0 (vap kk19 [.ints [(h0 85), (hN 85 1)], .ints [(h0 84)]]))
def e_Agent (P : Program) : VT := .new (vob cTo twT3 (.new (.new (vsm cTo 0 (vap twT3 [.keep 21, .keep 22]) (vob cFaults twT8 (.new (.new (vsm cFaults 0 (vap twT8 [.keep 23, .keep 24]) (vob cFaults twT9 (.new (.new (vsm cFaults 0 (vap twT9 [.keep 25, .keep 26]) (vob cTo twT13 (.new (.new (vsm cTo 0 (vap twT13 [.keep 27, .keep 28]) (.new (vob cFaults twT10 (.new (.new (vsm cFaults 0 (vap twT10 [.keep 30, .keep 31]) (vob cFaults twT11 (.new (.new (vsm cFaults 0 (vap twT11 [.keep 32, .keep 33]) (vob cTo twT14 (.new (.new (vsm cTo 0 (vap twT14 [.keep 34, .keep 35]) (.branch (.not (.eq (h0 99) (oN 0))) (vob cTo twT4 (.new (.new (vsm cTo 0 (vap twT4 [.keep 36, .keep 37]) (vob cTo twT7 (.new (.new (vsm cTo 0 (vap twT7 [.keep 38, .keep 39]) (.branch (.eq (h0 103) (oN 0)) (vob cTo twT1 (.new (.new (vsm cTo 0 (vap twT1 [.keep 40, .keep 41]) (.ret 0 (vap kk19 [.ints [(h0 104), (hN 104 1)], .ints [(.wrap .i64 (.shl .i64 (oN 1) (h0 101))), (.bits .andNot .i64 (.wrap .i64 (.shl .i64 (oN 1) (h0 105))) (.wrap .i64 (.shl .i64 (oN 1) (h0 101)))), (.bits .or .i64 (.wrap .i64 (.shl .i64 (oN 1) (h0 86))) (.bits .and .i64 (h0 95) (h0 97))), (.bits .and .i64 (h0 88) (h0 90)), (.wrap .i64 (.add (oN 1) (h0 92)))]])))))) (.ret 0 (vap kk19 [.ints [(h0 102), (hN 102 1)], .ints [(.wrap .i64 (.shl .i64 (oN 1) (h0 101))), (oN 0), (.bits .or .i64 (.wrap .i64 (.shl .i64 (oN 1) (h0 86))) (.bits .and .i64 (h0 95) (h0 97))), (.bits .and .i64 (h0 88) (h0 90)), (.wrap .i64 (.add (oN 1) (h0 92)))]]))))))))))) (vob cTo twT15 (.new (.new (vsm cTo 0 (vap twT15 [.keep 36, .keep 37]) (.branch (.eq (h0 101) (oN 0)) (vob cTo twT2 (.new (.new (vsm cTo 0 (vap twT2 [.keep 38, .keep 39]) (.ret 0 (vap kk19 [.ints [(h0 102), (hN 102 1)], .ints [(oN 0), (.bits .andNot .i64 (.wrap .i64 (.shl .i64 (oN 1) (h0 103))) (oN 0)), (.bits .or .i64 (.wrap .i64 (.shl .i64 (oN 1) (h0 86))) (.bits .and .i64 (h0 95) (h0 97))), (.bits .and .i64 (h0 88) (h0 90)), (.wrap .i64 (.add (oN 1) (h0 92)))]])))))) (.ret 0 (vap kk19 [.ints [(h0 100), (hN 100 1)], .ints [(oN 0), (oN 0), (.bits .or .i64 (.wrap .i64 (.shl .i64 (oN 1) (h0 86))) (.bits .and .i64 (h0 95) (h0 97))), (.bits .and .i64 (h0 88) (h0 90)), (.wrap .i64 (.add (oN 1) (h0 92)))]])))))))))))))))))))))))))))))))))))))
def e_Agents (P : Program) : VT := vob cTo twT5 (.new (.new (vsm cTo 0 (vap twT5 [.keep 20, .keep 21]) (.jump 0 (vap kk19 [.ints [(.wrap .i64 (h0 85))], .ints [(h0 84), (hN 84 1)]]) (ndAt (ndAgents P) 0).items))))
def n_Agents_0 (P : Program) : VT := .branch (.lt (oN 0) (h0 84)) (vob cAgent twT6 (.new (.new (vsm cAgent 0 (vap twT6 [.keep 22, .keep 23]) (.new (.new (.jump 1 (vap kk19 [.ints [(.sub (h0 84) (oN 1))], .ints [(h0 86), (hN 86 1)], .keep 25, .ints [(h0 87), (hN 87 1), (hN 87 2), (hN 87 3), (hN 87 4)]]) (ndAt (ndAgents P) 1).items))))))) (.ret 0 (vap kk19 [.ints [(h0 85), (hN 85 1)]]))
def n_Agents_1 (P : Program) : VT := .branch (.lt (oN 0) (h0 84)) (vob cAgent twT6 (.new (.new (vsm cAgent 0 (vap twT6 [.keep 24, .keep 25]) (.new (.need [(.eq (.mul (.quo (.len 87) (oN 5)) (oN 5)) (.len 87))] (.new (.asm (appAsm 27 (.whole 87) (.lits [(h0 89), (hN 89 1), (hN 89 2), (hN 89 3), (hN 89 4)])) (.new (.jump 1 (vap kk19 [.ints [(.sub (h0 84) (oN 1))], .ints [(h0 88), (hN 88 1)], .keep 28, .lst 91]) (ndAt (ndAgents P) 1).items)))))))))) (.ret 1 (vap kk19 [.ints [(h0 85), (hN 85 1)], .keep 22, .lst 87]))
theorem v_Stir (P : Program) : V0 cStir (ndStir P) 19 (e_Stir P) := fun ρ hv hΓ hl hp => by
 simp only [VC, outAt, ndAt, allTrue, ve, BE.den, LX.den, nv, rowP, tT, e_Stir, twT0, cStir] at hp ⊢
 simp only [qbk, qam, bdList, qab, hl, qed, qdm, qdf, qcr, List.getD_cons_zero, List.getD_cons_succ, List.map_cons, List.map_nil, Nat.reduceAdd, Nat.reduceSub, Nat.reduceLeDiff, Nat.reduceLT, Nat.reduceEqDiff, if_true, if_false, reduceIte, IE.den, qfp, hN_den, qdh, decide_eq_true_eq, decide_eq_false_iff_not, beq_iff_eq, beq_eq_false_iff_ne, ne_eq, Option.some.injEq, reduceCtorEq, forall_eq', true_and, false_implies, implies_true, and_true, natLit, bits64, bitsU64, Int.one_mul] at hp ⊢
 have nn2 : ∀ op x y (n : Nat), 0 ≤ (bitsOf op .u64 x y).fdiv (2 ^ n) := fun op x y n => fdiv_nn (bits_u64_nn _ _ _) (by
  have : ((2 : Int) ^ n) = ((2 ^ n : Nat) : Int) := by norm_cast
  rw [this]; exact Int.natCast_nonneg _)
 refine ⟨fun _ => nn2 _ _ _ _, fun _ => ⟨fun h => ⟨decide_eq_true hp.1.2, ⟨decide_eq_true hp.1.2, by omega⟩, nn2 _ _ _ _⟩, fun _ => nn2 _ _ _ _⟩⟩
theorem v_To (P : Program) : V0 cTo (ndTo P) 20 (e_To P) := fun ρ hv hΓ hl hp => by
 simp only [VC, oblC, asmC, outAt, ndAt, allTrue, ve, BE.den, LX.den, nv, rowP, tT, e_To, twT17, kk19, vob, vsm, vap, cTo, cStir] at hp ⊢
 simp only [qbk, qam, bdList, qab, hl, qed, qdm, qdf, qcr, List.getD_cons_zero, List.getD_cons_succ, List.map_cons, List.map_nil, Nat.reduceAdd, Nat.reduceSub, Nat.reduceLeDiff, Nat.reduceLT, Nat.reduceEqDiff, if_true, if_false, reduceIte, IE.den, qfp, hN_den, qdh, decide_eq_true_eq, decide_eq_false_iff_not, beq_iff_eq, beq_eq_false_iff_ne, ne_eq, Option.some.injEq, reduceCtorEq, forall_eq', true_and, false_implies, implies_true, and_true, natLit, bits64, bitsU64, Int.one_mul] at hp ⊢
 obtain ⟨p1, p2, p3, p4, p5⟩ := hp
 refine ⟨⟨p1, p2, p3⟩, fun b r b' r' ⟨q1, q2⟩ => ⟨fun h => ⟨q1, by omega, p5⟩, fun h => ?_⟩⟩
 have w1 : IntKind.u64.wrap ((ρ.list 82).getD 0 0) = (ρ.list 82).getD 0 0 := wrapu64_fit (by omega) (by omega)
 have w2 : IntKind.u64.wrap ((ρ.list 82).getD 0 0 + 1) = (ρ.list 82).getD 0 0 + 1 := wrapu64_fit (by omega) (by omega)
 rw [w1, w2]
 have hr := tmod_rng (x := (List.map intOf r').getD 0 0) (m := (ρ.list 82).getD 0 0 + 1) q2 (by omega)
 rw [qcc (by omega) (by omega)]
 refine ⟨?_, q1, hr.1, by omega⟩
 simp only [Bool.not_eq_true', beq_eq_false_iff_ne]
 omega
theorem v_Faults (P : Program) : V0 cFaults (ndFaults P) 20 (e_Faults P) := fun ρ hv hΓ hl hp => by
 simp only [VC, outAt, ndAt, allTrue, ve, BE.den, LX.den, nv, rowP, tT, e_Faults, twT17, kk19, vap, ndFaults, cFaults] at hp ⊢
 simp only [vb, bdList, hl, IE.den, forall_eq', implies_true, reduceIte, reduceCtorEq, Nat.reduceAdd, Nat.reduceSub, Nat.reduceLeDiff, Nat.reduceLT, Nat.reduceEqDiff] at hp ⊢
 obtain ⟨p1, p2, p3, p4, p5⟩ := hp
 exact ⟨p1, by omega, by omega, by omega, p5, by decide, by omega, p2, p3⟩
theorem pow_step {i n : Int} (h0 : 0 ≤ i) (h1 : i ≤ 6) (hn : 0 ≤ n) (hn' : n < 2 ^ i.toNat) : IntKind.i64.wrap (n + IntKind.i64.wrap ((2 : Int) ^ (Nat.min i.toNat 64))) = n + 2 ^ i.toNat ∧ 0 ≤ n + 2 ^ i.toNat ∧ n + 2 ^ i.toNat < 2 ^ (i + 1).toNat ∧ n < 2 ^ (i + 1).toNat := by
 rw [(shl_one h0 (by omega)).2]
 have e : (i + 1).toNat = i.toNat + 1 := by omega
 have h := Nat.pow_le_pow_right (n := 2) (by decide) (show i.toNat ≤ 6 by omega)
 have e2 : ((2 : Int) ^ i.toNat) = ((2 ^ i.toNat : Nat) : Int) := by norm_cast
 rw [e, Int.pow_succ]
 rw [e2] at hn' ⊢
 generalize 2 ^ i.toNat = N at *
 rw [qcc (by omega) (by omega)]
 omega
theorem v_Faults_0 (P : Program) : VN cFaults (ndFaults P) 0 22 (n_Faults_0 P) := fun ρ hv hΓ hl hp => by
 simp only [VC, oblC, asmC, outAt, ndAt, allTrue, ve, BE.den, LX.den, nv, rowP, tT, n_Faults_0, twT12, kk19, vob, vsm, vap, ndFaults, cFaults, cTo] at hp ⊢
 simp only [vb, bdList, hl, IE.den, forall_eq', implies_true, reduceIte, reduceCtorEq, Nat.reduceAdd, Nat.reduceSub, Nat.reduceLeDiff, Nat.reduceLT, Nat.reduceEqDiff] at hp ⊢
 obtain ⟨p1, p2, p3, p4, p5, p6, p7, p8, p9⟩ := hp
 refine ⟨fun hlt => ⟨⟨p1, by omega, by omega, by omega, by omega⟩, fun b r b' r' ⟨q1, q2, q3⟩ => ?_⟩, fun hge => ⟨by omega, by omega, p2, ?_, p5⟩⟩
 ·obtain ⟨s1, s2, s3, s4⟩ := pow_step p3 (by omega) p2 p6
  exact ⟨fun _ => ⟨⟨p1, by exact s1 ▸ s2, by omega, by omega, p5, by exact s1 ▸ s3, by omega, p8, p9⟩, by omega⟩, fun _ => ⟨⟨p1, p2, by omega, by omega, p5, s4, by omega, p8, p9⟩, by omega⟩⟩
 ·rw [show (ρ.list 82).getD 0 0 = (ρ.list 84).getD 1 0 by omega]; exact p6
theorem v_Agent (P : Program) : V0 cAgent (ndAgent P) 20 (e_Agent P) := fun ρ hv hΓ hl hp => by
 simp only [VC, oblC, asmC, outAt, ndAt, allTrue, ve, BE.den, LX.den, nv, li, rowP, tT, e_Agent, twT2, twT16, twT15, twT1, twT7, twT4, twT14, twT11, twT10, twT13, twT9, twT8, twT3, twT17, kk19, vob, vsm, vap, ndAgent, cAgent, cTo, cFaults, agV, andI] at hp ⊢
 simp only [vb, bdList, hl, IE.den, forall_eq', implies_true, reduceIte, reduceCtorEq, Nat.reduceAdd, Nat.reduceSub, Nat.reduceLeDiff, Nat.reduceLT, Nat.reduceEqDiff] at hp ⊢
 obtain ⟨p1, p2, p3, p4, p5⟩ := hp
 have S : ∀ x : Int, 0 ≤ x → x ≤ (ρ.list 82).getD 0 0 - 1 → 0 ≤ IntKind.i64.wrap ((2 : Int) ^ (Nat.min x.toNat 64)) ∧ IntKind.i64.wrap ((2 : Int) ^ (Nat.min x.toNat 64)) < 2 ^ ((ρ.list 82).getD 0 0).toNat := fun x h0 h1 => shl_rng h0 h1 (by omega)
 have hk : ((ρ.list 82).getD 0 0).toNat ≤ 61 := by omega
 have W6 : ∀ x : Int, x < 2 ^ ((ρ.list 82).getD 0 0).toNat → x < 2 ^ 61 := fun x => pow_lt61 (by omega) (by omega)
 have Z : (0 : Int) < 2 ^ ((ρ.list 82).getD 0 0).toNat := pow_pos_
 intro _ _
 refine ⟨⟨p1, by omega, by omega, by omega, by omega⟩, ?_⟩
 rintro _ r1 _ x1 ⟨a1, a2, a3⟩
 generalize (List.map intOf r1).getD 0 0 = t1 at *
 generalize (List.map intOf x1).getD 0 0 = y1 at *
 refine ⟨⟨p1, by omega, by omega, by omega, by omega⟩, ?_⟩
 rintro _ r2 _ x2 ⟨b1, b2, b3, b4, _⟩
 generalize (List.map intOf r2).getD 0 0 = t2 at *
 generalize (List.map intOf x2).getD 0 0 = y2 at *
 refine ⟨⟨p1, by omega, by omega, by omega, by omega⟩, ?_⟩
 rintro _ r3 _ x3 ⟨c1, c2, c3, c4, _⟩
 generalize (List.map intOf r3).getD 0 0 = t3 at *
 generalize (List.map intOf x3).getD 0 0 = y3 at *
 refine ⟨⟨p1, by omega, by omega, by omega, by omega⟩, ?_⟩
 rintro _ r4 _ x4 ⟨d1, d2, d3⟩
 generalize (List.map intOf r4).getD 0 0 = t4 at *
 generalize (List.map intOf x4).getD 0 0 = y4 at *
 intro _ _
 refine ⟨⟨p1, by omega, by omega, by omega, by omega⟩, ?_⟩
 rintro _ r5 _ x5 ⟨e1, e2, e3, e4, _⟩
 generalize (List.map intOf r5).getD 0 0 = t5 at *
 generalize (List.map intOf x5).getD 0 0 = y5 at *
 refine ⟨⟨p1, by omega, by omega, by omega, by omega⟩, ?_⟩
 rintro _ r6 _ x6 ⟨f1, f2, f3, f4, _⟩
 generalize (List.map intOf r6).getD 0 0 = t6 at *
 generalize (List.map intOf x6).getD 0 0 = y6 at *
 have k1 := S y1 a2 (by omega)
 have k2 := and_rng hk b3 b4 c3 c4
 have k3 := and_rng hk e3 e4 f3 f4
 have k4 := or_rng hk k1.1 k1.2 k3.1 k3.2
 have k5 : IntKind.i64.wrap (1 + y4) = 1 + y4 := qcc (by omega) (by omega)
 rw [k5]
 refine ⟨⟨p1, by omega, by omega, by omega, by omega⟩, ?_⟩
 rintro _ r7 _ x7 ⟨g1, g2, g3⟩
 generalize (List.map intOf r7).getD 0 0 = t7 at *
 generalize (List.map intOf x7).getD 0 0 = y7 at *
 refine ⟨fun _ => ⟨⟨p1, by omega, by omega, by omega, by omega⟩, ?_⟩, fun _ => ⟨⟨p1, by omega, by omega, by omega, by omega⟩, ?_⟩⟩
 ·rintro _ r8 _ x8 ⟨i1, i2, i3⟩
  generalize (List.map intOf r8).getD 0 0 = t8 at *
  generalize (List.map intOf x8).getD 0 0 = y8 at *
  have k6 := S y8 i2 (by omega)
  refine ⟨⟨p1, by omega, by omega, by omega, by omega⟩, ?_⟩
  rintro _ r9 _ x9 ⟨j1, j2, j3⟩
  generalize (List.map intOf r9).getD 0 0 = t9 at *
  generalize (List.map intOf x9).getD 0 0 = y9 at *
  refine ⟨fun _ => ⟨⟨p1, by omega, by omega, by omega, by omega⟩, ?_⟩, fun _ => ⟨by omega, by omega, k6, ⟨Int.le_refl 0, Z⟩, k4, k2, by omega, by omega, and_zero_r k6.1 (W6 _ k6.2)⟩⟩
  rintro _ ra _ xa ⟨l1, l2, l3⟩
  have k7 := S _ l2 (by omega)
  exact ⟨by omega, by omega, k6, andNot_rng hk k7.1 k7.2 k6.1 k6.2, k4, k2, by omega, by omega, and_andNot k7.1 (W6 _ k7.2) k6.1 (W6 _ k6.2)⟩
 ·rintro _ r9 _ x9 ⟨j1, j2, j3⟩
  generalize (List.map intOf r9).getD 0 0 = t9 at *
  generalize (List.map intOf x9).getD 0 0 = y9 at *
  refine ⟨fun _ => ⟨⟨p1, by omega, by omega, by omega, by omega⟩, ?_⟩, fun _ => ⟨by omega, by omega, ⟨Int.le_refl 0, Z⟩, ⟨Int.le_refl 0, Z⟩, k4, k2, by omega, by omega, and_zero_r (Int.le_refl 0) (W6 0 Z)⟩⟩
  rintro _ ra _ xa ⟨l1, l2, l3⟩
  have k7 := S _ l2 (by omega)
  have k8 := andNot_rng hk k7.1 k7.2 (Int.le_refl 0) Z
  exact ⟨by omega, by omega, ⟨Int.le_refl 0, Z⟩, k8, k4, k2, by omega, by omega, and_zero_l k8.1 (W6 _ k8.2)⟩
theorem agV_five {f : Nat} {M : List Int} (h : agV f M 0) {L : List Int} (h0 : L.getD 0 0 = M.getD 0 0) (h1 : L.getD 1 0 = M.getD 1 0) (h2 : L.getD 2 0 = M.getD 2 0) (h3 : L.getD 3 0 = M.getD 3 0) (h4 : L.getD 4 0 = M.getD 4 0) : agV f L 0 := by
 unfold agV at h ⊢
 simpa only [Nat.mul_zero, Nat.zero_add, h0, h1, h2, h3, h4] using h
theorem agV_app {f c : Nat} {L M : List Int} (hL : L.length = 5 * c) (h : ∀ i, i < c → agV f L i) (hM : agV f M 0) : ∀ i, i < c + 1 → agV f (L ++ M) i := by
 intro i hi
 by_cases hc : i < c
 ·have h := h i hc
  unfold agV at h ⊢
  simp only [getD_app, hL, show 5 * i < 5 * c by omega, show 5 * i + 1 < 5 * c by omega, show 5 * i + 2 < 5 * c by omega, show 5 * i + 3 < 5 * c by omega, show 5 * i + 4 < 5 * c by omega, if_true]
  exact h
 ·have e : i = c := by omega
  subst e
  unfold agV at hM ⊢
  simp only [getD_app, hL, show ¬ (5 * i < 5 * i) by omega, show ¬ (5 * i + 1 < 5 * i) by omega, show ¬ (5 * i + 2 < 5 * i) by omega, show ¬ (5 * i + 3 < 5 * i) by omega, show ¬ (5 * i + 4 < 5 * i) by omega, if_false, Nat.sub_self, Nat.add_sub_cancel_left]
  simpa only [Nat.mul_zero, Nat.zero_add] using hM
theorem v_Agents (P : Program) : V0 cAgents (ndAgents P) 20 (e_Agents P) := fun ρ hv hΓ hl hp => by
 simp only [VC, oblC, asmC, outAt, ndAt, allTrue, ve, BE.den, LX.den, nv, li, rowP, tT, e_Agents, twT5, twT17, kk19, vob, vsm, vap, ndAgents, cAgents, cTo] at hp ⊢
 simp only [vb, bdList, hl, IE.den, forall_eq', implies_true, reduceIte, reduceCtorEq, Nat.reduceAdd, Nat.reduceSub, Nat.reduceLeDiff, Nat.reduceLT, Nat.reduceEqDiff] at hp ⊢
 obtain ⟨p1, p2, p3, p4, p5, p6, p7⟩ := hp
 refine ⟨⟨p1, p2, by omega, by omega, by omega⟩, ?_⟩
 rintro _ r _ x ⟨a1, a2, a3⟩
 rw [qcc (by omega) (by omega)]
 exact ⟨p1, a2, by omega, p7, p4, p5, by omega, by omega, p2, p3⟩
theorem v_Agents_0 (P : Program) : VN cAgents (ndAgents P) 0 22 (n_Agents_0 P) := fun ρ hv hΓ hl hp => by
 simp only [VC, oblC, asmC, outAt, ndAt, allTrue, ve, BE.den, LX.den, nv, li, rowP, tT, n_Agents_0, twT6, kk19, vob, vsm, vap, ndAgents, cAgents, cAgent] at hp ⊢
 simp only [vb, bdList, hl, IE.den, forall_eq', implies_true, reduceIte, reduceCtorEq, Nat.reduceAdd, Nat.reduceSub, Nat.reduceLeDiff, Nat.reduceLT, Nat.reduceEqDiff] at hp ⊢
 obtain ⟨p1, p2, p3, p4, p5, p6, p7, p8, p9, p10⟩ := hp
 refine ⟨fun h => ⟨⟨p1, by omega, by omega, p5, p6⟩, ?_⟩, fun h => ⟨p7, by omega⟩⟩
 rintro _ r _ x ⟨a1, a2, a3⟩ _ _ _ _
 refine ⟨⟨p1, by omega, p4, p5, p6, by omega, p9, p10, 1, Nat.le_refl 1, by omega, by omega, rfl, fun i hi => ?_⟩, by omega⟩
 have e : i = 0 := by omega
 subst e
 exact agV_five a3 rfl rfl rfl rfl rfl
theorem v_Agents_1 (P : Program) : VN cAgents (ndAgents P) 1 24 (n_Agents_1 P) := fun ρ hv hΓ hl hp => by
 simp only [VC, oblC, asmC, appAsm, outAt, ndAt, allTrue, ve, BE.den, LX.den, nv, li, rowP, tT, n_Agents_1, twT6, kk19, vob, vsm, vap, ndAgents, cAgents, cAgent] at hp ⊢
 simp only [vb, bdList, hl, IE.den, forall_eq', implies_true, reduceIte, reduceCtorEq, Nat.reduceAdd, Nat.reduceSub, Nat.reduceLeDiff, Nat.reduceLT, Nat.reduceEqDiff] at hp ⊢
 obtain ⟨p1, p2, p4, p5, p6, p7, p9, p10, c, c1, c2, c3, c4, c5⟩ := hp
 refine ⟨fun h => ⟨⟨p1, by omega, by omega, p5, p6⟩, ?_⟩, fun h => ⟨p7, by omega, c, c1, by omega, p4, c4, c5⟩⟩
 rintro _ r _ x ⟨a1, a2, a3⟩ _ _
 refine ⟨by rw [len_tdiv c4]; omega, ?_⟩
 intro _ y hy _ _
 refine ⟨⟨p1, by omega, p4, p5, p6, by omega, p9, p10, c + 1, by omega, by omega, by omega, ?_, ?_⟩, by omega⟩
 ·rw [hy, List.length_append, c4]; simp only [List.length_cons, List.length_nil]; omega
 ·rw [hy]; exact agV_app c4 c5 (agV_five a3 rfl rfl rfl rfl rfl)
theorem f_Stir (P : Program) : FS cStir (ndStir P) := by
 simp only [FS, cStir, allTrue, sd, implies_true, IE.den, nm_, ge0, leN, nv, tT, Nat.reduceAdd, ndStir]
 try (repeat' first | apply And.intro | intro _) <;> omega
theorem ok_Stir (mm : Bool) : cStir.Ok Tryz.prog mm Γ0 :=
 qaw (X := Xf Tryz.prog) (cons := consStir) (T0 := e_Stir Tryz.prog) (hk_ok _) trivial (f_Stir Tryz.prog) (v_Stir Tryz.prog) trivial
theorem f_To (P : Program) : FS cTo (ndTo P) := by
 simp only [FS, cTo, allTrue, sd, implies_true, IE.den, nm_, ge0, leN, nv, tT, Nat.reduceAdd, ndTo]
 try (repeat' first | apply And.intro | intro _) <;> omega
theorem ok_To (mm : Bool) : cTo.Ok Tryz.prog mm Γ0 :=
 qaw (X := Xf Tryz.prog) (cons := consTo) (T0 := e_To Tryz.prog) (hk_ok _) ⟨ok_Stir mm, trivial⟩ (f_To Tryz.prog) (v_To Tryz.prog) trivial
theorem f_Faults (P : Program) : FS cFaults (ndFaults P) := by
 refine ⟨?_, ?_, ?_⟩
 ·simp only [cFaults, allTrue, sd, implies_true, IE.den, nm_, ge0, leN, nv, tT, Nat.reduceAdd]
  try (repeat' first | apply And.intro | intro _) <;> omega
 ·simp only [cFaults, allTrue, sd, implies_true, IE.den, nm_, ge0, leN, nv, tT, Nat.reduceAdd]
  try intro ρ hp; exact ⟨by omega, pow_le63 hp.2.2.2.1 hp.2.2.2.2⟩
 ·simp only [ndFaults, allTrue, sd, implies_true, IE.den, nm_, ge0, leN, nv, tT, Nat.reduceAdd]
  try intro ρ hp; exact ⟨by omega, pow_le63 hp.2.2.2.2.2.1 (by omega), by omega, by omega, by omega, by omega⟩
theorem ok_Faults (mm : Bool) : cFaults.Ok Tryz.prog mm Γ0 :=
 qaw (X := Xf Tryz.prog) (cons := consFaults) (T0 := e_Faults Tryz.prog) (hk_ok _) ⟨ok_To mm, trivial⟩ (f_Faults Tryz.prog) (v_Faults Tryz.prog) ⟨⟨n_Faults_0 Tryz.prog, by kernel_rfl, v_Faults_0 Tryz.prog⟩, trivial⟩
theorem f_Agent (P : Program) : FS cAgent (ndAgent P) := by
 simp only [FS, cAgent, allTrue, sd, implies_true, IE.den, nm_, ge0, leN, nv, li, tT, Nat.reduceAdd, ndAgent]
 try (repeat' first | apply And.intro | intro _) <;> omega
theorem ok_Agent (mm : Bool) : cAgent.Ok Tryz.prog mm Γ0 :=
 qaw (X := Xf Tryz.prog) (cons := consAgent) (T0 := e_Agent Tryz.prog) (hk_ok _) ⟨ok_To mm, ok_Faults mm, trivial⟩ (f_Agent Tryz.prog) (v_Agent Tryz.prog) trivial
theorem f_Agents (P : Program) : FS cAgents (ndAgents P) := by
 refine ⟨?_, ?_, ?_⟩
 ·simp only [cAgents, allTrue, sd, implies_true, IE.den, nm_, ge0, leN, nv, li, tT, Nat.reduceAdd]
  try (repeat' first | apply And.intro | intro _) <;> omega
 ·simp only [cAgents, allTrue, sd, implies_true, IE.den, nm_, ge0, leN, nv, li, tT, Nat.reduceAdd]
  try rintro ρ ⟨h1, h2, c, h3, h4, h5, h6, h7⟩; exact ⟨by omega, by omega⟩
 ·simp only [ndAgents, allTrue, sd, implies_true, IE.den, nm_, ge0, leN, nv, li, tT, Nat.reduceAdd]
  try refine ⟨by intros; (repeat' apply And.intro) <;> omega, ?_⟩; rintro ρ ⟨h1, h2, h3, h4, h5, h6, h7, h8, c, c1, c2, c3, c4, c5⟩; (repeat' apply And.intro) <;> omega
theorem ok_Agents (mm : Bool) : cAgents.Ok Tryz.prog mm Γ0 :=
 qaw (X := Xf Tryz.prog) (cons := consAgents) (T0 := e_Agents Tryz.prog) (hk_ok _) ⟨ok_To mm, ok_Agent mm, trivial⟩ (f_Agents Tryz.prog) (v_Agents Tryz.prog) ⟨⟨n_Agents_0 Tryz.prog, by kernel_rfl, v_Agents_0 Tryz.prog⟩, ⟨⟨n_Agents_1 Tryz.prog, by kernel_rfl, v_Agents_1 Tryz.prog⟩, trivial⟩⟩
theorem f_ChkAg (P : Program) : FS cChkAg (ndChkAg P) := by
 refine ⟨?_, ?_, ?_⟩
 ·simp only [cChkAg, allTrue, sd, implies_true, IE.den, nm_, leN, li, tT, Nat.reduceAdd]
  try rintro ρ ⟨-, -, -, -, h1, h2, -⟩; exact ⟨h1, h2⟩
 ·simp only [cChkAg, allTrue, sd, implies_true, IE.den, nm_, leN, li, tT, Nat.reduceAdd]
  try (repeat' first | apply And.intro | intro _) <;> omega
 ·simp only [ndChkAg, allTrue, sd, implies_true, IE.den, tT, Nat.reduceAdd]
  try (repeat' first | apply And.intro | intro _) <;> omega
theorem ok_ChkAg (mm : Bool) : cChkAg.Ok Tryz.prog mm Γ0 :=
 qaw (X := Xf Tryz.prog) (cons := consChkAg) (T0 := e_ChkAg Tryz.prog) (hk_ok _) trivial (f_ChkAg Tryz.prog) (v_ChkAg Tryz.prog) trivial
theorem f_Check (P : Program) : FS cCheck (ndCheck P) := by
 simp only [FS, cCheck, pA, fA, agsV, allTrue, sd, implies_true, IE.den, nm_, ge0, leN, nv, li, tT, Nat.reduceAdd, ndCheck]
 try (repeat' first | apply And.intro | intro _) <;> omega
theorem ok_Check (mm : Bool) : cCheck.Ok Tryz.prog mm Γ0 :=
 qaw (X := Xf Tryz.prog) (cons := consCheck) (T0 := e_Check Tryz.prog) (hk_ok _) ⟨ok_ChkAg mm, trivial⟩ (f_Check Tryz.prog) (v_Check Tryz.prog) ⟨⟨n_Check_0 Tryz.prog, by kernel_rfl, v_Check_0 Tryz.prog⟩, trivial⟩
theorem f_At1 (P : Program) : FS cAt1 (ndAt1 P) := by
 simp only [FS, cAt1, pA, fA, agsV, allTrue, sd, implies_true, IE.den, nm_, ge0, leN, nv, li, tT, Nat.reduceAdd, ndAt1]
 try (repeat' first | apply And.intro | intro _) <;> omega
theorem ok_At1 (mm : Bool) : cAt1.Ok Tryz.prog mm Γ0 :=
 qaw (X := Xf Tryz.prog) (cons := consAt1) (T0 := e_At1 Tryz.prog) (hk_ok _) ⟨ok_Check mm, trivial⟩ (f_At1 Tryz.prog) (v_At1 Tryz.prog) ⟨⟨n_At1_0 Tryz.prog, by kernel_rfl, v_At1_0 Tryz.prog⟩, ⟨⟨n_At1_1 Tryz.prog, by kernel_rfl, v_At1_1 Tryz.prog⟩, trivial⟩⟩
def e_May0 (P : Program) : VT := (.new (.branch (.eq (.bits .and .i64 (h0 81) (h0 80)) (h0 80))
(.ret 0 [.keep 16, .keep 17])
(.ret 1 [.keep 16, .keep 17])))
def e_PutA (P : Program) : VT := (.new (.obl (oblC cMay [.ints [(h0 80), (hN 80 1), (hN 80 2), (hN 80 3), (hN 80 4), (hN 80 5)], .ints [(h0 81)]]) (.both (.asm (asmC (outAt cMay.outs 0) [.ints [(h0 80), (hN 80 1), (hN 80 2), (hN 80 3), (hN 80 4), (hN 80 5)], .ints [(h0 81)]]) (.ret 0 [.keep 16, .keep 17, .ints [(.bits .or .i64 (.bits .andNot .i64 (h0 81) (hN 80 2)) (hN 80 3))]])) (.asm (asmC (outAt cMay.outs 1) [.ints [(h0 80), (hN 80 1), (hN 80 2), (hN 80 3), (hN 80 4), (hN 80 5)], .ints [(h0 81)]]) (.bad 0)))))
theorem v_May0 (P : Program) : V0 cMay0 (ndMay0 P) 18 (e_May0 P) := fun ρ hv hΓ hl hp => by
 simp only [VC, outAt, ndAt, allTrue, ve, BE.den, LX.den, nv, tT, e_May0, cMay0, oMay0, mel, andI] at hp ⊢
 simp only [vb, bdList, hl, IE.den, forall_eq', implies_true, reduceIte, reduceCtorEq, Nat.reduceAdd, Nat.reduceSub, Nat.reduceLeDiff, Nat.reduceLT, Nat.reduceEqDiff] at hp ⊢
 try exact fun _ _ => ⟨fun h => h, fun h => h⟩
theorem v_PutA (P : Program) : V0 cPutA (ndPutA P) 18 (e_PutA P) := fun ρ hv hΓ hl hp => by
 simp only [VC, oblC, asmC, outAt, ndAt, allTrue, ve, BE.den, LX.den, nv, tT, e_PutA, cPutA, cMay, cMay0, Con.split, oMay0, mel] at hp ⊢
 simp only [vb, bdList, hl, IE.den, forall_eq', implies_true, reduceIte, reduceCtorEq, Nat.reduceAdd, Nat.reduceSub, Nat.reduceLeDiff, Nat.reduceLT, Nat.reduceEqDiff] at hp ⊢
 obtain ⟨p1, p2, p3, p4⟩ := hp
 exact fun b r => ⟨p1, fun _ => ⟨rfl, aftA_rng p3 p4 p1⟩, fun h => by rw [p2] at h; cases h⟩
theorem hkT_ok (main : Co) : HkOk Tryz.prog main (Xt Tryz.prog).hk :=
 qau hApp_ok (qau hHStore_ok (qau (qbr xMap_ok) (qbr xTA_ok)))
theorem f_May0 (P : Program) : FS cMay0 (ndMay0 P) := by
 simp only [FS, cMay0, fM, mel, oMay0, allTrue, sd, implies_true, IE.den, nm_, ge0, leN, nv, tT, Nat.reduceAdd, ndMay0]
 try (repeat' first | apply And.intro | intro _) <;> omega
theorem ok_May0 (mm : Bool) : cMay0.Ok Tryz.prog mm Γ0 :=
 qaw (X := Xt Tryz.prog) (cons := consMay0) (T0 := e_May0 Tryz.prog) (hkT_ok _) trivial (f_May0 Tryz.prog) (v_May0 Tryz.prog) trivial
theorem ok_May (mm : Bool) : cMay.Ok Tryz.prog mm Γ0 :=
 (ok_May0 mm).split2 rfl rfl rfl rfl rfl rfl (fun ρ h e => by
  have e' : andI (nv ρ 17 0) (nv ρ 16 1) = 0 := of_decide_eq_true e
  have h' : andI (nv ρ 17 0) (nv ρ 16 0) = nv ρ 16 0 := h
  simp [mayA, h', e']) (fun ρ h e => by
  have e' : ¬ andI (nv ρ 17 0) (nv ρ 16 1) = 0 := of_decide_eq_false e
  simp [mayA, e']) fun ρ h => by
  have h' : ¬ andI (nv ρ 17 0) (nv ρ 16 0) = nv ρ 16 0 := h
  simp [mayA, h']
def e_Pass (P : Program) : VT := (.obl (oblC cFaults [.keep 16, .keep 17, .ints [(h0 82)], .ints [(h0 83), (hN 83 1)]]) (.new (.new (.asm (asmC (outAt cFaults.outs 0) [.keep 16, .keep 17, .ints [(h0 82)], .ints [(h0 83), (hN 83 1)], .keep 20, .keep 21]) (.obl (oblC cFaults [.keep 16, .keep 17, .ints [(h0 82)], .ints [(h0 84), (hN 84 1)]]) (.new (.new (.asm (asmC (outAt cFaults.outs 0) [.keep 16, .keep 17, .ints [(h0 82)], .ints [(h0 84), (hN 84 1)], .keep 22, .keep 23]) (.ret 0 [.keep 16, .keep 17, .keep 18, .keep 19, .ints [(h0 86), (hN 86 1)], .ints [(.bits .or .i64 (.bits .andNot .i64 (oN 63) (.wrap .i64 (.sub (.wrap .i64 (.shl .i64 (oN 1) (h0 82))) (oN 1)))) (.bits .and .i64 (h0 85) (h0 87)))]])))))))))
set_option maxRecDepth 20000 in
theorem v_Pass (P : Program) : V0 cPass (ndPass P) 20 (e_Pass P) := fun ρ hv hΓ hl hp => by
 simp only [VC, oblC, asmC, outAt, ndAt, allTrue, ve, BE.den, LX.den, nv, rowP, tT, e_Pass, ndPass, cPass, mel, cFaults] at hp ⊢
 simp only [vb, bdList, hl, IE.den, forall_eq', implies_true, reduceIte, reduceCtorEq, Nat.reduceAdd, Nat.reduceSub, Nat.reduceLeDiff, Nat.reduceLT, Nat.reduceEqDiff] at hp ⊢
 obtain ⟨p0, a0, a1, f0, f1⟩ := hp
 generalize (ρ.list 82).getD 0 0 = few at *
 refine ⟨⟨p0, a0, by omega, f0, f1⟩, ?_⟩
 rintro _ r _ r1 ⟨b1, b2, b3, b4, -⟩
 refine ⟨⟨p0, by omega, by omega, f0, f1⟩, ?_⟩
 rintro _ r2 _ r3 ⟨c1, c2, c3, c4, -⟩
 have b5 := pow_le63 b4 f1
 have c5 := pow_le63 c4 f1
 obtain ⟨q, rfl⟩ := qfg f0
 rw [Int.toNat_natCast]
 have h1 : ∀ k : Nat, k < 7 → 0 ≤ bitsOf .andNot .i64 63 (IntKind.i64.wrap (IntKind.i64.wrap (2 ^ Nat.min k 64) - 1)) ∧ bitsOf .andNot .i64 63 (IntKind.i64.wrap (IntKind.i64.wrap (2 ^ Nat.min k 64) - 1)) < 2 ^ 6 := by decide
 obtain ⟨u1, u2⟩ := h1 q (by omega)
 have v := and_rng (k := 6) (by decide) b3 (show _ < 2 ^ 6 by omega) c3 (by omega)
 have := or_rng (k := 6) (by decide) u1 u2 v.1 v.2
 exact ⟨by omega, by omega, by omega, by omega⟩
theorem f_PutA (P : Program) : FS cPutA (ndPutA P) := by
 simp only [FS, cPutA, fM, mel, allTrue, sd, implies_true, IE.den, nm_, ge0, leN, nv, tT, Nat.reduceAdd, ndPutA]
 try (repeat' first | apply And.intro | intro _) <;> omega
theorem ok_PutA (mm : Bool) : cPutA.Ok Tryz.prog mm Γ0 :=
 qaw (X := Xt Tryz.prog) (cons := consPutA) (T0 := e_PutA Tryz.prog) (hkT_ok _) ⟨ok_May mm, trivial⟩ (f_PutA Tryz.prog) (v_PutA Tryz.prog) trivial
theorem f_Pass (P : Program) : FS cPass (ndPass P) := by
 simp only [FS, cPass, fM, mel, allTrue, sd, implies_true, IE.den, nm_, ge0, leN, nv, tT, Nat.reduceAdd, ndPass]
 try (repeat' first | apply And.intro | intro _) <;> omega
theorem ok_Pass (mm : Bool) : cPass.Ok Tryz.prog mm Γ0 :=
 qaw (X := Xt Tryz.prog) (cons := consPass) (T0 := e_Pass Tryz.prog) (hkT_ok _) ⟨ok_Faults mm, trivial⟩ (f_Pass Tryz.prog) (v_Pass Tryz.prog) trivial
theorem qcq (main : Co) : HkOk Tryz.prog main (Xo Tryz.prog).hk :=
 qau hPushR_ok (qau hPeel_ok (qau hNorm_ok (qau hMapU_ok (qau hMapL_ok (qau hGrowU_ok (qau hApp_ok (qau hHStore_ok (qau hMap_ok (qau (qbr xTA_ok) (qau (qbr xClearQ_ok) (qau (qbr xClear_ok) (qau hClearS_ok (qau hLStore_ok hInv_ok)))))))))))))
theorem qbe {ρ : Env} {a b : IE} : (BE.eq a b).den ρ = true ↔ a.den ρ = b.den ρ := by simp [BE.den]
theorem qct {ρ : Env} {a b : IE} : (BE.lt a b).den ρ = true ↔ a.den ρ < b.den ρ := by simp [BE.den]
theorem hkN_ok (main : Co) : HkOk Tryz.prog main (Xn Tryz.prog).hk :=
 qau hApp_ok (qau hHStore_ok (qau hMap_ok (qau (qbr xTA_ok) (qau (qbr xClear_ok) hInv_ok))))
theorem f_Aft (P : Program) : FS cAft (ndAft P) := by
 simp only [FS, cAft, fM, mel, fM3, mel3, agF, may3, aft3, qbe, allTrue, sd, implies_true, IE.den, nm_, ge0, leN, nv, tT, Nat.reduceAdd, ndAft]
 try (repeat' first | apply And.intro | intro _) <;> omega
theorem ok_Aft (mm : Bool) : cAft.Ok Tryz.prog mm Γ0 :=
 qaw (X := Xo Tryz.prog) (cons := consAft) (T0 := e_Aft Tryz.prog) (qcq _) ⟨ok_May mm, ok_PutA mm, trivial⟩ (f_Aft Tryz.prog) (v_Aft Tryz.prog) trivial
theorem f_ThenN (P : Program) : FS cThenN (ndThenN P) := by
 refine ⟨?_, ?_, ?_⟩
 ·simp only [cThenN, qbe, allTrue, sd, implies_true, IE.den, nm_, leN, nv, li, tT, Nat.reduceAdd]
  try (repeat' first | apply And.intro | intro _) <;> omega
 ·simp only [cThenN, qbe, allTrue, sd, implies_true, IE.den, nm_, leN, nv, li, tT, Nat.reduceAdd]
  try (intro ρ h; rw [h]; simp)
 ·simp only [ndThenN, qbe, allTrue, sd, implies_true, IE.den, tT, Nat.reduceAdd]
  try (repeat' first | apply And.intro | intro _) <;> omega
theorem ok_ThenN (mm : Bool) : cThenN.Ok Tryz.prog mm Γ0 :=
 qaw (X := Xo Tryz.prog) (cons := consThenN) (T0 := e_ThenN Tryz.prog) (qcq _) trivial (f_ThenN Tryz.prog) (v_ThenN Tryz.prog) trivial
theorem f_Then (P : Program) : FS cThen (ndThen P) := by
 refine ⟨?_, ?_, ?_⟩
 ·simp only [cThen, qbe, allTrue, sd, implies_true, IE.den, nm_, leN, nv, li, tT, Nat.reduceAdd]
  try (repeat' first | apply And.intro | intro _) <;> omega
 ·simp only [cThen, qbe, allTrue, sd, implies_true, IE.den, nm_, leN, nv, li, tT, Nat.reduceAdd]
  try (rintro ρ ⟨h, h2⟩; rw [h, List.length_append, List.length_singleton]; omega)
 ·simp only [ndThen, qbe, allTrue, sd, implies_true, IE.den, tT, Nat.reduceAdd]
  try (repeat' first | apply And.intro | intro _) <;> omega
theorem ok_Then (mm : Bool) : cThen.Ok Tryz.prog mm Γ0 :=
 qaw (X := Xo Tryz.prog) (cons := consThen) (T0 := e_Then Tryz.prog) (qcq _) trivial (f_Then Tryz.prog) (v_Then Tryz.prog) trivial
theorem f_Fur (P : Program) : FS cFur (ndFur P) := by
 simp only [FS, cFur, fM, mel, fM3, mel3, fBn', fQu, fWay, pFur, pBn, qNum, qbe, allTrue, sd, implies_true, IE.den, nm_, ge0, leN, nv, li, tT, Nat.reduceAdd, ndFur]
 try (repeat' first | apply And.intro | intro _) <;> omega
theorem ok_Fur (mm : Bool) : cFur.Ok Tryz.prog mm Γ0 :=
 qaw (X := Xo Tryz.prog) (cons := consFur) (T0 := e_Fur Tryz.prog) (qcq _) ⟨ok_Aft mm, ok_Then mm, trivial⟩ (f_Fur Tryz.prog) (v_Fur Tryz.prog) ⟨⟨n_Fur_0 Tryz.prog, by kernel_rfl, v_Fur_0 Tryz.prog⟩, trivial⟩
theorem f_FurN (P : Program) : FS cFurN (ndFurN P) := by
 simp only [FS, cFurN, fM, mel, fM3, mel3, fBn', fQu, pFur, pBn, qNum, qbe, allTrue, sd, implies_true, IE.den, nm_, ge0, leN, nv, li, tT, Nat.reduceAdd, ndFurN]
 try (repeat' first | apply And.intro | intro _) <;> omega
theorem ok_FurN (mm : Bool) : cFurN.Ok Tryz.prog mm Γ0 :=
 qaw (X := Xo Tryz.prog) (cons := consFurN) (T0 := e_FurN Tryz.prog) (qcq _) ⟨ok_Aft mm, ok_ThenN mm, trivial⟩ (f_FurN Tryz.prog) (v_FurN Tryz.prog) ⟨⟨n_FurN_0 Tryz.prog, by kernel_rfl, v_FurN_0 Tryz.prog⟩, trivial⟩
theorem f_Ways (P : Program) : FS cWays (ndWays P) := by
 refine ⟨?_, ?_, ?_⟩
 ·simp only [cWays, cWaysP, fM, mel, fM3, mel3, fBn', pBn, fWs, pWs, qbe, allTrue, sd, implies_true, IE.den, nm_, ge0, leN, nv, li, tT, Nat.reduceAdd]
  try (repeat' first | apply And.intro | intro _) <;> omega
 ·simp only [cWays, cWaysP, fM, mel, fM3, mel3, fBn', pBn, fWs, pWs, qbe, allTrue, sd, implies_true, IE.den, nm_, ge0, leN, nv, li, tT, Nat.reduceAdd]
  try (repeat' first | apply And.intro | intro _) <;> omega
 ·simp only [ndWays, fM, mel, fM3, mel3, fBn', fQu, pBn, qNum, fWs, pWs, qbe, allTrue, sd, implies_true, IE.den, nm_, ge0, leN, nv, li, tT, Nat.reduceAdd]
  try exact ⟨by rintro ρ ⟨hW, g, q, w, V, A, hb, hV, hq⟩; have := wq_le (x := (ρ.list 83).getD 0 0) (y := (ρ.list 83).getD 1 0) (z := (ρ.list 83).getD 2 0) hW q hb hq; (repeat' apply And.intro) <;> omega, by rintro ρ ⟨hW, g, q, V, A, hb, hV, hq⟩; have := wq_le (x := (ρ.list 83).getD 0 0) (y := (ρ.list 83).getD 1 0) (z := (ρ.list 83).getD 2 0) hW q hb hq; (repeat' apply And.intro) <;> omega, by rintro ρ ⟨hW, -⟩; (repeat' apply And.intro) <;> omega⟩
theorem ok_Ways (mm : Bool) : cWays.Ok Tryz.prog mm Γ0 :=
 qaw (X := Xo Tryz.prog) (cons := consWaysP Tryz.prog) (T0 := e_Ways Tryz.prog) (qcq _) ⟨ok_Fur mm, ok_FurN mm, trivial⟩ (f_Ways Tryz.prog) (v_Ways Tryz.prog) ⟨⟨n_Ways_0 Tryz.prog, by kernel_rfl, v_Ways_0 Tryz.prog⟩, ⟨⟨n_Ways_1 Tryz.prog, by kernel_rfl, v_Ways_1 Tryz.prog⟩, ⟨⟨n_Ways_2 Tryz.prog, by kernel_rfl, v_Ways_2 Tryz.prog⟩, trivial⟩⟩⟩
theorem f_Clear (P : Program) : FS cClear (ndClear P) := by
 simp only [FS, cClear, fM, mel, fM3, mel3, fBn', pBn, qbe, allTrue, sd, implies_true, IE.den, nm_, ge0, leN, nv, li, tT, Nat.reduceAdd, ndClear]
 try (repeat' first | apply And.intro | intro _) <;> omega
theorem ok_Clear (mm : Bool) : cClear.Ok Tryz.prog mm Γ0 :=
 qaw (X := Xo Tryz.prog) (cons := consClear) (T0 := e_Clear Tryz.prog) (qcq _) ⟨ok_Ways mm, trivial⟩ (f_Clear Tryz.prog) (v_Clear Tryz.prog) trivial
theorem f_Idx (P : Program) : FS cIdx (ndIdx P) := by
 simp only [FS, cIdx, pX, pBo, fBn', pBn, qbe, qct, allTrue, sd, implies_true, IE.den, nm_, ge0, leN, nv, li, tT, Nat.reduceAdd, ndIdx]
 try (repeat' first | apply And.intro | intro _) <;> omega
theorem ok_Idx (mm : Bool) : cIdx.Ok Tryz.prog mm Γ0 :=
 qaw (X := Xo Tryz.prog) (cons := consIdx) (T0 := e_Idx Tryz.prog) (qcq _) trivial (f_Idx Tryz.prog) (v_Idx Tryz.prog) ⟨⟨n_Idx_0 Tryz.prog, by kernel_rfl, v_Idx_0 Tryz.prog⟩, trivial⟩
theorem f_Del (P : Program) : FS cDel (ndDel P) := by
 simp only [FS, cDel, pX, pBo, fBn', pBn, qbe, qct, allTrue, sd, implies_true, IE.den, nm_, ge0, leN, nv, li, tT, Nat.reduceAdd, ndDel]
 try (repeat' first | apply And.intro | intro _) <;> omega
theorem ok_Del (mm : Bool) : cDel.Ok Tryz.prog mm Γ0 :=
 qaw (X := Xo Tryz.prog) (cons := consDel) (T0 := e_Del Tryz.prog) (qcq _) ⟨ok_Idx mm, trivial⟩ (f_Del Tryz.prog) (v_Del Tryz.prog) ⟨⟨n_Del_0 Tryz.prog, by kernel_rfl, v_Del_0 Tryz.prog⟩, trivial⟩
theorem f_Wo (P : Program) : FS cWo (ndWo P) := by
 simp only [FS, cWo, pBo, fBn', pBn, qbe, qct, allTrue, sd, implies_true, IE.den, nm_, ge0, leN, nv, li, tT, Nat.reduceAdd, ndWo]
 try (repeat' first | apply And.intro | intro _) <;> omega
theorem ok_Wo (mm : Bool) : cWo.Ok Tryz.prog mm Γ0 :=
 qaw (X := Xo Tryz.prog) (cons := consWo) (T0 := e_Wo Tryz.prog) (qcq _) ⟨ok_Del mm, trivial⟩ (f_Wo Tryz.prog) (v_Wo Tryz.prog) trivial
theorem f_Can (P : Program) : FS cCan (ndCan P) := by
 simp only [FS, cCan, fM, mel, fBn', pBn, qbe, qct, allTrue, sd, implies_true, IE.den, nm_, ge0, leN, nv, li, tT, Nat.reduceAdd, ndCan]
 try (repeat' first | apply And.intro | intro _) <;> omega
theorem ok_Can (mm : Bool) : cCan.Ok Tryz.prog mm Γ0 :=
 qaw (X := Xo Tryz.prog) (cons := consCan) (T0 := e_Can Tryz.prog) (qcq _) ⟨ok_Clear mm, trivial⟩ (f_Can Tryz.prog) (v_Can Tryz.prog) trivial
theorem f_ThN (P : Program) : FS cThN (ndThN P) := by
 simp only [FS, cThN, pBo, fTh, pTh, cThX, fM, mel, fBn', pBn, qbe, qct, allTrue, sd, implies_true, IE.den, nm_, ge0, leN, nv, li, tT, Nat.reduceAdd, ndThN, ndThX]
 try (repeat' first | apply And.intro | intro _) <;> omega
theorem ok_ThN (mm : Bool) : cThN.Ok Tryz.prog mm Γ0 :=
 qaw (X := Xo Tryz.prog) (cons := consThN) (T0 := e_ThN Tryz.prog) (qcq _) ⟨ok_Wo mm, ok_Can mm, trivial⟩ (f_ThN Tryz.prog) (v_ThN Tryz.prog) ⟨⟨n_ThN_0 Tryz.prog, by kernel_rfl, v_ThN_0 Tryz.prog⟩, ⟨⟨n_ThN_1 Tryz.prog, by kernel_rfl, v_ThN_1 Tryz.prog⟩, trivial⟩⟩
theorem f_ThS (P : Program) : FS cThS (ndThS P) := by
 simp only [FS, cThS, pBo, fTh, pTh, cThX, fM, mel, fBn', pBn, qbe, qct, allTrue, sd, implies_true, IE.den, nm_, ge0, leN, nv, li, tT, Nat.reduceAdd, ndThS, ndThX]
 try (repeat' first | apply And.intro | intro _) <;> omega
theorem ok_ThS (mm : Bool) : cThS.Ok Tryz.prog mm Γ0 :=
 qaw (X := Xo Tryz.prog) (cons := consThS) (T0 := e_ThS Tryz.prog) (qcq _) ⟨ok_May mm, ok_PutA mm, ok_Can mm, trivial⟩ (f_ThS Tryz.prog) (v_ThS Tryz.prog) ⟨⟨n_ThS_0 Tryz.prog, by kernel_rfl, v_ThS_0 Tryz.prog⟩, ⟨⟨n_ThS_1 Tryz.prog, by kernel_rfl, v_ThS_1 Tryz.prog⟩, trivial⟩⟩
theorem f_Nd (P : Program) : FS cNd (ndNd P) := by
 simp only [FS, cNd, pBo, cNsX, fM, mel, fBn', pBn, qbe, qct, allTrue, sd, implies_true, IE.den, nm_, ge0, leN, nv, li, tT, Nat.reduceAdd, ndNd]
 try (repeat' first | apply And.intro | intro _) <;> omega
theorem ok_Nd (mm : Bool) : cNd.Ok Tryz.prog mm Γ0 :=
 qaw (X := Xo Tryz.prog) (cons := consNd) (T0 := e_Nd Tryz.prog) (qcq _) ⟨ok_Can mm, ok_ThN mm, trivial⟩ (f_Nd Tryz.prog) (v_Nd Tryz.prog) trivial
theorem f_Sp (P : Program) : FS cSp (ndSp P) := by
 simp only [FS, cSp, pBo, cNsX, fM, mel, fBn', pBn, qbe, qct, allTrue, sd, implies_true, IE.den, nm_, ge0, leN, nv, li, tT, Nat.reduceAdd, ndSp]
 try (repeat' first | apply And.intro | intro _) <;> omega
theorem ok_Sp (mm : Bool) : cSp.Ok Tryz.prog mm Γ0 :=
 qaw (X := Xo Tryz.prog) (cons := consSp) (T0 := e_Sp Tryz.prog) (qcq _) ⟨ok_Can mm, ok_ThS mm, trivial⟩ (f_Sp Tryz.prog) (v_Sp Tryz.prog) trivial
theorem f_Need (P : Program) : FS cNeed (ndNeed P) := by
 simp only [FS, cNeed, cNeX, fAg, pAg, fA, pA, agsV, fM, mel, qbe, qct, allTrue, sd, implies_true, IE.den, nm_, ge0, leN, nv, li, tT, Nat.reduceAdd, ndNeed]
 try (repeat' first | apply And.intro | intro _) <;> omega
theorem ok_Need (mm : Bool) : cNeed.Ok Tryz.prog mm Γ0 :=
 qaw (X := Xo Tryz.prog) (cons := consNeed) (T0 := e_Need Tryz.prog) (qcq _) ⟨ok_At1 mm, ok_Nd mm, trivial⟩ (f_Need Tryz.prog) (v_Need Tryz.prog) trivial
theorem f_Spoil (P : Program) : FS cSpoil (ndSpoil P) := by
 simp only [FS, cSpoil, cNeX, fAg, pAg, fA, pA, agsV, fM, mel, qbe, qct, allTrue, sd, implies_true, IE.den, nm_, ge0, leN, nv, li, tT, Nat.reduceAdd, ndSpoil]
 try (repeat' first | apply And.intro | intro _) <;> omega
theorem ok_Spoil (mm : Bool) : cSpoil.Ok Tryz.prog mm Γ0 :=
 qaw (X := Xo Tryz.prog) (cons := consSpoil) (T0 := e_Spoil Tryz.prog) (qcq _) ⟨ok_At1 mm, ok_Sp mm, trivial⟩ (f_Spoil Tryz.prog) (v_Spoil Tryz.prog) trivial
theorem f_Short (P : Program) : FS cShort (ndShort P) := by
 simp only [FS, cShort, fAg, pAg, fA, pA, agsV, fM, mel, qbe, qct, allTrue, sd, implies_true, IE.den, nm_, ge0, leN, nv, li, tT, Nat.reduceAdd, ndShort]
 try (repeat' first | apply And.intro | intro _) <;> omega
theorem ok_Short (mm : Bool) : cShort.Ok Tryz.prog mm Γ0 :=
 qaw (X := Xo Tryz.prog) (cons := consShort) (T0 := e_Short Tryz.prog) (qcq _) ⟨ok_At1 mm, ok_Clear mm, trivial⟩ (f_Short Tryz.prog) (v_Short Tryz.prog) trivial
theorem f_Foll (P : Program) : FS cFoll (ndFoll P) := by
 simp only [FS, cFoll, fA, pA, agsV, fM, mel, qbe, qct, allTrue, sd, implies_true, IE.den, nm_, ge0, leN, nv, li, tT, Nat.reduceAdd, ndFoll]
 try (repeat' first | apply And.intro | intro _) <;> omega
theorem ok_Foll (mm : Bool) : cFoll.Ok Tryz.prog mm Γ0 :=
 qaw (X := Xo Tryz.prog) (cons := consFoll) (T0 := e_Foll Tryz.prog) (qcq _) trivial (f_Foll Tryz.prog) (v_Foll Tryz.prog) trivial
theorem f_ShortN (P : Program) : FS cShortN (ndShortN P) := by
 simp only [FS, cShortN, cNoX, fM, mel, qbe, qct, allTrue, sd, implies_true, IE.den, nm_, ge0, leN, nv, tT, Nat.reduceAdd, ndShortN]
 try (repeat' first | apply And.intro | intro _) <;> omega
theorem ok_ShortN (mm : Bool) : cShortN.Ok Tryz.prog mm Γ0 :=
 qaw (X := Xn Tryz.prog) (cons := consShortN) (T0 := e_ShortN Tryz.prog) (hkN_ok _) trivial (f_ShortN Tryz.prog) (v_ShortN Tryz.prog) trivial
theorem f_NeedN (P : Program) : FS cNeedN (ndNeedN P) := by
 simp only [FS, cNeedN, cNoX, fM, mel, qbe, qct, allTrue, sd, implies_true, IE.den, nm_, ge0, leN, nv, tT, Nat.reduceAdd, ndNeedN]
 try (repeat' first | apply And.intro | intro _) <;> omega
theorem ok_NeedN (mm : Bool) : cNeedN.Ok Tryz.prog mm Γ0 :=
 qaw (X := Xn Tryz.prog) (cons := consNeedN) (T0 := e_NeedN Tryz.prog) (hkN_ok _) trivial (f_NeedN Tryz.prog) (v_NeedN Tryz.prog) trivial
theorem f_SpoilN (P : Program) : FS cSpoilN (ndSpoilN P) := by
 simp only [FS, cSpoilN, cNoX, fM, mel, qbe, qct, allTrue, sd, implies_true, IE.den, nm_, ge0, leN, nv, tT, Nat.reduceAdd, ndSpoilN]
 try (repeat' first | apply And.intro | intro _) <;> omega
theorem ok_SpoilN (mm : Bool) : cSpoilN.Ok Tryz.prog mm Γ0 :=
 qaw (X := Xn Tryz.prog) (cons := consSpoilN) (T0 := e_SpoilN Tryz.prog) (hkN_ok _) trivial (f_SpoilN Tryz.prog) (v_SpoilN Tryz.prog) trivial
def tab64 : List Int := [0, 1, 56, 2, 57, 49, 28, 3, 61, 58, 42, 50, 38, 29, 17, 4, 62, 47, 59, 36, 45, 43, 51, 22, 53, 39, 33, 30, 24, 18, 12, 5, 63, 55, 48, 27, 60, 41, 37, 16, 46, 35, 44, 21, 52, 32, 23, 11, 54, 26, 40, 15, 34, 20, 31, 10, 25, 14, 19, 9, 13, 8, 7, 6]
def oGe : SO := .cells [rtOf LB 79] 156
def oTab : SO := .cells (tab64.map fun n => .int .u8 (.lit n)) 199
def roG : List (Nat × SO) := [(0, oGe), (1, oTab)]
def cFined : Con := { id := 19, f := 19, m := 0, args := [], ro := roG, fs := [], pre := fun _ => True, outs := [{ n := 0, v := yes_, rw := [], fs := [], post := fun _ => True }] }
def hkF (P : Program) : Hk_ := hOr (hExt (xClear P)) <| hOr (hExt (xApp P)) <| hOr (hObv P) <| hOr (hPop P) <| hOr (hExt (xTail P)) <| hOr (hMap P) (hOr (hExt (xAs P LB)) (hOr (hExt (xAs P LE)) (hOr (hExt (xNot LB 29)) (hExt (xTA P)))))
def Fa : CfA := ⟨hkF, [77, 130, 131, 139, 140, 147]⟩
def pL (ρ : Env) : Prop := 1 ≤ nv ρ 18 0 ∧ nv ρ 18 0 ≤ 64 ∧ nv ρ 18 0 ≤ ((li ρ 17).length : Nat)
def fL : List BE := [.le (.lit (.ofNat 1)) (nm_ 18 0), leN (nm_ 18 0) 64]
def cFind : Con := { id := 17, f := 18, m := 4, args := [sli 16 18, iv 19 0], ro := [(16, oI 17 16)], fs := fL, pre := pL, outs := [{ n := 0, v := .int .i64 (.lit (.negSucc 0)), rw := [], fs := [], post := fun ρ => ∀ j : Nat, (j : Int) < nv ρ 18 0 → (li ρ 17).getD j 0 ≠ nv ρ 19 0 }, { id := 1, n := 1, v := iv 20 0, rw := [], fs := [ge0 (nm_ 20 0)], post := fun ρ => 0 ≤ nv ρ 20 0 ∧ nv ρ 20 0 < nv ρ 18 0 ∧ (li ρ 17).getD (nv ρ 20 0).toNat 0 = nv ρ 19 0 }] }
def ndFind (P : Program) : List NdS := [{ key := 0, n := 1, items := itemsAt P 18 0, sl := [(0, sli 16 18), (1, iv 19 0), (5, iv 20 0)], ro := [(16, oI 17 16)], fs := fL ++ [ge0 (nm_ 20 0), leN (nm_ 20 0) 64], inv := fun ρ => pL ρ ∧ 0 ≤ nv ρ 20 0 ∧ nv ρ 20 0 ≤ nv ρ 18 0 ∧ ∀ j : Nat, (j : Int) < nv ρ 20 0 → (li ρ 17).getD j 0 ≠ nv ρ 19 0, mu := fun ρ => (65 - nv ρ 20 0).toNat }]
def consFind : List Con := []
def roM : List (Nat × SO) := roN ++ roG
def moreV (L M : List Int) (n : Nat) : Prop := agsV M (n + 1) ∧ ∀ i, i < 5 * n → M.getD i 0 = L.getD i 0
def fA0 : List BE := [.le (.lit (.ofNat 5)) (.len 82), leN (.len 82) 20, .le (.lit (.ofNat 5)) (.len 84), leN (.len 84) 20] ++ fM 21 0 ++ fM 21 1
def fN0 : List BE := [.le (.lit (.ofNat 5)) (.len 82), leN (.len 82) 20] ++ fM 19 0 ++ fM 19 1
def oneL (l : List Int) : Prop := 1 ≤ l.length ∧ l.length ≤ 64
def othL (L : List Int) (i : Nat) : Nat → List Int
 | 0 => []
 | k + 1 => othL L i k ++ if k = i then [] else [L.getD (5 * k) 0, L.getD (5 * k + 1) 0, L.getD (5 * k + 2) 0, L.getD (5 * k + 3) 0, L.getD (5 * k + 4) 0]
def PR (L : List Int) (m p : Int) : Prop := agsV L (nA L) ∧ 1 ≤ nA L ∧ (0 ≤ m ∧ m ≤ 63) ∧ (0 ≤ p ∧ p ≤ 63) ∧ Can (qsA L (nA L)) p m
def pR (ρ : Env) : Prop := PR (li ρ 18) (nv ρ 19 0) (nv ρ 19 1)
def ndL (ρ : Env) (l : List Int) : Prop := selL (needV (qsA (li ρ 18) (nA (li ρ 18))) (nv ρ 19 1) (nv ρ 19 0)) (nA (li ρ 18)) = l
def spL (ρ : Env) (l : List Int) : Prop := selL (spoilV (qsA (li ρ 18) (nA (li ρ 18))) (nv ρ 19 1) (nv ρ 19 0)) (nA (li ρ 18)) = l
def otR (ρ : Env) : List Int := othL (li ρ 18) (nv ρ 19 2).toNat (nv ρ 19 3).toNat
def iR (ρ : Env) : Prop := 0 ≤ nv ρ 19 2 ∧ nv ρ 19 2 ≤ (nA (li ρ 18) : Nat)
def kR (ρ : Env) : Prop := (0 ≤ nv ρ 19 2 ∧ nv ρ 19 2 < (nA (li ρ 18) : Nat)) ∧ 0 ≤ nv ρ 19 3 ∧ nv ρ 19 3 ≤ (nA (li ρ 18) : Nat)
def fRo : List BE := [.le (.lit (.ofNat 5)) (.len 82), leN (.len 82) 20] ++ fM 19 0 ++ fM 19 1 ++ [ge0 (nm_ 19 2), leN (nm_ 19 2) 4]
def fR4 (l : Nat) : List BE := [.le (.lit (.ofNat 1)) (.len (64 + l)), leN (.len (64 + l)) 4]
def fR20 (l : Nat) : List BE := [.le (.lit (.ofNat 5)) (.len (64 + l)), leN (.len (64 + l)) 20]
def cNRow : Con := { id := 70, f := 5, m := 1, args := [sNums], ro := roM, fs := [], pre := rowP, outs := [{ n := 0, v := yes_, rw := [], fs := [], post := fun _ => True }] }
def ndNRow (P : Program) : List NdS := [
 { key := 0, n := 3, items := itemsAt P 5 0, sl := [(4, gro 5 17 18), (5, iv 19 0), (6, iv 19 1), (7, nil_), (9, nil_), (13, iv 19 2)], rw := [(17, oA 18 17)], ro := roM, fs := fRo, inv := fun ρ => pR ρ ∧ ndL ρ [] ∧ spL ρ [] ∧ iR ρ, mu := fun ρ => (100 * (5 - nv ρ 19 2)).toNat },
 { key := 0, n := 5, items := itemsAt P 5 0, sl := [(4, gro 5 17 18), (5, iv 19 0), (6, iv 19 1), (7, nil_), (9, gro 1 20 21), (13, iv 19 2)], rw := [(17, oA 18 17), (20, oI 21 20)], ro := roM, fs := fRo ++ fR4 21, inv := fun ρ => pR ρ ∧ ndL ρ [] ∧ spL ρ (li ρ 21) ∧ 1 ≤ (li ρ 21).length ∧ iR ρ, mu := fun ρ => (100 * (5 - nv ρ 19 2)).toNat },
 { key := 0, n := 5, items := itemsAt P 5 0, sl := [(4, gro 5 17 18), (5, iv 19 0), (6, iv 19 1), (7, gro 1 20 21), (9, nil_), (13, iv 19 2)], rw := [(17, oA 18 17), (20, oI 21 20)], ro := roM, fs := fRo ++ fR4 21, inv := fun ρ => pR ρ ∧ ndL ρ (li ρ 21) ∧ 1 ≤ (li ρ 21).length ∧ spL ρ [] ∧ iR ρ, mu := fun ρ => (100 * (5 - nv ρ 19 2)).toNat },
 { key := 0, n := 7, items := itemsAt P 5 0, sl := [(4, gro 5 17 18), (5, iv 19 0), (6, iv 19 1), (7, gro 1 20 21), (9, gro 1 22 23), (13, iv 19 2)], rw := [(17, oA 18 17), (20, oI 21 20), (22, oI 23 22)], ro := roM, fs := fRo ++ fR4 21 ++ fR4 23, inv := fun ρ => pR ρ ∧ ndL ρ (li ρ 21) ∧ 1 ≤ (li ρ 21).length ∧ spL ρ (li ρ 23) ∧ 1 ≤ (li ρ 23).length ∧ iR ρ, mu := fun ρ => (100 * (5 - nv ρ 19 2)).toNat },
 { key := 2, n := 3, items := itemsAt P 5 2, sl := [(4, gro 5 17 18), (5, iv 19 0), (6, iv 19 1), (7, nil_), (9, nil_), (13, iv 19 2), (15, iv 19 3), (14, nil_)], rw := [(17, oA 18 17)], ro := roM, fs := fRo ++ [ge0 (nm_ 19 3), leN (nm_ 19 3) 4], inv := fun ρ => pR ρ ∧ ndL ρ [] ∧ spL ρ [] ∧ kR ρ ∧ otR ρ = [], mu := fun ρ => (100 * (5 - nv ρ 19 2) - 1 - nv ρ 19 3).toNat },
 { key := 2, n := 5, items := itemsAt P 5 2, sl := [(4, gro 5 17 18), (5, iv 19 0), (6, iv 19 1), (7, nil_), (9, nil_), (13, iv 19 2), (15, iv 19 3), (14, gro 5 20 21)], rw := [(17, oA 18 17), (20, oA 21 20)], ro := roM, fs := fRo ++ [ge0 (nm_ 19 3), leN (nm_ 19 3) 4] ++ fR20 21, inv := fun ρ => pR ρ ∧ ndL ρ [] ∧ spL ρ [] ∧ kR ρ ∧ otR ρ = li ρ 21 ∧ 5 ≤ (li ρ 21).length, mu := fun ρ => (100 * (5 - nv ρ 19 2) - 1 - nv ρ 19 3).toNat },
 { key := 2, n := 5, items := itemsAt P 5 2, sl := [(4, gro 5 17 18), (5, iv 19 0), (6, iv 19 1), (7, nil_), (9, gro 1 20 21), (13, iv 19 2), (15, iv 19 3), (14, nil_)], rw := [(17, oA 18 17), (20, oI 21 20)], ro := roM, fs := fRo ++ fR4 21 ++ [ge0 (nm_ 19 3), leN (nm_ 19 3) 4], inv := fun ρ => pR ρ ∧ ndL ρ [] ∧ spL ρ (li ρ 21) ∧ 1 ≤ (li ρ 21).length ∧ kR ρ ∧ otR ρ = [], mu := fun ρ => (100 * (5 - nv ρ 19 2) - 1 - nv ρ 19 3).toNat },
 { key := 2, n := 7, items := itemsAt P 5 2, sl := [(4, gro 5 17 18), (5, iv 19 0), (6, iv 19 1), (7, nil_), (9, gro 1 20 21), (13, iv 19 2), (15, iv 19 3), (14, gro 5 22 23)], rw := [(17, oA 18 17), (20, oI 21 20), (22, oA 23 22)], ro := roM, fs := fRo ++ fR4 21 ++ [ge0 (nm_ 19 3), leN (nm_ 19 3) 4] ++ fR20 23, inv := fun ρ => pR ρ ∧ ndL ρ [] ∧ spL ρ (li ρ 21) ∧ 1 ≤ (li ρ 21).length ∧ kR ρ ∧ otR ρ = li ρ 23 ∧ 5 ≤ (li ρ 23).length, mu := fun ρ => (100 * (5 - nv ρ 19 2) - 1 - nv ρ 19 3).toNat },
 { key := 2, n := 5, items := itemsAt P 5 2, sl := [(4, gro 5 17 18), (5, iv 19 0), (6, iv 19 1), (7, gro 1 20 21), (9, nil_), (13, iv 19 2), (15, iv 19 3), (14, nil_)], rw := [(17, oA 18 17), (20, oI 21 20)], ro := roM, fs := fRo ++ fR4 21 ++ [ge0 (nm_ 19 3), leN (nm_ 19 3) 4], inv := fun ρ => pR ρ ∧ ndL ρ (li ρ 21) ∧ 1 ≤ (li ρ 21).length ∧ spL ρ [] ∧ kR ρ ∧ otR ρ = [], mu := fun ρ => (100 * (5 - nv ρ 19 2) - 1 - nv ρ 19 3).toNat },
 { key := 2, n := 7, items := itemsAt P 5 2, sl := [(4, gro 5 17 18), (5, iv 19 0), (6, iv 19 1), (7, gro 1 20 21), (9, nil_), (13, iv 19 2), (15, iv 19 3), (14, gro 5 22 23)], rw := [(17, oA 18 17), (20, oI 21 20), (22, oA 23 22)], ro := roM, fs := fRo ++ fR4 21 ++ [ge0 (nm_ 19 3), leN (nm_ 19 3) 4] ++ fR20 23, inv := fun ρ => pR ρ ∧ ndL ρ (li ρ 21) ∧ 1 ≤ (li ρ 21).length ∧ spL ρ [] ∧ kR ρ ∧ otR ρ = li ρ 23 ∧ 5 ≤ (li ρ 23).length, mu := fun ρ => (100 * (5 - nv ρ 19 2) - 1 - nv ρ 19 3).toNat },
 { key := 2, n := 7, items := itemsAt P 5 2, sl := [(4, gro 5 17 18), (5, iv 19 0), (6, iv 19 1), (7, gro 1 20 21), (9, gro 1 22 23), (13, iv 19 2), (15, iv 19 3), (14, nil_)], rw := [(17, oA 18 17), (20, oI 21 20), (22, oI 23 22)], ro := roM, fs := fRo ++ fR4 21 ++ fR4 23 ++ [ge0 (nm_ 19 3), leN (nm_ 19 3) 4], inv := fun ρ => pR ρ ∧ ndL ρ (li ρ 21) ∧ 1 ≤ (li ρ 21).length ∧ spL ρ (li ρ 23) ∧ 1 ≤ (li ρ 23).length ∧ kR ρ ∧ otR ρ = [], mu := fun ρ => (100 * (5 - nv ρ 19 2) - 1 - nv ρ 19 3).toNat },
 { key := 2, n := 9, items := itemsAt P 5 2, sl := [(4, gro 5 17 18), (5, iv 19 0), (6, iv 19 1), (7, gro 1 20 21), (9, gro 1 22 23), (13, iv 19 2), (15, iv 19 3), (14, gro 5 24 25)], rw := [(17, oA 18 17), (20, oI 21 20), (22, oI 23 22), (24, oA 25 24)], ro := roM, fs := fRo ++ fR4 21 ++ fR4 23 ++ [ge0 (nm_ 19 3), leN (nm_ 19 3) 4] ++ fR20 25, inv := fun ρ => pR ρ ∧ ndL ρ (li ρ 21) ∧ 1 ≤ (li ρ 21).length ∧ spL ρ (li ρ 23) ∧ 1 ≤ (li ρ 23).length ∧ kR ρ ∧ otR ρ = li ρ 25 ∧ 5 ≤ (li ρ 25).length, mu := fun ρ => (100 * (5 - nv ρ 19 2) - 1 - nv ρ 19 3).toNat },
 { key := 0, n := 0, items := itemsAt P 5 0, sl := [(4, nil_), (13, e0)], ro := roM, fs := [], inv := fun ρ => True, mu := fun ρ => 0 }]
def consNRow : List Con := [cTo, cAgents, cPass, cNeed, cSpoil, cShort, cNeedN, cSpoilN, cShortN, cFoll, cFind, cFined]
end Ft
