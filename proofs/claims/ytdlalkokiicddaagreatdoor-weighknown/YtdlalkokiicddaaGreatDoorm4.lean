/- A logic over the machine and a run of a program on unknown values, in the kernel. No statement of the project is proved in this text. -/
import Derived.Conc.DeferLaws
import Derived.Conc.Own2
import Derived.Laws.Externs
import Derived.Test.YtdlalkokiicddaaGreatDoorm3
set_option linter.unusedVariables false
set_option linter.unusedSimpArgs false
set_option linter.unusedVariables false
namespace Mw
open Go Mv
def predsOf (o : Oper) : List Nat := (o.after.toList.filter fun e => Region.binds .any e).map (·.on)
inductive Sched (ops : Array Oper) : List Nat → List Nat → Prop
  | nil {done : List Nat} : (∀ i, i < ops.size → i ∈ done) → Sched ops done []
  | cons {done : List Nat} {i : Nat} {rest : List Nat} {o : Oper} : ops[i]? = some o → i ∉ done → (∀ j ∈ predsOf o, j ∈ done) → Sched ops (i :: done) rest → Sched ops done (i :: rest)
def textual (ops : Array Oper) : Bool := ops.toList.zipIdx.all fun x => (predsOf x.1).all (· < x.2)
theorem textual_preds {ops : Array Oper} (h : textual ops = true) {i : Nat} {o : Oper} (ho : ops[i]? = some o) {j : Nat} (hj : j ∈ predsOf o) : j < i := by
  have := List.all_eq_true.1 h (o, i) (by
    rw [List.mem_zipIdx_iff_getElem?]
    simpa using ho)
  exact of_decide_eq_true (List.all_eq_true.1 this j hj)
theorem binds_any {m : Region.Mode} {e : Edge} (h : Region.binds .any e = true) : Region.binds m e = true := by
  unfold Region.binds at h ⊢
  split <;> simp_all
def Ranked (m : Region.Mode) (ops : Array Oper) : Prop := ∃ rank : Nat → Nat, ∀ i o, ops[i]? = some o → ∀ e ∈ o.after.toList, Region.binds m e = true → e.on < ops.size ∧ rank e.on < rank i
def rankB (m : Region.Mode) (ops : Array Oper) (rank : Nat → Nat) : Bool := ops.toList.zipIdx.all fun x => x.1.after.toList.all fun e => !Region.binds m e || (decide (e.on < ops.size) && decide (rank e.on < rank x.2))
theorem rankB_ok {m : Region.Mode} {ops : Array Oper} {rank : Nat → Nat} (h : rankB m ops rank = true) : Ranked m ops := by
  refine ⟨rank, fun i o ho e he hb => ?_⟩
  have := List.all_eq_true.1 h (o, i) (by
    rw [List.mem_zipIdx_iff_getElem?]
    simpa using ho)
  have := List.all_eq_true.1 this e he
  simp only [hb, Bool.not_true, Bool.false_or, Bool.and_eq_true, decide_eq_true_eq] at this
  exact this
theorem least {p : Nat → Prop} {rank : Nat → Nat} {n : Nat} (h : ∃ i, i < n ∧ p i) : ∃ i, i < n ∧ p i ∧ ∀ j, j < n → rank j < rank i → ¬ p j := by
  obtain ⟨i, hi, hp⟩ := h
  have : ∀ r i, rank i = r → i < n → p i → ∃ i, i < n ∧ p i ∧ ∀ j, j < n → rank j < rank i → ¬ p j := by
    intro r
    induction r using Nat.strongRecOn with
    | ind r ih =>
      intro i hr hi hp
      by_cases hex : ∃ j, j < n ∧ rank j < rank i ∧ p j
      · obtain ⟨j, hj, hrj, hpj⟩ := hex
        exact ih (rank j) (by omega) j rfl hj hpj
      · exact ⟨i, hi, hp, fun j hj hrj hpj => hex ⟨j, hj, hrj, hpj⟩⟩
  exact this _ i rfl hi hp
theorem range_le : ∀ (n : Nat) (l : List Nat), (∀ i, i < n → i ∈ l) → n ≤ l.length
  | 0, _, _ => Nat.zero_le _
  | n + 1, l, h => by
    have hn := h n (Nat.lt_succ_self n)
    have := range_le n (l.erase n) fun i hi => (List.mem_erase_of_ne (by omega)).2 (h i (by omega))
    rw [List.length_erase_of_mem hn] at this
    have := List.length_pos_of_mem hn
    omega
theorem nodup_full : ∀ (n : Nat) (l : List Nat), l.Nodup → (∀ x ∈ l, x < n) → l.length ≤ n ∧ (l.length = n → ∀ i, i < n → i ∈ l)
  | 0, l, _, h => by
    cases l with
    | nil => simp
    | cons x l => have := h x List.mem_cons_self; omega
  | n + 1, l, hnd, h => by
    by_cases hn : n ∈ l
    · have ih := nodup_full n (l.erase n) (hnd.erase n) fun x hx => by
        have h1 := h x (List.mem_of_mem_erase hx)
        have h2 : x ≠ n := fun e => by subst e; exact (List.Nodup.not_mem_erase hnd) hx
        omega
      rw [List.length_erase_of_mem hn] at ih
      have hpos := List.length_pos_of_mem hn
      refine ⟨by omega, fun he i hi => ?_⟩
      by_cases e : i = n
      · subst e; exact hn
      · exact List.mem_of_mem_erase (ih.2 (by omega) i (by omega))
    · have ih := nodup_full n l hnd fun x hx => by
        have h1 := h x hx
        have h2 : x ≠ n := fun e => by subst e; exact hn hx
        omega
      exact ⟨by omega, fun he => by omega⟩
theorem sched_go {m : Region.Mode} {ops : Array Oper} (hrk : Ranked m ops) : ∀ (fuel t : Nat) (listed : Array Bool) (acc : List Nat), listed.size = ops.size → (∀ i, i < ops.size → (listed[i]? = some true ↔ i ∈ acc)) → (∀ i ∈ acc, i < ops.size) → acc.Nodup → fuel + acc.length = ops.size →
    ∃ s, Region.linearise.go m ops fuel t listed acc = acc.reverse ++ s ∧ Sched ops acc s := by
  obtain ⟨rank, hrank⟩ := hrk
  intro fuel
  induction fuel with
  | zero =>
    intro t listed acc hsz hl hlt hnd hfl
    refine ⟨[], by simp [Region.linearise.go], .nil fun i hi => ?_⟩
    exact (nodup_full ops.size acc hnd hlt).2 (by omega) i hi
  | succ fuel ih =>
    intro t listed acc hsz hl hlt hnd hfl
    simp only [Region.linearise.go]
    split
    · rename_i i hi
      have hmem := List.mem_of_getElem? hi
      simp only [List.mem_filter, List.mem_range, Bool.and_eq_true, Bool.not_eq_true'] at hmem
      obtain ⟨hin, hnl, hready⟩ := hmem
      have hnot : i ∉ acc := fun hm => by
        have := (hl i hin).2 hm
        simp [this] at hnl
      obtain ⟨o, ho⟩ : ∃ o, ops[i]? = some o := ⟨ops[i], Array.getElem?_eq_getElem hin⟩
      rw [ho] at hready
      simp only [Option.map_some, Option.getD_some] at hready
      obtain ⟨s, hs, hsch⟩ := ih (t / _) (listed.setIfInBounds i true) (i :: acc) (by simpa using hsz) (fun j hj => by
        rw [Array.getElem?_setIfInBounds]
        by_cases e : i = j
        · subst e; simp [hsz, hin]
        · rw [if_neg e, hl j hj]; simp [Ne.symm e]) (fun j hj => by
        rcases List.mem_cons.1 hj with rfl | hj
        · exact hin
        · exact hlt j hj) (List.nodup_cons.2 ⟨hnot, hnd⟩) (by simp; omega)
      refine ⟨i :: s, by rw [hs]; simp, .cons ho hnot (fun j hj => ?_) hsch⟩
      simp only [predsOf, List.mem_map, List.mem_filter] at hj
      obtain ⟨e, ⟨he, hb⟩, rfl⟩ := hj
      have hr := Array.all_eq_true'.1 hready e (Array.mem_toList_iff.1 he)
      simp only [binds_any (m := m) hb, Bool.not_true, Bool.false_or] at hr
      have hjlt : e.on < ops.size := by
        exact (hrank i o ho e he (binds_any hb)).1
      refine (hl e.on hjlt).1 ?_
      rw [Array.getElem?_eq_getElem (by omega)]
      simpa [Array.getD, hsz, hjlt] using hr
    · rename_i hnone
      exfalso
      have hex : ∃ i, i < ops.size ∧ i ∉ acc := by
        rcases Classical.em (∃ i, i < ops.size ∧ i ∉ acc) with h | h
        · exact h
        · exfalso
          have hall : ∀ i, i < ops.size → i ∈ acc := fun i hi => Classical.byContradiction fun hn => h ⟨i, hi, hn⟩
          have := range_le ops.size acc hall
          omega
      obtain ⟨i, hi, hni, hmin⟩ := least (rank := rank) hex
      obtain ⟨o, ho⟩ : ∃ o, ops[i]? = some o := ⟨ops[i], Array.getElem?_eq_getElem hi⟩
      have hin : i ∈ (List.range ops.size).filter fun i => !listed.getD i true && ((ops[i]?).map (·.after.all fun e => !Region.binds m e || listed.getD e.on false)).getD false := by
        simp only [List.mem_filter, List.mem_range, Bool.and_eq_true, Bool.not_eq_true']
        refine ⟨hi, ?_, ?_⟩
        · have h1 : ¬ listed[i]? = some true := fun h => hni ((hl i hi).1 h)
          rw [Array.getElem?_eq_getElem (by omega)] at h1
          have h2 : listed[i] = false := by simpa using h1
          simp [Array.getD, hsz, hi, h2]
        · rw [ho]
          simp only [Option.map_some, Option.getD_some, Array.all_eq_true']
          intro e he
          cases hb : Region.binds m e with
          | false => rfl
          | true =>
            obtain ⟨hj0, hj⟩ := hrank i o ho e (Array.mem_toList_iff.2 he) hb
            have hjm : e.on ∈ acc := Classical.byContradiction fun h => hmin e.on hj0 hj h
            have := (hl e.on (by omega)).2 hjm
            have hlt : e.on < listed.size := by omega
            rw [Array.getElem?_eq_getElem hlt] at this
            simp only [Option.some.injEq] at this
            simp [Array.getD, hlt, this]
      have hpos : 0 < ((List.range ops.size).filter fun i => !listed.getD i true && ((ops[i]?).map (·.after.all fun e => !Region.binds m e || listed.getD e.on false)).getD false).length := List.length_pos_of_mem hin
      rw [List.getElem?_eq_none_iff] at hnone
      have := Nat.mod_lt t hpos
      omega
theorem sched_linearise {m : Region.Mode} {ops : Array Oper} (ht : Ranked m ops) (t : Nat) : Sched ops [] (Region.linearise m ops t) := by
  obtain ⟨s, hs, h⟩ := sched_go ht ops.size t (Array.replicate ops.size false) [] (by simp) (fun i hi => by simp [hi]) (by simp) List.nodup_nil (by simp)
  unfold Region.linearise
  rw [hs]
  simpa using h
def masksGo : List Oper → List Nat → List Nat
  | [], acc => acc
  | o :: os, acc => masksGo os (acc ++ [(predsOf o).foldl (fun m j => m ||| (2 ^ j ||| acc.getD j 0)) 0])
def masks (ops : Array Oper) : List Nat := masksGo ops.toList []
def Down (ops : Array Oper) (D : List Nat) : Prop := ∀ i ∈ D, ∀ o, ops[i]? = some o → ∀ j ∈ predsOf o, j ∈ D
def GoodMask (ops : Array Oper) (k m : Nat) : Prop := ∀ j, m.testBit j = true → j < k ∧ ∀ D, Down ops D → (∀ o, ops[k]? = some o → ∀ j ∈ predsOf o, j ∈ D) → j ∈ D
theorem masksGo_good {ops : Array Oper} (ht : textual ops = true) : ∀ (os : List Oper) (acc : List Nat), ops.toList.drop acc.length = os → (∀ k m, acc[k]? = some m → GoodMask ops k m) → ∀ k m, (masksGo os acc)[k]? = some m → GoodMask ops k m := by
  intro os
  induction os with
  | nil => exact fun acc _ h => h
  | cons o os ih =>
    intro acc hd h
    have hlen : acc.length < ops.size := by
      have := congrArg List.length hd
      simp at this; omega
    have ho : ops[acc.length]? = some o := by
      have := List.drop_eq_getElem_cons (l := ops.toList) (i := acc.length) (by simpa using hlen)
      rw [hd] at this
      rw [Array.getElem?_eq_getElem hlen]
      have h1 := (List.cons.inj this).1
      simpa using h1.symm
    refine ih (acc ++ [_]) ?_ ?_
    · have := List.drop_eq_getElem_cons (l := ops.toList) (i := acc.length) (by simpa using hlen)
      rw [hd] at this
      simpa using (List.cons.inj this).2.symm
    · intro k m hk
      rcases Nat.lt_or_ge k acc.length with hlt | hge
      · rw [List.getElem?_append_left hlt] at hk; exact h k m hk
      · rw [List.getElem?_append_right hge] at hk
        have hk0 : k = acc.length := by
          rcases Nat.eq_or_lt_of_le hge with e | e
          · exact e.symm
          · rw [List.getElem?_eq_none (by simp; omega)] at hk; cases hk
        subst hk0
        simp only [Nat.sub_self, List.getElem?_cons_zero, Option.some.injEq] at hk
        subst hk
        have key : ∀ (l : List Nat) (m0 : Nat), (∀ j ∈ l, j ∈ predsOf o) → GoodMask ops acc.length m0 → GoodMask ops acc.length (l.foldl (fun m j => m ||| (2 ^ j ||| acc.getD j 0)) m0) := by
          intro l
          induction l with
          | nil => exact fun m0 _ h => h
          | cons j l ihl =>
            intro m0 hl hm0
            refine ihl _ (fun x hx => hl x (List.mem_cons_of_mem _ hx)) ?_
            intro b hb
            simp only [Nat.testBit_or, Bool.or_eq_true] at hb
            have hjp := hl j List.mem_cons_self
            have hjlt := textual_preds ht ho hjp
            rcases hb with hb | hb | hb
            · exact hm0 b hb
            · rw [Nat.testBit_two_pow] at hb
              have hb' : j = b := by simpa using hb
              subst hb'
              exact ⟨hjlt, fun D _ hp => hp o ho j hjp⟩
            · cases ha : acc[j]? with
              | none => simp [List.getD, ha] at hb
              | some mj =>
                have hb' : mj.testBit b = true := by simpa [List.getD, ha] using hb
                obtain ⟨h1, h2⟩ := h j mj ha b hb'
                exact ⟨by omega, fun D hD hp => h2 D hD fun oj hoj x hx => hD j (hp o ho j hjp) oj hoj x hx⟩
        exact key _ 0 (fun j hj => hj) fun b hb => by simp at hb
theorem masks_good {ops : Array Oper} (ht : textual ops = true) {k m : Nat} (h : (masks ops)[k]? = some m) : GoodMask ops k m :=
  masksGo_good ht _ [] (by simp) (by simp) k m h
end Mw
set_option linter.unusedVariables false
namespace Mw
open Go Mv
def orderOf (m : Region.Mode) (ops : Array Oper) (i : Nat) : Nat := (Region.linearise m ops 0).idxOf i
def ranksOk (ops : Array Oper) : Bool := rankB .any ops id && (!Region.departs ops || (rankB .text ops (orderOf .text ops) && rankB .gc ops (orderOf .gc ops)))
theorem sched_schedule {mixed : Bool} {ops : Array Oper} (h : ranksOk ops = true) (t : Nat) : Sched ops [] (Region.schedule mixed ops t) := by
  simp only [ranksOk, Bool.and_eq_true, Bool.or_eq_true] at h
  unfold Region.schedule
  split
  · exact sched_linearise (rankB_ok h.1) t
  · rename_i hd
    rcases h.2 with h2 | ⟨h2, h3⟩
    · exact absurd (by simp [h2]) hd
    · split
      · exact sched_linearise (rankB_ok h2) _
      · exact sched_linearise (rankB_ok h3) _
def sameL (f : SC → SC → Bool) : List SC → List SC → Bool
  | [], [] => true
  | x :: l, y :: m => f x y && sameL f l m
  | _, _ => false
def SC.same : Nat → SC → SC → Bool
  | _, .int k (.lit m), .int k' (.lit n) => decide (k = k') && Int.same m n
  | _, .int k x, .int k' y => decide (k = k') && decide (x = y)
  | _, .bool x, .bool y => decide (x = y)
  | _, .any i, .any j => Nat.beq i j
  | _, .ref i, .ref j => Nat.beq i j
  | _, .chn i, .chn j => Nat.beq i j
  | _, .yield i, .yield j => Nat.beq i j
  | _, .ptr b x, .ptr b' y => Nat.beq b b' && decide (x = y)
  | _, .slice b x l c, .slice b' x' l' c' => Nat.beq b b' && decide (x = x') && decide (l = l') && decide (c = c')
  | _, .lit .nilIface, .lit .nilIface => true
  | _, .lit .nilFunc, .lit .nilFunc => true
  | _, .lit (.map none), .lit (.map none) => true
  | _, .lit (.pointer (some ⟨b, o, none⟩)), .lit (.pointer (some ⟨b', o', none⟩)) => Nat.beq b b' && Nat.beq o o'
  | _, .lit (.chan none), .lit (.chan none) => true
  | _, .lit (.pointer none), .lit (.pointer none) => true
  | _, .lit (.slice none 0 0), .lit (.slice none 0 0) => true
  | n + 1, .agg l, .agg m => sameL (SC.same n) l m
  | n + 1, .tup l, .tup m => sameL (SC.same n) l m
  | n + 1, .iface t x, .iface t' y => Nat.beq t t' && SC.same n x y
  | n + 1, .fn f a b, .fn f' a' b' => decide (f = f') && sameL (SC.same n) a a' && sameL (SC.same n) b b'
  | _, _, _ => false
theorem sameL_eq {f : SC → SC → Bool} (hf : ∀ x y, f x y = true → x = y) : ∀ l m, sameL f l m = true → l = m
  | [], [], _ => rfl
  | x :: l, y :: m, h => by
    simp only [sameL, Bool.and_eq_true] at h
    rw [hf x y h.1, sameL_eq hf l m h.2]
  | [], _ :: _, h => by cases h
  | _ :: _, [], h => by cases h
theorem SC.same_eq : ∀ n x y, SC.same n x y = true → x = y := by
  intro n
  induction n with
  | zero =>
    intro x y h
    unfold SC.same at h
    split at h <;> (try simp only [Bool.and_eq_true, decide_eq_true_eq, Int.same_eq, beq_iff_eq, Nat.beq_eq, Bool.false_eq_true] at h) <;> first | rfl | (simp_all; done)
  | succ n ih =>
    have ihl := sameL_eq ih
    intro x y h
    unfold SC.same at h
    split at h <;> (try simp only [Bool.and_eq_true, decide_eq_true_eq, Int.same_eq, beq_iff_eq, Nat.beq_eq, Bool.false_eq_true, Nat.succ.injEq] at *) <;> first
      | rfl
      | (simp_all; done)
      | (subst_vars; rw [ihl _ _ h])
      | (subst_vars; obtain ⟨⟨h1, h2⟩, h3⟩ := h; rw [h1, ihl _ _ h2, ihl _ _ h3])
      | (subst_vars; obtain ⟨h1, h2⟩ := h; rw [h1, ih _ _ h2])
abbrev Opx := Run_ → Call_ → Round_ → Cx → Facts → List Item → Array Oper → List Nat → Oper → List Item → SS → Nat → Kont → Tree
structure OpxOk (P : Program) (main : Co) (opx : Opx) : Prop where
  good : ∀ (D : Env → SEx → SS → Prop) (E : Env → List Item → SS → Prop) (ex : Run_) (call : Call_) (rnd : Round_), SoundRound P main rnd → SoundCall P main call → ∀ (C : Cx) (Γ : Facts) (items items' tail : List Item) (ops : Array Oper) (i : Nat) (rest rest' : List Nat) (o : Oper) (σ : SS) (k : Kont) (ρ : Env) (Q : Ex → St → Own → Prop) (F : Own) (r : Ctx),
    CtxOk C r ρ → vals ρ → Γ.On ρ → KOk D E C.size F ρ k Q → ops[i]? = some o → holds D E ρ (opx ex call rnd C Γ items ops rest o items' σ ρ.k.length k) → ∀ {a : St} {S : Own}, Fit C.size F ρ σ a S → Region.wanted o (yielded ops a.tmps) = true →
    (∀ {t : Tree}, t = stuck_ C items σ → holds D E ρ t → wpI P main r (.inRegion ops (i :: rest') :: tail) Q a S) →
    (∀ ρ' Γ' σ' a' S', Ext ρ ρ' → vals ρ' → Γ'.On ρ' → Fit C.size F ρ' σ' a' S' → (∃ v, a'.tmps = (a.put o.dst v).tmps) → holds D E ρ' (ex C Γ' (.inRegion ops rest :: items') σ' ρ'.k.length k) → wpI P main r (.inRegion ops rest' :: tail) Q a' S') → wpI P main r (.inRegion ops (i :: rest') :: tail) Q a S
  alloc : ∃ inl, ∀ ex call rnd C Γ items ops rest o tail σ nk k t, o.op = .alloc t → opx ex call rnd C Γ items ops rest o tail σ nk k = stepOp P inl ex call rnd C Γ items ops rest o tail σ nk k
theorem stepOp_ok {P : Program} {main : Co} {inl : FuncId → Bool} : OpxOk P main (stepOp P inl) :=
  ⟨fun D E ex call rnd hrnd hcall C Γ items items' tail ops i rest rest' o σ k ρ Q F r hr hv hΓ hK ho h => fun hf hw hst hnext => stepOp_good hrnd hcall hr hv hΓ hK ho h hf hw hst hnext, ⟨inl, fun _ _ _ _ _ _ _ _ _ _ _ _ _ _ _ => rfl⟩⟩
def quietB : Builtin → Bool
  | .len | .cap | .min | .max => true
  | _ => false
def quietC : Callee → Bool
  | .builtin b => quietB b
  | _ => false
def quietOp : Op → Bool
  | .move _ | .assign _ | .pick .. | .build .. | .load .. | .nilCheck _ | .binOp .. | .unOp .. | .convert .. | .makeInterface .. | .makeFunc .. | .slice .. | .fieldAddr .. | .field .. | .indexAddr .. | .index .. | .typeAssert .. | .extract .. => true
  | .call c => quietC c.callee
  | _ => false
def effAt (ops : Array Oper) (i : Nat) : Bool := match ops[i]? with
  | some o => !quietOp o.op
  | none => false
def ahead (ops : Array Oper) (i : Nat) : Nat := (masks ops).getD i 0
def dstIs (ops : Array Oper) (j t : Nat) : Bool := match ops[j]? with
  | some o => match o.dst with
    | some d => Nat.beq d t
    | none => false
  | none => false
def writersGo (t : Nat) : List Oper → Nat → List Nat
  | [], _ => []
  | o :: os, j => match o.dst with
    | some d => match Nat.beq d t with
      | true => j :: writersGo t os (j + 1)
      | false => writersGo t os (j + 1)
    | none => writersGo t os (j + 1)
def writers (ops : Array Oper) (t : Nat) : List Nat := writersGo t ops.toList 0
def seen (ops : Array Oper) (i t : Nat) : Bool := (writers ops t).all fun j => (ahead ops i).testBit j
def dsts (ops : Array Oper) : List Nat := ops.toList.filterMap (·.dst)
def later (ops : Array Oper) (i t : Nat) : Bool := (writers ops t).all fun j => (ahead ops j).testBit i
def tmpsOf : List Operand → List Nat → List Nat
  | [], acc => acc
  | .tmp t :: l, acc => t :: tmpsOf l acc
  | _ :: l, acc => tmpsOf l acc
def readsOf (ops : Array Oper) (i : Nat) : List Nat := match ops[i]? with
  | some o => tmpsOf o.op.operands.toList (match o.guard with
    | some (j, _) => match ops[j]? with
      | some oj => match oj.dst with
        | some d => [d]
        | none => []
      | none => []
    | none => [])
  | none => []
def see (ops : Array Oper) (i : Nat) (sl0 sl : Tr SC) (s : Tr SC) (t : Nat) : Tr SC := match seen ops i t with
  | true => match sl.look t with
    | some v => s.set t v
    | none => s
  | false => match later ops i t with
    | true => match sl0.look t with
      | some v => s.set t v
      | none => s
    | false => s
def hide (ops : Array Oper) (sl0 : Tr SC) (i : Nat) (sl : Tr SC) : Tr SC := (readsOf ops i).foldl (see ops i sl0 sl) .nil
def pendAt (ops : Array Oper) (past : List Nat) : List Nat := (List.range ops.size).filter fun q => !effAt ops q && ((List.range ops.size).all fun j => !(effAt ops j && (ahead ops q).testBit j) || past.contains j) && past.all fun j => !(ahead ops j).testBit q
def newsAt (ops : Array Oper) (past : List Nat) (last : Option Nat) : List Nat := (pendAt ops past).filter fun q => match last with
  | none => true
  | some i => (ahead ops q).testBit i
def isAl (ops : Array Oper) (i : Nat) : Bool := match ops[i]? with
  | some o => match o.op with
    | .alloc _ => true
    | _ => false
  | none => false
def placeE (ops : Array Oper) : List Nat → List Nat → List Nat
  | [], as => as
  | e :: es, as => as.filter (fun a => (ahead ops e).testBit a) ++ e :: placeE ops es (as.filter fun a => !(ahead ops e).testBit a)
def effsOf (ops : Array Oper) : List Nat := placeE ops ((List.range ops.size).filter fun i => effAt ops i && !isAl ops i) ((List.range ops.size).filter (isAl ops))
def chainB (ops : Array Oper) : List Nat → Bool
  | [] => true
  | i :: l => l.all (fun j => isAl ops j || (ahead ops j).testBit i) && chainB ops l
def placedB (ops : Array Oper) : List Nat → List Nat → Bool
  | _, [] => true
  | past, i :: l => (!isAl ops i || (List.range ops.size).all fun q => effAt ops q || !(ahead ops q).testBit i || past.all fun e => (ahead ops q).testBit e) && placedB ops (i :: past) l
def nodupB : List Nat → Bool
  | [] => true
  | x :: l => !l.contains x && nodupB l
def openOk (ops : Array Oper) : Bool := ranksOk ops && textual ops && nodupB (dsts ops) && Nat.beq (masks ops).length ops.size && chainB ops (effsOf ops) && placedB ops [] (effsOf ops)
def allocsOk (P : Program) (ops : Array Oper) (size : Nat) : Bool := (List.range ops.size).all fun i => match ops[i]? with
  | some o => match o.op with
    | .alloc t => o.guard.isNone && (match o.dst with | some d => Nat.ble (d + 1) size | none => false) && (match sAlloc P t with | some (.fresh [] _ .ptr) => true | _ => false)
    | _ => true
  | none => true
def dropA (ops : Array Oper) (l : List Nat) (sl : Tr SC) : Tr SC := l.foldl (fun sl i => match ops[i]? with
  | some o => match o.dst with
    | some d => sl.del d
    | none => sl
  | none => sl) sl
def agrees (sl : Tr SC) (dst : Option Tmp) (v : SC) : Bool := match dst with
  | none => true
  | some d => match sl.look d with
    | none => true
    | some w => SC.same 6 w v
section
variable (P : Program) (ops : Array Oper) (sl0 : Tr SC)
def guessAll (Γ : Facts) (hp : Hp) : List Nat → Tr SC → (Tr SC → Tree) → Tree
  | [], sl, k => k sl
  | q :: l, sl, k => match ops[q]? with
    | none => .bad
    | some o => match symWanted (hide ops sl0 q sl) ops o with
      | some (.inl true) => match symOpF P hp (evC (hide ops sl0 q sl)) o.op with
        | some (.val _ v) => putK sl o.dst (v.nrmF Γ) fun sl => guessAll Γ hp l sl k
        | _ => .bad
      | some (.inl false) => putK sl o.dst undefS fun sl => guessAll Γ hp l sl k
      | _ => .bad
def checkAll (size : Nat) (Γ : Facts) (hp : Hp) (sl : Tr SC) : List Nat → Tree → Tree
  | [], t => t
  | q :: l, t => match ops[q]? with
    | none => .bad
    | some o => match o.dst.all (· < size) with
      | false => .bad
      | true => match symWanted (hide ops sl0 q sl) ops o with
        | some (.inl true) => match symOpF P hp (evC (hide ops sl0 q sl)) o.op with
          | some (.val ns v) => match agrees sl o.dst (v.nrmF Γ) with
            | true => .needs (toShow Γ ns) (checkAll size Γ hp sl l t)
            | false => .bad
          | _ => .bad
        | some (.inl false) => match agrees sl o.dst undefS with
          | true => checkAll size Γ hp sl l t
          | false => .bad
        | _ => .bad
def merge (sl : Tr SC) (dst : Option Tmp) (sl' : Tr SC) : Tr SC := match dst with
  | none => sl
  | some d => match sl'.look d with
    | some v => sl.set d v
    | none => sl.del d
variable (opx : Opx) (ex : Run_) (call : Call_)
def stages (C : Cx) (tail : List Item) (k : Kont) : List Nat → List Nat → Option Nat → Facts → SS → Nat → Tree
  | effs, past, last, Γ, σ, nk => guessAll P ops sl0 Γ σ.hp (newsAt ops past last) σ.sl fun sl =>
    checkAll P ops sl0 C.size Γ σ.hp sl (pendAt ops past) (match effs with
      | [] => ex C Γ tail (σ.withSl sl) nk k
      | i :: effs => match ops[i]? with
        | none => .bad
        | some o => match symWanted (hide ops sl0 i sl) ops o with
          | some (.inl true) => opx (fun _ Γ _ σ' nk _ => stages C tail k effs (i :: past) (some i) Γ (σ'.withSl (merge sl o.dst σ'.sl)) nk) call (roundF P ex) { C with top := false } Γ [] ops [] o [] (σ.withSl (hide ops sl0 i sl)) nk k
          | some (.inl false) => match o.dst.all (· < C.size) with
            | true => stages C tail k effs (i :: past) (some i) Γ (σ.withSl (putD sl o.dst undefS)) nk
            | false => .bad
          | _ => .bad)
  termination_by structural effs => effs
end
def openX (P : Program) (ops : Array Oper) (opx : Opx) (ex : Run_) (call : Call_) (C : Cx) (Γ : Facts) (items : List Item) (tail : List Item) (σ : SS) (nk : Nat) (k : Kont) : Tree := match openOk ops with
  | true => match allocsOk P ops C.size with
    | true => stages P ops σ.sl opx ex call C tail k (effsOf ops) [] none Γ (σ.withSl (dropA ops ((List.range ops.size).filter (isAl ops)) σ.sl)) nk
    | false => stuck_ C items σ
  | false => stuck_ C items σ
abbrev openR (P : Program) (ops : Array Oper) (inl : FuncId → Bool) := openX P ops (stepOp P inl)
section
variable {P : Program} {main : Co} {ops : Array Oper}
theorem ahead_lt (ht : textual ops = true) {k j : Nat} (h : (ahead ops k).testBit j = true) : ∃ m, GoodMask ops k m ∧ m.testBit j = true := by
  unfold ahead at h
  cases hm : (masks ops)[k]? with
  | none => simp [List.getD, hm] at h
  | some m => exact ⟨m, masks_good ht hm, by simpa [List.getD, hm] using h⟩
theorem ahead_done (ht : textual ops = true) {k j : Nat} (h : (ahead ops k).testBit j = true) {D : List Nat} (hD : Down ops D) (hp : ∀ o, ops[k]? = some o → ∀ x ∈ predsOf o, x ∈ D) : j ∈ D := by
  obtain ⟨m, hm, hj⟩ := ahead_lt ht h
  exact (hm j hj).2 D hD hp
theorem see_look {i x d : Nat} {sl0 sl s : Tr SC} {v : SC} (h : (see ops i sl0 sl s x).look d = some v) : s.look d = some v ∨ (seen ops i d = true ∧ sl.look d = some v) ∨ (later ops i d = true ∧ sl0.look d = some v) := by
  unfold see at h
  split at h
  · rename_i hs
    split at h
    · rename_i w hw
      rcases Tr.look_set h with ⟨rfl, rfl⟩ | h
      · exact .inr (.inl ⟨hs, hw⟩)
      · exact .inl h.2
    · exact .inl h
  · split at h
    · rename_i hl
      split at h
      · rename_i w hw
        rcases Tr.look_set h with ⟨rfl, rfl⟩ | h
        · exact .inr (.inr ⟨hl, hw⟩)
        · exact .inl h.2
      · exact .inl h
    · exact .inl h
theorem foldl_see_look {i : Nat} {sl0 sl : Tr SC} : ∀ (l : List Nat) (s : Tr SC) {d : Nat} {v : SC}, (l.foldl (see ops i sl0 sl) s).look d = some v → s.look d = some v ∨ (seen ops i d = true ∧ sl.look d = some v) ∨ (later ops i d = true ∧ sl0.look d = some v)
  | [], s, d, v, h => .inl h
  | x :: l, s, d, v, h => by
    rcases foldl_see_look l (see ops i sl0 sl s x) h with h1 | h1
    · exact see_look h1
    · exact .inr h1
theorem hide_look {i : Nat} {sl0 sl : Tr SC} {d : Nat} {v : SC} (h : (hide ops sl0 i sl).look d = some v) : (seen ops i d = true ∧ sl.look d = some v) ∨ (later ops i d = true ∧ sl0.look d = some v) := by
  rcases foldl_see_look _ _ h with h | h
  · rw [Tr.nil_look] at h; cases h
  · exact h
theorem writersGo_mem {t : Nat} {o : Oper} : ∀ {os : List Oper} {k j : Nat}, os[j]? = some o → o.dst = some t → k + j ∈ writersGo t os k
  | [], k, j, h, _ => by simp at h
  | x :: os, k, 0, h, hd => by
    simp only [List.getElem?_cons_zero, Option.some.injEq] at h; subst h
    simp [writersGo, hd]
  | x :: os, k, j + 1, h, hd => by
    have := writersGo_mem (k := k + 1) (os := os) (j := j) (by simpa using h) hd
    have e : k + 1 + j = k + (j + 1) := by omega
    rw [e] at this
    unfold writersGo
    split
    · split
      · exact List.mem_cons_of_mem _ this
      · exact this
    · exact this
theorem writers_mem {j d : Nat} (h : dstIs ops j d = true) : j ∈ writers ops d := by
  unfold dstIs at h
  split at h
  · rename_i o ho
    split at h
    · rename_i d' hd
      have := Nat.eq_of_beq_eq_true h
      subst this
      have := writersGo_mem (k := 0) (os := ops.toList) (j := j) (by simpa using ho) hd
      simpa [writers] using this
    · cases h
  · cases h
theorem later_of {i d j : Nat} (hl : later ops i d = true) (h : dstIs ops j d = true) : (ahead ops j).testBit i = true := List.all_eq_true.1 hl j (writers_mem h)
def Old (ρ : Env) (ops : Array Oper) (done : List Nat) (sl0 : Tr SC) (a : St) : Prop :=
  ∀ d v, sl0.look d = some v → (∃ j, j ∈ done ∧ dstIs ops j d = true) ∨ (v.ok ρ.k.length ∧ a.tmps[d]? = some (v.den ρ))
theorem dstIs_iff {j d : Nat} (h : dstIs ops j d = true) : ∃ o, ops[j]? = some o ∧ o.dst = some d := by
  unfold dstIs at h
  split at h
  · rename_i o ho
    split at h
    · rename_i d' hd
      have := Nat.eq_of_beq_eq_true h
      subst this
      exact ⟨o, ho, hd⟩
    · cases h
  · cases h
theorem dstIs_of {j d : Nat} {o : Oper} (ho : ops[j]? = some o) (hd : o.dst = some d) : dstIs ops j d = true := by
  simp only [dstIs, ho, hd, Nat.beq_refl]
theorem nodupB_eq : ∀ {l : List Nat}, nodupB l = true → l.Nodup
  | [], _ => List.nodup_nil
  | x :: l, h => by
    simp only [nodupB, Bool.and_eq_true, Bool.not_eq_true', List.contains_eq_mem, decide_eq_false_iff_not] at h
    exact List.nodup_cons.2 ⟨h.1, nodupB_eq h.2⟩
theorem uniq {α : Type} {f : α → Option Nat} : ∀ {l : List α} {j j' : Nat} {x y : α} {d : Nat}, (l.filterMap f).Nodup → l[j]? = some x → l[j']? = some y → f x = some d → f y = some d → j = j'
  | [], _, _, _, _, _, _, h, _, _, _ => by simp at h
  | z :: l, 0, 0, _, _, _, _, _, _, _, _ => rfl
  | z :: l, 0, j' + 1, x, y, d, hn, hx, hy, fx, fy => by
    exfalso
    simp only [List.getElem?_cons_zero, Option.some.injEq] at hx
    subst hx
    rw [List.filterMap_cons_some fx] at hn
    exact (List.nodup_cons.1 hn).1 (List.mem_filterMap.2 ⟨y, List.mem_of_getElem? (by simpa using hy), fy⟩)
  | z :: l, j + 1, 0, x, y, d, hn, hx, hy, fx, fy => by
    exfalso
    simp only [List.getElem?_cons_zero, Option.some.injEq] at hy
    subst hy
    rw [List.filterMap_cons_some fy] at hn
    exact (List.nodup_cons.1 hn).1 (List.mem_filterMap.2 ⟨x, List.mem_of_getElem? (by simpa using hx), fx⟩)
  | z :: l, j + 1, j' + 1, x, y, d, hn, hx, hy, fx, fy => by
    have hn' : (l.filterMap f).Nodup := by
      cases hz : f z with
      | none => rwa [List.filterMap_cons_none hz] at hn
      | some w => rw [List.filterMap_cons_some hz] at hn; exact (List.nodup_cons.1 hn).2
    have hx : l[j]? = some x := by simpa using hx
    have hy : l[j']? = some y := by simpa using hy
    exact congrArg (· + 1) (uniq hn' hx hy fx fy)
theorem dst_uniq (hn : nodupB (dsts ops) = true) {j j' d : Nat} (h : dstIs ops j d = true) (h' : dstIs ops j' d = true) : j = j' := by
  obtain ⟨o, h1, h2⟩ := dstIs_iff h
  obtain ⟨o', h3, h4⟩ := dstIs_iff h'
  exact uniq (f := fun o : Oper => o.dst) (nodupB_eq hn) (by simpa using h1) (by simpa using h3) h2 h4
theorem getOp_lt {j : Nat} {o : Oper} (h : ops[j]? = some o) : j < ops.size := by
  rcases Nat.lt_or_ge j ops.size with h' | h'
  · exact h'
  · rw [Array.getElem?_eq_none h'] at h; cases h
theorem seen_of {i d j : Nat} (hs : seen ops i d = true) (h : dstIs ops j d = true) : (ahead ops i).testBit j = true := List.all_eq_true.1 hs j (writers_mem h)
def Part (ρ : Env) (ops : Array Oper) (done : List Nat) (sl : Tr SC) (a : St) : Prop :=
  ∀ d v, sl.look d = some v → (∃ j, j ∉ done ∧ dstIs ops j d = true) ∨ (v.ok ρ.k.length ∧ a.tmps[d]? = some (v.den ρ))
theorem Part.seen {ρ : Env} {done : List Nat} {sl0 sl : Tr SC} {a : St} (h : Part ρ ops done sl a) (h0 : Old ρ ops done sl0 a) (ht : textual ops = true) (hD : Down ops done) {i : Nat} (hnd : i ∉ done) (hp : ∀ o, ops[i]? = some o → ∀ x ∈ predsOf o, x ∈ done) : Knows ρ (hide ops sl0 i sl) a := by
  intro d v hd
  rcases hide_look hd with ⟨h2, h1⟩ | ⟨hl, h1⟩
  · rcases h d v h1 with ⟨j, hj, hjd⟩ | h
    · exact absurd (ahead_done ht (seen_of h2 hjd) hD hp) hj
    · exact h
  · rcases h0 d v h1 with ⟨j, hj, hjd⟩ | h
    · exact absurd (ahead_done ht (later_of hl hjd) hD fun oj hoj x hx => hD j hj oj hoj x hx) hnd
    · exact h
theorem guessAll_spec {sl0 : Tr SC} {D : Env → SEx → SS → Prop} {E : Env → List Item → SS → Prop} {ρ : Env} {Γ : Facts} {hp : Hp} {k : Tr SC → Tree} : ∀ (l : List Nat) (sl : Tr SC), holds D E ρ (guessAll P ops sl0 Γ hp l sl k) →
    ∃ sl', holds D E ρ (k sl') ∧ ∀ d v, sl'.look d = some v → (∃ q ∈ l, dstIs ops q d = true) ∨ sl.look d = some v
  | [], sl, h => ⟨sl, h, fun d v h => .inr h⟩
  | q :: l, sl, h => by
    simp only [guessAll] at h
    split at h
    · exact h.elim
    · rename_i o ho
      have key : ∀ v, holds D E ρ (guessAll P ops sl0 Γ hp l (putD sl o.dst v) k) → ∃ sl', holds D E ρ (k sl') ∧ ∀ d v, sl'.look d = some v → (∃ q' ∈ q :: l, dstIs ops q' d = true) ∨ sl.look d = some v := by
        intro v h
        obtain ⟨sl', h1, h2⟩ := guessAll_spec l _ h
        refine ⟨sl', h1, fun d u hd => ?_⟩
        rcases h2 d u hd with ⟨q', hq', hd'⟩ | hd
        · exact .inl ⟨q', List.mem_cons_of_mem _ hq', hd'⟩
        · cases hdst : o.dst with
          | none => rw [hdst] at hd; exact .inr hd
          | some t =>
            rw [hdst] at hd
            rcases Tr.look_set hd with ⟨rfl, _⟩ | ⟨_, hd⟩
            · exact .inl ⟨q, List.mem_cons_self, dstIs_of ho hdst⟩
            · exact .inr hd
      split at h
      · split at h
        · rw [putK_eq] at h; exact key _ h
        · exact h.elim
      · rw [putK_eq] at h; exact key _ h
      · exact h.elim
def Yields (P : Program) (ops : Array Oper) (sl0 : Tr SC) (size : Nat) (ρ : Env) (Γ : Facts) (hp : Hp) (sl : Tr SC) (q : Nat) : Prop :=
  ∃ o, ops[q]? = some o ∧ o.dst.all (· < size) = true ∧
    ((symWanted (hide ops sl0 q sl) ops o = some (.inl true) ∧ ∃ ns v, symOpF P hp (evC (hide ops sl0 q sl)) o.op = some (.val ns v) ∧ (∀ c ∈ toShow Γ ns, c.den ρ = true) ∧ agrees sl o.dst (v.nrmF Γ) = true) ∨
      (symWanted (hide ops sl0 q sl) ops o = some (.inl false) ∧ agrees sl o.dst undefS = true))
theorem checkAll_spec {sl0 : Tr SC} {D : Env → SEx → SS → Prop} {E : Env → List Item → SS → Prop} {ρ : Env} {size : Nat} {Γ : Facts} {hp : Hp} {sl : Tr SC} {t : Tree} : ∀ (l : List Nat), holds D E ρ (checkAll P ops sl0 size Γ hp sl l t) →
    (∀ q ∈ l, Yields P ops sl0 size ρ Γ hp sl q) ∧ holds D E ρ t
  | [], h => ⟨by simp, h⟩
  | q :: l, h => by
    simp only [checkAll] at h
    split at h
    · exact h.elim
    · rename_i o ho
      split at h
      · exact h.elim
      · rename_i hd
        split at h
        · rename_i hw
          split at h
          · rename_i ns v hs
            split at h
            · rename_i ha
              obtain ⟨hn, h⟩ := holds_needs h
              obtain ⟨h1, h2⟩ := checkAll_spec l h
              refine ⟨fun q' hq => ?_, h2⟩
              rcases List.mem_cons.1 hq with rfl | hq
              · exact ⟨o, ho, hd, .inl ⟨hw, ns, v, hs, hn, ha⟩⟩
              · exact h1 q' hq
            · exact h.elim
          · exact h.elim
        · rename_i hw
          split at h
          · rename_i ha
            obtain ⟨h1, h2⟩ := checkAll_spec l h
            refine ⟨fun q' hq => ?_, h2⟩
            rcases List.mem_cons.1 hq with rfl | hq
            · exact ⟨o, ho, hd, .inr ⟨hw, ha⟩⟩
            · exact h1 q' hq
          · exact h.elim
        · exact h.elim
theorem pend_of {past : List Nat} {q : Nat} (hq : q < ops.size) (he : effAt ops q = false) (h1 : ∀ j, j < ops.size → effAt ops j = true → (ahead ops q).testBit j = true → j ∈ past) (h2 : ∀ j ∈ past, (ahead ops j).testBit q = false) : q ∈ pendAt ops past := by
  refine List.mem_filter.2 ⟨List.mem_range.2 hq, ?_⟩
  simp only [he, Bool.not_false, Bool.true_and, Bool.and_eq_true]
  refine ⟨List.all_eq_true.2 fun j hj => ?_, List.all_eq_true.2 fun j hj => by simp [h2 j hj]⟩
  cases h3 : effAt ops j with
  | false => rfl
  | true =>
    cases h4 : (ahead ops q).testBit j with
    | false => rfl
    | true => simpa using h1 j (List.mem_range.1 hj) h3 h4
theorem merge_look {sl sl' : Tr SC} {dst : Option Tmp} {d : Nat} {v : SC} (h : (merge sl dst sl').look d = some v) : (dst = some d ∧ sl'.look d = some v) ∨ (dst ≠ some d ∧ sl.look d = some v) := by
  cases dst with
  | none => exact .inr ⟨by simp, h⟩
  | some t =>
    simp only [merge] at h
    split at h
    · rename_i w hw
      rcases Tr.look_set h with ⟨rfl, rfl⟩ | ⟨h1, h2⟩
      · exact .inl ⟨rfl, hw⟩
      · exact .inr ⟨fun e => h1 (Option.some.inj e).symm, h2⟩
    · obtain ⟨h1, h2⟩ := Tr.look_del h
      exact .inr ⟨fun e => h1 (Option.some.inj e).symm, h2⟩
theorem put_other {a : St} {dst : Option Tmp} {w : Value} {d : Nat} (h : dst ≠ some d) : (a.put dst w).tmps[d]? = a.tmps[d]? := by
  cases dst with
  | none => rfl
  | some t =>
    have : t ≠ d := fun e => h (by rw [e])
    simp only [St.put]
    rw [Array.getElem?_setIfInBounds_ne this]
theorem put_same {a : St} {w : Value} {d : Nat} (h : d < a.tmps.size) : (a.put (some d) w).tmps[d]? = some w := by
  simp only [St.put]
  rw [Array.getElem?_setIfInBounds_self_of_lt h]
theorem agrees_eq {sl : Tr SC} {d : Nat} {v w : SC} (h : agrees sl (some d) v = true) (hl : sl.look d = some w) : w = v := by
  simp only [agrees, hl] at h
  exact SC.same_eq _ _ _ h
theorem chain_all {l : List Nat} {i : Nat} (h : chainB ops (i :: l) = true) : (∀ j ∈ l, isAl ops j = false → (ahead ops j).testBit i = true) ∧ chainB ops l = true := by
  simp only [chainB, Bool.and_eq_true] at h
  refine ⟨fun j hj ha => ?_, h.2⟩
  have := List.all_eq_true.1 h.1 j hj
  simpa [ha] using this
theorem placed_mem {j q : Nat} (hq : q < ops.size) (he : effAt ops q = false) (ha : isAl ops j = true) (hj : (ahead ops q).testBit j = true) : ∀ {l past : List Nat}, placedB ops past l = true → j ∈ l → ∀ e ∈ past, (ahead ops q).testBit e = true
  | [], _, _, h, _, _ => by cases h
  | i :: l, past, hp, h, e, hin => by
    simp only [placedB, Bool.and_eq_true] at hp
    rcases List.mem_cons.1 h with rfl | h
    · have h1 := hp.1
      simp only [ha, Bool.not_true, Bool.false_or] at h1
      have h2 := List.all_eq_true.1 h1 q (List.mem_range.2 hq)
      simp only [he, hj, Bool.not_true, Bool.false_or] at h2
      exact List.all_eq_true.1 h2 e hin
    · exact placed_mem hq he ha hj hp.2 h e (List.mem_cons_of_mem _ hin)
theorem mem_placeE {j : Nat} : ∀ {es as : List Nat}, j ∈ placeE ops es as ↔ j ∈ es ∨ j ∈ as
  | [], as => by simp [placeE]
  | e :: es, as => by
    simp only [placeE, List.mem_append, List.mem_cons, List.mem_filter, mem_placeE (es := es), Bool.not_eq_true']
    cases hb : (ahead ops e).testBit j <;> simp <;> grind
theorem nodup_placeE : ∀ {es as : List Nat}, es.Nodup → as.Nodup → (∀ j ∈ es, j ∉ as) → (placeE ops es as).Nodup
  | [], as, _, h, _ => h
  | e :: es, as, h1, h2, h3 => by
    obtain ⟨h4, h5⟩ := List.nodup_cons.1 h1
    simp only [placeE]
    rw [List.nodup_append]
    refine ⟨h2.filter _, List.nodup_cons.2 ⟨fun h => ?_, nodup_placeE h5 (h2.filter _) fun j hj h => h3 j (List.mem_cons_of_mem _ hj) (List.mem_filter.1 h).1⟩, fun a ha b hb e' => ?_⟩
    · rcases mem_placeE.1 h with h | h
      · exact h4 h
      · exact h3 e List.mem_cons_self (List.mem_filter.1 h).1
    · subst e'
      obtain ⟨k1, k2⟩ := List.mem_filter.1 ha
      rcases List.mem_cons.1 hb with rfl | hb
      · exact h3 _ List.mem_cons_self k1
      · rcases mem_placeE.1 hb with hb | hb
        · exact h3 a (List.mem_cons_of_mem _ hb) k1
        · have := (List.mem_filter.1 hb).2
          simp [k2] at this
theorem isAl_iff {i : Nat} (h : isAl ops i = true) : ∃ o t, ops[i]? = some o ∧ o.op = .alloc t := by
  unfold isAl at h
  split at h
  · rename_i o ho
    split at h
    · rename_i t ht; exact ⟨o, t, ho, ht⟩
    · cases h
  · cases h
theorem isAl_eff {i : Nat} (h : isAl ops i = true) : effAt ops i = true := by
  obtain ⟨o, t, ho, ht⟩ := isAl_iff h
  simp [effAt, ho, ht, quietOp]
theorem effsOf_mem {j : Nat} : j ∈ effsOf ops ↔ j < ops.size ∧ effAt ops j = true := by
  unfold effsOf
  rw [mem_placeE]
  simp only [List.mem_filter, List.mem_range, Bool.and_eq_true, Bool.not_eq_true']
  constructor
  · rintro (⟨h1, h2, _⟩ | ⟨h1, h2⟩)
    · exact ⟨h1, h2⟩
    · exact ⟨h1, isAl_eff h2⟩
  · rintro ⟨h1, h2⟩
    cases ha : isAl ops j with
    | false => exact .inl ⟨h1, h2, rfl⟩
    | true => exact .inr ⟨h1, rfl⟩
theorem effsOf_nodup : (effsOf ops).Nodup := by
  refine nodup_placeE (List.nodup_range.filter _) (List.nodup_range.filter _) fun j hj h => ?_
  have h1 := (List.mem_filter.1 hj).2
  have h2 := (List.mem_filter.1 h).2
  simp [h2] at h1
theorem dropA_look : ∀ (l : List Nat) (sl : Tr SC) {d : Nat} {v : SC}, (dropA ops l sl).look d = some v → sl.look d = some v ∧ ∀ i ∈ l, dstIs ops i d = false
  | [], sl, d, v, h => ⟨h, by simp⟩
  | i :: l, sl, d, v, h => by
    unfold dropA at h
    rw [List.foldl_cons] at h
    obtain ⟨h1, h2⟩ := dropA_look l _ h
    have key : sl.look d = some v ∧ dstIs ops i d = false := by
      cases ho : ops[i]? with
      | none => rw [ho] at h1; exact ⟨h1, by simp [dstIs, ho]⟩
      | some o =>
        rw [ho] at h1
        simp only at h1
        cases hd : o.dst with
        | none => rw [hd] at h1; exact ⟨h1, by simp [dstIs, ho, hd]⟩
        | some t =>
          rw [hd] at h1
          obtain ⟨h3, h4⟩ := Tr.look_del h1
          refine ⟨h4, ?_⟩
          simp only [dstIs, ho, hd]
          cases hb : Nat.beq t d with
          | false => rfl
          | true => exact absurd (Nat.eq_of_beq_eq_true hb).symm h3
    refine ⟨key.1, fun j hj => ?_⟩
    rcases List.mem_cons.1 hj with rfl | hj
    · exact key.2
    · exact h2 j hj
theorem Old.put {ρ ρ' : Env} {done : List Nat} {sl0 : Tr SC} {a a' : St} {i : Nat} {o : Oper} {w : Value} (h : Old ρ ops done sl0 a) (he : Ext ρ ρ') (ho : ops[i]? = some o) (ha : a'.tmps = (a.put o.dst w).tmps) : Old ρ' ops (i :: done) sl0 a' := by
  intro d v hd
  by_cases e : o.dst = some d
  · exact .inl ⟨i, List.mem_cons_self, dstIs_of ho e⟩
  · rcases h d v hd with ⟨j, hj, hjd⟩ | ⟨h1, h2⟩
    · exact .inl ⟨j, List.mem_cons_of_mem _ hj, hjd⟩
    · exact .inr ⟨SC.ok_mono he.len _ h1, by rw [ha, put_other e, h2, SC.den_ext he h1]⟩
structure Midway (ops : Array Oper) (done past effs : List Nat) (early : Nat → Option Nat) : Prop where
  hdown : Down ops done
  hpast : ∀ j ∈ past, j ∈ done
  heffs : ∀ j ∈ effs, (j ∉ done ∨ (early j).isSome = true) ∧ j < ops.size ∧ effAt ops j = true
  hall : ∀ j, j < ops.size → effAt ops j = true → j ∈ past ∨ j ∈ effs
  hchain : chainB ops effs = true
  hplaced : placedB ops past effs = true
  hnodup : effs.Nodup
  hquiet : ∀ q ∈ done, effAt ops q = false → ∀ j, j < ops.size → effAt ops j = true → (ahead ops q).testBit j = true → j ∈ past
  hdisj : ∀ j ∈ effs, j ∉ past
theorem SO.den_ext {ρ ρ' : Env} (h : Ext ρ ρ') {o : SO} (ho : o.ok ρ.k.length) : o.den ρ' = o.den ρ :=
  Ext.ind (p := fun ρ' => o.den ρ' = o.den ρ) rfl (fun ρ' b r he ih => by rw [SO.den_grow o (SO.ok_mono he.len ho), ih]) ρ' h
structure Held (P : Program) (ops : Array Oper) (ρ : Env) (F F' : Own) (early : Nat → Option Nat) (a : St) (done effs : List Nat) (size : Nat) : Prop where
  le : ∀ b o, F.full b = some o → F'.full b = some o
  ro : F'.ro = F.ro
  each : ∀ i b, early i = some b → i ∈ done ∧ i ∈ effs ∧ F.full b = none ∧ ∃ o t so d, ops[i]? = some o ∧ o.op = .alloc t ∧ o.guard = none ∧ o.dst = some d ∧ d < size ∧ sAlloc P t = some (.fresh [] so .ptr) ∧ so.ok ρ.k.length ∧ F'.full b = some (so.den ρ) ∧ a.tmps[d]? = some (.pointer (some ⟨b, 0, none⟩))
  inj : ∀ i j b, early i = some b → early j = some b → i = j
theorem Sat.weaken {ρ : Env} {hp : Hp} {F F' S : Own} (h : Sat ρ hp F' S) (hl : ∀ b o, F.full b = some o → F'.full b = some o) (hr : F'.ro = F.ro) : Sat ρ hp F S where
  has := h.has
  hro := h.hro
  inj := h.inj
  frm b o hb := h.frm b o (hl b o hb)
  apart i o hi := by
    cases hf : F.full (ρ.blk i) with
    | none => rfl
    | some x => rw [← h.apart i o hi, hl _ _ hf]
  ro b o hb := h.ro b o (by rw [hr]; exact hb)
  gh := h.gh
  dis := h.dis
  ghok := h.ghok
  lent i hi := by rw [← hr]; exact h.lent i hi
  linj := h.linj
  rinj := h.rinj
  lnd := h.lnd
theorem Fit.weaken {size : Nat} {ρ : Env} {σ : SS} {F F' S : Own} {a : St} (h : Fit size F' ρ σ a S) (hl : ∀ b o, F.full b = some o → F'.full b = some o) (hr : F'.ro = F.ro) : Fit size F ρ σ a S :=
  ⟨h.size, h.df, h.dfok, h.cm, h.cmok, h.sl, h.hp.weaken hl hr⟩
theorem Sat.aside {ρ : Env} {hp : Hp} {F S : Own} {b : Nat} {o : Obj} (h : Sat ρ hp F S) (hb : S.full b = none) (hr : S.ro b = none) : Sat ρ hp (F.set b o) (S.set b o) where
  has i x hi := by
    obtain ⟨h1, h2, h3⟩ := h.has i x hi
    refine ⟨h1, h2, ?_⟩
    rw [Own.set_full, if_neg (fun e => by rw [e, hb] at h3; cases h3)]; exact h3
  hro := h.hro
  inj := h.inj
  frm x ob hx := by
    rw [Own.set_full] at hx ⊢
    split at hx
    · rename_i e; rw [if_pos e]; exact hx
    · rename_i e; rw [if_neg e]; exact h.frm x ob hx
  apart i x hi := by
    obtain ⟨h1, h2, h3⟩ := h.has i x hi
    rw [Own.set_full, if_neg (fun e => by rw [e, hb] at h3; cases h3)]; exact h.apart i x hi
  ro := h.ro
  gh := h.gh
  ghok := h.ghok
  lent := h.lent
  linj := h.linj
  rinj := h.rinj
  lnd := h.lnd
  dis x hx := by
    rw [Own.set_full] at hx
    show S.ro x = none
    split at hx
    · rename_i e; subst e; exact hr
    · exact h.dis x hx
theorem Sat.adopt {ρ : Env} {hp : Hp} {F F' S : Own} {b : Nat} {o : SO} (h : Sat ρ hp F' S) (hb : F'.full b = some (o.den ρ)) (ho : o.ok ρ.k.length) (hn : F.full b = none) (hl : ∀ x ob, F.full x = some ob → F'.full x = some ob) (hr : F'.ro = F.ro) :
    Sat (ρ.grow b []) { hp with rw := hp.rw.set ρ.k.length o } F S := by
  have hg := h.grow (b := b) (r := [])
  have hne : ∀ j u, hp.rw.look j = some u → (ρ.grow b []).blk j ≠ b := fun j u hj e => by
    have := hg.apart j u hj
    rw [e, hb] at this; cases this
  exact {
    has := fun j u hj => by
      rcases Tr.look_set hj with ⟨rfl, rfl⟩ | ⟨e, hj⟩
      · refine ⟨by simp, (by rw [len_grow]; exact SO.ok_mono (Nat.le_succ _) ho), ?_⟩
        rw [blk_new, SO.den_grow _ ho]
        exact h.frm b _ hb
      · exact hg.has j u hj
    hro := fun j u hj => hg.hro j u hj
    inj := fun j j' u u' hj hj' e => by
      rcases Tr.look_set hj with ⟨rfl, _⟩ | ⟨_, hj⟩ <;> rcases Tr.look_set hj' with ⟨rfl, _⟩ | ⟨_, hj'⟩
      · rfl
      · rw [blk_new] at e; exact absurd e.symm (hne _ _ hj')
      · rw [blk_new] at e; exact absurd e (hne _ _ hj)
      · exact hg.inj _ _ _ _ hj hj' e
    frm := fun x ob hx => hg.frm x ob (hl x ob hx)
    apart := fun j u hj => by
      rcases Tr.look_set hj with ⟨rfl, _⟩ | ⟨_, hj⟩
      · rw [blk_new]; exact hn
      · cases hf : F.full ((ρ.grow b []).blk j) with
        | none => rfl
        | some x => rw [← hg.apart j u hj, hl _ _ hf]
    ro := fun x ob hx => hg.ro x ob (by rw [hr]; exact hx)
    gh := hg.gh
    dis := hg.dis
    ghok := hg.ghok
    lent := fun i hi => by rw [← hr]; exact hg.lent i hi
    linj := hg.linj
    rinj := hg.rinj
    lnd := hg.lnd }
theorem allocsOk_at {size i : Nat} {o : Oper} {t : TypeId} (h : allocsOk P ops size = true) (ho : ops[i]? = some o) (hop : o.op = .alloc t) : o.guard = none ∧ (∃ d, o.dst = some d ∧ d < size) ∧ ∃ so, sAlloc P t = some (.fresh [] so .ptr) := by
  have h1 := List.all_eq_true.1 h i (List.mem_range.2 (getOp_lt ho))
  simp only [ho, hop, Bool.and_eq_true] at h1
  obtain ⟨⟨h2, h3⟩, h4⟩ := h1
  refine ⟨by simpa using h2, ?_, ?_⟩
  · split at h3
    · rename_i d hd; exact ⟨d, hd, Nat.le_of_ble_eq_true h3⟩
    · cases h3
  · split at h4
    · rename_i so hs; exact ⟨so, hs⟩
    · cases h4
variable {inl : FuncId → Bool} {opx : Opx} {ex : Run_} {call : Call_} {D : Env → SEx → SS → Prop} {E : Env → List Item → SS → Prop}
def stageNow (P : Program) (ops : Array Oper) (sl0 : Tr SC) (opx : Opx) (ex : Run_) (call : Call_) (C : Cx) (tail : List Item) (k : Kont) (effs past : List Nat) (Γ : Facts) (σ : SS) (sl : Tr SC) (nk : Nat) : Tree := match effs with
  | [] => ex C Γ tail (σ.withSl sl) nk k
  | i :: effs => match ops[i]? with
    | none => .bad
    | some o => match symWanted (hide ops sl0 i sl) ops o with
      | some (.inl true) => opx (fun _ Γ _ σ' nk _ => stages P ops sl0 opx ex call C tail k effs (i :: past) (some i) Γ (σ'.withSl (merge sl o.dst σ'.sl)) nk) call (roundF P ex) { C with top := false } Γ [] ops [] o [] (σ.withSl (hide ops sl0 i sl)) nk k
      | some (.inl false) => match o.dst.all (· < C.size) with
        | true => stages P ops sl0 opx ex call C tail k effs (i :: past) (some i) Γ (σ.withSl (putD sl o.dst undefS)) nk
        | false => .bad
      | _ => .bad
structure Mids (P : Program) (ops : Array Oper) (sl0 : Tr SC) (opx : Opx) (ex : Run_) (call : Call_) (C : Cx) (tail : List Item) (k : Kont) (D : Env → SEx → SS → Prop) (E : Env → List Item → SS → Prop) (F : Own)
    (done past effs : List Nat) (early : Nat → Option Nat) (F' : Own) (Γ : Facts) (σ : SS) (sl : Tr SC) (ρ : Env) (a : St) (S : Own) : Prop where
  mid : Midway ops done past effs early
  vals : vals ρ
  facts : Γ.On ρ
  part : Part ρ ops done sl a
  old : Old ρ ops done sl0 a
  fit : Fit C.size F' ρ { σ with sl := .nil } a S
  held : Held P ops ρ F F' early a done effs C.size
  free : ∀ j ∈ effs, isAl ops j = true → ∀ d v, dstIs ops j d = true → sl.look d ≠ some v
  yields : ∀ q ∈ pendAt ops past, Yields P ops sl0 C.size ρ Γ σ.hp sl q
  now : holds D E ρ (stageNow P ops sl0 opx ex call C tail k effs past Γ σ sl ρ.k.length)
section
variable {sl0 : Tr SC} {C : Cx} {tail : List Item} {k : Kont} {F : Own}
theorem Mids.next (hn : nodupB (dsts ops) = true) (ht : textual ops = true) {done past effs : List Nat} {last : Option Nat} {early : Nat → Option Nat} {F' : Own} {Γ : Facts} {σ : SS} {sl : Tr SC} {ρ : Env} {a : St} {S : Own}
    (hm : Midway ops done past effs early) (hv : Mw.vals ρ) (hΓ : Γ.On ρ) (hp : Part ρ ops done sl a) (h0 : Old ρ ops done sl0 a) (hf : Fit C.size F' ρ { σ with sl := .nil } a S) (hh : Held P ops ρ F F' early a done effs C.size)
    (hfree : ∀ j ∈ effs, isAl ops j = true → ∀ d v, dstIs ops j d = true → sl.look d ≠ some v) (hnews : ∀ q ∈ newsAt ops past last, q ∉ done)
    (h : holds D E ρ (stages P ops sl0 opx ex call C tail k effs past last Γ (σ.withSl sl) ρ.k.length)) :
    ∃ sl2, Mids P ops sl0 opx ex call C tail k D E F done past effs early F' Γ σ sl2 ρ a S := by
  unfold stages at h
  obtain ⟨sl2, h1, h2⟩ := guessAll_spec _ _ h
  obtain ⟨hy2, h3⟩ := checkAll_spec _ h1
  rw [SS.withSl_eq] at hy2 h2
  refine ⟨sl2, hm, hv, hΓ, fun d v hd => ?_, h0, hf, hh, fun j hj ha d v hd hl => ?_, hy2, ?_⟩
  · rcases h2 d v hd with ⟨q, hq, hqd⟩ | hd
    · exact .inl ⟨q, hnews q hq, hqd⟩
    · exact hp d v hd
  · rcases h2 d v hl with ⟨q, hq, hqd⟩ | hl
    · have := dst_uniq hn hd hqd
      subst this
      have h4 := (List.mem_filter.1 (List.mem_filter.1 hq).1).2
      simp only [isAl_eff ha, Bool.not_true, Bool.false_and] at h4
      exact Bool.false_ne_true h4
    · exact hfree j hj ha d v hd hl
  · unfold stageNow
    simp only [SS.withSl_eq] at h3 ⊢
    exact h3
theorem news_later (ht : textual ops = true) {done : List Nat} (hD : Down ops done) {i q : Nat} {past : List Nat} (hnd : i ∉ done) (hq : q ∈ newsAt ops past (some i)) : q ∉ i :: done := by
  intro hx
  have hq2 := (List.mem_filter.1 hq).2
  simp only at hq2
  rcases List.mem_cons.1 hx with rfl | hx
  · obtain ⟨m, hg, hjj⟩ := ahead_lt ht hq2
    exact absurd (hg q hjj).1 (Nat.lt_irrefl q)
  · exact hnd (ahead_done ht hq2 hD fun oq hoq x hx' => hD q hx oq hoq x hx')
theorem Mids.settle (hox : OpxOk P main opx) (hn : nodupB (dsts ops) = true) (ht : textual ops = true) : ∀ {effs done past : List Nat} {early : Nat → Option Nat} {F' : Own} {Γ : Facts} {σ : SS} {sl : Tr SC} {ρ : Env} {a : St} {S : Own},
    Mids P ops sl0 opx ex call C tail k D E F done past effs early F' Γ σ sl ρ a S → ∃ past2 effs2 early2 F2 Γ2 σ2 sl2 ρ2, Ext ρ ρ2 ∧ Mids P ops sl0 opx ex call C tail k D E F done past2 effs2 early2 F2 Γ2 σ2 sl2 ρ2 a S ∧ ∀ i l, effs2 = i :: l → early2 i = none
  | [], done, past, early, F', Γ, σ, sl, ρ, a, S, h => ⟨past, [], early, F', Γ, σ, sl, ρ, Ext.refl ρ, h, by simp⟩
  | i :: effs, done, past, early, F', Γ, σ, sl, ρ, a, S, h => by
    cases he : early i with
    | none => exact ⟨past, i :: effs, early, F', Γ, σ, sl, ρ, Ext.refl ρ, h, fun j l e => by cases e; exact he⟩
    | some b =>
      obtain ⟨hid, _, hFb, o, t, so, d, ho, hop, hg, hdst, hdlt, hsa, hso, hF'b, had⟩ := h.held.each i b he
      have hnow := h.now
      simp only [stageNow, ho] at hnow
      have hw : symWanted (hide ops sl0 i sl) ops o = some (.inl true) := by simp only [symWanted, hg]
      rw [hw] at hnow
      simp only at hnow
      obtain ⟨inl0, hal0⟩ := hox.alloc
      rw [hal0 _ _ _ _ _ _ _ _ _ _ _ _ _ _ hop] at hnow
      unfold stepOp at hnow
      have hd1 : o.dst.all (· < ({ C with top := false } : Cx).size) = true := by simp [hdst, hdlt]
      have hsym : symOpF P (σ.withSl (hide ops sl0 i sl)).hp (evC (σ.withSl (hide ops sl0 i sl)).sl) o.op = some (.fresh [] so .ptr) := by
        rw [symOpF_eq, hop]; exact hsa
      rw [hd1, hsym] at hnow
      simp only [applyEff, putK_eq, Hp.setK_eq, SS.withSl_eq, SS.withHp_eq, forceN_eq, hdst, putD] at hnow
      obtain ⟨_, hnow⟩ := holds_needs hnow
      have hb := hnow b []
      have hab : ∀ j, j ∈ effs → j ≠ i := fun j hj e => (List.nodup_cons.1 h.mid.hnodup).1 (e ▸ hj)
      let F2 : Own := { F' with full := fun x => if x = b then F.full x else F'.full x }
      have hsat := h.fit.hp.adopt (F := F2) hF'b hso (by show (if b = b then _ else _) = _; rw [if_pos rfl]; exact hFb) (fun x ob hx => by
        have hx' : (if x = b then F.full x else F'.full x) = some ob := hx
        split at hx'
        · exact h.held.le x ob hx'
        · exact hx') rfl
      have hEx : Ext ρ (ρ.grow b []) := Ext.grow ρ b []
      have hfit : Fit C.size F2 (ρ.grow b []) { ({ σ with hp := σ.hp.setB ρ.k.length so } : SS) with sl := .nil } a S := by
        have := h.fit.later hEx h.fit.hp.grow
        exact ⟨this.size, this.df, this.dfok, this.cm, this.cmok, fun x v hx => (by rw [Tr.nil_look] at hx; cases hx), hsat⟩
      have hm : Midway ops done (i :: past) effs (fun j => if j = i then none else early j) := {
        hdown := h.mid.hdown
        hpast := fun j hj => by
          rcases List.mem_cons.1 hj with rfl | hj
          · exact hid
          · exact h.mid.hpast j hj
        heffs := fun j hj => by
          obtain ⟨k1, k2, k3⟩ := h.mid.heffs j (List.mem_cons_of_mem _ hj)
          simp only [if_neg (hab j hj)]
          exact ⟨k1, k2, k3⟩
        hall := fun j hj hje => by
          rcases h.mid.hall j hj hje with k1 | k1
          · exact .inl (List.mem_cons_of_mem _ k1)
          · rcases List.mem_cons.1 k1 with rfl | k1
            · exact .inl List.mem_cons_self
            · exact .inr k1
        hchain := (chain_all h.mid.hchain).2
        hplaced := by have := h.mid.hplaced; simp only [placedB, Bool.and_eq_true] at this; exact this.2
        hnodup := (List.nodup_cons.1 h.mid.hnodup).2
        hquiet := fun q hq hqe j hj hje hb => List.mem_cons_of_mem _ (h.mid.hquiet q hq hqe j hj hje hb)
        hdisj := fun j hj hx => by
          rcases List.mem_cons.1 hx with e | hx
          · exact hab j hj e
          · exact h.mid.hdisj j (List.mem_cons_of_mem _ hj) hx }
      have hheld : Held P ops (ρ.grow b []) F F2 (fun j => if j = i then none else early j) a done effs C.size := {
        le := fun x ob hx => by
          show (if x = b then F.full x else F'.full x) = some ob
          split
          · exact hx
          · exact h.held.le x ob hx
        ro := h.held.ro
        each := fun j bj hj => by
          split at hj
          · cases hj
          · rename_i hji
            obtain ⟨k1, k2, k3, o', t', so', d', k4, k5, k6, k7, k8, k9, k10, k11, k12⟩ := h.held.each j bj hj
            have hbne : bj ≠ b := fun e => hji (h.held.inj j i b (e ▸ hj) he)
            refine ⟨k1, ?_, k3, o', t', so', d', k4, k5, k6, k7, k8, k9, SO.ok_mono hEx.len k10, ?_, k12⟩
            · rcases List.mem_cons.1 k2 with e | k2
              · exact absurd e hji
              · exact k2
            · show (if bj = b then F.full bj else F'.full bj) = _
              rw [if_neg hbne, SO.den_ext hEx k10]; exact k11
        inj := fun j j' bj hj hj' => by
          split at hj
          · cases hj
          · split at hj'
            · cases hj'
            · exact h.held.inj j j' bj hj hj' }
      have hdi : dstIs ops i d = true := dstIs_of ho hdst
      have hpart : Part (ρ.grow b []) ops done (merge sl (some d) ((hide ops sl0 i sl).set d (.ptr ρ.k.length (.lit 0)))) a := by
        intro x v hx
        rcases merge_look hx with ⟨e, hl⟩ | ⟨e, hl⟩
        · cases e
          rcases Tr.look_set hl with ⟨_, rfl⟩ | ⟨k1, _⟩
          · refine .inr ⟨by simp [SC.ok, IE.ok], ?_⟩
            rw [had]
            simp [SC.den, IE.den]
          · exact absurd rfl k1
        · rcases h.part x v hl with k1 | ⟨k1, k2⟩
          · exact .inl k1
          · exact .inr ⟨SC.ok_mono hEx.len _ k1, by rw [k2, SC.den_ext hEx k1]⟩
      have hold : Old (ρ.grow b []) ops done sl0 a := fun x v hx => by
        rcases h.old x v hx with k1 | ⟨k1, k2⟩
        · exact .inl k1
        · exact .inr ⟨SC.ok_mono hEx.len _ k1, by rw [k2, SC.den_ext hEx k1]⟩
      have hfree : ∀ j ∈ effs, isAl ops j = true → ∀ x v, dstIs ops j x = true → (merge sl (some d) ((hide ops sl0 i sl).set d (.ptr ρ.k.length (.lit 0)))).look x ≠ some v := by
        intro j hj ha x v hx hl
        rcases merge_look hl with ⟨e, _⟩ | ⟨_, hl⟩
        · cases e
          exact hab j hj (dst_uniq hn hx hdi)
        · exact h.free j (List.mem_cons_of_mem _ hj) ha x v hx hl
      have hnews : ∀ q ∈ newsAt ops (i :: past) (some i), q ∉ done := by
        intro q hq hx
        have hq2 := (List.mem_filter.1 hq).2
        have hq3 := (List.mem_filter.1 (List.mem_filter.1 hq).1).2
        simp only at hq2
        have hqe : effAt ops q = false := by
          cases hqe : effAt ops q with
          | false => rfl
          | true => simp [hqe] at hq3
        obtain ⟨_, i2, i3⟩ := h.mid.heffs i List.mem_cons_self
        exact h.mid.hdisj i List.mem_cons_self (h.mid.hquiet q hx hqe i i2 i3 hq2)
      have hb2 : holds D E (ρ.grow b []) (stages P ops sl0 opx ex call C tail k effs (i :: past) (some i) Γ (({ σ with hp := σ.hp.setB ρ.k.length so } : SS).withSl (merge sl (some d) ((hide ops sl0 i sl).set d (.ptr ρ.k.length (.lit 0))))) (ρ.grow b []).k.length) := by
        rw [len_grow]
        rw [SS.withSl_eq]
        exact hb
      obtain ⟨sl2, hM⟩ := Mids.next hn ht hm (vals_ext hEx h.vals) (h.facts.grow b []) hpart hold hfit hheld hfree hnews hb2
      obtain ⟨past3, effs3, early3, F3, Γ3, σ3, sl3, ρ3, he3, hM3, hs3⟩ := Mids.settle hox hn ht hM
      exact ⟨past3, effs3, early3, F3, Γ3, σ3, sl3, ρ3, hEx.trans he3, hM3, hs3⟩
end
theorem stages_sound {sl0 : Tr SC} (hox : OpxOk P main opx) (hex : SoundEx P main ex) (hcall : SoundCall P main call) (ht : textual ops = true) (hn : nodupB (dsts ops) = true) {C : Cx} (hal : allocsOk P ops C.size = true) {r : Ctx} {tail : List Item} {k : Kont} {Q : Ex → St → Own → Prop} {F : Own} :
    ∀ (s done past effs : List Nat) (early : Nat → Option Nat) (F' : Own) (Γ : Facts) (σ : SS) (sl : Tr SC) (ρ : Env) (a : St) (S : Own), Sched ops done s → CtxOk C r ρ → KOk D E C.size F ρ k Q → EOk P main E C r F ρ Q →
      Mids P ops sl0 opx ex call C tail k D E F done past effs early F' Γ σ sl ρ a S → (∀ i l, effs = i :: l → early i = none) → wpI P main r (.inRegion ops s :: tail) Q a S := by
  intro s
  induction s with
  | nil =>
    intro done past effs early F' Γ σ sl ρ a S hs hr hK hE M hset
    cases hs with
    | nil hall =>
      cases effs with
      | cons i effs =>
        obtain ⟨h1, h2, _⟩ := M.mid.heffs i List.mem_cons_self
        rcases h1 with h1 | h1
        · exact absurd (hall i h2) h1
        · rw [hset i effs rfl] at h1; cases h1
      | nil =>
        refine wpI_move (fun b k cs w => stepG_region_end) (hex D E C r Γ _ _ _ k ρ Q F hr M.vals M.facts rfl hK hE M.now a S ?_)
        rw [SS.withSl_eq]
        refine (M.fit.weaken M.held.le M.held.ro).withSl fun d v hd => ?_
        rcases M.part d v hd with ⟨j, hj, hjd⟩ | h
        · obtain ⟨o, ho, _⟩ := dstIs_iff hjd
          exact absurd (hall j (getOp_lt ho)) hj
        · exact h
  | cons i s ih =>
    intro done past effs early F' Γ σ sl ρ a S hs hr hK hE M hset
    cases hs with
    | cons ho hnd hpr hs =>
      rename_i o
      have hm := M.mid
      have hilt := getOp_lt ho
      have hdown' : Down ops (i :: done) := by
        intro x hx ox hox j hj
        rcases List.mem_cons.1 hx with rfl | hx
        · rw [ho] at hox; cases hox; exact List.mem_cons_of_mem _ (hpr j hj)
        · exact List.mem_cons_of_mem _ (hm.hdown x hx ox hox j hj)
      have hpreds : ∀ o', ops[i]? = some o' → ∀ x ∈ predsOf o', x ∈ done := fun o' ho' x hx => by rw [ho] at ho'; cases ho'; exact hpr x hx
      have hkn := M.part.seen M.old ht hm.hdown hnd hpreds
      have hfh : Fit C.size F' ρ { σ with sl := hide ops sl0 i sl } a S := M.fit.withSl hkn
      have hnear : early i = none := by
        cases he : early i with
        | none => rfl
        | some b => exact absurd (M.held.each i b he).1 hnd
      have head : ∀ h l, effs = h :: l → h ∉ done := fun h l e => by
        rcases (hm.heffs h (by rw [e]; exact List.mem_cons_self)).1 with k1 | k1
        · exact k1
        · rw [hset h l e] at k1; cases k1
      have heldPut : ∀ (w : Value) (effs' : List Nat), (∀ j, j ∈ effs → (early j).isSome = true → j ∈ effs') → Held P ops ρ F F' early (a.put o.dst w) (i :: done) effs' C.size := fun w effs' hin => {
        le := M.held.le
        ro := M.held.ro
        each := fun j bj hj => by
          obtain ⟨k1, k2, k3, o', t', so', d', k4, k5, k6, k7, k8, k9, k10, k11, k12⟩ := M.held.each j bj hj
          refine ⟨List.mem_cons_of_mem _ k1, hin j k2 (by rw [hj]; rfl), k3, o', t', so', d', k4, k5, k6, k7, k8, k9, k10, k11, ?_⟩
          have hne : o.dst ≠ some d' := fun e => by
            have := dst_uniq hn (dstIs_of ho e) (dstIs_of k4 k7)
            subst this
            rw [hnear] at hj; cases hj
          rw [put_other hne]; exact k12
        inj := M.held.inj }
      cases heff : effAt ops i with
      | false =>
        have hpast : ∀ j, j < ops.size → effAt ops j = true → (ahead ops i).testBit j = true → j ∈ past := fun j hj hje hb => by
          have hjd := ahead_done ht hb hm.hdown hpreds
          rcases hm.hall j hj hje with h | h
          · exact h
          · cases effs with
            | nil => cases h
            | cons hd l =>
              rcases List.mem_cons.1 h with rfl | h
              · exact absurd hjd (head _ _ rfl)
              · rcases (hm.heffs j (List.mem_cons_of_mem _ h)).1 with k1 | k1
                · exact absurd hjd k1
                · obtain ⟨bj, hbj⟩ := Option.isSome_iff_exists.1 k1
                  obtain ⟨_, _, _, o', t', _, _, k4, k5, _⟩ := M.held.each j bj hbj
                  have ha : isAl ops j = true := by simp [isAl, k4, k5]
                  have hpl := hm.hplaced
                  simp only [placedB, Bool.and_eq_true] at hpl
                  have := placed_mem hilt heff ha hb hpl.2 h hd List.mem_cons_self
                  exact absurd (ahead_done ht this hm.hdown hpreds) (head _ _ rfl)
        have hq : i ∈ pendAt ops past := pend_of hilt heff hpast (fun j hj => by
          cases hb : (ahead ops j).testBit i with
          | false => rfl
          | true =>
            have hjd := hm.hpast j hj
            exact absurd (ahead_done ht hb hm.hdown fun oj hoj x hx => hm.hdown j hjd oj hoj x hx) hnd)
        obtain ⟨o', ho', hd, hyy⟩ := M.yields i hq
        rw [ho] at ho'; cases ho'
        have hm' : Midway ops (i :: done) past effs early := ⟨hdown', fun j hj => List.mem_cons_of_mem _ (hm.hpast j hj), fun j hj => by
          obtain ⟨h1, h2, h3⟩ := hm.heffs j hj
          refine ⟨?_, h2, h3⟩
          rcases h1 with h1 | h1
          · refine .inl fun hx => ?_
            rcases List.mem_cons.1 hx with rfl | hx
            · rw [heff] at h3; cases h3
            · exact h1 hx
          · exact .inr h1, hm.hall, hm.hchain, hm.hplaced, hm.hnodup, fun q hq hqe j hj hje hb => by
          rcases List.mem_cons.1 hq with rfl | hq
          · exact hpast j hj hje hb
          · exact hm.hquiet q hq hqe j hj hje hb, hm.hdisj⟩
        have next : ∀ v : SC, v.ok ρ.k.length → agrees sl o.dst v = true → wpI P main r (.inRegion ops s :: tail) Q (a.put o.dst (v.den ρ)) S := by
          intro v hok hag
          refine ih (i :: done) past effs early F' Γ σ sl ρ _ S hs hr hK hE ⟨hm', M.vals, M.facts, ?_, M.old.put (Ext.refl ρ) ho rfl, ?_, heldPut _ effs (fun j hj _ => hj), M.free, M.yields, M.now⟩ hset
          · intro d v' hd'
            by_cases e : o.dst = some d
            · rw [e] at hag hd ⊢
              have hlt : d < C.size := by simpa using hd
              have := agrees_eq hag hd'
              subst this
              exact .inr ⟨hok, put_same (by rw [M.fit.size]; exact hlt)⟩
            · rcases M.part d v' hd' with ⟨j, hj, hjd⟩ | ⟨h1, h2⟩
              · refine .inl ⟨j, fun hx => ?_, hjd⟩
                rcases List.mem_cons.1 hx with rfl | hx
                · obtain ⟨oj, hoj, hdj⟩ := dstIs_iff hjd
                  rw [ho] at hoj; cases hoj
                  exact e hdj
                · exact hj hx
              · exact .inr ⟨h1, by rw [put_other e]; exact h2⟩
          · exact (M.fit.put (dst := o.dst) (v := v) hd hok).withSl fun d v hd => by rw [Tr.nil_look] at hd; cases hd
        rcases hyy with ⟨hw, ns, v, hsy, hns, hag⟩ | ⟨hw, hag⟩
        · rw [symOpF_eq] at hsy
          haveI : Loud S := hfh.hp.loud
          obtain ⟨hrun, hok⟩ := symOp_good (S0 := S) M.vals hfh.hp (evC_ok hkn) hsy
          refine wpI_op ho (symWanted_inl hkn hw) (plain_of_sym (by rw [hsy]; rfl)) ?_
          refine hrun (toShow_ok M.facts hns) _ ?_
          rw [SC.nrmF_eq] at hag
          show wpI _ _ _ _ _ _ _
          rw [← SC.nrm_den M.facts v]
          exact next _ (SC.nrm_ok hok) hag
        · refine wpI_unwanted ho (symWanted_inl hkn hw) ?_
          exact next undefS trivial hag
      | true =>
        have hin : i ∈ effs := by
          rcases hm.hall i hilt heff with h | h
          · exact absurd (hm.hpast i h) hnd
          · exact h
        cases effs with
        | nil => cases hin
        | cons i' effs =>
          by_cases hii : i = i'
          ·
            subst hii
            have hab : ∀ j, j ∈ effs → j ≠ i := fun j hj e => (List.nodup_cons.1 hm.hnodup).1 (e ▸ hj)
            have hm' : Midway ops (i :: done) (i :: past) effs early := ⟨hdown', fun j hj => by
              rcases List.mem_cons.1 hj with rfl | hj
              · exact List.mem_cons_self
              · exact List.mem_cons_of_mem _ (hm.hpast j hj), fun j hj => by
              obtain ⟨h1, h2, h3⟩ := hm.heffs j (List.mem_cons_of_mem _ hj)
              refine ⟨?_, h2, h3⟩
              rcases h1 with h1 | h1
              · refine .inl fun hx => ?_
                rcases List.mem_cons.1 hx with e | hx
                · exact hab j hj e
                · exact h1 hx
              · exact .inr h1, fun j hj hje => by
              rcases hm.hall j hj hje with h | h
              · exact .inl (List.mem_cons_of_mem _ h)
              · rcases List.mem_cons.1 h with rfl | h
                · exact .inl List.mem_cons_self
                · exact .inr h, (chain_all hm.hchain).2, by have := hm.hplaced; simp only [placedB, Bool.and_eq_true] at this; exact this.2, (List.nodup_cons.1 hm.hnodup).2, fun q hq hqe j hj hje hb => by
              rcases List.mem_cons.1 hq with rfl | hq
              · rw [heff] at hqe; cases hqe
              · exact List.mem_cons_of_mem _ (hm.hquiet q hq hqe j hj hje hb), fun j hj hx => by
              rcases List.mem_cons.1 hx with e | hx
              · exact hab j hj e
              · exact hm.hdisj j (List.mem_cons_of_mem _ hj) hx⟩
            have hKw : KOk D E C.size F' ρ k Q := fun ρ' e σ' Γ' he hΓ' hok hh a' S' hf' => hK ρ' e σ' Γ' he hΓ' hok hh a' S' (hf'.weaken M.held.le M.held.ro)
            have go : ∀ ρ' Γ' (σ' : SS) a' S' sl' w, Ext ρ ρ' → vals ρ' → Γ'.On ρ' → Fit C.size F' ρ' { σ' with sl := .nil } a' S' → Part ρ' ops (i :: done) sl' a' → Old ρ' ops (i :: done) sl0 a' → a'.tmps = (a.put o.dst w).tmps →
                (∀ j ∈ effs, isAl ops j = true → ∀ d v, dstIs ops j d = true → sl'.look d ≠ some v) →
                holds D E ρ' (stages P ops sl0 opx ex call C tail k effs (i :: past) (some i) Γ' (σ'.withSl sl') ρ'.k.length) → wpI P main r (.inRegion ops s :: tail) Q a' S' := by
              intro ρ' Γ' σ' a' S' sl' w he hv' hΓ' hf' hp' ho' haw hfree hh
              have hheld : Held P ops ρ' F F' early a' (i :: done) effs C.size := by
                have h0 := heldPut w effs (fun j hj hje => by
                  rcases List.mem_cons.1 hj with rfl | hj
                  · rw [hnear] at hje; cases hje
                  · exact hj)
                exact ⟨h0.le, h0.ro, fun j bj hj => by
                  obtain ⟨k1, k2, k3, o', t', so', d', k4, k5, k6, k7, k8, k9, k10, k11, k12⟩ := h0.each j bj hj
                  exact ⟨k1, k2, k3, o', t', so', d', k4, k5, k6, k7, k8, k9, SO.ok_mono he.len k10, by rw [SO.den_ext he k10]; exact k11, by rw [haw]; exact k12⟩, h0.inj⟩
              obtain ⟨sl2, hM⟩ := Mids.next hn ht hm' hv' hΓ' hp' ho' hf' hheld hfree (fun q hq => news_later ht hm.hdown hnd hq) hh
              obtain ⟨past3, effs3, early3, F3, Γ3, σ3, sl3, ρ3, he3, hM3, hs3⟩ := Mids.settle hox hn ht hM
              exact ih (i :: done) past3 effs3 early3 F3 Γ3 σ3 sl3 ρ3 a' S' hs (hr.later (he.trans he3)) (hK.later (he.trans he3)) (hE.later (he.trans he3)) hM3 hs3
            have h := M.now
            simp only [stageNow, ho] at h
            split at h
            · rename_i hw
              rw [SS.withSl_eq] at h
              refine hox.good D E _ _ _ (roundF_sound hex) hcall { C with top := false } _ _ _ _ _ _ _ _ _ _ _ _ _ _ _ ⟨hr.dfr, hr.round, hr.low, hr.fn⟩ M.vals M.facts hKw ho h hfh (symWanted_inl hkn hw) (fun ht' hb => by subst ht'; exact hb.elim) ?_
              rintro ρ' Γ' σ' a' S' he hv' hΓ' hf' ⟨w, hw'⟩ hh
              refine go ρ' Γ' σ' a' S' _ w he hv' hΓ' (hf'.withSl fun d v hd => by rw [Tr.nil_look] at hd; cases hd) ?_ (M.old.put he ho hw') hw' ?_ hh
              · intro d v hd
                rcases merge_look hd with ⟨e, hl⟩ | ⟨e, hl⟩
                · exact .inr (hf'.sl d v hl)
                · rcases M.part d v hl with ⟨j, hj, hjd⟩ | ⟨h1, h2⟩
                  · refine .inl ⟨j, fun hx => ?_, hjd⟩
                    rcases List.mem_cons.1 hx with rfl | hx
                    · obtain ⟨oj, hoj, hdj⟩ := dstIs_iff hjd
                      rw [ho] at hoj; cases hoj
                      exact e hdj
                    · exact hj hx
                  · refine .inr ⟨SC.ok_mono he.len _ h1, ?_⟩
                    rw [hw', put_other e, h2, SC.den_ext he h1]
              · intro j hj ha d v hjd hl
                rcases merge_look hl with ⟨e, _⟩ | ⟨_, hl⟩
                · exact hab j hj (dst_uniq hn hjd (dstIs_of ho e))
                · exact M.free j (List.mem_cons_of_mem _ hj) ha d v hjd hl
            · rename_i hw
              split at h
              · rename_i hd
                refine wpI_unwanted ho (symWanted_inl hkn hw) ?_
                refine go ρ Γ σ _ S _ undef (Ext.refl ρ) M.vals M.facts ((M.fit.put (dst := o.dst) (v := undefS) hd trivial).withSl fun d v hd => by rw [Tr.nil_look] at hd; cases hd) ?_ (M.old.put (w := undef) (Ext.refl ρ) ho rfl) rfl ?_ h
                · intro d v hdv
                  by_cases e : o.dst = some d
                  · rw [e] at hdv hd ⊢
                    simp only [putD] at hdv
                    rcases Tr.look_set hdv with ⟨_, rfl⟩ | ⟨h1, _⟩
                    · have hlt : d < C.size := by simpa using hd
                      exact .inr ⟨trivial, put_same (by rw [M.fit.size]; exact hlt)⟩
                    · exact absurd rfl h1
                  · have hl : sl.look d = some v := by
                      cases hdst : o.dst with
                      | none => rw [hdst] at hdv; exact hdv
                      | some t =>
                        rw [hdst] at hdv e
                        rcases Tr.look_set hdv with ⟨h1, _⟩ | ⟨_, h1⟩
                        · exact absurd (by rw [h1]) e
                        · exact h1
                    rcases M.part d v hl with ⟨j, hj, hjd⟩ | ⟨h1, h2⟩
                    · refine .inl ⟨j, fun hx => ?_, hjd⟩
                      rcases List.mem_cons.1 hx with rfl | hx
                      · obtain ⟨oj, hoj, hdj⟩ := dstIs_iff hjd
                        rw [ho] at hoj; cases hoj
                        exact e hdj
                      · exact hj hx
                    · exact .inr ⟨h1, by rw [put_other e]; exact h2⟩
                · intro j hj ha d v hjd hl
                  cases hdst : o.dst with
                  | none => rw [hdst] at hl; exact M.free j (List.mem_cons_of_mem _ hj) ha d v hjd hl
                  | some t =>
                    rw [hdst] at hl
                    rcases Tr.look_set hl with ⟨h1, _⟩ | ⟨_, h1⟩
                    · subst h1
                      exact hab j hj (dst_uniq hn hjd (dstIs_of ho hdst))
                    · exact M.free j (List.mem_cons_of_mem _ hj) ha d v hjd h1
              · exact h.elim
            · exact h.elim
          ·
            have hin' : i ∈ effs := by
              rcases List.mem_cons.1 hin with h | h
              · exact absurd h hii
              · exact h
            have ha : isAl ops i = true := by
              cases ha : isAl ops i with
              | true => rfl
              | false => exact absurd (ahead_done ht ((chain_all hm.hchain).1 i hin' ha) hm.hdown hpreds) (head i' effs rfl)
            obtain ⟨o', t, ho', hop⟩ := isAl_iff ha
            rw [ho] at ho'; cases ho'
            obtain ⟨hg, ⟨d, hdst, hdlt⟩, so, hsa⟩ := allocsOk_at hal ho hop
            haveI : Loud S := M.fit.hp.loud
            obtain ⟨hrun, hso⟩ := sAlloc_good (S0 := S) (ρ := ρ) (hp := σ.hp) (ev' := a.eval) hop M.vals hsa
            have hso : so.ok ρ.k.length := hso
            refine wpI_op ho (by simp [Region.wanted, hg]) (by unfold plainOp; rw [hop]; simp) ?_
            refine hrun (by simp [allTrue]) _ fun b hb1 hb2 => ?_
            show wpI P main r (.inRegion ops s :: tail) Q (a.put o.dst (.pointer (some ⟨b, 0, none⟩))) (S.set b (so.den ρ))
            have hFb : F.full b = none := by
              cases hf : F.full b with
              | none => rfl
              | some x => rw [M.fit.hp.frm b x (M.held.le b x hf)] at hb1; cases hb1
            have hdi : dstIs ops i d = true := dstIs_of ho hdst
            refine ih (i :: done) past (i' :: effs) (fun j => if j = i then some b else early j) (F'.set b (so.den ρ)) Γ σ sl ρ _ _ hs hr hK hE ⟨?_, M.vals, M.facts, ?_, M.old.put (Ext.refl ρ) ho rfl, ?_, ?_, M.free, M.yields, M.now⟩ ?_
            · exact ⟨hdown', fun j hj => List.mem_cons_of_mem _ (hm.hpast j hj), fun j hj => by
                obtain ⟨h1, h2, h3⟩ := hm.heffs j hj
                refine ⟨?_, h2, h3⟩
                by_cases hji : j = i
                · exact .inr (by simp [hji])
                · simp only [if_neg hji]
                  rcases h1 with h1 | h1
                  · refine .inl fun hx => ?_
                    rcases List.mem_cons.1 hx with e | hx
                    · exact hji e
                    · exact h1 hx
                  · exact .inr h1, hm.hall, hm.hchain, hm.hplaced, hm.hnodup, fun q hq hqe j hj hje hb => by
                rcases List.mem_cons.1 hq with rfl | hq
                · rw [heff] at hqe; cases hqe
                · exact hm.hquiet q hq hqe j hj hje hb, hm.hdisj⟩
            · intro x v hx
              have hne : d ≠ x := fun e => M.free i hin ha x v (e ▸ hdi) hx
              rcases M.part x v hx with ⟨j, hj, hjd⟩ | ⟨h1, h2⟩
              · refine .inl ⟨j, fun hx' => ?_, hjd⟩
                rcases List.mem_cons.1 hx' with rfl | hx'
                · exact M.free j hin ha x v hjd hx
                · exact hj hx'
              · exact .inr ⟨h1, by rw [put_other (by rw [hdst]; exact fun e => hne (Option.some.inj e))]; exact h2⟩
            · have hsat := M.fit.hp.aside (o := so.den ρ) hb1 hb2
              refine ⟨?_, by rw [St.put_defers]; exact M.fit.df, M.fit.dfok, by rw [St.put_cm]; exact M.fit.cm, M.fit.cmok, fun x v hx => (by rw [Tr.nil_look] at hx; cases hx), hsat⟩
              have := M.fit.size
              cases hd' : o.dst <;> simp [St.put, this]
            · refine ⟨fun x ob hx => ?_, M.held.ro, fun j bj hj => ?_, fun j j' bj hj hj' => ?_⟩
              · rw [Own.set_full, if_neg (fun e => by rw [e, hFb] at hx; cases hx)]; exact M.held.le x ob hx
              · split at hj
                · rename_i e; subst e
                  cases hj
                  exact ⟨List.mem_cons_self, hin, hFb, o, t, so, d, ho, hop, hg, hdst, hdlt, hsa, hso, by simp, by rw [hdst]; exact put_same (by rw [M.fit.size]; exact hdlt)⟩
                · rename_i hji
                  have h0 := heldPut (.pointer (some ⟨b, 0, none⟩)) (i' :: effs) (fun j hj _ => hj)
                  obtain ⟨k1, k2, k3, o', t', so', d', k4, k5, k6, k7, k8, k9, k10, k11, k12⟩ := h0.each j bj hj
                  refine ⟨k1, k2, k3, o', t', so', d', k4, k5, k6, k7, k8, k9, k10, ?_, k12⟩
                  rw [Own.set_full, if_neg (fun e => by have := M.fit.hp.frm bj _ k11; rw [e, hb1] at this; cases this)]; exact k11
              · have hno : ∀ x, early x = some b → False := fun x hx => by
                  obtain ⟨_, _, _, _, _, _, _, _, _, _, _, _, _, _, k11, _⟩ := M.held.each x b hx
                  rw [M.fit.hp.frm b _ k11] at hb1; cases hb1
                split at hj <;> split at hj'
                · rename_i e e'; rw [e, e']
                · cases hj; exact (hno _ hj').elim
                · cases hj'; exact (hno _ hj).elim
                · exact M.held.inj j j' bj hj hj'
            · intro h l e
              cases e
              simp only [if_neg (fun e : i' = i => hii e.symm)]
              exact hset i' effs rfl
theorem wpI_draw {r : Ctx} {a : St} {S : Own} {Q : Ex → St → Own → Prop} {id : Nat} {items : List Item} (h : ∀ t, wpI P main r (.inRegion ops (Region.schedule (P.follows .mixedOrders) ops t) :: items) Q a S) : wpI P main r (.code (.region id ops true) :: items) Q a S :=
  fun Stop b k cs hb hc => .one rfl fun w hw => ⟨_, _, _, S, stepG_region_draw, (Mv.Mid.refl hw).drew _, by simp, h _ Stop b k cs hb hc⟩
theorem openX_sound (hox : OpxOk P main opx) (hex : SoundEx P main ex) (hcall : SoundCall P main call) {C : Cx} {Γ : Facts} {tail : List Item} {id : Nat} {σ : SS} {k : Kont} {ρ : Env} {Q : Ex → St → Own → Prop} {F : Own}
    {r : Ctx} (hr : CtxOk C r ρ) (hv : vals ρ) (hΓ : Γ.On ρ) (hK : KOk D E C.size F ρ k Q) (hE : EOk P main E C r F ρ Q) (h : holds D E ρ (openX P ops opx ex call C Γ (.code (.region id ops true) :: tail) tail σ ρ.k.length k)) {a : St} {S : Own} (hf : Fit C.size F ρ σ a S) : wpI P main r (.code (.region id ops true) :: tail) Q a S := by
  unfold openX at h
  split at h
  · rename_i hok
    split at h
    · rename_i hal
      simp only [openOk, Bool.and_eq_true] at hok
      obtain ⟨⟨⟨⟨⟨hrg, ht⟩, hn⟩, _⟩, hc⟩, hpl⟩ := hok
      refine wpI_draw fun t => ?_
      have hm : Midway ops [] [] (effsOf ops) (fun _ => none) := ⟨fun i hi => by simp at hi, fun j hj => by simp at hj, fun j hj => by
        obtain ⟨h4, h5⟩ := effsOf_mem.1 hj
        exact ⟨.inl (by simp), h4, h5⟩, fun j hj hje => .inr (effsOf_mem.2 ⟨hj, hje⟩), hc, hpl, effsOf_nodup, fun q hq => by simp at hq, fun j _ hx => by simp at hx⟩
      have hdl : ∀ d v, (dropA ops ((List.range ops.size).filter (isAl ops)) σ.sl).look d = some v → σ.sl.look d = some v := fun d v hd => (dropA_look _ _ hd).1
      obtain ⟨sl2, hM⟩ := Mids.next (sl0 := σ.sl) (C := C) (F := F) (F' := F) (a := a) (S := S) hn ht hm hv hΓ (fun d v hd => .inr (hf.sl d v (hdl d v hd))) (fun d v hd => .inr (hf.sl d v hd)) (hf.withSl fun d v hd => by rw [Tr.nil_look] at hd; cases hd)
        ⟨fun _ _ h => h, rfl, fun i b hb => (by cases hb), fun i j b hb => (by cases hb)⟩ (fun j hj ha d v hjd hl => by
          have := (dropA_look _ _ hl).2 j (List.mem_filter.2 ⟨List.mem_range.2 (effsOf_mem.1 hj).1, ha⟩)
          rw [this] at hjd; cases hjd) (fun q _ hx => by simp at hx) h
      exact stages_sound hox hex hcall ht hn hal _ [] [] (effsOf ops) (fun _ => none) F Γ σ sl2 ρ a S (sched_schedule hrg t) hr hK hE hM (fun _ _ _ => rfl)
    · exact stuck_ok hE h hf
  · exact stuck_ok hE h hf
def stepY (P : Program) (inl : FuncId → Bool) (ex : Run_) (call : Call_) (C : Cx) (Γ : Facts) (items : List Item) (σ : SS) (nk : Nat) (k : Kont) : Tree := match items with
  | .code (.region _ ops true) :: tail => openR P ops inl ex call C Γ items tail σ nk k
  | _ => stepX P inl ex call C Γ items σ nk k
theorem stepY_sound (hex : SoundEx P main ex) (hcall : SoundCall P main call) : SoundEx P main (stepY P inl ex call) := by
  intro D E C r Γ items σ nk k ρ Q F hr hv hΓ hk hK hE h a S hf
  subst hk
  unfold stepY at h
  split at h
  · exact openX_sound stepOp_ok hex hcall hr hv hΓ hK hE h hf
  · exact stepX_sound hex hcall D E C r Γ _ σ _ k ρ Q F hr hv hΓ rfl hK hE h a S hf
end
def bothY (P : Program) (inl : FuncId → Bool) : Nat → Run_ × Call_
  | 0 => (fun C _ items σ _ _ => stuck_ C items σ, fun _ _ _ _ _ _ _ => .bad)
  | n + 1 => (stepY P inl (bothY P inl n).1 (bothY P inl n).2, runF P inl (bothY P inl n).1 (bothY P inl n).2)
section
variable {P : Program} {main : Co}
theorem bothY_sound (inl : FuncId → Bool) : ∀ n, SoundEx P main (bothY P inl n).1 ∧ SoundCall P main (bothY P inl n).2
  | 0 => ⟨fun D E C r Γ items σ nk k ρ Q F hr hv hΓ hk hK hE h a S hf => stuck_ok hE h hf, ⟨fun D E f args hp nk Γ k ρ F S Post _ _ _ _ _ _ h => h.elim, fun D E f args m hp nk Γ k ρ F S Post _ _ _ _ _ _ _ h => h.elim⟩⟩
  | n + 1 => ⟨stepY_sound (bothY_sound inl n).1 (bothY_sound inl n).2, runF_sound (bothY_sound inl n).1 (bothY_sound inl n).2⟩
end
end Mw
set_option linter.unusedVariables false
namespace Mw
open Go Mv
noncomputable def openS (ops : Array Oper) : TF := fun tail P inl A C Γ items σ nk k => openR P ops inl A.1 A.2 C Γ items tail σ nk k
noncomputable def cRegionY (_ : Nat) (ops : Array Oper) (draw : Bool) : TF := fun tail => Bool.rec (motive := fun _ => SF) (goOn (.inRegion ops (List.range ops.size) :: tail)) (openS ops tail) draw
noncomputable def codeRY (c : Code) : TF := Code.rec (motive := fun _ => TF) cSkip cRegionY cSeq cCond cBlock cLoop cRange cExit cScope cLabel cGoto cRet cRefuse c
noncomputable def itemRY (i : Item) : TF := Item.rec (motive := fun _ => TF) codeRY tPass1 iLoop iScope iRegion iHalt1 iHalt1 iBegin iCall iExtern i
noncomputable def lConsY (i : Item) (tail : List Item) (_ : SF) : SF := itemRY i tail
noncomputable def stepRY (items : List Item) : SF := List.rec (motive := fun _ => SF) lNil lConsY items
theorem stepRY_eq (P : Program) (inl : FuncId → Bool) (A : Run_ × Call_) (C : Cx) (Γ : Facts) (items : List Item) (σ : SS) (nk : Nat) (k : Kont) : stepRY items P inl A C Γ items σ nk k = stepY P inl A.1 A.2 C Γ items σ nk k := by
  have old : ∀ its, stepR its P inl A C Γ items σ nk k = stepR its P inl A C Γ items σ nk k := fun _ => rfl
  unfold stepY
  split
  · rfl
  · rename_i hne
    rw [← stepR_eq]
    cases items with
    | nil => rfl
    | cons i tail =>
      cases i with
      | code c =>
        cases c with
        | region id ops d =>
          cases d with
          | false => rfl
          | true => exact absurd rfl (hne id ops tail)
        | _ => rfl
      | _ => rfl
noncomputable def bothRY (P : Program) (inl : FuncId → Bool) (n : Nat) : Run_ × Call_ := Nat.rec (motive := fun _ => Run_ × Call_) (fun C _ items σ _ _ => stuck_ C items σ, fun _ _ _ _ _ _ _ => .bad) (fun _ A => (fun C Γ items σ nk k => stepRY items P inl A C Γ items σ nk k, runF P inl A.1 A.2)) n
theorem bothRY_eq (P : Program) (inl : FuncId → Bool) : ∀ n, bothRY P inl n = bothY P inl n
  | 0 => rfl
  | n + 1 => by
    show (fun C Γ items σ nk k => stepRY items P inl (bothRY P inl n) C Γ items σ nk k, runF P inl (bothRY P inl n).1 (bothRY P inl n).2) = _
    simp only [bothY, bothRY_eq P inl n]
    congr 1
    funext C Γ items σ nk k
    exact stepRY_eq P inl _ C Γ items σ nk k
end Mw
set_option linter.unusedVariables false
namespace Mw
open Go Mv
mutual
def namesSC : SC → List Nat
  | .ptr b _ => [b]
  | .slice b _ _ _ => [b]
  | .ref b => [b]
  | .chn b => [b]
  | .fn _ f c => namesL f ++ namesL c
  | .iface _ x => namesSC x
  | .agg l => namesL l
  | .tup l => namesL l
  | _ => []
def namesL : List SC → List Nat
  | [] => []
  | x :: l => namesSC x ++ namesL l
end
def namesSO : SO → List Nat
  | .cells l _ => namesL l
  | .row l _ _ => namesL l
  | .map es _ => es.flatMap fun x => namesSC x.1 ++ namesSC x.2.1
  | .chan _ l _ _ _ _ => namesL l
  | _ => []
def reachT (rw : Tr SO) : Nat → List Nat → List Nat → List Nat
  | 0, _, acc => acc
  | _ + 1, [], acc => acc
  | n + 1, i :: todo, acc => match acc.contains i with
    | true => reachT rw n todo acc
    | false => match rw.look i with
      | some o => reachT rw n (namesSO o ++ todo) (i :: acc)
      | none => reachT rw n todo acc
def SGh.lend (i : Nat) : SGh → SGh
  | .main ty iW iC cap tm lent n => .main ty iW iC cap tm (i :: lent) n
  | g => g
def SGh.isMain : SGh → Bool
  | .main .. => true
  | _ => false
def Hp.lend (hp : Hp) (i : Nat) : Option Hp := match hp.gh.isMain, hp.rw.look i with
  | true, some o => some ⟨hp.rw.del i, hp.ro.set i o, hp.gh.lend i⟩
  | _, _ => none
def lendAll : List Nat → Hp → Option Hp
  | [], hp => some hp
  | i :: l, hp => match hp.lend i with
    | some hp => lendAll l hp
    | none => none
def lendOwn (S : Own) (b : Nat) (g : Gh) : Own := ⟨fun x => if x = b then none else S.full x, fun x => if x = b then S.full b else S.ro x, g⟩
theorem lendOwn_part {S : Own} {b : Nat} {g : Gh} (hd : ∀ b, (S.full b).isSome → S.ro b = none) : Mv.Part S (lendOwn S b g) where
  f x o h := by simp only [lendOwn] at h; split at h <;> simp_all
  r x o h := by
    simp only [lendOwn] at h
    split at h
    · rename_i e; subst e; exact .inl h
    · exact .inr h
  disj x h := by
    simp only [lendOwn] at h ⊢
    split at h
    · cases h
    · rename_i e; rw [if_neg e]; exact hd x h
theorem part_trans {S S1 S2 : Own} (h : Mv.Part S S1) (h' : Mv.Part S1 S2) : Mv.Part S S2 where
  f b o hb := h.f b o (h'.f b o hb)
  r b o hb := (h'.r b o hb).elim (fun e => .inl (h.f b o e)) (h.r b o)
  disj := h'.disj
theorem part_refl {S : Own} (hd : ∀ b, (S.full b).isSome → S.ro b = none) : Mv.Part S S := ⟨fun _ _ h => h, fun _ _ h => .inr h, hd⟩
section
variable {ρ : Env} {hp hp' : Hp} {F S : Own}
theorem Sat.lend {i : Nat} (h : Sat ρ hp F S) (hl : hp.lend i = some hp') : ∃ S', Sat ρ hp' F S' ∧ Mv.Part S S' ∧ (∀ j ∈ hp'.gh.lents, j ∈ hp.gh.lents ∨ (S.full (ρ.blk j)).isSome) ∧ S'.gh = hp'.gh.den ρ := by
  unfold Hp.lend at hl
  split at hl
  · rename_i o hm hi
    simp only [Option.some.injEq] at hl
    subst hl
    obtain ⟨h1, h2, h3⟩ := h.has i o hi
    have hlents : (hp.gh.lend i).lents = i :: hp.gh.lents := by
      cases hg : hp.gh <;> rw [hg] at hm <;> first | rfl | (cases hm)
    have hok : (hp.gh.lend i).ok ρ.k.length := by
      have := h.ghok
      cases hg : hp.gh <;> rw [hg] at hm this <;> first
        | (exact ⟨this.1, this.2.1, fun j hj => (List.mem_cons.1 hj).elim (fun e => e ▸ h1) (this.2.2 j)⟩)
        | (cases hm)
    have hne : ∀ j ∈ hp.gh.lents, ρ.blk j ≠ ρ.blk i := fun j hj e => by
      have := (h.lent j hj).2
      rw [e, h.dis _ (by rw [h3]; rfl)] at this; cases this
    refine ⟨lendOwn S (ρ.blk i) ((hp.gh.lend i).den ρ), ?_, lendOwn_part h.dis, ?_, rfl⟩
    · exact {
        has := fun j u hj => by
          obtain ⟨hji, hj⟩ := Tr.look_del hj
          obtain ⟨k1, k2, k3⟩ := h.has j u hj
          refine ⟨k1, k2, ?_⟩
          simp only [lendOwn]
          rw [if_neg (fun e => hji (h.inj _ _ _ _ hj hi e))]; exact k3
        hro := fun j u hj => by
          rcases Tr.look_set hj with ⟨rfl, rfl⟩ | ⟨hji, hj⟩
          · exact ⟨h1, h2, by simp only [lendOwn]; rw [if_pos trivial]; exact h3⟩
          · obtain ⟨k1, k2, k3⟩ := h.hro j u hj
            refine ⟨k1, k2, ?_⟩
            simp only [lendOwn]
            rw [if_neg (fun e => by rw [e, h.dis _ (by rw [h3]; rfl)] at k3; cases k3)]; exact k3
        inj := fun j j' u u' hj hj' e => h.inj _ _ _ _ (Tr.look_del hj).2 (Tr.look_del hj').2 e
        frm := fun b x hb => by
          simp only [lendOwn]
          split
          · rename_i e; subst e; rw [h.apart i o hi] at hb; cases hb
          · exact h.frm b x hb
        apart := fun j u hj => h.apart j u (Tr.look_del hj).2
        ro := fun b x hb => by
          simp only [lendOwn]
          split
          · rename_i e; subst e
            have := h.ro _ _ hb
            rw [h.dis _ (by rw [h3]; rfl)] at this; cases this
          · exact h.ro b x hb
        gh := rfl
        dis := fun b hb => by
          simp only [lendOwn] at hb ⊢
          split at hb
          · cases hb
          · rename_i e; rw [if_neg e]; exact h.dis b hb
        ghok := hok
        lent := fun j hj => by
          rw [hlents] at hj
          rcases List.mem_cons.1 hj with rfl | hj
          · refine ⟨?_, ?_⟩
            · cases hf : F.ro (ρ.blk j) with
              | none => rfl
              | some x => have := h.ro _ _ hf; rw [h.dis _ (by rw [h3]; rfl)] at this; cases this
            · simp only [lendOwn]; rw [if_pos trivial, h3]; rfl
          · obtain ⟨k1, k2⟩ := h.lent j hj
            refine ⟨k1, ?_⟩
            simp only [lendOwn]
            rw [if_neg (hne j hj)]; exact k2
        linj := fun j hj k hk e => by
          rw [hlents] at hj hk
          rcases List.mem_cons.1 hj with e1 | hj'
          · rcases List.mem_cons.1 hk with e2 | hk'
            · exact e1.trans e2.symm
            · exact absurd (by rw [← e, e1]) (hne k hk')
          · rcases List.mem_cons.1 hk with e2 | hk'
            · exact absurd (by rw [e, e2]) (hne j hj')
            · exact h.linj j hj' k hk' e
        rinj := fun j hj k u hk e => by
          rw [hlents] at hj
          rcases List.mem_cons.1 hj with e1 | hj'
          · rcases Tr.look_set hk with ⟨e2, _⟩ | ⟨hki, hk'⟩
            · exact e1.trans e2.symm
            · have := (h.hro k u hk').2.2
              rw [← e, e1, h.dis _ (by rw [h3]; rfl)] at this; cases this
          · rcases Tr.look_set hk with ⟨e2, _⟩ | ⟨hki, hk'⟩
            · exact absurd (by rw [e, e2]) (hne j hj')
            · exact h.rinj j hj' k u hk' e
        lnd := by
          rw [hlents]
          exact List.nodup_cons.2 ⟨fun hm => hne i hm rfl, h.lnd⟩ }
    · intro j hj
      rw [hlents] at hj
      rcases List.mem_cons.1 hj with rfl | hj
      · exact .inr (by rw [h3]; rfl)
      · exact .inl hj
  · cases hl
theorem lendAll_sat : ∀ (l : List Nat) (hp hp' : Hp) (S : Own), Sat ρ hp F S → lendAll l hp = some hp' → ∃ S', Sat ρ hp' F S' ∧ Mv.Part S S' ∧ (∀ j ∈ hp'.gh.lents, j ∈ hp.gh.lents ∨ (S.full (ρ.blk j)).isSome)
  | [], hp, hp', S, h, hl => by
    simp only [lendAll, Option.some.injEq] at hl; subst hl
    exact ⟨S, h, part_refl h.dis, fun j hj => .inl hj⟩
  | i :: l, hp, hp', S, h, hl => by
    simp only [lendAll] at hl
    split at hl
    · rename_i hp1 h1
      obtain ⟨S1, k1, k2, k3, _⟩ := h.lend h1
      obtain ⟨S2, k4, k5, k6⟩ := lendAll_sat l hp1 hp' S1 k1 hl
      refine ⟨S2, k4, part_trans k2 k5, fun j hj => ?_⟩
      rcases k6 j hj with e | e
      · exact k3 j e
      · exact .inr (k2.fs e)
    · cases hl
def SGh.home : SGh → Option (Nat × SGh)
  | .main ty iW iC cap tm (i :: lent) n => some (i, .main ty iW iC cap tm lent n)
  | _ => Option.none
def thawAll : Nat → Hp → Option Hp
  | 0, hp => match hp.gh.lents with
    | [] => some hp
    | _ :: _ => none
  | n + 1, hp => match hp.gh.home with
    | some (i, g) => match hp.ro.look i with
      | some o => thawAll n ⟨hp.rw.set i o, hp.ro.del i, g⟩
      | none => none
    | none => none
structure Homing (l : Nat → Prop) (S S' : Own) : Prop where
  full : ∀ b o, S'.full b = some o → S.full b = some o ∨ (l b ∧ S.ro b = some o)
  ro : ∀ b o, S'.ro b = some o → S.ro b = some o
def thawOwn (S : Own) (b : Nat) (g : Gh) : Own := ⟨fun x => if x = b then S.ro b else S.full x, fun x => if x = b then none else S.ro x, g⟩
theorem Sat.thaw {i : Nat} {g : SGh} {o : SO} (h : Sat ρ hp F S) (hh : hp.gh.home = some (i, g)) (ho : hp.ro.look i = some o) :
    Sat ρ ⟨hp.rw.set i o, hp.ro.del i, g⟩ F (thawOwn S (ρ.blk i) (g.den ρ)) := by
  obtain ⟨ty, iW, iC, cap, tm, lent, n, e1, e2⟩ : ∃ ty iW iC cap tm lent n, hp.gh = .main ty iW iC cap tm (i :: lent) n ∧ g = .main ty iW iC cap tm lent n := by
    unfold SGh.home at hh
    split at hh
    · simp only [Option.some.injEq, Prod.mk.injEq] at hh
      obtain ⟨rfl, rfl⟩ := hh
      rename_i hg
      exact ⟨_, _, _, _, _, _, _, hg, rfl⟩
    · cases hh
  have hl : hp.gh.lents = i :: lent := by rw [e1]; rfl
  have hgl : g.lents = lent := by rw [e2]; rfl
  have him : i ∈ hp.gh.lents := by rw [hl]; exact List.mem_cons_self
  obtain ⟨h1, h2, h3⟩ := h.hro i o ho
  have hfn : S.full (ρ.blk i) = none := by
    cases hf : S.full (ρ.blk i) with
    | none => rfl
    | some x => have := h.dis _ (by rw [hf]; rfl); rw [h3] at this; cases this
  have hne : ∀ j u, hp.rw.look j = some u → ρ.blk j ≠ ρ.blk i := fun j u hj e => by
    have := (h.has j u hj).2.2
    rw [e, hfn] at this; cases this
  have hnd : i ∉ lent ∧ lent.Nodup := by have := h.lnd; rw [hl] at this; exact List.nodup_cons.1 this
  have hlm : ∀ j ∈ lent, j ∈ hp.gh.lents := fun j hj => by rw [hl]; exact List.mem_cons_of_mem _ hj
  have hnl : ∀ j ∈ lent, ρ.blk j ≠ ρ.blk i := fun j hj e => by
    have := h.linj j (hlm j hj) i him e
    subst this; exact hnd.1 hj
  exact {
    has := fun j u hj => by
      rcases Tr.look_set hj with ⟨rfl, rfl⟩ | ⟨_, hj⟩
      · exact ⟨h1, h2, by simp only [thawOwn]; rw [if_pos trivial]; exact h3⟩
      · obtain ⟨k1, k2, k3⟩ := h.has j u hj
        exact ⟨k1, k2, by simp only [thawOwn]; rw [if_neg (hne j u hj)]; exact k3⟩
    hro := fun j u hj => by
      obtain ⟨hji, hj⟩ := Tr.look_del hj
      obtain ⟨k1, k2, k3⟩ := h.hro j u hj
      refine ⟨k1, k2, ?_⟩
      simp only [thawOwn]
      rw [if_neg (fun e => hji (h.rinj i him j u hj e.symm).symm)]; exact k3
    inj := fun j j' u u' hj hj' e => by
      rcases Tr.look_set hj with ⟨e1, _⟩ | ⟨_, k1⟩
      · rcases Tr.look_set hj' with ⟨e2, _⟩ | ⟨_, k2⟩
        · exact e1.trans e2.symm
        · exact absurd (by rw [← e, e1]) (hne _ _ k2)
      · rcases Tr.look_set hj' with ⟨e2, _⟩ | ⟨_, k2⟩
        · exact absurd (by rw [e, e2]) (hne _ _ k1)
        · exact h.inj _ _ _ _ k1 k2 e
    frm := fun b x hb => by
      simp only [thawOwn]
      split
      · rename_i e; subst e; have := h.frm _ _ hb; rw [hfn] at this; cases this
      · exact h.frm b x hb
    apart := fun j u hj => by
      rcases Tr.look_set hj with ⟨rfl, _⟩ | ⟨_, hj⟩
      · cases hf : F.full (ρ.blk j) with
        | none => rfl
        | some x => have := h.frm _ _ hf; rw [hfn] at this; cases this
      · exact h.apart j u hj
    ro := fun b x hb => by
      simp only [thawOwn]
      split
      · rename_i e; subst e; rw [(h.lent i him).1] at hb; cases hb
      · exact h.ro b x hb
    gh := rfl
    dis := fun b hb => by
      simp only [thawOwn] at hb ⊢
      split
      · rfl
      · rename_i e; rw [if_neg e] at hb; exact h.dis b hb
    ghok := by
      have := h.ghok
      rw [e1] at this
      rw [e2]
      exact ⟨this.1, this.2.1, fun j hj => this.2.2 j (List.mem_cons_of_mem _ hj)⟩
    lent := fun j hj => by
      have hj' : j ∈ lent := by rw [← hgl]; exact hj
      obtain ⟨k1, k2⟩ := h.lent j (hlm j hj')
      refine ⟨k1, ?_⟩
      simp only [thawOwn]
      rw [if_neg (hnl j hj')]; exact k2
    linj := fun j hj k hk e => h.linj j (hlm j (by rw [← hgl]; exact hj)) k (hlm k (by rw [← hgl]; exact hk)) e
    rinj := fun j hj k u hk e => h.rinj j (hlm j (by rw [← hgl]; exact hj)) k u (Tr.look_del hk).2 e
    lnd := by show g.lents.Nodup; rw [hgl]; exact hnd.2 }
theorem thawAll_sat : ∀ (n : Nat) (hp hp' : Hp) (S : Own), Sat ρ hp F S → thawAll n hp = some hp' → ∃ S', Sat ρ hp' F S' ∧ Homing (fun b => ∃ i ∈ hp.gh.lents, ρ.blk i = b) S S' ∧ hp'.gh.lents = []
  | 0, hp, hp', S, h, hl => by
    simp only [thawAll] at hl
    split at hl
    · rename_i hn
      simp only [Option.some.injEq] at hl; subst hl
      exact ⟨S, h, ⟨fun b o hb => .inl hb, fun b o hb => hb⟩, hn⟩
    · cases hl
  | n + 1, hp, hp', S, h, hl => by
    simp only [thawAll] at hl
    split at hl
    · rename_i i g hh
      split at hl
      · rename_i o ho
        obtain ⟨S2, k1, k2, k3⟩ := thawAll_sat n _ hp' _ (h.thaw hh ho) hl
        have hmem : ∀ j, j ∈ g.lents → j ∈ hp.gh.lents := by
          unfold SGh.home at hh
          split at hh
          · rename_i hg
            simp only [Option.some.injEq, Prod.mk.injEq] at hh
            obtain ⟨rfl, rfl⟩ := hh
            rw [hg]; exact fun j hj => List.mem_cons_of_mem _ hj
          · cases hh
        have him : i ∈ hp.gh.lents := by
          unfold SGh.home at hh
          split at hh
          · rename_i hg
            simp only [Option.some.injEq, Prod.mk.injEq] at hh
            obtain ⟨rfl, rfl⟩ := hh
            rw [hg]; exact List.mem_cons_self
          · cases hh
        refine ⟨S2, k1, ⟨fun b x hb => ?_, fun b x hb => ?_⟩, k3⟩
        · rcases k2.full b x hb with e | ⟨⟨j, hj, hjb⟩, e⟩
          · simp only [thawOwn] at e
            split at e
            · rename_i eb; subst eb; exact .inr ⟨⟨i, him, rfl⟩, e⟩
            · exact .inl e
          · simp only [thawOwn] at e
            split at e
            · cases e
            · exact .inr ⟨⟨j, hmem j hj, hjb⟩, e⟩
        · have := k2.ro b x hb
          simp only [thawOwn] at this
          split at this
          · cases this
          · exact this
      · cases hl
    · cases hl
end
end Mw
set_option linter.unusedVariables false
namespace Mw
open Go Mv
open Go.Conc.Lib (WgLink WgLib)
structure Hook where
  L : WgLink
  go : FuncId
  g1 : FuncId
  g11 : FuncId
  tF : TypeId
def findChan (rw : Tr SO) : Nat → Option Nat
  | 0 => none
  | n + 1 => match rw.look n with
    | some (.chan _ [] false _ _ _) => some n
    | _ => findChan rw n
def beginG (hk : Hook) (iW : Nat) (hp : Hp) (nk : Nat) : Option Hp := match hp.gh with
  | .none => match findChan hp.rw nk with
    | some iC => match hp.rw.look iW, hp.rw.look iC with
      | some (.cells [.int .u64 (.lit (.ofNat 0)), .int .u32 (.lit (.ofNat 0))] ty), some (.chan cap [] false ns nr tm) => match Nat.beq ty hk.L.tWg, Nat.beq iW iC with
        | true, false => some ⟨(hp.rw.del iW).del iC, hp.ro, .main ty iW iC cap tm [] []⟩
        | _, _ => none
      | _, _ => none
    | none => none
  | .main ty jW iC cap tm lent n => match Nat.beq iW jW, Nat.beq ty hk.L.tWg with
    | true, true => some hp
    | _, _ => none
  | _ => none
def SGh.more (ms : List Value) : SGh → SGh
  | .main ty iW iC cap tm lent ps => .main ty iW iC cap tm lent (ps ++ [ms])
  | g => g
section
variable {ρ : Env} {hp hp' : Hp} {F S : Own}
theorem Sat.stand {g : SGh} (h : Sat ρ hp F S) (hl : g.lents = hp.gh.lents) (hok : g.ok ρ.k.length) : Sat ρ { hp with gh := g } F (S.as (g.den ρ)) where
  has := h.has
  hro := h.hro
  inj := h.inj
  frm := h.frm
  apart := h.apart
  ro := h.ro
  gh := rfl
  dis := h.dis
  ghok := hok
  lent i hi := h.lent i (by rw [← hl]; exact hi)
  linj i hi j hj := h.linj i (by rw [← hl]; exact hi) j (by rw [← hl]; exact hj)
  rinj i hi := h.rinj i (by rw [← hl]; exact hi)
  lnd := by show g.lents.Nodup; rw [hl]; exact h.lnd
theorem Sat.but {i : Nat} {o : SO} (h : Sat ρ hp F S) (hi : hp.rw.look i = some o) : Sat ρ { hp with rw := hp.rw.del i } F ((S.but (ρ.blk i)).as S.gh) where
  has j u hj := by
    obtain ⟨hji, hj⟩ := Tr.look_del hj
    obtain ⟨k1, k2, k3⟩ := h.has j u hj
    refine ⟨k1, k2, ?_⟩
    simp only [Own.but, Own.as]
    rw [if_neg (fun e => hji (h.inj _ _ _ _ hj hi e))]; exact k3
  hro := h.hro
  inj j j' u u' hj hj' e := h.inj _ _ _ _ (Tr.look_del hj).2 (Tr.look_del hj').2 e
  frm b x hb := by
    simp only [Own.but, Own.as]
    rw [if_neg (fun e => by subst e; rw [h.apart i o hi] at hb; cases hb)]; exact h.frm b x hb
  apart j u hj := h.apart j u (Tr.look_del hj).2
  ro := h.ro
  gh := h.gh
  dis b hb := by
    simp only [Own.but, Own.as] at hb
    split at hb
    · cases hb
    · exact h.dis b hb
  ghok := h.ghok
  lent := h.lent
  linj := h.linj
  rinj := h.rinj
  lnd := h.lnd
variable {P : Program} {N : Nat} {w0 : Option World}
theorem beginG_sound {hk : Hook} {iW nk : Nat} (hs : Sat ρ hp F S) (h : beginG hk iW hp nk = some hp') : ∃ S' iC cap tm lent n, Sat ρ hp' F S' ∧ hp'.gh = .main hk.L.tWg iW iC cap tm lent n ∧
    ∀ Stop g, g.status = .running → Goes P (Co.team P N w0) Stop g S' → Goes P (Co.team P N w0) Stop g S := by
  unfold beginG at h
  split at h
  · rename_i hg
    split at h
    · rename_i iC hf
      split at h
      · rename_i ty cap ns nr tm hW hC
        split at h
        · rename_i hty hne
          have hty := Nat.eq_of_beq_eq_true hty
          have hne : iW ≠ iC := fun e => by rw [e, Nat.beq_refl] at hne; cases hne
          simp only [Option.some.injEq] at h; subst h; subst hty
          obtain ⟨w1, w2, w3⟩ := hs.has _ _ hW
          obtain ⟨c1, c2, c3⟩ := hs.has _ _ hC
          have hbne : ρ.blk iW ≠ ρ.blk iC := fun e => hne (hs.inj _ _ _ _ hW hC e)
          have hC' : (hp.rw.del iW).look iC = some (.chan cap [] false ns nr tm) ∨ (hp.rw.del iW).look iC = none := by
            cases hx : (hp.rw.del iW).look iC with
            | none => exact .inr rfl
            | some u =>
              have := (Tr.look_del hx).2
              rw [hC] at this; cases this; exact .inl rfl
          have hgn : S.gh = .none := by rw [hs.gh, hg]; rfl
          have s1 := hs.but hW
          have s2 : Sat ρ { hp with rw := (hp.rw.del iW).del iC } F ((((S.but (ρ.blk iW)).as S.gh).but (ρ.blk iC)).as S.gh) := by
            rcases hC' with hC' | hC'
            · exact s1.but hC'
            · have s3 := s1
              exact {
                has := fun j u hj => by
                  obtain ⟨hji, hj⟩ := Tr.look_del hj
                  obtain ⟨k1, k2, k3⟩ := s1.has j u hj
                  refine ⟨k1, k2, ?_⟩
                  have hjj := (Tr.look_del hj).2
                  have : ρ.blk j ≠ ρ.blk iC := fun e => hji (hs.inj _ _ _ _ hjj hC e)
                  show (if ρ.blk j = ρ.blk iC then none else _) = _
                  rw [if_neg this]; exact k3
                hro := s1.hro
                inj := fun j j' u u' hj hj' e => s1.inj _ _ _ _ (Tr.look_del hj).2 (Tr.look_del hj').2 e
                frm := fun b x hb => by
                  show (if b = ρ.blk iC then none else _) = _
                  rw [if_neg (fun e => by subst e; rw [hs.apart _ _ hC] at hb; cases hb)]; exact s1.frm b x hb
                apart := fun j u hj => s1.apart j u (Tr.look_del hj).2
                ro := s1.ro
                gh := s1.gh
                dis := fun b hb => by
                  have hb' : (if b = ρ.blk iC then none else ((S.but (ρ.blk iW)).as S.gh).full b).isSome = true := hb
                  split at hb'
                  · cases hb'
                  · exact s1.dis b hb'
                ghok := s1.ghok
                lent := s1.lent
                linj := s1.linj
                rinj := s1.rinj
                lnd := s1.lnd }
          have s4 := s2.stand (g := .main hk.L.tWg iW iC cap tm [] []) (by show [] = hp.gh.lents; rw [hg]; rfl) ⟨w1, c1, fun i hi => by cases hi⟩
          refine ⟨_, iC, cap, tm, [], [], s4, rfl, fun Stop g hr hG => ?_⟩
          refine .big (fun g' S' => g' = g ∧ S' = _) (reach_begin (K := ρ.grp hk.L.tWg iW iC cap tm) (ns := (ns.den ρ).toNat) (nr := (nr.den ρ).toNat) hr w3 c3 hgn hbne ⟨rfl, rfl⟩) ?_
          rintro g' S' ⟨rfl, rfl⟩
          have e1 : SGh.den ρ (.main hk.L.tWg iW iC cap tm [] []) = .main (ρ.grp hk.L.tWg iW iC cap tm) (fun _ => False) (.op false false) [] := by
            simp [SGh.den]
          rw [e1] at hG
          exact hG
        · cases h
      · cases h
    · cases h
  · rename_i ty jW iC cap tm lent n hg
    split at h
    · rename_i h1 h2
      obtain rfl := Nat.eq_of_beq_eq_true h1
      obtain rfl := Nat.eq_of_beq_eq_true h2
      simp only [Option.some.injEq] at h; subst h
      exact ⟨S, iC, cap, tm, lent, n, hs, hg, fun Stop g _ hG => hG⟩
    · cases h
  · cases h
end
def ins {α : Type} (a : α) : List α → List (List α)
  | [] => [[a]]
  | b :: l => (a :: b :: l) :: (ins a l).map (b :: ·)
def perms {α : Type} : List α → List (List α)
  | [] => [[]]
  | a :: l => (perms l).flatMap (ins a)
theorem ins_mem {α : Type} (a : α) : ∀ (l r : List α), l ++ a :: r ∈ ins a (l ++ r)
  | [], [] => by simp [ins]
  | [], b :: r => by simp [ins]
  | b :: l, r => by
    simp only [List.cons_append, ins, List.mem_cons, List.mem_map]
    exact .inr ⟨_, ins_mem a l r, rfl⟩
theorem perms_mem {α : Type} : ∀ (l L : List α), L.Perm l → L ∈ perms l
  | [], L, h => by rw [h.eq_nil]; simp [perms]
  | a :: l, L, h => by
    obtain ⟨x, y, rfl⟩ := List.append_of_mem (h.symm.subset (List.mem_cons_self ..))
    have h2 : (x ++ y).Perm l := List.Perm.cons_inv (List.perm_middle.symm.trans h)
    simp only [perms, List.mem_flatMap]
    exact ⟨x ++ y, perms_mem l _ h2, ins_mem a x y⟩
def eachOf {α : Type} (f : α → Tree) : List α → Tree
  | [] => .ok
  | a :: l => .both (f a) (eachOf f l)
theorem eachOf_holds {α : Type} {D : Env → SEx → SS → Prop} {E : Env → List Item → SS → Prop} {ρ : Env} {f : α → Tree} : ∀ {l : List α}, holds D E ρ (eachOf f l) → ∀ a ∈ l, holds D E ρ (f a)
  | b :: l, h, a, ha => by
    rcases List.mem_cons.1 ha with rfl | ha
    · exact h.1
    · exact eachOf_holds h.2 a ha
def waitF (hk : Hook) (args : List SC) (hp : Hp) (nk : Nat) (Γ : Facts) (k : KEnd) : Tree := match args with
  | [.ptr iW (.lit (.ofNat 0))] => match hp.gh with
    | .main ty jW iC cap tm lent n => match Nat.beq iW jW, Nat.beq ty hk.L.tWg, Nat.ble n.length 999999, thawAll lent.length hp with
      | true, true, true, some hp1 => .new (.new (eachOf (fun L => k (.ret (.tup [])) none ⟨hp1.rw.set iC (.chan cap (L.map ofVal) false (.room nk 1) (.room (nk + 1) 1) tm), hp1.ro, .none⟩ (nk + 2) Γ) (perms n.flatten)))
      | _, _, _, _ => .bad
    | _ => .bad
  | _ => .bad
theorem callable_wait {P : Program} {L : WgLink} (H : WgLib P L) : Callable P L.wait := ⟨_, H.f_wait, Go.ConcR.Gen.nm_wait L, rfl⟩
section
variable {P : Program} {N : Nat} {w0 : Option World}
theorem waitF_sound {hk : Hook} (H : WgLib P hk.L) {D : Env → SEx → SS → Prop} {E : Env → List Item → SS → Prop} {args : List SC} {hp : Hp} {nk : Nat} {Γ : Facts} {k : KEnd} {ρ : Env} {F S : Own} {Post : Mv.End → Own → Prop} (hΓ : Γ.On ρ) (hnk : ρ.k.length = nk) (hs : Sat ρ hp F S)
    (hpost : ∀ ρ' e cm hp' Γ', Ext ρ ρ' → Γ'.On ρ' → e.ok ρ'.k.length → holds D E ρ' (k e cm hp' ρ'.k.length Γ') → ∀ S', Sat ρ' hp' F S' → Post (e.den ρ') S')
    (h : holds D E ρ (waitF hk args hp nk Γ k)) : Callable P hk.L.wait ∧ Calls P (Co.team P N w0) hk.L.wait (args.map (SC.den ρ)).toArray S Post := by
  refine ⟨callable_wait H, ?_⟩
  subst hnk
  unfold waitF at h
  split at h
  · rename_i iW
    split at h
    · rename_i ty jW iC cap tm lent n hg
      split at h
      · rename_i hp1 h1 h2 h3 h4
        obtain rfl := Nat.eq_of_beq_eq_true h1
        obtain rfl := Nat.eq_of_beq_eq_true h2
        have h3 := Nat.le_of_ble_eq_true h3
        obtain ⟨S1, s1, hom, hl1⟩ := thawAll_sat _ _ _ _ hs h4
        have hgh : S.gh = .main (ρ.grp hk.L.tWg iW iC cap tm) (fun b => ∃ i ∈ lent, ρ.blk i = b) (.op false false) (n.map pactOf) := by rw [hs.gh, hg]; rfl
        have hlents : hp.gh.lents = lent := by rw [hg]; rfl
        rw [hlents] at hom
        have hCok : iC < ρ.k.length := by have := hs.ghok; rw [hg] at this; exact this.2.1
        have hcall := Mx.calls_wait (N := N) (w0 := w0) (K := ρ.grp hk.L.tWg iW iC cap tm) (S := S) H rfl ⟨_, _, _, hgh⟩ hgh (by simp; omega)
          (Post := fun S' => ∃ L' ∈ perms n.flatten, ∃ ns nr, Sat ((ρ.grow 0 (List.replicate ns undef)).grow 0 (List.replicate nr undef)) ⟨hp1.rw.set iC (.chan cap (L'.map ofVal) false (.room ρ.k.length 1) (.room (ρ.k.length + 1) 1) tm), hp1.ro, .none⟩ F S') (by
            intro sents L ns nr hlen hok hperm hm hpw hC
            have hsents : sents = n.map (·.map bare) := by
              apply List.ext_getElem?
              intro i
              rw [List.getElem?_map]
              have hl2 : sents.length = n.length := by rw [hlen, List.length_map]
              cases hi : n[i]? with
              | none =>
                rw [List.getElem?_eq_none_iff] at hi
                simp only [Option.map_none]
                exact List.getElem?_eq_none_iff.2 (by omega)
              | some ms =>
                have hlt : i < n.length := (List.getElem?_eq_some_iff.1 hi).1
                have hs2 : sents[i]? = some (sents[i]'(by omega)) := List.getElem?_eq_getElem _
                have := hok i (pactOf ms) _ (by rw [List.getElem?_map, hi]; rfl) hs2
                rw [hs2, this]
                rfl
            have hflat : sents.flatten = n.flatten.map bare := by rw [hsents, ← List.map_flatten]
            rw [hflat] at hperm
            have hL' : (L.map (·.1)).Perm n.flatten := by
              have := hperm.map (·.1)
              rw [List.map_map] at this
              have e : ((fun x : Msg => x.1) ∘ bare) = id := rfl
              rwa [e, List.map_id] at this
            have hCn : S1.full (ρ.blk iC) = none ∧ S1.ro (ρ.blk iC) = none := by
              obtain ⟨c1, c2⟩ := hC
              refine ⟨?_, ?_⟩
              · cases hf : S1.full (ρ.blk iC) with
                | none => rfl
                | some o =>
                  rcases hom.full _ _ hf with e | ⟨_, e⟩
                  · have e' : S.full (ρ.grp hk.L.tWg iW iC cap tm).C = some o := e
                    rw [c1] at e'; cases e'
                  · have e' : S.ro (ρ.grp hk.L.tWg iW iC cap tm).C = some o := e
                    rw [c2] at e'; cases e'
              · cases hf : S1.ro (ρ.blk iC) with
                | none => rfl
                | some o =>
                  have e' : S.ro (ρ.grp hk.L.tWg iW iC cap tm).C = some o := hom.ro _ _ hf
                  rw [c2] at e'; cases e'
            have g1 := s1.grow (b := 0) (r := List.replicate ns undef)
            have g2 := g1.grow (b := 0) (r := List.replicate nr undef)
            have hb2 : ((ρ.grow 0 (List.replicate ns undef)).grow 0 (List.replicate nr undef)).blk iC = ρ.blk iC := by
              rw [blk_grow _ _ _ (by simp; omega), blk_grow _ _ _ hCok]
            have hden : (SO.chan cap ((L.map (·.1)).map ofVal) false (.room ρ.k.length 1) (.room (ρ.k.length + 1) 1) tm).den ((ρ.grow 0 (List.replicate ns undef)).grow 0 (List.replicate nr undef)) = .chan cap (L.map (·.1)).toArray false ns nr tm := by
              have r1 : ((ρ.grow 0 (List.replicate ns undef)).grow 0 (List.replicate nr undef)).rest ρ.k.length = List.replicate ns undef := by
                rw [rest_grow _ _ _ (by simp), rest_new]
              have r2 : ((ρ.grow 0 (List.replicate ns undef)).grow 0 (List.replicate nr undef)).rest (ρ.k.length + 1) = List.replicate nr undef := by
                have := rest_new (ρ.grow 0 (List.replicate ns undef)) 0 (List.replicate nr undef)
                rw [len_grow] at this; exact this
              have e2 : ∀ (ρ : Env) (l : List Value), (l.map ofVal).map (SC.den ρ) = l := fun ρ l => by
                rw [List.map_map]
                have : (SC.den ρ ∘ ofVal) = id := funext fun v => den_ofVal ρ v
                rw [this, List.map_id]
              simp only [SO.den, e2]
              simp [IE.den, r1, r2]
            refine ⟨⟨fun x => if x = ρ.blk iC then some (.chan cap (L.map (·.1)).toArray false ns nr tm) else S1.full x, S1.ro, .none⟩, ⟨fun b o hb => ?_, hom.ro, fun b hb => ?_, rfl⟩, L.map (·.1), perms_mem _ _ hL', ns, nr, ?_⟩
            · simp only at hb
              split at hb
              · rename_i e; subst e
                simp only [Option.some.injEq] at hb
                exact .inl ⟨rfl, by rw [← hb]; rfl⟩
              · rcases hom.full _ _ hb with e | e
                · exact .inr (.inl e)
                · exact .inr (.inr (.inr e))
            · simp only at hb ⊢
              split at hb
              · rename_i e; subst e; exact hCn.2
              · exact s1.dis b hb
            · exact {
                has := fun j u hj => by
                  rcases Tr.look_set hj with ⟨rfl, rfl⟩ | ⟨hjn, hj⟩
                  · refine ⟨by simp; omega, ⟨fun x hx => (by obtain ⟨y, _, rfl⟩ := List.mem_map.1 hx; exact ok_ofVal _ y), by simp [IE.ok]; omega, by simp [IE.ok]⟩, ?_⟩
                    rw [hb2, hden]
                    show (if ρ.blk j = ρ.blk j then _ else _) = _
                    rw [if_pos rfl]
                  · obtain ⟨k1, k2, k3⟩ := g2.has j u hj
                    refine ⟨k1, k2, ?_⟩
                    obtain ⟨l1, _, l3⟩ := s1.has j u hj
                    have hbj : ((ρ.grow 0 (List.replicate ns undef)).grow 0 (List.replicate nr undef)).blk j = ρ.blk j := by
                      rw [blk_grow _ _ _ (by simp; omega), blk_grow _ _ _ l1]
                    rw [hbj] at k3 ⊢
                    show (if ρ.blk j = ρ.blk iC then _ else _) = _
                    rw [if_neg (fun e => by rw [e, hCn.1] at l3; cases l3)]; exact k3
                hro := fun j u hj => g2.hro j u hj
                inj := fun j j' u u' hj hj' e => by
                  have nC : ∀ j u, hp1.rw.look j = some u → ((ρ.grow 0 (List.replicate ns undef)).grow 0 (List.replicate nr undef)).blk j ≠ ((ρ.grow 0 (List.replicate ns undef)).grow 0 (List.replicate nr undef)).blk iC := fun j u hj e => by
                    have := (g2.has j u hj).2.2
                    rw [e, hb2, hCn.1] at this; cases this
                  rcases Tr.look_set hj with ⟨e1, _⟩ | ⟨_, k1⟩
                  · rcases Tr.look_set hj' with ⟨e2, _⟩ | ⟨_, k2⟩
                    · exact e1.trans e2.symm
                    · exact absurd (by rw [← e, e1]) (nC _ _ k2)
                  · rcases Tr.look_set hj' with ⟨e2, _⟩ | ⟨_, k2⟩
                    · exact absurd (by rw [e, e2]) (nC _ _ k1)
                    · exact g2.inj _ _ _ _ k1 k2 e
                frm := fun b o hb => by
                  have := s1.frm b o hb
                  show (if b = ρ.blk iC then _ else _) = _
                  rw [if_neg (fun e => by rw [e, hCn.1] at this; cases this)]; exact this
                apart := fun j u hj => by
                  rcases Tr.look_set hj with ⟨rfl, _⟩ | ⟨_, hj⟩
                  · rw [hb2]
                    cases hf : F.full (ρ.blk j) with
                    | none => rfl
                    | some o => have := s1.frm _ _ hf; rw [hCn.1] at this; cases this
                  · exact g2.apart j u hj
                ro := s1.ro
                gh := rfl
                dis := fun b hb => by
                  have hb' : (if b = ρ.blk iC then some (Obj.chan cap (L.map (·.1)).toArray false ns nr tm) else S1.full b).isSome = true := hb
                  show S1.ro b = none
                  split at hb'
                  · rename_i e; subst e; exact hCn.2
                  · exact s1.dis b hb'
                ghok := trivial
                lent := fun i hi => (by cases hi)
                linj := fun i hi => (by cases hi)
                rinj := fun i hi => (by cases hi)
                lnd := List.nodup_nil })
        refine hcall.mono fun e S' ⟨he, L', hL', ns, nr, hS'⟩ => ?_
        subst he
        have h5 := eachOf_holds (h 0 (List.replicate ns undef) 0 (List.replicate nr undef)) L' hL'
        have := hpost _ (.ret (.tup [])) none _ Γ ((Ext.grow ρ 0 _).trans (Ext.grow _ 0 _)) ((hΓ.grow _ _).grow _ _) trivial (by rw [len_grow, len_grow]; exact h5) S' hS'
        exact this
      · exact h.elim
    · exact h.elim
  · exact h.elim
end
end Mw
set_option linter.unusedVariables false
namespace Mw
open Go Mv
open Go.Conc (QuitsD born)
open Go.Conc.Lib (WgLink WgLib)
def under (P : Program) : Frame := { (default : Frame) with fn := P.funcs.size, defers := [], mode := .panicking [goexitEntry] }
section
variable {P : Program}
theorem gone {x : Frame} (hm : x.mode = .panicking [goexitEntry]) (hd : x.defers = []) (hc : x.catches P = false) (w : World) : stepG P false (Mv.G x []) w = .go { frame := x, callers := [], status := .finished, dying := none } w := by
  simp [Mv.G, stepG, unwind, hm, hd, hc, goexitEntry]
theorem under_quits : QuitsD P 1 0 (Mv.G (under P) []) :=
  QuitsD.ctl (g' := { frame := under P, callers := [], status := .finished, dying := none }) rfl (gone rfl rfl (by
    have hf : P.funcs[(under P).fn]? = none := by simp [under]
    have ht : (under P).todo = [] := rfl
    simp [Frame.catches, hf, ht])) ⟨rfl, rfl⟩
theorem home_ {x y : Frame} {fn : Func} (hk : x.kind = .deferred) (hm : x.mode = .returning) (hd : x.defers = []) (hf : P.funcs[x.fn]? = some fn) (hr : fn.results = #[]) (hy : y.mode = .panicking [goexitEntry]) (w : World) :
    stepG P false (Mv.G x [y]) w = .go (Mv.G y []) w := by
  have h1 := results_none hr x.tmps P w
  have h2 := Go.Conc.events_results_none (P := P) (w := w) hr x.tmps #[]
  simp [Mv.G, stepG, unwind, doReturn, hm, hd, hf, h1, h2, hk, hy, goexitEntry, Go.Conc.seen_none, GStep.after]
theorem leave_under {x : Frame} {fn : Func} (hk : x.kind = .deferred) (hm : x.mode = .returning) (hd : x.defers = []) (hf : P.funcs[x.fn]? = some fn) (hr : fn.results = #[]) : QuitsD P 2 0 (Mv.G x [under P]) :=
  QuitsD.ctl rfl (home_ hk hm hd hf hr rfl) under_quits
theorem stepG_call {main : Bool} {b : Frame} {a : Act} {k : List Item} {cs : List Frame} {w : World} {ops : Array Oper} {i : Nat} {rest : List Nat} {o : Oper} {f : FuncId} {fn : Func} {c : Code} {args : Array Operand} {ats : Array TypeId} {vs : Array Value}
    (ho : ops[i]? = some o) (hw : Region.wanted o (yielded ops a.tmps) = true) (hk : b.kind ≠ .early) (hop : o.op = .call { callee := .value (.func f), args, argTypes := ats })
    (hf : P.funcs[f]? = some fn) (hname : (fn.name == "runtime.NumGoroutine") = false) (hb : fn.body = some c) (hvs : args.map a.eval = vs) :
    stepG P main (Mv.G (b.at a (.inRegion ops (i :: rest) :: k)) cs) w = .go (Mv.G (Frame.enter P f vs .normal) (b.at a (.inRegion ops (i :: rest) :: k) :: cs)) w := by
  subst hvs
  have hb' : fn.body.isNone = false := by rw [hb]; rfl
  have := Go.Conc.stepG_enter (main := main) (cs := cs) (k := k) (rest := rest) ho hw hk (Go.Conc.run_call_body (P := P) (a := a) (w := w) hop hf hname hb')
  have hl : Go.Conc.listed P b.fn a o w = #[] := by unfold Go.Conc.listed; rw [Go.Conc.events_call_body hop hf hname hb']; exact Go.Conc.seen_none P _
  rw [hl] at this
  exact this
theorem stepG_move {main : Bool} {b : Frame} {a : Act} {k : List Item} {cs : List Frame} {w : World} {ops : Array Oper} {i : Nat} {rest : List Nat} {o : Oper} {x : Operand}
    (ho : ops[i]? = some o) (hw : Region.wanted o (yielded ops a.tmps) = true) (hk : b.kind ≠ .early) (hop : o.op = .move x) :
    stepG P main (Mv.G (b.at a (.inRegion ops (i :: rest) :: k)) cs) w = .go (Mv.G (b.at (a.put o.dst (a.eval x)) (.inRegion ops rest :: k)) cs) w := by
  have := Go.Conc.stepG_value (P := P) (w := w) (main := main) (cs := cs) (k := k) (rest := rest) (v := a.eval x) (w' := w) ho hw hk (by simp [execOp, hop])
  have hl : Go.Conc.listed P b.fn a o w = #[] := by unfold Go.Conc.listed; simp [execOp, hop, Go.Conc.seen_none]
  rw [hl] at this
  exact this
variable {L : WgLink} {K : Grp} {S : Own} {pc : Pact} {sent : List Msg}
theorem add_tail (H : WgLib P L) {fn : Func} {b : Frame} {a : Act} {ops : Array Oper} {x : Frame} {fx : Func} (a₀ : Act) (ops₀ : Array Oper) (i : Nat) (hd₀ : a₀.defers = []) (hb : b.kind = .deferred) (hd : a.defers = []) (hf : P.funcs[b.fn]? = some fn) (hr : fn.results = #[])
    (hk : x.kind = .deferred) (hm : x.mode = .returning) (hdx : x.defers = []) (hfx : P.funcs[x.fn]? = some fx) (hrx : fx.results = #[]) (i₀ : Nat) :
    QuitsD P 8 0 (Mv.G ((Go.Conc.base L.done).at (a₀.put ((ops₀[i₀]?).bind (·.dst)) (.tuple #[])) (.inRegion ops₀ [] :: [])) (b.at a (.inRegion ops [i] :: []) :: x :: [under P])) := by
  refine .ctl rfl (fun w => Go.Conc.stepG_region_end) ?_
  refine .ctl rfl (fun w => Go.Conc.stepG_end) ?_
  have hd1 : (a₀.put ((ops₀[i₀]?).bind (·.dst)) (.tuple #[])).defers = [] := by rw [← hd₀]; cases (ops₀[i₀]?).bind (·.dst) <;> rfl
  refine QuitsD.leave0 rfl hd1 H.f_done rfl ?_
  refine .ctl rfl (fun w => Go.Conc.stepG_region_end) ?_
  refine .ctl rfl (fun w => Go.Conc.stepG_end) ?_
  have hd2 : (a.put ((ops[i]?).bind (·.dst)) (.tuple #[])).defers = [] := by rw [← hd]; cases (ops[i]?).bind (·.dst) <;> rfl
  exact QuitsD.leaveD hb hd2 hf hr hm (leave_under hk hm hdx hfx hrx)
theorem done_goes (H : WgLib P L) (hty : K.ty = L.tWg) (hgh : S.gh = .work K .work pc sent) (hok : pc.ok sent) {Stop : Goroutine → Own → Prop} {fn : Func} {b : Frame} {a : Act} {ops : Array Oper} {x : Frame} {fx : Func} (i : Nat) (hb : b.kind = .deferred) (hd : a.defers = [])
    (hf : P.funcs[b.fn]? = some fn) (hr : fn.results = #[]) (hk : x.kind = .deferred) (hm : x.mode = .returning) (hdx : x.defers = []) (hfx : P.funcs[x.fn]? = some fx) (hrx : fx.results = #[]) :
    Goes P (Mx.Hand P K) Stop (Mv.G (Frame.enter P L.done #[.pointer (some ⟨K.W, 0, none⟩)] .normal) (b.at a (.inRegion ops [i] :: []) :: x :: [under P])) S := by
  rw [Go.Conc.enter_at _ H.f_done rfl]
  refine .move rfl (fun w => Go.Conc.stepG_region) ?_
  refine .move rfl (fun w => stepG_move rfl rfl (by simp [Go.Conc.base]) rfl) ?_
  refine .move rfl (fun w => stepG_call rfl rfl (by simp [Go.Conc.base]) rfl H.f_add (Go.ConcR.Gen.nm_add L) rfl (vs := #[.pointer (some ⟨K.W, 0, none⟩), .int .i64 (-1)]) (by simp [Act.eval, Act.put, Go.Conc.Lib.doneFn])) ?_
  refine (Mx.neg_walk (qt := 8) H hty hgh hok ?_).goes (Mx.hand_looks hgh)
  exact add_tail H _ _ i rfl hb hd hf hr hk hm hdx hfx hrx 1
end
def Ops11 (hk : Hook) (nt : Nat) (ops : Array Oper) : Prop := ∃ t ty0 p0 a0 d1 ats ty1 p1 a1, t < nt ∧
  ops = #[⟨some t, .load hk.L.tWgP (.tmp 0), ty0, p0, a0, none⟩, ⟨d1, .call { callee := .value (.func hk.L.done), args := #[.tmp t], argTypes := ats }, ty1, p1, a1, none⟩]
structure GoLib (P : Program) (hk : Hook) : Prop where
  g11 : ∃ fn A id ops, P.funcs[hk.g11]? = some fn ∧ fn.body = some (.seq A (.region id ops false)) ∧ Ops11 hk fn.ntmps ops ∧ fn.results = #[] ∧ (fn.name == "runtime.NumGoroutine") = false
def workEnd (P : Program) (hk : Hook) (iW : Nat) : Kont := fun e σ _ _ => match e, σ.df, σ.cm with
  | .normal, [], some .ret => match sLoad P σ.hp hk.L.tWgP (evC σ.sl (.tmp 0)), σ.hp.gh with
    | some (.val [] (.ptr i (.lit (.ofNat 0)))), .work ty jW _ _ _ ms n => match Nat.beq i jW, Nat.beq ty hk.L.tWg, Nat.beq n ms.length with
      | true, true, true => .ok
      | _, _, _ => .bad
    | _, _ => .bad
  | _, _, _ => .bad
def workMid (P : Program) (hk : Hook) (ex : Run_) (f2 : Func) (A : Code) (iW : Nat) : Kont := fun e σ nk Γ => match (match e with | .normal => true | .ret => true | _ => false), σ.df with
  | true, [d] => match Nat.beq d.f hk.g11, d.args, d.caps, d.col with
    | true, [], [x], none => ex { size := 1 + (f2.ntmps - 1), dfr := true, fn := hk.g11 } Γ [.code A] { sl := slotsOf [x] 0 .nil, hp := σ.hp, df := [], cm := some .ret } nk (workEnd P hk iW)
    | _, _, _, _ => .bad
  | _, _ => .bad
def workF (P : Program) (hk : Hook) (ex : Run_) (iW : Nat) (args : List SC) (hp : Hp) (nk : Nat) (Γ : Facts) : Tree :=
  match P.funcs[hk.g1]?, P.funcs[hk.g11]? with
  | some f1, some f2 => match f1.body, f1.results.toList, f1.name == "runtime.NumGoroutine", f2.body with
    | some c1, [], false, some (.seq A _) =>
      ex { size := args.length + (f1.ntmps - args.length), dfr := false, fn := hk.g1 } Γ [.code c1] { sl := slotsOf args 0 .nil, hp, df := [], cm := none } nk (workMid P hk ex f2 A iW)
    | _, _, _, _ => .bad
  | _, _ => .bad
section
variable {P : Program}
theorem entry_fit {ρ : Env} {args : List SC} {fn : Func} {hp : Hp} {cm : Option SMode} {F S : Own} (hargs : ∀ x ∈ args, x.ok ρ.k.length) (hcm : ∀ m, cm = some m → m.ok ρ.k.length) (hs : Sat ρ hp F S) :
    Fit (args.length + (fn.ntmps - args.length)) F ρ { sl := slotsOf args 0 .nil, hp, df := [], cm } (entry fn (args.map (SC.den ρ)).toArray (cm.map (SMode.den ρ))) S where
  size := by simp [entry]
  df := rfl
  dfok := by simp
  cm := rfl
  cmok := hcm
  hp := hs
  sl := fun d v hd => by
    rcases slotsOf_look args 0 .nil d v hd with ⟨_, h2⟩ | h
    · rw [Nat.sub_zero] at h2
      have hlt : d < args.length := by
        rcases Nat.lt_or_ge d args.length with h | h
        · exact h
        · rw [List.getElem?_eq_none h] at h2; cases h2
      refine ⟨hargs v (List.mem_of_getElem? h2), ?_⟩
      simp only [entry]
      rw [Array.getElem?_append_left (by simpa using hlt)]
      simp [h2]
    · rw [Tr.nil_look] at h; cases h
theorem enter_deferred {x : Frame} {cs : List Frame} {f : FuncId} {fn : Func} {vs : Array Value} (hm : unwinds x.mode = true) (hd : x.defers = [⟨.fn (.func f) vs, #[]⟩]) (hf : P.funcs[f]? = some fn) (hname : (fn.name == "runtime.NumGoroutine") = false)
    (hb : fn.body.isSome = true) (w : World) : stepG P false (Mv.G x cs) w = .go (Mv.G (Frame.enter P f vs .deferred) ({ x with defers := [] } :: cs)) w := by
  have h1 : ¬ fn.name = "runtime.NumGoroutine" := by simpa using hname
  have h2 : ¬ fn.body = none := by cases hx : fn.body <;> simp_all
  cases hx : x.mode with
  | run => rw [hx] at hm; cases hm
  | _ => simp [Mv.G, stepG, unwind, hx, hd, callDeferred, invoke, callFunc, hf, h1, h2, Go.Conc.seen_none, GStep.after]
theorem workEnd_goes {hk : Hook} {K : Grp} (H : WgLib P hk.L) {fn fx : Func} {ops : Array Oper} {id : Nat} (hf : P.funcs[hk.g11]? = some fn) (hops : Ops11 hk fn.ntmps ops) (hr : fn.results = #[]) {D : Env → SEx → SS → Prop} {E : Env → List Item → SS → Prop} {iW nk : Nat} {ρ : Env} {F S : Own} {e : SEx} {σ : SS} {Γ : Facts} {a : St}
    (hfit : Fit (1 + (fn.ntmps - 1)) F ρ σ a S) {x : Frame} (hxk : x.kind = .deferred) (hxd : x.defers = []) (hfx : P.funcs[x.fn]? = some fx) (hrx : fx.results = #[])
    (h : holds D E ρ (workEnd P hk iW e σ nk Γ)) : e = .normal ∧ Goes P (Mx.Hand P K) StopW (Mv.G (fr (base hk.g11 .deferred) a [.code (.region id ops false)]) (cl { dfr := true, fn := some hk.g11 } (x :: [under P]) a.cm)) S := by
  unfold workEnd at h
  split at h
  · rename_i hdf hcm
    refine ⟨rfl, ?_⟩
    split at h
    · rename_i i ty jW iC cap tm ms n hload hgh
      split at h
      · rename_i hi hty hn
        obtain rfl := Nat.eq_of_beq_eq_true hi
        obtain rfl := Nat.eq_of_beq_eq_true hty
        obtain rfl := Nat.eq_of_beq_eq_true hn
        obtain ⟨t, ty0, p0, a0, d1, ats, ty1, p1, a1, ht, rfl⟩ := hops
        have hacm : a.cm = some .returning := by rw [hfit.cm, hcm]; rfl
        have hadf : a.defers = [] := by rw [hfit.df, hdf]; rfl
        have hg : S.gh = .work (ρ.grp hk.L.tWg i iC cap tm) .work (pactOf ms) ((ms.take ms.length).map bare) := by rw [hfit.hp.gh, hgh]; rfl
        refine .move rfl (fun w => stepG_region) ?_
        have hcs : cl { dfr := true, fn := some hk.g11 } (x :: [under P]) a.cm = { x with mode := .returning } :: [under P] := by rw [hacm]; rfl
        have hrun := (sLoad_good (P := P) (S0 := S) (o := ⟨some t, .load hk.L.tWgP (.tmp 0), ty0, p0, a0, none⟩) rfl hfit.hp (evC_ok hfit.sl) hload).1
        refine op_step (r := { dfr := true, fn := some hk.g11 }) (Q := fun _ _ _ => False) (next := fun a' S' => a' = a.put (some t) (.pointer (some ⟨ρ.blk i, 0, none⟩)) ∧ S' = S) rfl rfl rfl ⟨rfl, fun _ => ⟨rfl, rfl, by simp⟩, by simp [base]⟩ ?_ (fun _ _ h => h.elim)
          (hrun (by simp [allTrue]) _ ⟨rfl, rfl⟩)
        rintro a' S' ⟨rfl, rfl⟩
        rw [St.put_cm, hcs]
        have hlt : t < a.tmps.size := by rw [hfit.size]; omega
        refine .move rfl (fun w => stepG_call (b := base hk.g11 .deferred) (a := ⟨_, _⟩) rfl rfl (by simp [base]) rfl H.f_done (Go.ConcR.Gen.nm_done hk.L) rfl (vs := #[.pointer (some ⟨ρ.blk i, 0, none⟩)]) (by simp [Act.eval, St.put, hlt])) ?_
        exact done_goes (K := ρ.grp hk.L.tWg i iC cap tm) H rfl hg (by simp [pactOf]) 1 rfl hadf hf hr hxk rfl hxd hfx hrx
      · exact h.elim
    · exact h.elim
  · exact h.elim
theorem workF_sound {hk : Hook} {K : Grp} {ex : Run_} (hex : SoundEx P (Mx.Hand P K) ex) (H : WgLib P hk.L) (Gl : GoLib P hk) {D : Env → SEx → SS → Prop} {E : Env → List Item → SS → Prop} {iW nk : Nat} {args : List SC} {hp : Hp} {Γ : Facts} {ρ : Env} {F S : Own}
    (hv : vals ρ) (hΓ : Γ.On ρ) (hnk : ρ.k.length = nk) (hargs : ∀ x ∈ args, x.ok ρ.k.length) (hs : Sat ρ hp F S)
    (h : holds D E ρ (workF P hk ex iW args hp nk Γ)) : Goes P (Mx.Hand P K) StopW (born P { target := .fn (.func hk.g1) (args.map (SC.den ρ)).toArray, args := #[] }) S := by
  obtain ⟨f2, A, id, ops, hf2, hb2, hops, hr2, hname2⟩ := Gl.g11
  subst hnk
  unfold workF at h
  rw [hf2] at h
  split at h
  · rename_i f1 f2' hf1 hf2'
    simp only [Option.some.injEq] at hf2'; subst hf2'
    rw [hb2] at h
    split at h
    · rename_i c1 A' c2 hb1 hr1 hname1 hA
      simp only [Option.some.injEq, Code.seq.injEq] at hA
      obtain ⟨rfl, _⟩ := hA
      have hr1 : f1.results = #[] := by apply Array.ext'; exact hr1
      have hE : ∀ {size : Nat} {dfr : Bool} {f : FuncId} {r : Ctx} {ρ : Env} {Q : Ex → St → Own → Prop}, EOk P (Mx.Hand P K) E { size, dfr, fn := f } r F ρ Q := fun h => by cases h
      refine .move (g' := Mv.G (Frame.enter P hk.g1 (args.map (SC.den ρ)).toArray .deferred) [under P]) rfl (fun w => enter_deferred rfl rfl hf1 hname1 (by rw [hb1]; rfl) w) ?_
      rw [enter_eq (cm := none) hf1 hb1]
      have hrun := hex D E _ { fn := some hk.g1 } Γ _ _ _ _ ρ (fun e a S' => (e = .normal ∨ e = .ret) ∧ ∀ todo, Goes P (Mx.Hand P K) StopW (Mv.G { fr (base hk.g1 .deferred) a todo with mode := .returning } [under P]) S') F ⟨rfl, rfl, by simp, rfl⟩ hv hΓ rfl ?_ hE h _ S (entry_fit (cm := none) hargs (by simp) hs)
      · refine hrun StopW (base hk.g1 .deferred) [] [under P] ⟨rfl, by simp, by simp [base]⟩ ?_
        rintro e a' S' ⟨rfl | rfl, hg⟩
        · exact .move rfl (fun _ => stepG_end rfl) (hg _)
        · rintro todo ⟨k, rfl⟩
          exact .move rfl (fun _ => stepG_ret rfl) (hg _)
      · intro ρ1 e σ Γ1 he1 hΓ1 hok1 hh a S1 hfit
        unfold workMid at hh
        split at hh
        · rename_i d hend hdf
          split at hh
          · rename_i x hdf1 hda hdc hdcol
            have hdf1 := Nat.eq_of_beq_eq_true hdf1
            refine ⟨?_, fun todo => ?_⟩
            · cases e <;> first | exact .inl rfl | exact .inr rfl | (simp at hend)
            have had : a.defers = [⟨.fn (.func hk.g11) #[x.den ρ1], #[]⟩] := by
              rw [hfit.df, hdf]
              simp [SDef.den, hda, hdc, hdcol, hdf1]
            obtain ⟨x6, hx6⟩ : ∃ x : Frame, x = { fr (base hk.g1 .deferred) a todo with mode := .returning, defers := [] } := ⟨_, rfl⟩
            have hxok : x.ok ρ1.k.length := (hfit.dfok d (by rw [hdf]; simp)).2.1 x (by rw [hdc]; simp)
            refine .move (g' := Mv.G (Frame.enter P hk.g11 #[x.den ρ1] .deferred) ({ fr (base hk.g1 .deferred) a todo with mode := .returning, defers := [] } :: [under P])) rfl (fun w => enter_deferred (x := { fr (base hk.g1 .deferred) a todo with mode := .returning }) rfl had hf2 hname2 (by rw [hb2]; rfl) w) ?_
            rw [enter_eq (cm := some .returning) hf2 hb2, ← hx6]
            refine .move rfl (fun w => stepG_seq) ?_
            have hrun := hex D E _ { dfr := true, fn := some hk.g11 } Γ1 _ _ _ _ ρ1 (fun e a S' => e = .normal ∧ Goes P (Mx.Hand P K) StopW (Mv.G (fr (base hk.g11 .deferred) a [.code (.region id ops false)]) (cl { dfr := true, fn := some hk.g11 } (x6 :: [under P]) a.cm)) S') F ⟨rfl, rfl, by simp, rfl⟩ (vals_ext he1 hv) hΓ1 rfl ?_ hE hh _ S1
              (entry_fit (cm := some .ret) (args := [x]) (fn := f2) (by intro y hy; simp at hy; subst hy; exact hxok) (by intro m hm; cases hm; trivial) hfit.hp)
            · have hcl : cl { dfr := true, fn := some hk.g11 } (x6 :: [under P]) (some .returning) = x6 :: [under P] := by rw [hx6]; rfl
              rw [← hcl]
              refine hrun StopW (base hk.g11 .deferred) [.code (.region id ops false)] (x6 :: [under P]) ⟨rfl, fun _ => ⟨rfl, rfl, by simp⟩, by simp [base]⟩ ?_
              rintro e' a' S' ⟨rfl, hg⟩
              exact hg
            · intro ρ2 e2 σ2 Γ2 he2 hΓ2 hok2 hh2 a2 S2 hfit2
              have := workEnd_goes (K := K) (id := id) H hf2 hops hr2 hfit2 (x := x6) (by rw [hx6]; rfl) (by rw [hx6]) (by rw [hx6]; exact hf1) hr1 hh2
              exact ⟨by rw [this.1]; rfl, this.2⟩
          · exact hh.elim
        · exact hh.elim
    · exact h.elim
  · exact h.elim
end
end Mw
set_option linter.unusedVariables false
namespace Mw
open Go Mv
open Go.Conc (QuitsD born)
open Go.Conc.Lib (WgLink WgLib)
def OpsAdd (hk : Hook) (ops : Array Oper) : Prop := ∃ ty0 p0 a0 ats ty1 p1 a1,
  ops = #[⟨some 4, .load hk.L.tWgP (.tmp 2), ty0, p0, a0, none⟩, ⟨some 5, .call { callee := .value (.func hk.L.add), args := #[.tmp 4, .const (.int .i64 1)], argTypes := ats }, ty1, p1, a1, none⟩]
def OpsGo (hk : Hook) (ops : Array Oper) : Prop := ∃ ty0 p0 a0 ats ty1 p1 a1,
  ops = #[⟨some 6, .makeFunc (.func hk.g1) #[] #[.tmp 2, .tmp 3], ty0, p0, a0, none⟩, ⟨none, .go { callee := .value (.tmp 6), args := #[], argTypes := ats }, ty1, p1, a1, none⟩]
def GoFn (P : Program) (hk : Hook) : Prop := ∃ fn A i1 ops1 i2 ops2, P.funcs[hk.go]? = some fn ∧ fn.body = some (.seq A (.seq (.region i1 ops1 false) (.region i2 ops2 false))) ∧ OpsAdd hk ops1 ∧ OpsGo hk ops2 ∧ 7 ≤ fn.ntmps ∧ fn.results = #[] ∧ (fn.name == "runtime.NumGoroutine") = false
section
variable {P : Program} {main : Bool} {b : Frame} {a : Act} {k : List Item} {cs : List Frame} {w : World} {ops : Array Oper} {i : Nat} {rest : List Nat} {o : Oper}
theorem stepG_makeFunc {fn : Fn} {first caps : Array Operand} {v : Value} (ho : ops[i]? = some o) (hw : Region.wanted o (yielded ops a.tmps) = true) (hk : b.kind ≠ .early) (hop : o.op = .makeFunc fn first caps) (hv : Value.func fn (first.map a.eval) (caps.map a.eval) = v) :
    stepG P main (Mv.G (b.at a (.inRegion ops (i :: rest) :: k)) cs) w = .go (Mv.G (b.at (a.put o.dst v) (.inRegion ops rest :: k)) cs) w := by
  subst hv
  have := Go.Conc.stepG_value (P := P) (w := w) (main := main) (cs := cs) (k := k) (rest := rest) (v := .func fn (first.map a.eval) (caps.map a.eval)) (w' := w) ho hw hk (by simp [execOp, hop, Instr.makeFunc])
  have hl : Go.Conc.listed P b.fn a o w = #[] := by unfold Go.Conc.listed; simp [execOp, hop, Instr.makeFunc, Go.Conc.seen_none]
  rw [hl] at this
  exact this
theorem stepG_back {x c : Frame} {fn : Func} (hk : x.kind = .normal) (hm : x.mode = .returning) (hd : x.defers = []) (hf : P.funcs[x.fn]? = some fn) (hr : fn.results = #[]) :
    stepG P main (Mv.G x (c :: cs)) w = .go (Mv.G (c.finish (.tuple #[])) cs) w := by
  have h1 := results_none hr x.tmps P w
  have h2 := Go.Conc.events_results_none (P := P) (w := w) hr x.tmps #[]
  simp [Mv.G, stepG, unwind, doReturn, hm, hd, hf, h1, h2, hk, Go.Conc.seen_none, GStep.after]
theorem stepG_go {f : Fn} {vs : Array Value} {x : Operand} {ats : Array TypeId} (ho : ops[i]? = some o) (hw : Region.wanted o (yielded ops a.tmps) = true) (hk : b.kind ≠ .early) (hop : o.op = .go { callee := .value x, args := #[], argTypes := ats })
    (hx : a.eval x = .func f #[] vs) :
    stepG P main (Mv.G (b.at a (.inRegion ops (i :: rest) :: k)) cs) w = .spawn (Mv.G (b.at (a.put o.dst undef) (.inRegion ops rest :: k)) cs) (born P { target := .fn f vs, args := #[] }) w #[] := by
  have hr : (execOp a.eval o).run P w = .ok (.spawn { target := .fn f vs, args := #[] }) w := by simp [execOp, hop, resolve, hx, Deferred.ofValue]
  have := Go.Conc.stepG_spawn (P := P) (w := w) (main := main) (cs := cs) (k := k) (rest := rest) ho hw hk hr rfl
  have hl : Go.Conc.listed P b.fn a o w = #[] := by unfold Go.Conc.listed; simp [execOp, hop, resolve, hx, Deferred.ofValue, Go.Conc.seen_none]
  rw [hl] at this
  exact this
end
abbrev Dry := List SC → Hp → Nat → Facts → List Value
def forceMs {β : Type} : List Value → (List Value → β) → β
  | [], k => k []
  | v :: l, k => match v with
    | .int kd (.ofNat n) => forceN n fun n => forceMs l fun l => k (.int kd (.ofNat n) :: l)
    | v => forceMs l fun l => k (v :: l)
theorem forceMs_eq {β : Type} : ∀ (l : List Value) (k : List Value → β), forceMs l k = k l
  | [], _ => rfl
  | v :: l, k => by
    unfold forceMs
    split <;> simp only [forceN_eq, forceMs_eq l]
def goMid (P : Program) (hk : Hook) (exW : Run_) (dry : Dry) (k : KEnd) (iW : Nat) : Kont := fun e σ nk Γ => match e, σ.df, σ.sl.look 2, σ.sl.look 3 with
  | .normal, [], some x2, some x3 => match sLoad P σ.hp hk.L.tWgP (some x2), σ.hp.gh, lendAll (reachT σ.hp.rw 100000 (namesSC x2 ++ namesSC x3) []) σ.hp with
    | some (.val [] (.ptr i (.lit (.ofNat 0)))), .main ty jW iC cap tm lent n, some hp2 => forceMs (dry [x2, x3] { rw := .nil, ro := hp2.ro, gh := .work ty jW iC cap tm [] 0 } nk Γ) fun ms => match Nat.beq i iW, Nat.beq jW iW, Nat.beq ty hk.L.tWg, Nat.ble n.length 999999, Nat.ble ((n ++ [ms]).map List.length).sum cap with
        | true, true, true, true, true => .both (workF P hk exW iW [x2, x3] { rw := .nil, ro := hp2.ro, gh := .work ty jW iC cap tm ms 0 } nk Γ) (k (.ret (.tup [])) none { hp2 with gh := hp2.gh.more ms } nk Γ)
        | _, _, _, _, _ => .bad
    | _, _, _ => .bad
  | _, _, _, _ => .bad
def goF (P : Program) (hk : Hook) (exM exW : Run_) (dry : Dry) (args : List SC) (hp : Hp) (nk : Nat) (Γ : Facts) (k : KEnd) : Tree := match args, P.funcs[hk.go]? with
  | [.ptr iW (.lit (.ofNat 0)), f], some fn => match fn.body, beginG hk iW hp nk with
    | some (.seq A _), some hp => exM { size := 2 + (fn.ntmps - 2), fn := hk.go } Γ [.code A] { sl := slotsOf args 0 .nil, hp, df := [], cm := none } nk (goMid P hk exW dry k iW)
    | _, _ => .bad
  | _, _ => .bad
section
variable {P : Program} {N : Nat} {w0 : Option World}
theorem lend_gh {hp hp' : Hp} {i ty iW iC cap : Nat} {n : List (List Value)} {tm : Bool} {l : List Nat} (h : hp.lend i = some hp') (hg : hp.gh = .main ty iW iC cap tm l n) : hp'.gh = .main ty iW iC cap tm (i :: l) n := by
  unfold Hp.lend at h
  split at h
  · simp only [Option.some.injEq] at h; subst h; rw [hg]; rfl
  · cases h
theorem lendAll_gh {ty iW iC cap : Nat} {n : List (List Value)} {tm : Bool} : ∀ (is : List Nat) {hp hp' : Hp} {l : List Nat}, lendAll is hp = some hp' → hp.gh = .main ty iW iC cap tm l n → ∃ l', hp'.gh = .main ty iW iC cap tm l' n
  | [], hp, hp', l, h, hg => by simp only [lendAll, Option.some.injEq] at h; subst h; exact ⟨l, hg⟩
  | i :: is, hp, hp', l, h, hg => by
    simp only [lendAll] at h
    split at h
    · rename_i hp1 h1
      exact lendAll_gh is h (lend_gh h1 hg)
    · cases h
theorem part_as {S S' : Own} {g g' : Gh} (h : Mv.Part S S') : Mv.Part (S.as g) (S'.as g') := ⟨h.f, h.r, h.disj⟩
theorem go_goes {K : Grp} {S S1 S2 : Own} {l l1 : Nat → Prop} {ps : List Pact} {pc : Pact} {b : Frame} {aa : Act} {ops : Array Oper} {i : Nat} {rest : List Nat} {o : Oper} {k : List Item} {cs : List Frame} {x : Operand} {ats : Array TypeId} {f : Fn} {vs : Array Value} {Stop : Goroutine → Own → Prop}
    (ho : ops[i]? = some o) (hw : Region.wanted o (yielded ops aa.tmps) = true) (hk : b.kind ≠ .early) (hop : o.op = .go { callee := .value x, args := #[], argTypes := ats }) (hx : aa.eval x = .func f #[] vs) (hgh : S.gh = .main K l (.op false true) ps)
    (hl : ∀ b, l1 b → l b ∨ (S.full b).isSome) (p1 : Mv.Part S S1) (p2 : Mv.Part S S2) (d1 : ∀ b, (S1.full b).isSome → S2.full b = none ∧ S2.ro b = none) (d2 : ∀ b, (S2.full b).isSome → S1.full b = none ∧ S1.ro b = none) (g1 : S1.gh = .main K l1 (.op false false) (ps ++ [pc])) (g2 : S2.gh = .work K .work pc [])
    (hq : ((ps ++ [pc]).map (·.quota)).sum ≤ K.cap) (hps : ps.length < 1000000) (hchild : Goes P (Mx.Hand P K) StopW (born P { target := .fn f vs, args := #[] }) S2) (hnext : Goes P (Co.team P N w0) Stop (Mv.G (b.at (aa.put o.dst undef) (.inRegion ops rest :: k)) cs) S1) :
    Goes P (Co.team P N w0) Stop (Mv.G (b.at aa (.inRegion ops (i :: rest) :: k)) cs) S := by
  refine .big (fun g' S'' => g' = Mv.G (b.at (aa.put o.dst undef) (.inRegion ops rest :: k)) cs ∧ S'' = S1) (reach_act ⟨_, _, _, hgh⟩ (by rintro g' S'' ⟨rfl, _⟩; exact rfl) ?_) (by rintro g' S'' ⟨rfl, rfl⟩; exact hnext)
  exact ActM.go rfl hgh fun w hS => ⟨_, _, S1, S2, pc, l1, hl, stepG_go ho hw hk hop hx, rfl, rfl, p1, p2, d1, d2, g1, g2, hq, hps, Mx.hands_to hchild ⟨_, _, _, g2⟩, rfl, rfl⟩
theorem callable_go {hk : Hook} (h : GoFn P hk) : Callable P hk.go := by
  obtain ⟨fn, A, i1, ops1, i2, ops2, hf, hb, _, _, _, _, hn⟩ := h
  exact ⟨fn, hf, hn, by rw [hb]; rfl⟩
theorem goMid_goes {hk : Hook} {exW : Run_} {dry : Dry} (H : WgLib P hk.L) (Gl : GoLib P hk) (hexW : ∀ K, SoundEx P (Mx.Hand P K) exW) {fn : Func} {i1 i2 : Nat} {ops1 ops2 : Array Oper} (hf : P.funcs[hk.go]? = some fn) (h1 : OpsAdd hk ops1) (h2 : OpsGo hk ops2) (hnt : 7 ≤ fn.ntmps) (hr : fn.results = #[])
    {D : Env → SEx → SS → Prop} {E : Env → List Item → SS → Prop} {k : KEnd} {iW nk : Nat} {ρ ρ0 : Env} {F S : Own} {e : SEx} {σ : SS} {Γ : Facts} {a : St} (hfit : Fit (2 + (fn.ntmps - 2)) F ρ σ a S) (hnk : ρ.k.length = nk) (hv : vals ρ) (hΓ : Γ.On ρ) (he0 : Ext ρ0 ρ) {Post : Mv.End → Own → Prop}
    (hpost : ∀ ρ' e cm hp' Γ', Ext ρ0 ρ' → Γ'.On ρ' → e.ok ρ'.k.length → holds D E ρ' (k e cm hp' ρ'.k.length Γ') → ∀ S', Sat ρ' hp' F S' → Post (e.den ρ') S')
    (h : holds D E ρ (goMid P hk exW dry k iW e σ nk Γ)) {Stop : Goroutine → Own → Prop} {kind : CallKind} {cs : List Frame} (hne : kind ≠ .early)
    (hk' : ∀ x e S', Post e S' → Leaves P hk.go kind e x S' → Goes P (Co.team P N w0) Stop (Mv.G x cs) S') :
    e = .normal ∧ Goes P (Co.team P N w0) Stop (Mv.G (fr (base hk.go kind) a [.code (.seq (.region i1 ops1 false) (.region i2 ops2 false))]) cs) S := by
  subst hnk
  unfold goMid at h
  split at h
  · rename_i x2 x3 hdf hx2 hx3
    refine ⟨rfl, ?_⟩
    split at h
    · rename_i i ty jW iC cap tm lent n hp2 hload hgh hlend
      rw [forceMs_eq] at h
      generalize hms : dry _ _ _ _ = ms at h
      split at h
      · rename_i hi hj hty hn hq
        have hq := Nat.le_of_ble_eq_true hq
        obtain rfl := Nat.eq_of_beq_eq_true hi
        obtain rfl := Nat.eq_of_beq_eq_true hj
        obtain rfl := Nat.eq_of_beq_eq_true hty
        have hn := Nat.le_of_ble_eq_true hn
        obtain ⟨hW, hM⟩ := h
        obtain ⟨ty0, p0, a0, ats, ty1, p1, a1, rfl⟩ := h1
        obtain ⟨ty2, p2, a2, ats2, ty3, p3, a3, rfl⟩ := h2
        have hadf : a.defers = [] := by rw [hfit.df, hdf]; rfl
        obtain ⟨x2ok, hv2⟩ := hfit.sl 2 x2 hx2
        obtain ⟨x3ok, hv3⟩ := hfit.sl 3 x3 hx3
        have hsz := hfit.size
        have hgS : S.gh = .main (ρ.grp hk.L.tWg jW iC cap tm) (fun b => ∃ i ∈ lent, ρ.blk i = b) (.op false false) (n.map pactOf) := by rw [hfit.hp.gh, hgh]; rfl
        have hiW : jW < ρ.k.length := by have := hfit.hp.ghok; rw [hgh] at this; exact this.1
        obtain ⟨S', s', hpart, hlents⟩ := lendAll_sat _ _ _ _ hfit.hp hlend
        obtain ⟨lent2, hgh2⟩ := lendAll_gh _ hlend hgh
        refine .move rfl (fun w => stepG_seq) ?_
        refine .move rfl (fun w => stepG_region) ?_
        have hload' : sLoad P σ.hp hk.L.tWgP (evC σ.sl (.tmp 2)) = some (.val [] (.ptr jW (.lit (.ofNat 0)))) := by simp only [evC, hx2]; exact hload
        have hrun := (sLoad_good (P := P) (S0 := S) (o := ⟨some 4, .load hk.L.tWgP (.tmp 2), ty0, p0, a0, none⟩) rfl hfit.hp (evC_ok hfit.sl) hload').1
        have hbn : (base hk.go kind).roundOf = none := rfl
        refine op_step (r := { fn := some hk.go }) (Q := fun _ _ _ => False) (next := fun a' S' => a' = a.put (some 4) (.pointer (some ⟨(ρ.grp hk.L.tWg jW iC cap tm).W, 0, none⟩)) ∧ S' = S) rfl rfl rfl ⟨rfl, by simp, by simp [base]⟩ ?_ (fun _ _ h => h.elim)
          (hrun (by simp [allTrue]) _ ⟨rfl, rfl⟩)
        rintro a' S2 ⟨rfl, rfl⟩
        refine .move rfl (fun w => stepG_call (b := base hk.go kind) (a := ⟨_, _⟩) rfl rfl hne rfl H.f_add (Go.ConcR.Gen.nm_add hk.L) rfl (vs := #[.pointer (some ⟨(ρ.grp hk.L.tWg jW iC cap tm).W, 0, none⟩), .int .i64 1]) (by simp [Act.eval, St.put]; omega)) ?_
        refine Mx.calls_add (N := N) (w0 := w0) (K := ρ.grp hk.L.tWg jW iC cap tm) H rfl ⟨_, _, _, hgS⟩ hgS (by simp; omega) Stop .normal _ (by decide) ?_
        rintro x e S3 ⟨rfl, rfl⟩ ⟨hxf, hxk, hxd, fna, hfa, hxm, hxr⟩
        have hfa' : P.funcs[x.fn]? = some (Go.Conc.Lib.addFn hk.L) := by rw [hxf]; exact H.f_add
        refine .move rfl (fun w => stepG_back hxk hxm hxd hfa' rfl) ?_
        rw [Frame.finish_at]
        refine .move rfl (fun w => Go.Conc.stepG_region_end) ?_
        refine .move rfl (fun w => Go.Conc.stepG_region) ?_
        refine .move rfl (fun w => stepG_makeFunc rfl rfl hne rfl (v := .func (.func hk.g1) #[] #[x2.den ρ, x3.den ρ]) (by simp [Act.eval, Act.put, St.put, hv2, hv3])) ?_
        have h4 : ∀ (v4 v5 v6 : Value), (((({ tmps := a.tmps.setIfInBounds 4 v4, defers := a.defers } : Act).put (some 5) v5).put (some 6) v6).eval (.tmp 6)) = v6 := by intro v4 v5 v6; simp [Act.eval, Act.put]; omega
        refine go_goes (K := ρ.grp hk.L.tWg jW iC cap tm) (l1 := fun b => ∃ i ∈ lent2, ρ.blk i = b) (pc := pactOf ms) (S1 := S'.as ((hp2.gh.more ms).den ρ)) (S2 := ⟨fun _ => none, S'.ro, .work (ρ.grp hk.L.tWg jW iC cap tm) .work (pactOf ms) []⟩) rfl rfl hne rfl (h4 _ _ _) rfl ?_ (part_as hpart) ?_ ?_ ?_ ?_ rfl ?_ ?_ ?_ ?_
        · intro b hb
          obtain ⟨j, hj, rfl⟩ := hb
          rcases hlents j (by rw [hgh2]; exact hj) with h | h
          · exact .inl ⟨j, by rw [hgh] at h; exact h, rfl⟩
          · exact .inr h
        · exact { f := fun b o h => (by cases h), r := fun b o h => hpart.r b o h, disj := fun b h => (by cases h) }
        · exact fun b hb => ⟨rfl, s'.dis b hb⟩
        · exact fun b hb => (by cases hb)
        · rw [hgh2]
          show SGh.den ρ (.main hk.L.tWg jW iC cap tm lent2 (n ++ [ms])) = _
          simp only [SGh.den, List.map_append, List.map_cons, List.map_nil]
        · have e : (n.map pactOf ++ [pactOf ms]).map (·.quota) = (n ++ [ms]).map List.length := by
            simp [pactOf, Function.comp_def]
          rw [e]; exact hq
        · simp; omega
        · have sW : Sat ρ { rw := .nil, ro := hp2.ro, gh := .work hk.L.tWg jW iC cap tm ms 0 } ⟨fun _ => none, fun _ => none, .none⟩ ⟨fun _ => none, S'.ro, .work (ρ.grp hk.L.tWg jW iC cap tm) .work (pactOf ms) []⟩ := {
            has := fun j o hj => by rw [Tr.nil_look] at hj; cases hj
            hro := s'.hro
            inj := fun j j' o o' hj => by rw [Tr.nil_look] at hj; cases hj
            frm := fun b o hb => by cases hb
            apart := fun j o hj => rfl
            ro := fun b o hb => by cases hb
            gh := rfl
            dis := fun b hb => by cases hb
            ghok := ⟨hiW, by have := hfit.hp.ghok; rw [hgh] at this; exact this.2.1⟩
            lent := fun j hj => by cases hj
            linj := fun j hj => by cases hj
            rinj := fun j hj => by cases hj
            lnd := List.nodup_nil }
          exact workF_sound (hexW _) H Gl hv hΓ rfl (by
            intro x hx
            rcases List.mem_cons.1 hx with rfl | hx
            · exact x2ok
            · rcases List.mem_cons.1 hx with rfl | hx
              · exact x3ok
              · cases hx) sW hW
        · refine .move rfl (fun w => Go.Conc.stepG_region_end) ?_
          refine .move rfl (fun w => Go.Conc.stepG_end) ?_
          refine hk' _ (.returned (.tuple #[])) _ (hpost ρ (.ret (.tup [])) none _ Γ he0 hΓ trivial hM _ (s'.stand ?_ ?_)) ⟨rfl, rfl, hadf, fn, hf, rfl, Mx.reads_none hr⟩
          · rw [hgh2]; rfl
          · have := s'.ghok
            rw [hgh2] at this ⊢
            exact this
      · exact h.elim
    · exact h.elim
  · exact h.elim
theorem goF_sound {hk : Hook} {exM exW : Run_} {dry : Dry} (H : WgLib P hk.L) (Gl : GoLib P hk) (Gf : GoFn P hk) (hexM : SoundEx P (Co.team P N w0) exM) (hexW : ∀ K, SoundEx P (Mx.Hand P K) exW)
    {D : Env → SEx → SS → Prop} {E : Env → List Item → SS → Prop} {args : List SC} {hp : Hp} {nk : Nat} {Γ : Facts} {k : KEnd} {ρ : Env} {F S : Own} {Post : Mv.End → Own → Prop} (hv : vals ρ) (hΓ : Γ.On ρ) (hnk : ρ.k.length = nk) (hargs : ∀ x ∈ args, x.ok ρ.k.length) (hs : Sat ρ hp F S)
    (hpost : ∀ ρ' e cm hp' Γ', Ext ρ ρ' → Γ'.On ρ' → e.ok ρ'.k.length → holds D E ρ' (k e cm hp' ρ'.k.length Γ') → ∀ S', Sat ρ' hp' F S' → Post (e.den ρ') S')
    (h : holds D E ρ (goF P hk exM exW dry args hp nk Γ k)) : Callable P hk.go ∧ Calls P (Co.team P N w0) hk.go (args.map (SC.den ρ)).toArray S Post := by
  refine ⟨callable_go Gf, ?_⟩
  obtain ⟨fn, A, i1, ops1, i2, ops2, hf, hb, h1, h2, hnt, hr, hname⟩ := Gf
  subst hnk
  unfold goF at h
  rw [hf] at h
  split at h
  · rename_i iW f fn' hfe
    simp only [Option.some.injEq] at hfe; subst hfe
    rw [hb] at h
    split at h
    · rename_i A' c hp1 hA hbeg
      simp only [Option.some.injEq, Code.seq.injEq] at hA
      obtain ⟨rfl, _⟩ := hA
      obtain ⟨S1, iC, cap, tm, lent, n, s1, hg1, hgo⟩ := beginG_sound (P := P) (N := N) (w0 := w0) hs hbeg
      intro Stop kind cs hne hk'
      rw [enter_eq (cm := none) hf hb]
      refine hgo _ _ rfl ?_
      refine .move rfl (fun w => stepG_seq) ?_
      have hrun := hexM D E _ { fn := some hk.go } Γ _ _ _ _ ρ (fun e a S' => e = .normal ∧ Goes P (Co.team P N w0) Stop (Mv.G (fr (base hk.go kind) a [.code (.seq (.region i1 ops1 false) (.region i2 ops2 false))]) cs) S') F ⟨rfl, rfl, by simp, rfl⟩ hv hΓ rfl ?_ (fun h => by cases h) h _ S1 (entry_fit (cm := none) hargs (by simp) s1)
      · refine hrun Stop (base hk.go kind) [.code (.seq (.region i1 ops1 false) (.region i2 ops2 false))] cs ⟨rfl, by simp, by simp [base]⟩ ?_
        rintro e a' S' ⟨rfl, hg⟩
        exact hg
      · intro ρ1 e σ Γ1 he1 hΓ1 hok1 hh a S2 hfit
        obtain ⟨h3, h4⟩ := goMid_goes (N := N) (w0 := w0) (i1 := i1) (i2 := i2) H Gl hexW hf h1 h2 hnt hr hfit rfl (vals_ext he1 hv) hΓ1 he1 hpost hh hne hk'
        exact ⟨by rw [h3]; rfl, h4⟩
    · exact h.elim
  · exact h.elim
end
end Mw
set_option linter.unusedVariables false
namespace Mw
open Go Mv
open Go.Conc.Lib (WgLink WgLib)
def callG (P : Program) (inl : FuncId → Bool) (hk : Hook) (exW : Run_) (dry : Dry) (ex : Run_) (call : Call_) : Call_ := fun f args cm hp nk Γ k => match Nat.beq f hk.go, Nat.beq f hk.L.wait, cm with
  | true, _, none => goF P hk ex exW dry args hp nk Γ k
  | false, true, none => waitF hk args hp nk Γ k
  | false, false, cm => runF P inl ex call f args cm hp nk Γ k
  | _, _, _ => .bad
section
variable {P : Program} {N : Nat} {w0 : Option World}
theorem callG_sound {hk : Hook} {inl : FuncId → Bool} {ex exW : Run_} {dry : Dry} {call : Call_} (H : WgLib P hk.L) (Gl : GoLib P hk) (Gf : GoFn P hk) (hexW : ∀ K, SoundEx P (Mx.Hand P K) exW) (hex : SoundEx P (Co.team P N w0) ex) (hcall : SoundCall P (Co.team P N w0) call) :
    SoundCall P (Co.team P N w0) (callG P inl hk exW dry ex call) := by
  constructor
  · intro D E f args hp nk Γ k ρ F S Post hv hΓ hnk hargs hs hpost h
    unfold callG at h
    split at h
    · rename_i hf _
      obtain rfl := Nat.eq_of_beq_eq_true hf
      exact goF_sound H Gl Gf hex hexW hv hΓ hnk hargs hs hpost h
    · rename_i hf _
      obtain rfl := Nat.eq_of_beq_eq_true hf
      exact waitF_sound H hΓ hnk hs hpost h
    · exact (runF_sound hex hcall).plain D E f args hp nk Γ k ρ F S Post hv hΓ hnk hargs hs hpost h
    · exact h.elim
  · intro D E f args m hp nk Γ k ρ F S Post hv hΓ hnk hargs hm hs hpost h
    unfold callG at h
    split at h
    · rename_i e
      cases e
    · rename_i e
      cases e
    · exact (runF_sound hex hcall).dfr D E f args m hp nk Γ k ρ F S Post hv hΓ hnk hargs hm hs hpost h
    · exact h.elim
end
end Mw
set_option linter.unusedVariables false
namespace Mv
open Go
open Go.Conc (crowd Leavers Past QuitsD Deaf EvL AtRel)
def AtC (c : Nat) (op : MemOp) : Prop := op.g = 0 ∧ ((∃ e, op.act = .ofEvent e ∧ e.loc = .obj c) ∨ op.act = .recvClosed c ∨ (∃ k cap, op.act = .recv c k cap) ∨ ∃ k, op.act = .recvDone c k)
theorem AtC.touch {c : Nat} {op : MemOp} (h : AtC c op) {b : Touch} (hb : op.act.touch? = some b) : b.loc = .obj c := by
  obtain ⟨_, ⟨e, he, hl⟩ | he | ⟨_, _, he⟩ | ⟨_, he⟩⟩ := h
  · obtain ⟨loc, wr, sy⟩ := e
    simp only at hl; subst hl
    rw [he] at hb
    cases wr <;> cases sy <;> simp [MemAct.ofEvent, MemAct.touch?] at hb <;> rw [← hb]
  all_goals (rw [he] at hb; simp [MemAct.touch?] at hb)
theorem AtC.low {c M : Nat} {op : MemOp} (h : AtC c op) (hc : c < M) : op.act.low M := by
  obtain ⟨_, ⟨e, he, hl⟩ | he | ⟨_, _, he⟩ | ⟨_, he⟩⟩ := h
  · obtain ⟨loc, wr, sy⟩ := e
    simp only at hl; subst hl
    rw [he]
    cases wr <;> cases sy <;> exact hc
  all_goals (rw [he]; exact hc)
theorem AtC.unmarked {c : Nat} {op : MemOp} (h : AtC c op) (m : Mark) : op.act ≠ .mark m := by
  obtain ⟨_, ⟨e, he, hl⟩ | he | ⟨_, _, he⟩ | ⟨_, he⟩⟩ := h
  · obtain ⟨loc, wr, sy⟩ := e
    simp only at hl; subst hl
    rw [he]
    cases wr <;> cases sy <;> simp [MemAct.ofEvent]
  all_goals (rw [he]; simp)
section
variable {P : Program} {N : Nat} {w0 : Option World}
theorem lone_any {g g' : Goroutine} {S S' : Own} {c : Nat} (hs : g.status = .running) (hc : (S.full c).isSome) (hgh : S.gh = .none)
    (h : ∀ w, S.In w → ∃ w' u, Mid S w S' w' ∧ (∀ op ∈ u, AtC c op) ∧ ∀ gs sl, gs[0]? = some g → (∀ j x, 0 < j → gs[j]? = some x → x.status = .running ∨ x.status = .finished) →
      ∃ gs', runT P (crowd gs w sl) 0 = (.next (crowd gs' w' sl), u) ∧ gs'.size = gs.size ∧ gs'[0]? = some g' ∧ ∀ j, 0 < j → gs'[j]? = gs[j]?) :
    ReachT P N w0 g S (fun g2 S2 => g2 = g' ∧ S2 = S') := by
  intro gs w sl t hst
  rcases hst with ⟨Shun, B, q, hst⟩ | ⟨K, base, D, I, eg, eS, hb⟩
  · obtain ⟨n, gs1, d, sl1, t1, q1, hr, r1, r2, r3, r3', d', sl', r4⟩ := turn hs (Go.ConcN.sumTo gs.size q) gs w sl t q Shun B (Nat.le_refl _) hst.st.h0 hst.st.lv hst.st.past hst.st.norel
    have hin : S.In (w.at d') := In.at hst.st.inn d'
    obtain ⟨w', u, hmid, hu, hrun⟩ := h (w.at d') hin
    obtain ⟨gs', hr', hsz, h0', hoth⟩ := hrun gs1 sl' r1 fun j x hj hx => (r2.old j x hj hx).status
    have hmid0 : Mid S w S' w' := ⟨hmid.inn, hmid.size, hmid.kept, hmid.dom, hmid.rod, hmid.ghd, hmid.qz, hmid.tape, hmid.os, hmid.output⟩
    have hszw : w.heap.size ≤ w'.heap.size := hmid.size
    have hcw : c < w.heap.size := by
      obtain ⟨o, ho⟩ := Option.isSome_iff_exists.1 hc
      exact (Array.getElem?_eq_some_iff.1 (hst.st.inn.full c o ho)).1
    have hne : ∀ b, b < w.heap.size → S.full b = none → S'.full b = none := fun b hb hn => by
      cases hf : S'.full b with
      | none => rfl
      | some o =>
        rcases hmid.dom b (by simp [hf]) with h2 | h2
        · simp [hn] at h2
        · exact absurd hb (Nat.not_lt.2 h2)
    have hstand : Stand P g' S' gs' w' (t1 ++ u) Shun w'.heap.size q1 := by
      refine ⟨h0', ⟨fun j x hj hx => ?_, fun j hj => ?_⟩, ?_, hmid.inn, fun a ha => ?_, fun r hr' => ?_, Nat.le_refl _, r3'.app fun op hop a => (hu op hop).unmarked _⟩
      · rw [Go.Conc.Deaf_other t1 (by omega) u (fun op hop => (hu op hop).1)]
        rw [hoth j hj] at hx
        exact r2.old j x hj hx
      · rw [hsz] at hj
        have h0 : 0 < gs1.size := (Array.getElem?_eq_some_iff.1 r1).1
        rw [Go.Conc.Deaf_other t1 (g' := 0) (by omega) u (fun op hop => (hu op hop).1)]
        exact r2.above j hj
      · refine (r3.mono (Nat.le_trans hst.st.low hszw)).app0 (fun op hop => (hu op hop).1) (fun op hop b hb hsh => ?_) ?_ fun op hop => (hu op hop).low (Nat.lt_of_lt_of_le hcw hszw)
        · rw [(hu op hop).touch hb] at hsh
          have := (hst.st.obj c hsh).2.1
          rw [this] at hc; cases hc
        · exact deaf_still (fun op hop => ⟨(hu op hop).unmarked _, (hu op hop).unmarked _⟩) _ (by simp)
      · obtain ⟨a1, a2, a3⟩ := hst.st.cell a ha
        exact ⟨Nat.lt_of_lt_of_le a1 hszw, hne _ a1 a2, by rw [hmid.rod]; exact a3⟩
      · obtain ⟨a1, a2, a3⟩ := hst.st.obj r hr'
        exact ⟨Nat.lt_of_lt_of_le a1 hszw, hne _ a1 a2, by rw [hmid.rod]; exact a3⟩
    refine ⟨n + 1, gs', w', sl', t1 ++ u, g', S', ?_, ⟨rfl, rfl⟩, .inl ⟨Shun, _, q1, hstand, hmid0.ghd.trans hst.gh, fun b hb => (hmid0.dom b hb).elim (hst.low b) (Nat.le_trans hst.far.1), hst.slow, hst.far.mid hmid0 hst.low⟩⟩
    rw [runNT_app (m' := crowd gs1 (w.at d) sl1) (t' := t1) (by rw [hr]; rfl)]
    simp only [runNT, r4, hr']
  · have := I.gh0
    rw [eS, hgh] at this
    cases this
theorem close_run {a : St} {o : Oper} {x : Operand} {ats : Array TypeId} {c cap s r : Nat} {buf : Array Value} {tm : Bool} {w : World} (hop : o.op = .call { callee := .builtin .close, args := #[x], argTypes := ats }) (hx : a.eval x = .chan (some c))
    (hc : w.heap[c]? = some (.chan cap buf false s r tm)) : (execOp a.eval o).runT P w #[] = (.ok (.value (.tuple #[])) { w with heap := w.heap.setIfInBounds c (.chan cap buf true s r tm) }, #[⟨.obj c, false, true⟩, ⟨.obj c, true, true⟩]) := by
  have e : execOp a.eval o = Sem.bind (Builtin.close_ ats o.type #[.chan (some c)]) (fun v => pure (.value v)) := by
    simp only [execOp, hop, resolve]
    simp [hx, invoke, Go.builtin]
    rfl
  rw [e]
  show Sem.runT P (Sem.getObj c _) w #[] = _
  simp only [Sem.runT, hc]
  show Sem.runT P (Sem.setObj c (.chan cap buf true s r tm) _) w _ = _
  simp only [Sem.runT, hc]
  rfl
variable {a : St} {b : Frame} {k : List Item} {cs : List Frame} {ops : Array Oper} {i : Nat} {rest : List Nat} {o : Oper} {Stop : Goroutine → Own → Prop} {S : Own} {c cap s r : Nat} {tm : Bool}
theorem goes_close {x : Operand} {ats : Array TypeId} {buf : Array Value} (ho : ops[i]? = some o) (hw : Region.wanted o (yielded ops a.tmps) = true) (hp : plainOp b.roundOf o = true) (hop : o.op = .call { callee := .builtin .close, args := #[x], argTypes := ats }) (hx : a.eval x = .chan (some c))
    (hS : S.full c = some (.chan cap buf false s r tm)) (hgh : S.gh = .none) (hnext : Goes P (Co.team P N w0) Stop (G (fr b (a.put o.dst (.tuple #[])) (.inRegion ops rest :: k)) cs) (S.set c (.chan cap buf true s r tm))) :
    Goes P (Co.team P N w0) Stop (G (fr b a (.inRegion ops (i :: rest) :: k)) cs) S := by
  refine .big _ ⟨rfl, lone_any (c := c) (g' := G (fr b (a.put o.dst (.tuple #[])) (.inRegion ops rest :: k)) cs) (S' := S.set c (.chan cap buf true s r tm)) rfl (by rw [hS]; rfl) hgh fun w hin => ?_⟩ (by rintro g2 S2 ⟨rfl, rfl⟩; exact hnext)
  have hc := hin.full c _ hS
  have hrun := close_run (P := P) hop hx hc
  have hrun1 : (execOp a.eval o).run P w = .ok (.value (.tuple #[])) { w with heap := w.heap.setIfInBounds c (.chan cap buf true s r tm) } := by have := congrArg Prod.fst hrun; simpa using this
  have hrun2 : (execOp a.eval o).events P w #[] = #[⟨.obj c, false, true⟩, ⟨.obj c, true, true⟩] := by have := congrArg Prod.snd hrun; simpa using this
  have hlt : c < w.heap.size := (Array.getElem?_eq_some_iff.1 hc).1
  have hgo : stepG P (0 == 0) (G (fr b a (.inRegion ops (i :: rest) :: k)) cs) w = .go (G (fr b (a.put o.dst (.tuple #[])) (.inRegion ops rest :: k)) cs) { w with heap := w.heap.setIfInBounds c (.chan cap buf true s r tm) } (seen P b.fn (if b.kind == .early then #[] else #[⟨.obj c, false, true⟩, ⟨.obj c, true, true⟩])) := by
    rw [stepG_oper ho hw hp]
    have hfin := fun v => finish_fr b a ops i rest k v
    have hfn : (fr b a (.inRegion ops (i :: rest) :: k)).fn = b.fn := rfl
    have hkd : (fr b a (.inRegion ops (i :: rest) :: k)).kind = b.kind := rfl
    simp [stepG.apply, hrun1, hrun2, GStep.after, G, hfin, ho, hfn, hkd]
  refine ⟨{ w with heap := w.heap.setIfInBounds c (.chan cap buf true s r tm) }, _, (Mid.refl hin).set (by rw [hS]; rfl) (by simp) (fun y => ?_) rfl rfl rfl, ?_, fun gs sl h0 hst => ⟨_, Go.Conc.runT_crowd_go h0 hgo, by simp, ?_, fun j hj => ?_⟩⟩
  · rw [Array.getElem?_setIfInBounds]
    by_cases e : y = c
    · subst e; simp [hlt]
    · simp [e, Ne.symm e]
  · intro op hop'
    obtain ⟨e, he, rfl⟩ := Go.Conc.mem_ofEvents hop'
    have he := mem_seen he
    refine ⟨rfl, .inl ⟨e, rfl, ?_⟩⟩
    split at he
    · simp at he
    · simp at he; rcases he with rfl | rfl <;> rfl
  · have : 0 < gs.size := (Array.getElem?_eq_some_iff.1 h0).1
    simp [this]
  · rw [Array.getElem?_setIfInBounds_ne (by omega), Array.getElem?_map]
    cases hx' : gs[j]? with
    | none => rfl
    | some y =>
      simp only [Option.map_some]
      congr 1
      unfold Go.Conc.woken
      split
      · exact Go.Conc.again_running _ (hst j y hj hx')
      · rfl
theorem goes_recvClosed {z : Value} (ho : ops[i]? = some o) (hw : Region.wanted o (yielded ops a.tmps) = true) (hp : plainOp b.roundOf o = true) (hrun : ∀ w, (execOp a.eval o).runT P w #[] = (.ok (.comm #[Go.Conc.rcase c z] true (.recv true)) w, #[]))
    (hS : S.full c = some (.chan cap #[] true s r tm)) (hgh : S.gh = .none) (hnext : Goes P (Co.team P N w0) Stop (G (fr b (a.put o.dst (.tuple #[z, .bool false])) (.inRegion ops rest :: k)) cs) S) :
    Goes P (Co.team P N w0) Stop (G (fr b a (.inRegion ops (i :: rest) :: k)) cs) S := by
  refine .big _ ⟨rfl, lone_any (c := c) (g' := G (fr b (a.put o.dst (.tuple #[z, .bool false])) (.inRegion ops rest :: k)) cs) (S' := S) rfl (by rw [hS]; rfl) hgh fun w hin => ?_⟩ (by rintro g2 S2 ⟨rfl, rfl⟩; exact hnext)
  have hc := hin.full c _ hS
  have hrun1 : (execOp a.eval o).run P w = .ok (.comm #[Go.Conc.rcase c z] true (.recv true)) w := by have := congrArg Prod.fst (hrun w); simpa using this
  have hrun2 : (execOp a.eval o).events P w #[] = #[] := by have := congrArg Prod.snd (hrun w); simpa using this
  have hgo : stepG P (0 == 0) (G (fr b a (.inRegion ops (i :: rest) :: k)) cs) w = .comm (G (fr b a (.inRegion ops (i :: rest) :: k)) cs) #[Go.Conc.rcase c z] true (.recv true) w #[] := by
    rw [stepG_oper ho hw hp]
    have hfn : (fr b a (.inRegion ops (i :: rest) :: k)).fn = b.fn := rfl
    have hkd : (fr b a (.inRegion ops (i :: rest) :: k)).kind = b.kind := rfl
    simp [stepG.apply, hrun1, hrun2, GStep.after, G, hfn, hkd, Go.Conc.seen_none]
  have hfin := finish_fr b a ops i rest k (.tuple #[z, .bool false])
  have hg' : (G (fr b a (.inRegion ops (i :: rest) :: k)) cs).finishComm P #[Go.Conc.rcase c z] (.recv true) 0 z false = G (fr b (a.put o.dst (.tuple #[z, .bool false])) (.inRegion ops rest :: k)) cs := by
    rw [ho] at hfin
    simp only [Goroutine.finishComm, commResult, G]
    rw [hfin]
    rfl
  refine ⟨w, _, Mid.refl hin, ?_, fun gs sl h0 hst => ⟨_, Go.Conc.crowd_recv_closed h0 hgo hc (Go.Conc.partners_nil fun j x hx => ?_), by simp, ?_, fun j hj => ?_⟩⟩
  · intro op hop'
    simp [MemOp.ofEvents] at hop'
    subst hop'
    exact ⟨rfl, .inr (.inl rfl)⟩
  · rcases Nat.eq_zero_or_pos j with rfl | hj
    · rcases Go.Conc.getElem?_stand gs 0 0 x hx with ⟨_, rfl⟩ | ⟨h, _⟩
      · rfl
      · exact absurd rfl h
    · rw [Array.getElem?_setIfInBounds_ne (by omega)] at hx
      rcases hst j x hj hx with h | h <;> simp [Go.Conc.offersAt, h]
  · have : 0 < gs.size := (Array.getElem?_eq_some_iff.1 h0).1
    rw [hg']
    simp [this]
  · rw [Array.getElem?_setIfInBounds_ne (by omega)]
end
end Mv
set_option linter.unusedVariables false
namespace Mv
open Go
open Go.Conc (crowd Leavers Past QuitsD Deaf EvL AtRel)
section
variable {P : Program} {N : Nat} {w0 : Option World}
variable {a : St} {b : Frame} {k : List Item} {cs : List Frame} {ops : Array Oper} {i : Nat} {rest : List Nat} {o : Oper} {Stop : Goroutine → Own → Prop} {S : Own} {c cap s r : Nat} {tm closed : Bool}
theorem goes_recvBuf {z v : Value} {buf : Array Value} (ho : ops[i]? = some o) (hw : Region.wanted o (yielded ops a.tmps) = true) (hp : plainOp b.roundOf o = true) (hrun : ∀ w, (execOp a.eval o).runT P w #[] = (.ok (.comm #[Go.Conc.rcase c z] true (.recv true)) w, #[]))
    (hS : S.full c = some (.chan cap buf closed s r tm)) (hbuf : 0 < buf.size) (hv : buf.getD 0 undef = v) (hgh : S.gh = .none) (hnext : Goes P (Co.team P N w0) Stop (G (fr b (a.put o.dst (.tuple #[v, .bool true])) (.inRegion ops rest :: k)) cs) (S.set c (.chan cap (buf.extract 1 buf.size) closed s (r + 1) tm))) :
    Goes P (Co.team P N w0) Stop (G (fr b a (.inRegion ops (i :: rest) :: k)) cs) S := by
  refine .big _ ⟨rfl, lone_any (c := c) (g' := G (fr b (a.put o.dst (.tuple #[v, .bool true])) (.inRegion ops rest :: k)) cs) (S' := S.set c (.chan cap (buf.extract 1 buf.size) closed s (r + 1) tm)) rfl (by rw [hS]; rfl) hgh fun w hin => ?_⟩ (by rintro g2 S2 ⟨rfl, rfl⟩; exact hnext)
  have hc := hin.full c _ hS
  have hlt : c < w.heap.size := (Array.getElem?_eq_some_iff.1 hc).1
  have hrun1 : (execOp a.eval o).run P w = .ok (.comm #[Go.Conc.rcase c z] true (.recv true)) w := by have := congrArg Prod.fst (hrun w); simpa using this
  have hrun2 : (execOp a.eval o).events P w #[] = #[] := by have := congrArg Prod.snd (hrun w); simpa using this
  have hgo : stepG P (0 == 0) (G (fr b a (.inRegion ops (i :: rest) :: k)) cs) w = .comm (G (fr b a (.inRegion ops (i :: rest) :: k)) cs) #[Go.Conc.rcase c z] true (.recv true) w #[] := by
    rw [stepG_oper ho hw hp]
    have hfn : (fr b a (.inRegion ops (i :: rest) :: k)).fn = b.fn := rfl
    have hkd : (fr b a (.inRegion ops (i :: rest) :: k)).kind = b.kind := rfl
    simp [stepG.apply, hrun1, hrun2, GStep.after, G, hfn, hkd, Go.Conc.seen_none]
  have hfin := finish_fr b a ops i rest k (.tuple #[v, .bool true])
  have hg' : (G (fr b a (.inRegion ops (i :: rest) :: k)) cs).finishComm P #[Go.Conc.rcase c z] (.recv true) 0 v true = G (fr b (a.put o.dst (.tuple #[v, .bool true])) (.inRegion ops rest :: k)) cs := by
    rw [ho] at hfin
    simp only [Goroutine.finishComm, commResult, G]
    rw [hfin]
    rfl
  refine ⟨w.setChan c cap (buf.extract 1 buf.size) closed s (r + 1) tm, _, (Mid.refl hin).set (by rw [hS]; rfl) (by simp [World.setChan]) (fun y => ?_) rfl rfl rfl, ?_, fun gs sl h0 hst => ⟨_, Go.Conc.crowd_recv_buf h0 hgo hc hbuf (Go.Conc.partners_nil fun j x hx => ?_), by simp, ?_, fun j hj => ?_⟩⟩
  · unfold World.setChan
    rw [Array.getElem?_setIfInBounds]
    by_cases e : y = c
    · subst e; simp [hlt]
    · simp [e, Ne.symm e]
  · intro op hop'
    simp [MemOp.ofEvents] at hop'
    rcases hop' with rfl | rfl
    · exact ⟨rfl, .inr (.inr (.inl ⟨_, _, rfl⟩))⟩
    · exact ⟨rfl, .inr (.inr (.inr ⟨_, rfl⟩))⟩
  · rcases Nat.eq_zero_or_pos j with rfl | hj
    · rcases Go.Conc.getElem?_stand gs 0 0 x hx with ⟨_, rfl⟩ | ⟨h, _⟩
      · rfl
      · exact absurd rfl h
    · rw [Array.getElem?_setIfInBounds_ne (by omega)] at hx
      rcases hst j x hj hx with h | h <;> simp [Go.Conc.offersAt, h]
  · have : 0 < gs.size := (Array.getElem?_eq_some_iff.1 h0).1
    rw [hv, hg']
    simp [this]
  · rw [Array.getElem?_setIfInBounds_ne (by omega)]
end
end Mv
set_option linter.unusedVariables false
namespace Mw
open Go Mv
abbrev Hk_ := Run_ → Cx → Facts → List Item → Array Oper → List Nat → Oper → List Item → SS → Nat → Kont → Option Tree
structure HkOk (P : Program) (main : Co) (hk : Hk_) : Prop where
  good : ∀ (D : Env → SEx → SS → Prop) (E : Env → List Item → SS → Prop) (ex : Run_) (C : Cx) (Γ : Facts) (items items' tail : List Item) (ops : Array Oper) (i : Nat) (rest rest' : List Nat) (o : Oper) (σ : SS) (k : Kont) (ρ : Env) (Q : Ex → St → Own → Prop) (F : Own) (r : Ctx) (t : Tree),
    CtxOk C r ρ → vals ρ → Γ.On ρ → KOk D E C.size F ρ k Q → ops[i]? = some o → hk ex C Γ items ops rest o items' σ ρ.k.length k = some t → holds D E ρ t → ∀ {a : St} {S : Own}, Fit C.size F ρ σ a S → Region.wanted o (yielded ops a.tmps) = true →
    (∀ {t : Tree}, t = stuck_ C items σ → holds D E ρ t → wpI P main r (.inRegion ops (i :: rest') :: tail) Q a S) →
    (∀ ρ' Γ' σ' a' S', Ext ρ ρ' → vals ρ' → Γ'.On ρ' → Fit C.size F ρ' σ' a' S' → (∃ v, a'.tmps = (a.put o.dst v).tmps) → holds D E ρ' (ex C Γ' (.inRegion ops rest :: items') σ' ρ'.k.length k) → wpI P main r (.inRegion ops rest' :: tail) Q a' S') → wpI P main r (.inRegion ops (i :: rest') :: tail) Q a S
  alloc : ∀ ex C Γ items ops rest o tail σ nk k t, o.op = .alloc t → hk ex C Γ items ops rest o tail σ nk k = none
def hOr (h1 h2 : Hk_) : Hk_ := fun ex C Γ items ops rest o tail σ nk k => match h1 ex C Γ items ops rest o tail σ nk k with
  | some t => some t
  | none => h2 ex C Γ items ops rest o tail σ nk k
theorem hOr_ok {P : Program} {main : Co} {h1 h2 : Hk_} (k1 : HkOk P main h1) (k2 : HkOk P main h2) : HkOk P main (hOr h1 h2) where
  good D E ex C Γ items items' tail ops i rest rest' o σ k ρ Q F r t hr hv hΓ hK ho h hh := by
    unfold hOr at h
    split at h
    · rename_i t' h1'
      simp only [Option.some.injEq] at h; subst h
      exact fun hf hw hst hn => k1.good D E ex C Γ items items' tail ops i rest rest' o σ k ρ Q F r _ hr hv hΓ hK ho h1' hh hf hw hst hn
    · exact fun hf hw hst hn => k2.good D E ex C Γ items items' tail ops i rest rest' o σ k ρ Q F r _ hr hv hΓ hK ho h hh hf hw hst hn
  alloc ex C Γ items ops rest o tail σ nk k t ho := by
    simp only [hOr, k1.alloc ex C Γ items ops rest o tail σ nk k t ho, k2.alloc ex C Γ items ops rest o tail σ nk k t ho]
def opH (P : Program) (inl : FuncId → Bool) (hk : Hk_) : Opx := fun ex call rnd C Γ items ops rest o tail σ nk k => match hk ex C Γ items ops rest o tail σ nk k with
  | some t => t
  | none => stepOp P inl ex call rnd C Γ items ops rest o tail σ nk k
theorem opH_ok {P : Program} {main : Co} {inl : FuncId → Bool} {hk : Hk_} (h : HkOk P main hk) : OpxOk P main (opH P inl hk) where
  good D E ex call rnd hrnd hcall C Γ items items' tail ops i rest rest' o σ k ρ Q F r hr hv hΓ hK ho hh := by
    intro a S hf hw hst hn
    unfold opH at hh
    split at hh
    · rename_i t ht
      exact h.good D E ex C Γ items items' tail ops i rest rest' o σ k ρ Q F r _ hr hv hΓ hK ho ht hh hf hw hst hn
    · exact stepOp_good hrnd hcall hr hv hΓ hK ho hh hf hw hst hn
  alloc := ⟨inl, fun ex call rnd C Γ items ops rest o tail σ nk k t ho => by simp only [opH, h.alloc ex C Γ items ops rest o tail σ nk k t ho]⟩
def stepH (P : Program) (inl : FuncId → Bool) (hk : Hk_) (ex : Run_) (call : Call_) (other : Run_) : Run_ := fun C Γ items σ nk k => match items with
  | .inRegion ops (i :: rest) :: tail => match ops[i]? with
    | some o => match symWanted σ.sl ops o with
      | some (.inl true) => match hk ex C Γ items ops rest o tail σ nk k with
        | some t => t
        | none => other C Γ items σ nk k
      | _ => other C Γ items σ nk k
    | none => other C Γ items σ nk k
  | .code (.region _ ops true) :: tail => openX P ops (opH P inl hk) ex call C Γ items tail σ nk k
  | _ => other C Γ items σ nk k
theorem stepH_sound {P : Program} {main : Co} {inl : FuncId → Bool} {hk : Hk_} {ex other : Run_} {call : Call_} (h : HkOk P main hk) (hex : SoundEx P main ex) (hcall : SoundCall P main call) (hother : SoundEx P main other) : SoundEx P main (stepH P inl hk ex call other) := by
  intro D E C r Γ items σ nk k ρ Q F hr hv hΓ hnk hK hE hh a S hf
  have old : holds D E ρ (other C Γ items σ nk k) → wpI P main r items Q a S := fun h => hother D E C r Γ items σ nk k ρ Q F hr hv hΓ hnk hK hE h a S hf
  subst hnk
  unfold stepH at hh
  split at hh
  · rename_i ops i rest tail
    split at hh
    · rename_i o ho
      split at hh
      · rename_i hg
        split at hh
        · rename_i t ht
          exact h.good D E ex C Γ _ tail tail ops i rest rest o σ k ρ Q F r t hr hv hΓ hK ho ht hh hf (symWanted_inl hf.sl hg) (fun e h => by subst e; exact stuck_ok hE h hf)
            fun ρ' Γ' σ' a' S' he hv' hΓ' hf' _ hh => hex D E C r Γ' _ σ' _ k ρ' Q F (hr.later he) hv' hΓ' rfl (hK.later he) (hE.later he) hh a' S' hf'
        · exact old hh
      · exact old hh
    · exact old hh
  · exact openX_sound (opH_ok h) hex hcall hr hv hΓ hK hE hh hf
  · exact old hh
abbrev Xop := Hp → (Operand → Option SC) → Op → Option Eff
def XopOk (P : Program) (xop : Xop) : Prop := ∀ {ρ : Env} {hp : Hp} {F S0 S : Own} {ev : Operand → Option SC} {ev' : Operand → Value} {o : Oper} {e : Eff} [Loud S0], vals ρ → Sat ρ hp F S → EvOk ρ ev ev' → xop hp ev o.op = some e → EffGood P ρ hp S0 S (execOp ev' o) e
def isCall : Op → Bool
  | .call _ => true
  | .load _ _ => true
  | _ => false
def hExt (xop : Xop) : Hk_ := fun ex C Γ items ops rest o tail σ nk k => match isCall o.op, xop σ.hp (evC σ.sl) o.op with
  | true, some eff => match o.dst.all (· < C.size) with
    | true => some (applyEff Γ o.dst σ nk (fun σ nk => ex C Γ (.inRegion ops rest :: tail) σ nk k) eff)
    | false => none
  | _, _ => none
theorem hExt_ok {P : Program} {main : Co} {xop : Xop} (h : XopOk P xop) : HkOk P main (hExt xop) where
  good D E ex C Γ items items' tail ops i rest rest' o σ k ρ Q F r t hr hv hΓ hK ho ht hh := by
    intro a S hf hw hst hn
    unfold hExt at ht
    split at ht
    · rename_i eff hcall heff
      split at ht
      · rename_i hd
        simp only [Option.some.injEq] at ht
        subst ht
        have hpl : plainOp r.round o = true := by
          unfold plainOp
          cases hop : o.op <;> simp
          rw [hop] at hcall; cases hcall
        refine wpI_op ho hw hpl ?_
        haveI := hf.hp.loud
        have hg := h (S0 := S) hv hf.hp (evC_ok hf.sl) heff
        exact Run.mono (applyEff_sound (next := fun a' S' => (∃ v, a'.tmps = (a.put o.dst v).tmps) → wpI P main r (.inRegion ops rest' :: tail) Q a' S') hΓ hg hf hd hh fun ρ' σ' a' S' he hΓ' hf' hh hx => hn ρ' Γ σ' a' S' he (vals_ext he hv) hΓ' hf' hx hh) fun e S' h => upon_tmps h
      · cases ht
    · cases ht
  alloc ex C Γ items ops rest o tail σ nk k t ho := by simp only [hExt, ho, isCall]
end Mw
set_option linter.unusedVariables false
namespace Mw
open Go Mv
open Go.Conc.Lib (WgLink WgLib)
def closeS (ex : Run_) (C : Cx) (Γ : Facts) (items : List Item) (ops : Array Oper) (rest : List Nat) (o : Oper) (x : Operand) (tail : List Item) (σ : SS) (nk : Nat) (k : Kont) : Tree := match o.dst, evC σ.sl x, σ.hp.gh with
  | none, some (.chn i), .none => match σ.hp.rw.look i with
    | some (.chan cap l false ns nr tm) => ex C Γ (.inRegion ops rest :: tail) (σ.withHp (σ.hp.setB i (.chan cap l true ns nr tm))) nk k
    | _ => stuck_ C items σ
  | _, _, _ => stuck_ C items σ
def recvS (P : Program) (ex : Run_) (C : Cx) (Γ : Facts) (items : List Item) (ops : Array Oper) (rest : List Nat) (o : Oper) (t : TypeId) (x : Operand) (tail : List Item) (σ : SS) (nk : Nat) (k : Kont) : Tree := match o.dst.all (· < C.size), evC σ.sl x, σ.hp.gh, P.underlying t with
  | true, some (.chn i), .none, some (.chan _ elem) => match σ.hp.rw.look i, P.info? elem with
    | some (.chan cap [] true ns nr tm), some inf => match inf.zero with
      | some z => ex C Γ (.inRegion ops rest :: tail) (σ.withSl (putD σ.sl o.dst (.tup [ofVal z, .bool (.lit false)]))) nk k
      | none => stuck_ C items σ
    | some (.chan cap (v :: l) closed ns nr tm), some inf => match inf.zero with
      | some _ => .new (ex C Γ (.inRegion ops rest :: tail) ((σ.withHp (σ.hp.setB i (.chan cap l closed ns (.room nk 1) tm))).withSl (putD σ.sl o.dst (.tup [v, .bool (.lit true)]))) (nk + 1) k)
      | none => stuck_ C items σ
    | _, _ => stuck_ C items σ
  | _, _, _, _ => stuck_ C items σ
def hClose : Hk_ := fun ex C Γ items ops rest o tail σ nk k => match o.op with
  | .call c => match c.callee, c.args.toList with
    | .builtin .close, [x] => some (closeS ex C Γ items ops rest o x tail σ nk k)
    | _, _ => none
  | _ => none
def hRecv (P : Program) : Hk_ := fun ex C Γ items ops rest o tail σ nk k => match o.op with
  | .recv t x true => some (recvS P ex C Γ items ops rest o t x tail σ nk k)
  | _ => none
section
variable {P : Program} {N : Nat} {w0 : Option World} {D : Env → SEx → SS → Prop} {E : Env → List Item → SS → Prop} {ex : Run_}
theorem closeS_good {C : Cx} {Γ : Facts} {items items' tail : List Item} {ops : Array Oper} {i : Nat} {rest rest' : List Nat} {o : Oper} {x : Operand} {ats : Array TypeId} {σ : SS} {k : Kont} {ρ : Env} {Q : Ex → St → Own → Prop} {F : Own}
    {r : Ctx} (hv : vals ρ) (hΓ : Γ.On ρ) (ho : ops[i]? = some o) (hop : o.op = .call { callee := .builtin .close, args := #[x], argTypes := ats })
    (h : holds D E ρ (closeS ex C Γ items ops rest o x items' σ ρ.k.length k)) {a : St} {S : Own} (hf : Fit C.size F ρ σ a S) (hw : Region.wanted o (yielded ops a.tmps) = true) (hst : ∀ {t : Tree}, t = stuck_ C items σ → holds D E ρ t → wpI P (Co.team P N w0) r (.inRegion ops (i :: rest') :: tail) Q a S)
    (hnext : ∀ ρ' Γ' σ' a' S', Ext ρ ρ' → vals ρ' → Γ'.On ρ' → Fit C.size F ρ' σ' a' S' → (∃ v, a'.tmps = (a.put o.dst v).tmps) → holds D E ρ' (ex C Γ' (.inRegion ops rest :: items') σ' ρ'.k.length k) → wpI P (Co.team P N w0) r (.inRegion ops rest' :: tail) Q a' S') : wpI P (Co.team P N w0) r (.inRegion ops (i :: rest') :: tail) Q a S := by
  unfold closeS at h
  split at h
  · rename_i j hdst hx hgh
    split at h
    · rename_i cap l ns nr tm hl
      intro Stop b k' cs hb hc
      obtain ⟨h1, h2, h3⟩ := hf.hp.has _ _ hl
      have hx' := (evC_ok hf.sl _ _ hx).2
      have hS : S.full (ρ.blk j) = some (.chan cap (l.map (SC.den ρ)).toArray false (ns.den ρ).toNat (nr.den ρ).toNat tm) := h3
      have hcl : cl r cs a.cm = cl r cs (a.put o.dst (.tuple #[])).cm := by rw [St.put_cm]
      refine goes_close ho hw (by rw [hb.1]; unfold plainOp; rw [hop]; simp) hop hx' hS (by rw [hf.hp.gh, hgh]; rfl) ?_
      have hf2 : Fit C.size F ρ (σ.withHp (σ.hp.setB j (.chan cap l true ns nr tm))) (a.put o.dst (.tuple #[])) (S.set (ρ.blk j) (.chan cap (l.map (SC.den ρ)).toArray true (ns.den ρ).toNat (nr.den ρ).toNat tm)) := by
        rw [hdst]
        have := hf.later (Ext.refl ρ) (hf.hp.put hl (o' := .chan cap l true ns nr tm) h2)
        exact this
      have := hnext ρ Γ _ _ _ (Ext.refl ρ) hv hΓ hf2 ⟨_, rfl⟩ h Stop b k' cs hb hc
      rw [← hcl] at this
      exact this
    · exact hst rfl h
  · exact hst rfl h
theorem recv_run {a : St} {o : Oper} {t elem : TypeId} {x : Operand} {c : Nat} {z : Value} {d : ChanDir} {inf : TypeInfo} (hop : o.op = .recv t x true) (hx' : a.eval x = .chan (some c)) (hu : P.underlying t = some (.chan d elem)) (hi : P.info? elem = some inf) (hz : inf.zero = some z) (w : World) :
    (execOp a.eval o).runT P w #[] = (.ok (.comm #[Go.Conc.rcase c z] true (.recv true)) w, #[]) := by
  obtain ⟨m, e⟩ : ∃ m : String, execOp a.eval o = (underlying t).bind fun y => (match y with
    | .chan _ elem => (zeroValue elem).bind fun z => Sem.pure (.comm #[{ chan := a.eval x, send := none, zero := z }] true (.recv true))
    | _ => stuck m) := by
    apply Exists.intro
    simp only [execOp, hop]
    rfl
  rw [e, hx']
  show Sem.runT P (((match P.underlying t with | some d => pure d | none => stuck "no such type" : Sem TypeDesc)).bind _) w #[] = _
  rw [hu]
  show Sem.runT P (((match P.info? elem with | some i => pure i | none => stuck "no such type" : Sem TypeInfo).bind fun i => match i.zero with | some v => pure v | none => unsupported (.resourceLimit _)).bind _) w #[] = _
  rw [hi]
  show Sem.runT P ((match inf.zero with | some v => pure v | none => unsupported (.resourceLimit _) : Sem Value).bind _) w #[] = _
  rw [hz]
  rfl
theorem recvS_good {C : Cx} {Γ : Facts} {items items' tail : List Item} {ops : Array Oper} {i : Nat} {rest rest' : List Nat} {o : Oper} {t : TypeId} {x : Operand} {σ : SS} {k : Kont} {ρ : Env} {Q : Ex → St → Own → Prop} {F : Own}
    {r : Ctx} (hv : vals ρ) (hΓ : Γ.On ρ) (ho : ops[i]? = some o) (hop : o.op = .recv t x true)
    (h : holds D E ρ (recvS P ex C Γ items ops rest o t x items' σ ρ.k.length k)) {a : St} {S : Own} (hf : Fit C.size F ρ σ a S) (hw : Region.wanted o (yielded ops a.tmps) = true) (hst : ∀ {t : Tree}, t = stuck_ C items σ → holds D E ρ t → wpI P (Co.team P N w0) r (.inRegion ops (i :: rest') :: tail) Q a S)
    (hnext : ∀ ρ' Γ' σ' a' S', Ext ρ ρ' → vals ρ' → Γ'.On ρ' → Fit C.size F ρ' σ' a' S' → (∃ v, a'.tmps = (a.put o.dst v).tmps) → holds D E ρ' (ex C Γ' (.inRegion ops rest :: items') σ' ρ'.k.length k) → wpI P (Co.team P N w0) r (.inRegion ops rest' :: tail) Q a' S') : wpI P (Co.team P N w0) r (.inRegion ops (i :: rest') :: tail) Q a S := by
  unfold recvS at h
  split at h
  · rename_i j d elem hd hx hgh hu
    split at h
    · rename_i cap ns nr tm inf hl hi
      split at h
      · rename_i z hz
        intro Stop b k' cs hb hc
        obtain ⟨h1, h2, h3⟩ := hf.hp.has _ _ hl
        have hx' := (evC_ok hf.sl _ _ hx).2
        have hS : S.full (ρ.blk j) = some (.chan cap #[] true (ns.den ρ).toNat (nr.den ρ).toNat tm) := h3
        have hcl : cl r cs a.cm = cl r cs (a.put o.dst (.tuple #[z, .bool false])).cm := by rw [St.put_cm]
        have hrun : ∀ w, (execOp a.eval o).runT P w #[] = (.ok (.comm #[Go.Conc.rcase (ρ.blk j) z] true (.recv true)) w, #[]) := recv_run hop hx' hu hi hz
        refine goes_recvClosed ho hw (by rw [hb.1]; unfold plainOp; rw [hop]; simp) hrun hS (by rw [hf.hp.gh, hgh]; rfl) ?_
        have hf2 := hf.put (v := .tup [ofVal z, .bool (.lit false)]) hd ⟨ok_ofVal _ z, trivial, trivial⟩
        have hden : (SC.tup [ofVal z, .bool (.lit false)]).den ρ = .tuple #[z, .bool false] := by simp [SC.den, dens, den_ofVal, BE.den]
        rw [hden] at hf2
        have := hnext ρ Γ _ _ _ (Ext.refl ρ) hv hΓ hf2 ⟨_, rfl⟩ h Stop b k' cs hb hc
        rw [← hcl] at this
        exact this
      · exact hst rfl h
    · rename_i cap v l closed ns nr tm inf hl hi
      split at h
      · rename_i z hz
        intro Stop b k' cs hb hc
        obtain ⟨h1, h2, h3⟩ := hf.hp.has _ _ hl
        have hx' := (evC_ok hf.sl _ _ hx).2
        have hS : S.full (ρ.blk j) = some (.chan cap ((v :: l).map (SC.den ρ)).toArray closed (ns.den ρ).toNat (nr.den ρ).toNat tm) := h3
        have hcl : cl r cs a.cm = cl r cs (a.put o.dst (.tuple #[v.den ρ, .bool true])).cm := by rw [St.put_cm]
        refine goes_recvBuf (v := v.den ρ) ho hw (by rw [hb.1]; unfold plainOp; rw [hop]; simp) (recv_run hop hx' hu hi hz) hS (by simp) (by simp) (by rw [hf.hp.gh, hgh]; rfl) ?_
        have h4 := h 0 (List.replicate ((nr.den ρ).toNat + 1) undef)
        have he : Ext ρ (ρ.grow 0 (List.replicate ((nr.den ρ).toNat + 1) undef)) := Ext.grow ρ 0 _
        have hok' : (SO.chan cap l closed ns (.room ρ.k.length 1) tm).ok (ρ.grow 0 (List.replicate ((nr.den ρ).toNat + 1) undef)).k.length := by
          have := SO.ok_mono he.len h2
          exact ⟨fun y hy => this.1 y (List.mem_cons_of_mem _ hy), this.2.1, by simp [IE.ok]⟩
        have s1 := (hf.hp.grow (b := 0) (r := List.replicate ((nr.den ρ).toNat + 1) undef)).put hl hok'
        have hden := SO.den_grow (ρ := ρ) (b := 0) (r := List.replicate ((nr.den ρ).toNat + 1) undef) (SO.chan cap (v :: l) closed ns nr tm) h2
        have hobj : (SO.chan cap l closed ns (.room ρ.k.length 1) tm).den (ρ.grow 0 (List.replicate ((nr.den ρ).toNat + 1) undef)) = .chan cap (((v :: l).map (SC.den ρ)).toArray.extract 1 ((v :: l).map (SC.den ρ)).toArray.size) closed (ns.den ρ).toNat ((nr.den ρ).toNat + 1) tm := by
          simp only [SO.den] at hden ⊢
          injection hden with _ e1 _ e2 _ _
          have e1 := congrArg Array.toList e1
          simp only [List.map_cons, List.cons.injEq] at e1
          rw [e1.2, e2]
          simp [IE.den]
          exact ⟨(List.take_of_length_le (by simp)).symm, by omega⟩
        rw [hobj, blk_grow _ _ _ h1] at s1
        have hvok := h2.1 v (List.mem_cons_self ..)
        have hf2 := (hf.later he s1).put (v := .tup [v, .bool (.lit true)]) hd ⟨SC.ok_mono he.len v hvok, trivial, trivial⟩
        have hden2 : (SC.tup [v, .bool (.lit true)]).den (ρ.grow 0 (List.replicate ((nr.den ρ).toNat + 1) undef)) = .tuple #[v.den ρ, .bool true] := by simp [SC.den, dens, BE.den, SC.den_grow v hvok]
        rw [hden2] at hf2
        have := hnext (ρ.grow 0 (List.replicate ((nr.den ρ).toNat + 1) undef)) Γ _ _ _ he (vals_ext he hv) (hΓ.grow _ _) hf2 ⟨_, rfl⟩ (by rw [len_grow]; exact h4) Stop b k' cs hb hc
        rw [← hcl] at this
        exact this
      · exact hst rfl h
    · exact hst rfl h
  · exact hst rfl h
theorem hClose_ok : HkOk P (Co.team P N w0) hClose where
  good D E ex C Γ items items' tail ops i rest rest' o σ k ρ Q F r t hr hv hΓ hK ho ht hh := by
    intro a S hf hw hst hn
    unfold hClose at ht
    split at ht
    · rename_i c hop
      split at ht
      · rename_i x hc hargs
        obtain ⟨callee, args, ats⟩ := c
        simp only at hc hargs
        subst hc
        obtain rfl : args = #[x] := by apply Array.ext'; exact hargs
        simp only [Option.some.injEq] at ht
        subst ht
        exact closeS_good hv hΓ ho hop hh hf hw hst hn
      · cases ht
    · cases ht
  alloc ex C Γ items ops rest o tail σ nk k t ho := by simp only [hClose, ho]
theorem hRecv_ok : HkOk P (Co.team P N w0) (hRecv P) where
  good D E ex C Γ items items' tail ops i rest rest' o σ k ρ Q F r t hr hv hΓ hK ho ht hh := by
    intro a S hf hw hst hn
    unfold hRecv at ht
    split at ht
    · rename_i ty x hop
      simp only [Option.some.injEq] at ht
      subst ht
      exact recvS_good hv hΓ ho hop hh hf hw hst hn
    · cases ht
  alloc ex C Γ items ops rest o tail σ nk k t ho := by simp only [hRecv, ho]
end
def bothG (P : Program) (inl : FuncId → Bool) (hk : Hook) (com : FuncId → Bool) (hm : Hk_) (exW : Run_) (dry : Dry) : Nat → Run_ × Call_
  | 0 => (fun C _ items σ _ _ => stuck_ C items σ, fun _ _ _ _ _ _ _ => .bad)
  | n + 1 => let A := bothG P inl hk com hm exW dry n
    (fun C Γ items σ nk k => match com C.fn with
      | true => stepH P inl hm A.1 A.2 (stepY P inl A.1 A.2) C Γ items σ nk k
      | false => stepY P inl A.1 A.2 C Γ items σ nk k,
      callG P inl hk exW dry A.1 A.2)
noncomputable def comR (P : Program) (inl : FuncId → Bool) (hm : Hk_) (A : Run_ × Call_) (C : Cx) (Γ : Facts) (items : List Item) (σ : SS) (nk : Nat) (k : Kont) : Tree :=
  stepH P inl hm A.1 A.2 (fun C Γ items σ nk k => stepRY items P inl A C Γ items σ nk k) C Γ items σ nk k
noncomputable def bothRG (P : Program) (inl : FuncId → Bool) (hk : Hook) (com : FuncId → Bool) (hm : Hk_) (exW : Run_) (dry : Dry) (n : Nat) : Run_ × Call_ :=
  Nat.rec (motive := fun _ => Run_ × Call_) (fun C _ items σ _ _ => stuck_ C items σ, fun _ _ _ _ _ _ _ => .bad)
    (fun _ A => (fun C Γ items σ nk k => Bool.rec (motive := fun _ => Tree) (stepRY items P inl A C Γ items σ nk k) (comR P inl hm A C Γ items σ nk k) (com C.fn), callG P inl hk exW dry A.1 A.2)) n
theorem comR_eq (P : Program) (inl : FuncId → Bool) (hm : Hk_) (A : Run_ × Call_) (C : Cx) (Γ : Facts) (items : List Item) (σ : SS) (nk : Nat) (k : Kont) : comR P inl hm A C Γ items σ nk k = stepH P inl hm A.1 A.2 (stepY P inl A.1 A.2) C Γ items σ nk k := by
  have e : (fun C Γ items σ nk k => stepRY items P inl A C Γ items σ nk k) = stepY P inl A.1 A.2 := by
    funext C Γ items σ nk k
    exact stepRY_eq P inl _ C Γ items σ nk k
  unfold comR
  rw [e]
theorem bothRG_eq (P : Program) (inl : FuncId → Bool) (hk : Hook) (com : FuncId → Bool) (hm : Hk_) (exW : Run_) (dry : Dry) : ∀ n, bothRG P inl hk com hm exW dry n = bothG P inl hk com hm exW dry n
  | 0 => rfl
  | n + 1 => by
    show (fun C Γ items σ nk k => Bool.rec (motive := fun _ => Tree) (stepRY items P inl (bothRG P inl hk com hm exW dry n) C Γ items σ nk k) (comR P inl hm (bothRG P inl hk com hm exW dry n) C Γ items σ nk k) (com C.fn), callG P inl hk exW dry (bothRG P inl hk com hm exW dry n).1 (bothRG P inl hk com hm exW dry n).2) = _
    simp only [bothG, bothRG_eq P inl hk com hm exW dry n]
    congr 1
    funext C Γ items σ nk k
    cases com C.fn with
    | true => exact comR_eq P inl hm _ C Γ items σ nk k
    | false => exact stepRY_eq P inl _ C Γ items σ nk k
def bothW (P : Program) (inl : FuncId → Bool) (com : FuncId → Bool) (hm : Hk_) : Nat → Run_ × Call_
  | 0 => (fun C _ items σ _ _ => stuck_ C items σ, fun _ _ _ _ _ _ _ => .bad)
  | n + 1 => let A := bothW P inl com hm n
    (fun C Γ items σ nk k => match com C.fn with
      | true => stepH P inl hm A.1 A.2 (stepY P inl A.1 A.2) C Γ items σ nk k
      | false => stepY P inl A.1 A.2 C Γ items σ nk k,
      runF P inl A.1 A.2)
noncomputable def bothRW (P : Program) (inl : FuncId → Bool) (com : FuncId → Bool) (hm : Hk_) (n : Nat) : Run_ × Call_ :=
  Nat.rec (motive := fun _ => Run_ × Call_) (fun C _ items σ _ _ => stuck_ C items σ, fun _ _ _ _ _ _ _ => .bad)
    (fun _ A => (fun C Γ items σ nk k => Bool.rec (motive := fun _ => Tree) (stepRY items P inl A C Γ items σ nk k) (comR P inl hm A C Γ items σ nk k) (com C.fn), runF P inl A.1 A.2)) n
theorem bothRW_eq (P : Program) (inl : FuncId → Bool) (com : FuncId → Bool) (hm : Hk_) : ∀ n, bothRW P inl com hm n = bothW P inl com hm n
  | 0 => rfl
  | n + 1 => by
    show (fun C Γ items σ nk k => Bool.rec (motive := fun _ => Tree) (stepRY items P inl (bothRW P inl com hm n) C Γ items σ nk k) (comR P inl hm (bothRW P inl com hm n) C Γ items σ nk k) (com C.fn), runF P inl (bothRW P inl com hm n).1 (bothRW P inl com hm n).2) = _
    simp only [bothW, bothRW_eq P inl com hm n]
    congr 1
    funext C Γ items σ nk k
    cases com C.fn with
    | true => exact comR_eq P inl hm _ C Γ items σ nk k
    | false => exact stepRY_eq P inl _ C Γ items σ nk k
theorem bothW_sound {P : Program} {main : Co} {inl com : FuncId → Bool} {hm : Hk_} (hh : HkOk P main hm) : ∀ n, SoundEx P main (bothW P inl com hm n).1 ∧ SoundCall P main (bothW P inl com hm n).2
  | 0 => ⟨fun D E C r Γ items σ nk k ρ Q F hr hv hΓ hk hK hE h a S hf => stuck_ok hE h hf, ⟨fun D E f args hp nk Γ k ρ F S Post _ _ _ _ _ _ h => h.elim, fun D E f args m hp nk Γ k ρ F S Post _ _ _ _ _ _ _ h => h.elim⟩⟩
  | n + 1 => by
    obtain ⟨h1, h2⟩ := bothW_sound (inl := inl) (com := com) hh n
    refine ⟨fun D E C r Γ items σ nk k ρ Q F hr hv hΓ hk hK hE h a S hf => ?_, runF_sound h1 h2⟩
    simp only [bothW] at h
    split at h
    · exact stepH_sound hh h1 h2 (stepY_sound h1 h2) D E C r Γ items σ nk k ρ Q F hr hv hΓ hk hK hE h a S hf
    · exact stepY_sound h1 h2 D E C r Γ items σ nk k ρ Q F hr hv hΓ hk hK hE h a S hf
section
variable {P : Program} {N : Nat} {w0 : Option World}
theorem bothG_sound {inl : FuncId → Bool} {hk : Hook} {com : FuncId → Bool} {hm : Hk_} {exW : Run_} {dry : Dry} (H : WgLib P hk.L) (Gl : GoLib P hk) (Gf : GoFn P hk) (hexW : ∀ K, SoundEx P (Mx.Hand P K) exW) (hh : HkOk P (Co.team P N w0) hm) : ∀ n, SoundEx P (Co.team P N w0) (bothG P inl hk com hm exW dry n).1 ∧ SoundCall P (Co.team P N w0) (bothG P inl hk com hm exW dry n).2
  | 0 => ⟨fun D E C r Γ items σ nk k ρ Q F hr hv hΓ hk hK hE h a S hf => stuck_ok hE h hf, ⟨fun D E f args hp nk Γ k ρ F S Post _ _ _ _ _ _ h => h.elim, fun D E f args m hp nk Γ k ρ F S Post _ _ _ _ _ _ _ h => h.elim⟩⟩
  | n + 1 => by
    obtain ⟨h1, h2⟩ := bothG_sound (inl := inl) (com := com) (dry := dry) H Gl Gf hexW hh n
    refine ⟨fun D E C r Γ items σ nk k ρ Q F hr hv hΓ hk hK hE h a S hf => ?_, callG_sound H Gl Gf hexW h1 h2⟩
    simp only [bothG] at h
    split at h
    · exact stepH_sound hh h1 h2 (stepY_sound h1 h2) D E C r Γ items σ nk k ρ Q F hr hv hΓ hk hK hE h a S hf
    · exact stepY_sound h1 h2 D E C r Γ items σ nk k ρ Q F hr hv hΓ hk hK hE h a S hf
def endG (eq : SC → Bool) : KEnd := fun e _ hp _ _ => match e, hp.gh with
  | .ret v, .none => match eq v with
    | true => .done .normal {}
    | false => .bad
  | _, _ => .bad
theorem closed_callG {inl : FuncId → Bool} {hk : Hook} {com : FuncId → Bool} {hm : Hk_} {exW : Run_} {dry : Dry} (H : WgLib P hk.L) (Gl : GoLib P hk) (Gf : GoFn P hk) (hexW : ∀ K, SoundEx P (Mx.Hand P K) exW) (hh : HkOk P (Co.team P N w0) hm) {f : FuncId} {args : List SC} {hp : Hp} {fuel : Nat} {eq : SC → Bool} {good : Value → Prop}
    (hgood : ∀ (ρ : Env) v, eq v = true → good (v.den ρ)) (hargs : ∀ x ∈ args, x.ok 16) (h : plainTree ((bothG P inl hk com hm exW dry fuel).2 f args none hp 16 {} (endG eq)) = true) {S : Own} (hsat : Sat env0 hp S S) :
    Calls P (Co.team P N w0) f (args.map (SC.den env0)).toArray S fun e S' => (∃ v, e = .returned v ∧ good v) ∧ S'.gh = .none ∧ (∀ b o, S.ro b = some o → S'.ro b = some o) ∧ ∀ b o, S.full b = some o → S'.full b = some o := by
  refine ((bothG_sound H Gl Gf hexW hh fuel).2.plain (fun _ _ _ => True) (fun _ _ _ => True) f args hp 16 {} (endG eq) env0 S S _ vals0 ⟨by simp, by simp, fun i => by simp [Env.list, maxLens, env0], by simp⟩ rfl hargs hsat ?_ (plainTree_holds _ _ h)).2
  intro ρ' e cm hp' Γ' he hΓ' hok hh S' hs'
  unfold endG at hh
  split at hh
  · rename_i v hg
    split at hh
    · rename_i hv
      exact ⟨⟨_, rfl, hgood ρ' v hv⟩, by rw [hs'.gh, hg]; rfl, hs'.ro, hs'.frm⟩
    · exact hh.elim
  · exact hh.elim
end
end Mw
set_option linter.unusedVariables false
namespace Mw
open Go Mv
open Go.Conc.Lib (WgLink WgLib)
def intOf : SC → Option (IntKind × Int)
  | .int k (.lit z) => some (k, z)
  | _ => none
def sendS (ex : Run_) (C : Cx) (Γ : Facts) (items : List Item) (ops : Array Oper) (rest : List Nat) (o : Oper) (ch x : Operand) (tail : List Item) (σ : SS) (nk : Nat) (k : Kont) : Tree := match o.dst, evC σ.sl ch, evC σ.sl x, σ.hp.gh with
  | none, some (.chn j), some (.int kd (.lit z)), .work ty iW iC cap tm ms n => match Nat.beq j iC, ms[n]? with
    | true, some (.int kd' z') => match decide (kd = kd'), decide (z = z') with
      | true, true => ex C Γ (.inRegion ops rest :: tail) (σ.withHp ⟨σ.hp.rw, σ.hp.ro, .work ty iW iC cap tm ms (n + 1)⟩) nk k
      | _, _ => stuck_ C items σ
    | _, _ => stuck_ C items σ
  | _, _, _, _ => stuck_ C items σ
section
variable {P : Program} {K0 : Grp} {D : Env → SEx → SS → Prop} {E : Env → List Item → SS → Prop} {ex : Run_}
theorem goes_send {K : Grp} {a : St} {b : Frame} {k : List Item} {cs : List Frame} {ops : Array Oper} {i : Nat} {rest : List Nat} {o : Oper} {Stop : Goroutine → Own → Prop} {S : Own} {pc : Pact} {sent : List Msg} {ch x : Operand} {v : Value}
    (ho : ops[i]? = some o) (hw : Region.wanted o (yielded ops a.tmps) = true) (hp : plainOp b.roundOf o = true) (hop : o.op = .send ch x) (hch : a.eval ch = .chan (some K.C)) (hx : a.eval x = v) (hgh : S.gh = .work K .work pc sent) (hlen : sent.length < pc.quota)
    (hdis : ∀ b, (S.full b).isSome → S.ro b = none) (hnext : Goes P (Mx.Hand P K0) Stop (Mv.G (fr b (a.put o.dst undef) (.inRegion ops rest :: k)) cs) (S.as (.work K .work pc (sent ++ [bare v])))) :
    Goes P (Mx.Hand P K0) Stop (Mv.G (fr b a (.inRegion ops (i :: rest) :: k)) cs) S := by
  have hfin := finish_fr b a ops i rest k undef
  rw [ho] at hfin
  have hs : Go.Conc.served (Mv.G (fr b a (.inRegion ops (i :: rest) :: k)) cs) undef = Mv.G (fr b (a.put o.dst undef) (.inRegion ops rest :: k)) cs := by
    simp only [Go.Conc.served, Mv.G]
    rw [hfin]
    rfl
  refine .big (fun g' S' => g' = Mv.G (fr b (a.put o.dst undef) (.inRegion ops rest :: k)) cs ∧ S' = S.as (.work K .work pc (sent ++ [bare v]))) ⟨K, .work, pc, sent, hgh, ?_⟩ (by rintro g' S' ⟨rfl, rfl⟩; exact hnext)
  refine .send (g₂ := Mv.G (fr b a (.inRegion ops (i :: rest) :: k)) cs) (m := bare v) (z := .tuple #[]) (es := fun _ => #[]) rfl hgh hlen (fun w hin => ⟨?_, by simp⟩) (S1 := S.as (.work K .work pc (sent ++ [bare v])))
    ⟨fun _ _ h => h, fun _ _ h => .inr h, hdis⟩ ⟨fun b o h => (by cases h), fun b o h => (by cases h), fun b h => (by cases h)⟩ (fun _ _ => rfl) (fun b h => (by cases h)) rfl rfl ⟨hs, rfl⟩
  have hrun1 : (execOp a.eval o).run P w = .ok (.comm #[Go.Conc.scase K.C v (.tuple #[])] true .send) w := by simp [execOp, hop, hch, hx, Go.Conc.scase]
  have hrun2 : (execOp a.eval o).events P w #[] = #[] := by simp [execOp, hop]
  rw [stepG_oper ho hw hp]
  have hfn : (fr b a (.inRegion ops (i :: rest) :: k)).fn = b.fn := rfl
  have hkd : (fr b a (.inRegion ops (i :: rest) :: k)).kind = b.kind := rfl
  simp [stepG.apply, hrun1, hrun2, GStep.after, Mv.G, hfn, hkd, Go.Conc.seen_none, bare]
theorem sendS_good {C : Cx} {Γ : Facts} {items items' tail : List Item} {ops : Array Oper} {i : Nat} {rest rest' : List Nat} {o : Oper} {ch x : Operand} {σ : SS} {k : Kont} {ρ : Env} {Q : Ex → St → Own → Prop} {F : Own}
    {r : Ctx} (hv : vals ρ) (hΓ : Γ.On ρ) (ho : ops[i]? = some o) (hop : o.op = .send ch x)
    (h : holds D E ρ (sendS ex C Γ items ops rest o ch x items' σ ρ.k.length k)) {a : St} {S : Own} (hf : Fit C.size F ρ σ a S) (hw : Region.wanted o (yielded ops a.tmps) = true) (hst : ∀ {t : Tree}, t = stuck_ C items σ → holds D E ρ t → wpI P (Mx.Hand P K0) r (.inRegion ops (i :: rest') :: tail) Q a S)
    (hnext : ∀ ρ' Γ' σ' a' S', Ext ρ ρ' → vals ρ' → Γ'.On ρ' → Fit C.size F ρ' σ' a' S' → (∃ v, a'.tmps = (a.put o.dst v).tmps) → holds D E ρ' (ex C Γ' (.inRegion ops rest :: items') σ' ρ'.k.length k) → wpI P (Mx.Hand P K0) r (.inRegion ops rest' :: tail) Q a' S') : wpI P (Mx.Hand P K0) r (.inRegion ops (i :: rest') :: tail) Q a S := by
  unfold sendS at h
  split at h
  · rename_i j kd z ty iW iC cap tm ms n hdst hch hx hgh
    split at h
    · rename_i kd' z' hj hm
      obtain rfl := Nat.eq_of_beq_eq_true hj
      split at h
      · rename_i hk1 hz1
        obtain rfl := of_decide_eq_true hk1
        obtain rfl := of_decide_eq_true hz1
        intro Stop b k' cs hb hc
        have hcl : cl r cs a.cm = cl r cs (a.put o.dst undef).cm := by rw [St.put_cm]
        have hn : n < ms.length := (List.getElem?_eq_some_iff.1 hm).1
        have hS : S.gh = .work (ρ.grp ty iW j cap tm) .work (pactOf ms) ((ms.take n).map bare) := by rw [hf.hp.gh, hgh]; rfl
        refine goes_send (K := ρ.grp ty iW j cap tm) (v := .int kd z) ho hw (by rw [hb.1]; unfold plainOp; rw [hop]; simp) hop (evC_ok hf.sl _ _ hch).2 (evC_ok hf.sl _ _ hx).2 hS (by simp [pactOf]; omega) hf.hp.dis ?_
        have hgok := hf.hp.ghok
        rw [hgh] at hgok
        have s2 := hf.hp.stand (g := .work ty iW j cap tm ms (n + 1)) (by rw [hgh]; rfl) hgok
        have e1 : SGh.den ρ (.work ty iW j cap tm ms (n + 1)) = .work (ρ.grp ty iW j cap tm) .work (pactOf ms) ((ms.take n).map bare ++ [bare (.int kd z)]) := by
          simp only [SGh.den]
          rw [List.take_add_one, hm]
          simp
        rw [e1] at s2
        have hf2 : Fit C.size F ρ (σ.withHp ⟨σ.hp.rw, σ.hp.ro, .work ty iW j cap tm ms (n + 1)⟩) (a.put o.dst undef) (S.as (.work (ρ.grp ty iW j cap tm) .work (pactOf ms) ((ms.take n).map bare ++ [bare (.int kd z)]))) := by
          rw [hdst]
          exact hf.later (Ext.refl ρ) s2
        have := hnext ρ Γ _ _ _ (Ext.refl ρ) hv hΓ hf2 ⟨_, rfl⟩ h Stop b k' cs hb hc
        rw [← hcl] at this
        exact this
      · exact hst rfl h
    · exact hst rfl h
  · exact hst rfl h
def hSend : Hk_ := fun ex C Γ items ops rest o tail σ nk k => match o.op with
  | .send ch x => some (sendS ex C Γ items ops rest o ch x tail σ nk k)
  | _ => none
theorem hSend_ok : HkOk P (Mx.Hand P K0) hSend where
  good D E ex C Γ items items' tail ops i rest rest' o σ k ρ Q F r t hr hv hΓ hK ho ht hh := by
    intro a S hf hw hst hn
    unfold hSend at ht
    split at ht
    · rename_i ch x hop
      simp only [Option.some.injEq] at ht
      subst ht
      exact sendS_good hv hΓ ho hop hh hf hw hst hn
    · cases ht
  alloc ex C Γ items ops rest o tail σ nk k t ho := by simp only [hSend, ho]
end
end Mw
set_option linter.unusedVariables false
namespace Mw
open Go Mv Go.Extern
def plainS (P : Program) {α : Type} : Sem α → Option α
  | .pure a => some a
  | .program k => plainS P (k P)
  | _ => none
section
variable {P : Program} {S0 S : Own} {α β : Type}
theorem Run.plain {s : Sem α} {v : α} {K : Except Value α → Own → Prop} (h : plainS P s = some v) (hk : K (.ok v) S) : Run P S0 s S K := by
  induction s with
  | pure a => simp only [plainS, Option.some.injEq] at h; subst h; exact Run.pure hk
  | program k ih => exact Run.program (ih P h)
  | _ => simp [plainS] at h
theorem Run.bindP {s : Sem α} {v : α} {f : α → Sem β} {K : Except Value β → Own → Prop} (h : plainS P s = some v) (hk : Run P S0 (f v) S K) : Run P S0 (s.bind f) S K := Run.bind (Run.plain h hk)
theorem Run.extern {f : FuncId} {args : Array Value} {fn : Func} {e : Array Value → Sem Value} {K : Except Value Next → Own → Prop} (hf : P.funcs[f]? = some fn) (hname : (fn.name == "runtime.NumGoroutine") = false) (hb : fn.body.isNone = true) (hn : Extern.findNext fn = none) (he : Extern.find fn = some e)
    (h : Run P S0 (e args) S fun r S' => match r with | .ok v => K (.ok (.value v)) S' | .error v => K (.error v) S') : Run P S0 (callFunc f args) S K := by
  have h1 : fn.name ≠ "runtime.NumGoroutine" := by simpa using hname
  have h2 : fn.body = none := by simpa using hb
  intro w0 w hin hm
  unfold callFunc
  simp only [bind, program, Sem.bind, okRun, hf, hname, Bool.false_eq_true, if_false, hb, if_true, hn, he]
  refine ⟨trivial, ?_⟩
  exact run_value h w0 w hin hm
end
structure AsLink where
  valueOf : FuncId
  typ : FuncId
  isNil : FuncId
  elemV : FuncId
  setV : FuncId
  typeOf : FuncId
  G : Nat
  tR : TypeId
  tP : TypeId
  tE : TypeId
  tI : TypeId
  kE : Nat
def AsLink.hd (L : AsLink) (t : TypeId) : Value := .pointer (some ⟨L.G, t, none⟩)
def AsLink.kindOf (L : AsLink) (t : TypeId) : Nat := if t = L.tP then 22 else L.kE
structure ExtFn (P : Program) (f : FuncId) (e : Array Value → Sem Value) : Prop where
  ok : ∃ fn, P.funcs[f]? = some fn ∧ (fn.name == "runtime.NumGoroutine") = false ∧ fn.body.isNone = true ∧ Extern.findNext fn = none ∧ Extern.find fn = some e
theorem ExtFn.run {P : Program} {f : FuncId} {e : Array Value → Sem Value} (h : ExtFn P f e) {S0 S : Own} {args : Array Value} {K : Except Value Next → Own → Prop}
    (hr : Run P S0 (e args) S fun r S' => match r with | .ok v => K (.ok (.value v)) S' | .error v => K (.error v) S') : Run P S0 (callFunc f args) S K := by
  obtain ⟨fn, h1, h2, h3, h4, h5⟩ := h.ok
  exact Run.extern h1 h2 h3 h4 h5 hr
def refl (L : AsLink) (t : TypeId) (a : Addr) (fl : Nat) : Value := .agg #[L.hd t, .pointer (some a), .int .u64 fl]
structure AsLib (P : Program) (L : AsLink) : Prop where
  valueOf : ExtFn P L.valueOf fun args => ReflectliteValue.unpack (args.getD 0 (.tuple #[]))
  typ : ExtFn P L.typ (ReflectliteValue.methodAny (ReflectliteValue.valueError "reflectlite.Value.Type" 0) fun t _ _ _ => ReflectliteType.toType t)
  isNil : ExtFn P L.isNil (ReflectliteValue.method (ReflectliteValue.valueError "reflectlite.Value.IsNil" 0) ReflectliteValue.isNil)
  elemV : ExtFn P L.elemV (ReflectliteValue.method (ReflectliteValue.valueError "reflectlite.Value.Elem" 0) ReflectliteValue.elem)
  setV : ExtFn P L.setV ReflectliteValue.set
  typeOf : ExtFn P L.typeOf ReflectliteType.typeOf
  mkP : ∀ a, plainS P (ReflectliteValue.mk L.tP a 0) = some (refl L L.tP a 150)
  mkE : ∀ a, plainS P (ReflectliteValue.mk L.tE a 0) = some (refl L L.tE a (L.kE + 128))
  mkA : ∀ a, plainS P (ReflectliteValue.mk L.tE a 256) = some (refl L L.tE a (L.kE + 384))
  type_ : ∀ a, plainS P (ReflectliteValue.methodAny (ReflectliteValue.valueError "reflectlite.Value.Type" 0) (fun t _ _ _ => ReflectliteType.toType t) #[refl L L.tP a 150]) = some (.iface L.tR (.agg #[L.hd L.tP]))
  partsP : ∀ a, plainS P (ReflectliteValue.parts (refl L L.tP a 150)) = some (some (L.tP, a, 150))
  partsE : ∀ a, plainS P (ReflectliteValue.parts (refl L L.tE a (L.kE + 128))) = some (some (L.tE, a, L.kE + 128))
  partsA : ∀ a, plainS P (ReflectliteValue.parts (refl L L.tE a (L.kE + 384))) = some (some (L.tE, a, L.kE + 384))
  flag : (L.kE + 384) / 256 % 2 = 1
  elem? : plainS P (Rtype.elem? L.tP) = some (some L.tE)
  direct : plainS P (Rtype.directlyAssignable L.tE L.tE) = some true
  typeOf_ : ∀ v, plainS P (ReflectliteType.typeOf #[.iface L.tE v]) = some (.iface L.tR (.agg #[L.hd L.tE]))
  kindP : ∃ f e, (∀ h, plainS P (Go.method (P.types.size + Made.depth) L.tR (.agg #[h]) "Kind") = some (f, h)) ∧ ExtFn P f e ∧ plainS P (e #[L.hd L.tP]) = some (.int .u8 22) ∧ plainS P (e #[L.hd L.tE]) = some (.int .u8 L.kE)
  elemT : ∃ f e, (∀ h, plainS P (Go.method (P.types.size + Made.depth) L.tR (.agg #[h]) "Elem") = some (f, .agg #[h])) ∧ ExtFn P f e ∧ plainS P (e #[.agg #[L.hd L.tP]]) = some (.iface L.tR (.agg #[L.hd L.tE]))
  impl : ∃ f e, (∀ h, plainS P (Go.method (P.types.size + Made.depth) L.tR (.agg #[h]) "Implements") = some (f, .agg #[h])) ∧ ExtFn P f e ∧ plainS P (e #[.agg #[L.hd L.tE], .iface L.tR (.agg #[L.hd L.tI])]) = some (.bool true)
  assign : ∃ f e, (∀ h, plainS P (Go.method (P.types.size + Made.depth) L.tR (.agg #[h]) "AssignableTo") = some (f, .agg #[h])) ∧ ExtFn P f e ∧ plainS P (e #[.agg #[L.hd L.tE], .iface L.tR (.agg #[L.hd L.tE])]) = some (.bool true)
def isHd (L : AsLink) (t : TypeId) : SC → Bool
  | .lit (.pointer (some ⟨g, u, none⟩)) => Nat.beq g L.G && Nat.beq u t
  | _ => false
def isFl (n : Nat) : SC → Bool
  | .lit (.int .u64 (.ofNat m)) => Nat.beq m n
  | _ => false
def asRefl (L : AsLink) (t : TypeId) (fl : Nat) : SC → Option (Nat × Nat)
  | .agg [h, .ptr b (.lit (.ofNat off)), f] => match isHd L t h && isFl fl f with
    | true => some (b, off)
    | false => none
  | _ => none
def isRt (L : AsLink) (t : TypeId) : SC → Bool
  | .iface r (.agg [h]) => Nat.beq r L.tR && isHd L t h
  | _ => false
def rtOf (L : AsLink) (t : TypeId) : SC := .iface L.tR (.agg [.lit (L.hd t)])
def xValueOf (L : AsLink) : List SC → Option Eff
  | [.iface t v] => match Nat.beq t L.tP, Nat.beq t L.tE, cellsOf v with
    | true, _, some l => match l.all SC.single with
      | true => some (.fresh [] (.cells l t) (.held (L.hd L.tP) (.int .u64 150)))
      | false => none
    | false, true, some l => match l.all SC.single with
      | true => some (.fresh [] (.cells l t) (.held (L.hd L.tE) (.int .u64 (L.kE + 128 : Nat))))
      | false => none
    | _, _, _ => none
  | _ => none
def xTyp (L : AsLink) : List SC → Option Eff
  | [v] => match asRefl L L.tP 150 v with
    | some _ => some (.val [] (rtOf L L.tP))
    | none => none
  | _ => none
def xIsNil (P : Program) (L : AsLink) (hp : Hp) : List SC → Option Eff
  | [v] => match asRefl L L.tP 150 v with
    | some (b, off) => match hp.get b with
      | some o => match rowOf o with
        | some l => match symPart P L.tP l off with
          | some (.ptr _ _) => some (.val [] (.bool (.lit false)))
          | _ => none
        | none => none
      | none => none
    | none => none
  | _ => none
def xElemV (P : Program) (L : AsLink) (hp : Hp) : List SC → Option Eff
  | [v] => match asRefl L L.tP 150 v with
    | some (b, off) => match hp.get b with
      | some o => match rowOf o with
        | some l => match symPart P L.tP l off with
          | some (.ptr d x) => some (.val [] (.agg [.lit (L.hd L.tE), .ptr d x, .lit (.int .u64 (L.kE + 384 : Nat))]))
          | _ => none
        | none => none
      | none => none
    | none => none
  | _ => none
def xSet (P : Program) (L : AsLink) (hp : Hp) : List SC → Option Eff
  | [u, v] => match asRefl L L.tE (L.kE + 384) u, asRefl L L.tE (L.kE + 128) v with
    | some (d, off), some (s, so) => match hp.get s, hp.rw.look d with
      | some o, some od => match rowOf o, rowOf od with
        | some l, some ld => match symPart P L.tE l so with
          | some x => match cellsOf x with
            | some new => match (decide (sizeT P L.tE = some new.length)) && new.all SC.single && Nat.ble (off + new.length) ld.length with
              | true => some (.both [] d (rowWith (splice ld off new) od) (.tup []))
              | false => none
            | none => none
          | none => none
        | _, _ => none
      | _, _ => none
    | _, _ => none
  | _ => none
def xTypeOf (L : AsLink) : List SC → Option Eff
  | [.iface t _] => match Nat.beq t L.tE with
    | true => some (.val [] (rtOf L L.tE))
    | false => none
  | _ => none
def xFun (P : Program) (L : AsLink) (hp : Hp) (f : FuncId) (args : List SC) : Option Eff :=
  match Nat.beq f L.valueOf with
  | true => xValueOf L args
  | false => match Nat.beq f L.typ with
    | true => xTyp L args
    | false => match Nat.beq f L.isNil with
      | true => xIsNil P L hp args
      | false => match Nat.beq f L.elemV with
        | true => xElemV P L hp args
        | false => match Nat.beq f L.setV with
          | true => xSet P L hp args
          | false => match Nat.beq f L.typeOf with
            | true => xTypeOf L args
            | false => none
def xMeth (L : AsLink) (recv : SC) (name : String) (args : List SC) : Option Eff := match args with
  | [] => match name == "Kind" with
    | true => match isRt L L.tP recv, isRt L L.tE recv with
      | true, _ => some (.val [] (.int .u8 (.lit 22)))
      | false, true => some (.val [] (.int .u8 (.lit (.ofNat L.kE))))
      | _, _ => none
    | false => match name == "Elem", isRt L L.tP recv with
      | true, true => some (.val [] (rtOf L L.tE))
      | _, _ => none
  | [x] => match name == "Implements" with
    | true => match isRt L L.tE recv, isRt L L.tI x with
      | true, true => some (.val [] (.bool (.lit true)))
      | _, _ => none
    | false => match name == "AssignableTo", isRt L L.tE recv, isRt L L.tE x with
      | true, true, true => some (.val [] (.bool (.lit true)))
      | _, _, _ => none
  | _ => none
def xAs (P : Program) (L : AsLink) : Xop := fun hp ev op => match op with
  | .call c => match c.callee with
    | .value g => match ev g, evs ev c.args.toList with
      | some (.fn (.func f) [] []), some args => xFun P L hp f args
      | _, _ => none
    | .invoke x name => match ev x, evs ev c.args.toList with
      | some recv, some args => xMeth L recv name args
      | _, _ => none
    | _ => none
  | .load t x => match ev x with
    | some (.lit (.pointer (some ⟨g, 0, none⟩))) => match Nat.ble g 15, hp.get g with
      | true, some o => match rowOf o with
        | some l => match symPart P t l 0 with
          | some v => some (.val [] v)
          | none => none
        | none => none
      | _, _ => none
    | _ => none
  | _ => none
section
variable {P : Program} {L : AsLink} {ρ : Env} {hp : Hp} {F S0 S : Own} {e : Eff}
theorem isHd_den {t : TypeId} {x : SC} (h : isHd L t x = true) : x.den ρ = L.hd t := by
  unfold isHd at h
  split at h
  · simp only [Bool.and_eq_true, Nat.beq_eq] at h
    simp [SC.den, AsLink.hd, h.1, h.2]
  · cases h
theorem isFl_den {n : Nat} {x : SC} (h : isFl n x = true) : x.den ρ = .int .u64 (n : Nat) := by
  unfold isFl at h
  split at h
  · simp only [Nat.beq_eq] at h
    subst h; rfl
  · cases h
theorem asRefl_den {t : TypeId} {fl : Nat} {v : SC} {b off : Nat} (h : asRefl L t fl v = some (b, off)) : v.den ρ = refl L t ⟨ρ.blk b, off, none⟩ fl := by
  unfold asRefl at h
  split at h
  · split at h
    · rename_i hh
      simp only [Bool.and_eq_true] at hh
      simp only [Option.some.injEq, Prod.mk.injEq] at h
      obtain ⟨rfl, rfl⟩ := h
      simp [SC.den, dens, isHd_den hh.1, isFl_den hh.2, refl, IE.den]
    · cases h
  · cases h
theorem isRt_den {t : TypeId} {v : SC} (h : isRt L t v = true) : v.den ρ = .iface L.tR (.agg #[L.hd t]) := by
  unfold isRt at h
  split at h
  · simp only [Bool.and_eq_true, Nat.beq_eq] at h
    obtain ⟨rfl, h⟩ := h
    simp [SC.den, dens, isHd_den h]
  · cases h
theorem rtOf_den {t : TypeId} : (rtOf L t).den ρ = .iface L.tR (.agg #[L.hd t]) := by simp [rtOf, SC.den, dens]
theorem meth_run {f : FuncId} {e : Array Value → Sem Value} {name : String} {h x : Value} {rest : Array Value} {v : Value} (hm : plainS P (Go.method (P.types.size + Made.depth) L.tR (.agg #[h]) name) = some (f, x)) (he : ExtFn P f e) (hv : plainS P (e (#[x] ++ rest)) = some v) {K : Except Value Next → Own → Prop} (hK : K (.ok (.value v)) S) :
    Run P S0 (callMethod (.iface L.tR (.agg #[h])) name rest) S K := by
  show Run P S0 (Sem.program fun p => (Go.method (p.types.size + Made.depth) L.tR (.agg #[h]) name).bind fun y => callFunc y.1 (#[y.2] ++ rest)) S K
  refine Run.program (Run.bindP hm ?_)
  exact he.run (Run.plain hv hK)
theorem xMeth_good (H : AsLib P L) {ev : Operand → Option SC} {ev' : Operand → Value} {o : Oper} {x : Operand} {name : String} {c : Call} {recv : SC} {args : List SC} (hev : EvOk ρ ev ev') (hop : o.op = .call c) (hc : c.callee = .invoke x name) (hx : ev x = some recv) (ha : evs ev c.args.toList = some args) (h : xMeth L recv name args = some e) : EffGood P ρ hp S0 S (execOp ev' o) e := by
  have hx' := (hev x _ hx).2
  have ha' := evs_den hev _ _ ha
  have hargs : c.args.map ev' = (args.map (SC.den ρ)).toArray := by
    apply Array.ext'
    simpa using ha'.1
  have hred : execOp ev' o = callMethod (recv.den ρ) name (args.map (SC.den ρ)).toArray := by
    simp only [execOp, hop, resolve, hc, hargs]
    show invoke (.fn (.method name) #[]) (#[ev' x] ++ (args.map (SC.den ρ)).toArray) = _
    simp only [invoke]
    have e0 : (#[ev' x] ++ (List.map (SC.den ρ) args).toArray)[0]? = some (ev' x) := by simp
    have e1 : (#[ev' x] ++ (List.map (SC.den ρ) args).toArray).extract 1 (#[ev' x] ++ (List.map (SC.den ρ) args).toArray).size = (List.map (SC.den ρ) args).toArray := by
      apply Array.ext'
      simp
      exact List.take_of_length_le (by simp)
    rw [e0, e1, hx']
  rw [hred]
  unfold xMeth at h
  split at h
  · split at h
    · rename_i hn
      obtain rfl : name = "Kind" := by simpa using hn
      obtain ⟨f, ex, h1, h2, h3, h4⟩ := H.kindP
      split at h
      · rename_i hr
        simp only [Option.some.injEq] at h; subst h
        rw [isRt_den hr]
        exact ⟨fun _ K hK => meth_run (v := .int .u8 22) (h1 _) h2 (by simpa using h3) hK, trivial⟩
      · rename_i hr
        simp only [Option.some.injEq] at h; subst h
        rw [isRt_den hr]
        exact ⟨fun _ K hK => meth_run (v := .int .u8 L.kE) (h1 _) h2 (by simpa using h4) hK, trivial⟩
      · cases h
    · split at h
      · rename_i hn hr
        obtain rfl : name = "Elem" := by simpa using hn
        obtain ⟨f, ex, h1, h2, h3⟩ := H.elemT
        simp only [Option.some.injEq] at h; subst h
        rw [isRt_den hr]
        exact ⟨fun _ K hK => meth_run (h1 _) h2 (by simpa using h3) (by rw [rtOf_den] at hK; exact hK), ⟨trivial, trivial⟩⟩
      · cases h
  · split at h
    · rename_i hn
      obtain rfl : name = "Implements" := by simpa using hn
      obtain ⟨f, ex, h1, h2, h3⟩ := H.impl
      split at h
      · rename_i hr hy
        simp only [Option.some.injEq] at h; subst h
        rw [isRt_den hr]
        simp only [List.map_cons, List.map_nil, isRt_den hy]
        exact ⟨fun _ K hK => meth_run (v := .bool true) (h1 _) h2 (by simpa using h3) hK, trivial⟩
      · cases h
    · split at h
      · rename_i hn hr hy
        obtain rfl : name = "AssignableTo" := by simpa using hn
        obtain ⟨f, ex, h1, h2, h3⟩ := H.assign
        simp only [Option.some.injEq] at h; subst h
        rw [isRt_den hr]
        simp only [List.map_cons, List.map_nil, isRt_den hy]
        exact ⟨fun _ K hK => meth_run (v := .bool true) (h1 _) h2 (by simpa using h3) hK, trivial⟩
      · cases h
  · cases h
theorem xFun_good [Loud S0] (H : AsLib P L) (hv : vals ρ) (hs : Sat ρ hp F S) {f : FuncId} {args : List SC} (hok : ∀ x ∈ args, x.ok ρ.k.length) (h : xFun P L hp f args = some e) : EffGood P ρ hp S0 S (callFunc f (args.map (SC.den ρ)).toArray) e := by
  unfold xFun at h
  split at h
  ·
    rename_i hf
    obtain rfl := Nat.eq_of_beq_eq_true hf
    unfold xValueOf at h
    split at h
    · rename_i t v
      have hvok : v.ok ρ.k.length := hok (.iface t v) List.mem_cons_self
      split at h
      · rename_i l ht hc
        obtain rfl := Nat.eq_of_beq_eq_true ht
        split at h
        · rename_i h1
          simp only [Option.some.injEq] at h; subst h
          refine ⟨fun _ K hK => H.valueOf.run ?_, cellsOf_ok hc hvok⟩
          show Run P S0 ((newVar L.tP (v.den ρ)).bind fun a => ReflectliteValue.mk L.tP a 0) S _
          exact run_newVar hv hc h1 fun r h2 h3 => Run.plain (H.mkP _) (hK r h2 h3)
        · cases h
      · rename_i l _ ht hc
        obtain rfl := Nat.eq_of_beq_eq_true ht
        split at h
        · rename_i h1
          simp only [Option.some.injEq] at h; subst h
          refine ⟨fun _ K hK => H.valueOf.run ?_, cellsOf_ok hc hvok⟩
          show Run P S0 ((newVar L.tE (v.den ρ)).bind fun a => ReflectliteValue.mk L.tE a 0) S _
          exact run_newVar hv hc h1 fun r h2 h3 => Run.plain (H.mkE _) (hK r h2 h3)
        · cases h
      · cases h
    · cases h
  · split at h
    ·
      rename_i hf
      obtain rfl := Nat.eq_of_beq_eq_true hf
      unfold xTyp at h
      split at h
      · rename_i v
        split at h
        · rename_i y hy
          simp only [Option.some.injEq] at h; subst h
          refine ⟨fun _ K hK => H.typ.run ?_, ⟨trivial, trivial⟩⟩
          simp only [List.map_cons, List.map_nil, asRefl_den hy]
          rw [rtOf_den] at hK
          exact Run.plain (H.type_ _) hK
        · cases h
      · cases h
    · split at h
      ·
        rename_i hf
        obtain rfl := Nat.eq_of_beq_eq_true hf
        unfold xIsNil at h
        split at h
        · rename_i v
          split at h
          · rename_i b off hy
            split at h
            · rename_i o hb
              obtain ⟨_, hso, hget⟩ := hs.get hb
              split at h
              · rename_i l hr
                obtain ⟨te, tail, hden, _⟩ := rowOf_den (ρ := ρ) hr
                rw [hden] at hget
                split at h
                · rename_i d x hp
                  simp only [Option.some.injEq] at h; subst h
                  refine ⟨fun _ K hK => H.isNil.run ?_, trivial⟩
                  simp only [List.map_cons, List.map_nil, asRefl_den hy]
                  show Run P S0 ((ReflectliteValue.parts (refl L L.tP ⟨ρ.blk b, off, none⟩ 150)).bind _) S _
                  refine Run.bindP (H.partsP _) ?_
                  show Run P S0 ((loadVar L.tP ⟨ρ.blk b, off, none⟩).bind _) S _
                  refine Run.bind (run_loadVar hget hp ?_)
                  exact Run.pure hK
                · cases h
              · cases h
            · cases h
          · cases h
        · cases h
      · split at h
        ·
          rename_i hf
          obtain rfl := Nat.eq_of_beq_eq_true hf
          unfold xElemV at h
          split at h
          · rename_i v
            split at h
            · rename_i b off hy
              split at h
              · rename_i o hb
                obtain ⟨_, hso, hget⟩ := hs.get hb
                split at h
                · rename_i l hr
                  obtain ⟨te, tail, hden, _⟩ := rowOf_den (ρ := ρ) hr
                  rw [hden] at hget
                  split at h
                  · rename_i d x hp
                    simp only [Option.some.injEq] at h; subst h
                    have hx := symPart_ok hp (rowOf_ok hr hso)
                    refine ⟨fun _ K hK => H.elemV.run ?_, ⟨trivial, hx, trivial, trivial⟩⟩
                    simp only [List.map_cons, List.map_nil, asRefl_den hy]
                    show Run P S0 ((ReflectliteValue.parts (refl L L.tP ⟨ρ.blk b, off, none⟩ 150)).bind _) S _
                    refine Run.bindP (H.partsP _) ?_
                    show Run P S0 ((loadVar L.tP ⟨ρ.blk b, off, none⟩).bind _) S _
                    refine Run.bind (run_loadVar hget hp ?_)
                    refine Run.bindP H.elem? ?_
                    show Run P S0 (ReflectliteValue.mk L.tE ⟨ρ.blk d, (x.den ρ).toNat, none⟩ 256) S _
                    exact Run.plain (H.mkA _) hK
                  · cases h
                · cases h
              · cases h
            · cases h
          · cases h
        · split at h
          ·
            rename_i hf
            obtain rfl := Nat.eq_of_beq_eq_true hf
            unfold xSet at h
            split at h
            · rename_i u v
              split at h
              · rename_i d off s so hu hw
                split at h
                · rename_i o od hb hd
                  obtain ⟨_, hso, hget⟩ := hs.get hb
                  obtain ⟨_, hsd, hfull⟩ := hs.has _ _ hd
                  split at h
                  · rename_i l ld hr hrd
                    obtain ⟨te, tail, hden, _⟩ := rowOf_den (ρ := ρ) hr
                    obtain ⟨ted, taild, hdend, hwith⟩ := rowOf_den (ρ := ρ) hrd
                    rw [hden] at hget
                    rw [hdend] at hfull
                    split at h
                    · rename_i x hp
                      have hx := symPart_ok hp (rowOf_ok hr hso)
                      split at h
                      · rename_i new hc
                        split at h
                        · rename_i hcond
                          simp only [Bool.and_eq_true, decide_eq_true_eq] at hcond
                          simp only [Option.some.injEq] at h; subst h
                          refine ⟨⟨⟨_, hd⟩, fun _ K hK => H.setV.run ?_⟩, rowWith_ok hrd hsd (splice_ok (rowOf_ok hrd hsd) (cellsOf_ok hc hx)), trivial⟩
                          simp only [List.map_cons, List.map_nil, asRefl_den hu, asRefl_den hw]
                          show Run P S0 ((ReflectliteValue.parts (refl L L.tE ⟨ρ.blk d, off, none⟩ (L.kE + 384))).bind _) S _
                          refine Run.bindP (H.partsA _) ?_
                          show Run P S0 ((ReflectliteValue.parts (refl L L.tE ⟨ρ.blk s, so, none⟩ (L.kE + 128))).bind _) S _
                          refine Run.bindP (H.partsE _) ?_
                          have hfl : ((L.kE + 384) / ReflectliteValue.flagAddr % 2 == 0) = false := by
                            have := H.flag
                            simp [ReflectliteValue.flagAddr, this]
                          simp only [hfl, Bool.false_eq_true, if_false]
                          show Run P S0 ((loadVar L.tE ⟨ρ.blk s, so, none⟩).bind _) S _
                          refine Run.bind (run_loadVar hget hp ?_)
                          show Run P S0 ((Rtype.directlyAssignable L.tE L.tE).bind _) S _
                          refine Run.bindP H.direct ?_
                          show Run P S0 ((storeVar L.tE ⟨ρ.blk d, off, none⟩ (x.den ρ)).bind _) S _
                          refine Run.bind (Run.mono (run_storeVar (K := fun r S' => r = .ok () ∧ S' = S.set (ρ.blk d) ((rowWith (splice ld off new) od).den ρ)) hv hfull hc hcond.1.2 hcond.1.1 (Nat.le_of_ble_eq_true hcond.2) ⟨rfl, by rw [hwith]⟩) ?_)
                          rintro r S' ⟨rfl, rfl⟩
                          exact Run.pure hK
                        · cases h
                      · cases h
                    · cases h
                  · cases h
                · cases h
              · cases h
            · cases h
          · split at h
            ·
              rename_i hf
              obtain rfl := Nat.eq_of_beq_eq_true hf
              unfold xTypeOf at h
              split at h
              · rename_i t v
                split at h
                · rename_i ht
                  obtain rfl := Nat.eq_of_beq_eq_true ht
                  simp only [Option.some.injEq] at h; subst h
                  refine ⟨fun _ K hK => H.typeOf.run ?_, ⟨trivial, trivial⟩⟩
                  rw [rtOf_den] at hK
                  exact Run.plain (H.typeOf_ _) hK
                · cases h
              · cases h
            · cases h
theorem xAs_ok (H : AsLib P L) : XopOk P (xAs P L) := by
  intro ρ hp F S0 S ev ev' o e _ hv hs hev h
  unfold xAs at h
  split at h
  · rename_i c hop
    split at h
    · rename_i g hc
      split at h
      · rename_i f args hg ha
        have hcal : calleeOf ev c = some (f, args, []) := by simp only [calleeOf, hc, hg, ha, List.nil_append]
        obtain ⟨h1, h2, h3⟩ := calleeOf_run hev hcal o.type
        have hred : execOp ev' o = callFunc f ((args.map (SC.den ρ)).toArray ++ (([] : List SC).map (SC.den ρ)).toArray) := by
          simp only [execOp, hop, h3, invoke]
          rfl
        rw [hred]
        have e1 : (args.map (SC.den ρ)).toArray ++ (([] : List SC).map (SC.den ρ)).toArray = (args.map (SC.den ρ)).toArray := by simp
        rw [e1]
        exact xFun_good H hv hs h1 h
      · cases h
    · rename_i x name hc
      split at h
      · rename_i recv args hx ha
        exact xMeth_good H hev hop hc hx ha h
      · cases h
    · cases h
  · rename_i t x hop
    split at h
    · rename_i g hx
      obtain ⟨_, hx'⟩ := hev x _ hx
      split at h
      · rename_i so hg hb
        obtain ⟨_, hso, hget⟩ := hs.get hb
        rw [(hv.low g (Nat.lt_of_le_of_lt (Nat.le_of_ble_eq_true hg) (by decide))).2] at hget
        split at h
        · rename_i l hr
          obtain ⟨te, tail, hden, _⟩ := rowOf_den (ρ := ρ) hr
          rw [hden] at hget
          split at h
          · rename_i v hp
            simp only [Option.some.injEq] at h; subst h
            refine good_val (s := Instr.loadAt t (ev' x)) (by simp only [execOp, hop]) (symPart_ok hp (rowOf_ok hr hso)) fun _ K hK => ?_
            rw [hx']
            show Run P S0 ((Instr.sureAddr (.pointer (some ⟨g, 0, none⟩))).bind fun a => loadVar t a) _ K
            exact run_loadVar hget hp hK
          · cases h
        · cases h
      · cases h
    · cases h
  · cases h
end
end Mw
set_option linter.unusedVariables false
namespace Mw
open Go Mv
def hDry : Hk_ := fun ex C Γ items ops rest o tail σ nk k => match o.op with
  | .send ch x => match evC σ.sl ch, evC σ.sl x, σ.hp.gh with
    | some (.chn j), some (.int kd (.lit z)), .work ty iW iC cap tm ms n => some (ex C Γ (.inRegion ops rest :: tail) (σ.withHp ⟨σ.hp.rw, σ.hp.ro, .work ty iW iC cap tm (ms ++ [.int kd z]) n⟩) nk k)
    | _, _, _ => none
  | _ => none
def dryOf : Tree → List Value
  | .done _ σ => match σ.hp.gh with
    | .work _ _ _ _ _ ms _ => ms
    | _ => []
  | .new t => dryOf t
  | .need _ t => dryOf t
  | _ => []
def dryF (P : Program) (hk : Hook) (exD : Run_) : Dry := fun args hp nk Γ => match P.funcs[hk.g1]? with
  | some f1 => match f1.body with
    | some c1 => dryOf (exD { size := args.length + (f1.ntmps - args.length), dfr := false, fn := hk.g1 } Γ [.code c1] { sl := slotsOf args 0 .nil, hp, df := [], cm := none } nk fun e σ _ _ => .done .normal σ)
    | none => []
  | none => []
structure Conf where
  hk : Hook
  as : AsLink
  com : List FuncId
def Conf.coms (c : Conf) (f : FuncId) : Bool := c.com.any (Nat.beq f)
def Conf.hM (c : Conf) (P : Program) : Hk_ := hOr hClose (hOr (hRecv P) (hExt (xAs P c.as)))
def Conf.hW (c : Conf) (P : Program) : Hk_ := hOr hSend (hExt (xAs P c.as))
def Conf.hD (c : Conf) (P : Program) : Hk_ := hOr hDry (hExt (xAs P c.as))
structure Conf.Ok (c : Conf) (P : Program) : Prop where
  wg : Go.Conc.Lib.WgLib P c.hk.L
  gl : GoLib P c.hk
  gf : GoFn P c.hk
  as : AsLib P c.as
theorem Conf.Ok.hM {c : Conf} {P : Program} (h : c.Ok P) {N : Nat} {w0 : Option World} : HkOk P (Co.team P N w0) (c.hM P) := hOr_ok hClose_ok (hOr_ok hRecv_ok (hExt_ok (xAs_ok h.as)))
theorem Conf.Ok.hW {c : Conf} {P : Program} (h : c.Ok P) {K : Grp} : HkOk P (Mx.Hand P K) (c.hW P) := hOr_ok hSend_ok (hExt_ok (xAs_ok h.as))
end Mw
set_option linter.unusedVariables false
namespace Mw
open Go Mv
def setsT {α : Type} : List (Nat × α) → Tr α
  | [] => .nil
  | (i, x) :: l => (setsT l).set i x
theorem setsT_look {α : Type} {i : Nat} {x : α} : ∀ {l : List (Nat × α)}, (setsT l).look i = some x → (i, x) ∈ l
  | [], h => by rw [setsT, Tr.nil_look] at h; cases h
  | (j, y) :: l, h => by
    rcases Tr.look_set h with ⟨rfl, rfl⟩ | ⟨_, h⟩
    · exact List.mem_cons_self
    · exact List.mem_cons_of_mem _ (setsT_look h)
def mkH (rw ro : List (Nat × SO)) : Hp := ⟨setsT rw, setsT ro, .none⟩
def mkS (sl : List (Nat × SC)) (hp : Hp) : SS := { sl := setsT sl, hp, df := [], cm := none }
def vI (n : Nat) : SC := .int .i64 (.lit (.ofNat n))
def vN (n : Nat) : SC := .int .i64 (.lit (.negSucc n))
def vP (b : Nat) : SC := .ptr b (.lit (.ofNat 0))
def vQ (b o : Nat) : SC := .ptr b (.lit (.ofNat o))
def vL (b l c : Nat) : SC := .slice b (.lit (.ofNat 0)) (.lit (.ofNat l)) (.lit (.ofNat c))
def vZ : SC := .lit (.slice none 0 0)
def v0 : SC := .lit (.pointer none)
def vT : SC := .bool (.lit true)
def vF : SC := .bool (.lit false)
def Left (v : SC) (hp : Hp) (nk : Nat) (F : Own) (ρ0 : Env) (e : Mv.End) (S : Own) : Prop := ∃ ρ, Ext ρ0 ρ ∧ ({} : Facts).On ρ ∧ ρ.k.length = nk ∧ e = .returned (v.den ρ) ∧ v.ok ρ.k.length ∧ Sat ρ hp F S
def CallTo (P : Program) (N : Nat) (w0 : Option World) (g : FuncId) (args : List SC) (hp : Hp) (nk : Nat) (v : SC) (hp' : Hp) (nk' : Nat) : Prop :=
  Callable P g ∧ ∀ F ρ S, vals ρ → ({} : Facts).On ρ → ρ.k.length = nk → (∀ x ∈ args, x.ok ρ.k.length) → Sat ρ hp F S → Calls P (Co.team P N w0) g (args.map (SC.den ρ)).toArray S (Left v hp' nk' F ρ)
structure Sum where
  g : FuncId
  args : List SC
  rw : List (Nat × SO)
  ro : List (Nat × SO)
  nk : Nat
  v : SC
  hp : Hp
  nk' : Nat
def Sum.Ok (P : Program) (N : Nat) (w0 : Option World) (s : Sum) : Prop := CallTo P N w0 s.g s.args (mkH s.rw s.ro) s.nk s.v s.hp s.nk'
def SO.same : SO → SO → Bool
  | .cells l e, .cells m e' => sameL (SC.same 6) l m && Nat.beq e e'
  | .row l e r, .row m e' r' => sameL (SC.same 6) l m && Nat.beq e e' && Nat.beq r r'
  | .calls, .calls => true
  | _, _ => false
theorem SO.same_eq {x y : SO} (h : SO.same x y = true) : x = y := by
  unfold SO.same at h
  split at h
  · simp only [Bool.and_eq_true] at h
    rw [sameL_eq (SC.same_eq 6) _ _ h.1, Nat.eq_of_beq_eq_true h.2]
  · simp only [Bool.and_eq_true] at h
    rw [sameL_eq (SC.same_eq 6) _ _ h.1.1, Nat.eq_of_beq_eq_true h.1.2, Nat.eq_of_beq_eq_true h.2]
  · rfl
  · cases h
def lies (t : Tr SO) : List (Nat × SO) → Bool
  | [] => true
  | (i, o) :: l => match t.look i with
    | some o' => match SO.same o' o with
      | true => lies t l
      | false => false
    | none => false
theorem lies_look {t : Tr SO} : ∀ {l : List (Nat × SO)}, lies t l = true → ∀ x ∈ l, t.look x.1 = some x.2
  | [], _, x, hx => by cases hx
  | (i, o) :: l, h, x, hx => by
    simp only [lies] at h
    split at h
    · rename_i o' ho
      split at h
      · rename_i hs
        rcases List.mem_cons.1 hx with rfl | hx
        · rw [ho, SO.same_eq hs]
        · exact lies_look h x hx
      · cases h
    · cases h
def news : Nat → Tree → Tree
  | 0, t => t
  | n + 1, t => .new (news n t)
theorem news_holds {D : Env → SEx → SS → Prop} {E : Env → List Item → SS → Prop} : ∀ (n : Nat) (ρ : Env) (t : Tree), holds D E ρ (news n t) → ∀ ρ', Ext ρ ρ' → ρ'.k.length = ρ.k.length + n → holds D E ρ' t
  | 0, ρ, t, h, ρ', ⟨l, e⟩, hl => by
    subst e
    have : l = [] := List.eq_nil_of_length_eq_zero (by simpa using hl)
    subst this
    simpa [news] using h
  | n + 1, ρ, t, h, ρ', ⟨l, e⟩, hl => by
    subst e
    cases l with
    | nil => simp at hl
    | cons x l =>
      have h1 : holds D E (ρ.grow x.1 x.2) (news n t) := h x.1 x.2
      exact news_holds n _ t h1 _ ⟨l, by simp [Env.grow]⟩ (by simp only [List.length_append, List.length_cons, Env.grow, List.length_nil] at hl ⊢; omega)
def pickS (f : FuncId) (nk : Nat) : List Sum → Option Sum
  | [] => none
  | s :: l => match Nat.beq s.g f && Nat.beq s.nk nk with
    | true => some s
    | false => pickS f nk l
theorem pickS_mem {f : FuncId} {nk : Nat} {s : Sum} : ∀ {l : List Sum}, pickS f nk l = some s → s ∈ l ∧ s.g = f ∧ s.nk = nk
  | [], h => by cases h
  | x :: l, h => by
    simp only [pickS] at h
    split at h
    · rename_i hb
      simp only [Option.some.injEq] at h; subst h
      simp only [Bool.and_eq_true] at hb
      exact ⟨List.mem_cons_self, Nat.eq_of_beq_eq_true hb.1, Nat.eq_of_beq_eq_true hb.2⟩
    · obtain ⟨h1, h2⟩ := pickS_mem h
      exact ⟨List.mem_cons_of_mem _ h1, h2⟩
def noGh : SGh → Bool
  | .none => true
  | _ => false
def callS (sums : List Sum) (call : Call_) : Call_ := fun f args cm hp nk Γ k => match sums with
  | [] => call f args cm hp nk Γ k
  | _ => match pickS f nk sums with
    | none => call f args cm hp nk Γ k
    | some s => match cm, sameL (SC.same 6) args s.args, lies hp.rw s.rw, lies hp.ro s.ro, noGh hp.gh, Nat.ble nk s.nk' with
      | none, true, true, true, true, true => news (s.nk' - nk) (k (.ret s.v) none s.hp s.nk' {})
      | _, _, _, _, _, _ => .bad
theorem callS_sound {P : Program} {N : Nat} {w0 : Option World} {sums : List Sum} {call : Call_} (hs : ∀ s ∈ sums, s.Ok P N w0) (hcall : SoundCall P (Co.team P N w0) call) : SoundCall P (Co.team P N w0) (callS sums call) := by
  constructor
  · intro D E f args hp nk Γ k ρ F S Post hv hΓ hnk hargs hsat hpost h
    unfold callS at h
    split at h
    · exact hcall.plain D E f args hp nk Γ k ρ F S Post hv hΓ hnk hargs hsat hpost h
    · split at h
      · exact hcall.plain D E f args hp nk Γ k ρ F S Post hv hΓ hnk hargs hsat hpost h
      · rename_i s hpick
        obtain ⟨hm, hg, hk⟩ := pickS_mem hpick
        split at h
        · rename_i ha h1 h2 h3 h4
          have ha := sameL_eq (SC.same_eq 6) _ _ ha
          have h4 := Nat.le_of_ble_eq_true h4
          have hgh : hp.gh = .none := by
            unfold noGh at h3
            split at h3
            · assumption
            · cases h3
          obtain ⟨c1, c2⟩ := hs s hm
          subst hg
          refine ⟨c1, ?_⟩
          have hsat' : Sat ρ (mkH s.rw s.ro) F S := hsat.less (by rw [hgh]; rfl) (fun i o hi => lies_look h1 _ (setsT_look hi)) (fun i o hi => lies_look h2 _ (setsT_look hi))
          have hΓ0 : ({} : Facts).On ρ := ⟨by simp, by simp, hΓ.lens, by simp⟩
          rw [ha] at hargs ⊢
          refine (c2 F ρ S hv hΓ0 (by rw [hnk, hk]) hargs hsat').mono ?_
          rintro e S' ⟨ρ', he, hΓ', hl, rfl, hok, hs'⟩
          have h5 := news_holds _ ρ _ h ρ' he (by rw [hnk]; omega)
          exact hpost ρ' (.ret s.v) none s.hp {} he hΓ' hok (by rw [hl]; exact h5) S' hs'
        · exact h.elim
  · intro D E f args m hp nk Γ k ρ F S Post hv hΓ hnk hargs hm hsat hpost h
    unfold callS at h
    split at h
    · exact hcall.dfr D E f args m hp nk Γ k ρ F S Post hv hΓ hnk hargs hm hsat hpost h
    · split at h
      · exact hcall.dfr D E f args m hp nk Γ k ρ F S Post hv hΓ hnk hargs hm hsat hpost h
      · split at h
        · rename_i e _ _ _ _ _
          cases e
        · exact h.elim
end Mw
set_option linter.unusedVariables false
namespace Mw
open Go Mv
def keepT {α : Type} (t : Tr α) : List Nat → Tr α
  | [] => .nil
  | d :: l => match t.look d with
    | some v => (keepT t l).set d v
    | none => keepT t l
theorem keepT_look {α : Type} {t : Tr α} {d : Nat} {v : α} : ∀ {l : List Nat}, (keepT t l).look d = some v → t.look d = some v
  | [], h => by rw [keepT, Tr.nil_look] at h; cases h
  | e :: l, h => by
    unfold keepT at h
    split at h
    · rename_i w hw
      rcases Tr.look_set h with ⟨rfl, rfl⟩ | ⟨_, h⟩
      · exact hw
      · exact keepT_look h
    · exact keepT_look h
def namesOf (sl : Tr SC) : List Nat → List Nat
  | [] => []
  | d :: l => match sl.look d with
    | some v => namesSC v ++ namesOf sl l
    | none => namesOf sl l
def Hp.cut (hp : Hp) (from_ keepRo : List Nat) : Option Hp := match hp.gh with
  | .none => some ⟨keepT hp.rw (reachT hp.rw 1000000 from_ []), keepT hp.ro keepRo, .none⟩
  | _ => none
def cutS (keep keepB keepRo : List Nat) (σ : SS) : Option SS := match σ.df, σ.hp.cut (namesOf σ.sl keep ++ keepB) keepRo with
  | [], some hp => some { sl := keepT σ.sl keep, hp, df := [], cm := σ.cm }
  | _, _ => none
theorem cut_sat {hp hp' : Hp} {from_ keepRo : List Nat} {ρ : Env} {F S : Own} (h : Sat ρ hp F S) (hc : hp.cut from_ keepRo = some hp') : Sat ρ hp' F S ∧ hp'.gh = .none := by
  unfold Hp.cut at hc
  split at hc
  · rename_i hgh
    simp only [Option.some.injEq] at hc; subst hc
    exact ⟨{
        has := fun i o hi => h.has i o (keepT_look hi)
        hro := fun i o hi => h.hro i o (keepT_look hi)
        inj := fun i j o o' hi hj e => h.inj i j o o' (keepT_look hi) (keepT_look hj) e
        frm := h.frm
        apart := fun i o hi => h.apart i o (keepT_look hi)
        ro := h.ro
        gh := by rw [h.gh, hgh]
        dis := h.dis
        ghok := trivial
        lent := fun i hi => by cases hi
        linj := fun i hi => by cases hi
        rinj := fun i hi => by cases hi
        lnd := List.nodup_nil }, rfl⟩
  · cases hc
theorem cut_fit {keep keepB keepRo : List Nat} {size : Nat} {F : Own} {ρ : Env} {σ σ' : SS} {a : St} {S : Own} (h : Fit size F ρ σ a S) (hc : cutS keep keepB keepRo σ = some σ') : Fit size F ρ σ' a S := by
  unfold cutS at hc
  split at hc
  · rename_i hp hdf hhp
    simp only [Option.some.injEq] at hc; subst hc
    exact {
      size := h.size
      df := by rw [h.df, hdf]
      dfok := fun d hd => by cases hd
      cm := h.cm
      cmok := h.cmok
      sl := fun d v hd => h.sl d v (keepT_look hd)
      hp := (cut_sat h.hp hhp).1 }
  · cases hc
def okTree : Tree → Bool
  | .ok => true
  | .new t => okTree t
  | .both a b => match okTree a with
    | true => okTree b
    | false => false
  | _ => false
theorem okTree_holds {D : Env → SEx → SS → Prop} {E : Env → List Item → SS → Prop} : ∀ (t : Tree) (ρ : Env), okTree t = true → holds D E ρ t
  | .ok, _, _ => trivial
  | .new t, ρ, h => fun b r => okTree_holds t _ h
  | .both a b, ρ, h => by
    simp only [okTree] at h
    split at h
    · rename_i ha
      exact ⟨okTree_holds a ρ ha, okTree_holds b ρ h⟩
    · cases h
  | .done _ _, _, h => by cases h
  | .stop _ _, _, h => by cases h
  | .branch _ _ _, _, h => by cases h
  | .need _ _, _, h => by cases h
  | .bad, _, h => by cases h
def both2 {α : Type} : Option (List α) → Option (List α) → Option (List α)
  | some l, some m => some (l ++ m)
  | _, _ => none
theorem both2_some {α : Type} {a b : Option (List α)} {l : List α} (h : both2 a b = some l) : ∃ x y, a = some x ∧ b = some y ∧ l = x ++ y := by
  unfold both2 at h
  split at h
  · rename_i x y
    simp only [Option.some.injEq] at h
    exact ⟨x, y, rfl, rfl, h.symm⟩
  · cases h
def strip : Tree → Nat → Option (List (Nat × List Item × SS))
  | .stop items σ, n => some [(n, items, σ)]
  | .ok, _ => some []
  | .new t, n => match Nat.ble n 1000000000 with
    | true => strip t (n + 1)
    | false => none
  | .both a b, n => both2 (strip a n) (strip b n)
  | _, _ => none
theorem strip_holds {D : Env → SEx → SS → Prop} {E : Env → List Item → SS → Prop} {nk' : Nat} {items : List Item} {σ : SS} : ∀ (t : Tree) (ρ : Env) (ρ0 : Env) (l : List (Nat × List Item × SS)), Ext ρ0 ρ → strip t ρ.k.length = some l → (∀ x ∈ l, x = (nk', items, σ)) →
    (∀ ρ' : Env, Ext ρ0 ρ' → ρ'.k.length = nk' → E ρ' items σ) → holds D E ρ t
  | .stop items' σ', ρ, ρ0, l, he, h, hl, hE => by
    simp only [strip, Option.some.injEq] at h
    subst h
    have := hl _ (List.mem_singleton.2 rfl)
    simp only [Prod.mk.injEq] at this
    obtain ⟨rfl, rfl, rfl⟩ := this
    exact hE ρ he rfl
  | .new t, ρ, ρ0, l, he, h, hl, hE => by
    simp only [strip] at h
    split at h
    · intro b r
      exact strip_holds t (ρ.grow b r) ρ0 l (he.trans (Ext.grow ρ b r)) (by rw [len_grow]; exact h) hl hE
    · cases h
  | .both a b, ρ, ρ0, l, he, h, hl, hE => by
    simp only [strip] at h
    obtain ⟨x, y, h1, h2, rfl⟩ := both2_some h
    exact ⟨strip_holds a ρ ρ0 x he h1 (fun z hz => hl z (List.mem_append_left _ hz)) hE, strip_holds b ρ ρ0 y he h2 (fun z hz => hl z (List.mem_append_right _ hz)) hE⟩
  | .ok, _, _, _, _, _, _, _ => trivial
  | .done _ _, _, _, _, _, h, _, _ => by simp [strip] at h
  | .branch _ _ _, _, _, _, _, h, _, _ => by simp [strip] at h
  | .need _ _, _, _, _, _, h, _, _ => by simp [strip] at h
  | .bad, _, _, _, _, h, _, _ => by simp [strip] at h
def stripD : Tree → Nat → Option (List (Nat × SC × Hp))
  | .done e σ, n => match e with
    | .panic [(v, _, _)] => some [(n, v, σ.hp)]
    | _ => none
  | .ok, _ => some []
  | .new t, n => match Nat.ble n 1000000000 with
    | true => stripD t (n + 1)
    | false => none
  | .both a b, n => both2 (stripD a n) (stripD b n)
  | _, _ => none
theorem stripD_holds {E : Env → List Item → SS → Prop} {nk' : Nat} {v : SC} {hp : Hp} : ∀ (t : Tree) (ρ : Env) (ρ0 : Env) (l : List (Nat × SC × Hp)), Ext ρ0 ρ → stripD t ρ.k.length = some l → (∀ x ∈ l, x = (nk', v, hp)) →
    holds (fun ρ' e σ => Ext ρ0 ρ' ∧ ρ'.k.length = nk' ∧ (∃ a b, e = .panic [(v, a, b)]) ∧ σ.hp = hp) E ρ t
  | .done e σ', ρ, ρ0, l, he, h, hl => by
    simp only [stripD] at h
    split at h
    · simp only [Option.some.injEq] at h
      subst h
      have := hl _ (List.mem_singleton.2 rfl)
      simp only [Prod.mk.injEq] at this
      obtain ⟨h1, rfl, h3⟩ := this
      exact ⟨he, h1, ⟨_, _, rfl⟩, h3⟩
    · cases h
  | .new t, ρ, ρ0, l, he, h, hl => by
    simp only [stripD] at h
    split at h
    · intro b r
      exact stripD_holds t (ρ.grow b r) ρ0 l (he.trans (Ext.grow ρ b r)) (by rw [len_grow]; exact h) hl
    · cases h
  | .both a b, ρ, ρ0, l, he, h, hl => by
    simp only [stripD] at h
    obtain ⟨x, y, h1, h2, rfl⟩ := both2_some h
    exact ⟨stripD_holds a ρ ρ0 x he h1 fun z hz => hl z (List.mem_append_left _ hz), stripD_holds b ρ ρ0 y he h2 fun z hz => hl z (List.mem_append_right _ hz)⟩
  | .ok, _, _, _, _, _, _ => trivial
  | .stop _ _, _, _, _, _, h, _ => by simp [stripD] at h
  | .branch _ _ _, _, _, _, _, h, _ => by simp [stripD] at h
  | .need _ _, _, _, _, _, h, _ => by simp [stripD] at h
  | .bad, _, _, _, _, h, _ => by simp [stripD] at h
theorem all_same {α : Type} {n : Nat} {x : α} : ∀ y ∈ List.replicate n x, y = x := fun y hy => (List.mem_replicate.1 hy).2
structure Cut where
  call : Bool
  at_ : Nat
  nk : Nat
  keep : List Nat
  keepB : List Nat
  keepRo : List Nat
  sums : List Sum
def Cut.hit (c : Cut) (items : List Item) (nk : Nat) : Bool := match items with
  | .code (.region id _ _) :: _ => match c.call, Nat.beq id c.at_ with
    | false, true => Nat.ble c.nk nk
    | _, _ => false
  | .inRegion ops (i :: _) :: _ => match c.call with
    | true => match ops[i]? with
      | some o => match o.op with
        | .call cl => match cl.callee with
          | .value (.func g) => match Nat.beq g c.at_ with
            | true => Nat.ble c.nk nk
            | false => false
          | _ => false
        | _ => false
      | none => false
    | false => false
  | _ => false
def stepCut (c : Cut) (other : Run_) : Run_ := fun C Γ items σ nk k => match c.hit items nk with
  | true => match C.top with
    | true => match cutS c.keep c.keepB c.keepRo σ with
      | some σ' => .stop items σ'
      | none => .bad
    | false => other C Γ items σ nk k
  | false => other C Γ items σ nk k
section
variable {P : Program} {main : Co}
theorem stepCut_sound {c : Cut} {other : Run_} (hother : SoundEx P main other) : SoundEx P main (stepCut c other) := by
  intro D E C r Γ items σ nk k ρ Q F hr hv hΓ hk hK hE h a S hf
  unfold stepCut at h
  split at h
  · split at h
    · rename_i ht
      split at h
      · rename_i σ' hc
        exact hE ht ρ _ σ' (Ext.refl ρ) h a S (cut_fit hf hc)
      · exact h.elim
    · exact hother D E C r Γ items σ nk k ρ Q F hr hv hΓ hk hK hE h a S hf
  · exact hother D E C r Γ items σ nk k ρ Q F hr hv hΓ hk hK hE h a S hf
end
def bothC (P : Program) (inl : FuncId → Bool) (hk : Hook) (com : FuncId → Bool) (hm : Hk_) (exW : Run_) (dry : Dry) (c : Cut) : Nat → Run_ × Call_
  | 0 => (fun C _ items σ _ _ => stuck_ { C with top := false } items σ, fun _ _ _ _ _ _ _ => .bad)
  | n + 1 => let A := bothC P inl hk com hm exW dry c n
    (fun C Γ items σ nk k => match C.top with
      | true => stepCut c (stepY P inl A.1 A.2) C Γ items σ nk k
      | false => match com C.fn with
        | true => stepH P inl hm A.1 A.2 (stepY P inl A.1 A.2) C Γ items σ nk k
        | false => stepY P inl A.1 A.2 C Γ items σ nk k,
      callS c.sums (callG P inl hk exW dry A.1 A.2))
noncomputable def cutR (P : Program) (inl : FuncId → Bool) (c : Cut) (A : Run_ × Call_) (C : Cx) (Γ : Facts) (items : List Item) (σ : SS) (nk : Nat) (k : Kont) : Tree :=
  stepCut c (fun C Γ items σ nk k => stepRY items P inl A C Γ items σ nk k) C Γ items σ nk k
noncomputable def bothRC (P : Program) (inl : FuncId → Bool) (hk : Hook) (com : FuncId → Bool) (hm : Hk_) (exW : Run_) (dry : Dry) (c : Cut) (n : Nat) : Run_ × Call_ :=
  Nat.rec (motive := fun _ => Run_ × Call_) (fun C _ items σ _ _ => stuck_ { C with top := false } items σ, fun _ _ _ _ _ _ _ => .bad)
    (fun _ A => (fun C Γ items σ nk k => Bool.rec (motive := fun _ => Tree) (Bool.rec (motive := fun _ => Tree) (stepRY items P inl A C Γ items σ nk k) (comR P inl hm A C Γ items σ nk k) (com C.fn)) (cutR P inl c A C Γ items σ nk k) C.top, callS c.sums (callG P inl hk exW dry A.1 A.2))) n
theorem bothRC_eq (P : Program) (inl : FuncId → Bool) (hk : Hook) (com : FuncId → Bool) (hm : Hk_) (exW : Run_) (dry : Dry) (c : Cut) : ∀ n, bothRC P inl hk com hm exW dry c n = bothC P inl hk com hm exW dry c n
  | 0 => rfl
  | n + 1 => by
    show (fun C Γ items σ nk k => Bool.rec (motive := fun _ => Tree) (Bool.rec (motive := fun _ => Tree) (stepRY items P inl (bothRC P inl hk com hm exW dry c n) C Γ items σ nk k) (comR P inl hm (bothRC P inl hk com hm exW dry c n) C Γ items σ nk k) (com C.fn)) (cutR P inl c (bothRC P inl hk com hm exW dry c n) C Γ items σ nk k) C.top, callS c.sums (callG P inl hk exW dry (bothRC P inl hk com hm exW dry c n).1 (bothRC P inl hk com hm exW dry c n).2)) = _
    simp only [bothC, bothRC_eq P inl hk com hm exW dry c n, cutR]
    congr 1
    funext C Γ items σ nk k
    cases C.top with
    | true =>
      show stepCut _ _ _ _ _ _ _ _ = stepCut _ _ _ _ _ _ _ _
      congr 1
      funext C Γ items σ nk k
      exact stepRY_eq P inl _ C Γ items σ nk k
    | false =>
      cases com C.fn with
      | true => exact comR_eq P inl hm _ C Γ items σ nk k
      | false => exact stepRY_eq P inl _ C Γ items σ nk k
theorem Facts.On.ext {ρ ρ' : Env} (h : ({} : Facts).On ρ) (he : Ext ρ ρ') : ({} : Facts).On ρ' := by
  obtain ⟨t, rfl⟩ := he
  exact ⟨by simp, by simp, h.lens, by simp⟩
section
variable {P : Program} {N : Nat} {w0 : Option World}
theorem bothC_sound {inl : FuncId → Bool} {hk : Hook} {com : FuncId → Bool} {hm : Hk_} {exW : Run_} {dry : Dry} {c : Cut} (H : Go.Conc.Lib.WgLib P hk.L) (Gl : GoLib P hk) (Gf : GoFn P hk) (hexW : ∀ K, SoundEx P (Mx.Hand P K) exW) (hh : HkOk P (Co.team P N w0) hm) (hs : ∀ s ∈ c.sums, s.Ok P N w0) :
    ∀ n, SoundEx P (Co.team P N w0) (bothC P inl hk com hm exW dry c n).1 ∧ SoundCall P (Co.team P N w0) (bothC P inl hk com hm exW dry c n).2
  | 0 => ⟨fun D E C r Γ items σ nk k ρ Q F hr hv hΓ hk hK hE h a S hf => h.elim, ⟨fun D E f args hp nk Γ k ρ F S Post _ _ _ _ _ _ h => h.elim, fun D E f args m hp nk Γ k ρ F S Post _ _ _ _ _ _ _ h => h.elim⟩⟩
  | n + 1 => by
    obtain ⟨h1, h2⟩ := bothC_sound (inl := inl) (com := com) (dry := dry) (c := c) H Gl Gf hexW hh hs n
    refine ⟨fun D E C r Γ items σ nk k ρ Q F hr hv hΓ hk hK hE h a S hf => ?_, callS_sound hs (callG_sound H Gl Gf hexW h1 h2)⟩
    simp only [bothC] at h
    split at h
    · exact stepCut_sound (stepY_sound h1 h2) D E C r Γ items σ nk k ρ Q F hr hv hΓ hk hK hE h a S hf
    · split at h
      · exact stepH_sound hh h1 h2 (stepY_sound h1 h2) D E C r Γ items σ nk k ρ Q F hr hv hΓ hk hK hE h a S hf
      · exact stepY_sound h1 h2 D E C r Γ items σ nk k ρ Q F hr hv hΓ hk hK hE h a S hf
def From (P : Program) (N : Nat) (w0 : Option World) (f : FuncId) (size nk : Nat) (items : List Item) (σ : SS) (Q : Own → Env → Ex → St → Own → Prop) : Prop :=
  ∀ F ρ0 ρ a S, Ext ρ0 ρ → vals ρ → ({} : Facts).On ρ → ρ.k.length = nk → Fit size F ρ σ a S → wpI P (Co.team P N w0) { fn := some f } items (Q F ρ0) a S
theorem From.cut {f : FuncId} {size nk : Nat} {items : List Item} {σ σ' : SS} {Q : Own → Env → Ex → St → Own → Prop} {keep keepB keepRo : List Nat} (h : cutS keep keepB keepRo σ = some σ') (next : From P N w0 f size nk items σ' Q) : From P N w0 f size nk items σ Q :=
  fun F ρ0 ρ a S he hv hΓ hnk hf => next F ρ0 ρ a S he hv hΓ hnk (cut_fit hf h)
theorem From.piece {inl : FuncId → Bool} {hk : Hook} {com : FuncId → Bool} {hm : Hk_} {exW : Run_} {dry : Dry} {c : Cut} (H : Go.Conc.Lib.WgLib P hk.L) (Gl : GoLib P hk) (Gf : GoFn P hk) (hexW : ∀ K, SoundEx P (Mx.Hand P K) exW) (hh : HkOk P (Co.team P N w0) hm) (hs : ∀ s ∈ c.sums, s.Ok P N w0)
    {f : FuncId} {size nk nk' fuel ways : Nat} {items items' : List Item} {σ σ' : SS} {Q : Own → Env → Ex → St → Own → Prop}
    (h : strip ((bothC P inl hk com hm exW dry c fuel).1 { size, top := true, fn := f } {} items σ nk (fun _ _ _ _ => .bad)) nk = some (List.replicate ways (nk', items', σ'))) (next : From P N w0 f size nk' items' σ' Q) : From P N w0 f size nk items σ Q := by
  intro F ρ0 ρ a S he0 hv hΓ hnk hf
  subst hnk
  refine (bothC_sound (inl := inl) (com := com) (dry := dry) (c := c) H Gl Gf hexW hh hs fuel).1 (fun _ _ _ => True) (fun ρ' items2 σ2 => ∀ a S, Fit size F ρ' σ2 a S → wpI P (Co.team P N w0) { fn := some f } items2 (Q F ρ0) a S) { size, top := true, fn := f } { fn := some f } {} items σ _ (fun _ _ _ _ => .bad) ρ (Q F ρ0) F ⟨rfl, rfl, by simp, rfl⟩ hv hΓ rfl
    (fun _ _ _ _ _ _ _ hh => hh.elim) (fun _ ρ' items2 σ2 he hE a S hfit => hE a S hfit) ?_ a S hf
  exact strip_holds _ ρ ρ _ (Ext.refl ρ) h all_same fun ρ' he hl a S hfit => next F ρ0 ρ' a S (he0.trans he) (vals_ext he hv) (hΓ.ext he) hl hfit
def lastE (keepB keepRo : List Nat) : KEnd := fun e _ hp _ _ => match e with
  | .ret v => match hp.cut (namesSC v ++ keepB) keepRo with
    | some hp => .done (.panic [(v, false, false)]) { hp }
    | none => .bad
  | _ => .bad
def lastK (P : Program) (call : Call_) (g : FuncId) (keepB keepRo : List Nat) : Kont := fun e σ nk Γ => match P.funcs[g]? with
  | some fn => match e with
    | .normal => unw P call fn.results.toList σ.df .ret σ nk Γ (lastE keepB keepRo)
    | .ret => unw P call fn.results.toList σ.df .ret σ nk Γ (lastE keepB keepRo)
    | _ => .bad
  | none => .bad
theorem From.last {inl : FuncId → Bool} {hk : Hook} {com : FuncId → Bool} {hm : Hk_} {exW : Run_} {dry : Dry} {c : Cut} (H : Go.Conc.Lib.WgLib P hk.L) (Gl : GoLib P hk) (Gf : GoFn P hk) (hexW : ∀ K, SoundEx P (Mx.Hand P K) exW) (hh : HkOk P (Co.team P N w0) hm) (hs : ∀ s ∈ c.sums, s.Ok P N w0)
    {f : FuncId} {size nk nk' fuel ways : Nat} {items : List Item} {σ : SS} {v : SC} {hp' : Hp} {keepB keepRo : List Nat}
    (h : stripD ((bothC P inl hk com hm exW dry c fuel).1 { size, top := false, fn := f } {} items σ nk (lastK P (bothC P inl hk com hm exW dry c fuel).2 f keepB keepRo)) nk = some (List.replicate ways (nk', v, hp'))) :
    From P N w0 f size nk items σ fun F ρ0 => bodyPost P (Co.team P N w0) f (Left v hp' nk' F ρ0) := by
  intro F ρ0 ρ a S he0 hv hΓ hnk hf
  subst hnk
  obtain ⟨s1, s2⟩ := bothC_sound (inl := inl) (com := com) (dry := dry) (c := c) H Gl Gf hexW hh hs fuel
  refine s1 (fun ρ' e σ => Ext ρ ρ' ∧ ρ'.k.length = nk' ∧ (∃ a b, e = .panic [(v, a, b)]) ∧ σ.hp = hp') (fun _ _ _ => True) { size, top := false, fn := f } { fn := some f } {} items σ _ _ ρ (bodyPost P (Co.team P N w0) f (Left v hp' nk' F ρ0)) F ⟨rfl, rfl, by simp, rfl⟩ hv hΓ rfl ?_ (fun h => by cases h) (stripD_holds _ ρ ρ _ (Ext.refl ρ) h all_same) a S hf
  intro ρ' e σ' Γ' he hΓ' hok hh a' S' hfit
  unfold lastK at hh
  split at hh
  · rename_i fn hfn
    have key : holds (fun ρ' e σ => Ext ρ ρ' ∧ ρ'.k.length = nk' ∧ (∃ a b, e = .panic [(v, a, b)]) ∧ σ.hp = hp') (fun _ _ _ => True) ρ' (unw P (bothC P inl hk com hm exW dry c fuel).2 fn.results.toList σ'.df .ret σ' ρ'.k.length Γ' (lastE keepB keepRo)) → Unw P (Co.team P N w0) f .returning a'.tmps a'.defers S' (Left v hp' nk' F ρ0) := by
      intro hh
      rw [hfit.df]
      refine unw_sound s2 hfn σ'.df .ret σ' _ Γ' ρ' S' (vals_ext he hv) hΓ' rfl rfl hfit.dfok trivial hfit.sl.bare hfit.hp (fun ρ2 e2 hp2 Γ2 he2 hΓ2 hok2 hh2 S2 hs2 => ?_) hh
      unfold lastE at hh2
      split at hh2
      · rename_i v2
        split at hh2
        · rename_i hp3 hcut
          obtain ⟨k1, k2, ⟨x, y, k3⟩, k4⟩ := hh2
          cases k3
          simp only at k4
          subst k4
          exact ⟨ρ2, he0.trans k1, hΓ.ext k1, k2, rfl, hok2, (cut_sat hs2 hcut).1⟩
        · exact hh2.elim
      · exact hh2.elim
    cases e with
    | normal => exact key hh
    | ret => exact key hh
    | panic ch => exact hh.elim
    | exit id => exact hh.elim
    | goto l => exact hh.elim
  · exact hh.elim
theorem CallTo.of {g : FuncId} {fn : Func} {c : Code} {args : List SC} {hp hp' : Hp} {nk nk' : Nat} {v : SC} (hf : P.funcs[g]? = some fn) (hname : (fn.name == "runtime.NumGoroutine") = false) (hb : fn.body = some c)
    (h : From P N w0 g (args.length + (fn.ntmps - args.length)) nk [.code c] { sl := slotsOf args 0 .nil, hp, df := [], cm := none } fun F ρ0 => bodyPost P (Co.team P N w0) g (Left v hp' nk' F ρ0)) : CallTo P N w0 g args hp nk v hp' nk' :=
  ⟨⟨fn, hf, hname, by rw [hb]; rfl⟩, fun F ρ S hv hΓ hnk hargs hs => Calls.enter hf hb (wp_items (h F ρ ρ _ S (Ext.refl ρ) hv hΓ hnk (entry_fit (cm := none) hargs (by simp) hs)))⟩
def callAt (size : Nat) (items : List Item) (σ : SS) : Option (FuncId × List SC × List Item × Option Tmp) := match items with
  | .inRegion ops (i :: rest) :: tail => match ops[i]? with
    | some o => match symWanted σ.sl ops o with
      | some (.inl true) => match o.op with
        | .call c => match calleeOf (evC σ.sl) c, o.dst.all (· < size) with
          | some (g, args, caps), true => some (g, args ++ caps, .inRegion ops rest :: tail, o.dst)
          | _, _ => none
        | _ => none
      | _ => none
    | none => none
  | _ => none
theorem From.call {f g : FuncId} {size nk nk' : Nat} {items items' : List Item} {σ : SS} {args : List SC} {dst : Option Tmp} {v : SC} {hp' : Hp} {Q : Own → Env → Ex → St → Own → Prop} (h : callAt size items σ = some (g, args, items', dst)) (hc : CallTo P N w0 g args σ.hp nk v hp' nk')
    (next : From P N w0 f size nk' items' { σ with sl := putD σ.sl dst v, hp := hp' } Q) : From P N w0 f size nk items σ Q := by
  intro F ρ0 ρ a S he0 hv hΓ hnk hf
  unfold callAt at h
  split at h
  · rename_i ops i rest tail
    split at h
    · rename_i o ho
      split at h
      · rename_i hw
        split at h
        · rename_i c hop
          split at h
          · rename_i g' as caps hcal hd
            simp only [Option.some.injEq, Prod.mk.injEq] at h
            obtain ⟨rfl, rfl, rfl, rfl⟩ := h
            obtain ⟨h1, h2, h3⟩ := calleeOf_run (evC_ok hf.sl) hcal o.type
            refine wpI_op ho (symWanted_inl hf.sl hw) (by unfold plainOp; rw [hop]; simp) ?_
            have hred : execOp a.eval o = callFunc g' ((as.map (SC.den ρ)).toArray ++ (caps.map (SC.den ρ)).toArray) := by
              simp only [execOp, hop, h3, invoke]
              rfl
            rw [hred]
            have e1 : (as.map (SC.den ρ)).toArray ++ (caps.map (SC.den ρ)).toArray = ((as ++ caps).map (SC.den ρ)).toArray := by apply Array.ext'; simp
            rw [e1]
            refine run_callFunc hc.1 ?_
            have hcc := hc.2 F ρ S hv hΓ hnk (fun x hx => by
              rcases List.mem_append.1 hx with hx | hx
              · exact h1 x hx
              · exact h2 x hx) hf.hp
            refine Calls.mono (Post' := fun e S' => match e with
                | .returned v => wpI P (Co.team P N w0) { fn := some f } (.inRegion ops rest :: tail) (Q F ρ0) (a.put o.dst v) S'
                | .panicked ch => Q F ρ0 (.panic ch) a S') hcc ?_
            rintro e S' ⟨ρ', he, hΓ', hnk', rfl, hok, hs'⟩
            have hl := (hf.later he hs').put (dst := o.dst) hd hok
            exact next F ρ0 ρ' _ S' (he0.trans he) (vals_ext he hv) hΓ' hnk' hl
          · cases h
        · cases h
      · cases h
    · cases h
  · cases h
theorem CallTo.done {g : FuncId} {hp hp' : Hp} {nk' : Nat} {v : SC} (h : CallTo P N w0 g [] hp 16 v hp' nk') (hgh : hp'.gh = .none) {S : Own} (hs : Sat env0 hp S S) {good : Value → Prop} (hgood : ∀ ρ : Env, good (v.den ρ)) :
    Calls P (Co.team P N w0) g #[] S fun e S' => (∃ v, e = .returned v ∧ good v) ∧ S'.gh = .none ∧ (∀ b o, S.ro b = some o → S'.ro b = some o) ∧ ∀ b o, S.full b = some o → S'.full b = some o := by
  have := h.2 S env0 S vals0 ⟨by simp, by simp, fun i => by simp [Env.list, maxLens, env0], by simp⟩ rfl (by simp) hs
  refine this.mono ?_
  rintro e S' ⟨ρ', he, hΓ', hnk', rfl, hok, hs'⟩
  exact ⟨⟨_, rfl, hgood ρ'⟩, by rw [hs'.gh, hgh]; rfl, hs'.ro, hs'.frm⟩
end
def itemsTo (id : Nat) : Code → List Item → Option (List Item)
  | .region i ops d, tail => match Nat.beq i id with
    | true => some (.code (.region i ops d) :: tail)
    | false => none
  | .seq a b, tail => match itemsTo id a (.code b :: tail) with
    | some l => some l
    | none => itemsTo id b tail
  | .cond _ x y, tail => match itemsTo id x tail with
    | some l => some l
    | none => itemsTo id y tail
  | .block n c, tail => itemsTo id c (.inBlock n :: tail)
  | .loop c, tail => itemsTo id c (.inLoop c :: tail)
  | .scope c, tail => itemsTo id c (.inScope c :: tail)
  | _, _ => none
def bodyOf (P : Program) (f : FuncId) : Code := match P.funcs[f]? with
  | some fn => match fn.body with
    | some c => c
    | none => .skip
  | none => .skip
def atStm (P : Program) (f id : Nat) : List Item := match itemsTo id (bodyOf P f) [] with
  | some l => l
  | none => []
def atOp (P : Program) (f id i : Nat) : List Item := match itemsTo id (bodyOf P f) [] with
  | some (.code (.region _ ops _) :: tail) => .inRegion ops ((List.range ops.size).drop i) :: tail
  | _ => []
noncomputable def Conf.exW (c : Conf) (P : Program) (n : Nat) : Run_ := (bothRW P (fun _ => true) c.coms (c.hW P) n).1
noncomputable def Conf.dry (c : Conf) (P : Program) (n : Nat) : Dry := dryF P c.hk (bothRW P (fun _ => true) c.coms (c.hD P) n).1
noncomputable def Conf.run (c : Conf) (P : Program) (n : Nat) (cut : Cut) : Run_ × Call_ := bothRC P (fun _ => true) c.hk c.coms (c.hM P) (c.exW P n) (c.dry P n) cut n
section
variable {P : Program} {N : Nat} {w0 : Option World} {c : Conf}
theorem Conf.Ok.exW (h : c.Ok P) (n : Nat) : ∀ K, SoundEx P (Mx.Hand P K) (c.exW P n) := fun K => by
  unfold Conf.exW
  rw [bothRW_eq]
  exact (bothW_sound h.hW n).1
theorem Conf.Ok.piece (h : c.Ok P) {n ways : Nat} {cut : Cut} {f : FuncId} {size nk nk' : Nat} {items items' : List Item} {σ σ' : SS} {Q : Own → Env → Ex → St → Own → Prop}
    (hr : strip ((c.run P n cut).1 { size, top := true, fn := f } {} items σ nk (fun _ _ _ _ => .bad)) nk = some (List.replicate ways (nk', items', σ'))) (hs : ∀ s ∈ cut.sums, s.Ok P N w0) (next : From P N w0 f size nk' items' σ' Q) : From P N w0 f size nk items σ Q := by
  unfold Conf.run at hr
  rw [bothRC_eq] at hr
  exact From.piece h.wg h.gl h.gf (h.exW n) h.hM hs hr next
theorem Conf.Ok.last (h : c.Ok P) {n ways : Nat} {cut : Cut} {f : FuncId} {size nk nk' : Nat} {items : List Item} {σ : SS} {v : SC} {hp' : Hp} {keepB keepRo : List Nat}
    (hr : stripD ((c.run P n cut).1 { size, top := false, fn := f } {} items σ nk (lastK P (c.run P n cut).2 f keepB keepRo)) nk = some (List.replicate ways (nk', v, hp'))) (hs : ∀ s ∈ cut.sums, s.Ok P N w0) :
    From P N w0 f size nk items σ fun F ρ0 => bodyPost P (Co.team P N w0) f (Left v hp' nk' F ρ0) := by
  unfold Conf.run at hr
  rw [bothRC_eq] at hr
  exact From.last h.wg h.gl h.gf (h.exW n) h.hM hs hr
end
def fnOf (P : Program) (g : FuncId) : Func := match P.funcs[g]? with
  | some fn => fn
  | none => default
structure FnOk (P : Program) (g : FuncId) : Prop where
  fn : P.funcs[g]? = some (fnOf P g)
  name : ((fnOf P g).name == "runtime.NumGoroutine") = false
  body : (fnOf P g).body = some (bodyOf P g)
theorem CallTo.at_ {P : Program} {N : Nat} {w0 : Option World} {g : FuncId} {args : List SC} {hp hp' : Hp} {nk nk' size : Nat} {v : SC} (hf : FnOk P g) (hsize : args.length + ((fnOf P g).ntmps - args.length) = size)
    (h : From P N w0 g size nk [.code (bodyOf P g)] { sl := slotsOf args 0 .nil, hp, df := [], cm := none } fun F ρ0 => bodyPost P (Co.team P N w0) g (Left v hp' nk' F ρ0)) : CallTo P N w0 g args hp nk v hp' nk' := by
  subst hsize
  exact CallTo.of hf.fn hf.name hf.body h
def noCut (sums : List Sum) : Cut := { call := false, at_ := 99999, nk := 0, keep := [], keepB := [], keepRo := [], sums }
theorem noSums {P : Program} {N : Nat} {w0 : Option World} : ∀ s ∈ ([] : List Sum), s.Ok P N w0 := fun _ h => by cases h
theorem oneSum {P : Program} {N : Nat} {w0 : Option World} {s : Sum} (h : s.Ok P N w0) : ∀ x ∈ [s], x.Ok P N w0 := fun x hx => by rw [List.mem_singleton.1 hx]; exact h
end Mw
