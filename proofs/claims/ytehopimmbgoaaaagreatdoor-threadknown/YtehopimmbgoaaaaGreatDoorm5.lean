/- A logic over the machine and a run of a program on unknown values, in the kernel. No statement of the project is proved in this text. -/
import Derived.Test.YtehopimmbgoaaaaGreatDoorm4
set_option linter.unusedVariables false
set_option linter.unusedSimpArgs false
set_option linter.unusedVariables false
namespace Mw
open Go Mv
structure ShapeOk (n : Nat) (s : Shape) : Prop where
 perm : s.2.1.Perm (List.range n)
 len : s.2.2.length = n
 sorted : s.2.2.Pairwise (· < ·)
 below : ∀ x ∈ s.2.2, x < s.1
theorem shapeB_ok {n : Nat} {s : Shape} (h : shapeB n s = true) : ShapeOk n s := by
 simp only [shapeB, Bool.and_eq_true, decide_eq_true_eq, List.all_eq_true] at h
 exact ⟨List.isPerm_iff.1 h.1.1.1, h.1.1.2, h.1.2, h.2⟩
theorem shapeB_of {n : Nat} {s : Shape} (h : ShapeOk n s) : shapeB n s = true := by
 simp only [shapeB, Bool.and_eq_true, decide_eq_true_eq, List.all_eq_true]
 exact ⟨⟨⟨List.isPerm_iff.2 h.perm, h.len⟩, h.sorted⟩, h.below⟩
theorem Env.shape_ok (ρ : Env) (n sh : Nat) : ShapeOk n (ρ.shape n sh) := by
 unfold Env.shape
 split
 ·rename_i h; exact shapeB_ok h
 ·exact ⟨.refl _, by simp, List.pairwise_lt_range, fun x hx => List.mem_range.1 hx⟩
theorem ShapeOk.plen {n : Nat} {s : Shape} (h : ShapeOk n s) : s.2.1.length = n := by rw [h.perm.length_eq, List.length_range]
theorem pin_kv {l : List (Value × Value)} {s : Shape} (h : ShapeOk l.length s) : ((pinE l s).map kv).Perm l := by
 have e1 : (pinE l s).map kv = s.2.1.map fun i => match l[i]? with | some y => y | none => (undef, undef) := by
  unfold pinE
  rw [List.map_map]
  have : ∀ (p q : List Nat), p.length ≤ q.length → (p.zip q).map (kv ∘ fun x : Nat × Nat => match l[x.1]? with | some y => ({ key := y.1, val := y.2, born := x.2 } : MapEntry) | none => { key := undef, val := undef, born := x.2 }) = p.map fun i => match l[i]? with | some y => y | none => (undef, undef) := by
   intro p
   induction p with
   | nil => intro q _; rfl
   | cons a p ih =>
    intro q hq
    cases q with
    | nil => simp at hq
    | cons b q =>
     rw [List.zip_cons_cons, List.map_cons, List.map_cons, ih q (by simpa using hq)]
     congr 1
     simp only [Function.comp, kv]
     cases l[a]? <;> rfl
  exact this _ _ (by rw [h.plen, h.len]; exact Nat.le_refl _)
 rw [e1]
 refine (h.perm.map _).trans ?_
 have e2 : (List.range l.length).map (fun i => match l[i]? with | some y => y | none => (undef, undef)) = l := by
  apply List.ext_getElem?
  intro i
  rw [List.getElem?_map]
  by_cases hi : i < l.length
  ·rw [List.getElem?_range hi]
   simp [List.getElem?_eq_getElem hi]
  ·rw [List.getElem?_eq_none (by simpa using hi), List.getElem?_eq_none (by omega)]; rfl
 rw [e2]
theorem zip_born {l : List (Value × Value)} {s : Shape} (h : ShapeOk l.length s) : (pinE l s).map (·.born) = s.2.2 := by
 unfold pinE
 rw [List.map_map]
 have : ∀ (p q : List Nat), p.length = q.length → (p.zip q).map ((·.born) ∘ fun x : Nat × Nat => match l[x.1]? with | some y => ({ key := y.1, val := y.2, born := x.2 } : MapEntry) | none => { key := undef, val := undef, born := x.2 }) = q := by
  intro p
  induction p with
  | nil => intro q hq; cases q with | nil => rfl | cons b q => cases hq
  | cons a p ih =>
   intro q hq
   cases q with
   | nil => cases hq
   | cons b q =>
    rw [List.zip_cons_cons, List.map_cons, ih q (by simpa using hq)]
    congr 1
    simp only [Function.comp]
    cases l[a]? <;> rfl
 exact this _ _ (by rw [h.plen, h.len])
theorem pin_stamps {l : List (Value × Value)} {s : Shape} (h : ShapeOk l.length s) : Stamps (pinE l s) s.1 := by
 have hb := zip_born h
 refine ⟨?_, fun e he => h.below _ ?_⟩
 ·have : ((pinE l s).map (·.born)).Pairwise (· < ·) := by rw [hb]; exact h.sorted
  exact List.pairwise_map.1 this
 ·rw [← hb]; exact List.mem_map_of_mem he
theorem absE_kv (l : List (Value × Value)) : (absE l).map kv = l := by
 unfold absE
 rw [List.map_map]
 exact (List.map_congr_left fun x _ => rfl).trans (List.map_id _)
section
variable {P : Program} {ρ : Env} {hp : Hp} {F S0 S : Own} {ev : Operand → Option SC} {ev' : Operand → Value} {o : Oper} {e : Eff}
def entriesOf (hp : Hp) : SC → Option (List (SC × SC))
 | .lit (.map none) => some []
 | .ref b => match hp.get b with
  | some (.map es) => some es
  | some (.pin es _) => some es
  | _ => none
 | _ => none
theorem entriesOf_run (hs : Sat ρ hp F S) {x : SC} {es : List (SC × SC)} (h : entriesOf hp x = some es) : (∀ y ∈ es, y.1.ok ρ.k.length ∧ y.2.ok ρ.k.length) ∧ ((x.den ρ = .map none ∧ es = []) ∨
  ∃ r, x.den ρ = .map (some r) ∧ ∀ {α : Type} {f : Obj → Sem α} {K : Except Value α → Own → Prop}, (∀ L c, (L.toList.map kv).Perm (es.map (pairD ρ)) → Run P S0 (f (.map L c)) S K) → Run P S0 ((getObj r).bind f) S K) := by
 unfold entriesOf at h
 split at h
 ·simp only [Option.some.injEq] at h; subst h
  exact ⟨by simp, .inl ⟨rfl, rfl⟩⟩
 ·rename_i b
  split at h
  ·rename_i es' hg
   simp only [Option.some.injEq] at h; subst h
   obtain ⟨_, hok, hget⟩ := hs.get hg
   refine ⟨hok, .inr ⟨_, rfl, fun {α f K} hK => ?_⟩⟩
   refine Run.getMap hget fun L c hp' _ => ?_
   refine hK L c ?_
   rw [List.toList_toArray, absE_kv] at hp'
   exact hp'
  ·rename_i es' sh hg
   simp only [Option.some.injEq] at h; subst h
   obtain ⟨_, hok, hget⟩ := hs.get hg
   refine ⟨hok.2, .inr ⟨_, rfl, fun {α f K} hK => ?_⟩⟩
   have hsh : ShapeOk (es'.map (pairD ρ)).length (ρ.shape es'.length sh) := by rw [List.length_map]; exact ρ.shape_ok _ _
   refine Run.getPin hget (by rw [List.toList_toArray]; exact pin_stamps hsh) fun c' _ => ?_
   refine hK _ c' ?_
   rw [List.toList_toArray]
   exact pin_kv hsh
  ·cases h
 ·cases h
def pairOk (c : Bool) (v : SC) (b : Bool) : SC := match c with
 | true => .tup [v, .bool (.lit b)]
 | false => v
def sLookup (P : Program) (hp : Hp) (t : TypeId) (x k : Option SC) (commaOk : Bool) : Option Eff := match P.underlying t, x, k with
 | some (.map kt el), some x, some k => match entriesOf hp x, P.underlying kt, keyF P 6 kt k with
  | some es, some d, true => match findS (eqK P hp d kt k) es with
   | some (some i) => match es[i]? with
    | some y => some (.val [] (pairOk commaOk y.2 true))
    | none => none
   | some none => match P.info? el with
    | some i => match i.zero with
     | some z => some (.val [] (pairOk commaOk (ofVal z) false))
     | none => none
    | none => none
   | none => none
  | _, _, _ => none
 | _, _, _ => none
theorem sLookup_good {t : TypeId} {x k : Operand} {c : Bool} (hop : o.op = .lookup t x k c) (hs : Sat ρ hp F S) (hev : EvOk ρ ev ev') (h : sLookup P hp t (ev x) (ev k) c = some e) : EffGood P ρ hp S0 S (execOp ev' o) e := by
 have hred : execOp ev' o = (do pure (.value (← Instr.lookup t (ev' x) (ev' k) c)) : Sem Next) := by simp only [execOp, hop]
 unfold sLookup at h
 split at h
 ·rename_i kt el x0 k0 hu hx hk
  obtain ⟨hxo, hx'⟩ := hev x _ hx
  obtain ⟨hko, hk'⟩ := hev k _ hk
  split at h
  ·rename_i es d hes hd hf
   obtain ⟨heo, hrun⟩ := entriesOf_run (P := P) (S0 := S0) hs hes
   have enter : ∀ {K : Except Value Value → Own → Prop}, (∀ L : List MapEntry, (L.map kv).Perm (es.map (pairD ρ)) → Run P S0 ((Instr.findKey kt (k0.den ρ) L).bind fun r => match r with
      | some (_, v) => (pure (v, true) : Sem (Value × Bool)).bind fun x => pure (if c = true then .tuple #[x.1, .bool x.2] else x.1)
      | none => (zeroValue el).bind fun z => (pure (z, false) : Sem (Value × Bool)).bind fun x => pure (if c = true then .tuple #[x.1, .bool x.2] else x.1)) S K) → Run P S0 (Instr.lookup t (ev' x) (ev' k) c) S K := by
    intro K hK
    rw [hx', hk', ← Sem.bind_pure' (Instr.lookup t _ _ c)]
    unfold Instr.lookup
    simp only [bind]
    rw [Sem.bind_assoc']
    refine run_underlying hu ?_
    rw [Sem.bind_pure']
    rcases hrun with ⟨e1, e2⟩ | ⟨r, e1, hr⟩
    ·rw [e1]
     refine keyF_run (em := (#[] : Array MapEntry).isEmpty) 6 10000 kt k0 (by decide) hf hko ?_
     exact hK [] (by rw [e2]; exact .refl _)
    ·rw [e1]
     refine hr fun L c' hL => ?_
     refine keyF_run (em := L.isEmpty) 6 10000 kt k0 (by decide) hf hko ?_
     exact hK L.toList hL
   split at h
   ·rename_i i hi
    split at h
    ·rename_i y hy
     simp only [Option.some.injEq] at h; subst h
     refine good_val hred ?_ fun _ K hK => enter fun L hL => find_hit hs hd hko heo hL hi fun pre e post A z B h1 h2 h3 h4 => ?_
     ·have := (heo y (List.mem_of_getElem? hy)).2
      unfold pairOk
      split
      ·exact ⟨this, trivial, trivial⟩
      ·exact this
     ·have e1 : z = y := by
       rw [h2, ← h3] at hy
       simpa using hy
      subst e1
      have e2 : e.val = z.2.den ρ := congrArg Prod.snd h4
      simp only [e2]
      cases c <;> exact Run.pure hK
    ·cases h
   ·rename_i hi
    split at h
    ·rename_i ti hti
     split at h
     ·rename_i z hz
      simp only [Option.some.injEq] at h; subst h
      refine good_val hred ?_ fun _ K hK => enter fun L hL => find_miss hs hd hko heo hL hi ?_
      ·unfold pairOk
       split
       ·exact ⟨ok_ofVal _ z, trivial, trivial⟩
       ·exact ok_ofVal _ z
      ·refine run_zeroValue hti hz ?_
       have e1 := den_ofVal ρ z
       cases c
       ·simp only [pairOk, e1] at hK
        exact Run.pure hK
       ·simp only [pairOk, SC.den, dens, e1] at hK
        exact Run.pure hK
     ·cases h
    ·cases h
   ·cases h
  ·cases h
 ·cases h
def bitsF : Nat → SC → Bool
 | _, .int _ _ => true
 | _, .bool _ => true
 | _, .lit (.string _) => true
 | n + 1, .agg l => l.all (bitsF n)
 | _, _ => false
theorem bitsF_ok : ∀ (n m : Nat) (x : SC), n ≤ m → bitsF n x = true → Instr.sameBits m (x.den ρ) (x.den ρ) = true := by
 have prim : ∀ (m : Nat) (x : SC), (match x with | .int _ _ | .bool _ | .lit (.string _) => true | _ => false) = true → Instr.sameBits m (x.den ρ) (x.den ρ) = true := by
  intro m x h
  split at h
  ·cases m <;> simp [SC.den, Instr.sameBits]
  ·cases m <;> simp [SC.den, Instr.sameBits]
  ·rename_i b
   have hb : (b == b) = true := by
    cases b
    show (_ == _) = true
    exact beq_self_eq_true (α := Array UInt8) _
   cases m <;> simp [SC.den, Instr.sameBits, hb]
  ·cases h
 intro n
 induction n with
 | zero =>
  intro m x _ h
  cases x with
  | int k e => exact prim m _ rfl
  | bool b => exact prim m _ rfl
  | lit v => cases v <;> first | exact prim m _ rfl | (simp [bitsF] at h; done)
  | _ => simp [bitsF] at h
 | succ n ih =>
  intro m x hm h
  cases x with
  | int k e => exact prim m _ rfl
  | bool b => exact prim m _ rfl
  | lit v => cases v <;> first | exact prim m _ rfl | (simp [bitsF] at h; done)
  | agg l =>
   obtain ⟨m, rfl⟩ : ∃ k, m = k + 1 := ⟨m - 1, by omega⟩
   simp only [bitsF, List.all_eq_true] at h
   simp only [SC.den, Instr.sameBits, beq_self_eq_true, Bool.true_and, List.all_eq_true, dens_eq]
   intro y hy
   obtain ⟨a, b⟩ := y
   have e1 : ∀ (l : List Value) (a b : Value), (a, b) ∈ l.zip l → a = b ∧ a ∈ l := by
    intro l
    induction l with
    | nil => intro a b h; simp at h
    | cons z l ihl =>
     intro a b h
     rw [List.zip_cons_cons] at h
     rcases List.mem_cons.1 h with h | h
     ·simp only [Prod.mk.injEq] at h; exact ⟨h.1.trans h.2.symm, by rw [h.1]; exact List.mem_cons_self⟩
     ·obtain ⟨h1, h2⟩ := ihl a b h; exact ⟨h1, List.mem_cons_of_mem _ h2⟩
   obtain ⟨h1, h2⟩ := e1 _ a b hy
   subst h1
   obtain ⟨z, hz, rfl⟩ := List.mem_map.1 h2
   exact ih m z (by omega) (h z hz)
  | _ => simp [bitsF] at h
theorem stamps_born {es es' : List MapEntry} {c : Nat} (e : es'.map (·.born) = es.map (·.born)) (h : Stamps es c) : Stamps es' c := by
 refine ⟨?_, fun x hx => ?_⟩
 ·have : (es'.map (·.born)).Pairwise (· < ·) := by rw [e]; exact List.pairwise_map.2 h.1
  exact List.pairwise_map.1 this
 ·have : x.born ∈ es'.map (·.born) := List.mem_map_of_mem hx
  rw [e] at this
  obtain ⟨y, hy, hy'⟩ := List.mem_map.1 this
  rw [← hy']; exact h.2 y hy
theorem modify_mid {α : Type} (f : α → α) (e : α) (post : List α) : ∀ pre : List α, (pre ++ e :: post).modify pre.length f = pre ++ f e :: post
 | [] => by simp
 | x :: pre => by simp [modify_mid f e post pre]
def cmpL (f : SC → SC → Ordering) : List SC → List SC → Ordering
 | [], [] => .eq
 | [], _ :: _ => .lt
 | _ :: _, [] => .gt
 | x :: l, y :: m => match f x y with
  | .eq => cmpL f l m
  | r => r
def cmpS : Nat → SC → SC → Ordering
 | n, x, y => match x, y with
  | .int _ (.lit a), .int _ (.lit b) => match Int.less a b with
   | true => .lt
   | false => match Int.less b a with
    | true => .gt
    | false => .eq
  | .bool (.lit a), .bool (.lit b) => match a, b with
   | false, true => .lt
   | true, false => .gt
   | _, _ => .eq
  | .agg l, .agg m => match n with
   | n + 1 => cmpL (cmpS n) l m
   | 0 => .eq
  | _, _ => .eq
def insS (x : SC × SC) : List (SC × SC) → List (SC × SC)
 | [] => [x]
 | y :: l => match cmpS 6 x.1 y.1 with
  | .gt => y :: insS x l
  | _ => x :: y :: l
theorem insS_perm (x : SC × SC) : ∀ l, (insS x l).Perm (x :: l)
 | [] => .refl _
 | y :: l => by
  simp only [insS]
  split
  ·exact ((insS_perm x l).cons y).trans (.swap _ _ _)
  ·exact .refl _
def setV : Nat → SC → List (SC × SC) → List (SC × SC)
 | _, _, [] => []
 | 0, v, x :: l => (x.1, v) :: l
 | i + 1, v, x :: l => x :: setV i v l
theorem setV_mid (v : SC) (x : SC × SC) (B : List (SC × SC)) : ∀ A : List (SC × SC), setV A.length v (A ++ x :: B) = A ++ (x.1, v) :: B
 | [] => rfl
 | y :: A => by simp [setV, setV_mid v x B A]
def sUpdate (P : Program) (hp : Hp) (t : TypeId) (m k v : Option SC) : Option Eff := match P.underlying t, m, k, v with
 | some (.map kt _), some (.ref b), some k, some v => match hp.rw.look b, P.underlying kt, keyF P 6 kt k with
  | some (.map es), some d, true => match findS (eqK P hp d kt k) es with
   | some (some i) => match es[i]? with
    | some y => match SC.same 6 y.1 k, bitsF 6 k with
     | true, true => some (.store [] b (.map (setV i v es)))
     | _, _ => none
    | none => none
   | some none => some (.store [] b (.map (insS (k, v) es)))
   | none => none
  | _, _, _ => none
 | _, _, _, _ => none
theorem sUpdate_good {t : TypeId} {m k v : Operand} (hop : o.op = .mapUpdate t m k v) (hs : Sat ρ hp F S) (hev : EvOk ρ ev ev') (h : sUpdate P hp t (ev m) (ev k) (ev v) = some e) : EffGood P ρ hp S0 S (execOp ev' o) e := by
 have hred : execOp ev' o = (do Instr.mapUpdate t (ev' m) (ev' k) (ev' v); pure .skip : Sem Next) := by simp only [execOp, hop]
 unfold sUpdate at h
 split at h
 ·rename_i kt el b k0 v0 hu hm hk hv
  obtain ⟨_, hm'⟩ := hev m _ hm
  obtain ⟨hko, hk'⟩ := hev k _ hk
  obtain ⟨hvo, hv'⟩ := hev v _ hv
  split at h
  ·rename_i es d hb hd hf
   obtain ⟨hblt, heo, hfull⟩ := hs.has b _ hb
   have heo : ∀ x ∈ es, x.1.ok ρ.k.length ∧ x.2.ok ρ.k.length := heo
   have hget : S.get (ρ.blk b) = some ((SO.map es).den ρ) := by unfold Own.get; rw [hfull]; rfl
   have enter : ∀ {K : Except Value Unit → Own → Prop}, (∀ (L : Array MapEntry) (c : Nat), (L.toList.map kv).Perm (es.map (pairD ρ)) → Stamps L.toList c → Run P S0 ((Instr.findKey kt (k0.den ρ) L.toList).bind fun r => match r with
      | some (i, _) => (Instr.keyThatStays (((L[i]?).map (·.key)).getD (k0.den ρ)) (k0.den ρ)).bind fun key => setObj (ρ.blk b) (.map (L.modify i fun e => { e with key, val := v0.den ρ }) c)
      | none => setObj (ρ.blk b) (.map (L.push { key := k0.den ρ, val := v0.den ρ, born := c }) (c + 1))) S K) → Run P S0 (Instr.mapUpdate t (ev' m) (ev' k) (ev' v)) S K := by
    intro K hK
    rw [hm', hk', hv', ← Sem.bind_pure' (Instr.mapUpdate t _ _ _)]
    unfold Instr.mapUpdate
    simp only [bind]
    rw [Sem.bind_assoc']
    refine run_underlying hu ?_
    rw [Sem.bind_pure']
    simp only [SC.den]
    refine Run.getMap hget fun L c hL hst => ?_
    rw [List.toList_toArray, absE_kv] at hL
    refine keyF_run (em := false) 6 10000 kt k0 (by decide) hf hko ?_
    exact hK L c hL hst
   have store : ∀ {es' : List (SC × SC)} {K : Except Value Next → Own → Prop} {L' : Array MapEntry} {c' : Nat}, K (.ok .skip) (S.set (ρ.blk b) ((SO.map es').den ρ)) → (L'.toList.map kv).Perm (es'.map (pairD ρ)) → Stamps L'.toList c' →
     Run P S0 (setObj (ρ.blk b) (.map L' c')) S (fun r S' => match r with | .ok _ => Run P S0 (pure .skip : Sem Next) S' K | .error v => K (.error v) S') := by
    intro es' K L' c' hK hL' hst'
    refine Run.setObjL (o := (SO.map es').den ρ) hfull rfl rfl ?_ (Run.pure (Run.pure hK))
    refine same_abs ?_ hst'
    rw [List.toList_toArray, absE_kv]
    exact hL'
   split at h
   ·rename_i i hi
    split at h
    ·rename_i y hy
     split at h
     ·rename_i hsame hbits
      simp only [Option.some.injEq] at h; subst h
      refine ⟨⟨⟨_, hb⟩, fun _ K hK => ?_⟩, fun x hx => ?_⟩
      ·rw [hred]
       refine Run.bind (enter fun L c hL hst => find_hit hs hd hko heo hL hi fun pre e post A z B h1 h2 h3 h4 => ?_)
       have e1 : z = y := by
        rw [h2, ← h3] at hy
        simpa using hy
       subst e1
       have e2 : e.key = z.1.den ρ := congrArg Prod.fst h4
       have e3 : z.1 = k0 := SC.same_eq _ _ _ hsame
       have hLi : L[pre.length]? = some e := by rw [← Array.getElem?_toList, h1]; simp
       simp only [hLi, Option.map_some, Option.getD_some]
       rw [e2, e3]
       have hkt : Instr.keyThatStays (k0.den ρ) (k0.den ρ) = Sem.pure (k0.den ρ) := by
        unfold Instr.keyThatStays
        rw [if_pos (bitsF_ok 6 10000 k0 (by decide) hbits)]
        rfl
       rw [hkt]
       have hmod : (L.modify pre.length fun e => { e with key := k0.den ρ, val := v0.den ρ }).toList = pre ++ { e with key := k0.den ρ, val := v0.den ρ } :: post := by
        rw [Array.toList_modify, h1, modify_mid]
       refine store hK ?_ ?_
       ·rw [hmod, h2, ← h3, setV_mid]
        rw [h1, h2] at hL
        simp only [List.map_append, List.map_cons] at hL ⊢
        have c1 : (pre.map kv ++ post.map kv).Perm (A.map (pairD ρ) ++ B.map (pairD ρ)) := by
         have := (List.perm_middle.symm.trans hL).trans List.perm_middle
         rw [h4] at this
         exact this.cons_inv
        have e4 : kv { e with key := k0.den ρ, val := v0.den ρ } = pairD ρ (z.1, v0) := by rw [e3]; rfl
        rw [e4]
        exact (List.perm_middle.trans (c1.cons _)).trans List.perm_middle.symm
       ·rw [hmod]
        refine stamps_born ?_ hst
        rw [h1]; simp
      ·have hx' : ∀ (i : Nat) (l : List (SC × SC)), x ∈ setV i v0 l → (∃ z ∈ l, x = (z.1, v0)) ∨ x ∈ l := by
        intro i l
        induction l generalizing i with
        | nil => intro h; simp [setV] at h
        | cons z l ih =>
         intro h
         cases i with
         | zero =>
          simp only [setV] at h
          rcases List.mem_cons.1 h with h | h
          ·exact .inl ⟨z, List.mem_cons_self, h⟩
          ·exact .inr (List.mem_cons_of_mem _ h)
         | succ i =>
          simp only [setV] at h
          rcases List.mem_cons.1 h with h | h
          ·exact .inr (by rw [h]; exact List.mem_cons_self)
          ·rcases ih i h with ⟨w, hw, e⟩ | h
           ·exact .inl ⟨w, List.mem_cons_of_mem _ hw, e⟩
           ·exact .inr (List.mem_cons_of_mem _ h)
       rcases hx' _ _ hx with ⟨z, hz, rfl⟩ | hx
       ·exact ⟨(heo z hz).1, hvo⟩
       ·exact heo x hx
     ·cases h
    ·cases h
   ·rename_i hi
    simp only [Option.some.injEq] at h; subst h
    refine ⟨⟨⟨_, hb⟩, fun _ K hK => ?_⟩, fun x hx => ?_⟩
    ·rw [hred]
     refine Run.bind (enter fun L c hL hst => find_miss hs hd hko heo hL hi ?_)
     refine store hK ?_ ?_
     ·rw [Array.toList_push, List.map_append]
      refine List.Perm.trans ?_ ((insS_perm (k0, v0) es).map _).symm
      refine List.perm_append_comm.trans ?_
      exact hL.cons _
     ·rw [Array.toList_push]
      refine ⟨List.pairwise_append.2 ⟨hst.1, List.pairwise_singleton _ _, fun a ha b hb => ?_⟩, fun a ha => ?_⟩
      ·rw [List.mem_singleton.1 hb]; exact hst.2 a ha
      ·rcases List.mem_append.1 ha with ha | ha
       ·exact Nat.lt_succ_of_lt (hst.2 a ha)
       ·rw [List.mem_singleton.1 ha]; exact Nat.lt_succ_self _
    ·have := (insS_perm (k0, v0) es).mem_iff.1 hx
     rcases List.mem_cons.1 this with rfl | hx
     ·exact ⟨hko, hvo⟩
     ·exact heo x hx
   ·cases h
  ·cases h
 ·cases h
end
end Mw
set_option linter.unusedVariables false
namespace Mw
open Go Mv
def nthP (l : List (Value × Value)) (i : Nat) : Value × Value := match l[i]? with
 | some y => y
 | none => (undef, undef)
theorem perm_index {l' l : List (Value × Value)} (h : l'.Perm l) : ∃ p : List Nat, p.Perm (List.range l.length) ∧ l' = p.map (nthP l) := by
 induction h with
 | nil => exact ⟨[], .refl _, rfl⟩
 | cons x h ih =>
  rename_i l1 l2
  obtain ⟨p, h1, h2⟩ := ih
  refine ⟨0 :: p.map (· + 1), ?_, ?_⟩
  ·rw [List.length_cons, List.range_succ_eq_map]
   exact (h1.map _).cons _
  ·rw [List.map_cons, List.map_map, h2]
   congr 1
 | swap x y l =>
  refine ⟨1 :: 0 :: (List.range l.length).map (· + 2), ?_, ?_⟩
  ·rw [List.length_cons, List.length_cons, List.range_succ_eq_map, List.range_succ_eq_map, List.map_cons, List.map_map]
   exact .swap _ _ _
  ·simp only [List.map_cons, List.map_map]
   congr 2
   apply List.ext_getElem?
   intro i
   rw [List.getElem?_map]
   by_cases hi : i < l.length
   ·rw [List.getElem?_range hi]
    simp [nthP, List.getElem?_eq_getElem hi]
   ·rw [List.getElem?_eq_none (l := List.range l.length) (by rw [List.length_range]; omega), List.getElem?_eq_none (l := l) (by omega)]; rfl
 | trans h1 h2 ih1 ih2 =>
  rename_i a b c
  obtain ⟨p, p1, p2⟩ := ih1
  obtain ⟨q, q1, q2⟩ := ih2
  have hq : q.length = c.length := by rw [q1.length_eq, List.length_range]
  have hb : b.length = q.length := by rw [q2, List.length_map]
  refine ⟨p.map fun i => q.getD i 0, ?_, ?_⟩
  ·refine (p1.map _).trans ?_
   have : (List.range b.length).map (fun i => q.getD i 0) = q := by
    apply List.ext_getElem?
    intro i
    rw [List.getElem?_map]
    by_cases hi : i < b.length
    ·rw [List.getElem?_range hi]
     simp [List.getElem?_eq_getElem (show i < q.length by omega)]
    ·rw [List.getElem?_eq_none (by simp; omega), List.getElem?_eq_none (by omega)]; rfl
   rw [this]; exact q1
  ·rw [p2, List.map_map]
   refine List.map_congr_left fun i hi => ?_
   have hi' : i < b.length := List.mem_range.1 (p1.mem_iff.1 hi)
   simp only [Function.comp, nthP, q2, List.getElem?_map]
   rw [List.getElem?_eq_getElem (show i < q.length by omega)]
   simp [nthP, List.getElem?_eq_getElem (show i < q.length by omega)]
theorem pinE_of {l : List (Value × Value)} : ∀ (p : List Nat) (es : List MapEntry), es.map kv = p.map (nthP l) → es = (p.zip (es.map (·.born))).map fun x => match l[x.1]? with
  | some y => { key := y.1, val := y.2, born := x.2 }
  | none => { key := undef, val := undef, born := x.2 }
 | [], [], _ => rfl
 | [], _ :: _, h => by cases h
 | _ :: _, [], h => by cases h
 | i :: p, e :: es, h => by
  simp only [List.map_cons, List.cons.injEq] at h
  simp only [List.map_cons, List.zip_cons_cons, List.cons.injEq]
  refine ⟨?_, pinE_of p es h.2⟩
  have := h.1
  simp only [kv, nthP] at this
  cases hl : l[i]? with
  | none =>
   rw [hl] at this
   simp only [Prod.mk.injEq] at this
   cases e; simp_all
  | some y =>
   rw [hl] at this
   simp only at this ⊢
   cases e
   rw [← this]
def codeS (s : Shape) : List Value := (s.1 :: (s.2.1 ++ s.2.2)).map fun n => Value.int .i64 (n : Nat)
theorem natV_code (l : List Nat) : (l.map fun n => Value.int .i64 (n : Nat)).map natV = l := by
 rw [List.map_map]
 exact (List.map_congr_left fun n _ => by simp [natV]).trans (List.map_id _)
theorem shape_code {n : Nat} {s : Shape} (h : ShapeOk n s) : shapeOf n (codeS s) = s := by
 unfold shapeOf codeS
 rw [natV_code]
 obtain ⟨c, p, q⟩ := s
 have hp := h.plen
 simp only at hp
 simp only [List.headD_cons, List.drop_succ_cons, List.drop_zero]
 rw [← hp, List.take_left, List.drop_left]
theorem shape_named {ρ : Env} {sh n : Nat} {s : Shape} (h : ShapeOk n s) (hr : ρ.rest sh = codeS s) : ρ.shape n sh = s := by
 unfold Env.shape
 rw [hr, shape_code h, if_pos (shapeB_of h)]
theorem shape_exists {l : List (Value × Value)} {es : List MapEntry} {c : Nat} (hp : (es.map kv).Perm l) (hs : Stamps es c) : ∃ s : Shape, ShapeOk l.length s ∧ s.1 = c ∧ es = pinE l s := by
 obtain ⟨p, h1, h2⟩ := perm_index hp
 have hlen : es.length = l.length := by simpa using hp.length_eq
 refine ⟨(c, p, List.map MapEntry.born es), ⟨h1, by simp [hlen], List.pairwise_map.2 hs.1, fun x hx => ?_⟩, rfl, pinE_of p es h2⟩
 obtain ⟨e, he, rfl⟩ := List.mem_map.1 hx
 exact hs.2 e he
section
variable {P : Program} {ρ : Env} {hp : Hp} {F S0 S : Own} {ev : Operand → Option SC} {ev' : Operand → Value} {o : Oper} {e : Eff}
theorem zip_find {e : Nat} : ∀ {p q : List Nat}, p.Nodup → ∀ {j : Nat}, p[j]? = some e → ∀ {s}, q[j]? = some s → (p.zip q).find? (fun x => x.1 == e) = some (e, s)
 | [], _, _, j, h, _, _ => by simp at h
 | a :: p, [], _, j, _, s, h => by simp at h
 | a :: p, b :: q, hn, j, h, s, h' => by
  rw [List.zip_cons_cons, List.find?_cons]
  cases j with
  | zero =>
   simp only [List.getElem?_cons_zero, Option.some.injEq] at h h'
   subst h; subst h'
   simp
  | succ j =>
   simp only [List.getElem?_cons_succ] at h h'
   have hne : a ≠ e := by
    rintro rfl
    exact (List.nodup_cons.1 hn).1 (List.mem_of_getElem? h)
   rw [show ((a, b).1 == e) = false by simpa using hne]
   exact zip_find (p := p) (q := q) (List.nodup_cons.1 hn).2 h h'
theorem ShapeOk.at_ {n : Nat} {s : Shape} (h : ShapeOk n s) {e : Nat} (he : e < n) : ∃ j : Nat, j < n ∧ s.2.1[j]? = some e ∧ s.2.2[j]? = some (stampOf s e) := by
 have hm : e ∈ s.2.1 := h.perm.mem_iff.2 (List.mem_range.2 he)
 obtain ⟨j, hj, hje⟩ := List.getElem_of_mem hm
 have hjn : j < n := by rw [h.plen] at hj; exact hj
 have hj2 : j < s.2.2.length := by rw [h.len]; exact hjn
 have h2 : s.2.2[j]? = some s.2.2[j] := List.getElem?_eq_getElem hj2
 refine ⟨j, hjn, by rw [List.getElem?_eq_getElem hj, hje], ?_⟩
 unfold stampOf
 rw [zip_find (e := e) (j := j) (p := s.2.1) (q := s.2.2) (h.perm.nodup_iff.2 List.nodup_range) (by rw [List.getElem?_eq_getElem hj, hje]) h2]
 exact h2
theorem pin_get {l : List (Value × Value)} {s : Shape} (h : ShapeOk l.length s) {e : Nat} {y : Value × Value} (hy : l[e]? = some y) : ∃ j : Nat, (pinE l s)[j]? = some { key := y.1, val := y.2, born := stampOf s e } ∧ s.2.2[j]? = some (stampOf s e) := by
 have he : e < l.length := (List.getElem?_eq_some_iff.1 hy).1
 obtain ⟨j, hj, h1, h2⟩ := h.at_ he
 refine ⟨j, ?_, h2⟩
 unfold pinE
 have h3 : (s.2.1.zip s.2.2)[j]? = some (e, stampOf s e) := List.getElem?_zip_eq_some.2 ⟨h1, h2⟩
 rw [List.getElem?_map, h3]
 simp only [Option.map_some, hy]
theorem stamp_inj {n : Nat} {s : Shape} (h : ShapeOk n s) {e e' : Nat} (he : e < n) (he' : e' < n) (hs : stampOf s e = stampOf s e') : e = e' := by
 obtain ⟨j, hj, h1, h2⟩ := h.at_ he
 obtain ⟨j', hj', h1', h2'⟩ := h.at_ he'
 have hjj : j = j' := by
  rcases Nat.lt_trichotomy j j' with hl | hl | hl
  ·have := List.pairwise_iff_getElem.1 h.sorted j j' (by rw [h.len]; exact hj) (by rw [h.len]; exact hj') hl
   rw [List.getElem?_eq_getElem (by rw [h.len]; exact hj), Option.some.injEq] at h2
   rw [List.getElem?_eq_getElem (by rw [h.len]; exact hj'), Option.some.injEq] at h2'
   omega
  ·exact hl
  ·have := List.pairwise_iff_getElem.1 h.sorted j' j (by rw [h.len]; exact hj') (by rw [h.len]; exact hj) hl
   rw [List.getElem?_eq_getElem (by rw [h.len]; exact hj), Option.some.injEq] at h2
   rw [List.getElem?_eq_getElem (by rw [h.len]; exact hj'), Option.some.injEq] at h2'
   omega
 subst hjj
 rw [h1] at h1'
 exact Option.some.inj h1'
theorem find_born {L : List MapEntry} {c : Nat} (hs : Stamps L c) {j : Nat} {x : MapEntry} (hx : L[j]? = some x) : L.find? (fun e => e.born == x.born) = some x := by
 have : ∀ (L : List MapEntry), L.Pairwise (fun a b => a.born < b.born) → ∀ {j : Nat}, L[j]? = some x → L.find? (fun e => e.born == x.born) = some x := by
  intro L
  induction L with
  | nil => intro _ j h; simp at h
  | cons a L ih =>
   intro hp j h
   cases j with
   | zero =>
    simp only [List.getElem?_cons_zero, Option.some.injEq] at h
    subst h; simp
   | succ j =>
    simp only [List.getElem?_cons_succ] at h
    have hlt := (List.pairwise_cons.1 hp).1 x (List.mem_of_getElem? h)
    rw [List.find?_cons, show (a.born == x.born) = false by simpa using Nat.ne_of_lt hlt]
    exact ih (List.pairwise_cons.1 hp).2 h
 exact this L hs.1 hx
def sEntry (hp : Hp) (x : Option SC) : Option Eff := match x with
 | some (.ptr b (.lit (.ofNat 0))) => match hp.get b with
  | some (.itr m sh n (some i) _) => match hp.get m with
   | some (.pin es sh') => match Nat.beq sh sh', Nat.beq es.length n, es[i]? with
    | true, true, some y => some (.val [] (.tup [y.1, y.2]))
    | _, _, _ => none
   | _ => none
  | _ => none
 | _ => none
theorem sEntry_good {x : Operand} (hop : o.op = .entry x) (hs : Sat ρ hp F S) (hev : EvOk ρ ev ev') (h : sEntry hp (ev x) = some e) : EffGood P ρ hp S0 S (execOp ev' o) e := by
 have hred : execOp ev' o = (do pure (.value (← Instr.entry (ev' x))) : Sem Next) := by simp only [execOp, hop]
 unfold sEntry at h
 split at h
 ·rename_i b hx
  obtain ⟨_, hx'⟩ := hev x _ hx
  split at h
  ·rename_i m sh n i r hb
   obtain ⟨_, hbo, hbg⟩ := hs.get hb
   split at h
   ·rename_i es sh' hm
    obtain ⟨_, hmo, hmg⟩ := hs.get hm
    split at h
    ·rename_i y h1 h2 h3
     have h1 := Nat.eq_of_beq_eq_true h1
     have h2 := Nat.eq_of_beq_eq_true h2
     subst h1; subst h2
     simp only [Option.some.injEq] at h; subst h
     have hy := hmo.2 y (List.mem_of_getElem? h3)
     refine good_val hred ⟨hy.1, hy.2, trivial⟩ fun _ K hK => ?_
     rw [hx']
     unfold Instr.entry
     simp only [SC.den, IE.den, bind]
     refine Run.getObj hbg rfl rfl ?_
     have hsh : ShapeOk (es.map (pairD ρ)).length (ρ.shape es.length sh) := by rw [List.length_map]; exact ρ.shape_ok _ _
     have hl3 : (es.map (pairD ρ))[i]? = some (pairD ρ y) := by rw [List.getElem?_map, h3]; rfl
     obtain ⟨j, hj, _⟩ := pin_get hsh hl3
     have hb2 : ((ρ.rest r).map natV ++ [stampOf (ρ.shape es.length sh) i]).toArray.back? = some (stampOf (ρ.shape es.length sh) i) := by simp
     simp only [SO.den, Sem.bind, hb2]
     refine Run.getPin hmg (by rw [List.toList_toArray]; exact pin_stamps hsh) fun c' hc => ?_
     have hc : c' = (ρ.shape es.length sh).1 := by
      rcases hc with hc | hc
      ·have : pinE (es.map (pairD ρ)) (ρ.shape es.length sh) = [] := by simpa using hc
       rw [this] at hj; simp at hj
      ·exact hc
     subst hc
     simp only [Sem.bind, bne_self_eq_false, Bool.false_eq_true, if_false]
     have hfb := find_born (pin_stamps hsh) hj
     simp only at hfb
     rw [List.find?_toArray, hfb]
     exact Run.pure hK
    ·cases h
   ·cases h
  ·cases h
 ·cases h
def isPlainOp : Op → Bool
 | .defer _ => false
 | .alloc _ => false
 | _ => true
theorem plainOp_of {r : Option Nat} {o : Oper} (h : isPlainOp o.op = true) : plainOp r o = true := by
 unfold plainOp
 cases hop : o.op <;> simp
 rw [hop] at h; cases h
def sRange (P : Program) (ex : Run_) (C : Cx) (Γ : Facts) (ops : Array Oper) (rest : List Nat) (o : Oper) (t : TypeId) (x : Operand) (tail : List Item) (σ : SS) (nk : Nat) (k : Kont) (m : Nat) (es : List (SC × SC)) : Option Tree := match o.dst, P.underlying t with
 | some d, some (.map _ _) => match Nat.blt d C.size with
  | true => some (.new (.new (putK σ.sl (some d) (.ptr (nk + 1) (.lit (.ofNat 0))) fun sl => σ.hp.setK m (.pin es nk) fun hp => hp.setK (nk + 1) (.itr m nk es.length none m) fun hp => forceN (nk + 2) fun nk => ex C Γ (.inRegion ops rest :: tail) ((σ.withSl sl).withHp hp) nk k)))
  | false => none
 | _, _ => none
def hRange (P : Program) : Hk_ := fun ex C Γ items ops rest o tail σ nk k => match o.op with
 | .range t x => match evC σ.sl x with
  | some (.ref m) => match σ.hp.rw.look m with
   | some (.map es) => sRange P ex C Γ ops rest o t x tail σ nk k m es
   | some (.pin es _) => sRange P ex C Γ ops rest o t x tail σ nk k m es
   | _ => none
  | _ => none
 | _ => none
theorem run_pinned (hs : Sat ρ hp F S) {m : Nat} {es : List (SC × SC)} (hm : hp.rw.look m = some (.map es) ∨ ∃ sh, hp.rw.look m = some (.pin es sh)) {α : Type} {k : Obj → Sem α} {K : Except Value α → Own → Prop}
  (h : ∀ s : Shape, ShapeOk es.length s → Run P S0 (k (.map (pinE (es.map (pairD ρ)) s).toArray s.1)) (S.set (ρ.blk m) (.map (pinE (es.map (pairD ρ)) s).toArray s.1)) K) : Run P S0 (.getObj (ρ.blk m) k) S K := by
 have main : ∀ S' : Own, S'.full (ρ.blk m) = some (.map (absE (es.map (pairD ρ))).toArray 0) → (∀ o, S'.set (ρ.blk m) o = S.set (ρ.blk m) o) → Run P S0 (.getObj (ρ.blk m) k) S' K := by
  intro S' hf hset
  refine Run.getMapPin hf fun L c hp' hst => ?_
  rw [List.toList_toArray, absE_kv] at hp'
  obtain ⟨s, h1, h2, h3⟩ := shape_exists hp' hst
  rw [List.length_map] at h1
  have e1 : L = (pinE (es.map (pairD ρ)) s).toArray := Array.ext' (by rw [h3])
  rw [hset, e1, ← h2]
  exact h s h1
 rcases hm with hm | ⟨sh, hm⟩
 ·exact main S (hs.has m _ hm).2.2 fun _ => rfl
 ·have hf := (hs.has m _ hm).2.2
  have hsh : ShapeOk (es.map (pairD ρ)).length (ρ.shape es.length sh) := by rw [List.length_map]; exact ρ.shape_ok _ _
  refine Run.unpin (es0 := (absE (es.map (pairD ρ))).toArray) hf (by rw [List.toList_toArray]; exact pin_stamps hsh) (by rw [List.toList_toArray, List.toList_toArray, absE_kv]; exact pin_kv hsh) (main _ (by simp) fun o => ?_)
  simp only [Own.set]
  congr 1
  funext x
  split <;> rfl
theorem sRange_good {main : Co} {D : Env → SEx → SS → Prop} {E : Env → List Item → SS → Prop} {ex : Run_} {C : Cx} {Γ : Facts} {items' tail : List Item} {ops : Array Oper} {i : Nat} {rest rest' : List Nat} {o : Oper} {σ : SS} {k : Kont} {ρ : Env} {Q : Ex → St → Own → Prop} {F : Own} {r : Ctx} {T : Tree} {t : TypeId} {x : Operand} {m : Nat} {es : List (SC × SC)}
  (hv : vals ρ) (hΓ : Γ.On ρ) (ho : ops[i]? = some o) (hop : o.op = .range t x) (hx : evC σ.sl x = some (.ref m)) (hm : σ.hp.rw.look m = some (.map es) ∨ ∃ sh, σ.hp.rw.look m = some (.pin es sh)) (h : sRange P ex C Γ ops rest o t x items' σ ρ.k.length k m es = some T) (hh : holds D E ρ T) {a : St} {S : Own} (hf : Fit C.size F ρ σ a S) (hw : Region.wanted o (yielded ops a.tmps) = true)
  (hn : ∀ ρ' Γ' σ' a' S', Ext ρ ρ' → vals ρ' → Γ'.On ρ' → Fit C.size F ρ' σ' a' S' → (∃ v, a'.tmps = (a.put o.dst v).tmps) → holds D E ρ' (ex C Γ' (.inRegion ops rest :: items') σ' ρ'.k.length k) → wpI P main r (.inRegion ops rest' :: tail) Q a' S') : wpI P main r (.inRegion ops (i :: rest') :: tail) Q a S := by
 unfold sRange at h
 split at h
 ·rename_i d kt el hdst hu
  split at h
  ·rename_i hd
   have hd := blt_true hd
   simp only [Option.some.injEq] at h; subst h
   obtain ⟨_, hx'⟩ := evC_ok hf.sl x _ hx
   have hmlt : m < ρ.k.length := by
    rcases hm with hm | ⟨sh, hm⟩
    ·exact (hf.hp.has m _ hm).1
    ·exact (hf.hp.has m _ hm).1
   have heo : ∀ y ∈ es, y.1.ok ρ.k.length ∧ y.2.ok ρ.k.length := by
    rcases hm with hm | ⟨sh, hm⟩
    ·exact (hf.hp.has m _ hm).2.1
    ·exact (hf.hp.has m _ hm).2.1.2
   refine wpI_op ho hw (plainOp_of (by rw [hop]; rfl)) ?_
   haveI := hf.hp.loud
   have hred : execOp a.eval o = (do pure (.value (← Instr.range t (a.eval x))) : Sem Next) := by simp only [execOp, hop]
   rw [hred]
   refine run_value ?_
   rw [hx']
   unfold Instr.range
   simp only [bind, SC.den]
   refine run_underlying hu ?_
   show Run P S ((getObj (ρ.blk m)).bind _) S _
   refine run_pinned hf.hp hm fun s hs => ?_
   refine Run.new fun b hb1 hb2 => ?_
   let ρ1 := ρ.grow 0 (codeS s)
   let ρ2 := ρ1.grow b []
   have hl1 : ρ1.k.length = ρ.k.length + 1 := len_grow _ _ _
   have hl2 : ρ2.k.length = ρ.k.length + 2 := by rw [len_grow, hl1]
   have he1 : Ext ρ ρ1 := Ext.grow ρ _ _
   have he2 : Ext ρ ρ2 := he1.trans (Ext.grow ρ1 _ _)
   have hsh1 : ρ1.shape es.length ρ.k.length = s := shape_named hs (rest_new ρ _ _)
   have hsh2 : ρ2.shape es.length ρ.k.length = s := shape_named hs (by rw [rest_grow ρ1 b [] (by rw [hl1]; omega)]; exact rest_new ρ _ _)
   have hmo : ∃ om, σ.hp.rw.look m = some om := by
    rcases hm with hm | ⟨sh, hm⟩
    ·exact ⟨_, hm⟩
    ·exact ⟨_, hm⟩
   obtain ⟨om, hmo⟩ := hmo
   have hs1 : Sat ρ1 { σ.hp with rw := σ.hp.rw.set m (.pin es ρ.k.length) } F (S.set (ρ.blk m) (.map (pinE (es.map (pairD ρ)) s).toArray s.1)) := by
    have h1 := (hf.hp.grow (b := 0) (r := codeS s)).put (o' := .pin es ρ.k.length) hmo ⟨by rw [hl1]; omega, fun y hy => ⟨SC.ok_mono (by rw [hl1]; omega) _ (heo y hy).1, SC.ok_mono (by rw [hl1]; omega) _ (heo y hy).2⟩⟩
    have e1 : (SO.pin es ρ.k.length).den ρ1 = .map (pinE (es.map (pairD ρ)) s).toArray s.1 := by
     simp only [SO.den]
     rw [hsh1, pairs_grow heo]
    rw [e1, blk_grow ρ 0 (codeS s) hmlt] at h1
    exact h1
   have hs2 : Sat ρ2 { σ.hp with rw := (σ.hp.rw.set m (.pin es ρ.k.length)).set (ρ.k.length + 1) (.itr m ρ.k.length es.length none m) } F ((S.set (ρ.blk m) (.map (pinE (es.map (pairD ρ)) s).toArray s.1)).set b (.mapIter (some (ρ.blk m)) s.1 #[] s.1)) := by
    have h2 := hs1.new (b := b) (r := []) (o := .itr m ρ.k.length es.length none m) hb1 hb2 ⟨by rw [hl1]; omega, by rw [hl1]; omega, by rw [hl1]; omega⟩
    have e2 : (SO.itr m ρ.k.length es.length none m).den ρ2 = .mapIter (some (ρ.blk m)) s.1 #[] s.1 := by
     simp only [SO.den]
     rw [hsh2, blk_ext he2 hmlt]
    have e3 : (SO.itr m ρ.k.length es.length none m).den (ρ1.grow b []) = .mapIter (some (ρ.blk m)) s.1 #[] s.1 := e2
    rw [e3, hl1] at h2
    exact h2
   refine Run.pure ?_
   have hh2 := hh 0 (codeS s) b []
   rw [putK_eq, Hp.setK_eq, Hp.setK_eq, forceN_eq, SS.withSl_eq, SS.withHp_eq] at hh2
   have hfit : Fit C.size F ρ2 { σ with sl := putD σ.sl (some d) (.ptr (ρ.k.length + 1) (.lit (.ofNat 0))), hp := { σ.hp with rw := (σ.hp.rw.set m (.pin es ρ.k.length)).set (ρ.k.length + 1) (.itr m ρ.k.length es.length none m) } } (a.put (some d) (.pointer (some ⟨b, 0, none⟩))) ((S.set (ρ.blk m) (.map (pinE (es.map (pairD ρ)) s).toArray s.1)).set b (.mapIter (some (ρ.blk m)) s.1 #[] s.1)) := by
    have h3 := (hf.later he2 hs2).put (dst := some d) (v := .ptr (ρ.k.length + 1) (.lit (.ofNat 0))) (by simpa using hd) ⟨by rw [hl2]; omega, trivial⟩
    have e4 : (SC.ptr (ρ.k.length + 1) (.lit (.ofNat 0))).den ρ2 = .pointer (some ⟨b, 0, none⟩) := by
     simp only [SC.den, IE.den]
     have := blk_new ρ1 b []
     rw [hl1] at this
     rw [this]
     rfl
    rw [e4] at h3
    exact h3
   have hgoal := hn ρ2 Γ _ (a.put (some d) (.pointer (some ⟨b, 0, none⟩))) _ he2 (vals_ext he2 hv) ((hΓ.grow 0 (codeS s)).grow b []) hfit ⟨_, by rw [hdst]⟩ (by rw [hl2]; exact hh2)
   simp only [Upon, hdst]
   exact hgoal
  ·cases h
 ·cases h
theorem hRange_ok {main : Co} : HkOk P main (hRange P) where
 good D E ex C Γ items items' tail ops i rest rest' o σ k ρ Q F r t hr hv hΓ hK ho ht hh := by
  intro a S hf hw hst hn
  unfold hRange at ht
  split at ht
  ·rename_i t x hop
   split at ht
   ·rename_i m hx
    split at ht
    ·rename_i es hm
     exact sRange_good hv hΓ ho hop hx (.inl hm) ht hh hf hw hn
    ·rename_i es sh hm
     exact sRange_good hv hΓ ho hop hx (.inr ⟨sh, hm⟩) ht hh hf hw hn
    ·cases ht
   ·cases ht
  ·cases ht
 alloc ex C Γ items ops rest o tail σ nk k t ho := by simp only [hRange, ho]
 bs ex C Γ items ops rest o tail σ nk k t n ps ho := by simp only [hRange, ho]
end
end Mw
set_option linter.unusedVariables false
namespace Mw
open Go Mv
section
variable {P : Program} {ρ : Env} {hp : Hp} {F S0 S : Own} {ev : Operand → Option SC} {ev' : Operand → Value} {o : Oper} {e : Eff}
def sMakeMap (r : Option Operand) : Option Eff := match r with
 | none => some (.fresh [] (.map []) .ref)
 | some _ => none
theorem sMakeMap_good [Loud S0] {t : TypeId} {r : Option Operand} (hop : o.op = .makeMap t r) (h : sMakeMap r = some e) : EffGood P ρ hp S0 S (execOp ev' o) e := by
 unfold sMakeMap at h
 split at h
 ·simp only [Option.some.injEq] at h; subst h
  refine ⟨fun _ K hK => ?_, fun x hx => by cases hx⟩
  have hred : execOp ev' o = (do pure (.value (← Instr.makeMap t none)) : Sem Next) := by simp only [execOp, hop, Option.map_none]
  rw [hred]
  refine run_value ?_
  show Run P S0 (.new (.map #[] 0) fun r => Sem.pure (Value.map (some r))) S _
  exact Run.newL (o := (SO.map []).den ρ) (same_abs (.refl _) ⟨List.Pairwise.nil, fun e h => by cases h⟩) fun r h1 h2 => Run.pure (hK r h1 h2)
 ·cases h
def evP (ev : Operand → Option SC) : Operand → Option SC := fun y => match ev y with
 | some (.lit (.pointer (some ⟨g, off, none⟩))) => match Nat.blt g 16 with
  | true => some (.ptr g (.lit (.ofNat off)))
  | false => none
 | v => v
theorem evP_ok (hv : vals ρ) (hev : EvOk ρ ev ev') : EvOk ρ (evP ev) ev' := fun y v h => by
 unfold evP at h
 split at h
 ·rename_i g off hy
  split at h
  ·rename_i hg
   have hg := blt_true hg
   simp only [Option.some.injEq] at h; subst h
   obtain ⟨_, h2⟩ := hev y _ hy
   refine ⟨⟨(hv.low g hg).1, trivial⟩, ?_⟩
   rw [h2]
   simp only [SC.den, IE.den, (hv.low g hg).2]
   rfl
  ·cases h
 ·exact hev y v h
def xMap (P : Program) : Xop := fun hp ev op => match op with
 | .indexAddr t x i => match ev x with
  | some (.lit (.pointer (some _))) => symOp P hp (evP ev) (.indexAddr t x i)
  | _ => none
 | .makeMap _ r => sMakeMap r
 | .lookup t x k c => sLookup P hp t (ev x) (ev k) c
 | .mapUpdate t m k v => sUpdate P hp t (ev m) (ev k) (ev v)
 | .entry x => sEntry hp (ev x)
 | _ => none
theorem xMap_ok : XopOk P (xMap P) := by
 intro ρ hp F S0 S ev ev' o e _ hv hs hev h
 unfold xMap at h
 split at h
 ·rename_i t x i hop
  split at h
  ·rw [← hop] at h
   exact symOp_good hv hs (evP_ok hv hev) h
  ·cases h
 ·rename_i hop; exact sMakeMap_good hop h
 ·rename_i hop; exact sLookup_good hop hs hev h
 ·rename_i hop; exact sUpdate_good hop hs hev h
 ·rename_i hop; exact sEntry_good hop hs hev h
 ·cases h
def hMap (P : Program) : Hk_ := fun ex C Γ items ops rest o tail σ nk k => match xMap P σ.hp (evC σ.sl) o.op with
 | some eff => match o.dst.all (· < C.size) with
  | true => some (applyEff Γ o.dst σ nk (fun σ nk => ex C Γ (.inRegion ops rest :: tail) σ nk k) eff)
  | false => none
 | none => none
theorem hMap_ok {main : Co} : HkOk P main (hMap P) where
 good D E ex C Γ items items' tail ops i rest rest' o σ k ρ Q F r t hr hv hΓ hK ho ht hh := by
  intro a S hf hw hst hn
  unfold hMap at ht
  split at ht
  ·rename_i eff heff
   split at ht
   ·rename_i hd
    simp only [Option.some.injEq] at ht
    subst ht
    have hpl : plainOp r.round o = true := by
     unfold plainOp
     cases hop : o.op <;> simp
     rw [hop] at heff; cases heff
    refine wpI_op ho hw hpl ?_
    haveI := hf.hp.loud
    have hg := xMap_ok (P := P) (S0 := S) hv hf.hp (evC_ok hf.sl) heff
    exact Run.mono (applyEff_sound (next := fun a' S' => (∃ v, a'.tmps = (a.put o.dst v).tmps) → wpI P main r (.inRegion ops rest' :: tail) Q a' S') hΓ hg hf hd hh fun ρ' σ' a' S' he hΓ' hf' hh hx => hn ρ' Γ σ' a' S' he (vals_ext he hv) hΓ' hf' hx hh) fun e S' h => upon_tmps h
   ·cases ht
  ·cases ht
 alloc ex C Γ items ops rest o tail σ nk k t ho := by simp only [hMap, ho, xMap]
 bs ex C Γ items ops rest o tail σ nk k t n ps ho := by simp only [hMap, ho, xMap]
end
end Mw
set_option linter.unusedVariables false
namespace Mw
open Go Mv
def hDry : Hk_ := fun ex C Γ items ops rest o tail σ nk k => match o.op with
 | .send ch x => match evC σ.sl ch, evC σ.sl x, σ.hp.gh with
  | some (.chn j), some v, .work ty iW iC cap tm ms n => some (ex C Γ (.inRegion ops rest :: tail) (σ.withHp ⟨σ.hp.rw, σ.hp.ro, .work ty iW iC cap tm (ms ++ [⟨v, (reachT σ.hp.rw 100000 (namesSC v) []).filterMap fun i => (σ.hp.rw.look i).map fun o => (i, o), 0, nk⟩]) n⟩) nk k)
  | _, _, _ => none
 | _ => none
def dryOf (nk : Nat) : Tree → List SM
 | .done _ σ => match σ.hp.gh with
  | .work _ _ _ _ _ ms _ => ms.map fun x => match x.l, namesSC x.v with
   | [], [] => ⟨x.v, [], 0, 0⟩
   | _, _ => ⟨x.v, x.l, nk, x.n⟩
  | _ => []
 | .new t => dryOf nk t
 | .need _ t => dryOf nk t
 | _ => []
def dryF (P : Program) (hk : Hook) (exD : Run_) : Dry := fun args hp nk Γ => match P.funcs[hk.g1]? with
 | some f1 => match f1.body with
  | some c1 => dryOf nk (exD { size := args.length + (f1.ntmps - args.length), dfr := false, fn := hk.g1 } Γ [.code c1] { sl := slotsOf args 0 .nil, hp, df := [], cm := none } nk fun e σ _ _ => .done .normal σ)
  | none => []
 | none => []
structure Conf where
 hk : Hook
 as : AsLink
 com : List FuncId
 tab : List (Nat × Nat × List Nat) := []
def Conf.coms (c : Conf) (f : FuncId) : Bool := c.com.any (Nat.beq f)
def Conf.hM (c : Conf) (P : Program) : Hk_ := hOr hClose (hOr (hRecv P) (hOr (hExt (xAs P c.as)) (hOr (hMap P) (hRange P))))
def Conf.hW (c : Conf) (P : Program) : Hk_ := hOr hSend (hExt (xAs P c.as))
def Conf.hD (c : Conf) (P : Program) : Hk_ := hOr hDry (hExt (xAs P c.as))
structure Conf.Ok (c : Conf) (P : Program) : Prop where
 wg : Go.Conc.Lib.WgLib P c.hk.L
 gl : GoLib P c.hk
 gf : GoFn P c.hk
 as : AsLib P c.as
theorem Conf.Ok.hM {c : Conf} {P : Program} (h : c.Ok P) {N : Nat} {w0 : Option World} : HkOk P (Co.team P N w0) (c.hM P) := hOr_ok hClose_ok (hOr_ok hRecv_ok (hOr_ok (hExt_ok (xAs_ok h.as)) (hOr_ok hMap_ok hRange_ok)))
theorem Conf.Ok.hW {c : Conf} {P : Program} (h : c.Ok P) {K : Grp} : HkOk P (Mx.Hand P K) (c.hW P) := hOr_ok hSend_ok (hExt_ok (xAs_ok h.as))
end Mw
set_option linter.unusedVariables false
namespace Mw
open Go Mv
def mkH (rw ro : List (Nat × SO)) : Hp := ⟨setsT rw, setsT ro, .none⟩
def mkS (sl : List (Nat × SC)) (hp : Hp) : SS := { sl := setsT sl, hp, df := [], cm := none }
def vI (n : Nat) : SC := .int .i64 (.lit (.ofNat n))
def vP (b : Nat) : SC := .ptr b (.lit (.ofNat 0))
def vL (b l c : Nat) : SC := .slice b (.lit (.ofNat 0)) (.lit (.ofNat l)) (.lit (.ofNat c))
def vZ : SC := .lit (.slice none 0 0)
def v0 : SC := .lit (.pointer none)
def vT : SC := .bool (.lit true)
def vF : SC := .bool (.lit false)
def uC : List Nat → List SC
 | [] => []
 | n :: l => match n with
  | 0 => vF :: uC l
  | 1 => vT :: uC l
  | n + 2 => vI n :: uC l
def restF (ρ : Env) (l : List Nat) (S : Own) : Own := ⟨fun b => match (l.map ρ.blk).contains b with | true => none | false => S.full b, S.ro, S.gh⟩
theorem restF_in {ρ : Env} {l : List Nat} {S : Own} {i : Nat} (h : i ∈ l) : (restF ρ l S).full (ρ.blk i) = none := by
 simp only [restF]
 rw [List.contains_iff_mem.2 (List.mem_map_of_mem h)]
theorem restF_some {ρ : Env} {l : List Nat} {S : Own} {b : Nat} {o : Obj} (h : (restF ρ l S).full b = some o) : S.full b = some o := by
 simp only [restF] at h
 split at h
 ·cases h
 ·exact h
theorem restF_out {ρ : Env} {l : List Nat} {S : Own} {b : Nat} (h : ∀ i ∈ l, ρ.blk i ≠ b) : (restF ρ l S).full b = S.full b := by
 simp only [restF]
 split
 ·rename_i hc
  obtain ⟨i, hi, e⟩ := List.mem_map.1 (List.contains_iff_mem.1 hc)
  exact absurd e (h i hi)
 ·rfl
def delNs : List Nat → Tr SO → Tr SO
 | [], t => t
 | i :: l, t => delNs l (t.del i)
theorem delNs_look {i : Nat} {o : SO} : ∀ {l : List Nat} {t : Tr SO}, (delNs l t).look i = some o → t.look i = some o ∧ i ∉ l
 | [], t, h => ⟨h, by simp⟩
 | j :: l, t, h => by
  obtain ⟨h1, h2⟩ := delNs_look (l := l) h
  obtain ⟨h3, h4⟩ := Tr.look_del h1
  exact ⟨h4, fun hm => (List.mem_cons.1 hm).elim h3 h2⟩
def backT : List Nat → Tr SO → Tr SO → Tr SO
 | [], _, t => t
 | i :: l, src, t => match src.look i with
  | some o => (backT l src t).set i o
  | none => backT l src t
theorem backT_look {src t : Tr SO} {i : Nat} {o : SO} : ∀ {l : List Nat}, (backT l src t).look i = some o → (i ∈ l ∧ src.look i = some o) ∨ t.look i = some o
 | [], h => .inr h
 | j :: l, h => by
  simp only [backT] at h
  split at h
  ·rename_i o' ho
   rcases Tr.look_set h with ⟨rfl, rfl⟩ | ⟨_, h⟩
   ·exact .inl ⟨List.mem_cons_self, ho⟩
   ·exact (backT_look h).imp (fun h => ⟨List.mem_cons_of_mem _ h.1, h.2⟩) id
  ·exact (backT_look h).imp (fun h => ⟨List.mem_cons_of_mem _ h.1, h.2⟩) id
def Left (v : SC) (hp : Hp) (nk : Nat) (F : Own) (ρ0 : Env) (e : Mv.End) (S : Own) : Prop := ∃ ρ, Ext ρ0 ρ ∧ ({} : Facts).On ρ ∧ ρ.k.length = nk ∧ e = .returned (v.den ρ) ∧ v.ok ρ.k.length ∧ Sat ρ hp F S
def CallTo (P : Program) (N : Nat) (w0 : Option World) (g : FuncId) (args : List SC) (hp : Hp) (nk : Nat) (v : SC) (hp' : Hp) (nk' : Nat) : Prop :=
 Callable P g ∧ ∀ F ρ S, vals ρ → ({} : Facts).On ρ → ρ.k.length = nk → (∀ x ∈ args, x.ok ρ.k.length) → Sat ρ hp F S → Calls P (Co.team P N w0) g (args.map (SC.den ρ)).toArray S (Left v hp' nk' F ρ)
structure Sum where
 g : FuncId
 args : List SC
 rw : List (Nat × SO)
 ro : List (Nat × SO)
 nk : Nat
 v : SC
 hp : Hp
 nk' : Nat
 out : List Nat
def Sum.Ok (P : Program) (N : Nat) (w0 : Option World) (s : Sum) : Prop := CallTo P N w0 s.g s.args (mkH s.rw s.ro) s.nk s.v s.hp s.nk'
def pickS (f : FuncId) (nk : Nat) : List Sum → Option Sum
 | [] => none
 | s :: l => match Nat.beq s.g f && Nat.beq s.nk nk with
  | true => some s
  | false => pickS f nk l
theorem pickS_mem {f : FuncId} {nk : Nat} {s : Sum} : ∀ {l : List Sum}, pickS f nk l = some s → s ∈ l ∧ s.g = f ∧ s.nk = nk
 | [], h => by cases h
 | x :: l, h => by
  simp only [pickS] at h
  split at h
  ·rename_i hb
   simp only [Option.some.injEq] at h; subst h
   simp only [Bool.and_eq_true] at hb
   exact ⟨List.mem_cons_self, Nat.eq_of_beq_eq_true hb.1, Nat.eq_of_beq_eq_true hb.2⟩
  ·obtain ⟨h1, h2⟩ := pickS_mem h
   exact ⟨List.mem_cons_of_mem _ h1, h2⟩
def noGh : SGh → Bool
 | .none => true
 | _ => false
def callS (sums : List Sum) (call : Call_) : Call_ := fun f args cm hp nk Γ k => match sums with
 | [] => call f args cm hp nk Γ k
 | _ => match pickS f nk sums with
  | none => call f args cm hp nk Γ k
  | some s => match cm, sameL (SC.same 6) args s.args, lies hp.rw s.rw, lies hp.ro s.ro, noGh hp.gh, noGh s.hp.gh, Nat.ble nk s.nk' with
   | none, true, true, true, true, true, true => news (s.nk' - nk) (k (.ret s.v) none ⟨backT s.out s.hp.rw (delNs (s.rw.map Prod.fst) hp.rw), hp.ro, .none⟩ s.nk' {})
   | _, _, _, _, _, _, _ => .bad
theorem noGh_eq {g : SGh} (h : noGh g = true) : g = .none := by
 unfold noGh at h
 split at h
 ·rfl
 ·cases h
theorem sat_part {ρ : Env} {hp : Hp} {F S : Own} {rw ro : List (Nat × SO)} (hs : Sat ρ hp F S) (hgh : hp.gh = .none) (h1 : ∀ x ∈ rw, hp.rw.look x.1 = some x.2) (h2 : ∀ x ∈ ro, hp.ro.look x.1 = some x.2) : Sat ρ (mkH rw ro) (restF ρ (rw.map Prod.fst) S) S where
 has i o hi := hs.has i o (h1 _ (setsT_look hi))
 hro i o hi := hs.hro i o (h2 _ (setsT_look hi))
 inj i j o o' hi hj e := hs.inj i j o o' (h1 _ (setsT_look hi)) (h1 _ (setsT_look hj)) e
 frm b o hb := restF_some hb
 apart i o hi := restF_in (List.mem_map_of_mem (f := Prod.fst) (setsT_look hi))
 ro b o hb := hb
 gh := by rw [hs.gh, hgh]; rfl
 dis := hs.dis
 ghok := trivial
 lent i hi := by cases hi
 linj i hi := by cases hi
 rinj i hi := by cases hi
 lnd := List.nodup_nil
theorem sat_join {ρ ρ' : Env} {hp hp' : Hp} {F S S' : Own} {rw : List (Nat × SO)} {out : List Nat} (hs : Sat ρ hp F S) (h1 : ∀ x ∈ rw, hp.rw.look x.1 = some x.2) (he : Ext ρ ρ') (hgh' : hp'.gh = .none) (hs' : Sat ρ' hp' (restF ρ (rw.map Prod.fst) S) S') :
  Sat ρ' ⟨backT out hp'.rw (delNs (rw.map Prod.fst) hp.rw), hp.ro, .none⟩ F S' := by
 have hout : ∀ i ∈ rw.map Prod.fst, ∃ o, hp.rw.look i = some o := fun i hi => by
  obtain ⟨x, hx, rfl⟩ := List.mem_map.1 hi
  exact ⟨_, h1 x hx⟩
 have old : ∀ i o, (backT out hp'.rw (delNs (rw.map Prod.fst) hp.rw)).look i = some o → hp'.rw.look i = some o ∨ (hp.rw.look i = some o ∧ i ∉ rw.map Prod.fst) := fun i o h => (backT_look h).imp (fun h => h.2) delNs_look
 have keep : ∀ i o, hp.rw.look i = some o → i ∉ rw.map Prod.fst → i < ρ.k.length ∧ o.ok ρ.k.length ∧ (restF ρ (rw.map Prod.fst) S).full (ρ.blk i) = some (o.den ρ) := fun i o h hn => by
  obtain ⟨k1, k2, k3⟩ := hs.has i o h
  refine ⟨k1, k2, ?_⟩
  rw [restF_out]
  ·exact k3
  ·intro j hj e
   obtain ⟨o', hj'⟩ := hout j hj
   have := hs.inj j i _ _ hj' h e
   exact hn (this ▸ hj)
 have frm : ∀ b o, F.full b = some o → (restF ρ (rw.map Prod.fst) S).full b = some o := fun b o hb => by
  rw [restF_out]
  ·exact hs.frm b o hb
  ·intro j hj e
   obtain ⟨o', hj'⟩ := hout j hj
   have := hs.apart j o' hj'
   rw [e, hb] at this; cases this
 exact {
  has := fun i o hi => by
   rcases old i o hi with h | ⟨h, hn⟩
   ·exact hs'.has i o h
   ·obtain ⟨k1, k2, k3⟩ := keep i o h hn
    exact ⟨Nat.lt_of_lt_of_le k1 he.len, SO.ok_mono he.len k2, by rw [blk_ext he k1, SO.den_ext he k2]; exact hs'.frm _ _ k3⟩
  hro := fun i o hi => by
   obtain ⟨k1, k2, k3⟩ := hs.hro i o hi
   exact ⟨Nat.lt_of_lt_of_le k1 he.len, SO.ok_mono he.len k2, by rw [blk_ext he k1, SO.den_ext he k2]; exact hs'.ro _ _ k3⟩
  inj := fun i j o o' hi hj e => by
   rcases old i o hi with h | ⟨h, hn⟩ <;> rcases old j o' hj with g | ⟨g, gn⟩
   ·exact hs'.inj i j o o' h g e
   ·obtain ⟨k1, k2, k3⟩ := keep j o' g gn
    have := hs'.apart i o h
    rw [e, blk_ext he k1, k3] at this; cases this
   ·obtain ⟨k1, k2, k3⟩ := keep i o h hn
    have := hs'.apart j o' g
    rw [← e, blk_ext he k1, k3] at this; cases this
   ·rw [blk_ext he (hs.has i o h).1, blk_ext he (hs.has j o' g).1] at e
    exact hs.inj i j o o' h g e
  frm := fun b o hb => hs'.frm b o (frm b o hb)
  apart := fun i o hi => by
   rcases old i o hi with h | ⟨h, hn⟩
   ·have h2 := hs'.apart i o h
    cases hf : F.full (ρ'.blk i) with
    | none => rfl
    | some u => rw [frm _ _ hf] at h2; cases h2
   ·rw [blk_ext he (hs.has i o h).1]; exact hs.apart i o h
  ro := fun b o hb => hs'.ro b o (hs.ro b o hb)
  gh := by rw [hs'.gh, hgh']
  dis := hs'.dis
  ghok := trivial
  lent := fun i hi => by cases hi
  linj := fun i hi => by cases hi
  rinj := fun i hi => by cases hi
  lnd := List.nodup_nil }
theorem callS_sound {P : Program} {N : Nat} {w0 : Option World} {sums : List Sum} {call : Call_} (hs : ∀ s ∈ sums, s.Ok P N w0) (hcall : SoundCall P (Co.team P N w0) call) : SoundCall P (Co.team P N w0) (callS sums call) := by
 constructor
 ·intro D E f args hp nk Γ k ρ F S Post hv hΓ hnk hargs hsat hpost h
  unfold callS at h
  split at h
  ·exact hcall.plain D E f args hp nk Γ k ρ F S Post hv hΓ hnk hargs hsat hpost h
  ·split at h
   ·exact hcall.plain D E f args hp nk Γ k ρ F S Post hv hΓ hnk hargs hsat hpost h
   ·rename_i s hpick
    obtain ⟨hm, hg, hk⟩ := pickS_mem hpick
    split at h
    ·rename_i ha h1 h2 h3 h3' h4
     have ha := sameL_eq (SC.same_eq 6) _ _ ha
     have h4 := Nat.le_of_ble_eq_true h4
     have hgh := noGh_eq h3
     obtain ⟨c1, c2⟩ := hs s hm
     subst hg
     refine ⟨c1, ?_⟩
     have hsat' := sat_part hsat hgh (lies_look h1) (lies_look h2)
     have hΓ0 : ({} : Facts).On ρ := ⟨by simp, by simp, hΓ.lens, by simp⟩
     rw [ha] at hargs ⊢
     refine (c2 _ ρ S hv hΓ0 (by rw [hnk, hk]) hargs hsat').mono ?_
     rintro e S' ⟨ρ', he, hΓ', hl, rfl, hok, hs'⟩
     have h5 := news_holds _ ρ _ h ρ' he (by rw [hnk]; omega)
     exact hpost ρ' (.ret s.v) none _ {} he hΓ' hok (by rw [hl]; exact h5) S' (sat_join hsat (lies_look h1) he (noGh_eq h3') hs')
    ·exact h.elim
 ·intro D E f args m hp nk Γ k ρ F S Post hv hΓ hnk hargs hm hsat hpost h
  unfold callS at h
  split at h
  ·exact hcall.dfr D E f args m hp nk Γ k ρ F S Post hv hΓ hnk hargs hm hsat hpost h
  ·split at h
   ·exact hcall.dfr D E f args m hp nk Γ k ρ F S Post hv hΓ hnk hargs hm hsat hpost h
   ·split at h
    ·rename_i e _ _ _ _ _ _
     cases e
    ·exact h.elim
end Mw
set_option linter.unusedVariables false
namespace Mw
open Go Mv
section
variable {P : Program} {S0 S : Own}
theorem next_run {ib m : Nat} {s : Shape} {l : List (Value × Value)} (hs : ShapeOk l.length s) {seen : List Nat} (hi : S.full ib = some (.mapIter (some m) s.1 seen.toArray s.1)) (hm : S.get m = some (.map (pinE l s).toArray s.1)) {t : TypeId} {K : Except Value Value → Own → Prop}
  (hover : (∀ i, i < l.length → stampOf s i ∈ seen) → K (.ok (.tuple #[.bool false])) S)
  (hgo : ∀ i y, l[i]? = some y → stampOf s i ∉ seen → K (.ok (.tuple #[.bool true, y.1, y.2])) (S.set ib (.mapIter (some m) s.1 (seen ++ [stampOf s i]).toArray s.1))) :
  Run P S0 (Instr.next (.pointer (some ⟨ib, 0, none⟩)) false t) S K := by
 unfold Instr.next
 simp only [bind]
 refine Run.getObj (o := .mapIter (some m) s.1 seen.toArray s.1) (by unfold Own.get; rw [hi]; rfl) rfl rfl ?_ rfl
 refine Run.getPin hm (by rw [List.toList_toArray]; exact pin_stamps hs) fun c' hc => ?_
 have hst := pin_stamps hs
 have e1 : (!seen.toArray.isEmpty && !(pinE l s).toArray.isEmpty && (pinE l s).toArray.all fun x => decide (x.born ≥ s.1)) = false := by
  cases hp : pinE l s with
  | nil => simp
  | cons e es =>
   have := hst.2 e (by rw [hp]; exact List.mem_cons_self)
   simp; intro _ h; omega
 simp only [Sem.bind, e1, Bool.false_eq_true, if_false]
 have e2 : ((pinE l s).toArray.filter fun e => !seen.toArray.contains e.born).filter (fun x => decide (x.born < s.1)) = (pinE l s).toArray.filter fun e => !seen.toArray.contains e.born := by
  apply Array.filter_eq_self.2
  intro a ha
  have := (Array.mem_filter.1 ha).1
  exact decide_eq_true (hst.2 a (by simpa using this))
 have e3 : ((pinE l s).toArray.filter fun e => !seen.toArray.contains e.born).filter (fun x => decide (x.born ≥ s.1)) = #[] := by
  apply Array.filter_eq_empty_iff.2
  intro a ha
  have := (Array.mem_filter.1 ha).1
  have := hst.2 a (by simpa using this)
  simp; omega
 have e4 : (List.map (fun x : MapEntry => x) []) = [] := rfl
 rw [e2, e3]
 generalize hleft : (pinE l s).toArray.filter (fun e => !seen.toArray.contains e.born) = left
 have hmem : ∀ e, e ∈ left ↔ e ∈ pinE l s ∧ e.born ∉ seen := by
  intro e
  rw [← hleft, Array.mem_filter]
  simp
 refine Run.choose fun k hk1 hk2 => ?_
 have hlen : ∀ e, e ∈ left → ∃ i y, l[i]? = some y ∧ e = { key := y.1, val := y.2, born := stampOf s i } := by
  intro e he
  have h1 := ((hmem e).1 he).1
  unfold pinE at h1
  obtain ⟨x, hx, rfl⟩ := List.mem_map.1 h1
  obtain ⟨j, hj, hjx⟩ := List.getElem_of_mem hx
  have hxp : x.1 ∈ s.2.1 := (List.of_mem_zip hx).1
  have hxl : x.1 < l.length := List.mem_range.1 (hs.perm.mem_iff.1 hxp)
  have hly : l[x.1]? = some l[x.1] := List.getElem?_eq_getElem hxl
  refine ⟨x.1, l[x.1], hly, ?_⟩
  simp only [hly]
  have hz : (s.2.1.zip s.2.2)[j]? = some x := by rw [List.getElem?_eq_getElem hj, hjx]
  have hz2 := List.getElem?_zip_eq_some.1 hz
  have hfd := zip_find (e := x.1) (p := s.2.1) (q := s.2.2) (hs.perm.nodup_iff.2 List.nodup_range) hz2.1 hz2.2
  have : stampOf s x.1 = x.2 := by unfold stampOf; rw [hfd]
  rw [this]
 have hcase : (left = #[] ∧ (match (#[none] ++ (left ++ #[]).map some)[k]? with | some none => True | _ => False)) ∨ (left ≠ #[] ∧ ∃ e, e ∈ left ∧ (#[] ++ (left ++ #[]).map some)[k]? = some (some e)) := by
  by_cases hl : left = #[]
  ·left
   refine ⟨hl, ?_⟩
   subst hl
   have : k = 0 := hk1 (by simp [Question.forced])
   subst this
   simp
  ·right
   refine ⟨hl, ?_⟩
   have hpos : 0 < left.size := by
    rcases Nat.eq_zero_or_pos left.size with h | h
    ·exact absurd (Array.eq_empty_of_size_eq_zero h) hl
    ·exact h
   have hem : left.isEmpty = false := by simp [hl]
   have hklt : k < left.size := by
    cases hf : Question.forced (.mapNext ((if left.isEmpty = true then #[none] else #[]) ++ (left ++ #[]).map some).size) with
    | true => have := hk1 hf; omega
    | false =>
     obtain ⟨t, ht⟩ := hk2 hf
     rw [ht, hem]
     simp only [Question.cut, Bool.false_eq_true, if_false]
     have : (#[] ++ (left ++ #[]).map some : Array (Option MapEntry)).size = left.size := by simp
     rw [this]
     exact Nat.mod_lt _ hpos
   refine ⟨left[k], Array.getElem_mem hklt, ?_⟩
   simp [hklt]
 rcases hcase with ⟨hl, hk⟩ | ⟨hl, e, he, hk⟩
 ·have hem : left.isEmpty = true := by rw [hl]; rfl
  simp only [hem, if_true]
  split at hk
  ·rename_i h0
   simp only [Sem.bind, h0]
   refine Run.pure (hover fun i hi => ?_)
   have hly : l[i]? = some l[i] := List.getElem?_eq_getElem hi
   obtain ⟨j, hj, _⟩ := pin_get hs hly
   have hin := List.mem_of_getElem? hj
   by_cases hx : stampOf s i ∈ seen
   ·exact hx
   ·have := (hmem _).2 ⟨hin, hx⟩
    rw [hl] at this; simp at this
  ·exact hk.elim
 ·have hem : left.isEmpty = false := by simp [hl]
  simp only [hem, Bool.false_eq_true, if_false, Sem.bind, hk]
  obtain ⟨i, y, hy, rfl⟩ := hlen e he
  have hns := ((hmem _).1 he).2
  have hc' : c' = s.1 := by
   rcases hc with hc | hc
   ·have h0 : pinE l s = [] := by simpa using hc
    have := ((hmem _).1 he).1
    rw [h0] at this; cases this
   ·exact hc
  subst hc'
  have e5 : seen.toArray.push (stampOf s i) = (seen ++ [stampOf s i]).toArray := by simp
  show Run P S0 (.setObj ib (.mapIter (some m) s.1 (seen.toArray.push (stampOf s i)) s.1) (Sem.pure (.tuple #[.bool true, y.1, y.2]))) S K
  rw [e5]
  exact Run.setObj (o0 := .mapIter (some m) s.1 seen.toArray s.1) hi rfl rfl (Run.pure (hgo i y hy hns)) rfl
end
end Mw
set_option linter.unusedVariables false
namespace Mw
open Go Mv
def forceDL {β : Type} (f : SC → (SC → β) → β) : List SC → (List SC → β) → β
 | [], k => k []
 | x :: l, k => f x fun x => forceDL f l fun l => k (x :: l)
def SC.forceD {β : Type} : Nat → SC → (SC → β) → β
 | 0, v, k => k v
 | n + 1, v, k => match v with
  | .int d e => forceIE d e k
  | .bool e => forceBE e k
  | .ptr b e => forceP b e k
  | .ref b => forceN b fun b => k (.ref b)
  | .agg l => forceDL (SC.forceD n) l fun l => k (.agg l)
  | v => k v
theorem forceDL_eq {β : Type} {f : SC → (SC → β) → β} (hf : ∀ x k, f x k = k x) : ∀ (l : List SC) (k : List SC → β), forceDL f l k = k l
 | [], _ => rfl
 | x :: l, k => by simp only [forceDL, hf, forceDL_eq hf l]
theorem SC.forceD_eq {β : Type} : ∀ (n : Nat) (v : SC) (k : SC → β), SC.forceD n v k = k v
 | 0, _, _ => rfl
 | n + 1, v, k => by
  have h1 := SC.force_eq v k
  cases v with
  | int d e => exact h1
  | bool e => exact h1
  | ptr b e => exact h1
  | ref b => simp only [SC.forceD, forceN_eq]
  | agg l => simp only [SC.forceD, forceDL_eq (SC.forceD_eq n)]
  | _ => rfl
def forcePs {β : Type} : List (SC × SC) → (List (SC × SC) → β) → β
 | [], k => k []
 | (x, y) :: l, k => x.forceD 4 fun x => y.forceD 4 fun y => forcePs l fun l => k ((x, y) :: l)
theorem forcePs_eq {β : Type} : ∀ (l : List (SC × SC)) (k : List (SC × SC) → β), forcePs l k = k l
 | [], _ => rfl
 | (x, y) :: l, k => by simp only [forcePs, SC.forceD_eq, forcePs_eq l]
def SO.forceD {β : Type} (o : SO) (k : SO → β) : β := match o with
 | .cells l e => forceDL (SC.forceD 4) l fun l => k (.cells l e)
 | .map es => forcePs es fun es => k (.map es)
 | o => k o
theorem SO.forceD_eq {β : Type} (o : SO) (k : SO → β) : o.forceD k = k o := by
 cases o <;> simp only [SO.forceD, forceDL_eq (SC.forceD_eq 4), forcePs_eq]
structure Nd where
 sl : List (Nat × SC)
 bl : List (Nat × SO)
def Nd.ss (x : Nd) (ro : Tr SO) : SS := { sl := setsT x.sl, hp := ⟨setsT x.bl, ro, .none⟩, df := [], cm := none }
def pickSl {β : Type} (nk : Nat) (sl : Tr SC) : List Nat → (List (Nat × SC) → β) → β
 | [], k => k []
 | i :: l, k => match sl.look i with
  | some v => match v.okB nk with
   | true => v.forceD 4 fun v => pickSl nk sl l fun r => k ((i, v) :: r)
   | false => pickSl nk sl l k
  | none => pickSl nk sl l k
def pickBl {β : Type} (nk : Nat) (rw : Tr SO) : List Nat → (List (Nat × SO) → β) → β
 | [], k => k []
 | i :: l, k => match rw.look i with
  | some o => match o.okB nk with
   | true => o.forceD fun o => pickBl nk rw l fun r => k ((i, o) :: r)
   | false => pickBl nk rw l k
  | none => pickBl nk rw l k
def slOf (nk : Nat) (sl : Tr SC) (l : List Nat) : List (Nat × SC) := pickSl nk sl l id
def blOf (nk : Nat) (rw : Tr SO) (l : List Nat) : List (Nat × SO) := pickBl nk rw l id
theorem pickSl_eq {β : Type} {nk : Nat} {sl : Tr SC} : ∀ (l : List Nat) (k : List (Nat × SC) → β), pickSl nk sl l k = k (slOf nk sl l)
 | [], _ => rfl
 | i :: l, k => by
  unfold slOf
  simp only [pickSl]
  split
  ·split
   ·simp only [SC.forceD_eq]
    rw [pickSl_eq l, pickSl_eq l]
    rfl
   ·rw [pickSl_eq l, pickSl_eq l]; rfl
  ·rw [pickSl_eq l, pickSl_eq l]; rfl
theorem pickBl_eq {β : Type} {nk : Nat} {rw : Tr SO} : ∀ (l : List Nat) (k : List (Nat × SO) → β), pickBl nk rw l k = k (blOf nk rw l)
 | [], _ => rfl
 | i :: l, k => by
  unfold blOf
  simp only [pickBl]
  split
  ·split
   ·simp only [SO.forceD_eq]
    rw [pickBl_eq l, pickBl_eq l]
    rfl
   ·rw [pickBl_eq l, pickBl_eq l]; rfl
  ·rw [pickBl_eq l, pickBl_eq l]; rfl
theorem slOf_mem {nk : Nat} {sl : Tr SC} : ∀ {l : List Nat} {x : Nat × SC}, x ∈ slOf nk sl l → x.1 ∈ l ∧ sl.look x.1 = some x.2 ∧ x.2.okB nk = true
 | [], x, h => by cases h
 | i :: l, x, h => by
  unfold slOf at h
  simp only [pickSl] at h
  split at h
  ·rename_i v hv
   split at h
   ·rename_i hok
    rw [SC.forceD_eq, pickSl_eq] at h
    rcases List.mem_cons.1 h with rfl | h
    ·exact ⟨List.mem_cons_self, hv, hok⟩
    ·obtain ⟨h1, h2⟩ := slOf_mem h
     exact ⟨List.mem_cons_of_mem _ h1, h2⟩
   ·obtain ⟨h1, h2⟩ := slOf_mem (l := l) h
    exact ⟨List.mem_cons_of_mem _ h1, h2⟩
  ·obtain ⟨h1, h2⟩ := slOf_mem (l := l) h
   exact ⟨List.mem_cons_of_mem _ h1, h2⟩
theorem blOf_mem {nk : Nat} {rw : Tr SO} : ∀ {l : List Nat} {x : Nat × SO}, x ∈ blOf nk rw l → x.1 ∈ l ∧ rw.look x.1 = some x.2 ∧ x.2.okB nk = true
 | [], x, h => by cases h
 | i :: l, x, h => by
  unfold blOf at h
  simp only [pickBl] at h
  split at h
  ·rename_i v hv
   split at h
   ·rename_i hok
    rw [SO.forceD_eq, pickBl_eq] at h
    rcases List.mem_cons.1 h with rfl | h
    ·exact ⟨List.mem_cons_self, hv, hok⟩
    ·obtain ⟨h1, h2⟩ := blOf_mem h
     exact ⟨List.mem_cons_of_mem _ h1, h2⟩
   ·obtain ⟨h1, h2⟩ := blOf_mem (l := l) h
    exact ⟨List.mem_cons_of_mem _ h1, h2⟩
  ·obtain ⟨h1, h2⟩ := blOf_mem (l := l) h
   exact ⟨List.mem_cons_of_mem _ h1, h2⟩
def sameSl : List (Nat × SC) → List (Nat × SC) → Bool
 | [], [] => true
 | (i, x) :: l, (j, y) :: m => match Nat.beq i j, SC.same 6 x y with
  | true, true => sameSl l m
  | _, _ => false
 | _, _ => false
theorem sameSl_eq : ∀ {l m : List (Nat × SC)}, sameSl l m = true → l = m
 | [], [], _ => rfl
 | [], _ :: _, h => by cases h
 | _ :: _, [], h => by cases h
 | (i, x) :: l, (j, y) :: m, h => by
  simp only [sameSl] at h
  split at h
  ·rename_i h1 h2
   rw [Nat.eq_of_beq_eq_true h1, SC.same_eq _ _ _ h2, sameSl_eq h]
  ·cases h
def Nd.same (x y : Nd) : Bool := match sameBl x.bl y.bl with
 | true => sameSl x.sl y.sl
 | false => false
theorem Nd.same_eq {x y : Nd} (h : Nd.same x y = true) : x = y := by
 unfold Nd.same at h
 split at h
 ·rename_i h1
  cases x; cases y
  simp only at h1 h
  rw [sameBl_eq h1, sameSl_eq h]
 ·cases h
structure LoopM where
 d : Tmp
 ops : Array Oper
 rest : List Nat
 its : List Item
 it : Tmp
 ib : Nat
 m : Nat
 sh : Nat
 n : Nat
 keep : List Nat
 names : List Nat
def headR : Code → List Item → Option (Nat × Array Oper × List Item)
 | .region id ops false, tl => some (id, ops, tl)
 | .seq a b, tl => headR a (.code b :: tl)
 | _, _ => none
def bothO {α : Type} : Option (List α) → Option (List α) → Option (List α)
 | some l, some m => some (l ++ m)
 | _, _ => none
def leaves_ : Tree → Nat → Option (List (Nat × SEx × SS))
 | .done e σ, n => some [(n, e, σ)]
 | .ok, _ => some []
 | .new t, n => match Nat.ble n 1000000000 with
  | true => leaves_ t (n + 1)
  | false => none
 | .both a b, n => bothO (leaves_ a n) (leaves_ b n)
 | _, _ => none
theorem bothO_some {α : Type} {a b : Option (List α)} {l : List α} (h : bothO a b = some l) : ∃ x y, a = some x ∧ b = some y ∧ l = x ++ y := by
 unfold bothO at h
 split at h
 ·rename_i x y
  simp only [Option.some.injEq] at h
  exact ⟨x, y, rfl, rfl, h.symm⟩
 ·cases h
theorem leaves_holds {D : Env → SEx → SS → Prop} {E : Env → List Item → SS → Prop} : ∀ (t : Tree) (ρ ρ0 : Env) (l : List (Nat × SEx × SS)), Ext ρ0 ρ → leaves_ t ρ.k.length = some l → (∀ x ∈ l, ∀ ρ' : Env, Ext ρ0 ρ' → ρ'.k.length = x.1 → D ρ' x.2.1 x.2.2) → holds D E ρ t
 | .done e σ, ρ, ρ0, l, he, h, hD => by
  simp only [leaves_, Option.some.injEq] at h
  subst h
  exact hD _ (List.mem_singleton.2 rfl) ρ he rfl
 | .ok, _, _, _, _, _, _ => trivial
 | .new t, ρ, ρ0, l, he, h, hD => by
  simp only [leaves_] at h
  split at h
  ·intro b r
   exact leaves_holds t (ρ.grow b r) ρ0 l (he.trans (Ext.grow ρ b r)) (by rw [len_grow]; exact h) hD
  ·cases h
 | .both a b, ρ, ρ0, l, he, h, hD => by
  simp only [leaves_] at h
  obtain ⟨x, y, h1, h2, rfl⟩ := bothO_some h
  exact ⟨leaves_holds a ρ ρ0 x he h1 fun z hz => hD z (List.mem_append_left _ hz), leaves_holds b ρ ρ0 y he h2 fun z hz => hD z (List.mem_append_right _ hz)⟩
 | .stop _ _, _, _, _, _, h, _ => by simp [leaves_] at h
 | .branch _ _ _, _, _, _, _, h, _ => by simp [leaves_] at h
 | .need _ _, _, _, _, _, h, _ => by simp [leaves_] at h
 | .bad, _, _, _, _, h, _ => by simp [leaves_] at h
def atItr (M : LoopM) (nk i : Nat) : Option SO → Bool
 | some (.itr m sh n (some j) r) => Nat.beq m M.m && (Nat.beq sh M.sh && (Nat.beq n M.n && (Nat.beq j i && Nat.beq r nk)))
 | _ => false
def isNormal : SEx → Bool
 | .normal => true
 | _ => false
def toNd (M : LoopM) (nk : Nat) (i : Option Nat) (ex : SEx) (σ : SS) : Option (SEx × Nd) := match σ.df, σ.cm, σ.hp.gh with
 | [], none, .none => match ex with
  | .panic _ => none
  | .normal => match i with
   | some i => match atItr M nk i (σ.hp.rw.look M.ib) with
    | true => pickSl nk σ.sl M.keep fun sl => pickBl nk σ.hp.rw M.names fun bl => some (.normal, ⟨sl, bl⟩)
    | false => none
   | none => none
  | ex => pickSl nk σ.sl M.keep fun sl => pickBl nk σ.hp.rw M.names fun bl => some (ex, ⟨sl, bl⟩)
 | _, _, _ => none
def toNds (M : LoopM) (nk : Nat) (i : Option Nat) : List (Nat × SEx × SS) → Option (List (SEx × Nd))
 | [] => some []
 | (_, ex, σ) :: l => match toNd M nk i ex σ with
  | some x => match toNds M nk i l with
   | some r => some (x :: r)
   | none => none
  | none => none
def kDone : Kont := fun e σ _ _ => .done e σ
def runE (ex : Run_) (C : Cx) (M : LoopM) (ro : Tr SO) (nk : Nat) (x : Nd) (i : Nat) : Option (List (SEx × Nd)) := match (setsT x.bl).look M.m, (setsT x.sl).look M.it with
 | some (.pin es sh), some (.ptr b (.lit (.ofNat 0))) => match Nat.beq sh M.sh, Nat.beq es.length M.n, Nat.beq b M.ib, es[i]? with
  | true, true, true, some y => match leaves_ (ex { C with top := false } {} (.inRegion M.ops M.rest :: M.its) { sl := (setsT x.sl).set M.d (.tup [.bool (.lit true), y.1, y.2]), hp := ⟨(setsT x.bl).set M.ib (.itr M.m M.sh M.n (some i) nk), ro, .none⟩, df := [], cm := none } (nk + 1) kDone) (nk + 1) with
   | some l => toNds M nk (some i) l
   | none => none
  | _, _, _, _ => none
 | _, _ => none
def runO (ex : Run_) (C : Cx) (M : LoopM) (ro : Tr SO) (nk : Nat) (x : Nd) : Option (List (SEx × Nd)) := match (setsT x.bl).look M.m, (setsT x.sl).look M.it with
 | some (.pin es sh), some (.ptr b (.lit (.ofNat 0))) => match Nat.beq sh M.sh, Nat.beq es.length M.n, Nat.beq b M.ib with
  | true, true, true => match leaves_ (ex { C with top := false } {} (.inRegion M.ops M.rest :: M.its) { sl := (setsT x.sl).set M.d (.tup [.bool (.lit false)]), hp := ⟨setsT x.bl, ro, .none⟩, df := [], cm := none } nk kDone) nk with
   | some l => toNds M nk none l
   | none => none
  | _, _, _ => none
 | _, _ => none
section
variable {P : Program} {main : Co} {C : Cx} {r : Ctx} {M : LoopM} {ρ : Env} {F0 : Own} {ro : Tr SO}
theorem toNd_some {nk : Nat} {i : Option Nat} {ex : SEx} {σ : SS} {y : SEx × Nd} (h : toNd M nk i ex σ = some y) : y.1 = ex ∧ σ.df = [] ∧ σ.cm = none ∧ σ.hp.gh = .none ∧ y.2 = ⟨slOf nk σ.sl M.keep, blOf nk σ.hp.rw M.names⟩ ∧ (∀ ch, ex ≠ .panic ch) ∧
  (ex = .normal → ∃ j, i = some j ∧ σ.hp.rw.look M.ib = some (.itr M.m M.sh M.n (some j) nk)) := by
 unfold toNd at h
 split at h
 ·rename_i h1 h2 h3
  split at h
  ·cases h
  ·split at h
   ·rename_i j
    split at h
    ·rename_i hat
     rw [pickSl_eq, pickBl_eq] at h
     simp only [Option.some.injEq] at h; subst h
     refine ⟨rfl, h1, h2, h3, rfl, fun ch e => (by cases e), fun _ => ⟨j, rfl, ?_⟩⟩
     unfold atItr at hat
     split at hat
     ·rename_i hl
      simp only [Bool.and_eq_true] at hat
      rw [hl, Nat.eq_of_beq_eq_true hat.1, Nat.eq_of_beq_eq_true hat.2.1, Nat.eq_of_beq_eq_true hat.2.2.1, Nat.eq_of_beq_eq_true hat.2.2.2.1, Nat.eq_of_beq_eq_true hat.2.2.2.2]
     ·cases hat
    ·cases h
   ·cases h
  ·rename_i hn1 hn2
   rw [pickSl_eq, pickBl_eq] at h
   simp only [Option.some.injEq] at h; subst h
   exact ⟨rfl, h1, h2, h3, rfl, fun ch e => hn1 ch e, fun e => absurd e hn2⟩
 ·cases h
theorem toNds_mem {nk : Nat} {i : Option Nat} : ∀ {l : List (Nat × SEx × SS)} {ys : List (SEx × Nd)}, toNds M nk i l = some ys → ∀ x ∈ l, ∃ y ∈ ys, toNd M nk i x.2.1 x.2.2 = some y
 | [], ys, _, x, hx => by cases hx
 | (n, e, σ) :: l, ys, h, x, hx => by
  simp only [toNds] at h
  split at h
  ·rename_i y hy
   split at h
   ·rename_i r hr
    simp only [Option.some.injEq] at h; subst h
    rcases List.mem_cons.1 hx with rfl | hx
    ·exact ⟨y, List.mem_cons_self, hy⟩
    ·obtain ⟨z, hz, h2⟩ := toNds_mem hr x hx
     exact ⟨z, List.mem_cons_of_mem _ hz, h2⟩
   ·cases h
  ·cases h
structure NodeOk (C : Cx) (M : LoopM) (ρ : Env) (F0 : Own) (ro : Tr SO) (x : Nd) (L : List Nat) (a : St) (S : Own) : Prop where
 lt : ∀ i ∈ L, i < M.n
 nodup : L.Nodup
 fit : Fit C.size F0 ρ (x.ss ro) a S
 okb : ∀ y ∈ x.bl, y.2.okB ρ.k.length = true
 seen : ∃ seen : List Nat, S.full (ρ.blk M.ib) = some (.mapIter (some (ρ.blk M.m)) (ρ.shape M.n M.sh).1 seen.toArray (ρ.shape M.n M.sh).1) ∧ ∀ i, i < M.n → (stampOf (ρ.shape M.n M.sh) i ∈ seen ↔ i ∉ L)
theorem okB_den {n : Nat} {o : SO} (h : o.okB n = true) (ρ : Env) : ∀ m c s t, o.den ρ ≠ .mapIter m c s t := by
 cases o <;> first | (simp [SO.okB] at h; done) | (intro m c s t e; cases e)
theorem fit_back {size nk : Nat} {F0 : Own} {ρ ρ' : Env} {σ : SS} {a : St} {S : Own} {ro : Tr SO} {keep names : List Nat} (he : Ext ρ ρ') (hnk : ρ.k.length = nk) (hf : Fit size F0 ρ' σ a S) (hdf : σ.df = []) (hcm : σ.cm = none) (hgh : σ.hp.gh = .none)
  (hro : ∀ i o, ro.look i = some o → i < ρ.k.length ∧ o.ok ρ.k.length ∧ F0.ro (ρ.blk i) = some (o.den ρ)) (hnames : ∀ i ∈ names, i < ρ.k.length) : Fit size F0 ρ ((⟨slOf nk σ.sl keep, blOf nk σ.hp.rw names⟩ : Nd).ss ro) a S := by
 subst hnk
 exact {
  size := hf.size
  df := by rw [hf.df, hdf]; rfl
  dfok := fun d hd => by cases hd
  cm := by rw [hf.cm, hcm]; rfl
  cmok := fun m hm => by cases hm
  sl := fun d v hd => by
   obtain ⟨_, h1, h2⟩ := slOf_mem (setsT_look hd)
   obtain ⟨h3, h4⟩ := hf.sl d v h1
   have hok := SC.okB_ok h2
   exact ⟨hok, by rw [← SC.den_ext he hok]; exact h4⟩
  hp := {
   has := fun i o hi => by
    obtain ⟨h0, h1, h2⟩ := blOf_mem (setsT_look hi)
    have hok := SO.okB_ok h2
    have hlt := hnames i h0
    obtain ⟨_, _, h3⟩ := hf.hp.has i o h1
    exact ⟨hlt, hok, by rw [← blk_ext he hlt, ← SO.den_ext he hok]; exact h3⟩
   hro := fun i o hi => by
    obtain ⟨h1, h2, h3⟩ := hro i o hi
    exact ⟨h1, h2, hf.hp.ro _ _ h3⟩
   inj := fun i j o o' hi hj e => by
    obtain ⟨h0, h1, h2⟩ := blOf_mem (setsT_look hi)
    obtain ⟨k0, k1, k2⟩ := blOf_mem (setsT_look hj)
    rw [← blk_ext he (hnames i h0), ← blk_ext he (hnames j k0)] at e
    exact hf.hp.inj i j o o' h1 k1 e
   frm := hf.hp.frm
   apart := fun i o hi => by
    obtain ⟨h0, h1, h2⟩ := blOf_mem (setsT_look hi)
    rw [← blk_ext he (hnames i h0)]
    exact hf.hp.apart i o h1
   ro := hf.hp.ro
   gh := by rw [hf.hp.gh, hgh]; rfl
   dis := hf.hp.dis
   ghok := trivial
   lent := fun i hi => by cases hi
   linj := fun i hi => by cases hi
   rinj := fun i hi => by cases hi
   lnd := List.nodup_nil } }
theorem wpI_append {x y : List Item} {Q : Ex → St → Own → Prop} {a : St} {S : Own} (h : wpI P main r x (behind P main r y Q) a S) : wpI P main r (x ++ y) Q a S :=
 fun Stop b k cs hb hc => by
  rw [List.append_assoc]
  exact h Stop b (y ++ k) cs hb fun _ _ _ q => After.items hb hc q
theorem head_move : ∀ (c : Code) (tl : List Item) {id : Nat} {ops : Array Oper} {its : List Item} {Q : Ex → St → Own → Prop} {a : St} {S : Own} {tail : List Item}, headR c tl = some (id, ops, its) → wpI P main r (.inRegion ops (List.range ops.size) :: its ++ tail) Q a S → wpI P main r (.code c :: tl ++ tail) Q a S
 | .region id ops d, tl, id', ops', its, Q, a, S, tail, h, hw => by
  cases d with
  | true => cases h
  | false =>
   simp only [headR, Option.some.injEq, Prod.mk.injEq] at h
   obtain ⟨rfl, rfl, rfl⟩ := h
   exact wpI_move (fun b k cs w => stepG_region) hw
 | .seq c d, tl, id, ops, its, Q, a, S, tail, h, hw => by
  simp only [headR] at h
  exact wpI_move (items' := .code c :: (.code d :: tl) ++ tail) (fun b k cs w => stepG_seq) (head_move c (.code d :: tl) h hw)
 | .skip, _, _, _, _, _, _, _, _, h, _ => by cases h
 | .cond _ _ _, _, _, _, _, _, _, _, _, h, _ => by cases h
 | .block _ _, _, _, _, _, _, _, _, _, h, _ => by cases h
 | .loop _, _, _, _, _, _, _, _, _, h, _ => by cases h
 | .rangeFunc _ _ _ _, _, _, _, _, _, _, _, _, h, _ => by cases h
 | .exit _, _, _, _, _, _, _, _, _, h, _ => by cases h
 | .scope _, _, _, _, _, _, _, _, _, h, _ => by cases h
 | .label _, _, _, _, _, _, _, _, _, h, _ => by cases h
 | .goto _, _, _, _, _, _, _, _, _, h, _ => by cases h
 | .ret, _, _, _, _, _, _, _, _, h, _ => by cases h
 | .refuse _, _, _, _, _, _, _, _, _, h, _ => by cases h
end
end Mw
set_option linter.unusedVariables false
namespace Mw
open Go Mv
theorem Sat.add {ρ : Env} {hp : Hp} {F S : Own} {i : Nat} {o : SO} (h : Sat ρ hp F S) (hi : i < ρ.k.length) (ho : o.ok ρ.k.length) (hne : ∀ j u, hp.rw.look j = some u → ρ.blk j ≠ ρ.blk i) (hF : F.full (ρ.blk i) = none) (hS : (S.full (ρ.blk i)).isSome) :
  Sat ρ { hp with rw := hp.rw.set i o } F (S.set (ρ.blk i) (o.den ρ)) where
 has j u hj := by
  rcases Tr.look_set hj with ⟨rfl, rfl⟩ | ⟨e, hj⟩
  ·exact ⟨hi, ho, by simp⟩
  ·obtain ⟨h1, h2, h3⟩ := h.has j u hj
   exact ⟨h1, h2, by rw [Own.set_full, if_neg (hne j u hj)]; exact h3⟩
 hro j u hj := h.hro j u hj
 inj j j' u u' hj hj' e := by
  rcases Tr.look_set hj with ⟨e1, _⟩ | ⟨_, h1⟩
  ·rcases Tr.look_set hj' with ⟨e2, _⟩ | ⟨_, h2⟩
   ·rw [e1, e2]
   ·rw [e1] at e; exact absurd e.symm (hne _ _ h2)
  ·rcases Tr.look_set hj' with ⟨e2, _⟩ | ⟨_, h2⟩
   ·rw [e2] at e; exact absurd e (hne _ _ h1)
   ·exact h.inj _ _ _ _ h1 h2 e
 frm b ob hb := by
  rw [Own.set_full]
  split
  ·rename_i e; subst e; rw [hF] at hb; cases hb
  ·exact h.frm b ob hb
 apart j u hj := by
  rcases Tr.look_set hj with ⟨rfl, _⟩ | ⟨_, hj⟩
  ·exact hF
  ·exact h.apart j u hj
 ro := h.ro
 gh := h.gh
 ghok := h.ghok
 lent := h.lent
 linj := h.linj
 rinj := h.rinj
 lnd := h.lnd
 dis b hb := by
  rw [Own.set_full] at hb
  split at hb
  ·rename_i e; subst e; exact h.dis _ hS
  ·exact h.dis b hb
section
variable {P : Program} {main : Co} {C : Cx} {r : Ctx} {M : LoopM} {ρ : Env} {F0 : Own} {ro : Tr SO}
structure HeadOk (C : Cx) (M : LoopM) (ρ : Env) (F0 : Own) (ro : Tr SO) (c : Code) : Prop where
 head : ∃ id, headR c [] = some (id, M.ops, M.its)
 op : ∃ o, M.ops[0]? = some o ∧ o.guard = none ∧ o.op = .next (.tmp M.it) false ∧ o.dst = some M.d
 dlt : M.d < C.size
 rest : List.range M.ops.size = 0 :: M.rest
 ib : M.ib < ρ.k.length
 m : M.m < ρ.k.length
 sh : M.sh < ρ.k.length
 free : F0.full (ρ.blk M.ib) = none
 ro : ∀ i o, ro.look i = some o → i < ρ.k.length ∧ o.ok ρ.k.length ∧ F0.ro (ρ.blk i) = some (o.den ρ)
 names : ∀ i ∈ M.names, i < ρ.k.length
theorem runE_some {ex : Run_} {nk i : Nat} {x : Nd} {lv : List (SEx × Nd)} (h : runE ex C M ro nk x i = some lv) : ∃ es y l, (setsT x.bl).look M.m = some (.pin es M.sh) ∧ es.length = M.n ∧ (setsT x.sl).look M.it = some (.ptr M.ib (.lit (.ofNat 0))) ∧ es[i]? = some y ∧
  leaves_ (ex { C with top := false } {} (.inRegion M.ops M.rest :: M.its) { sl := (setsT x.sl).set M.d (.tup [.bool (.lit true), y.1, y.2]), hp := ⟨(setsT x.bl).set M.ib (.itr M.m M.sh M.n (some i) nk), ro, .none⟩, df := [], cm := none } (nk + 1) kDone) (nk + 1) = some l ∧ toNds M nk (some i) l = some lv := by
 unfold runE at h
 split at h
 ·rename_i es sh b h1 h2
  split at h
  ·rename_i y k1 k2 k3 k4
   split at h
   ·rename_i l hl
    have k1 := Nat.eq_of_beq_eq_true k1
    have k2 := Nat.eq_of_beq_eq_true k2
    have k3 := Nat.eq_of_beq_eq_true k3
    rw [k1] at h1; rw [k3] at h2
    exact ⟨es, y, l, h1, k2, h2, k4, hl, h⟩
   ·cases h
  ·cases h
 ·cases h
theorem runO_some {ex : Run_} {nk : Nat} {x : Nd} {lv : List (SEx × Nd)} (h : runO ex C M ro nk x = some lv) : ∃ es l, (setsT x.bl).look M.m = some (.pin es M.sh) ∧ es.length = M.n ∧ (setsT x.sl).look M.it = some (.ptr M.ib (.lit (.ofNat 0))) ∧
  leaves_ (ex { C with top := false } {} (.inRegion M.ops M.rest :: M.its) { sl := (setsT x.sl).set M.d (.tup [.bool (.lit false)]), hp := ⟨setsT x.bl, ro, .none⟩, df := [], cm := none } nk kDone) nk = some l ∧ toNds M nk none l = some lv := by
 unfold runO at h
 split at h
 ·rename_i es sh b h1 h2
  split at h
  ·rename_i k1 k2 k3
   split at h
   ·rename_i l hl
    have k1 := Nat.eq_of_beq_eq_true k1
    have k2 := Nat.eq_of_beq_eq_true k2
    have k3 := Nat.eq_of_beq_eq_true k3
    rw [k1] at h1; rw [k3] at h2
    exact ⟨es, l, h1, k2, h2, hl, h⟩
   ·cases h
  ·cases h
 ·cases h
def Serves (P : Program) (main : Co) (C : Cx) (r : Ctx) (M : LoopM) (ρ : Env) (F0 : Own) (ro : Tr SO) (tl : List Item) (Q : Ex → St → Own → Prop) (y : SEx × Nd) (L : List Nat) : Prop :=
 ∀ a S, (y.1 = .normal → NodeOk C M ρ F0 ro y.2 L a S → wpI P main r tl Q a S) ∧ (y.1 ≠ .normal → Fit C.size F0 ρ (y.2.ss ro) a S → behind P main r tl Q (y.1.den ρ) a S)
theorem den_plain {ρ ρ' : Env} {e : SEx} (h : ∀ ch, e ≠ .panic ch) : e.den ρ' = e.den ρ := by
 cases e <;> first | rfl | exact absurd rfl (h _)
theorem round_ok {ex : Run_} (hex : SoundEx P main ex) (hC : CtxOk C r ρ) (hv : vals ρ) (hΓ : ({} : Facts).On ρ) {c : Code} (H : HeadOk C M ρ F0 ro c) {tl : List Item} {Q : Ex → St → Own → Prop} {x : Nd} {L : List Nat} {a : St} {S : Own} (hN : NodeOk C M ρ F0 ro x L a S)
  (hE : ∀ i ∈ L, ∃ lv, runE ex C M ro ρ.k.length x i = some lv ∧ ∀ y ∈ lv, Serves P main C r M ρ F0 ro tl Q y (L.erase i)) (hO : L = [] → ∃ lv, runO ex C M ro ρ.k.length x = some lv ∧ ∀ y ∈ lv, Serves P main C r M ρ F0 ro tl Q y []) :
  wpI P main r (.code c :: tl) Q a S := by
 obtain ⟨id, hhead⟩ := H.head
 obtain ⟨o, ho, hg, hop, hdst⟩ := H.op
 refine head_move c [] (tail := tl) hhead ?_
 rw [H.rest]
 have facts : ∃ es, (setsT x.bl).look M.m = some (.pin es M.sh) ∧ es.length = M.n ∧ (setsT x.sl).look M.it = some (.ptr M.ib (.lit (.ofNat 0))) := by
  cases L with
  | nil =>
   obtain ⟨lv, hlv, _⟩ := hO rfl
   obtain ⟨es, l, h1, h2, h3, _⟩ := runO_some hlv
   exact ⟨es, h1, h2, h3⟩
  | cons i L =>
   obtain ⟨lv, hlv, _⟩ := hE i List.mem_cons_self
   obtain ⟨es, y, l, h1, h2, h3, _⟩ := runE_some hlv
   exact ⟨es, h1, h2, h3⟩
 obtain ⟨es, hm, hlen, hit⟩ := facts
 obtain ⟨seen, hseen, hL⟩ := hN.seen
 obtain ⟨_, hpo, hpf⟩ := hN.fit.hp.has M.m _ hm
 have hev : a.eval (.tmp M.it) = .pointer (some ⟨ρ.blk M.ib, 0, none⟩) := by
  obtain ⟨_, h2⟩ := hN.fit.sl M.it _ hit
  show a.tmps.getD M.it undef = _
  rw [Array.getD_eq_getD_getElem?, h2]
  rfl
 have hsok : ShapeOk (es.map (pairD ρ)).length (ρ.shape M.n M.sh) := by rw [List.length_map, hlen]; exact ρ.shape_ok _ _
 have hget : S.get (ρ.blk M.m) = some (.map (pinE (es.map (pairD ρ)) (ρ.shape M.n M.sh)).toArray (ρ.shape M.n M.sh).1) := by
  unfold Own.get
  rw [hpf, ← hlen]
  rfl
 have hred : execOp a.eval o = (do pure (.value (← Instr.next (.pointer (some ⟨ρ.blk M.ib, 0, none⟩)) false o.type)) : Sem Next) := by simp only [execOp, hop, hev]
 refine wpI_op (items := M.its ++ tl) ho (by simp [Region.wanted, hg]) (plainOp_of (by rw [hop]; rfl)) ?_
 rw [hred]
 have hcx : CtxOk { C with top := false } r ρ := ⟨hC.dfr, hC.round, hC.low, hC.fn⟩
 refine run_value (next_run hsok hseen hget (fun hall => ?_) (fun i yv hy hns => ?_))
 ·
  have hnil : L = [] := by
   cases L with
   | nil => rfl
   | cons i L =>
    have hi := hN.lt i List.mem_cons_self
    have := (hL i hi).1 (hall i (by rw [List.length_map, hlen]; exact hi))
    exact absurd List.mem_cons_self this
  obtain ⟨lv, hlv, hserves⟩ := hO hnil
  obtain ⟨es', l, h1, h2, h3, hl, hto⟩ := runO_some hlv
  simp only [Upon, hdst]
  refine wpI_append (x := .inRegion M.ops M.rest :: M.its) ?_
  have hfit := hN.fit.put (dst := some M.d) (v := .tup [.bool (.lit false)]) (by simpa using H.dlt) ⟨trivial, trivial⟩
  refine hex (fun ρ' e σ => ∀ a S, Fit C.size F0 ρ' σ a S → behind P main r tl Q (e.den ρ') a S) (fun _ _ _ => True) { C with top := false } r {} _ _ _ kDone ρ (behind P main r tl Q) F0 hcx hv hΓ rfl
   (fun ρ' e σ Γ he hΓ' hok hh a S hf => hh a S hf) (fun h => by cases h) (leaves_holds _ ρ ρ l (Ext.refl ρ) hl fun z hz ρ' he hlen' a2 S2 hf2 => ?_) _ S hfit
  obtain ⟨y, hy, hty⟩ := toNds_mem hto z hz
  obtain ⟨e1, e2, e3, e4, e5, e6, e7⟩ := toNd_some hty
  have hne : y.1 ≠ .normal := fun e => by
   rw [e1] at e
   obtain ⟨j, hj, _⟩ := e7 e
   cases hj
  rw [den_plain (ρ := ρ) e6, ← e1]
  refine (hserves y hy a2 S2).2 hne ?_
  rw [e5]
  exact fit_back he rfl hf2 e2 e3 e4 H.ro H.names
 ·
  have hiy : ∃ y, es[i]? = some y ∧ pairD ρ y = yv := by
   rw [List.getElem?_map] at hy
   obtain ⟨y, h1, h2⟩ := Option.map_eq_some_iff.1 hy
   exact ⟨y, h1, h2⟩
  obtain ⟨y0, hy0, rfl⟩ := hiy
  have hin : i < M.n := by rw [← hlen]; exact (List.getElem?_eq_some_iff.1 hy0).1
  have hiL : i ∈ L := by
   by_cases h : i ∈ L
   ·exact h
   ·exact absurd ((hL i hin).2 h) hns
  obtain ⟨lv, hlv, hserves⟩ := hE i hiL
  obtain ⟨es', y, l, h1, h2, h3, h4, hl, hto⟩ := runE_some hlv
  rw [hm] at h1
  simp only [Option.some.injEq, SO.pin.injEq] at h1
  obtain ⟨rfl, _⟩ := h1
  rw [hy0] at h4
  simp only [Option.some.injEq] at h4; subst h4
  have hyo : y0.1.ok ρ.k.length ∧ y0.2.ok ρ.k.length := hpo.2 y0 (List.mem_of_getElem? hy0)
  let rv : List Value := seen.map fun n => Value.int .i64 (n : Nat)
  let ρ1 := ρ.grow 0 rv
  have he1 : Ext ρ ρ1 := Ext.grow ρ 0 rv
  have hl1 : ρ1.k.length = ρ.k.length + 1 := len_grow _ _ _
  have hb1 : ρ1.blk M.ib = ρ.blk M.ib := blk_grow ρ 0 rv H.ib
  have hden : (SO.itr M.m M.sh M.n (some i) ρ.k.length).den ρ1 = .mapIter (some (ρ.blk M.m)) (ρ.shape M.n M.sh).1 (seen ++ [stampOf (ρ.shape M.n M.sh) i]).toArray (ρ.shape M.n M.sh).1 := by
   have e1 : ρ1.shape M.n M.sh = ρ.shape M.n M.sh := by unfold Env.shape; rw [rest_grow ρ 0 rv H.sh]
   have e2 : ρ1.rest ρ.k.length = rv := rest_new ρ 0 rv
   simp only [SO.den, e1, e2, blk_grow ρ 0 rv H.m, ρ1]
   rw [natV_code]
  have hne : ∀ j u, (setsT x.bl).look j = some u → ρ1.blk j ≠ ρ1.blk M.ib := fun j u hj e => by
   obtain ⟨k1, k2, k3⟩ := hN.fit.hp.has j u hj
   rw [blk_grow ρ 0 rv k1, hb1] at e
   rw [e, hseen] at k3
   exact okB_den (hN.okb _ (setsT_look hj)) ρ _ _ _ _ (Option.some.inj k3).symm
  have hs1 := (hN.fit.hp.grow (b := 0) (r := rv)).add (i := M.ib) (o := .itr M.m M.sh M.n (some i) ρ.k.length) (by rw [hl1]; exact Nat.lt_succ_of_lt H.ib) ⟨by rw [hl1]; exact Nat.lt_succ_of_lt H.m, by rw [hl1]; exact Nat.lt_succ_of_lt H.sh, by rw [hl1]; omega⟩ hne
   (by rw [hb1]; exact H.free) (by rw [hb1, hseen]; rfl)
  rw [show (SO.itr M.m M.sh M.n (some i) ρ.k.length).den (ρ.grow 0 rv) = _ from hden, show (ρ.grow 0 rv).blk M.ib = ρ.blk M.ib from hb1] at hs1
  have hfit1 := (hN.fit.later he1 hs1).put (dst := some M.d) (v := .tup [.bool (.lit true), y0.1, y0.2]) (by simpa using H.dlt) ⟨trivial, SC.ok_mono he1.len _ hyo.1, SC.ok_mono he1.len _ hyo.2, trivial⟩
  have e4 : (SC.tup [.bool (.lit true), y0.1, y0.2]).den ρ1 = .tuple #[.bool true, y0.1.den ρ, y0.2.den ρ] := by
   simp only [SC.den, dens, BE.den, SC.den_ext he1 hyo.1, SC.den_ext he1 hyo.2]
  rw [e4] at hfit1
  simp only [Upon, hdst]
  refine wpI_append (x := .inRegion M.ops M.rest :: M.its) ?_
  have hΓ1 : ({} : Facts).On ρ1 := hΓ.grow 0 rv
  have hh : holds (fun ρ' e σ => ∀ a S, Fit C.size F0 ρ' σ a S → behind P main r tl Q (e.den ρ') a S) (fun _ _ _ => True) ρ1 (ex { C with top := false } {} (.inRegion M.ops M.rest :: M.its) { sl := (setsT x.sl).set M.d (.tup [.bool (.lit true), y0.1, y0.2]), hp := ⟨(setsT x.bl).set M.ib (.itr M.m M.sh M.n (some i) ρ.k.length), ro, .none⟩, df := [], cm := none } (ρ.k.length + 1) kDone) := by
   refine leaves_holds _ ρ1 ρ1 l (Ext.refl ρ1) (by rw [hl1]; exact hl) fun z hz ρ' he hlen' a2 S2 hf2 => ?_
   obtain ⟨y, hy, hty⟩ := toNds_mem hto z hz
   obtain ⟨e1, e2, e3, e4, e5, e6, e7⟩ := toNd_some hty
   have hfb := fit_back (keep := M.keep) (names := M.names) (he1.trans he) rfl hf2 e2 e3 e4 H.ro H.names
   by_cases hnorm : z.2.1 = .normal
   ·obtain ⟨j, hj, hlk⟩ := e7 hnorm
    simp only [Option.some.injEq] at hj; subst hj
    rw [hnorm]
    refine (hserves y hy a2 S2).1 (by rw [e1, hnorm]) ⟨fun j hj => hN.lt j (List.mem_of_mem_erase hj), hN.nodup.erase i, by rw [e5]; exact hfb, fun w hw => ?_, ?_⟩
    ·rw [e5] at hw
     exact (blOf_mem hw).2.2
    ·obtain ⟨k1, k2, k3⟩ := hf2.hp.has M.ib _ hlk
     refine ⟨seen ++ [stampOf (ρ.shape M.n M.sh) i], ?_, fun j hj => ?_⟩
     ·have hok1 : (SO.itr M.m M.sh M.n (some i) ρ.k.length).ok ρ1.k.length := ⟨by rw [hl1]; exact Nat.lt_succ_of_lt H.m, by rw [hl1]; exact Nat.lt_succ_of_lt H.sh, by rw [hl1]; omega⟩
      rw [← hden, ← SO.den_ext he hok1, ← blk_ext (he1.trans he) H.ib]
      exact k3
     ·rw [List.mem_append, List.mem_singleton, hL j hj, hN.nodup.mem_erase_iff]
      have hinj : stampOf (ρ.shape M.n M.sh) j = stampOf (ρ.shape M.n M.sh) i ↔ j = i := ⟨fun e => stamp_inj (ρ.shape_ok _ _) hj hin e, fun e => by rw [e]⟩
      rw [hinj]
      constructor
      ·rintro (h | h) ⟨h1, h2⟩
       ·exact h h2
       ·exact h1 h
      ·intro h
       by_cases hji : j = i
       ·exact .inr hji
       ·exact .inl fun h2 => h ⟨hji, h2⟩
   ·rw [den_plain (ρ := ρ) e6, ← e1]
    refine (hserves y hy a2 S2).2 (by rw [e1]; exact hnorm) ?_
    rw [e5]
    exact hfb
  exact hex (fun ρ' e σ => ∀ a S, Fit C.size F0 ρ' σ a S → behind P main r tl Q (e.den ρ') a S) (fun _ _ _ => True) { C with top := false } r {} _ _ (ρ.k.length + 1) kDone ρ1 (behind P main r tl Q) F0 (hcx.later he1) (vals_ext he1 hv) hΓ1 hl1
   (fun ρ' e σ Γ he hΓ' hok hh a S hf => hh a S hf) (fun h => by cases h) hh _ _ hfit1
end
end Mw
set_option linter.unusedVariables false
namespace Mw
open Go Mv
abbrev Front := List (Nd × List (List Nat))
def sameNs : List Nat → List Nat → Bool
 | [], [] => true
 | i :: l, j :: m => match Nat.beq i j with
  | true => sameNs l m
  | false => false
 | _, _ => false
theorem sameNs_eq : ∀ {l m : List Nat}, sameNs l m = true → l = m
 | [], [], _ => rfl
 | [], _ :: _, h => by cases h
 | _ :: _, [], h => by cases h
 | i :: l, j :: m, h => by
  simp only [sameNs] at h
  split at h
  ·rename_i h1; rw [Nat.eq_of_beq_eq_true h1, sameNs_eq h]
  ·cases h
def addL (L : List Nat) : List (List Nat) → List (List Nat)
 | [] => [L]
 | M :: r => match sameNs L M with
  | true => M :: r
  | false => M :: addL L r
theorem addL_mem {L : List Nat} : ∀ {Ls : List (List Nat)}, L ∈ addL L Ls ∧ ∀ M ∈ Ls, M ∈ addL L Ls
 | [] => ⟨List.mem_cons_self, fun M h => by cases h⟩
 | M :: r => by
  simp only [addL]
  split
  ·rename_i h
   exact ⟨by rw [sameNs_eq h]; exact List.mem_cons_self, fun K hK => hK⟩
  ·obtain ⟨h1, h2⟩ := addL_mem (L := L) (Ls := r)
   exact ⟨List.mem_cons_of_mem _ h1, fun K hK => (List.mem_cons.1 hK).elim (fun e => by rw [e]; exact List.mem_cons_self) fun h => List.mem_cons_of_mem _ (h2 K h)⟩
def addF (x : Nd) (L : List Nat) : Front → Front
 | [] => [(x, [L])]
 | (y, Ls) :: r => match Nd.same x y with
  | true => (y, addL L Ls) :: r
  | false => (y, Ls) :: addF x L r
def InF (x : Nd) (L : List Nat) (N : Front) : Prop := ∃ Ls, (x, Ls) ∈ N ∧ L ∈ Ls
theorem addF_in (x : Nd) (L : List Nat) : ∀ (N : Front), InF x L (addF x L N) ∧ ∀ y K, InF y K N → InF y K (addF x L N)
 | [] => ⟨⟨[L], List.mem_cons_self, List.mem_cons_self⟩, fun y K ⟨Ls, h, _⟩ => by cases h⟩
 | (z, Ls) :: r => by
  simp only [addF]
  split
  ·rename_i h
   have := Nd.same_eq h
   subst this
   refine ⟨⟨_, List.mem_cons_self, addL_mem.1⟩, fun y K ⟨Ks, h1, h2⟩ => ?_⟩
   rcases List.mem_cons.1 h1 with h1 | h1
   ·simp only [Prod.mk.injEq] at h1
    obtain ⟨rfl, rfl⟩ := h1
    exact ⟨_, List.mem_cons_self, addL_mem.2 K h2⟩
   ·exact ⟨Ks, List.mem_cons_of_mem _ h1, h2⟩
  ·obtain ⟨⟨Ks, h1, h2⟩, h3⟩ := addF_in x L r
   refine ⟨⟨Ks, List.mem_cons_of_mem _ h1, h2⟩, fun y K ⟨Ms, h4, h5⟩ => ?_⟩
   rcases List.mem_cons.1 h4 with h4 | h4
   ·exact ⟨Ms, by rw [h4]; exact List.mem_cons_self, h5⟩
   ·obtain ⟨Ns, h6, h7⟩ := h3 y K ⟨Ms, h4, h5⟩
    exact ⟨Ns, List.mem_cons_of_mem _ h6, h7⟩
def addAll (x : Nd) (i : Nat) : List (List Nat) → Front → Front
 | [], N => N
 | L :: Ls, N => match L.contains i with
  | true => addAll x i Ls (addF x (L.erase i) N)
  | false => addAll x i Ls N
theorem addAll_in (x : Nd) (i : Nat) : ∀ (Ls : List (List Nat)) (N : Front), (∀ L ∈ Ls, i ∈ L → InF x (L.erase i) (addAll x i Ls N)) ∧ ∀ y K, InF y K N → InF y K (addAll x i Ls N)
 | [], N => ⟨fun L h => (by cases h), fun y K h => h⟩
 | M :: Ls, N => by
  simp only [addAll]
  split
  ·have ih := addAll_in x i Ls (addF x (M.erase i) N)
   have h1 := ih.1
   have h2 := ih.2
   have h3 := (addF_in x (M.erase i) N).1
   have h4 := (addF_in x (M.erase i) N).2
   refine ⟨fun L hL hi => ?_, fun y K h => h2 y K (h4 y K h)⟩
   rcases List.mem_cons.1 hL with rfl | hL
   ·exact h2 _ _ h3
   ·exact h1 L hL hi
  ·rename_i hc
   obtain ⟨h1, h2⟩ := addAll_in x i Ls N
   refine ⟨fun L hL hi => ?_, h2⟩
   rcases List.mem_cons.1 hL with rfl | hL
   ·rw [List.contains_iff_mem.2 hi] at hc; cases hc
   ·exact h1 L hL hi
def sameX : SEx → SEx → Bool
 | .exit i, .exit j => Nat.beq i j
 | .goto i, .goto j => Nat.beq i j
 | .ret, .ret => true
 | _, _ => false
theorem sameX_eq {e f : SEx} (h : sameX e f = true) : e = f := by
 cases e <;> cases f <;> first | rfl | (rw [Nat.eq_of_beq_eq_true h]) | cases h
def addX (y : SEx × Nd) : List (SEx × Nd) → List (SEx × Nd)
 | [] => [y]
 | z :: r => match sameX y.1 z.1, Nd.same y.2 z.2 with
  | true, true => z :: r
  | _, _ => z :: addX y r
theorem addX_mem {y : SEx × Nd} : ∀ {X : List (SEx × Nd)}, y ∈ addX y X ∧ ∀ z ∈ X, z ∈ addX y X
 | [] => ⟨List.mem_cons_self, fun z h => by cases h⟩
 | z :: r => by
  simp only [addX]
  split
  ·rename_i h1 h2
   refine ⟨?_, fun w h => h⟩
   obtain ⟨a, b⟩ := y
   obtain ⟨c, d⟩ := z
   simp only at h1 h2
   rw [sameX_eq h1, Nd.same_eq h2]
   exact List.mem_cons_self
  ·obtain ⟨h1, h2⟩ := addX_mem (y := y) (X := r)
   exact ⟨List.mem_cons_of_mem _ h1, fun w h => (List.mem_cons.1 h).elim (fun e => by rw [e]; exact List.mem_cons_self) fun h => List.mem_cons_of_mem _ (h2 w h)⟩
abbrev Acc := Front × List (SEx × Nd)
def Acc.le (A B : Acc) : Prop := (∀ y K, InF y K A.1 → InF y K B.1) ∧ ∀ z ∈ A.2, z ∈ B.2
theorem Acc.le.refl (A : Acc) : A.le A := ⟨fun _ _ h => h, fun _ h => h⟩
theorem Acc.le.trans {A B D : Acc} (h : A.le B) (h' : B.le D) : A.le D := ⟨fun y K k => h'.1 y K (h.1 y K k), fun z k => h'.2 z (h.2 z k)⟩
def addLeaf (Ls : List (List Nat)) (i : Nat) : List (SEx × Nd) → Acc → Acc
 | [], A => A
 | y :: l, A => match isNormal y.1 with
  | true => addLeaf Ls i l (addAll y.2 i Ls A.1, A.2)
  | false => addLeaf Ls i l (A.1, addX y A.2)
theorem isNormal_iff {e : SEx} : isNormal e = true ↔ e = .normal := by cases e <;> simp [isNormal]
theorem addLeaf_in {Ls : List (List Nat)} {i : Nat} : ∀ {l : List (SEx × Nd)} {A : Acc}, A.le (addLeaf Ls i l A) ∧ ∀ y ∈ l, (y.1 = .normal → ∀ L ∈ Ls, i ∈ L → InF y.2 (L.erase i) (addLeaf Ls i l A).1) ∧ (y.1 ≠ .normal → y ∈ (addLeaf Ls i l A).2)
 | [], A => ⟨.refl A, fun y h => by cases h⟩
 | z :: l, A => by
  simp only [addLeaf]
  split
  ·rename_i hz
   have hz := isNormal_iff.1 hz
   obtain ⟨h1, h2⟩ := addAll_in z.2 i Ls A.1
   obtain ⟨h3, h4⟩ := addLeaf_in (Ls := Ls) (i := i) (l := l) (A := (addAll z.2 i Ls A.1, A.2))
   refine ⟨Acc.le.trans (B := (addAll z.2 i Ls A.1, A.2)) ⟨h2, fun _ h => h⟩ h3, fun y hy => ?_⟩
   rcases List.mem_cons.1 hy with rfl | hy
   ·exact ⟨fun _ L hL hi => h3.1 _ _ (h1 L hL hi), fun hn => absurd hz hn⟩
   ·exact h4 y hy
  ·rename_i hz
   have hz : z.1 ≠ .normal := fun e => by rw [isNormal_iff.2 e] at hz; cases hz
   obtain ⟨h1, h2⟩ := addX_mem (y := z) (X := A.2)
   obtain ⟨h3, h4⟩ := addLeaf_in (Ls := Ls) (i := i) (l := l) (A := (A.1, addX z A.2))
   refine ⟨Acc.le.trans (B := (A.1, addX z A.2)) ⟨fun _ _ h => h, h2⟩ h3, fun y hy => ?_⟩
   rcases List.mem_cons.1 hy with rfl | hy
   ·exact ⟨fun e => absurd e hz, fun _ => h3.2 _ h1⟩
   ·exact h4 y hy
def anyHas (i : Nat) : List (List Nat) → Bool
 | [] => false
 | L :: Ls => match L.contains i with
  | true => true
  | false => anyHas i Ls
def anyNil : List (List Nat) → Bool
 | [] => false
 | [] :: _ => true
 | _ :: Ls => anyNil Ls
theorem anyHas_false {i : Nat} : ∀ {Ls : List (List Nat)}, anyHas i Ls = false → ∀ L ∈ Ls, i ∉ L
 | [], _, L, h => by cases h
 | M :: Ls, h, L, hL => by
  simp only [anyHas] at h
  split at h
  ·cases h
  ·rename_i hc
   rcases List.mem_cons.1 hL with rfl | hL
   ·intro hi; rw [List.contains_iff_mem.2 hi] at hc; cases hc
   ·exact anyHas_false h L hL
theorem anyNil_true : ∀ {Ls : List (List Nat)}, [] ∈ Ls → anyNil Ls = true
 | [], h => by cases h
 | [] :: _, _ => rfl
 | (a :: M) :: Ls, h => by
  simp only [anyNil]
  exact anyNil_true ((List.mem_cons.1 h).resolve_left (by simp))
section
variable (ex : Run_) (C : Cx) (M : LoopM) (ro : Tr SO) (nk : Nat)
def goE (x : Nd) (Ls : List (List Nat)) : List Nat → Acc → Option Acc
 | [], A => some A
 | i :: is, A => match anyHas i Ls with
  | false => goE x Ls is A
  | true => match runE ex C M ro nk x i with
   | some lv => goE x Ls is (addLeaf Ls i lv A)
   | none => none
def goO (x : Nd) (Ls : List (List Nat)) (A : Acc) : Option Acc := match anyNil Ls with
 | false => some A
 | true => match runO ex C M ro nk x with
  | some lv => some (addLeaf [] 0 lv A)
  | none => none
def goN : Front → Acc → Option Acc
 | [], A => some A
 | (x, Ls) :: r, A => match goO ex C M ro nk x Ls A with
  | some A => match goE ex C M ro nk x Ls (List.range M.n) A with
   | some A => goN r A
   | none => none
  | none => none
def explore : Nat → Front → List (SEx × Nd) → Option (List (SEx × Nd))
 | 0, _, _ => none
 | f + 1, N, X => match N with
  | [] => some X
  | N => match goN ex C M ro nk N ([], X) with
   | some (N', X') => explore f N' X'
   | none => none
end
section
variable {ex : Run_} {C : Cx} {M : LoopM} {ro : Tr SO} {nk : Nat}
def Went (A : Acc) (L : List Nat) (y : SEx × Nd) : Prop := (y.1 = .normal → InF y.2 L A.1) ∧ (y.1 ≠ .normal → y ∈ A.2)
theorem Went.mono {A B : Acc} {L : List Nat} {y : SEx × Nd} (h : Went A L y) (hab : A.le B) : Went B L y := ⟨fun e => hab.1 _ _ (h.1 e), fun e => hab.2 _ (h.2 e)⟩
theorem goE_in {x : Nd} {Ls : List (List Nat)} : ∀ {is : List Nat} {A B : Acc}, goE ex C M ro nk x Ls is A = some B → A.le B ∧ ∀ i ∈ is, ∀ L ∈ Ls, i ∈ L → ∃ lv, runE ex C M ro nk x i = some lv ∧ ∀ y ∈ lv, Went B (L.erase i) y
 | [], A, B, h => by
  simp only [goE, Option.some.injEq] at h; subst h
  exact ⟨.refl A, fun i h => by cases h⟩
 | j :: is, A, B, h => by
  simp only [goE] at h
  split at h
  ·rename_i hn
   obtain ⟨h1, h2⟩ := goE_in h
   refine ⟨h1, fun i hi L hL hiL => ?_⟩
   rcases List.mem_cons.1 hi with rfl | hi
   ·exact absurd hiL (anyHas_false hn L hL)
   ·exact h2 i hi L hL hiL
  ·split at h
   ·rename_i lv hlv
    obtain ⟨h1, h2⟩ := goE_in h
    obtain ⟨h3, h4⟩ := addLeaf_in (Ls := Ls) (i := j) (l := lv) (A := A)
    refine ⟨h3.trans h1, fun i hi L hL hiL => ?_⟩
    rcases List.mem_cons.1 hi with rfl | hi
    ·exact ⟨lv, hlv, fun y hy => Went.mono ⟨fun e => (h4 y hy).1 e L hL hiL, (h4 y hy).2⟩ h1⟩
    ·exact h2 i hi L hL hiL
   ·cases h
theorem goO_in {x : Nd} {Ls : List (List Nat)} {A B : Acc} (h : goO ex C M ro nk x Ls A = some B) : A.le B ∧ ([] ∈ Ls → ∃ lv, runO ex C M ro nk x = some lv ∧ ∀ y ∈ lv, y.1 ≠ .normal → y ∈ B.2) := by
 unfold goO at h
 split at h
 ·rename_i hn
  simp only [Option.some.injEq] at h; subst h
  exact ⟨.refl A, fun hm => by rw [anyNil_true hm] at hn; cases hn⟩
 ·split at h
  ·rename_i lv hlv
   simp only [Option.some.injEq] at h; subst h
   obtain ⟨h3, h4⟩ := addLeaf_in (Ls := []) (i := 0) (l := lv) (A := A)
   exact ⟨h3, fun _ => ⟨lv, hlv, fun y hy => (h4 y hy).2⟩⟩
  ·cases h
theorem goN_in : ∀ {N : Front} {A B : Acc}, goN ex C M ro nk N A = some B → A.le B ∧ ∀ x L, InF x L N → (∀ i, i < M.n → i ∈ L → ∃ lv, runE ex C M ro nk x i = some lv ∧ ∀ y ∈ lv, Went B (L.erase i) y) ∧ (L = [] → ∃ lv, runO ex C M ro nk x = some lv ∧ ∀ y ∈ lv, y.1 ≠ .normal → y ∈ B.2)
 | [], A, B, h => by
  simp only [goN, Option.some.injEq] at h; subst h
  exact ⟨.refl A, fun x L ⟨Ls, h, _⟩ => by cases h⟩
 | (z, Ls) :: r, A, B, h => by
  simp only [goN] at h
  split at h
  ·rename_i A1 hA1
   split at h
   ·rename_i A2 hA2
    obtain ⟨h1, h2⟩ := goO_in hA1
    obtain ⟨h3, h4⟩ := goE_in hA2
    obtain ⟨h5, h6⟩ := goN_in h
    refine ⟨h1.trans (h3.trans h5), fun x L ⟨Ks, hx, hL⟩ => ?_⟩
    rcases List.mem_cons.1 hx with hx | hx
    ·simp only [Prod.mk.injEq] at hx
     obtain ⟨rfl, rfl⟩ := hx
     refine ⟨fun i hi hiL => ?_, fun e => ?_⟩
     ·obtain ⟨lv, k1, k2⟩ := h4 i (List.mem_range.2 hi) L hL hiL
      exact ⟨lv, k1, fun y hy => (k2 y hy).mono h5⟩
     ·subst e
      obtain ⟨lv, k1, k2⟩ := h2 hL
      exact ⟨lv, k1, fun y hy hn => h5.2 _ (h3.2 _ (k2 y hy hn))⟩
    ·exact h6 x L ⟨Ks, hx, hL⟩
   ·cases h
  ·cases h
theorem toNds_back {i : Option Nat} : ∀ {l : List (Nat × SEx × SS)} {ys : List (SEx × Nd)}, toNds M nk i l = some ys → ∀ y ∈ ys, ∃ x ∈ l, toNd M nk i x.2.1 x.2.2 = some y
 | [], ys, h, y, hy => by
  simp only [toNds, Option.some.injEq] at h; subst h; cases hy
 | (n, e, σ) :: l, ys, h, y, hy => by
  simp only [toNds] at h
  split at h
  ·rename_i z hz
   split at h
   ·rename_i r hr
    simp only [Option.some.injEq] at h; subst h
    rcases List.mem_cons.1 hy with rfl | hy
    ·exact ⟨_, List.mem_cons_self, hz⟩
    ·obtain ⟨x, hx, h2⟩ := toNds_back hr y hy
     exact ⟨x, List.mem_cons_of_mem _ hx, h2⟩
   ·cases h
  ·cases h
theorem runO_ends {x : Nd} {lv : List (SEx × Nd)} (h : runO ex C M ro nk x = some lv) : ∀ y ∈ lv, y.1 ≠ .normal := by
 obtain ⟨es, l, _, _, _, _, hto⟩ := runO_some h
 intro y hy e
 obtain ⟨x, hx, h2⟩ := toNds_back hto y hy
 obtain ⟨e1, _, _, _, _, _, e7⟩ := toNd_some h2
 rw [e1] at e
 obtain ⟨j, hj, _⟩ := e7 e
 cases hj
variable {P : Program} {main : Co} {r : Ctx} {ρ : Env} {F0 : Own}
theorem explore_ok (hex : SoundEx P main ex) (hC : CtxOk C r ρ) (hv : vals ρ) (hΓ : ({} : Facts).On ρ) {c : Code} (H : HeadOk C M ρ F0 ro c) {tail : List Item} {Q : Ex → St → Own → Prop} : ∀ (f : Nat) (N : Front) (X X' : List (SEx × Nd)), explore ex C M ro ρ.k.length f N X = some X' →
  (∀ y ∈ X, y ∈ X') ∧ ((∀ y ∈ X', y.1 ≠ .normal → ∀ a S, Fit C.size F0 ρ (y.2.ss ro) a S → behind P main r (.inLoop c :: tail) Q (y.1.den ρ) a S) → ∀ x L, InF x L N → ∀ a S, NodeOk C M ρ F0 ro x L a S → wpI P main r (.code c :: .inLoop c :: tail) Q a S) := by
 intro f
 induction f with
 | zero => intro N X X' h; cases h
 | succ f ih =>
  intro N X X' h
  simp only [explore] at h
  split at h
  ·simp only [Option.some.injEq] at h; subst h
   exact ⟨fun y hy => hy, fun _ x L ⟨Ls, hx, _⟩ => by cases hx⟩
  ·split at h
   ·rename_i N' X1 hg
    obtain ⟨h1, h2⟩ := goN_in hg
    obtain ⟨h3, h4⟩ := ih N' X1 X' h
    refine ⟨fun y hy => h3 y (h1.2 y hy), fun hX x L hin a S hN => ?_⟩
    obtain ⟨k1, k2⟩ := h2 x L hin
    refine round_ok hex hC hv hΓ H hN (fun i hi => ?_) (fun e => ?_)
    ·obtain ⟨lv, l1, l2⟩ := k1 i (hN.lt i hi) hi
     refine ⟨lv, l1, fun y hy a2 S2 => ⟨fun en hN2 => ?_, fun en hf => hX y (h3 y ((l2 y hy).2 en)) en a2 S2 hf⟩⟩
     exact wpI_move (fun b k cs w => stepG_inLoop) (h4 hX y.2 (L.erase i) ((l2 y hy).1 en) a2 S2 hN2)
    ·obtain ⟨lv, l1, l2⟩ := k2 e
     exact ⟨lv, l1, fun y hy a2 S2 => ⟨fun en _ => absurd en (runO_ends l1 y hy), fun en hf => hX y (h3 y (l2 y hy en)) en a2 S2 hf⟩⟩
   ·cases h
end
end Mw
set_option linter.unusedVariables false
namespace Mw
open Go Mv
section
variable {size : Nat} {F : Own} {ρ : Env} {σ : SS} {a : St} {S : Own} {keep names : List Nat} {ib : Nat}
theorem fit_part (hf : Fit size F ρ σ a S) (hdf : σ.df = []) (hcm : σ.cm = none) (hgh : σ.hp.gh = .none) : Fit size (restF ρ (ib :: names) S) ρ ((⟨slOf ρ.k.length σ.sl keep, blOf ρ.k.length σ.hp.rw names⟩ : Nd).ss σ.hp.ro) a S where
 size := hf.size
 df := by rw [hf.df, hdf]; rfl
 dfok := fun d hd => by cases hd
 cm := by rw [hf.cm, hcm]; rfl
 cmok := fun m hm => by cases hm
 sl := fun d v hd => hf.sl d v (slOf_mem (setsT_look hd)).2.1
 hp := {
  has := fun i o hi => hf.hp.has i o (blOf_mem (setsT_look hi)).2.1
  hro := fun i o hi => hf.hp.hro i o hi
  inj := fun i j o o' hi hj e => hf.hp.inj i j o o' (blOf_mem (setsT_look hi)).2.1 (blOf_mem (setsT_look hj)).2.1 e
  frm := fun b o hb => restF_some hb
  apart := fun i o hi => restF_in (List.mem_cons_of_mem _ (blOf_mem (setsT_look hi)).1)
  ro := fun b o hb => hb
  gh := by rw [hf.hp.gh, hgh]; rfl
  dis := hf.hp.dis
  ghok := trivial
  lent := fun i hi => by cases hi
  linj := fun i hi => by cases hi
  rinj := fun i hi => by cases hi
  lnd := List.nodup_nil }
theorem fit_join {y : Nd} {a' : St} {S' : Own} (hs : Sat ρ σ.hp F S) (hgh : σ.hp.gh = .none) (hn : ∀ i ∈ ib :: names, ∃ o, σ.hp.rw.look i = some o) (hf : Fit size (restF ρ (ib :: names) S) ρ (y.ss σ.hp.ro) a' S') :
  Fit size F ρ { sl := setsT y.sl, hp := ⟨backT names (setsT y.bl) (delNs (ib :: names) σ.hp.rw), σ.hp.ro, .none⟩, df := [], cm := none } a' S' := by
 have old : ∀ i o, (backT names (setsT y.bl) (delNs (ib :: names) σ.hp.rw)).look i = some o → (i ∈ names ∧ (setsT y.bl).look i = some o) ∨ (σ.hp.rw.look i = some o ∧ i ∉ ib :: names) := fun i o h => by
  rcases backT_look h with h | h
  ·exact .inl h
  ·exact .inr (delNs_look h)
 have was : ∀ i o, (backT names (setsT y.bl) (delNs (ib :: names) σ.hp.rw)).look i = some o → ∃ o', σ.hp.rw.look i = some o' := fun i o h => by
  rcases old i o h with h | h
  ·exact hn i (List.mem_cons_of_mem _ h.1)
  ·exact ⟨o, h.1⟩
 exact {
  size := hf.size
  df := hf.df
  dfok := fun d hd => by cases hd
  cm := hf.cm
  cmok := fun m hm => by cases hm
  sl := hf.sl
  hp := {
   has := fun i o hi => by
    rcases old i o hi with ⟨h1, h2⟩ | ⟨h1, h2⟩
    ·exact hf.hp.has i o h2
    ·obtain ⟨k1, k2, k3⟩ := hs.has i o h1
     refine ⟨k1, k2, hf.hp.frm _ _ ?_⟩
     rw [restF_out]
     ·exact k3
     ·intro j hj e
      obtain ⟨o', hj'⟩ := hn j hj
      have := hs.inj j i _ _ hj' h1 e
      exact h2 (this ▸ hj)
   hro := fun i o hi => by
    obtain ⟨k1, k2, k3⟩ := hs.hro i o hi
    exact ⟨k1, k2, hf.hp.ro _ _ k3⟩
   inj := fun i j o o' hi hj e => by
    obtain ⟨u, hu⟩ := was i o hi
    obtain ⟨v, hv⟩ := was j o' hj
    exact hs.inj i j _ _ hu hv e
   frm := fun b o hb => by
    refine hf.hp.frm b o ?_
    rw [restF_out]
    ·exact hs.frm b o hb
    ·intro j hj e
     obtain ⟨o', hj'⟩ := hn j hj
     have := hs.apart j o' hj'
     rw [e, hb] at this; cases this
   apart := fun i o hi => by
    obtain ⟨u, hu⟩ := was i o hi
    exact hs.apart i u hu
   ro := fun b o hb => hf.hp.ro b o (hs.ro b o hb)
   gh := hf.hp.gh
   dis := hf.hp.dis
   ghok := trivial
   lent := fun i hi => by cases hi
   linj := fun i hi => by cases hi
   rinj := fun i hi => by cases hi
   lnd := List.nodup_nil } }
end
def pickTab (f id : Nat) : List (Nat × Nat × List Nat) → Option (List Nat)
 | [] => none
 | (g, i, l) :: r => match Nat.beq g f && Nat.beq i id with
  | true => some l
  | false => pickTab f id r
def namesSl (sl : Tr SC) : List Nat → List Nat
 | [] => []
 | d :: l => match sl.look d with
  | some v => namesSC v ++ namesSl sl l
  | none => namesSl sl l
def inRw (rw : Tr SO) (nk ib : Nat) : List Nat → List Nat
 | [] => []
 | i :: l => match rw.look i, Nat.blt i nk, Nat.beq i ib with
  | some _, true, false => i :: inRw rw nk ib l
  | _, _, _ => inRw rw nk ib l
theorem inRw_mem {rw : Tr SO} {nk ib : Nat} : ∀ {l : List Nat}, ∀ i ∈ inRw rw nk ib l, (∃ o, rw.look i = some o) ∧ i < nk
 | [], i, h => by cases h
 | j :: l, i, h => by
  simp only [inRw] at h
  split at h
  ·rename_i o h1 h2 _
   rcases List.mem_cons.1 h with rfl | h
   ·exact ⟨⟨o, h1⟩, blt_true h2⟩
   ·exact inRw_mem i h
  ·exact inRw_mem i h
def loopOf (tab : List (Nat × Nat × List Nat)) (C : Cx) (c : Code) (σ : SS) (nk : Nat) : Option LoopM := match headR c [] with
 | some (id, ops, its) => match pickTab C.fn id tab with
  | some keep => match ops[0]? with
   | some o => match o.guard, o.dst, o.op with
    | none, some d, .next (.tmp it) false => match σ.sl.look it with
     | some (.ptr ib (.lit (.ofNat 0))) => match σ.hp.rw.look ib with
      | some (.itr m sh n none _) => match List.range ops.size, Nat.blt d C.size with
       | 0 :: rest, true => match σ.df, σ.cm, σ.hp.gh with
        | [], none, .none => some { d, ops, rest, its, it, ib, m, sh, n, keep, names := inRw σ.hp.rw nk ib (reachT σ.hp.rw 100000 (namesSl σ.sl keep) []) }
        | _, _, _ => none
       | _, _ => none
      | _ => none
     | _ => none
    | _, _, _ => none
   | none => none
  | none => none
 | none => none
def afterX (ex : Run_) (C : Cx) (Γ : Facts) (tl : List Item) (M : LoopM) (hp : Hp) (nk : Nat) (k : Kont) (y : SEx × Nd) : Tree :=
 let σ : SS := { sl := setsT y.2.sl, hp := ⟨backT M.names (setsT y.2.bl) (delNs (M.ib :: M.names) hp.rw), hp.ro, .none⟩, df := [], cm := none }
 match y.1 with
 | .exit id => match exitTo id tl with
  | some k' => ex C Γ k' σ nk k
  | none => k (.exit id) σ nk Γ
 | .goto l => match gotoIn l tl with
  | some k' => ex C Γ k' σ nk k
  | none => k (.goto l) σ nk Γ
 | .ret => k .ret σ nk Γ
 | _ => .bad
def bothX (f : SEx × Nd → Tree) : List (SEx × Nd) → Tree
 | [] => .ok
 | y :: l => match l with
  | [] => f y
  | l => .both (f y) (bothX f l)
theorem bothX_holds {D : Env → SEx → SS → Prop} {E : Env → List Item → SS → Prop} {ρ : Env} {f : SEx × Nd → Tree} : ∀ {l : List (SEx × Nd)}, holds D E ρ (bothX f l) → ∀ y ∈ l, holds D E ρ (f y)
 | [], _, y, hy => by cases hy
 | [z], h, y, hy => by rw [List.mem_singleton.1 hy]; exact h
 | z :: w :: l, h, y, hy => by
  have h : holds D E ρ (f z) ∧ holds D E ρ (bothX f (w :: l)) := h
  rcases List.mem_cons.1 hy with rfl | hy
  ·exact h.1
  ·exact bothX_holds h.2 y hy
def stepM (tab : List (Nat × Nat × List Nat)) (ex other : Run_) : Run_ := fun C Γ items σ nk k => match items with
 | .code (.loop c) :: tail => match loopOf tab C c σ nk with
  | some M => match pickSl nk σ.sl M.keep fun sl => pickBl nk σ.hp.rw M.names fun bl => explore ex C M σ.hp.ro nk (M.n + 2) [(⟨sl, bl⟩, [List.range M.n])] [] with
   | some X => bothX (afterX ex C Γ (.inLoop c :: tail) M σ.hp nk k) X
   | none => .bad
  | none => other C Γ items σ nk k
 | _ => other C Γ items σ nk k
theorem stepM_sound {P : Program} {main : Co} {tab : List (Nat × Nat × List Nat)} {ex other : Run_} (hex : SoundEx P main ex) (hother : SoundEx P main other) : SoundEx P main (stepM tab ex other) := by
 intro D E C r Γ items σ nk k ρ Q F hr hv hΓ hnk hK hE hh a S hf
 have old : holds D E ρ (other C Γ items σ nk k) → wpI P main r items Q a S := fun h => hother D E C r Γ items σ nk k ρ Q F hr hv hΓ hnk hK hE h a S hf
 subst hnk
 unfold stepM at hh
 split at hh
 ·rename_i c tail
  split at hh
  ·rename_i M hM
   rw [pickSl_eq, pickBl_eq] at hh
   split at hh
   ·rename_i X hX
    unfold loopOf at hM
    split at hM
    ·rename_i id ops its hhead
     split at hM
     ·rename_i keep _
      split at hM
      ·rename_i o ho
       split at hM
       ·rename_i d it hg hdst hop
        split at hM
        ·rename_i ib hit
         split at hM
         ·rename_i m sh n r0 hib
          split at hM
          ·rename_i rest hrest hd
           split at hM
           ·rename_i hdf hcm hgh
            simp only [Option.some.injEq] at hM
            obtain ⟨hiblt, hiok, hifull⟩ := hf.hp.has ib _ hib
            obtain ⟨ok1, ok2, ok3⟩ : m < ρ.k.length ∧ sh < ρ.k.length ∧ r0 < ρ.k.length := hiok
            have hΓ0 : ({} : Facts).On ρ := ⟨by simp, by simp, hΓ.lens, by simp⟩
            have Mib : M.ib = ib := by rw [← hM]
            have Mm : M.m = m := by rw [← hM]
            have Msh : M.sh = sh := by rw [← hM]
            have Mn : M.n = n := by rw [← hM]
            have Mnames : M.names = inRw σ.hp.rw ρ.k.length ib (reachT σ.hp.rw 100000 (namesSl σ.sl keep) []) := by rw [← hM]
            have hnm : ∀ i ∈ M.ib :: M.names, (∃ o, σ.hp.rw.look i = some o) ∧ i < ρ.k.length := fun i hi => by
             rcases List.mem_cons.1 hi with rfl | hi
             ·rw [Mib]; exact ⟨⟨_, hib⟩, hiblt⟩
             ·rw [Mnames] at hi; exact inRw_mem i hi
            have H : HeadOk C M ρ (restF ρ (M.ib :: M.names) S) σ.hp.ro c := {
             head := ⟨id, by rw [hhead, ← hM]⟩
             op := ⟨o, by rw [← hM]; exact ho, hg, by rw [hop, ← hM], by rw [hdst, ← hM]⟩
             dlt := by rw [← hM]; exact blt_true hd
             rest := by rw [← hM]; exact hrest
             ib := by rw [Mib]; exact hiblt
             m := by rw [Mm]; exact ok1
             sh := by rw [Msh]; exact ok2
             free := restF_in List.mem_cons_self
             ro := fun i o hi => hf.hp.hro i o hi
             names := fun i hi => (hnm i (List.mem_cons_of_mem _ hi)).2 }
            refine wpI_move (items' := .code c :: .inLoop c :: tail) (fun b k cs w => stepG_loop) ?_
            obtain ⟨_, hexp⟩ := explore_ok (tail := tail) (Q := Q) hex hr hv hΓ0 H _ _ _ _ hX
            refine hexp (fun y hy hn a2 S2 hf2 => ?_) _ _ ⟨_, List.mem_singleton.2 rfl, List.mem_singleton.2 rfl⟩ a S ?_
            ·have hj := fit_join (ib := M.ib) (names := M.names) hf.hp hgh (fun i hi => (hnm i hi).1) hf2
             have hy' := bothX_holds hh y hy
             unfold afterX at hy'
             cases he : y.1 with
             | normal => exact absurd he hn
             | panic ch => rw [he] at hy'; exact hy'.elim
             | ret =>
              rw [he] at hy'
              exact hK ρ .ret _ Γ (Ext.refl ρ) hΓ trivial hy' a2 S2 hj
             | exit id2 =>
              rw [he] at hy'
              simp only [behind, SEx.den]
              cases hx : exitTo id2 (.inLoop c :: tail) with
              | some k' =>
               simp only [hx] at hy' ⊢
               exact hex D E C r Γ k' _ _ k ρ Q F hr hv hΓ rfl hK hE hy' a2 S2 hj
              | none =>
               simp only [hx] at hy' ⊢
               exact hK ρ (.exit id2) _ Γ (Ext.refl ρ) hΓ trivial hy' a2 S2 hj
             | goto l =>
              rw [he] at hy'
              simp only [behind, SEx.den]
              cases hx : gotoIn l (.inLoop c :: tail) with
              | some k' =>
               simp only [hx] at hy' ⊢
               exact hex D E C r Γ k' _ _ k ρ Q F hr hv hΓ rfl hK hE hy' a2 S2 hj
              | none =>
               simp only [hx] at hy' ⊢
               exact hK ρ (.goto l) _ Γ (Ext.refl ρ) hΓ trivial hy' a2 S2 hj
            ·exact {
              lt := fun i hi => List.mem_range.1 hi
              nodup := List.nodup_range
              fit := fit_part hf hdf hcm hgh
              okb := fun y hy => (blOf_mem hy).2.2
              seen := ⟨[], by rw [Mib, Mm, Mn, Msh, hifull]; rfl, fun i hi => ⟨fun h => (by cases h), fun h => absurd (List.mem_range.2 hi) h⟩⟩ }
           ·cases hM
          ·cases hM
         ·cases hM
        ·cases hM
       ·cases hM
      ·cases hM
     ·cases hM
    ·cases hM
   ·exact hh.elim
  ·exact old hh
 ·exact old hh
end Mw
set_option linter.unusedVariables false
namespace Mw
open Go Mv
def keepT {α : Type} (t : Tr α) : List Nat → Tr α
 | [] => .nil
 | d :: l => match t.look d with
  | some v => (keepT t l).set d v
  | none => keepT t l
theorem keepT_look {α : Type} {t : Tr α} {d : Nat} {v : α} : ∀ {l : List Nat}, (keepT t l).look d = some v → t.look d = some v
 | [], h => by rw [keepT, Tr.nil_look] at h; cases h
 | e :: l, h => by
  unfold keepT at h
  split at h
  ·rename_i w hw
   rcases Tr.look_set h with ⟨rfl, rfl⟩ | ⟨_, h⟩
   ·exact hw
   ·exact keepT_look h
  ·exact keepT_look h
def namesOf (sl : Tr SC) : List Nat → List Nat
 | [] => []
 | d :: l => match sl.look d with
  | some v => namesSC v ++ namesOf sl l
  | none => namesOf sl l
def Hp.cut (hp : Hp) (from_ keepRo : List Nat) : Option Hp := match hp.gh with
 | .none => some ⟨keepT hp.rw (reachT hp.rw 1000000 from_ []), keepT hp.ro keepRo, .none⟩
 | _ => none
def cutS (keep keepB keepRo : List Nat) (σ : SS) : Option SS := match σ.df, σ.hp.cut (namesOf σ.sl keep ++ keepB) keepRo with
 | [], some hp => some { sl := keepT σ.sl keep, hp, df := [], cm := σ.cm }
 | _, _ => none
theorem cut_sat {hp hp' : Hp} {from_ keepRo : List Nat} {ρ : Env} {F S : Own} (h : Sat ρ hp F S) (hc : hp.cut from_ keepRo = some hp') : Sat ρ hp' F S ∧ hp'.gh = .none := by
 unfold Hp.cut at hc
 split at hc
 ·rename_i hgh
  simp only [Option.some.injEq] at hc; subst hc
  exact ⟨{
    has := fun i o hi => h.has i o (keepT_look hi)
    hro := fun i o hi => h.hro i o (keepT_look hi)
    inj := fun i j o o' hi hj e => h.inj i j o o' (keepT_look hi) (keepT_look hj) e
    frm := h.frm
    apart := fun i o hi => h.apart i o (keepT_look hi)
    ro := h.ro
    gh := by rw [h.gh, hgh]
    dis := h.dis
    ghok := trivial
    lent := fun i hi => by cases hi
    linj := fun i hi => by cases hi
    rinj := fun i hi => by cases hi
    lnd := List.nodup_nil }, rfl⟩
 ·cases hc
theorem cut_fit {keep keepB keepRo : List Nat} {size : Nat} {F : Own} {ρ : Env} {σ σ' : SS} {a : St} {S : Own} (h : Fit size F ρ σ a S) (hc : cutS keep keepB keepRo σ = some σ') : Fit size F ρ σ' a S := by
 unfold cutS at hc
 split at hc
 ·rename_i hp hdf hhp
  simp only [Option.some.injEq] at hc; subst hc
  exact {
   size := h.size
   df := by rw [h.df, hdf]
   dfok := fun d hd => by cases hd
   cm := h.cm
   cmok := h.cmok
   sl := fun d v hd => h.sl d v (keepT_look hd)
   hp := (cut_sat h.hp hhp).1 }
 ·cases hc
def both2 {α : Type} : Option (List α) → Option (List α) → Option (List α)
 | some l, some m => some (l ++ m)
 | _, _ => none
theorem both2_some {α : Type} {a b : Option (List α)} {l : List α} (h : both2 a b = some l) : ∃ x y, a = some x ∧ b = some y ∧ l = x ++ y := by
 unfold both2 at h
 split at h
 ·rename_i x y
  simp only [Option.some.injEq] at h
  exact ⟨x, y, rfl, rfl, h.symm⟩
 ·cases h
def strip : Tree → Nat → Option (List (Nat × List Item × SS))
 | .stop items σ, n => some [(n, items, σ)]
 | .ok, _ => some []
 | .new t, n => match Nat.ble n 1000000000 with
  | true => strip t (n + 1)
  | false => none
 | .both a b, n => both2 (strip a n) (strip b n)
 | _, _ => none
theorem strip_holds {D : Env → SEx → SS → Prop} {E : Env → List Item → SS → Prop} {nk' : Nat} {items : List Item} {σ : SS} : ∀ (t : Tree) (ρ : Env) (ρ0 : Env) (l : List (Nat × List Item × SS)), Ext ρ0 ρ → strip t ρ.k.length = some l → (∀ x ∈ l, x = (nk', items, σ)) →
  (∀ ρ' : Env, Ext ρ0 ρ' → ρ'.k.length = nk' → E ρ' items σ) → holds D E ρ t
 | .stop items' σ', ρ, ρ0, l, he, h, hl, hE => by
  simp only [strip, Option.some.injEq] at h
  subst h
  have := hl _ (List.mem_singleton.2 rfl)
  simp only [Prod.mk.injEq] at this
  obtain ⟨rfl, rfl, rfl⟩ := this
  exact hE ρ he rfl
 | .new t, ρ, ρ0, l, he, h, hl, hE => by
  simp only [strip] at h
  split at h
  ·intro b r
   exact strip_holds t (ρ.grow b r) ρ0 l (he.trans (Ext.grow ρ b r)) (by rw [len_grow]; exact h) hl hE
  ·cases h
 | .both a b, ρ, ρ0, l, he, h, hl, hE => by
  simp only [strip] at h
  obtain ⟨x, y, h1, h2, rfl⟩ := both2_some h
  exact ⟨strip_holds a ρ ρ0 x he h1 (fun z hz => hl z (List.mem_append_left _ hz)) hE, strip_holds b ρ ρ0 y he h2 (fun z hz => hl z (List.mem_append_right _ hz)) hE⟩
 | .ok, _, _, _, _, _, _, _ => trivial
 | .done _ _, _, _, _, _, h, _, _ => by simp [strip] at h
 | .branch _ _ _, _, _, _, _, h, _, _ => by simp [strip] at h
 | .need _ _, _, _, _, _, h, _, _ => by simp [strip] at h
 | .bad, _, _, _, _, h, _, _ => by simp [strip] at h
def stripD : Tree → Nat → Option (List (Nat × SC × Hp))
 | .done e σ, n => match e with
  | .panic [(v, _, _)] => some [(n, v, σ.hp)]
  | _ => none
 | .ok, _ => some []
 | .new t, n => match Nat.ble n 1000000000 with
  | true => stripD t (n + 1)
  | false => none
 | .both a b, n => both2 (stripD a n) (stripD b n)
 | _, _ => none
theorem stripD_holds {E : Env → List Item → SS → Prop} {nk' : Nat} {v : SC} {hp : Hp} : ∀ (t : Tree) (ρ : Env) (ρ0 : Env) (l : List (Nat × SC × Hp)), Ext ρ0 ρ → stripD t ρ.k.length = some l → (∀ x ∈ l, x = (nk', v, hp)) →
  holds (fun ρ' e σ => Ext ρ0 ρ' ∧ ρ'.k.length = nk' ∧ (∃ a b, e = .panic [(v, a, b)]) ∧ σ.hp = hp) E ρ t
 | .done e σ', ρ, ρ0, l, he, h, hl => by
  simp only [stripD] at h
  split at h
  ·simp only [Option.some.injEq] at h
   subst h
   have := hl _ (List.mem_singleton.2 rfl)
   simp only [Prod.mk.injEq] at this
   obtain ⟨h1, rfl, h3⟩ := this
   exact ⟨he, h1, ⟨_, _, rfl⟩, h3⟩
  ·cases h
 | .new t, ρ, ρ0, l, he, h, hl => by
  simp only [stripD] at h
  split at h
  ·intro b r
   exact stripD_holds t (ρ.grow b r) ρ0 l (he.trans (Ext.grow ρ b r)) (by rw [len_grow]; exact h) hl
  ·cases h
 | .both a b, ρ, ρ0, l, he, h, hl => by
  simp only [stripD] at h
  obtain ⟨x, y, h1, h2, rfl⟩ := both2_some h
  exact ⟨stripD_holds a ρ ρ0 x he h1 fun z hz => hl z (List.mem_append_left _ hz), stripD_holds b ρ ρ0 y he h2 fun z hz => hl z (List.mem_append_right _ hz)⟩
 | .ok, _, _, _, _, _, _ => trivial
 | .stop _ _, _, _, _, _, h, _ => by simp [stripD] at h
 | .branch _ _ _, _, _, _, _, h, _ => by simp [stripD] at h
 | .need _ _, _, _, _, _, h, _ => by simp [stripD] at h
 | .bad, _, _, _, _, h, _ => by simp [stripD] at h
theorem all_same {α : Type} {n : Nat} {x : α} : ∀ y ∈ List.replicate n x, y = x := fun y hy => (List.mem_replicate.1 hy).2
structure Cut where
 call : Bool
 at_ : Nat
 nk : Nat
 keep : List Nat
 keepB : List Nat
 keepRo : List Nat
 sums : List Sum
 msgs : List (Nat × List SM)
 ws : List WSum := []
def Cut.hit (c : Cut) (items : List Item) (nk : Nat) : Bool := match items with
 | .code (.region id _ _) :: _ => match c.call, Nat.beq id c.at_ with
  | false, true => Nat.ble c.nk nk
  | _, _ => false
 | .inRegion ops (i :: _) :: _ => match c.call with
  | true => match ops[i]? with
   | some o => match o.op with
    | .call cl => match cl.callee with
     | .value (.func g) => match Nat.beq g c.at_ with
      | true => Nat.ble c.nk nk
      | false => false
     | _ => false
    | _ => false
   | none => false
  | false => false
 | _ => false
def stepCut (c : Cut) (other : Run_) : Run_ := fun C Γ items σ nk k => match c.hit items nk with
 | true => match C.top with
  | true => match cutS c.keep c.keepB c.keepRo σ with
   | some σ' => .stop items σ'
   | none => .bad
  | false => other C Γ items σ nk k
 | false => other C Γ items σ nk k
section
variable {P : Program} {main : Co}
theorem stepCut_sound {c : Cut} {other : Run_} (hother : SoundEx P main other) : SoundEx P main (stepCut c other) := by
 intro D E C r Γ items σ nk k ρ Q F hr hv hΓ hk hK hE h a S hf
 unfold stepCut at h
 split at h
 ·split at h
  ·rename_i ht
   split at h
   ·rename_i σ' hc
    exact hE ht ρ _ σ' (Ext.refl ρ) h a S (cut_fit hf hc)
   ·exact h.elim
  ·exact hother D E C r Γ items σ nk k ρ Q F hr hv hΓ hk hK hE h a S hf
 ·exact hother D E C r Γ items σ nk k ρ Q F hr hv hΓ hk hK hE h a S hf
end
def bothC (P : Program) (inl : FuncId → Bool) (hk : Hook) (com : FuncId → Bool) (hm : Hk_) (tab : List (Nat × Nat × List Nat)) (exW : Run_) (dry : Dry) (c : Cut) : Nat → Run_ × Call_
 | 0 => (fun C _ items σ _ _ => stuck_ { C with top := false } items σ, fun _ _ _ _ _ _ _ => .bad)
 | n + 1 => let A := bothC P inl hk com hm tab exW dry c n
  (fun C Γ items σ nk k => match C.top with
   | true => match com C.fn with
    | true => stepCut c (stepM tab A.1 (stepH P inl hm A.1 A.2 (stepY P inl A.1 A.2))) C Γ items σ nk k
    | false => stepCut c (stepY P inl A.1 A.2) C Γ items σ nk k
   | false => match com C.fn with
    | true => stepM tab A.1 (stepH P inl hm A.1 A.2 (stepY P inl A.1 A.2)) C Γ items σ nk k
    | false => stepY P inl A.1 A.2 C Γ items σ nk k,
   callS c.sums (callG c.ws P inl hk exW dry A.1 A.2))
noncomputable def comM (P : Program) (inl : FuncId → Bool) (hm : Hk_) (tab : List (Nat × Nat × List Nat)) (A : Run_ × Call_) (C : Cx) (Γ : Facts) (items : List Item) (σ : SS) (nk : Nat) (k : Kont) : Tree :=
 stepM tab A.1 (fun C Γ items σ nk k => comR P inl hm A C Γ items σ nk k) C Γ items σ nk k
theorem comM_eq (P : Program) (inl : FuncId → Bool) (hm : Hk_) (tab : List (Nat × Nat × List Nat)) (A : Run_ × Call_) (C : Cx) (Γ : Facts) (items : List Item) (σ : SS) (nk : Nat) (k : Kont) : comM P inl hm tab A C Γ items σ nk k = stepM tab A.1 (stepH P inl hm A.1 A.2 (stepY P inl A.1 A.2)) C Γ items σ nk k := by
 have e : (fun C Γ items σ nk k => comR P inl hm A C Γ items σ nk k) = stepH P inl hm A.1 A.2 (stepY P inl A.1 A.2) := by
  funext C Γ items σ nk k
  exact comR_eq P inl hm _ C Γ items σ nk k
 unfold comM
 rw [e]
noncomputable def cutR (P : Program) (inl : FuncId → Bool) (c : Cut) (A : Run_ × Call_) (C : Cx) (Γ : Facts) (items : List Item) (σ : SS) (nk : Nat) (k : Kont) : Tree :=
 stepCut c (fun C Γ items σ nk k => stepRY items P inl A C Γ items σ nk k) C Γ items σ nk k
noncomputable def cutM (P : Program) (inl : FuncId → Bool) (hm : Hk_) (tab : List (Nat × Nat × List Nat)) (c : Cut) (A : Run_ × Call_) (C : Cx) (Γ : Facts) (items : List Item) (σ : SS) (nk : Nat) (k : Kont) : Tree :=
 stepCut c (fun C Γ items σ nk k => comM P inl hm tab A C Γ items σ nk k) C Γ items σ nk k
noncomputable def bothRC (P : Program) (inl : FuncId → Bool) (hk : Hook) (com : FuncId → Bool) (hm : Hk_) (tab : List (Nat × Nat × List Nat)) (exW : Run_) (dry : Dry) (c : Cut) (n : Nat) : Run_ × Call_ :=
 Nat.rec (motive := fun _ => Run_ × Call_) (fun C _ items σ _ _ => stuck_ { C with top := false } items σ, fun _ _ _ _ _ _ _ => .bad)
  (fun _ A => (fun C Γ items σ nk k => Bool.rec (motive := fun _ => Tree) (Bool.rec (motive := fun _ => Tree) (stepRY items P inl A C Γ items σ nk k) (comM P inl hm tab A C Γ items σ nk k) (com C.fn)) (Bool.rec (motive := fun _ => Tree) (cutR P inl c A C Γ items σ nk k) (cutM P inl hm tab c A C Γ items σ nk k) (com C.fn)) C.top, callS c.sums (callG c.ws P inl hk exW dry A.1 A.2))) n
theorem bothRC_eq (P : Program) (inl : FuncId → Bool) (hk : Hook) (com : FuncId → Bool) (hm : Hk_) (tab : List (Nat × Nat × List Nat)) (exW : Run_) (dry : Dry) (c : Cut) : ∀ n, bothRC P inl hk com hm tab exW dry c n = bothC P inl hk com hm tab exW dry c n
 | 0 => rfl
 | n + 1 => by
  show (fun C Γ items σ nk k => Bool.rec (motive := fun _ => Tree) (Bool.rec (motive := fun _ => Tree) (stepRY items P inl (bothRC P inl hk com hm tab exW dry c n) C Γ items σ nk k) (comM P inl hm tab (bothRC P inl hk com hm tab exW dry c n) C Γ items σ nk k) (com C.fn)) (Bool.rec (motive := fun _ => Tree) (cutR P inl c (bothRC P inl hk com hm tab exW dry c n) C Γ items σ nk k) (cutM P inl hm tab c (bothRC P inl hk com hm tab exW dry c n) C Γ items σ nk k) (com C.fn)) C.top, callS c.sums (callG c.ws P inl hk exW dry (bothRC P inl hk com hm tab exW dry c n).1 (bothRC P inl hk com hm tab exW dry c n).2)) = _
  simp only [bothC, bothRC_eq P inl hk com hm tab exW dry c n, cutR, cutM]
  congr 1
  funext C Γ items σ nk k
  cases C.top with
  | true =>
   cases com C.fn with
   | true =>
    show stepCut _ _ _ _ _ _ _ _ = stepCut _ _ _ _ _ _ _ _
    congr 1
    funext C Γ items σ nk k
    exact comM_eq P inl hm tab _ C Γ items σ nk k
   | false =>
    show stepCut _ _ _ _ _ _ _ _ = stepCut _ _ _ _ _ _ _ _
    congr 1
    funext C Γ items σ nk k
    exact stepRY_eq P inl _ C Γ items σ nk k
  | false =>
   cases com C.fn with
   | true => exact comM_eq P inl hm tab _ C Γ items σ nk k
   | false => exact stepRY_eq P inl _ C Γ items σ nk k
theorem Facts.On.ext {ρ ρ' : Env} (h : ({} : Facts).On ρ) (he : Ext ρ ρ') : ({} : Facts).On ρ' := by
 obtain ⟨t, rfl⟩ := he
 exact ⟨by simp, by simp, h.lens, by simp⟩
section
variable {P : Program} {N : Nat} {w0 : Option World}
theorem bothC_sound {inl : FuncId → Bool} {hk : Hook} {com : FuncId → Bool} {hm : Hk_} {tab : List (Nat × Nat × List Nat)} {exW : Run_} {dry : Dry} {c : Cut} (H : Go.Conc.Lib.WgLib P hk.L) (Gl : GoLib P hk) (Gf : GoFn P hk) (hexW : ∀ K, SoundEx P (Mx.Hand P K) exW) (hh : HkOk P (Co.team P N w0) hm) (hs : ∀ s ∈ c.sums, s.Ok P N w0) (hws : ∀ s ∈ c.ws, s.Ok P hk exW) :
  ∀ n, SoundEx P (Co.team P N w0) (bothC P inl hk com hm tab exW dry c n).1 ∧ SoundCall P (Co.team P N w0) (bothC P inl hk com hm tab exW dry c n).2
 | 0 => ⟨fun D E C r Γ items σ nk k ρ Q F hr hv hΓ hk hK hE h a S hf => h.elim, ⟨fun D E f args hp nk Γ k ρ F S Post _ _ _ _ _ _ h => h.elim, fun D E f args m hp nk Γ k ρ F S Post _ _ _ _ _ _ _ h => h.elim⟩⟩
 | n + 1 => by
  obtain ⟨h1, h2⟩ := bothC_sound (inl := inl) (com := com) (tab := tab) (dry := dry) (c := c) H Gl Gf hexW hh hs hws n
  refine ⟨fun D E C r Γ items σ nk k ρ Q F hr hv hΓ hk hK hE h a S hf => ?_, callS_sound hs (callG_sound hws H Gl Gf hexW h1 h2)⟩
  simp only [bothC] at h
  split at h
  ·split at h
   ·exact stepCut_sound (stepM_sound h1 (stepH_sound hh h1 h2 (stepY_sound h1 h2))) D E C r Γ items σ nk k ρ Q F hr hv hΓ hk hK hE h a S hf
   ·exact stepCut_sound (stepY_sound h1 h2) D E C r Γ items σ nk k ρ Q F hr hv hΓ hk hK hE h a S hf
  ·split at h
   ·exact stepM_sound h1 (stepH_sound hh h1 h2 (stepY_sound h1 h2)) D E C r Γ items σ nk k ρ Q F hr hv hΓ hk hK hE h a S hf
   ·exact stepY_sound h1 h2 D E C r Γ items σ nk k ρ Q F hr hv hΓ hk hK hE h a S hf
def From (P : Program) (N : Nat) (w0 : Option World) (f : FuncId) (size nk : Nat) (items : List Item) (σ : SS) (Q : Own → Env → Ex → St → Own → Prop) : Prop :=
 ∀ F ρ0 ρ a S, Ext ρ0 ρ → vals ρ → ({} : Facts).On ρ → ρ.k.length = nk → Fit size F ρ σ a S → wpI P (Co.team P N w0) { fn := some f } items (Q F ρ0) a S
theorem From.cut {f : FuncId} {size nk : Nat} {items : List Item} {σ σ' : SS} {Q : Own → Env → Ex → St → Own → Prop} {keep keepB keepRo : List Nat} (h : cutS keep keepB keepRo σ = some σ') (next : From P N w0 f size nk items σ' Q) : From P N w0 f size nk items σ Q :=
 fun F ρ0 ρ a S he hv hΓ hnk hf => next F ρ0 ρ a S he hv hΓ hnk (cut_fit hf h)
theorem From.piece {inl : FuncId → Bool} {hk : Hook} {com : FuncId → Bool} {hm : Hk_} {tab : List (Nat × Nat × List Nat)} {exW : Run_} {dry : Dry} {c : Cut} (H : Go.Conc.Lib.WgLib P hk.L) (Gl : GoLib P hk) (Gf : GoFn P hk) (hexW : ∀ K, SoundEx P (Mx.Hand P K) exW) (hh : HkOk P (Co.team P N w0) hm) (hs : ∀ s ∈ c.sums, s.Ok P N w0) (hws : ∀ s ∈ c.ws, s.Ok P hk exW)
  {f : FuncId} {size nk nk' fuel ways : Nat} {items items' : List Item} {σ σ' : SS} {Q : Own → Env → Ex → St → Own → Prop}
  (h : strip ((bothC P inl hk com hm tab exW dry c fuel).1 { size, top := true, fn := f } {} items σ nk (fun _ _ _ _ => .bad)) nk = some (List.replicate ways (nk', items', σ'))) (next : From P N w0 f size nk' items' σ' Q) : From P N w0 f size nk items σ Q := by
 intro F ρ0 ρ a S he0 hv hΓ hnk hf
 subst hnk
 refine (bothC_sound (inl := inl) (com := com) (tab := tab) (dry := dry) (c := c) H Gl Gf hexW hh hs hws fuel).1 (fun _ _ _ => True) (fun ρ' items2 σ2 => ∀ a S, Fit size F ρ' σ2 a S → wpI P (Co.team P N w0) { fn := some f } items2 (Q F ρ0) a S) { size, top := true, fn := f } { fn := some f } {} items σ _ (fun _ _ _ _ => .bad) ρ (Q F ρ0) F ⟨rfl, rfl, by simp, rfl⟩ hv hΓ rfl
  (fun _ _ _ _ _ _ _ hh => hh.elim) (fun _ ρ' items2 σ2 he hE a S hfit => hE a S hfit) ?_ a S hf
 exact strip_holds _ ρ ρ _ (Ext.refl ρ) h all_same fun ρ' he hl a S hfit => next F ρ0 ρ' a S (he0.trans he) (vals_ext he hv) (hΓ.ext he) hl hfit
def lastE (keepB keepRo : List Nat) : KEnd := fun e _ hp _ _ => match e with
 | .ret v => match hp.cut (namesSC v ++ keepB) keepRo with
  | some hp => .done (.panic [(v, false, false)]) { hp }
  | none => .bad
 | _ => .bad
def lastK (P : Program) (call : Call_) (g : FuncId) (keepB keepRo : List Nat) : Kont := fun e σ nk Γ => match P.funcs[g]? with
 | some fn => match e with
  | .normal => unw P call fn.results.toList σ.df .ret σ nk Γ (lastE keepB keepRo)
  | .ret => unw P call fn.results.toList σ.df .ret σ nk Γ (lastE keepB keepRo)
  | _ => .bad
 | none => .bad
theorem From.last {inl : FuncId → Bool} {hk : Hook} {com : FuncId → Bool} {hm : Hk_} {tab : List (Nat × Nat × List Nat)} {exW : Run_} {dry : Dry} {c : Cut} (H : Go.Conc.Lib.WgLib P hk.L) (Gl : GoLib P hk) (Gf : GoFn P hk) (hexW : ∀ K, SoundEx P (Mx.Hand P K) exW) (hh : HkOk P (Co.team P N w0) hm) (hs : ∀ s ∈ c.sums, s.Ok P N w0) (hws : ∀ s ∈ c.ws, s.Ok P hk exW)
  {f : FuncId} {size nk nk' fuel ways : Nat} {items : List Item} {σ : SS} {v : SC} {hp' : Hp} {keepB keepRo : List Nat}
  (h : stripD ((bothC P inl hk com hm tab exW dry c fuel).1 { size, top := false, fn := f } {} items σ nk (lastK P (bothC P inl hk com hm tab exW dry c fuel).2 f keepB keepRo)) nk = some (List.replicate ways (nk', v, hp'))) :
  From P N w0 f size nk items σ fun F ρ0 => bodyPost P (Co.team P N w0) f (Left v hp' nk' F ρ0) := by
 intro F ρ0 ρ a S he0 hv hΓ hnk hf
 subst hnk
 obtain ⟨s1, s2⟩ := bothC_sound (inl := inl) (com := com) (tab := tab) (dry := dry) (c := c) H Gl Gf hexW hh hs hws fuel
 refine s1 (fun ρ' e σ => Ext ρ ρ' ∧ ρ'.k.length = nk' ∧ (∃ a b, e = .panic [(v, a, b)]) ∧ σ.hp = hp') (fun _ _ _ => True) { size, top := false, fn := f } { fn := some f } {} items σ _ _ ρ (bodyPost P (Co.team P N w0) f (Left v hp' nk' F ρ0)) F ⟨rfl, rfl, by simp, rfl⟩ hv hΓ rfl ?_ (fun h => by cases h) (stripD_holds _ ρ ρ _ (Ext.refl ρ) h all_same) a S hf
 intro ρ' e σ' Γ' he hΓ' hok hh a' S' hfit
 unfold lastK at hh
 split at hh
 ·rename_i fn hfn
  have key : holds (fun ρ' e σ => Ext ρ ρ' ∧ ρ'.k.length = nk' ∧ (∃ a b, e = .panic [(v, a, b)]) ∧ σ.hp = hp') (fun _ _ _ => True) ρ' (unw P (bothC P inl hk com hm tab exW dry c fuel).2 fn.results.toList σ'.df .ret σ' ρ'.k.length Γ' (lastE keepB keepRo)) → Unw P (Co.team P N w0) f .returning a'.tmps a'.defers S' (Left v hp' nk' F ρ0) := by
   intro hh
   rw [hfit.df]
   refine unw_sound s2 hfn σ'.df .ret σ' _ Γ' ρ' S' (vals_ext he hv) hΓ' rfl rfl hfit.dfok trivial hfit.sl.bare hfit.hp (fun ρ2 e2 hp2 Γ2 he2 hΓ2 hok2 hh2 S2 hs2 => ?_) hh
   unfold lastE at hh2
   split at hh2
   ·rename_i v2
    split at hh2
    ·rename_i hp3 hcut
     obtain ⟨k1, k2, ⟨x, y, k3⟩, k4⟩ := hh2
     cases k3
     simp only at k4
     subst k4
     exact ⟨ρ2, he0.trans k1, hΓ.ext k1, k2, rfl, hok2, (cut_sat hs2 hcut).1⟩
    ·exact hh2.elim
   ·exact hh2.elim
  cases e with
  | normal => exact key hh
  | ret => exact key hh
  | panic ch => exact hh.elim
  | exit id => exact hh.elim
  | goto l => exact hh.elim
 ·exact hh.elim
theorem CallTo.of {g : FuncId} {fn : Func} {c : Code} {args : List SC} {hp hp' : Hp} {nk nk' : Nat} {v : SC} (hf : P.funcs[g]? = some fn) (hname : (fn.name == "runtime.NumGoroutine") = false) (hb : fn.body = some c)
  (h : From P N w0 g (args.length + (fn.ntmps - args.length)) nk [.code c] { sl := slotsOf args 0 .nil, hp, df := [], cm := none } fun F ρ0 => bodyPost P (Co.team P N w0) g (Left v hp' nk' F ρ0)) : CallTo P N w0 g args hp nk v hp' nk' :=
 ⟨⟨fn, hf, hname, by rw [hb]; rfl⟩, fun F ρ S hv hΓ hnk hargs hs => Calls.enter hf hb (wp_items (h F ρ ρ _ S (Ext.refl ρ) hv hΓ hnk (entry_fit (cm := none) hargs (by simp) hs)))⟩
def callAt (size : Nat) (items : List Item) (σ : SS) : Option (FuncId × List SC × List Item × Option Tmp) := match items with
 | .inRegion ops (i :: rest) :: tail => match ops[i]? with
  | some o => match symWanted σ.sl ops o with
   | some (.inl true) => match o.op with
    | .call c => match calleeOf (evC σ.sl) c, o.dst.all (· < size) with
     | some (g, args, caps), true => some (g, args ++ caps, .inRegion ops rest :: tail, o.dst)
     | _, _ => none
    | _ => none
   | _ => none
  | none => none
 | _ => none
theorem From.call {f g : FuncId} {size nk nk' : Nat} {items items' : List Item} {σ : SS} {args : List SC} {dst : Option Tmp} {v : SC} {hp' : Hp} {Q : Own → Env → Ex → St → Own → Prop} (h : callAt size items σ = some (g, args, items', dst)) (hc : CallTo P N w0 g args σ.hp nk v hp' nk')
  (next : From P N w0 f size nk' items' { σ with sl := putD σ.sl dst v, hp := hp' } Q) : From P N w0 f size nk items σ Q := by
 intro F ρ0 ρ a S he0 hv hΓ hnk hf
 unfold callAt at h
 split at h
 ·rename_i ops i rest tail
  split at h
  ·rename_i o ho
   split at h
   ·rename_i hw
    split at h
    ·rename_i c hop
     split at h
     ·rename_i g' as caps hcal hd
      simp only [Option.some.injEq, Prod.mk.injEq] at h
      obtain ⟨rfl, rfl, rfl, rfl⟩ := h
      obtain ⟨h1, h2, h3⟩ := calleeOf_run (evC_ok hf.sl) hcal o.type
      refine wpI_op ho (symWanted_inl hf.sl hw) (by unfold plainOp; rw [hop]; simp) ?_
      have hred : execOp a.eval o = callFunc g' ((as.map (SC.den ρ)).toArray ++ (caps.map (SC.den ρ)).toArray) := by
       simp only [execOp, hop, h3, invoke]
       rfl
      rw [hred]
      have e1 : (as.map (SC.den ρ)).toArray ++ (caps.map (SC.den ρ)).toArray = ((as ++ caps).map (SC.den ρ)).toArray := by apply Array.ext'; simp
      rw [e1]
      refine run_callFunc hc.1 ?_
      have hcc := hc.2 F ρ S hv hΓ hnk (fun x hx => by
       rcases List.mem_append.1 hx with hx | hx
       ·exact h1 x hx
       ·exact h2 x hx) hf.hp
      refine Calls.mono (Post' := fun e S' => match e with
        | .returned v => wpI P (Co.team P N w0) { fn := some f } (.inRegion ops rest :: tail) (Q F ρ0) (a.put o.dst v) S'
        | .panicked ch => Q F ρ0 (.panic ch) a S') hcc ?_
      rintro e S' ⟨ρ', he, hΓ', hnk', rfl, hok, hs'⟩
      have hl := (hf.later he hs').put (dst := o.dst) hd hok
      exact next F ρ0 ρ' _ S' (he0.trans he) (vals_ext he hv) hΓ' hnk' hl
     ·cases h
    ·cases h
   ·cases h
  ·cases h
 ·cases h
theorem CallTo.done {g : FuncId} {hp hp' : Hp} {nk' : Nat} {v : SC} (h : CallTo P N w0 g [] hp 16 v hp' nk') (hgh : hp'.gh = .none) {S : Own} (hs : Sat env0 hp S S) {good : Value → Prop} (hgood : ∀ ρ : Env, good (v.den ρ)) :
  Calls P (Co.team P N w0) g #[] S fun e S' => (∃ v, e = .returned v ∧ good v) ∧ S'.gh = .none ∧ (∀ b o, S.ro b = some o → S'.ro b = some o) ∧ ∀ b o, S.full b = some o → S'.full b = some o := by
 have := h.2 S env0 S vals0 ⟨by simp, by simp, fun i => by simp [Env.list, maxLens, env0], by simp⟩ rfl (by simp) hs
 refine this.mono ?_
 rintro e S' ⟨ρ', he, hΓ', hnk', rfl, hok, hs'⟩
 exact ⟨⟨_, rfl, hgood ρ'⟩, by rw [hs'.gh, hgh]; rfl, hs'.ro, hs'.frm⟩
end
def itemsTo (id : Nat) : Code → List Item → Option (List Item)
 | .region i ops d, tail => match Nat.beq i id with
  | true => some (.code (.region i ops d) :: tail)
  | false => none
 | .seq a b, tail => match itemsTo id a (.code b :: tail) with
  | some l => some l
  | none => itemsTo id b tail
 | .cond _ x y, tail => match itemsTo id x tail with
  | some l => some l
  | none => itemsTo id y tail
 | .block n c, tail => itemsTo id c (.inBlock n :: tail)
 | .loop c, tail => itemsTo id c (.inLoop c :: tail)
 | .scope c, tail => itemsTo id c (.inScope c :: tail)
 | _, _ => none
def bodyOf (P : Program) (f : FuncId) : Code := match P.funcs[f]? with
 | some fn => match fn.body with
  | some c => c
  | none => .skip
 | none => .skip
def atStm (P : Program) (f id : Nat) : List Item := match itemsTo id (bodyOf P f) [] with
 | some l => l
 | none => []
def atOp (P : Program) (f id i : Nat) : List Item := match itemsTo id (bodyOf P f) [] with
 | some (.code (.region _ ops _) :: tail) => .inRegion ops ((List.range ops.size).drop i) :: tail
 | _ => []
noncomputable def Conf.exW (c : Conf) (P : Program) (n : Nat) : Run_ := (bothRW P (fun _ => true) c.coms (c.hW P) n).1
noncomputable def Conf.dry (c : Conf) (P : Program) (n : Nat) : Dry := dryF P c.hk (bothRW P (fun _ => true) c.coms (c.hD P) n).1
def pickM (nk : Nat) : List (Nat × List SM) → Option (List SM)
 | [] => none
 | (n, l) :: r => match Nat.beq n nk with
  | true => some l
  | false => pickM nk r
def givenD (msgs : List (Nat × List SM)) (dry : Dry) : Dry := fun args hp nk Γ => match pickM nk msgs with
 | some l => l
 | none => dry args hp nk Γ
noncomputable def Conf.run (c : Conf) (P : Program) (n : Nat) (cut : Cut) : Run_ × Call_ := bothRC P (fun _ => true) c.hk c.coms (c.hM P) c.tab (c.exW P n) (givenD cut.msgs (c.dry P n)) cut n
section
variable {P : Program} {N : Nat} {w0 : Option World} {c : Conf}
theorem Conf.Ok.exW (h : c.Ok P) (n : Nat) : ∀ K, SoundEx P (Mx.Hand P K) (c.exW P n) := fun K => by
 unfold Conf.exW
 rw [bothRW_eq]
 exact (bothW_sound h.hW n).1
theorem Conf.Ok.piece (h : c.Ok P) {n ways : Nat} {cut : Cut} {f : FuncId} {size nk nk' : Nat} {items items' : List Item} {σ σ' : SS} {Q : Own → Env → Ex → St → Own → Prop}
  (hr : strip ((c.run P n cut).1 { size, top := true, fn := f } {} items σ nk (fun _ _ _ _ => .bad)) nk = some (List.replicate ways (nk', items', σ'))) (hs : ∀ s ∈ cut.sums, s.Ok P N w0) (hws : ∀ s ∈ cut.ws, s.Ok P c.hk (c.exW P n)) (next : From P N w0 f size nk' items' σ' Q) : From P N w0 f size nk items σ Q := by
 unfold Conf.run at hr
 rw [bothRC_eq] at hr
 exact From.piece h.wg h.gl h.gf (h.exW n) h.hM hs hws hr next
theorem Conf.Ok.last (h : c.Ok P) {n ways : Nat} {cut : Cut} {f : FuncId} {size nk nk' : Nat} {items : List Item} {σ : SS} {v : SC} {hp' : Hp} {keepB keepRo : List Nat}
  (hr : stripD ((c.run P n cut).1 { size, top := false, fn := f } {} items σ nk (lastK P (c.run P n cut).2 f keepB keepRo)) nk = some (List.replicate ways (nk', v, hp'))) (hs : ∀ s ∈ cut.sums, s.Ok P N w0) (hws : ∀ s ∈ cut.ws, s.Ok P c.hk (c.exW P n)) :
  From P N w0 f size nk items σ fun F ρ0 => bodyPost P (Co.team P N w0) f (Left v hp' nk' F ρ0) := by
 unfold Conf.run at hr
 rw [bothRC_eq] at hr
 exact From.last h.wg h.gl h.gf (h.exW n) h.hM hs hws hr
end
def fnOf (P : Program) (g : FuncId) : Func := match P.funcs[g]? with
 | some fn => fn
 | none => default
structure FnOk (P : Program) (g : FuncId) : Prop where
 fn : P.funcs[g]? = some (fnOf P g)
 name : ((fnOf P g).name == "runtime.NumGoroutine") = false
 body : (fnOf P g).body = some (bodyOf P g)
theorem CallTo.at_ {P : Program} {N : Nat} {w0 : Option World} {g : FuncId} {args : List SC} {hp hp' : Hp} {nk nk' size : Nat} {v : SC} (hf : FnOk P g) (hsize : args.length + ((fnOf P g).ntmps - args.length) = size)
  (h : From P N w0 g size nk [.code (bodyOf P g)] { sl := slotsOf args 0 .nil, hp, df := [], cm := none } fun F ρ0 => bodyPost P (Co.team P N w0) g (Left v hp' nk' F ρ0)) : CallTo P N w0 g args hp nk v hp' nk' := by
 subst hsize
 exact CallTo.of hf.fn hf.name hf.body h
def noCut (sums : List Sum) (msgs : List (Nat × List SM)) (ws : List WSum := []) : Cut := { call := false, at_ := 99999, nk := 0, keep := [], keepB := [], keepRo := [], sums, msgs, ws }
theorem noSums {P : Program} {N : Nat} {w0 : Option World} : ∀ s ∈ ([] : List Sum), s.Ok P N w0 := fun _ h => by cases h
theorem noWs {P : Program} {hk : Hook} {ex : Run_} : ∀ s ∈ ([] : List WSum), s.Ok P hk ex := fun _ h => by cases h
theorem consWs {P : Program} {hk : Hook} {ex : Run_} {s : WSum} {l : List WSum} (h : s.Ok P hk ex) (h' : ∀ s ∈ l, s.Ok P hk ex) : ∀ x ∈ s :: l, x.Ok P hk ex := fun x hx => (List.mem_cons.1 hx).elim (fun e => by rw [e]; exact h) (h' x)
theorem consSum {P : Program} {N : Nat} {w0 : Option World} {s : Sum} {l : List Sum} (h : s.Ok P N w0) (h' : ∀ s ∈ l, s.Ok P N w0) : ∀ x ∈ s :: l, x.Ok P N w0 := fun x hx => (List.mem_cons.1 hx).elim (fun e => by rw [e]; exact h) (h' x)
end Mw
