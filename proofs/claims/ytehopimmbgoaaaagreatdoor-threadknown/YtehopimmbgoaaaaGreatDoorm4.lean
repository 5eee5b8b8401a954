/- A logic over the machine and a run of a program on unknown values, in the kernel. No statement of the project is proved in this text. -/
import Derived.Conc.DeferLaws
import Derived.Conc.Own2
import Derived.Laws.Externs
import Derived.Test.YtehopimmbgoaaaaGreatDoorm3
set_option linter.unusedVariables false
set_option linter.unusedSimpArgs false
set_option linter.unusedVariables false
namespace Mw
open Go Mv
def orderOf (m : Region.Mode) (ops : Array Oper) (i : Nat) : Nat := (Region.linearise m ops 0).idxOf i
def ranksOk (ops : Array Oper) : Bool := rankB .any ops id && (!Region.departs ops || (rankB .text ops (orderOf .text ops) && rankB .gc ops (orderOf .gc ops)))
theorem sched_schedule {mixed : Bool} {ops : Array Oper} (h : ranksOk ops = true) (t : Nat) : Sched ops [] (Region.schedule mixed ops t) := by
 simp only [ranksOk, Bool.and_eq_true, Bool.or_eq_true] at h
 unfold Region.schedule
 split
 ·exact sched_linearise (rankB_ok h.1) t
 ·rename_i hd
  rcases h.2 with h2 | ⟨h2, h3⟩
  ·exact absurd (by simp [h2]) hd
  ·split
   ·exact sched_linearise (rankB_ok h2) _
   ·exact sched_linearise (rankB_ok h3) _
def sameL (f : SC → SC → Bool) : List SC → List SC → Bool
 | [], [] => true
 | x :: l, y :: m => f x y && sameL f l m
 | _, _ => false
def SC.same : Nat → SC → SC → Bool
 | _, .int k (.lit m), .int k' (.lit n) => decide (k = k') && Int.same m n
 | _, .int k x, .int k' y => decide (k = k') && decide (x = y)
 | _, .bool x, .bool y => decide (x = y)
 | _, .any i, .any j => Nat.beq i j
 | _, .ref i, .ref j => Nat.beq i j
 | _, .chn i, .chn j => Nat.beq i j
 | _, .yield i, .yield j => Nat.beq i j
 | _, .ptr b x, .ptr b' y => Nat.beq b b' && decide (x = y)
 | _, .slice b x l c, .slice b' x' l' c' => Nat.beq b b' && decide (x = x') && decide (l = l') && decide (c = c')
 | _, .lit .nilIface, .lit .nilIface => true
 | _, .lit .nilFunc, .lit .nilFunc => true
 | _, .lit (.map none), .lit (.map none) => true
 | _, .lit (.pointer (some ⟨b, o, none⟩)), .lit (.pointer (some ⟨b', o', none⟩)) => Nat.beq b b' && Nat.beq o o'
 | _, .lit (.chan none), .lit (.chan none) => true
 | _, .lit (.pointer none), .lit (.pointer none) => true
 | _, .lit (.slice none 0 0), .lit (.slice none 0 0) => true
 | n + 1, .agg l, .agg m => sameL (SC.same n) l m
 | n + 1, .tup l, .tup m => sameL (SC.same n) l m
 | n + 1, .iface t x, .iface t' y => Nat.beq t t' && SC.same n x y
 | n + 1, .fn f a b, .fn f' a' b' => decide (f = f') && sameL (SC.same n) a a' && sameL (SC.same n) b b'
 | _, _, _ => false
theorem sameL_eq {f : SC → SC → Bool} (hf : ∀ x y, f x y = true → x = y) : ∀ l m, sameL f l m = true → l = m
 | [], [], _ => rfl
 | x :: l, y :: m, h => by
  simp only [sameL, Bool.and_eq_true] at h
  rw [hf x y h.1, sameL_eq hf l m h.2]
 | [], _ :: _, h => by cases h
 | _ :: _, [], h => by cases h
theorem SC.same_eq : ∀ n x y, SC.same n x y = true → x = y := by
 intro n
 induction n with
 | zero =>
  intro x y h
  unfold SC.same at h
  split at h <;> (try simp only [Bool.and_eq_true, decide_eq_true_eq, Int.same_eq, beq_iff_eq, Nat.beq_eq, Bool.false_eq_true] at h) <;> first | rfl | (simp_all; done)
 | succ n ih =>
  have ihl := sameL_eq ih
  intro x y h
  unfold SC.same at h
  split at h <;> (try simp only [Bool.and_eq_true, decide_eq_true_eq, Int.same_eq, beq_iff_eq, Nat.beq_eq, Bool.false_eq_true, Nat.succ.injEq] at *) <;> first
   | rfl
   | (simp_all; done)
   | (subst_vars; rw [ihl _ _ h])
   | (subst_vars; obtain ⟨⟨h1, h2⟩, h3⟩ := h; rw [h1, ihl _ _ h2, ihl _ _ h3])
   | (subst_vars; obtain ⟨h1, h2⟩ := h; rw [h1, ih _ _ h2])
abbrev Opx := Run_ → Call_ → Round_ → Cx → Facts → List Item → Array Oper → List Nat → Oper → List Item → SS → Nat → Kont → Tree
structure OpxOk (P : Program) (main : Co) (opx : Opx) : Prop where
 good : ∀ (D : Env → SEx → SS → Prop) (E : Env → List Item → SS → Prop) (ex : Run_) (call : Call_) (rnd : Round_), SoundRound P main rnd → SoundCall P main call → ∀ (C : Cx) (Γ : Facts) (items items' tail : List Item) (ops : Array Oper) (i : Nat) (rest rest' : List Nat) (o : Oper) (σ : SS) (k : Kont) (ρ : Env) (Q : Ex → St → Own → Prop) (F : Own) (r : Ctx),
  CtxOk C r ρ → vals ρ → Γ.On ρ → KOk D E C.size F ρ k Q → ops[i]? = some o → holds D E ρ (opx ex call rnd C Γ items ops rest o items' σ ρ.k.length k) → ∀ {a : St} {S : Own}, Fit C.size F ρ σ a S → Region.wanted o (yielded ops a.tmps) = true →
  (∀ {t : Tree}, t = stuck_ C items σ → holds D E ρ t → wpI P main r (.inRegion ops (i :: rest') :: tail) Q a S) →
  (∀ ρ' Γ' σ' a' S', Ext ρ ρ' → vals ρ' → Γ'.On ρ' → Fit C.size F ρ' σ' a' S' → (∃ v, a'.tmps = (a.put o.dst v).tmps) → holds D E ρ' (ex C Γ' (.inRegion ops rest :: items') σ' ρ'.k.length k) → wpI P main r (.inRegion ops rest' :: tail) Q a' S') → wpI P main r (.inRegion ops (i :: rest') :: tail) Q a S
 alloc : ∃ inl, ∀ ex call rnd C Γ items ops rest o tail σ nk k, ((∃ t, o.op = .alloc t) ∨ ∃ t n ps, o.op = .buildSlice t n ps) → opx ex call rnd C Γ items ops rest o tail σ nk k = stepOp P inl ex call rnd C Γ items ops rest o tail σ nk k
theorem stepOp_ok {P : Program} {main : Co} {inl : FuncId → Bool} : OpxOk P main (stepOp P inl) :=
 ⟨fun D E ex call rnd hrnd hcall C Γ items items' tail ops i rest rest' o σ k ρ Q F r hr hv hΓ hK ho h => fun hf hw hst hnext => stepOp_good hrnd hcall hr hv hΓ hK ho h hf hw hst hnext, ⟨inl, fun _ _ _ _ _ _ _ _ _ _ _ _ _ _ => rfl⟩⟩
def quietB : Builtin → Bool
 | .len | .cap | .min | .max => true
 | _ => false
def quietC : Callee → Bool
 | .builtin b => quietB b
 | _ => false
def quietOp : Op → Bool
 | .move _ | .assign _ | .pick .. | .build .. | .load .. | .nilCheck _ | .binOp .. | .unOp .. | .convert .. | .makeInterface .. | .makeFunc .. | .slice .. | .fieldAddr .. | .field .. | .indexAddr .. | .index .. | .typeAssert .. | .extract .. => true
 | .call c => quietC c.callee
 | _ => false
def effAt (ops : Array Oper) (i : Nat) : Bool := match ops[i]? with
 | some o => !quietOp o.op
 | none => false
def ahead (ops : Array Oper) (i : Nat) : Nat := (masks ops).getD i 0
def dstIs (ops : Array Oper) (j t : Nat) : Bool := match ops[j]? with
 | some o => match o.dst with
  | some d => Nat.beq d t
  | none => false
 | none => false
def writersGo (t : Nat) : List Oper → Nat → List Nat
 | [], _ => []
 | o :: os, j => match o.dst with
  | some d => match Nat.beq d t with
   | true => j :: writersGo t os (j + 1)
   | false => writersGo t os (j + 1)
  | none => writersGo t os (j + 1)
def writers (ops : Array Oper) (t : Nat) : List Nat := writersGo t ops.toList 0
def seen (ops : Array Oper) (i t : Nat) : Bool := (writers ops t).all fun j => (ahead ops i).testBit j
def dsts (ops : Array Oper) : List Nat := ops.toList.filterMap (·.dst)
def later (ops : Array Oper) (i t : Nat) : Bool := (writers ops t).all fun j => (ahead ops j).testBit i
def tmpsOf : List Operand → List Nat → List Nat
 | [], acc => acc
 | .tmp t :: l, acc => t :: tmpsOf l acc
 | _ :: l, acc => tmpsOf l acc
def readsOf (ops : Array Oper) (i : Nat) : List Nat := match ops[i]? with
 | some o => tmpsOf o.op.operands.toList (match o.guard with
  | some (j, _) => match ops[j]? with
   | some oj => match oj.dst with
    | some d => [d]
    | none => []
   | none => []
  | none => [])
 | none => []
def see (ops : Array Oper) (i : Nat) (sl0 sl : Tr SC) (s : Tr SC) (t : Nat) : Tr SC := match seen ops i t with
 | true => match sl.look t with
  | some v => s.set t v
  | none => s
 | false => match later ops i t with
  | true => match sl0.look t with
   | some v => s.set t v
   | none => s
  | false => s
def hide (ops : Array Oper) (sl0 : Tr SC) (i : Nat) (sl : Tr SC) : Tr SC := (readsOf ops i).foldl (see ops i sl0 sl) .nil
def pendAt (ops : Array Oper) (past : List Nat) : List Nat := (List.range ops.size).filter fun q => !effAt ops q && ((List.range ops.size).all fun j => !(effAt ops j && (ahead ops q).testBit j) || past.contains j) && past.all fun j => !(ahead ops j).testBit q
def newsAt (ops : Array Oper) (past : List Nat) (last : Option Nat) : List Nat := (pendAt ops past).filter fun q => match last with
 | none => true
 | some i => (ahead ops q).testBit i
def isAl (ops : Array Oper) (i : Nat) : Bool := match ops[i]? with
 | some o => match o.op with
  | .alloc _ => true
  | .buildSlice .. => o.guard.isNone
  | _ => false
 | none => false
def isBs (ops : Array Oper) (i : Nat) : Bool := match ops[i]? with
 | some o => match o.op with
  | .buildSlice .. => o.guard.isNone
  | _ => false
 | none => false
def bsOf (ops : Array Oper) : List Nat := (List.range ops.size).filter (isBs ops)
def makesAt (ops : Array Oper) (past : List Nat) : List Nat := (bsOf ops).filter fun q => !past.contains q && (List.range ops.size).all fun j => !(effAt ops j && (ahead ops q).testBit j) || past.contains j
def placeE (ops : Array Oper) : List Nat → List Nat → List Nat
 | [], as => as
 | e :: es, as => as.filter (fun a => (ahead ops e).testBit a) ++ e :: placeE ops es (as.filter fun a => !(ahead ops e).testBit a)
def effsOf (ops : Array Oper) : List Nat := placeE ops ((List.range ops.size).filter fun i => effAt ops i && !isAl ops i) ((List.range ops.size).filter (isAl ops))
def chainB (ops : Array Oper) : List Nat → Bool
 | [] => true
 | i :: l => l.all (fun j => isAl ops j || (ahead ops j).testBit i) && chainB ops l
def placedB (ops : Array Oper) : List Nat → List Nat → Bool
 | _, [] => true
 | past, i :: l => (!isAl ops i || (List.range ops.size).all fun q => (effAt ops q && !isBs ops q) || !(ahead ops q).testBit i || past.all fun e => (ahead ops q).testBit e) && placedB ops (i :: past) l
def nodupB : List Nat → Bool
 | [] => true
 | x :: l => !l.contains x && nodupB l
def openOk (ops : Array Oper) : Bool := ranksOk ops && textual ops && nodupB (dsts ops) && Nat.beq (masks ops).length ops.size && chainB ops (effsOf ops) && placedB ops [] (effsOf ops)
def allocsOk (P : Program) (ops : Array Oper) (size : Nat) : Bool := (List.range ops.size).all fun i => match ops[i]? with
 | some o => match o.op with
  | .alloc t => o.guard.isNone && (match o.dst with | some d => Nat.ble (d + 1) size | none => false) && (match sAlloc P t with | some (.fresh [] _ .ptr) => true | _ => false)
  | .buildSlice _ _ ps => !o.guard.isNone || ((match o.dst with | some d => Nat.ble (d + 1) size | none => false) && ps.toList.all fun x => match x.2 with
   | .tmp t => seen ops i t
   | _ => true)
  | _ => true
 | none => true
def dropA (ops : Array Oper) (l : List Nat) (sl : Tr SC) : Tr SC := l.foldl (fun sl i => match ops[i]? with
 | some o => match o.dst with
  | some d => sl.del d
  | none => sl
 | none => sl) sl
def agrees (sl : Tr SC) (dst : Option Tmp) (v : SC) : Bool := match dst with
 | none => true
 | some d => match sl.look d with
  | none => true
  | some w => SC.same 6 w v
section
variable (P : Program) (ops : Array Oper) (sl0 : Tr SC)
def guessAll (Γ : Facts) (hp : Hp) : List Nat → Tr SC → (Tr SC → Tree) → Tree
 | [], sl, k => k sl
 | q :: l, sl, k => match ops[q]? with
  | none => .bad
  | some o => match symWanted (hide ops sl0 q sl) ops o with
   | some (.inl true) => match symOpF P hp (evC (hide ops sl0 q sl)) o.op with
    | some (.val _ v) => putK sl o.dst (v.nrmF Γ) fun sl => guessAll Γ hp l sl k
    | _ => .bad
   | some (.inl false) => putK sl o.dst undefS fun sl => guessAll Γ hp l sl k
   | _ => .bad
def checkAll (size : Nat) (Γ : Facts) (hp : Hp) (sl : Tr SC) : List Nat → Tree → Tree
 | [], t => t
 | q :: l, t => match ops[q]? with
  | none => .bad
  | some o => match o.dst.all (· < size) with
   | false => .bad
   | true => match symWanted (hide ops sl0 q sl) ops o with
    | some (.inl true) => match symOpF P hp (evC (hide ops sl0 q sl)) o.op with
     | some (.val ns v) => match agrees sl o.dst (v.nrmF Γ) with
      | true => .needs (toShow Γ ns) (checkAll size Γ hp sl l t)
      | false => .bad
     | _ => .bad
    | some (.inl false) => match agrees sl o.dst undefS with
     | true => checkAll size Γ hp sl l t
     | false => .bad
    | _ => .bad
def makesB (hp : Hp) (sl : Tr SC) (l : List Nat) : Bool := l.all fun q => match ops[q]? with
 | some o => (symOpF P hp (evC (hide ops sl0 q sl)) o.op).isSome
 | none => false
def merge (sl : Tr SC) (dst : Option Tmp) (sl' : Tr SC) : Tr SC := match dst with
 | none => sl
 | some d => match sl'.look d with
  | some v => sl.set d v
  | none => sl.del d
variable (opx : Opx) (ex : Run_) (call : Call_)
def stages (C : Cx) (tail : List Item) (k : Kont) : List Nat → List Nat → Option Nat → Facts → SS → Nat → Tree
 | effs, past, last, Γ, σ, nk => guessAll P ops sl0 Γ σ.hp (newsAt ops past last) σ.sl fun sl => match makesB P ops sl0 σ.hp sl (makesAt ops past) with
  | false => .bad
  | true => checkAll P ops sl0 C.size Γ σ.hp sl (pendAt ops past) (match effs with
   | [] => ex C Γ tail (σ.withSl sl) nk k
   | i :: effs => match ops[i]? with
    | none => .bad
    | some o => match symWanted (hide ops sl0 i sl) ops o with
     | some (.inl true) => opx (fun _ Γ _ σ' nk _ => stages C tail k effs (i :: past) (some i) Γ (σ'.withSl (merge sl o.dst σ'.sl)) nk) call (roundF P ex) { C with top := false } Γ [] ops [] o [] (σ.withSl (hide ops sl0 i sl)) nk k
     | some (.inl false) => match o.dst.all (· < C.size) with
      | true => stages C tail k effs (i :: past) (some i) Γ (σ.withSl (putD sl o.dst undefS)) nk
      | false => .bad
     | _ => .bad)
 termination_by structural effs => effs
end
def openX (P : Program) (ops : Array Oper) (opx : Opx) (ex : Run_) (call : Call_) (C : Cx) (Γ : Facts) (items : List Item) (tail : List Item) (σ : SS) (nk : Nat) (k : Kont) : Tree := match openOk ops with
 | true => match allocsOk P ops C.size with
  | true => stages P ops σ.sl opx ex call C tail k (effsOf ops) [] none Γ (σ.withSl (dropA ops ((List.range ops.size).filter (isAl ops)) σ.sl)) nk
  | false => stuck_ C items σ
 | false => stuck_ C items σ
abbrev openR (P : Program) (ops : Array Oper) (inl : FuncId → Bool) := openX P ops (stepOp P inl)
section
variable {P : Program} {main : Co} {ops : Array Oper}
theorem ahead_lt (ht : textual ops = true) {k j : Nat} (h : (ahead ops k).testBit j = true) : ∃ m, GoodMask ops k m ∧ m.testBit j = true := by
 unfold ahead at h
 cases hm : (masks ops)[k]? with
 | none => simp [List.getD, hm] at h
 | some m => exact ⟨m, masks_good ht hm, by simpa [List.getD, hm] using h⟩
theorem ahead_done (ht : textual ops = true) {k j : Nat} (h : (ahead ops k).testBit j = true) {D : List Nat} (hD : Down ops D) (hp : ∀ o, ops[k]? = some o → ∀ x ∈ predsOf o, x ∈ D) : j ∈ D := by
 obtain ⟨m, hm, hj⟩ := ahead_lt ht h
 exact (hm j hj).2 D hD hp
theorem see_look {i x d : Nat} {sl0 sl s : Tr SC} {v : SC} (h : (see ops i sl0 sl s x).look d = some v) : s.look d = some v ∨ (seen ops i d = true ∧ sl.look d = some v) ∨ (later ops i d = true ∧ sl0.look d = some v) := by
 unfold see at h
 split at h
 ·rename_i hs
  split at h
  ·rename_i w hw
   rcases Tr.look_set h with ⟨rfl, rfl⟩ | h
   ·exact .inr (.inl ⟨hs, hw⟩)
   ·exact .inl h.2
  ·exact .inl h
 ·split at h
  ·rename_i hl
   split at h
   ·rename_i w hw
    rcases Tr.look_set h with ⟨rfl, rfl⟩ | h
    ·exact .inr (.inr ⟨hl, hw⟩)
    ·exact .inl h.2
   ·exact .inl h
  ·exact .inl h
theorem foldl_see_look {i : Nat} {sl0 sl : Tr SC} : ∀ (l : List Nat) (s : Tr SC) {d : Nat} {v : SC}, (l.foldl (see ops i sl0 sl) s).look d = some v → s.look d = some v ∨ (seen ops i d = true ∧ sl.look d = some v) ∨ (later ops i d = true ∧ sl0.look d = some v)
 | [], s, d, v, h => .inl h
 | x :: l, s, d, v, h => by
  rcases foldl_see_look l (see ops i sl0 sl s x) h with h1 | h1
  ·exact see_look h1
  ·exact .inr h1
theorem hide_look {i : Nat} {sl0 sl : Tr SC} {d : Nat} {v : SC} (h : (hide ops sl0 i sl).look d = some v) : (seen ops i d = true ∧ sl.look d = some v) ∨ (later ops i d = true ∧ sl0.look d = some v) := by
 rcases foldl_see_look _ _ h with h | h
 ·rw [Tr.nil_look] at h; cases h
 ·exact h
theorem writersGo_mem {t : Nat} {o : Oper} : ∀ {os : List Oper} {k j : Nat}, os[j]? = some o → o.dst = some t → k + j ∈ writersGo t os k
 | [], k, j, h, _ => by simp at h
 | x :: os, k, 0, h, hd => by
  simp only [List.getElem?_cons_zero, Option.some.injEq] at h; subst h
  simp [writersGo, hd]
 | x :: os, k, j + 1, h, hd => by
  have := writersGo_mem (k := k + 1) (os := os) (j := j) (by simpa using h) hd
  have e : k + 1 + j = k + (j + 1) := by omega
  rw [e] at this
  unfold writersGo
  split
  ·split
   ·exact List.mem_cons_of_mem _ this
   ·exact this
  ·exact this
theorem writers_mem {j d : Nat} (h : dstIs ops j d = true) : j ∈ writers ops d := by
 unfold dstIs at h
 split at h
 ·rename_i o ho
  split at h
  ·rename_i d' hd
   have := Nat.eq_of_beq_eq_true h
   subst this
   have := writersGo_mem (k := 0) (os := ops.toList) (j := j) (by simpa using ho) hd
   simpa [writers] using this
  ·cases h
 ·cases h
theorem later_of {i d j : Nat} (hl : later ops i d = true) (h : dstIs ops j d = true) : (ahead ops j).testBit i = true := List.all_eq_true.1 hl j (writers_mem h)
def Old (ρ : Env) (ops : Array Oper) (done : List Nat) (sl0 : Tr SC) (a : St) : Prop :=
 ∀ d v, sl0.look d = some v → (∃ j, j ∈ done ∧ dstIs ops j d = true) ∨ (v.ok ρ.k.length ∧ a.tmps[d]? = some (v.den ρ))
theorem dstIs_iff {j d : Nat} (h : dstIs ops j d = true) : ∃ o, ops[j]? = some o ∧ o.dst = some d := by
 unfold dstIs at h
 split at h
 ·rename_i o ho
  split at h
  ·rename_i d' hd
   have := Nat.eq_of_beq_eq_true h
   subst this
   exact ⟨o, ho, hd⟩
  ·cases h
 ·cases h
theorem dstIs_of {j d : Nat} {o : Oper} (ho : ops[j]? = some o) (hd : o.dst = some d) : dstIs ops j d = true := by
 simp only [dstIs, ho, hd, Nat.beq_refl]
theorem nodupB_eq : ∀ {l : List Nat}, nodupB l = true → l.Nodup
 | [], _ => List.nodup_nil
 | x :: l, h => by
  simp only [nodupB, Bool.and_eq_true, Bool.not_eq_true', List.contains_eq_mem, decide_eq_false_iff_not] at h
  exact List.nodup_cons.2 ⟨h.1, nodupB_eq h.2⟩
theorem uniq {α : Type} {f : α → Option Nat} : ∀ {l : List α} {j j' : Nat} {x y : α} {d : Nat}, (l.filterMap f).Nodup → l[j]? = some x → l[j']? = some y → f x = some d → f y = some d → j = j'
 | [], _, _, _, _, _, _, h, _, _, _ => by simp at h
 | z :: l, 0, 0, _, _, _, _, _, _, _, _ => rfl
 | z :: l, 0, j' + 1, x, y, d, hn, hx, hy, fx, fy => by
  exfalso
  simp only [List.getElem?_cons_zero, Option.some.injEq] at hx
  subst hx
  rw [List.filterMap_cons_some fx] at hn
  exact (List.nodup_cons.1 hn).1 (List.mem_filterMap.2 ⟨y, List.mem_of_getElem? (by simpa using hy), fy⟩)
 | z :: l, j + 1, 0, x, y, d, hn, hx, hy, fx, fy => by
  exfalso
  simp only [List.getElem?_cons_zero, Option.some.injEq] at hy
  subst hy
  rw [List.filterMap_cons_some fy] at hn
  exact (List.nodup_cons.1 hn).1 (List.mem_filterMap.2 ⟨x, List.mem_of_getElem? (by simpa using hx), fx⟩)
 | z :: l, j + 1, j' + 1, x, y, d, hn, hx, hy, fx, fy => by
  have hn' : (l.filterMap f).Nodup := by
   cases hz : f z with
   | none => rwa [List.filterMap_cons_none hz] at hn
   | some w => rw [List.filterMap_cons_some hz] at hn; exact (List.nodup_cons.1 hn).2
  have hx : l[j]? = some x := by simpa using hx
  have hy : l[j']? = some y := by simpa using hy
  exact congrArg (· + 1) (uniq hn' hx hy fx fy)
theorem dst_uniq (hn : nodupB (dsts ops) = true) {j j' d : Nat} (h : dstIs ops j d = true) (h' : dstIs ops j' d = true) : j = j' := by
 obtain ⟨o, h1, h2⟩ := dstIs_iff h
 obtain ⟨o', h3, h4⟩ := dstIs_iff h'
 exact uniq (f := fun o : Oper => o.dst) (nodupB_eq hn) (by simpa using h1) (by simpa using h3) h2 h4
theorem getOp_lt {j : Nat} {o : Oper} (h : ops[j]? = some o) : j < ops.size := by
 rcases Nat.lt_or_ge j ops.size with h' | h'
 ·exact h'
 ·rw [Array.getElem?_eq_none h'] at h; cases h
theorem seen_of {i d j : Nat} (hs : seen ops i d = true) (h : dstIs ops j d = true) : (ahead ops i).testBit j = true := List.all_eq_true.1 hs j (writers_mem h)
def Part (ρ : Env) (ops : Array Oper) (done : List Nat) (sl : Tr SC) (a : St) : Prop :=
 ∀ d v, sl.look d = some v → (∃ j, j ∉ done ∧ dstIs ops j d = true) ∨ (v.ok ρ.k.length ∧ a.tmps[d]? = some (v.den ρ))
theorem Part.seen {ρ : Env} {done : List Nat} {sl0 sl : Tr SC} {a : St} (h : Part ρ ops done sl a) (h0 : Old ρ ops done sl0 a) (ht : textual ops = true) (hD : Down ops done) {i : Nat} (hnd : i ∉ done) (hp : ∀ o, ops[i]? = some o → ∀ x ∈ predsOf o, x ∈ done) : Knows ρ (hide ops sl0 i sl) a := by
 intro d v hd
 rcases hide_look hd with ⟨h2, h1⟩ | ⟨hl, h1⟩
 ·rcases h d v h1 with ⟨j, hj, hjd⟩ | h
  ·exact absurd (ahead_done ht (seen_of h2 hjd) hD hp) hj
  ·exact h
 ·rcases h0 d v h1 with ⟨j, hj, hjd⟩ | h
  ·exact absurd (ahead_done ht (later_of hl hjd) hD fun oj hoj x hx => hD j hj oj hoj x hx) hnd
  ·exact h
theorem guessAll_spec {sl0 : Tr SC} {D : Env → SEx → SS → Prop} {E : Env → List Item → SS → Prop} {ρ : Env} {Γ : Facts} {hp : Hp} {k : Tr SC → Tree} : ∀ (l : List Nat) (sl : Tr SC), holds D E ρ (guessAll P ops sl0 Γ hp l sl k) →
  ∃ sl', holds D E ρ (k sl') ∧ ∀ d v, sl'.look d = some v → (∃ q ∈ l, dstIs ops q d = true) ∨ sl.look d = some v
 | [], sl, h => ⟨sl, h, fun d v h => .inr h⟩
 | q :: l, sl, h => by
  simp only [guessAll] at h
  split at h
  ·exact h.elim
  ·rename_i o ho
   have key : ∀ v, holds D E ρ (guessAll P ops sl0 Γ hp l (putD sl o.dst v) k) → ∃ sl', holds D E ρ (k sl') ∧ ∀ d v, sl'.look d = some v → (∃ q' ∈ q :: l, dstIs ops q' d = true) ∨ sl.look d = some v := by
    intro v h
    obtain ⟨sl', h1, h2⟩ := guessAll_spec l _ h
    refine ⟨sl', h1, fun d u hd => ?_⟩
    rcases h2 d u hd with ⟨q', hq', hd'⟩ | hd
    ·exact .inl ⟨q', List.mem_cons_of_mem _ hq', hd'⟩
    ·cases hdst : o.dst with
     | none => rw [hdst] at hd; exact .inr hd
     | some t =>
      rw [hdst] at hd
      rcases Tr.look_set hd with ⟨rfl, _⟩ | ⟨_, hd⟩
      ·exact .inl ⟨q, List.mem_cons_self, dstIs_of ho hdst⟩
      ·exact .inr hd
   split at h
   ·split at h
    ·rw [putK_eq] at h; exact key _ h
    ·exact h.elim
   ·rw [putK_eq] at h; exact key _ h
   ·exact h.elim
def Yields (P : Program) (ops : Array Oper) (sl0 : Tr SC) (size : Nat) (ρ : Env) (Γ : Facts) (hp : Hp) (sl : Tr SC) (q : Nat) : Prop :=
  ∃ o, ops[q]? = some o ∧ o.dst.all (· < size) = true ∧
    ((symWanted (hide ops sl0 q sl) ops o = some (.inl true) ∧ ∃ ns v, symOpF P hp (evC (hide ops sl0 q sl)) o.op = some (.val ns v) ∧ (∀ c ∈ toShow Γ ns, c.den ρ = true) ∧ agrees sl o.dst (v.nrmF Γ) = true) ∨
      (symWanted (hide ops sl0 q sl) ops o = some (.inl false) ∧ agrees sl o.dst undefS = true))
theorem checkAll_spec {sl0 : Tr SC} {D : Env → SEx → SS → Prop} {E : Env → List Item → SS → Prop} {ρ : Env} {size : Nat} {Γ : Facts} {hp : Hp} {sl : Tr SC} {t : Tree} : ∀ (l : List Nat), holds D E ρ (checkAll P ops sl0 size Γ hp sl l t) →
  (∀ q ∈ l, Yields P ops sl0 size ρ Γ hp sl q) ∧ holds D E ρ t
 | [], h => ⟨by simp, h⟩
 | q :: l, h => by
  simp only [checkAll] at h
  split at h
  ·exact h.elim
  ·rename_i o ho
   split at h
   ·exact h.elim
   ·rename_i hd
    split at h
    ·rename_i hw
     split at h
     ·rename_i ns v hs
      split at h
      ·rename_i ha
       obtain ⟨hn, h⟩ := holds_needs h
       obtain ⟨h1, h2⟩ := checkAll_spec l h
       refine ⟨fun q' hq => ?_, h2⟩
       rcases List.mem_cons.1 hq with rfl | hq
       ·exact ⟨o, ho, hd, .inl ⟨hw, ns, v, hs, hn, ha⟩⟩
       ·exact h1 q' hq
      ·exact h.elim
     ·exact h.elim
    ·rename_i hw
     split at h
     ·rename_i ha
      obtain ⟨h1, h2⟩ := checkAll_spec l h
      refine ⟨fun q' hq => ?_, h2⟩
      rcases List.mem_cons.1 hq with rfl | hq
      ·exact ⟨o, ho, hd, .inr ⟨hw, ha⟩⟩
      ·exact h1 q' hq
     ·exact h.elim
    ·exact h.elim
theorem pend_of {past : List Nat} {q : Nat} (hq : q < ops.size) (he : effAt ops q = false) (h1 : ∀ j, j < ops.size → effAt ops j = true → (ahead ops q).testBit j = true → j ∈ past) (h2 : ∀ j ∈ past, (ahead ops j).testBit q = false) : q ∈ pendAt ops past := by
 refine List.mem_filter.2 ⟨List.mem_range.2 hq, ?_⟩
 simp only [he, Bool.not_false, Bool.true_and, Bool.and_eq_true]
 refine ⟨List.all_eq_true.2 fun j hj => ?_, List.all_eq_true.2 fun j hj => by simp [h2 j hj]⟩
 cases h3 : effAt ops j with
 | false => rfl
 | true =>
  cases h4 : (ahead ops q).testBit j with
  | false => rfl
  | true => simpa using h1 j (List.mem_range.1 hj) h3 h4
theorem merge_look {sl sl' : Tr SC} {dst : Option Tmp} {d : Nat} {v : SC} (h : (merge sl dst sl').look d = some v) : (dst = some d ∧ sl'.look d = some v) ∨ (dst ≠ some d ∧ sl.look d = some v) := by
 cases dst with
 | none => exact .inr ⟨by simp, h⟩
 | some t =>
  simp only [merge] at h
  split at h
  ·rename_i w hw
   rcases Tr.look_set h with ⟨rfl, rfl⟩ | ⟨h1, h2⟩
   ·exact .inl ⟨rfl, hw⟩
   ·exact .inr ⟨fun e => h1 (Option.some.inj e).symm, h2⟩
  ·obtain ⟨h1, h2⟩ := Tr.look_del h
   exact .inr ⟨fun e => h1 (Option.some.inj e).symm, h2⟩
theorem put_other {a : St} {dst : Option Tmp} {w : Value} {d : Nat} (h : dst ≠ some d) : (a.put dst w).tmps[d]? = a.tmps[d]? := by
 cases dst with
 | none => rfl
 | some t =>
  have : t ≠ d := fun e => h (by rw [e])
  simp only [St.put]
  rw [Array.getElem?_setIfInBounds_ne this]
theorem put_same {a : St} {w : Value} {d : Nat} (h : d < a.tmps.size) : (a.put (some d) w).tmps[d]? = some w := by
 simp only [St.put]
 rw [Array.getElem?_setIfInBounds_self_of_lt h]
theorem agrees_eq {sl : Tr SC} {d : Nat} {v w : SC} (h : agrees sl (some d) v = true) (hl : sl.look d = some w) : w = v := by
 simp only [agrees, hl] at h
 exact SC.same_eq _ _ _ h
theorem chain_all {l : List Nat} {i : Nat} (h : chainB ops (i :: l) = true) : (∀ j ∈ l, isAl ops j = false → (ahead ops j).testBit i = true) ∧ chainB ops l = true := by
 simp only [chainB, Bool.and_eq_true] at h
 refine ⟨fun j hj ha => ?_, h.2⟩
 have := List.all_eq_true.1 h.1 j hj
 simpa [ha] using this
theorem placed_mem {j q : Nat} (hq : q < ops.size) (he : (effAt ops q && !isBs ops q) = false) (ha : isAl ops j = true) (hj : (ahead ops q).testBit j = true) : ∀ {l past : List Nat}, placedB ops past l = true → j ∈ l → ∀ e ∈ past, (ahead ops q).testBit e = true
 | [], _, _, h, _, _ => by cases h
 | i :: l, past, hp, h, e, hin => by
  simp only [placedB, Bool.and_eq_true] at hp
  rcases List.mem_cons.1 h with rfl | h
  ·have h1 := hp.1
   simp only [ha, Bool.not_true, Bool.false_or] at h1
   have h2 := List.all_eq_true.1 h1 q (List.mem_range.2 hq)
   simp only [he, hj, Bool.not_true, Bool.false_or] at h2
   exact List.all_eq_true.1 h2 e hin
  ·exact placed_mem hq he ha hj hp.2 h e (List.mem_cons_of_mem _ hin)
theorem mem_placeE {j : Nat} : ∀ {es as : List Nat}, j ∈ placeE ops es as ↔ j ∈ es ∨ j ∈ as
 | [], as => by simp [placeE]
 | e :: es, as => by
  simp only [placeE, List.mem_append, List.mem_cons, List.mem_filter, mem_placeE (es := es), Bool.not_eq_true']
  cases hb : (ahead ops e).testBit j <;> simp <;> grind
theorem nodup_placeE : ∀ {es as : List Nat}, es.Nodup → as.Nodup → (∀ j ∈ es, j ∉ as) → (placeE ops es as).Nodup
 | [], as, _, h, _ => h
 | e :: es, as, h1, h2, h3 => by
  obtain ⟨h4, h5⟩ := List.nodup_cons.1 h1
  simp only [placeE]
  rw [List.nodup_append]
  refine ⟨h2.filter _, List.nodup_cons.2 ⟨fun h => ?_, nodup_placeE h5 (h2.filter _) fun j hj h => h3 j (List.mem_cons_of_mem _ hj) (List.mem_filter.1 h).1⟩, fun a ha b hb e' => ?_⟩
  ·rcases mem_placeE.1 h with h | h
   ·exact h4 h
   ·exact h3 e List.mem_cons_self (List.mem_filter.1 h).1
  ·subst e'
   obtain ⟨k1, k2⟩ := List.mem_filter.1 ha
   rcases List.mem_cons.1 hb with rfl | hb
   ·exact h3 _ List.mem_cons_self k1
   ·rcases mem_placeE.1 hb with hb | hb
    ·exact h3 a (List.mem_cons_of_mem _ hb) k1
    ·have := (List.mem_filter.1 hb).2
     simp [k2] at this
theorem isAl_iff {i : Nat} (h : isAl ops i = true) : ∃ o, ops[i]? = some o ∧ ((∃ t, o.op = .alloc t) ∨ (o.guard = none ∧ ∃ t n ps, o.op = .buildSlice t n ps)) := by
 unfold isAl at h
 split at h
 ·rename_i o ho
  split at h
  ·rename_i t ht; exact ⟨o, ho, .inl ⟨t, ht⟩⟩
  ·rename_i t n ps ht; exact ⟨o, ho, .inr ⟨by simpa using h, t, n, ps, ht⟩⟩
  ·cases h
 ·cases h
theorem isAl_eff {i : Nat} (h : isAl ops i = true) : effAt ops i = true := by
 obtain ⟨o, ho, ⟨t, ht⟩ | ⟨_, t, n, ps, ht⟩⟩ := isAl_iff h <;> simp [effAt, ho, ht, quietOp]
theorem isBs_of {i : Nat} {o : Oper} {t : TypeId} {n : Nat} {ps : Array (Nat × Operand)} (ho : ops[i]? = some o) (hop : o.op = .buildSlice t n ps) (hg : o.guard = none) : isBs ops i = true := by
 simp [isBs, ho, hop, hg]
theorem sBuildSlice_shape {t : TypeId} {n : Nat} {l : Option (List (Nat × SC))} {e : Eff} (h : sBuildSlice P t n l = some e) : ∃ so, e = .fresh [] so (.slice n n) ∧ ∃ l', l = some l' := by
 unfold sBuildSlice at h
 split at h
 ·split at h
  ·unfold sBuildNone at h
   split at h
   ·simp only [Option.some.injEq] at h; subst h; exact ⟨_, rfl, _, rfl⟩
   ·cases h
  ·cases h
 ·unfold sBuildSome at h
  split at h
  ·split at h
   ·split at h
    ·split at h
     ·simp only [Option.some.injEq] at h; subst h; exact ⟨_, rfl, _, rfl⟩
     ·cases h
    ·cases h
   ·cases h
  ·cases h
theorem sBuildSome_inv {t : TypeId} {n : Nat} {l : List (Nat × SC)} {so : SO} (h : sBuildSome P t n (some l) = some (.fresh [] so (.slice n n))) :
  ∃ e sz zs c, P.underlying t = some (.slice e) ∧ sizeT P e = some sz ∧ zeroCells P e = some zs ∧ symFill (fun i => some (i * sz, sz)) (zeroRow zs (n * sz)) l = some c ∧ so = .cells c e := by
 unfold sBuildSome at h
 split at h
 ·rename_i e l' hu hl
  simp only [Option.some.injEq] at hl; subst hl
  split at h
  ·rename_i sz zs hs hz
   split at h
   ·split at h
    ·rename_i c hc
     simp only [Option.some.injEq, Eff.fresh.injEq] at h
     exact ⟨e, sz, zs, c, hu, hs, hz, hc, h.2.1.symm⟩
    ·cases h
   ·cases h
  ·cases h
 ·cases h
theorem sBuildSlice_inv {t : TypeId} {n : Nat} {l : List (Nat × SC)} {so : SO} (h : sBuildSlice P t n (some l) = some (.fresh [] so (.slice n n))) :
  (n = 0 ∧ l = []) ∨ ((n = 0 → l ≠ []) ∧ sBuildSome P t n (some l) = some (.fresh [] so (.slice n n))) := by
 unfold sBuildSlice at h
 split at h
 ·rename_i hl
  simp only [Option.some.injEq] at hl
  exact .inl ⟨rfl, hl⟩
 ·rename_i hne
  exact .inr ⟨fun hn hl => hne hn (by rw [hl]), h⟩
theorem sBuildSlice_same {ρ : Env} (hv : vals ρ) {t : TypeId} {n : Nat} {l l' : List (Nat × SC)} {so so' : SO} (hl : l.map (fun x => (x.1, x.2.den ρ)) = l'.map fun x => (x.1, x.2.den ρ))
  (h : sBuildSlice P t n (some l) = some (.fresh [] so (.slice n n))) (h' : sBuildSlice P t n (some l') = some (.fresh [] so' (.slice n n))) : so.den ρ = so'.den ρ := by
 have hnil : l = [] ↔ l' = [] := by
  constructor
  ·intro e; subst e; simpa using hl.symm
  ·intro e; subst e; simpa using hl
 rcases sBuildSlice_inv h with ⟨h1, h2⟩ | ⟨h1, h2⟩
 ·have h3 := hnil.1 h2
  subst h2 h3
  rw [h] at h'
  simp only [Option.some.injEq, Eff.fresh.injEq] at h'
  rw [h'.2.1]
 ·rcases sBuildSlice_inv h' with ⟨h3, h4⟩ | ⟨h3, h4⟩
  ·exact absurd (hnil.2 h4) (h1 h3)
  ·obtain ⟨e, sz, zs, c, k1, k2, k3, k4, rfl⟩ := sBuildSome_inv h2
   obtain ⟨e', sz', zs', c', k1', k2', k3', k4', rfl⟩ := sBuildSome_inv h4
   rw [k1] at k1'; cases k1'
   rw [k2] at k2'; cases k2'
   rw [k3] at k3'; cases k3'
   have f1 := fill_den hv _ _ _ _ k4
   have f2 := fill_den hv _ _ _ _ k4'
   rw [hl, f2] at f1
   simp only [Option.some.injEq] at f1
   simp only [SO.den, f1]
theorem sBuildSlice_ok {ρ : Env} {S0 : Own} (hv : vals ρ) {t : TypeId} {n : Nat} {l : List (Nat × SC)} {so : SO} (h : sBuildSlice P t n (some l) = some (.fresh [] so (.slice n n))) (hl : ∀ x ∈ l, x.2.ok ρ.k.length) : so.ok ρ.k.length := by
 unfold sBuildSlice at h
 split at h
 ·split at h
  ·unfold sBuildNone at h
   split at h
   ·simp only [Option.some.injEq, Eff.fresh.injEq] at h
    rw [← h.2.1]
    intro x hx; cases hx
   ·cases h
  ·cases h
 ·obtain ⟨e, sz, zs, c, k1, k2, k3, k4, rfl⟩ := sBuildSome_inv h
  exact fill_ok _ _ _ _ k4 hl (zeroRow_ok ((zeroCells_run (S0 := S0) hv k3).1 _))
theorem evParts_on {ρ : Env} {ev : Operand → Option SC} {ev' : Operand → Value} : ∀ (ps : List (Nat × Operand)) (l : List (Nat × SC)), (∀ p ∈ ps, ∀ v, ev p.2 = some v → v.ok ρ.k.length ∧ ev' p.2 = v.den ρ) → evParts ev ps = some l →
  (ps.map (fun x => (x.1, ev' x.2)) = l.map fun x => (x.1, x.2.den ρ)) ∧ ∀ x ∈ l, x.2.ok ρ.k.length
 | [], l, _, h => by simp only [evParts, Option.some.injEq] at h; subst h; exact ⟨rfl, by simp⟩
 | (i, x) :: ps, l, he, h => by
  simp only [evParts] at h
  split at h
  ·rename_i v r hx hr
   simp only [Option.some.injEq] at h; subst h
   obtain ⟨h1, h2⟩ := evParts_on ps r (fun p hp => he p (List.mem_cons_of_mem _ hp)) hr
   obtain ⟨h3, h4⟩ := he (i, x) List.mem_cons_self v hx
   refine ⟨by simp only [List.map_cons, h1]; rw [h4], fun y hy => ?_⟩
   rcases List.mem_cons.1 hy with rfl | hy
   ·exact h3
   ·exact h2 y hy
  ·cases h
def Made (P : Program) (ρ : Env) (a : St) (o : Oper) (so : SO) (w : Way) : Prop :=
 (∃ t, o.op = .alloc t ∧ sAlloc P t = some (.fresh [] so .ptr) ∧ w = .ptr) ∨
 (∃ t n ps l, o.op = .buildSlice t n ps ∧ sBuildSlice P t n (some l) = some (.fresh [] so (.slice n n)) ∧ w = .slice n n ∧ (∀ x ∈ l, x.2.ok ρ.k.length) ∧ ps.toList.map (fun x => (x.1, a.eval x.2)) = l.map fun x => (x.1, x.2.den ρ))
theorem Made.later {ρ ρ' : Env} {a a' : St} {o : Oper} {so : SO} {w : Way} (h : Made P ρ a o so w) (he : Ext ρ ρ') (ha : ∀ t n ps, o.op = .buildSlice t n ps → ∀ x ∈ ps.toList, a'.eval x.2 = a.eval x.2) : Made P ρ' a' o so w := by
 rcases h with h | ⟨t, n, ps, l, h1, h2, h3, h4, h5⟩
 ·exact .inl h
 ·refine .inr ⟨t, n, ps, l, h1, h2, h3, fun x hx => SC.ok_mono he.len _ (h4 x hx), ?_⟩
  have e1 : ps.toList.map (fun x => (x.1, a'.eval x.2)) = ps.toList.map (fun x => (x.1, a.eval x.2)) := List.map_congr_left fun x hx => by rw [ha t n ps h1 x hx]
  have e2 : l.map (fun x => (x.1, x.2.den ρ')) = l.map (fun x => (x.1, x.2.den ρ)) := List.map_congr_left fun x hx => by rw [SC.den_ext he (h4 x hx)]
  rw [e1, e2]; exact h5
theorem Made.isAl {ρ : Env} {a : St} {o : Oper} {so : SO} {w : Way} {j : Nat} (h : Made P ρ a o so w) (ho : ops[j]? = some o) (hg : o.guard = none) : Mw.isAl ops j = true := by
 rcases h with ⟨t, h1, _⟩ | ⟨t, n, ps, l, h1, _⟩ <;> simp [Mw.isAl, ho, h1, hg]
theorem eval_put {a : St} {dst : Option Tmp} {w : Value} {x : Operand} (h : ∀ t, x = .tmp t → dst ≠ some t) : (a.put dst w).eval x = a.eval x := by
 cases x with
 | tmp t =>
  have := put_other (a := a) (w := w) (h t rfl)
  simp only [St.eval, Array.getD_eq_getD_getElem?, this]
 | _ => rfl
theorem eval_tmps {a a' : St} (h : a'.tmps = a.tmps) (x : Operand) : a'.eval x = a.eval x := by cases x <;> simp [St.eval, h]
theorem Part.known {ρ : Env} {done : List Nat} {sl0 sl : Tr SC} {a : St} (h : Part ρ ops done sl a) (h0 : Old ρ ops done sl0 a) (ht : textual ops = true) (hD : Down ops done) {i : Nat} (hp : ∀ o, ops[i]? = some o → ∀ x ∈ predsOf o, x ∈ done) {t : Nat} {v : SC} (hs : Mw.seen ops i t = true) (hl : (hide ops sl0 i sl).look t = some v) : v.ok ρ.k.length ∧ a.tmps[t]? = some (v.den ρ) := by
 rcases hide_look hl with ⟨_, h1⟩ | ⟨h2, h1⟩
 ·rcases h t v h1 with ⟨j, hj, hjd⟩ | h
  ·exact absurd (ahead_done ht (seen_of hs hjd) hD hp) hj
  ·exact h
 ·rcases h0 t v h1 with ⟨j, hj, hjd⟩ | h
  ·obtain ⟨m1, g1, b1⟩ := ahead_lt ht (seen_of hs hjd)
   obtain ⟨m2, g2, b2⟩ := ahead_lt ht (later_of h2 hjd)
   exact absurd (Nat.lt_trans (g1 j b1).1 (g2 i b2).1) (Nat.lt_irrefl _)
  ·exact h
theorem knows_nil {ρ : Env} {a : St} : Knows ρ .nil a := fun d v h => by rw [Tr.nil_look] at h; cases h
theorem Part.evOn {ρ : Env} {done : List Nat} {sl0 sl : Tr SC} {a : St} (h : Part ρ ops done sl a) (h0 : Old ρ ops done sl0 a) (ht : textual ops = true) (hD : Down ops done) {i : Nat} (hp : ∀ o, ops[i]? = some o → ∀ x ∈ predsOf o, x ∈ done) {ps : List (Nat × Operand)} (hs : ∀ x ∈ ps, ∀ t, x.2 = .tmp t → Mw.seen ops i t = true) :
  ∀ p ∈ ps, ∀ v, evC (hide ops sl0 i sl) p.2 = some v → v.ok ρ.k.length ∧ a.eval p.2 = v.den ρ := by
 rintro ⟨n, x⟩ hx v hv
 cases x with
 | tmp t =>
  obtain ⟨h1, h2⟩ := h.known h0 ht hD hp (hs _ hx t rfl) hv
  exact ⟨h1, by simp [St.eval, h2]⟩
 | const c => exact evC_ok (sl := .nil) knows_nil (.const c) v hv
 | global g => exact evC_ok (sl := .nil) knows_nil (.global g) v hv
 | func f => exact evC_ok (sl := .nil) knows_nil (.func f) v hv
theorem effsOf_mem {j : Nat} : j ∈ effsOf ops ↔ j < ops.size ∧ effAt ops j = true := by
 unfold effsOf
 rw [mem_placeE]
 simp only [List.mem_filter, List.mem_range, Bool.and_eq_true, Bool.not_eq_true']
 constructor
 ·rintro (⟨h1, h2, _⟩ | ⟨h1, h2⟩)
  ·exact ⟨h1, h2⟩
  ·exact ⟨h1, isAl_eff h2⟩
 ·rintro ⟨h1, h2⟩
  cases ha : isAl ops j with
  | false => exact .inl ⟨h1, h2, rfl⟩
  | true => exact .inr ⟨h1, rfl⟩
theorem effsOf_nodup : (effsOf ops).Nodup := by
 refine nodup_placeE (List.nodup_range.filter _) (List.nodup_range.filter _) fun j hj h => ?_
 have h1 := (List.mem_filter.1 hj).2
 have h2 := (List.mem_filter.1 h).2
 simp [h2] at h1
theorem dropA_look : ∀ (l : List Nat) (sl : Tr SC) {d : Nat} {v : SC}, (dropA ops l sl).look d = some v → sl.look d = some v ∧ ∀ i ∈ l, dstIs ops i d = false
 | [], sl, d, v, h => ⟨h, by simp⟩
 | i :: l, sl, d, v, h => by
  unfold dropA at h
  rw [List.foldl_cons] at h
  obtain ⟨h1, h2⟩ := dropA_look l _ h
  have key : sl.look d = some v ∧ dstIs ops i d = false := by
   cases ho : ops[i]? with
   | none => rw [ho] at h1; exact ⟨h1, by simp [dstIs, ho]⟩
   | some o =>
    rw [ho] at h1
    simp only at h1
    cases hd : o.dst with
    | none => rw [hd] at h1; exact ⟨h1, by simp [dstIs, ho, hd]⟩
    | some t =>
     rw [hd] at h1
     obtain ⟨h3, h4⟩ := Tr.look_del h1
     refine ⟨h4, ?_⟩
     simp only [dstIs, ho, hd]
     cases hb : Nat.beq t d with
     | false => rfl
     | true => exact absurd (Nat.eq_of_beq_eq_true hb).symm h3
  refine ⟨key.1, fun j hj => ?_⟩
  rcases List.mem_cons.1 hj with rfl | hj
  ·exact key.2
  ·exact h2 j hj
theorem Old.put {ρ ρ' : Env} {done : List Nat} {sl0 : Tr SC} {a a' : St} {i : Nat} {o : Oper} {w : Value} (h : Old ρ ops done sl0 a) (he : Ext ρ ρ') (ho : ops[i]? = some o) (ha : a'.tmps = (a.put o.dst w).tmps) : Old ρ' ops (i :: done) sl0 a' := by
 intro d v hd
 by_cases e : o.dst = some d
 ·exact .inl ⟨i, List.mem_cons_self, dstIs_of ho e⟩
 ·rcases h d v hd with ⟨j, hj, hjd⟩ | ⟨h1, h2⟩
  ·exact .inl ⟨j, List.mem_cons_of_mem _ hj, hjd⟩
  ·exact .inr ⟨SC.ok_mono he.len _ h1, by rw [ha, put_other e, h2, SC.den_ext he h1]⟩
structure Midway (ops : Array Oper) (done past effs : List Nat) (early : Nat → Option Nat) : Prop where
 hdown : Down ops done
 hpast : ∀ j ∈ past, j ∈ done
 heffs : ∀ j ∈ effs, (j ∉ done ∨ (early j).isSome = true) ∧ j < ops.size ∧ effAt ops j = true
 hall : ∀ j, j < ops.size → effAt ops j = true → j ∈ past ∨ j ∈ effs
 hchain : chainB ops effs = true
 hplaced : placedB ops past effs = true
 hnodup : effs.Nodup
 hquiet : ∀ q ∈ done, effAt ops q = false → ∀ j, j < ops.size → effAt ops j = true → (ahead ops q).testBit j = true → j ∈ past
 hdisj : ∀ j ∈ effs, j ∉ past
theorem SO.den_ext {ρ ρ' : Env} (h : Ext ρ ρ') {o : SO} (ho : o.ok ρ.k.length) : o.den ρ' = o.den ρ :=
 Ext.ind (p := fun ρ' => o.den ρ' = o.den ρ) rfl (fun ρ' b r he ih => by rw [SO.den_grow o (SO.ok_mono he.len ho), ih]) ρ' h
structure Held (P : Program) (ops : Array Oper) (ρ : Env) (F F' : Own) (early : Nat → Option Nat) (a : St) (done effs : List Nat) (size : Nat) : Prop where
 le : ∀ b o, F.full b = some o → F'.full b = some o
 ro : F'.ro = F.ro
 each : ∀ i b, early i = some b → i ∈ done ∧ i ∈ effs ∧ F.full b = none ∧ ∃ o so w d, ops[i]? = some o ∧ Made P ρ a o so w ∧ o.guard = none ∧ o.dst = some d ∧ d < size ∧ so.ok ρ.k.length ∧ F'.full b = some (so.den ρ) ∧ a.tmps[d]? = some (w.val b)
 inj : ∀ i j b, early i = some b → early j = some b → i = j
theorem Sat.weaken {ρ : Env} {hp : Hp} {F F' S : Own} (h : Sat ρ hp F' S) (hl : ∀ b o, F.full b = some o → F'.full b = some o) (hr : F'.ro = F.ro) : Sat ρ hp F S where
 has := h.has
 hro := h.hro
 inj := h.inj
 frm b o hb := h.frm b o (hl b o hb)
 apart i o hi := by
  cases hf : F.full (ρ.blk i) with
  | none => rfl
  | some x => rw [← h.apart i o hi, hl _ _ hf]
 ro b o hb := h.ro b o (by rw [hr]; exact hb)
 gh := h.gh
 dis := h.dis
 ghok := h.ghok
 lent i hi := by rw [← hr]; exact h.lent i hi
 linj := h.linj
 rinj := h.rinj
 lnd := h.lnd
theorem Fit.weaken {size : Nat} {ρ : Env} {σ : SS} {F F' S : Own} {a : St} (h : Fit size F' ρ σ a S) (hl : ∀ b o, F.full b = some o → F'.full b = some o) (hr : F'.ro = F.ro) : Fit size F ρ σ a S :=
 ⟨h.size, h.df, h.dfok, h.cm, h.cmok, h.sl, h.hp.weaken hl hr⟩
theorem Sat.aside {ρ : Env} {hp : Hp} {F S : Own} {b : Nat} {o : Obj} (h : Sat ρ hp F S) (hb : S.full b = none) (hr : S.ro b = none) : Sat ρ hp (F.set b o) (S.set b o) where
 has i x hi := by
  obtain ⟨h1, h2, h3⟩ := h.has i x hi
  refine ⟨h1, h2, ?_⟩
  rw [Own.set_full, if_neg (fun e => by rw [e, hb] at h3; cases h3)]; exact h3
 hro := h.hro
 inj := h.inj
 frm x ob hx := by
  rw [Own.set_full] at hx ⊢
  split at hx
  ·rename_i e; rw [if_pos e]; exact hx
  ·rename_i e; rw [if_neg e]; exact h.frm x ob hx
 apart i x hi := by
  obtain ⟨h1, h2, h3⟩ := h.has i x hi
  rw [Own.set_full, if_neg (fun e => by rw [e, hb] at h3; cases h3)]; exact h.apart i x hi
 ro := h.ro
 gh := h.gh
 ghok := h.ghok
 lent := h.lent
 linj := h.linj
 rinj := h.rinj
 lnd := h.lnd
 dis x hx := by
  rw [Own.set_full] at hx
  show S.ro x = none
  split at hx
  ·rename_i e; subst e; exact hr
  ·exact h.dis x hx
theorem Sat.adopt {ρ : Env} {hp : Hp} {F F' S : Own} {b : Nat} {o : SO} (h : Sat ρ hp F' S) (hb : F'.full b = some (o.den ρ)) (ho : o.ok ρ.k.length) (hn : F.full b = none) (hl : ∀ x ob, F.full x = some ob → F'.full x = some ob) (hr : F'.ro = F.ro) :
  Sat (ρ.grow b []) { hp with rw := hp.rw.set ρ.k.length o } F S := by
 have hg := h.grow (b := b) (r := [])
 have hne : ∀ j u, hp.rw.look j = some u → (ρ.grow b []).blk j ≠ b := fun j u hj e => by
  have := hg.apart j u hj
  rw [e, hb] at this; cases this
 exact {
  has := fun j u hj => by
   rcases Tr.look_set hj with ⟨rfl, rfl⟩ | ⟨e, hj⟩
   ·refine ⟨by simp, (by rw [len_grow]; exact SO.ok_mono (Nat.le_succ _) ho), ?_⟩
    rw [blk_new, SO.den_grow _ ho]
    exact h.frm b _ hb
   ·exact hg.has j u hj
  hro := fun j u hj => hg.hro j u hj
  inj := fun j j' u u' hj hj' e => by
   rcases Tr.look_set hj with ⟨rfl, _⟩ | ⟨_, hj⟩ <;> rcases Tr.look_set hj' with ⟨rfl, _⟩ | ⟨_, hj'⟩
   ·rfl
   ·rw [blk_new] at e; exact absurd e.symm (hne _ _ hj')
   ·rw [blk_new] at e; exact absurd e (hne _ _ hj)
   ·exact hg.inj _ _ _ _ hj hj' e
  frm := fun x ob hx => hg.frm x ob (hl x ob hx)
  apart := fun j u hj => by
   rcases Tr.look_set hj with ⟨rfl, _⟩ | ⟨_, hj⟩
   ·rw [blk_new]; exact hn
   ·cases hf : F.full ((ρ.grow b []).blk j) with
    | none => rfl
    | some x => rw [← hg.apart j u hj, hl _ _ hf]
  ro := fun x ob hx => hg.ro x ob (by rw [hr]; exact hx)
  gh := hg.gh
  dis := hg.dis
  ghok := hg.ghok
  lent := fun i hi => by rw [← hr]; exact hg.lent i hi
  linj := hg.linj
  rinj := hg.rinj
  lnd := hg.lnd }
theorem allocsOk_at {size i : Nat} {o : Oper} {t : TypeId} (h : allocsOk P ops size = true) (ho : ops[i]? = some o) (hop : o.op = .alloc t) : o.guard = none ∧ (∃ d, o.dst = some d ∧ d < size) ∧ ∃ so, sAlloc P t = some (.fresh [] so .ptr) := by
 have h1 := List.all_eq_true.1 h i (List.mem_range.2 (getOp_lt ho))
 simp only [ho, hop, Bool.and_eq_true] at h1
 obtain ⟨⟨h2, h3⟩, h4⟩ := h1
 refine ⟨by simpa using h2, ?_, ?_⟩
 ·split at h3
  ·rename_i d hd; exact ⟨d, hd, Nat.le_of_ble_eq_true h3⟩
  ·cases h3
 ·split at h4
  ·rename_i so hs; exact ⟨so, hs⟩
  ·cases h4
theorem allocsOk_bs {size i : Nat} {o : Oper} {t : TypeId} {n : Nat} {ps : Array (Nat × Operand)} (h : allocsOk P ops size = true) (ho : ops[i]? = some o) (hop : o.op = .buildSlice t n ps) (hg : o.guard = none) :
  (∃ d, o.dst = some d ∧ d < size) ∧ ∀ x ∈ ps.toList, ∀ t, x.2 = .tmp t → seen ops i t = true := by
 have h1 := List.all_eq_true.1 h i (List.mem_range.2 (getOp_lt ho))
 simp only [ho, hop, hg, Option.isNone_none, Bool.not_true, Bool.false_or, Bool.and_eq_true] at h1
 obtain ⟨h3, h4⟩ := h1
 refine ⟨?_, fun x hx t hxt => ?_⟩
 ·split at h3
  ·rename_i d hd; exact ⟨d, hd, Nat.le_of_ble_eq_true h3⟩
  ·cases h3
 ·have := List.all_eq_true.1 h4 x hx
  rw [hxt] at this
  exact this
variable {inl : FuncId → Bool} {opx : Opx} {ex : Run_} {call : Call_} {D : Env → SEx → SS → Prop} {E : Env → List Item → SS → Prop}
def stageNow (P : Program) (ops : Array Oper) (sl0 : Tr SC) (opx : Opx) (ex : Run_) (call : Call_) (C : Cx) (tail : List Item) (k : Kont) (effs past : List Nat) (Γ : Facts) (σ : SS) (sl : Tr SC) (nk : Nat) : Tree := match effs with
 | [] => ex C Γ tail (σ.withSl sl) nk k
 | i :: effs => match ops[i]? with
  | none => .bad
  | some o => match symWanted (hide ops sl0 i sl) ops o with
   | some (.inl true) => opx (fun _ Γ _ σ' nk _ => stages P ops sl0 opx ex call C tail k effs (i :: past) (some i) Γ (σ'.withSl (merge sl o.dst σ'.sl)) nk) call (roundF P ex) { C with top := false } Γ [] ops [] o [] (σ.withSl (hide ops sl0 i sl)) nk k
   | some (.inl false) => match o.dst.all (· < C.size) with
    | true => stages P ops sl0 opx ex call C tail k effs (i :: past) (some i) Γ (σ.withSl (putD sl o.dst undefS)) nk
    | false => .bad
   | _ => .bad
structure Mids (P : Program) (ops : Array Oper) (sl0 : Tr SC) (opx : Opx) (ex : Run_) (call : Call_) (C : Cx) (tail : List Item) (k : Kont) (D : Env → SEx → SS → Prop) (E : Env → List Item → SS → Prop) (F : Own)
  (done past effs : List Nat) (early : Nat → Option Nat) (F' : Own) (Γ : Facts) (σ : SS) (sl : Tr SC) (ρ : Env) (a : St) (S : Own) : Prop where
 mid : Midway ops done past effs early
 vals : vals ρ
 facts : Γ.On ρ
 part : Part ρ ops done sl a
 old : Old ρ ops done sl0 a
 fit : Fit C.size F' ρ { σ with sl := .nil } a S
 held : Held P ops ρ F F' early a done effs C.size
 free : ∀ j ∈ effs, isAl ops j = true → ∀ d v, dstIs ops j d = true → sl.look d ≠ some v
 yields : ∀ q ∈ pendAt ops past, Yields P ops sl0 C.size ρ Γ σ.hp sl q
 makes : ∀ q ∈ makesAt ops past, ∃ o e, ops[q]? = some o ∧ symOpF P σ.hp (evC (hide ops sl0 q sl)) o.op = some e
 now : holds D E ρ (stageNow P ops sl0 opx ex call C tail k effs past Γ σ sl ρ.k.length)
section
variable {sl0 : Tr SC} {C : Cx} {tail : List Item} {k : Kont} {F : Own}
theorem Mids.next (hn : nodupB (dsts ops) = true) (ht : textual ops = true) {done past effs : List Nat} {last : Option Nat} {early : Nat → Option Nat} {F' : Own} {Γ : Facts} {σ : SS} {sl : Tr SC} {ρ : Env} {a : St} {S : Own}
  (hm : Midway ops done past effs early) (hv : Mw.vals ρ) (hΓ : Γ.On ρ) (hp : Part ρ ops done sl a) (h0 : Old ρ ops done sl0 a) (hf : Fit C.size F' ρ { σ with sl := .nil } a S) (hh : Held P ops ρ F F' early a done effs C.size)
  (hfree : ∀ j ∈ effs, isAl ops j = true → ∀ d v, dstIs ops j d = true → sl.look d ≠ some v) (hnews : ∀ q ∈ newsAt ops past last, q ∉ done)
  (h : holds D E ρ (stages P ops sl0 opx ex call C tail k effs past last Γ (σ.withSl sl) ρ.k.length)) :
  ∃ sl2, Mids P ops sl0 opx ex call C tail k D E F done past effs early F' Γ σ sl2 ρ a S := by
 unfold stages at h
 obtain ⟨sl2, h1, h2⟩ := guessAll_spec _ _ h
 split at h1
 ·exact h1.elim
 rename_i hmk
 obtain ⟨hy2, h3⟩ := checkAll_spec _ h1
 rw [SS.withSl_eq] at hy2 h2 hmk
 refine ⟨sl2, hm, hv, hΓ, fun d v hd => ?_, h0, hf, hh, fun j hj ha d v hd hl => ?_, hy2, fun q hq => ?_, ?_⟩
 ·rcases h2 d v hd with ⟨q, hq, hqd⟩ | hd
  ·exact .inl ⟨q, hnews q hq, hqd⟩
  ·exact hp d v hd
 ·rcases h2 d v hl with ⟨q, hq, hqd⟩ | hl
  ·have := dst_uniq hn hd hqd
   subst this
   have h4 := (List.mem_filter.1 (List.mem_filter.1 hq).1).2
   simp only [isAl_eff ha, Bool.not_true, Bool.false_and] at h4
   exact Bool.false_ne_true h4
  ·exact hfree j hj ha d v hd hl
 ·have h4 := List.all_eq_true.1 hmk q hq
  split at h4
  ·rename_i o ho
   obtain ⟨e, he⟩ := Option.isSome_iff_exists.1 h4
   exact ⟨o, e, ho, he⟩
  ·cases h4
 ·unfold stageNow
  simp only [SS.withSl_eq] at h3 ⊢
  exact h3
theorem news_later (ht : textual ops = true) {done : List Nat} (hD : Down ops done) {i q : Nat} {past : List Nat} (hnd : i ∉ done) (hq : q ∈ newsAt ops past (some i)) : q ∉ i :: done := by
 intro hx
 have hq2 := (List.mem_filter.1 hq).2
 simp only at hq2
 rcases List.mem_cons.1 hx with rfl | hx
 ·obtain ⟨m, hg, hjj⟩ := ahead_lt ht hq2
  exact absurd (hg q hjj).1 (Nat.lt_irrefl q)
 ·exact hnd (ahead_done ht hq2 hD fun oq hoq x hx' => hD q hx oq hoq x hx')
theorem Mids.settle (hox : OpxOk P main opx) (hn : nodupB (dsts ops) = true) (ht : textual ops = true) (hal : allocsOk P ops C.size = true) : ∀ {effs done past : List Nat} {early : Nat → Option Nat} {F' : Own} {Γ : Facts} {σ : SS} {sl : Tr SC} {ρ : Env} {a : St} {S : Own},
  Mids P ops sl0 opx ex call C tail k D E F done past effs early F' Γ σ sl ρ a S → ∃ past2 effs2 early2 F2 Γ2 σ2 sl2 ρ2, Ext ρ ρ2 ∧ Mids P ops sl0 opx ex call C tail k D E F done past2 effs2 early2 F2 Γ2 σ2 sl2 ρ2 a S ∧ ∀ i l, effs2 = i :: l → early2 i = none
 | [], done, past, early, F', Γ, σ, sl, ρ, a, S, h => ⟨past, [], early, F', Γ, σ, sl, ρ, Ext.refl ρ, h, by simp⟩
 | i :: effs, done, past, early, F', Γ, σ, sl, ρ, a, S, h => by
  cases he : early i with
  | none => exact ⟨past, i :: effs, early, F', Γ, σ, sl, ρ, Ext.refl ρ, h, fun j l e => by cases e; exact he⟩
  | some b =>
   obtain ⟨hid, _, hFb, o, so0, w, d, ho, hmade, hg, hdst, hdlt, hso0, hF'b0, had⟩ := h.held.each i b he
   have hnow := h.now
   simp only [stageNow, ho] at hnow
   have hw : symWanted (hide ops sl0 i sl) ops o = some (.inl true) := by simp only [symWanted, hg]
   rw [hw] at hnow
   simp only at hnow
   obtain ⟨inl0, hal0⟩ := hox.alloc
   have hkind : (∃ t, o.op = .alloc t) ∨ ∃ t n ps, o.op = .buildSlice t n ps := by
    rcases hmade with ⟨t, k1, _⟩ | ⟨t, n, ps, l, k1, _⟩
    ·exact .inl ⟨t, k1⟩
    ·exact .inr ⟨t, n, ps, k1⟩
   rw [hal0 _ _ _ _ _ _ _ _ _ _ _ _ _ hkind] at hnow
   unfold stepOp at hnow
   have hd1 : o.dst.all (· < ({ C with top := false } : Cx).size) = true := by simp [hdst, hdlt]
   have hkey : ∃ so, so.den ρ = so0.den ρ ∧ so.ok ρ.k.length ∧ symOpF P (σ.withSl (hide ops sl0 i sl)).hp (evC (σ.withSl (hide ops sl0 i sl)).sl) o.op = some (.fresh [] so w) := by
    rcases hmade with ⟨t, hop, hsa, rfl⟩ | ⟨t, n, ps, l, hop, hsb, rfl, hlok, hleq⟩
    ·exact ⟨so0, rfl, hso0, by rw [symOpF_eq, hop]; exact hsa⟩
    ·cases hs : symOpF P (σ.withSl (hide ops sl0 i sl)).hp (evC (σ.withSl (hide ops sl0 i sl)).sl) o.op with
     | none =>
      rw [hd1, hs] at hnow
      simp only [hop, stuck_] at hnow
      exact hnow.elim
     | some e =>
      have hs2 := hs
      rw [symOpF_eq, hop] at hs2
      simp only [symOp, SS.withSl_eq] at hs2
      obtain ⟨so, rfl, l', hl'⟩ := sBuildSlice_shape hs2
      rw [hl'] at hs2
      obtain ⟨e1, e2⟩ := evParts_on _ _ (h.part.evOn h.old ht h.mid.hdown (fun oi hoi x hx => h.mid.hdown i hid oi hoi x hx) (allocsOk_bs hal ho hop hg).2) hl'
      exact ⟨so, sBuildSlice_same h.vals (by rw [← e1, hleq]) hs2 hsb, sBuildSlice_ok (S0 := S) h.vals hs2 e2, rfl⟩
   obtain ⟨so, hden, hso, hsym⟩ := hkey
   have hF'b : F'.full b = some (so.den ρ) := by rw [hden]; exact hF'b0
   rw [hd1, hsym] at hnow
   simp only [applyEff, putK_eq, Hp.setK_eq, SS.withSl_eq, SS.withHp_eq, forceN_eq, hdst, putD] at hnow
   obtain ⟨_, hnow⟩ := holds_needs hnow
   have hb := hnow b []
   have hab : ∀ j, j ∈ effs → j ≠ i := fun j hj e => (List.nodup_cons.1 h.mid.hnodup).1 (e ▸ hj)
   let F2 : Own := { F' with full := fun x => if x = b then F.full x else F'.full x }
   have hsat := h.fit.hp.adopt (F := F2) hF'b hso (by show (if b = b then _ else _) = _; rw [if_pos rfl]; exact hFb) (fun x ob hx => by
    have hx' : (if x = b then F.full x else F'.full x) = some ob := hx
    split at hx'
    ·exact h.held.le x ob hx'
    ·exact hx') rfl
   have hEx : Ext ρ (ρ.grow b []) := Ext.grow ρ b []
   have hfit : Fit C.size F2 (ρ.grow b []) { ({ σ with hp := σ.hp.setB ρ.k.length so } : SS) with sl := .nil } a S := by
    have := h.fit.later hEx h.fit.hp.grow
    exact ⟨this.size, this.df, this.dfok, this.cm, this.cmok, fun x v hx => (by rw [Tr.nil_look] at hx; cases hx), hsat⟩
   have hm : Midway ops done (i :: past) effs (fun j => if j = i then none else early j) := {
    hdown := h.mid.hdown
    hpast := fun j hj => by
     rcases List.mem_cons.1 hj with rfl | hj
     ·exact hid
     ·exact h.mid.hpast j hj
    heffs := fun j hj => by
     obtain ⟨k1, k2, k3⟩ := h.mid.heffs j (List.mem_cons_of_mem _ hj)
     simp only [if_neg (hab j hj)]
     exact ⟨k1, k2, k3⟩
    hall := fun j hj hje => by
     rcases h.mid.hall j hj hje with k1 | k1
     ·exact .inl (List.mem_cons_of_mem _ k1)
     ·rcases List.mem_cons.1 k1 with rfl | k1
      ·exact .inl List.mem_cons_self
      ·exact .inr k1
    hchain := (chain_all h.mid.hchain).2
    hplaced := by have := h.mid.hplaced; simp only [placedB, Bool.and_eq_true] at this; exact this.2
    hnodup := (List.nodup_cons.1 h.mid.hnodup).2
    hquiet := fun q hq hqe j hj hje hb => List.mem_cons_of_mem _ (h.mid.hquiet q hq hqe j hj hje hb)
    hdisj := fun j hj hx => by
     rcases List.mem_cons.1 hx with e | hx
     ·exact hab j hj e
     ·exact h.mid.hdisj j (List.mem_cons_of_mem _ hj) hx }
   have hheld : Held P ops (ρ.grow b []) F F2 (fun j => if j = i then none else early j) a done effs C.size := {
    le := fun x ob hx => by
     show (if x = b then F.full x else F'.full x) = some ob
     split
     ·exact hx
     ·exact h.held.le x ob hx
    ro := h.held.ro
    each := fun j bj hj => by
     split at hj
     ·cases hj
     ·rename_i hji
      obtain ⟨k1, k2, k3, o', so', w', d', k4, k5, k6, k7, k8, k10, k11, k12⟩ := h.held.each j bj hj
      have hbne : bj ≠ b := fun e => hji (h.held.inj j i b (e ▸ hj) he)
      refine ⟨k1, ?_, k3, o', so', w', d', k4, k5.later hEx fun _ _ _ _ _ _ => rfl, k6, k7, k8, SO.ok_mono hEx.len k10, ?_, k12⟩
      ·rcases List.mem_cons.1 k2 with e | k2
       ·exact absurd e hji
       ·exact k2
      ·show (if bj = b then F.full bj else F'.full bj) = _
       rw [if_neg hbne, SO.den_ext hEx k10]; exact k11
    inj := fun j j' bj hj hj' => by
     split at hj
     ·cases hj
     ·split at hj'
      ·cases hj'
      ·exact h.held.inj j j' bj hj hj' }
   have hdi : dstIs ops i d = true := dstIs_of ho hdst
   have hpart : Part (ρ.grow b []) ops done (merge sl (some d) ((hide ops sl0 i sl).set d (w.sc ρ.k.length))) a := by
    intro x v hx
    rcases merge_look hx with ⟨e, hl⟩ | ⟨e, hl⟩
    ·cases e
     rcases Tr.look_set hl with ⟨_, rfl⟩ | ⟨k1, _⟩
     ·have hw2 : (w.sc ρ.k.length).ok (ρ.grow b []).k.length ∧ (w.sc ρ.k.length).den (ρ.grow b []) = w.val b := by
       cases w <;> simp [Way.sc, Way.val, SC.ok, SC.oks, SC.den, dens, IE.ok, IE.den]
      exact .inr ⟨hw2.1, by rw [had, hw2.2]⟩
     ·exact absurd rfl k1
    ·rcases h.part x v hl with k1 | ⟨k1, k2⟩
     ·exact .inl k1
     ·exact .inr ⟨SC.ok_mono hEx.len _ k1, by rw [k2, SC.den_ext hEx k1]⟩
   have hold : Old (ρ.grow b []) ops done sl0 a := fun x v hx => by
    rcases h.old x v hx with k1 | ⟨k1, k2⟩
    ·exact .inl k1
    ·exact .inr ⟨SC.ok_mono hEx.len _ k1, by rw [k2, SC.den_ext hEx k1]⟩
   have hfree : ∀ j ∈ effs, isAl ops j = true → ∀ x v, dstIs ops j x = true → (merge sl (some d) ((hide ops sl0 i sl).set d (w.sc ρ.k.length))).look x ≠ some v := by
    intro j hj ha x v hx hl
    rcases merge_look hl with ⟨e, _⟩ | ⟨_, hl⟩
    ·cases e
     exact hab j hj (dst_uniq hn hx hdi)
    ·exact h.free j (List.mem_cons_of_mem _ hj) ha x v hx hl
   have hnews : ∀ q ∈ newsAt ops (i :: past) (some i), q ∉ done := by
    intro q hq hx
    have hq2 := (List.mem_filter.1 hq).2
    have hq3 := (List.mem_filter.1 (List.mem_filter.1 hq).1).2
    simp only at hq2
    have hqe : effAt ops q = false := by
     cases hqe : effAt ops q with
     | false => rfl
     | true => simp [hqe] at hq3
    obtain ⟨_, i2, i3⟩ := h.mid.heffs i List.mem_cons_self
    exact h.mid.hdisj i List.mem_cons_self (h.mid.hquiet q hx hqe i i2 i3 hq2)
   have hb2 : holds D E (ρ.grow b []) (stages P ops sl0 opx ex call C tail k effs (i :: past) (some i) Γ (({ σ with hp := σ.hp.setB ρ.k.length so } : SS).withSl (merge sl (some d) ((hide ops sl0 i sl).set d (w.sc ρ.k.length)))) (ρ.grow b []).k.length) := by
    rw [len_grow]
    rw [SS.withSl_eq]
    exact hb
   obtain ⟨sl2, hM⟩ := Mids.next hn ht hm (vals_ext hEx h.vals) (h.facts.grow b []) hpart hold hfit hheld hfree hnews hb2
   obtain ⟨past3, effs3, early3, F3, Γ3, σ3, sl3, ρ3, he3, hM3, hs3⟩ := Mids.settle hox hn ht hal hM
   exact ⟨past3, effs3, early3, F3, Γ3, σ3, sl3, ρ3, hEx.trans he3, hM3, hs3⟩
end
theorem stages_sound {sl0 : Tr SC} (hox : OpxOk P main opx) (hex : SoundEx P main ex) (hcall : SoundCall P main call) (ht : textual ops = true) (hn : nodupB (dsts ops) = true) {C : Cx} (hal : allocsOk P ops C.size = true) {r : Ctx} {tail : List Item} {k : Kont} {Q : Ex → St → Own → Prop} {F : Own} :
  ∀ (s done past effs : List Nat) (early : Nat → Option Nat) (F' : Own) (Γ : Facts) (σ : SS) (sl : Tr SC) (ρ : Env) (a : St) (S : Own), Sched ops done s → CtxOk C r ρ → KOk D E C.size F ρ k Q → EOk P main E C r F ρ Q →
   Mids P ops sl0 opx ex call C tail k D E F done past effs early F' Γ σ sl ρ a S → (∀ i l, effs = i :: l → early i = none) → wpI P main r (.inRegion ops s :: tail) Q a S := by
 intro s
 induction s with
 | nil =>
  intro done past effs early F' Γ σ sl ρ a S hs hr hK hE M hset
  cases hs with
  | nil hall =>
   cases effs with
   | cons i effs =>
    obtain ⟨h1, h2, _⟩ := M.mid.heffs i List.mem_cons_self
    rcases h1 with h1 | h1
    ·exact absurd (hall i h2) h1
    ·rw [hset i effs rfl] at h1; cases h1
   | nil =>
    refine wpI_move (fun b k cs w => stepG_region_end) (hex D E C r Γ _ _ _ k ρ Q F hr M.vals M.facts rfl hK hE M.now a S ?_)
    rw [SS.withSl_eq]
    refine (M.fit.weaken M.held.le M.held.ro).withSl fun d v hd => ?_
    rcases M.part d v hd with ⟨j, hj, hjd⟩ | h
    ·obtain ⟨o, ho, _⟩ := dstIs_iff hjd
     exact absurd (hall j (getOp_lt ho)) hj
    ·exact h
 | cons i s ih =>
  intro done past effs early F' Γ σ sl ρ a S hs hr hK hE M hset
  cases hs with
  | cons ho hnd hpr hs =>
   rename_i o
   have hm := M.mid
   have hilt := getOp_lt ho
   have hdown' : Down ops (i :: done) := by
    intro x hx ox hox j hj
    rcases List.mem_cons.1 hx with rfl | hx
    ·rw [ho] at hox; cases hox; exact List.mem_cons_of_mem _ (hpr j hj)
    ·exact List.mem_cons_of_mem _ (hm.hdown x hx ox hox j hj)
   have hpreds : ∀ o', ops[i]? = some o' → ∀ x ∈ predsOf o', x ∈ done := fun o' ho' x hx => by rw [ho] at ho'; cases ho'; exact hpr x hx
   have hkn := M.part.seen M.old ht hm.hdown hnd hpreds
   have hfh : Fit C.size F' ρ { σ with sl := hide ops sl0 i sl } a S := M.fit.withSl hkn
   have hnear : early i = none := by
    cases he : early i with
    | none => rfl
    | some b => exact absurd (M.held.each i b he).1 hnd
   have head : ∀ h l, effs = h :: l → h ∉ done := fun h l e => by
    rcases (hm.heffs h (by rw [e]; exact List.mem_cons_self)).1 with k1 | k1
    ·exact k1
    ·rw [hset h l e] at k1; cases k1
   have heldPut : ∀ (w : Value) (effs' : List Nat), (∀ j, j ∈ effs → (early j).isSome = true → j ∈ effs') → Held P ops ρ F F' early (a.put o.dst w) (i :: done) effs' C.size := fun w effs' hin => {
    le := M.held.le
    ro := M.held.ro
    each := fun j bj hj => by
     obtain ⟨k1, k2, k3, o', so', w', d', k4, k5, k6, k7, k8, k10, k11, k12⟩ := M.held.each j bj hj
     refine ⟨List.mem_cons_of_mem _ k1, hin j k2 (by rw [hj]; rfl), k3, o', so', w', d', k4, k5.later (Ext.refl ρ) fun t n ps hop x hx => eval_put fun tt hxt e => ?_, k6, k7, k8, k10, k11, ?_⟩
     ·exact hnd (ahead_done ht (seen_of ((allocsOk_bs hal k4 hop k6).2 x hx tt hxt) (dstIs_of ho e)) hm.hdown fun oj hoj y hy => hm.hdown j k1 oj hoj y hy)
     have hne : o.dst ≠ some d' := fun e => by
      have := dst_uniq hn (dstIs_of ho e) (dstIs_of k4 k7)
      subst this
      rw [hnear] at hj; cases hj
     rw [put_other hne]; exact k12
    inj := M.held.inj }
   have hpast0 : (effAt ops i && !isBs ops i) = false → ∀ j, j < ops.size → effAt ops j = true → (ahead ops i).testBit j = true → j ∈ past := fun heff j hj hje hb => by
     have hjd := ahead_done ht hb hm.hdown hpreds
     rcases hm.hall j hj hje with h | h
     ·exact h
     ·cases effs with
      | nil => cases h
      | cons hd l =>
       rcases List.mem_cons.1 h with rfl | h
       ·exact absurd hjd (head _ _ rfl)
       ·rcases (hm.heffs j (List.mem_cons_of_mem _ h)).1 with k1 | k1
        ·exact absurd hjd k1
        ·obtain ⟨bj, hbj⟩ := Option.isSome_iff_exists.1 k1
         obtain ⟨_, _, _, o', _, _, _, k4, k5, k6, _⟩ := M.held.each j bj hbj
         have ha : isAl ops j = true := k5.isAl k4 k6
         have hpl := hm.hplaced
         simp only [placedB, Bool.and_eq_true] at hpl
         have := placed_mem hilt heff ha hb hpl.2 h hd List.mem_cons_self
         exact absurd (ahead_done ht this hm.hdown hpreds) (head _ _ rfl)
   cases heff : effAt ops i with
   | false =>
    have hpast := hpast0 (by simp [heff])
    have hq : i ∈ pendAt ops past := pend_of hilt heff hpast (fun j hj => by
     cases hb : (ahead ops j).testBit i with
     | false => rfl
     | true =>
      have hjd := hm.hpast j hj
      exact absurd (ahead_done ht hb hm.hdown fun oj hoj x hx => hm.hdown j hjd oj hoj x hx) hnd)
    obtain ⟨o', ho', hd, hyy⟩ := M.yields i hq
    rw [ho] at ho'; cases ho'
    have hm' : Midway ops (i :: done) past effs early := ⟨hdown', fun j hj => List.mem_cons_of_mem _ (hm.hpast j hj), fun j hj => by
     obtain ⟨h1, h2, h3⟩ := hm.heffs j hj
     refine ⟨?_, h2, h3⟩
     rcases h1 with h1 | h1
     ·refine .inl fun hx => ?_
      rcases List.mem_cons.1 hx with rfl | hx
      ·rw [heff] at h3; cases h3
      ·exact h1 hx
     ·exact .inr h1, hm.hall, hm.hchain, hm.hplaced, hm.hnodup, fun q hq hqe j hj hje hb => by
     rcases List.mem_cons.1 hq with rfl | hq
     ·exact hpast j hj hje hb
     ·exact hm.hquiet q hq hqe j hj hje hb, hm.hdisj⟩
    have next : ∀ v : SC, v.ok ρ.k.length → agrees sl o.dst v = true → wpI P main r (.inRegion ops s :: tail) Q (a.put o.dst (v.den ρ)) S := by
     intro v hok hag
     refine ih (i :: done) past effs early F' Γ σ sl ρ _ S hs hr hK hE ⟨hm', M.vals, M.facts, ?_, M.old.put (Ext.refl ρ) ho rfl, ?_, heldPut _ effs (fun j hj _ => hj), M.free, M.yields, M.makes, M.now⟩ hset
     ·intro d v' hd'
      by_cases e : o.dst = some d
      ·rw [e] at hag hd ⊢
       have hlt : d < C.size := by simpa using hd
       have := agrees_eq hag hd'
       subst this
       exact .inr ⟨hok, put_same (by rw [M.fit.size]; exact hlt)⟩
      ·rcases M.part d v' hd' with ⟨j, hj, hjd⟩ | ⟨h1, h2⟩
       ·refine .inl ⟨j, fun hx => ?_, hjd⟩
        rcases List.mem_cons.1 hx with rfl | hx
        ·obtain ⟨oj, hoj, hdj⟩ := dstIs_iff hjd
         rw [ho] at hoj; cases hoj
         exact e hdj
        ·exact hj hx
       ·exact .inr ⟨h1, by rw [put_other e]; exact h2⟩
     ·exact (M.fit.put (dst := o.dst) (v := v) hd hok).withSl fun d v hd => by rw [Tr.nil_look] at hd; cases hd
    rcases hyy with ⟨hw, ns, v, hsy, hns, hag⟩ | ⟨hw, hag⟩
    ·rw [symOpF_eq] at hsy
     haveI : Loud S := hfh.hp.loud
     obtain ⟨hrun, hok⟩ := symOp_good (S0 := S) M.vals hfh.hp (evC_ok hkn) hsy
     refine wpI_op ho (symWanted_inl hkn hw) (plain_of_sym (by rw [hsy]; rfl)) ?_
     refine hrun (toShow_ok M.facts hns) _ ?_
     rw [SC.nrmF_eq] at hag
     show wpI _ _ _ _ _ _ _
     rw [← SC.nrm_den M.facts v]
     exact next _ (SC.nrm_ok hok) hag
    ·refine wpI_unwanted ho (symWanted_inl hkn hw) ?_
     exact next undefS trivial hag
   | true =>
    have hin : i ∈ effs := by
     rcases hm.hall i hilt heff with h | h
     ·exact absurd (hm.hpast i h) hnd
     ·exact h
    cases effs with
    | nil => cases hin
    | cons i' effs =>
     by_cases hii : i = i'
     ·
      subst hii
      have hab : ∀ j, j ∈ effs → j ≠ i := fun j hj e => (List.nodup_cons.1 hm.hnodup).1 (e ▸ hj)
      have hm' : Midway ops (i :: done) (i :: past) effs early := ⟨hdown', fun j hj => by
       rcases List.mem_cons.1 hj with rfl | hj
       ·exact List.mem_cons_self
       ·exact List.mem_cons_of_mem _ (hm.hpast j hj), fun j hj => by
       obtain ⟨h1, h2, h3⟩ := hm.heffs j (List.mem_cons_of_mem _ hj)
       refine ⟨?_, h2, h3⟩
       rcases h1 with h1 | h1
       ·refine .inl fun hx => ?_
        rcases List.mem_cons.1 hx with e | hx
        ·exact hab j hj e
        ·exact h1 hx
       ·exact .inr h1, fun j hj hje => by
       rcases hm.hall j hj hje with h | h
       ·exact .inl (List.mem_cons_of_mem _ h)
       ·rcases List.mem_cons.1 h with rfl | h
        ·exact .inl List.mem_cons_self
        ·exact .inr h, (chain_all hm.hchain).2, by have := hm.hplaced; simp only [placedB, Bool.and_eq_true] at this; exact this.2, (List.nodup_cons.1 hm.hnodup).2, fun q hq hqe j hj hje hb => by
       rcases List.mem_cons.1 hq with rfl | hq
       ·rw [heff] at hqe; cases hqe
       ·exact List.mem_cons_of_mem _ (hm.hquiet q hq hqe j hj hje hb), fun j hj hx => by
       rcases List.mem_cons.1 hx with e | hx
       ·exact hab j hj e
       ·exact hm.hdisj j (List.mem_cons_of_mem _ hj) hx⟩
      have hKw : KOk D E C.size F' ρ k Q := fun ρ' e σ' Γ' he hΓ' hok hh a' S' hf' => hK ρ' e σ' Γ' he hΓ' hok hh a' S' (hf'.weaken M.held.le M.held.ro)
      have go : ∀ ρ' Γ' (σ' : SS) a' S' sl' w, Ext ρ ρ' → vals ρ' → Γ'.On ρ' → Fit C.size F' ρ' { σ' with sl := .nil } a' S' → Part ρ' ops (i :: done) sl' a' → Old ρ' ops (i :: done) sl0 a' → a'.tmps = (a.put o.dst w).tmps →
        (∀ j ∈ effs, isAl ops j = true → ∀ d v, dstIs ops j d = true → sl'.look d ≠ some v) →
        holds D E ρ' (stages P ops sl0 opx ex call C tail k effs (i :: past) (some i) Γ' (σ'.withSl sl') ρ'.k.length) → wpI P main r (.inRegion ops s :: tail) Q a' S' := by
       intro ρ' Γ' σ' a' S' sl' w he hv' hΓ' hf' hp' ho' haw hfree hh
       have hheld : Held P ops ρ' F F' early a' (i :: done) effs C.size := by
        have h0 := heldPut w effs (fun j hj hje => by
         rcases List.mem_cons.1 hj with rfl | hj
         ·rw [hnear] at hje; cases hje
         ·exact hj)
        exact ⟨h0.le, h0.ro, fun j bj hj => by
         obtain ⟨k1, k2, k3, o', so', w', d', k4, k5, k6, k7, k8, k10, k11, k12⟩ := h0.each j bj hj
         exact ⟨k1, k2, k3, o', so', w', d', k4, k5.later he fun _ _ _ _ x _ => eval_tmps haw x.2, k6, k7, k8, SO.ok_mono he.len k10, by rw [SO.den_ext he k10]; exact k11, by rw [haw]; exact k12⟩, h0.inj⟩
       obtain ⟨sl2, hM⟩ := Mids.next hn ht hm' hv' hΓ' hp' ho' hf' hheld hfree (fun q hq => news_later ht hm.hdown hnd hq) hh
       obtain ⟨past3, effs3, early3, F3, Γ3, σ3, sl3, ρ3, he3, hM3, hs3⟩ := Mids.settle hox hn ht hal hM
       exact ih (i :: done) past3 effs3 early3 F3 Γ3 σ3 sl3 ρ3 a' S' hs (hr.later (he.trans he3)) (hK.later (he.trans he3)) (hE.later (he.trans he3)) hM3 hs3
      have h := M.now
      simp only [stageNow, ho] at h
      split at h
      ·rename_i hw
       rw [SS.withSl_eq] at h
       refine hox.good D E _ _ _ (roundF_sound hex) hcall { C with top := false } _ _ _ _ _ _ _ _ _ _ _ _ _ _ _ ⟨hr.dfr, hr.round, hr.low, hr.fn⟩ M.vals M.facts hKw ho h hfh (symWanted_inl hkn hw) (fun ht' hb => by subst ht'; exact hb.elim) ?_
       rintro ρ' Γ' σ' a' S' he hv' hΓ' hf' ⟨w, hw'⟩ hh
       refine go ρ' Γ' σ' a' S' _ w he hv' hΓ' (hf'.withSl fun d v hd => by rw [Tr.nil_look] at hd; cases hd) ?_ (M.old.put he ho hw') hw' ?_ hh
       ·intro d v hd
        rcases merge_look hd with ⟨e, hl⟩ | ⟨e, hl⟩
        ·exact .inr (hf'.sl d v hl)
        ·rcases M.part d v hl with ⟨j, hj, hjd⟩ | ⟨h1, h2⟩
         ·refine .inl ⟨j, fun hx => ?_, hjd⟩
          rcases List.mem_cons.1 hx with rfl | hx
          ·obtain ⟨oj, hoj, hdj⟩ := dstIs_iff hjd
           rw [ho] at hoj; cases hoj
           exact e hdj
          ·exact hj hx
         ·refine .inr ⟨SC.ok_mono he.len _ h1, ?_⟩
          rw [hw', put_other e, h2, SC.den_ext he h1]
       ·intro j hj ha d v hjd hl
        rcases merge_look hl with ⟨e, _⟩ | ⟨_, hl⟩
        ·exact hab j hj (dst_uniq hn hjd (dstIs_of ho e))
        ·exact M.free j (List.mem_cons_of_mem _ hj) ha d v hjd hl
      ·rename_i hw
       split at h
       ·rename_i hd
        refine wpI_unwanted ho (symWanted_inl hkn hw) ?_
        refine go ρ Γ σ _ S _ undef (Ext.refl ρ) M.vals M.facts ((M.fit.put (dst := o.dst) (v := undefS) hd trivial).withSl fun d v hd => by rw [Tr.nil_look] at hd; cases hd) ?_ (M.old.put (w := undef) (Ext.refl ρ) ho rfl) rfl ?_ h
        ·intro d v hdv
         by_cases e : o.dst = some d
         ·rw [e] at hdv hd ⊢
          simp only [putD] at hdv
          rcases Tr.look_set hdv with ⟨_, rfl⟩ | ⟨h1, _⟩
          ·have hlt : d < C.size := by simpa using hd
           exact .inr ⟨trivial, put_same (by rw [M.fit.size]; exact hlt)⟩
          ·exact absurd rfl h1
         ·have hl : sl.look d = some v := by
           cases hdst : o.dst with
           | none => rw [hdst] at hdv; exact hdv
           | some t =>
            rw [hdst] at hdv e
            rcases Tr.look_set hdv with ⟨h1, _⟩ | ⟨_, h1⟩
            ·exact absurd (by rw [h1]) e
            ·exact h1
          rcases M.part d v hl with ⟨j, hj, hjd⟩ | ⟨h1, h2⟩
          ·refine .inl ⟨j, fun hx => ?_, hjd⟩
           rcases List.mem_cons.1 hx with rfl | hx
           ·obtain ⟨oj, hoj, hdj⟩ := dstIs_iff hjd
            rw [ho] at hoj; cases hoj
            exact e hdj
           ·exact hj hx
          ·exact .inr ⟨h1, by rw [put_other e]; exact h2⟩
        ·intro j hj ha d v hjd hl
         cases hdst : o.dst with
         | none => rw [hdst] at hl; exact M.free j (List.mem_cons_of_mem _ hj) ha d v hjd hl
         | some t =>
          rw [hdst] at hl
          rcases Tr.look_set hl with ⟨h1, _⟩ | ⟨_, h1⟩
          ·subst h1
           exact hab j hj (dst_uniq hn hjd (dstIs_of ho hdst))
          ·exact M.free j (List.mem_cons_of_mem _ hj) ha d v hjd h1
       ·exact h.elim
      ·exact h.elim
     ·
      have hin' : i ∈ effs := by
       rcases List.mem_cons.1 hin with h | h
       ·exact absurd h hii
       ·exact h
      have ha : isAl ops i = true := by
       cases ha : isAl ops i with
       | true => rfl
       | false => exact absurd (ahead_done ht ((chain_all hm.hchain).1 i hin' ha) hm.hdown hpreds) (head i' effs rfl)
      obtain ⟨o', ho', hkind⟩ := isAl_iff ha
      rw [ho] at ho'; cases ho'
      haveI : Loud S := M.fit.hp.loud
      have hkey : ∃ so w d, o.guard = none ∧ o.dst = some d ∧ d < C.size ∧ plainOp r.round o = true ∧ so.ok ρ.k.length ∧ (∀ K : Except Value Next → Own → Prop, (∀ b, S.full b = none → S.ro b = none → K (.ok (.value (w.val b))) (S.set b (so.den ρ))) → Run P S (execOp a.eval o) S K) ∧ ∀ v, Made P ρ (a.put o.dst v) o so w := by
       rcases hkind with ⟨t, hop⟩ | ⟨hg, t, n, ps, hop⟩
       ·obtain ⟨hg, ⟨d, hdst, hdlt⟩, so, hsa⟩ := allocsOk_at hal ho hop
        obtain ⟨hrun, hso⟩ := sAlloc_good (S0 := S) (ρ := ρ) (hp := σ.hp) (ev' := a.eval) hop M.vals hsa
        exact ⟨so, .ptr, d, hg, hdst, hdlt, by unfold plainOp; rw [hop]; simp, hso, fun K hK => hrun (by simp [allTrue]) K hK, fun v => .inl ⟨t, hop, hsa, rfl⟩⟩
       ·obtain ⟨⟨d, hdst, hdlt⟩, hseen⟩ := allocsOk_bs hal ho hop hg
        have hbs := isBs_of ho hop hg
        have hp0 := hpast0 (by simp [hbs])
        have hmk : i ∈ makesAt ops past := by
         refine List.mem_filter.2 ⟨List.mem_filter.2 ⟨List.mem_range.2 hilt, hbs⟩, ?_⟩
         simp only [Bool.and_eq_true]
         refine ⟨by simpa using hm.hdisj i hin, List.all_eq_true.2 fun j hj => ?_⟩
         cases h3 : effAt ops j with
         | false => rfl
         | true =>
          cases h4 : (ahead ops i).testBit j with
          | false => rfl
          | true => simpa using hp0 j (List.mem_range.1 hj) h3 h4
        obtain ⟨o2, e, ho2, hs⟩ := M.makes i hmk
        rw [ho] at ho2; cases ho2
        rw [symOpF_eq, hop] at hs
        simp only [symOp] at hs
        obtain ⟨so, rfl, l, hl⟩ := sBuildSlice_shape hs
        obtain ⟨hrun, hso⟩ := sBuildSlice_good (S0 := S) (ρ := ρ) (S := S) (hp := σ.hp) (ev' := a.eval) hop M.vals (evC_ok hkn) hs
        obtain ⟨e1, e2⟩ := evParts_den (evC_ok hkn) _ _ hl
        rw [hl] at hs
        refine ⟨so, .slice n n, d, hg, hdst, hdlt, by unfold plainOp; rw [hop]; simp, hso, fun K hK => hrun (by simp [allTrue]) K hK, fun v => ?_⟩
        refine Made.later (a := a) (.inr ⟨t, n, ps, l, hop, hs, rfl, e2, e1⟩) (Ext.refl ρ) fun t' n' ps' hop' x hx => eval_put fun tt hxt e => ?_
        rw [hop] at hop'; cases hop'
        obtain ⟨m, g, b⟩ := ahead_lt ht (seen_of (hseen x hx tt hxt) (dstIs_of ho e))
        exact absurd (g i b).1 (Nat.lt_irrefl i)
      obtain ⟨so, w, d, hg, hdst, hdlt, hpl, hso, hrun, hmade⟩ := hkey
      refine wpI_op ho (by simp [Region.wanted, hg]) hpl ?_
      refine hrun _ fun b hb1 hb2 => ?_
      show wpI P main r (.inRegion ops s :: tail) Q (a.put o.dst (w.val b)) (S.set b (so.den ρ))
      have hFb : F.full b = none := by
       cases hf : F.full b with
       | none => rfl
       | some x => rw [M.fit.hp.frm b x (M.held.le b x hf)] at hb1; cases hb1
      have hdi : dstIs ops i d = true := dstIs_of ho hdst
      refine ih (i :: done) past (i' :: effs) (fun j => if j = i then some b else early j) (F'.set b (so.den ρ)) Γ σ sl ρ _ _ hs hr hK hE ⟨?_, M.vals, M.facts, ?_, M.old.put (Ext.refl ρ) ho rfl, ?_, ?_, M.free, M.yields, M.makes, M.now⟩ ?_
      ·exact ⟨hdown', fun j hj => List.mem_cons_of_mem _ (hm.hpast j hj), fun j hj => by
        obtain ⟨h1, h2, h3⟩ := hm.heffs j hj
        refine ⟨?_, h2, h3⟩
        by_cases hji : j = i
        ·exact .inr (by simp [hji])
        ·simp only [if_neg hji]
         rcases h1 with h1 | h1
         ·refine .inl fun hx => ?_
          rcases List.mem_cons.1 hx with e | hx
          ·exact hji e
          ·exact h1 hx
         ·exact .inr h1, hm.hall, hm.hchain, hm.hplaced, hm.hnodup, fun q hq hqe j hj hje hb => by
        rcases List.mem_cons.1 hq with rfl | hq
        ·rw [heff] at hqe; cases hqe
        ·exact hm.hquiet q hq hqe j hj hje hb, hm.hdisj⟩
      ·intro x v hx
       have hne : d ≠ x := fun e => M.free i hin ha x v (e ▸ hdi) hx
       rcases M.part x v hx with ⟨j, hj, hjd⟩ | ⟨h1, h2⟩
       ·refine .inl ⟨j, fun hx' => ?_, hjd⟩
        rcases List.mem_cons.1 hx' with rfl | hx'
        ·exact M.free j hin ha x v hjd hx
        ·exact hj hx'
       ·exact .inr ⟨h1, by rw [put_other (by rw [hdst]; exact fun e => hne (Option.some.inj e))]; exact h2⟩
      ·have hsat := M.fit.hp.aside (o := so.den ρ) hb1 hb2
       refine ⟨?_, by rw [St.put_defers]; exact M.fit.df, M.fit.dfok, by rw [St.put_cm]; exact M.fit.cm, M.fit.cmok, fun x v hx => (by rw [Tr.nil_look] at hx; cases hx), hsat⟩
       have := M.fit.size
       cases hd' : o.dst <;> simp [St.put, this]
      ·refine ⟨fun x ob hx => ?_, M.held.ro, fun j bj hj => ?_, fun j j' bj hj hj' => ?_⟩
       ·rw [Own.set_full, if_neg (fun e => by rw [e, hFb] at hx; cases hx)]; exact M.held.le x ob hx
       ·split at hj
        ·rename_i e; subst e
         cases hj
         exact ⟨List.mem_cons_self, hin, hFb, o, so, w, d, ho, hmade _, hg, hdst, hdlt, hso, by simp, by rw [hdst]; exact put_same (by rw [M.fit.size]; exact hdlt)⟩
        ·rename_i hji
         have h0 := heldPut (w.val b) (i' :: effs) (fun j hj _ => hj)
         obtain ⟨k1, k2, k3, o', so', w', d', k4, k5, k6, k7, k8, k10, k11, k12⟩ := h0.each j bj hj
         refine ⟨k1, k2, k3, o', so', w', d', k4, k5, k6, k7, k8, k10, ?_, k12⟩
         rw [Own.set_full, if_neg (fun e => by have := M.fit.hp.frm bj _ k11; rw [e, hb1] at this; cases this)]; exact k11
       ·have hno : ∀ x, early x = some b → False := fun x hx => by
         obtain ⟨_, _, _, _, _, _, _, _, _, _, _, _, _, k11, _⟩ := M.held.each x b hx
         rw [M.fit.hp.frm b _ k11] at hb1; cases hb1
        split at hj <;> split at hj'
        ·rename_i e e'; rw [e, e']
        ·cases hj; exact (hno _ hj').elim
        ·cases hj'; exact (hno _ hj).elim
        ·exact M.held.inj j j' bj hj hj'
      ·intro h l e
       cases e
       simp only [if_neg (fun e : i' = i => hii e.symm)]
       exact hset i' effs rfl
theorem wpI_draw {r : Ctx} {a : St} {S : Own} {Q : Ex → St → Own → Prop} {id : Nat} {items : List Item} (h : ∀ t, wpI P main r (.inRegion ops (Region.schedule (P.follows .mixedOrders) ops t) :: items) Q a S) : wpI P main r (.code (.region id ops true) :: items) Q a S :=
 fun Stop b k cs hb hc => .one rfl fun w hw => ⟨_, _, _, S, stepG_region_draw, (Mv.Mid.refl hw).drew _, by simp, h _ Stop b k cs hb hc⟩
theorem openX_sound (hox : OpxOk P main opx) (hex : SoundEx P main ex) (hcall : SoundCall P main call) {C : Cx} {Γ : Facts} {tail : List Item} {id : Nat} {σ : SS} {k : Kont} {ρ : Env} {Q : Ex → St → Own → Prop} {F : Own}
  {r : Ctx} (hr : CtxOk C r ρ) (hv : vals ρ) (hΓ : Γ.On ρ) (hK : KOk D E C.size F ρ k Q) (hE : EOk P main E C r F ρ Q) (h : holds D E ρ (openX P ops opx ex call C Γ (.code (.region id ops true) :: tail) tail σ ρ.k.length k)) {a : St} {S : Own} (hf : Fit C.size F ρ σ a S) : wpI P main r (.code (.region id ops true) :: tail) Q a S := by
 unfold openX at h
 split at h
 ·rename_i hok
  split at h
  ·rename_i hal
   simp only [openOk, Bool.and_eq_true] at hok
   obtain ⟨⟨⟨⟨⟨hrg, ht⟩, hn⟩, _⟩, hc⟩, hpl⟩ := hok
   refine wpI_draw fun t => ?_
   have hm : Midway ops [] [] (effsOf ops) (fun _ => none) := ⟨fun i hi => by simp at hi, fun j hj => by simp at hj, fun j hj => by
    obtain ⟨h4, h5⟩ := effsOf_mem.1 hj
    exact ⟨.inl (by simp), h4, h5⟩, fun j hj hje => .inr (effsOf_mem.2 ⟨hj, hje⟩), hc, hpl, effsOf_nodup, fun q hq => by simp at hq, fun j _ hx => by simp at hx⟩
   have hdl : ∀ d v, (dropA ops ((List.range ops.size).filter (isAl ops)) σ.sl).look d = some v → σ.sl.look d = some v := fun d v hd => (dropA_look _ _ hd).1
   obtain ⟨sl2, hM⟩ := Mids.next (sl0 := σ.sl) (C := C) (F := F) (F' := F) (a := a) (S := S) hn ht hm hv hΓ (fun d v hd => .inr (hf.sl d v (hdl d v hd))) (fun d v hd => .inr (hf.sl d v hd)) (hf.withSl fun d v hd => by rw [Tr.nil_look] at hd; cases hd)
    ⟨fun _ _ h => h, rfl, fun i b hb => (by cases hb), fun i j b hb => (by cases hb)⟩ (fun j hj ha d v hjd hl => by
     have := (dropA_look _ _ hl).2 j (List.mem_filter.2 ⟨List.mem_range.2 (effsOf_mem.1 hj).1, ha⟩)
     rw [this] at hjd; cases hjd) (fun q _ hx => by simp at hx) h
   exact stages_sound hox hex hcall ht hn hal _ [] [] (effsOf ops) (fun _ => none) F Γ σ sl2 ρ a S (sched_schedule hrg t) hr hK hE hM (fun _ _ _ => rfl)
  ·exact stuck_ok hE h hf
 ·exact stuck_ok hE h hf
def stepY (P : Program) (inl : FuncId → Bool) (ex : Run_) (call : Call_) (C : Cx) (Γ : Facts) (items : List Item) (σ : SS) (nk : Nat) (k : Kont) : Tree := match items with
 | .code (.region _ ops true) :: tail => openR P ops inl ex call C Γ items tail σ nk k
 | _ => stepX P inl ex call C Γ items σ nk k
theorem stepY_sound (hex : SoundEx P main ex) (hcall : SoundCall P main call) : SoundEx P main (stepY P inl ex call) := by
 intro D E C r Γ items σ nk k ρ Q F hr hv hΓ hk hK hE h a S hf
 subst hk
 unfold stepY at h
 split at h
 ·exact openX_sound stepOp_ok hex hcall hr hv hΓ hK hE h hf
 ·exact stepX_sound hex hcall D E C r Γ _ σ _ k ρ Q F hr hv hΓ rfl hK hE h a S hf
end
section
variable {P : Program} {main : Co}
end
end Mw
set_option linter.unusedVariables false
namespace Mw
open Go Mv
def mvN (a d i : Nat) : Nat := match Nat.blt i a with
 | true => i
 | false => i + d
def IE.mv (a d : Nat) : IE → IE
 | .lit n => .lit n
 | .var i => .var i
 | .add x y => .add (x.mv a d) (y.mv a d)
 | .sub x y => .sub (x.mv a d) (y.mv a d)
 | .mul x y => .mul (x.mv a d) (y.mv a d)
 | .quo x y => .quo (x.mv a d) (y.mv a d)
 | .rem x y => .rem (x.mv a d) (y.mv a d)
 | .bits op k x y => .bits op k (x.mv a d) (y.mv a d)
 | .shl k x y => .shl k (x.mv a d) (y.mv a d)
 | .shr k x y => .shr k (x.mv a d) (y.mv a d)
 | .min x y => .min (x.mv a d) (y.mv a d)
 | .max x y => .max (x.mv a d) (y.mv a d)
 | .wrap k x => .wrap k (x.mv a d)
 | .nth l x => .nth l (x.mv a d)
 | .len l => .len l
 | .room b s => .room (mvN a d b) s
def BE.mv (a d : Nat) : BE → BE
 | .lit b => .lit b
 | .var i => .var i
 | .lt x y => .lt (x.mv a d) (y.mv a d)
 | .le x y => .le (x.mv a d) (y.mv a d)
 | .eq x y => .eq (x.mv a d) (y.mv a d)
 | .not x => .not (x.mv a d)
 | .pick c x y => .pick (c.mv a d) (x.mv a d) (y.mv a d)
mutual
def SC.mv (a d : Nat) : SC → SC
 | .any i => .any i
 | .int k e => .int k (e.mv a d)
 | .bool b => .bool (b.mv a d)
 | .lit v => .lit v
 | .ptr b off => .ptr (mvN a d b) (off.mv a d)
 | .slice b off len cap => .slice (mvN a d b) (off.mv a d) (len.mv a d) (cap.mv a d)
 | .ref b => .ref (mvN a d b)
 | .fn f first caps => .fn f (mvs a d first) (mvs a d caps)
 | .yield l => .yield (mvN a d l)
 | .iface t x => .iface t (SC.mv a d x)
 | .agg l => .agg (mvs a d l)
 | .tup l => .tup (mvs a d l)
 | .chn b => .chn (mvN a d b)
def mvs (a d : Nat) : List SC → List SC
 | [] => []
 | x :: l => SC.mv a d x :: mvs a d l
end
def SO.mv (a d : Nat) : SO → Option SO
 | .cells l e => some (.cells (mvs a d l) e)
 | .row l e r => some (.row (mvs a d l) e (mvN a d r))
 | _ => none
structure Moved (a d : Nat) (ρ ρ' : Env) : Prop where
 i : ρ'.i = ρ.i
 b : ρ'.b = ρ.b
 v : ρ'.v = ρ.v
 l : ρ'.l = ρ.l
 k : ∀ i, i < ρ.k.length → ρ'.k.getD (mvN a d i) (0, []) = ρ.k.getD i (0, [])
section
variable {a d : Nat} {ρ ρ' : Env}
theorem Moved.blk (h : Moved a d ρ ρ') {i : Nat} (hi : i < ρ.k.length) : ρ'.blk (mvN a d i) = ρ.blk i := by unfold Env.blk; rw [h.k i hi]
theorem Moved.rest (h : Moved a d ρ ρ') {i : Nat} (hi : i < ρ.k.length) : ρ'.rest (mvN a d i) = ρ.rest i := by unfold Env.rest; rw [h.k i hi]
theorem IE.den_mv (h : Moved a d ρ ρ') : ∀ (x : IE), x.ok ρ.k.length → (x.mv a d).den ρ' = x.den ρ
 | .lit _, _ => rfl
 | .var i, _ => by simp only [IE.mv, IE.den, Env.int, h.i]
 | .add x y, hk => by simp only [IE.mv, IE.den, IE.den_mv h x hk.1, IE.den_mv h y hk.2]
 | .sub x y, hk => by simp only [IE.mv, IE.den, IE.den_mv h x hk.1, IE.den_mv h y hk.2]
 | .mul x y, hk => by simp only [IE.mv, IE.den, IE.den_mv h x hk.1, IE.den_mv h y hk.2]
 | .quo x y, hk => by simp only [IE.mv, IE.den, IE.den_mv h x hk.1, IE.den_mv h y hk.2]
 | .rem x y, hk => by simp only [IE.mv, IE.den, IE.den_mv h x hk.1, IE.den_mv h y hk.2]
 | .bits _ _ x y, hk => by simp only [IE.mv, IE.den, IE.den_mv h x hk.1, IE.den_mv h y hk.2]
 | .shl _ x y, hk => by simp only [IE.mv, IE.den, IE.den_mv h x hk.1, IE.den_mv h y hk.2]
 | .shr _ x y, hk => by simp only [IE.mv, IE.den, IE.den_mv h x hk.1, IE.den_mv h y hk.2]
 | .min x y, hk => by simp only [IE.mv, IE.den, IE.den_mv h x hk.1, IE.den_mv h y hk.2]
 | .max x y, hk => by simp only [IE.mv, IE.den, IE.den_mv h x hk.1, IE.den_mv h y hk.2]
 | .wrap _ x, hk => by simp only [IE.mv, IE.den, IE.den_mv h x hk]
 | .nth _ x, hk => by simp only [IE.mv, IE.den, IE.den_mv h x hk, Env.list, h.l]
 | .len _, _ => by simp only [IE.mv, IE.den, Env.list, h.l]
 | .room b s, hk => by simp only [IE.mv, IE.den, h.rest hk]
theorem BE.den_mv (h : Moved a d ρ ρ') : ∀ (x : BE), x.ok ρ.k.length → (x.mv a d).den ρ' = x.den ρ
 | .lit _, _ => rfl
 | .var i, _ => by simp only [BE.mv, BE.den, Env.bool, h.b]
 | .lt x y, hk => by simp only [BE.mv, BE.den, IE.den_mv h x hk.1, IE.den_mv h y hk.2]
 | .le x y, hk => by simp only [BE.mv, BE.den, IE.den_mv h x hk.1, IE.den_mv h y hk.2]
 | .eq x y, hk => by simp only [BE.mv, BE.den, IE.den_mv h x hk.1, IE.den_mv h y hk.2]
 | .not x, hk => by simp only [BE.mv, BE.den, BE.den_mv h x hk]
 | .pick c x y, hk => by simp only [BE.mv, BE.den, BE.den_mv h c hk.1, BE.den_mv h x hk.2.1, BE.den_mv h y hk.2.2]
mutual
theorem SC.den_mv (h : Moved a d ρ ρ') : ∀ (x : SC), x.ok ρ.k.length → (x.mv a d).den ρ' = x.den ρ
 | .any i, _ => by simp only [SC.mv, SC.den, Env.val, h.v]
 | .int k e, hk => by simp only [SC.mv, SC.den, IE.den_mv h e hk]
 | .bool b, hk => by simp only [SC.mv, SC.den, BE.den_mv h b hk]
 | .lit v, _ => rfl
 | .ptr b off, hk => by simp only [SC.mv, SC.den, IE.den_mv h off hk.2, h.blk hk.1]
 | .slice b off len cap, hk => by simp only [SC.mv, SC.den, IE.den_mv h off hk.2.1, IE.den_mv h len hk.2.2.1, IE.den_mv h cap hk.2.2.2, h.blk hk.1]
 | .ref b, hk => by simp only [SC.mv, SC.den, h.blk (show b < ρ.k.length from hk)]
 | .fn f first caps, hk => by simp only [SC.mv, SC.den, dens_mv h first hk.1, dens_mv h caps hk.2]
 | .yield l, hk => by simp only [SC.mv, SC.den, h.blk (show l < ρ.k.length from hk)]
 | .iface t x, hk => by simp only [SC.mv, SC.den, SC.den_mv h x hk]
 | .agg l, hk => by simp only [SC.mv, SC.den, dens_mv h l hk]
 | .tup l, hk => by simp only [SC.mv, SC.den, dens_mv h l hk]
 | .chn b, hk => by simp only [SC.mv, SC.den, h.blk (show b < ρ.k.length from hk)]
theorem dens_mv (h : Moved a d ρ ρ') : ∀ (l : List SC), SC.oks ρ.k.length l → dens ρ' (mvs a d l) = dens ρ l
 | [], _ => rfl
 | x :: l, hk => by simp only [mvs, dens, SC.den_mv h x hk.1, dens_mv h l hk.2]
end
theorem SO.den_mv (h : Moved a d ρ ρ') {x y : SO} (he : x.mv a d = some y) (hk : x.ok ρ.k.length) : y.den ρ' = x.den ρ := by
 unfold SO.mv at he
 split at he
 ·rename_i l e
  simp only [Option.some.injEq] at he; subst he
  have := dens_mv h l (oks_iff.2 hk)
  rw [dens_eq, dens_eq] at this
  simp only [SO.den, this]
 ·rename_i l e r
  simp only [Option.some.injEq] at he; subst he
  have := dens_mv h l (oks_iff.2 hk.2)
  rw [dens_eq, dens_eq] at this
  simp only [SO.den, this, h.rest hk.1]
 ·cases he
end
theorem mvN_lt {a d n i : Nat} (h : i < n) : mvN a d i < n + d := by
 unfold mvN
 split <;> omega
section
variable {a d n : Nat}
theorem IE.ok_mv : ∀ (x : IE), x.ok n → (x.mv a d).ok (n + d)
 | .lit _, _ => trivial
 | .var _, _ => trivial
 | .add x y, h => ⟨IE.ok_mv x h.1, IE.ok_mv y h.2⟩
 | .sub x y, h => ⟨IE.ok_mv x h.1, IE.ok_mv y h.2⟩
 | .mul x y, h => ⟨IE.ok_mv x h.1, IE.ok_mv y h.2⟩
 | .quo x y, h => ⟨IE.ok_mv x h.1, IE.ok_mv y h.2⟩
 | .rem x y, h => ⟨IE.ok_mv x h.1, IE.ok_mv y h.2⟩
 | .bits _ _ x y, h => ⟨IE.ok_mv x h.1, IE.ok_mv y h.2⟩
 | .shl _ x y, h => ⟨IE.ok_mv x h.1, IE.ok_mv y h.2⟩
 | .shr _ x y, h => ⟨IE.ok_mv x h.1, IE.ok_mv y h.2⟩
 | .min x y, h => ⟨IE.ok_mv x h.1, IE.ok_mv y h.2⟩
 | .max x y, h => ⟨IE.ok_mv x h.1, IE.ok_mv y h.2⟩
 | .wrap _ x, h => IE.ok_mv x h
 | .nth _ x, h => IE.ok_mv x h
 | .len _, _ => trivial
 | .room b s, h => mvN_lt h
theorem BE.ok_mv : ∀ (x : BE), x.ok n → (x.mv a d).ok (n + d)
 | .lit _, _ => trivial
 | .var _, _ => trivial
 | .lt x y, h => ⟨IE.ok_mv x h.1, IE.ok_mv y h.2⟩
 | .le x y, h => ⟨IE.ok_mv x h.1, IE.ok_mv y h.2⟩
 | .eq x y, h => ⟨IE.ok_mv x h.1, IE.ok_mv y h.2⟩
 | .not x, h => BE.ok_mv x h
 | .pick c x y, h => ⟨BE.ok_mv c h.1, BE.ok_mv x h.2.1, BE.ok_mv y h.2.2⟩
mutual
theorem SC.ok_mv : ∀ (x : SC), x.ok n → (x.mv a d).ok (n + d)
 | .any _, _ => trivial
 | .int _ e, h => IE.ok_mv e h
 | .bool b, h => BE.ok_mv b h
 | .lit _, _ => trivial
 | .ptr b off, h => ⟨mvN_lt h.1, IE.ok_mv off h.2⟩
 | .slice b off len cap, h => ⟨mvN_lt h.1, IE.ok_mv off h.2.1, IE.ok_mv len h.2.2.1, IE.ok_mv cap h.2.2.2⟩
 | .ref b, h => mvN_lt (show b < n from h)
 | .fn _ first caps, h => ⟨oks_mv first h.1, oks_mv caps h.2⟩
 | .yield l, h => mvN_lt (show l < n from h)
 | .iface _ x, h => SC.ok_mv x h
 | .agg l, h => oks_mv l h
 | .tup l, h => oks_mv l h
 | .chn b, h => mvN_lt (show b < n from h)
theorem oks_mv : ∀ (l : List SC), SC.oks n l → SC.oks (n + d) (mvs a d l)
 | [], _ => trivial
 | x :: l, h => ⟨SC.ok_mv x h.1, oks_mv l h.2⟩
end
theorem SO.ok_mv {x y : SO} (he : x.mv a d = some y) (h : x.ok n) : y.ok (n + d) := by
 unfold SO.mv at he
 split at he
 ·simp only [Option.some.injEq] at he; subst he
  exact oks_iff.1 (oks_mv _ (oks_iff.2 h))
 ·simp only [Option.some.injEq] at he; subst he
  exact ⟨mvN_lt h.1, oks_iff.1 (oks_mv _ (oks_iff.2 h.2))⟩
 ·cases he
end
theorem blt_false {i a : Nat} : Nat.blt i a = false ↔ a ≤ i := by
 cases h : Nat.blt i a with
 | true =>
  have : i + 1 ≤ a := Nat.le_of_ble_eq_true h
  simp; omega
 | false =>
  have : ¬ (i + 1 ≤ a) := fun h' => by
   have := Nat.ble_eq_true_of_le h'
   unfold Nat.blt at h
   rw [this] at h; cases h
  simp; omega
theorem moved_to {ρ : Env} {a : Nat} {t : List (Nat × List Value)} (ha : a ≤ ρ.k.length) : Moved a (ρ.k.length - a) (ρ.to a t) { ρ with k := ρ.k ++ t } where
 i := rfl
 b := rfl
 v := rfl
 l := rfl
 k i hi := by
  have hl : (ρ.k.take a).length = a := by rw [List.length_take]; omega
  simp only [Env.to, List.length_append, hl] at hi
  simp only [Env.to, List.getD_eq_getElem?_getD]
  unfold mvN
  split
  ·rename_i h
   have h : i < a := by simpa using h
   rw [List.getElem?_append_left (by omega), List.getElem?_append_left (by omega), List.getElem?_take_of_lt h]
  ·rename_i h
   have h : ¬ i < a := by have := blt_false.1 h; omega
   rw [List.getElem?_append_right (by omega), List.getElem?_append_right (by omega), hl]
   congr 2
   omega
def placeAll (a d : Nat) : List (Nat × SO) → Tr SO → Option (Tr SO)
 | [], rw => some rw
 | (i, o) :: l, rw => match Nat.blt i a, o.mv a d with
  | false, some o' => placeAll a d l (rw.set (i + d) o')
  | _, _ => none
def giftAll : List SM → Nat → Tr SO → Option (Tr SO × List SC × Nat)
 | [], nk, rw => some (rw, [], nk)
 | x :: xs, nk, rw => match Nat.ble x.a nk, placeAll x.a (nk - x.a) x.l rw with
  | true, some rw' => match giftAll xs (nk + (x.n - x.a)) rw' with
   | some (rw'', vs, nk') => some (rw'', x.v.mv x.a (nk - x.a) :: vs, nk')
   | none => none
  | _, _ => none
def withM (S : Own) (m : Nat → Option Obj) : Own := { S with full := fun b => match m b with | some o => some o | none => S.full b }
theorem placeAll_look {a d : Nat} : ∀ {l : List (Nat × SO)} {rw rw' : Tr SO}, placeAll a d l rw = some rw' → ∀ i o, rw'.look i = some o → rw.look i = some o ∨ ∃ y ∈ l, i = y.1 + d ∧ a ≤ y.1 ∧ y.2.mv a d = some o
 | [], rw, rw', h, i, o, hi => by
  simp only [placeAll, Option.some.injEq] at h; subst h; exact .inl hi
 | (j, u) :: l, rw, rw', h, i, o, hi => by
  simp only [placeAll] at h
  split at h
  ·rename_i o' h1 h2
   rcases placeAll_look h i o hi with h3 | ⟨y, hy, h3⟩
   ·rcases Tr.look_set h3 with ⟨rfl, rfl⟩ | ⟨_, h3⟩
    ·exact .inr ⟨_, List.mem_cons_self, rfl, blt_false.1 h1, h2⟩
    ·exact .inl h3
   ·exact .inr ⟨y, List.mem_cons_of_mem _ hy, h3⟩
  ·cases h
theorem liesAt_of {ρ : Env} : ∀ {l : List (Nat × SO)}, (∀ y ∈ l, ∀ z ∈ l, ρ.blk y.1 = ρ.blk z.1 → y = z) → ∀ y ∈ l, liesAt ρ l (ρ.blk y.1) = some (y.2.den ρ)
 | [], _, y, hy => by cases hy
 | (i, o) :: l, h, y, hy => by
  simp only [liesAt]
  split
  ·rename_i e
   have := h (i, o) List.mem_cons_self y hy e
   subst this; rfl
  ·rename_i e
   rcases List.mem_cons.1 hy with rfl | hy
   ·exact absurd rfl e
   ·exact liesAt_of (fun y hy z hz => h y (List.mem_cons_of_mem _ hy) z (List.mem_cons_of_mem _ hz)) y hy
theorem liesAt_some {ρ : Env} {b : Nat} {o : Obj} : ∀ {l : List (Nat × SO)}, liesAt ρ l b = some o → ∃ y ∈ l, ρ.blk y.1 = b
 | [], h => by cases h
 | (i, u) :: l, h => by
  simp only [liesAt] at h
  split at h
  ·rename_i e; exact ⟨_, List.mem_cons_self, e⟩
  ·obtain ⟨y, hy, e⟩ := liesAt_some h
   exact ⟨y, List.mem_cons_of_mem _ hy, e⟩
theorem Sat.ext {hp : Hp} {F S : Own} : ∀ {ρ ρ' : Env}, Ext ρ ρ' → Sat ρ hp F S → Sat ρ' hp F S := by
 rintro ρ ρ' ⟨t, rfl⟩ h
 induction t generalizing ρ with
 | nil => simpa using h
 | cons x t ih =>
  have := ih (h.grow (b := x.1) (r := x.2))
  simpa [Env.grow] using this
theorem gift_one {ρ : Env} {hp : Hp} {F S : Own} {x : SM} {m : Msg} {rw' : Tr SO} (hs : Sat ρ hp F S) (hx : x.ok) (ha : x.a ≤ ρ.k.length) (hl : hp.gh.lents = []) (hsay : x.says ρ m) (hap : ∀ b, (m.2 b).isSome → S.full b = none ∧ S.ro b = none)
  (hpl : placeAll x.a (ρ.k.length - x.a) x.l hp.rw = some rw') :
  ∃ ρ', Ext ρ ρ' ∧ ρ'.k.length = ρ.k.length + (x.n - x.a) ∧ Sat ρ' ⟨rw', hp.ro, hp.gh⟩ F (withM S m.2) ∧ m.1 = (x.v.mv x.a (ρ.k.length - x.a)).den ρ' ∧ (x.v.mv x.a (ρ.k.length - x.a)).ok ρ'.k.length := by
 obtain ⟨t, ht, rfl, hfine⟩ := hsay
 have hM := moved_to (t := t) ha
 have hlen : (ρ.to x.a t).k.length = x.n := by
  have := hx.1
  simp only [Env.to, List.length_append, List.length_take, ht]; omega
 have hE : Ext ρ { ρ with k := ρ.k ++ t } := ⟨t, rfl⟩
 have hle : ρ.k.length ≤ ({ ρ with k := ρ.k ++ t } : Env).k.length := by simp
 have hn : x.n + (ρ.k.length - x.a) = ρ.k.length + (x.n - x.a) := by have := hx.1; omega
 have hl2 : ({ ρ with k := ρ.k ++ t } : Env).k.length = ρ.k.length + (x.n - x.a) := by simp [ht]
 have hg := Sat.ext hE hs
 have hblk : ∀ y ∈ x.l, x.a ≤ y.1 → ({ ρ with k := ρ.k ++ t } : Env).blk (y.1 + (ρ.k.length - x.a)) = (ρ.to x.a t).blk y.1 := fun y hy hya => by
  have := hM.blk (i := y.1) (by rw [hlen]; exact (hx.2.2 y hy).1)
  rw [show mvN x.a (ρ.k.length - x.a) y.1 = y.1 + (ρ.k.length - x.a) by unfold mvN; rw [blt_false.2 hya]] at this
  exact this
 have hat : ∀ y ∈ x.l, (x.msg (ρ.to x.a t)).2 ((ρ.to x.a t).blk y.1) = some (y.2.den (ρ.to x.a t)) := fun y hy => liesAt_of hfine y hy
 refine ⟨{ ρ with k := ρ.k ++ t }, hE, hl2, ?_, ?_, ?_⟩
 ·have old : ∀ i o, hp.rw.look i = some o → ¬ ((x.msg (ρ.to x.a t)).2 (({ ρ with k := ρ.k ++ t } : Env).blk i)).isSome := fun i o hi hb => by
   have h1 := (hg.has i o hi).2.2
   rw [(hap _ hb).1] at h1; cases h1
  exact {
   has := fun i o hi => by
    rcases placeAll_look hpl i o hi with h1 | ⟨y, hy, rfl, hya, h1⟩
    ·obtain ⟨k1, k2, k3⟩ := hg.has i o h1
     refine ⟨k1, k2, ?_⟩
     simp only [withM]
     have := old i o h1
     cases hb : (x.msg (ρ.to x.a t)).2 (({ ρ with k := ρ.k ++ t } : Env).blk i) with
     | none => exact k3
     | some u => rw [hb] at this; exact absurd rfl this
    ·have hyok := hx.2.2 y hy
     refine ⟨by rw [hl2]; omega, by rw [hl2, ← hn]; exact SO.ok_mv h1 hyok.2, ?_⟩
     rw [hblk y hy hya]
     simp only [withM, hat y hy]
     rw [SO.den_mv hM h1 (by rw [hlen]; exact hyok.2)]
   hro := fun i o hi => hg.hro i o hi
   inj := fun i j o o' hi hj e => by
    rcases placeAll_look hpl i o hi with h1 | ⟨y, hy, rfl, hya, h1⟩
    ·rcases placeAll_look hpl j o' hj with h2 | ⟨z, hz, rfl, hza, h2⟩
     ·exact hg.inj i j o o' h1 h2 e
     ·have := old i o h1
      rw [e, hblk z hz hza, hat z hz] at this
      exact absurd rfl this
    ·rcases placeAll_look hpl j o' hj with h2 | ⟨z, hz, rfl, hza, h2⟩
     ·have := old j o' h2
      rw [← e, hblk y hy hya, hat y hy] at this
      exact absurd rfl this
     ·rw [hblk y hy hya, hblk z hz hza] at e
      rw [hfine y hy z hz e]
   frm := fun b o hb => by
    have h1 := hg.frm b o hb
    simp only [withM]
    cases hm : (x.msg (ρ.to x.a t)).2 b with
    | none => exact h1
    | some u => rw [(hap b (by rw [hm]; rfl)).1] at h1; cases h1
   apart := fun i o hi => by
    rcases placeAll_look hpl i o hi with h1 | ⟨y, hy, rfl, hya, h1⟩
    ·exact hg.apart i o h1
    ·rw [hblk y hy hya]
     cases hf : F.full ((ρ.to x.a t).blk y.1) with
     | none => rfl
     | some u =>
      have h2 := hg.frm _ _ hf
      rw [(hap _ (by rw [hat y hy]; rfl)).1] at h2; cases h2
   ro := hg.ro
   gh := hg.gh
   dis := fun b hb => by
    simp only [withM] at hb ⊢
    cases hm : (x.msg (ρ.to x.a t)).2 b with
    | none => rw [hm] at hb; exact hg.dis b hb
    | some u => exact (hap b (by rw [hm]; rfl)).2
   ghok := hg.ghok
   lent := fun i hi => by
    have : i ∈ hp.gh.lents := hi
    rw [hl] at this; cases this
   linj := fun i hi => by
    have : i ∈ hp.gh.lents := hi
    rw [hl] at this; cases this
   rinj := fun i hi => by
    have : i ∈ hp.gh.lents := hi
    rw [hl] at this; cases this
   lnd := hg.lnd }
 ·exact (SC.den_mv hM x.v (by rw [hlen]; exact hx.2.1)).symm
 ·rw [hl2, ← hn]; exact SC.ok_mv x.v hx.2.1
def news : Nat → Tree → Tree
 | 0, t => t
 | n + 1, t => .new (news n t)
theorem news_holds {D : Env → SEx → SS → Prop} {E : Env → List Item → SS → Prop} : ∀ (n : Nat) (ρ : Env) (t : Tree), holds D E ρ (news n t) → ∀ ρ', Ext ρ ρ' → ρ'.k.length = ρ.k.length + n → holds D E ρ' t
 | 0, ρ, t, h, ρ', ⟨l, e⟩, hl => by
  subst e
  have : l = [] := List.eq_nil_of_length_eq_zero (by simpa using hl)
  subst this
  simpa [news] using h
 | n + 1, ρ, t, h, ρ', ⟨l, e⟩, hl => by
  subst e
  cases l with
  | nil => simp at hl
  | cons x l =>
   have h1 : holds D E (ρ.grow x.1 x.2) (news n t) := h x.1 x.2
   exact news_holds n _ t h1 _ ⟨l, by simp [Env.grow]⟩ (by simp only [List.length_append, List.length_cons, Env.grow, List.length_nil] at hl ⊢; omega)
def withAll (S : Own) : List Msg → Own
 | [] => S
 | m :: L => withAll (withM S m.2) L
theorem withAll_full {b : Nat} {o : Obj} : ∀ {L : List Msg} {S : Own}, (withAll S L).full b = some o → S.full b = some o ∨ ∃ m ∈ L, m.2 b = some o
 | [], S, h => .inl h
 | m :: L, S, h => by
  rcases withAll_full (L := L) h with h1 | ⟨m', hm', h1⟩
  ·simp only [withM] at h1
   split at h1
   ·rename_i u hu
    simp only [Option.some.injEq] at h1; subst h1
    exact .inr ⟨m, List.mem_cons_self, hu⟩
   ·exact .inl h1
  ·exact .inr ⟨m', List.mem_cons_of_mem _ hm', h1⟩
theorem withAll_ro : ∀ (L : List Msg) (S : Own), (withAll S L).ro = S.ro
 | [], S => rfl
 | m :: L, S => withAll_ro L _
theorem SM.says_ext {ρ ρ' : Env} {x : SM} {m : Msg} (h : x.says ρ m) (he : Ext ρ ρ') (ha : x.a ≤ ρ.k.length) : x.says ρ' m := by
 obtain ⟨t', rfl⟩ := he
 obtain ⟨t, h1, h2, h3⟩ := h
 have e : ({ ρ with k := ρ.k ++ t' } : Env).to x.a t = ρ.to x.a t := by simp only [Env.to, List.take_append_of_le_length ha]
 exact ⟨t, h1, by rw [e]; exact h2, by rw [e]; exact h3⟩
theorem dens_ext {ρ ρ' : Env} (he : Ext ρ ρ') {v : SC} (hv : v.ok ρ.k.length) : v.den ρ' = v.den ρ := by
 obtain ⟨t, rfl⟩ := he
 induction t generalizing ρ with
 | nil => simp
 | cons x t ih =>
  have h1 := ih (ρ := ρ.grow x.1 x.2) (SC.ok_mono (by simp) v hv)
  rw [SC.den_grow v hv] at h1
  simpa [Env.grow] using h1
theorem gift_all {F : Own} : ∀ (xs : List SM) (L : List Msg) (ρ : Env) (hp : Hp) (S : Own) {rw' : Tr SO} {vs : List SC} {nk' : Nat}, Sat ρ hp F S → hp.gh.lents = [] → (∀ x ∈ xs, x.a ≤ ρ.k.length ∧ x.ok) → Pw (fun m x => x.says ρ m) L xs →
  (∀ m ∈ L, ∀ b, (m.2 b).isSome → S.full b = none ∧ S.ro b = none) → L.Pairwise (fun m m' => ∀ b, (m.2 b).isSome → m'.2 b = none) → giftAll xs ρ.k.length hp.rw = some (rw', vs, nk') →
  ∃ ρ', Ext ρ ρ' ∧ ρ'.k.length = nk' ∧ ρ.k.length ≤ nk' ∧ Sat ρ' ⟨rw', hp.ro, hp.gh⟩ F (withAll S L) ∧ L.map (·.1) = vs.map (SC.den ρ') ∧ ∀ v ∈ vs, v.ok ρ'.k.length
 | [], [], ρ, hp, S, _, _, _, hs, _, _, _, _, _, h => by
  simp only [giftAll, Option.some.injEq, Prod.mk.injEq] at h
  obtain ⟨rfl, rfl, rfl⟩ := h
  exact ⟨ρ, Ext.refl ρ, rfl, Nat.le_refl _, hs, rfl, by simp⟩
 | [], _ :: _, _, _, _, _, _, _, _, _, _, h, _, _, _ => h.elim
 | _ :: _, [], _, _, _, _, _, _, _, _, _, h, _, _, _ => h.elim
 | x :: xs, m :: L, ρ, hp, S, rw', vs, nk', hs, hl, hx, hpw, hap, hpair, h => by
  simp only [giftAll] at h
  split at h
  ·rename_i rw1 ha hpl
   split at h
   ·rename_i rw2 vs2 nk2 hrec
    simp only [Option.some.injEq, Prod.mk.injEq] at h
    obtain ⟨rfl, rfl, rfl⟩ := h
    obtain ⟨ha0, hxok⟩ := hx x List.mem_cons_self
    obtain ⟨ρ1, e1, l1, s1, v1, k1⟩ := gift_one hs hxok ha0 hl hpw.1 (hap m List.mem_cons_self) hpl
    have hle : ρ.k.length ≤ ρ1.k.length := by omega
    have hpair' := List.pairwise_cons.1 hpair
    have hpw2 : Pw (fun m x => x.says ρ1 m) L xs := by
     refine Pw.mono hpw.2 fun y hy m hm => SM.says_ext hm e1 (hx y (List.mem_cons_of_mem _ hy)).1
    obtain ⟨ρ2, e2, l2, l2', s2, v2, k2⟩ := gift_all xs L ρ1 ⟨rw1, hp.ro, hp.gh⟩ (withM S m.2) s1 hl (fun y hy => ⟨Nat.le_trans (hx y (List.mem_cons_of_mem _ hy)).1 hle, (hx y (List.mem_cons_of_mem _ hy)).2⟩) hpw2
     (fun m' hm' b hb => by
      obtain ⟨q1, q2⟩ := hap m' (List.mem_cons_of_mem _ hm') b hb
      refine ⟨?_, q2⟩
      simp only [withM]
      cases hmb : m.2 b with
      | none => exact q1
      | some u => have := hpair'.1 m' hm' b (by rw [hmb]; rfl); rw [this] at hb; cases hb) hpair'.2 (by rw [l1]; exact hrec)
    refine ⟨ρ2, e1.trans e2, l2, Nat.le_trans hle l2', s2, ?_, fun v hv => ?_⟩
    ·rw [List.map_cons, List.map_cons, v2, v1, dens_ext e2 k1]
    ·rcases List.mem_cons.1 hv with rfl | hv
     ·exact SC.ok_mono (by rw [l2]; exact l2') _ k1
     ·exact k2 v hv
   ·cases h
  ·cases h
theorem liesAt_ext {ρ ρ' : Env} (he : Ext ρ ρ') {l : List (Nat × SO)} (h : ∀ y ∈ l, y.1 < ρ.k.length ∧ y.2.ok ρ.k.length) : liesAt ρ' l = liesAt ρ l := by
 obtain ⟨t, rfl⟩ := he
 induction t generalizing ρ with
 | nil => simp
 | cons x t ih =>
  have h1 := ih (ρ := ρ.grow x.1 x.2) fun y hy => ⟨by have := (h y hy).1; simp; omega, SO.ok_mono (by simp) (h y hy).2⟩
  rw [liesAt_grow h] at h1
  simpa [Env.grow] using h1
theorem SM.msg_ext {ρ ρ' : Env} {x : SM} (he : Ext ρ ρ') (h : x.ok) (hn : x.n ≤ ρ.k.length) : x.msg ρ' = x.msg ρ := by
 unfold SM.msg
 rw [dens_ext he (SC.ok_mono hn _ h.2.1), liesAt_ext he fun y hy => ⟨Nat.lt_of_lt_of_le (h.2.2 y hy).1 hn, SO.ok_mono hn (h.2.2 y hy).2⟩]
theorem SM.fine_ext {ρ ρ' : Env} {x : SM} (he : Ext ρ ρ') (h : x.ok) (hn : x.n ≤ ρ.k.length) (hf : x.fine ρ') : x.fine ρ := fun y hy z hz e => by
 refine hf y hy z hz ?_
 rw [blk_ext he (Nat.lt_of_lt_of_le (h.2.2 y hy).1 hn), blk_ext he (Nat.lt_of_lt_of_le (h.2.2 z hz).1 hn)]; exact e
theorem SM.says_self {ρ : Env} {x : SM} (h : x.ok) (hn : x.n ≤ ρ.k.length) (hf : x.fine ρ) : x.says ρ (x.msg ρ) := by
 have he : ρ.to x.a ((ρ.k.drop x.a).take (x.n - x.a)) = { ρ with k := ρ.k.take x.n } := by
  have : x.n = x.a + (x.n - x.a) := by have := h.1; omega
  simp only [Env.to]
  congr 1
  conv => rhs; rw [this, List.take_add]
 have hE : Ext { ρ with k := ρ.k.take x.n } ρ := ⟨ρ.k.drop x.n, by simp⟩
 have hl : x.n ≤ ({ ρ with k := ρ.k.take x.n } : Env).k.length := by simp; omega
 refine ⟨(ρ.k.drop x.a).take (x.n - x.a), by simp; omega, ?_, ?_⟩
 ·rw [he]; exact SM.msg_ext hE h hl
 ·rw [he]; exact SM.fine_ext hE h hl hf
theorem pact_done {ρ : Env} : ∀ {ms : List SM}, (∀ x ∈ ms, x.ok ∧ x.n ≤ ρ.k.length ∧ x.fine ρ) → Pw (fun m x => SM.says ρ x m) (ms.map (SM.msg ρ)) ms
 | [], _ => trivial
 | x :: ms, h => ⟨SM.says_self (h x List.mem_cons_self).1 (h x List.mem_cons_self).2.1 (h x List.mem_cons_self).2.2, pact_done fun y hy => h y (List.mem_cons_of_mem _ hy)⟩
def samePs : List (SC × SC) → List (SC × SC) → Bool
 | [], [] => true
 | (x, y) :: l, (u, v) :: m => match SC.same 6 x u, SC.same 6 y v with
  | true, true => samePs l m
  | _, _ => false
 | _, _ => false
theorem samePs_eq : ∀ {l m : List (SC × SC)}, samePs l m = true → l = m
 | [], [], _ => rfl
 | [], _ :: _, h => by cases h
 | _ :: _, [], h => by cases h
 | (x, y) :: l, (u, v) :: m, h => by
  simp only [samePs] at h
  split at h
  ·rename_i h1 h2
   rw [SC.same_eq _ _ _ h1, SC.same_eq _ _ _ h2, samePs_eq h]
  ·cases h
def SO.same : SO → SO → Bool
 | .map l, .map m => samePs l m
 | .pin l r, .pin m r' => samePs l m && Nat.beq r r'
 | .cells l e, .cells m e' => sameL (SC.same 6) l m && Nat.beq e e'
 | .row l e r, .row m e' r' => sameL (SC.same 6) l m && Nat.beq e e' && Nat.beq r r'
 | .calls, .calls => true
 | _, _ => false
theorem SO.same_eq {x y : SO} (h : SO.same x y = true) : x = y := by
 unfold SO.same at h
 split at h
 ·rw [samePs_eq h]
 ·simp only [Bool.and_eq_true] at h
  rw [samePs_eq h.1, Nat.eq_of_beq_eq_true h.2]
 ·simp only [Bool.and_eq_true] at h
  rw [sameL_eq (SC.same_eq 6) _ _ h.1, Nat.eq_of_beq_eq_true h.2]
 ·simp only [Bool.and_eq_true] at h
  rw [sameL_eq (SC.same_eq 6) _ _ h.1.1, Nat.eq_of_beq_eq_true h.1.2, Nat.eq_of_beq_eq_true h.2]
 ·rfl
 ·cases h
def lies (t : Tr SO) : List (Nat × SO) → Bool
 | [] => true
 | (i, o) :: l => match t.look i with
  | some o' => match SO.same o' o with
   | true => lies t l
   | false => false
  | none => false
theorem lies_look {t : Tr SO} : ∀ {l : List (Nat × SO)}, lies t l = true → ∀ x ∈ l, t.look x.1 = some x.2
 | [], _, x, hx => by cases hx
 | (i, o) :: l, h, x, hx => by
  simp only [lies] at h
  split at h
  ·rename_i o' ho
   split at h
   ·rename_i hs
    rcases List.mem_cons.1 hx with rfl | hx
    ·rw [ho, SO.same_eq hs]
    ·exact lies_look h x hx
   ·cases h
  ·cases h
def IE.okB (n : Nat) : IE → Bool
 | .lit _ | .var _ | .len _ => true
 | .add a b | .sub a b | .mul a b | .quo a b | .rem a b | .bits _ _ a b | .shl _ a b | .shr _ a b | .min a b | .max a b => a.okB n && b.okB n
 | .wrap _ a | .nth _ a => a.okB n
 | .room b _ => Nat.blt b n
def BE.okB (n : Nat) : BE → Bool
 | .lit _ | .var _ => true
 | .lt a b | .le a b | .eq a b => a.okB n && b.okB n
 | .not a => a.okB n
 | .pick c a b => c.okB n && (a.okB n && b.okB n)
mutual
def SC.okB (n : Nat) : SC → Bool
 | .any _ | .lit _ => true
 | .int _ e => e.okB n
 | .bool b => b.okB n
 | .ptr b off => Nat.blt b n && off.okB n
 | .slice b off len cap => Nat.blt b n && (off.okB n && (len.okB n && cap.okB n))
 | .ref b => Nat.blt b n
 | .fn _ first caps => SC.oksB n first && SC.oksB n caps
 | .yield l => Nat.blt l n
 | .iface _ x => SC.okB n x
 | .agg l => SC.oksB n l
 | .tup l => SC.oksB n l
 | .chn b => Nat.blt b n
def SC.oksB (n : Nat) : List SC → Bool
 | [] => true
 | x :: l => SC.okB n x && SC.oksB n l
end
theorem blt_true {i n : Nat} (h : Nat.blt i n = true) : i < n := Nat.le_of_ble_eq_true h
theorem IE.okB_ok {n : Nat} {x : IE} (h : x.okB n = true) : x.ok n := by
 induction x with
 | lit _ | var _ | len _ => trivial
 | room b s => exact blt_true h
 | wrap k a ih => exact ih h
 | nth l a ih => exact ih h
 | _ =>
  simp only [IE.okB, Bool.and_eq_true] at h
  rename_i ih1 ih2
  exact ⟨ih1 h.1, ih2 h.2⟩
theorem BE.okB_ok {n : Nat} {x : BE} (h : x.okB n = true) : x.ok n := by
 induction x with
 | lit _ | var _ => trivial
 | lt a b | le a b | eq a b =>
  simp only [BE.okB, Bool.and_eq_true] at h
  exact ⟨IE.okB_ok h.1, IE.okB_ok h.2⟩
 | not a ih => exact ih h
 | pick c a b ih1 ih2 ih3 =>
  simp only [BE.okB, Bool.and_eq_true] at h
  exact ⟨ih1 h.1, ih2 h.2.1, ih3 h.2.2⟩
mutual
theorem SC.okB_ok {n : Nat} : ∀ {x : SC}, x.okB n = true → x.ok n
 | .any _, _ | .lit _, _ => trivial
 | .int _ e, h => IE.okB_ok (x := e) h
 | .bool b, h => BE.okB_ok (x := b) h
 | .ptr b off, h => by
  simp only [SC.okB, Bool.and_eq_true] at h
  exact ⟨blt_true h.1, IE.okB_ok h.2⟩
 | .slice b off len cap, h => by
  simp only [SC.okB, Bool.and_eq_true] at h
  exact ⟨blt_true h.1, IE.okB_ok h.2.1, IE.okB_ok h.2.2.1, IE.okB_ok h.2.2.2⟩
 | .ref b, h => blt_true h
 | .fn _ first caps, h => by
  simp only [SC.okB, Bool.and_eq_true] at h
  exact ⟨SC.oksB_ok h.1, SC.oksB_ok h.2⟩
 | .yield l, h => blt_true h
 | .iface _ x, h => SC.okB_ok (x := x) h
 | .agg l, h => SC.oksB_ok (l := l) h
 | .tup l, h => SC.oksB_ok (l := l) h
 | .chn b, h => blt_true h
theorem SC.oksB_ok {n : Nat} : ∀ {l : List SC}, SC.oksB n l = true → SC.oks n l
 | [], _ => trivial
 | x :: l, h => by
  simp only [SC.oksB, Bool.and_eq_true] at h
  exact ⟨SC.okB_ok h.1, SC.oksB_ok h.2⟩
end
def psB (n : Nat) : List (SC × SC) → Bool
 | [] => true
 | (x, y) :: l => SC.okB n x && (SC.okB n y && psB n l)
theorem psB_ok {n : Nat} : ∀ {l : List (SC × SC)}, psB n l = true → ∀ x ∈ l, x.1.ok n ∧ x.2.ok n
 | [], _, x, hx => by cases hx
 | (a, b) :: l, h, x, hx => by
  simp only [psB, Bool.and_eq_true] at h
  rcases List.mem_cons.1 hx with rfl | hx
  ·exact ⟨SC.okB_ok h.1, SC.okB_ok h.2.1⟩
  ·exact psB_ok h.2.2 x hx
def SO.okB (n : Nat) : SO → Bool
 | .map l => psB n l
 | .pin l sh => Nat.blt sh n && psB n l
 | .cells l _ => SC.oksB n l
 | .row l _ r => Nat.blt r n && SC.oksB n l
 | _ => false
theorem SO.okB_ok {n : Nat} {x : SO} (h : x.okB n = true) : x.ok n := by
 cases x with
 | cells l e => exact oks_iff.1 (SC.oksB_ok h)
 | row l e r =>
  simp only [SO.okB, Bool.and_eq_true] at h
  exact ⟨blt_true h.1, oks_iff.1 (SC.oksB_ok h.2)⟩
 | map l => exact psB_ok h
 | pin l sh =>
  simp only [SO.okB, Bool.and_eq_true] at h
  exact ⟨blt_true h.1, psB_ok h.2⟩
 | _ => cases h
def SM.okB (nk : Nat) (x : SM) : Bool := Nat.ble x.a nk && (Nat.ble x.a x.n && (x.v.okB x.n && x.l.all fun y => Nat.blt y.1 x.n && y.2.okB x.n))
theorem SM.okB_ok {nk : Nat} {x : SM} (h : x.okB nk = true) : x.a ≤ nk ∧ x.ok := by
 simp only [SM.okB, Bool.and_eq_true, List.all_eq_true] at h
 exact ⟨Nat.le_of_ble_eq_true h.1, Nat.le_of_ble_eq_true h.2.1, SC.okB_ok h.2.2.1, fun y hy => ⟨blt_true (h.2.2.2 y hy).1, SO.okB_ok (h.2.2.2 y hy).2⟩⟩
def delAll : List (Nat × SO) → Tr SO → Tr SO
 | [], t => t
 | (i, _) :: l, t => delAll l (t.del i)
theorem delAll_look {i : Nat} {o : SO} : ∀ {l : List (Nat × SO)} {t : Tr SO}, (delAll l t).look i = some o → t.look i = some o ∧ ∀ y ∈ l, y.1 ≠ i
 | [], t, h => ⟨h, by simp⟩
 | (j, u) :: l, t, h => by
  obtain ⟨h1, h2⟩ := delAll_look (l := l) h
  obtain ⟨h3, h4⟩ := Tr.look_del h1
  exact ⟨h4, fun y hy => (List.mem_cons.1 hy).elim (fun e => by rw [e]; exact fun e2 => h3 e2.symm) (h2 y)⟩
def setsT {α : Type} : List (Nat × α) → Tr α
 | [] => .nil
 | (i, x) :: l => (setsT l).set i x
theorem setsT_look {α : Type} {i : Nat} {x : α} : ∀ {l : List (Nat × α)}, (setsT l).look i = some x → (i, x) ∈ l
 | [], h => by rw [setsT, Tr.nil_look] at h; cases h
 | (j, y) :: l, h => by
  rcases Tr.look_set h with ⟨rfl, rfl⟩ | ⟨_, h⟩
  ·exact List.mem_cons_self
  ·exact List.mem_cons_of_mem _ (setsT_look h)
def sameBl : List (Nat × SO) → List (Nat × SO) → Bool
 | [], [] => true
 | (i, x) :: l, (j, y) :: m => match Nat.beq i j, SO.same x y with
  | true, true => sameBl l m
  | _, _ => false
 | _, _ => false
theorem sameBl_eq : ∀ {l m : List (Nat × SO)}, sameBl l m = true → l = m
 | [], [], _ => rfl
 | [], _ :: _, h => by cases h
 | _ :: _, [], h => by cases h
 | (i, x) :: l, (j, y) :: m, h => by
  simp only [sameBl] at h
  split at h
  ·rename_i h1 h2
   rw [Nat.eq_of_beq_eq_true h1, SO.same_eq h2, sameBl_eq h]
  ·cases h
def SM.same (x y : SM) : Bool := match SC.same 6 x.v y.v, sameBl x.l y.l, Nat.beq x.a y.a, Nat.beq x.n y.n with
 | true, true, true, true => true
 | _, _, _, _ => false
theorem SM.same_eq {x y : SM} (h : SM.same x y = true) : x = y := by
 unfold SM.same at h
 split at h
 ·rename_i h1 h2 h3 h4
  cases x; cases y
  simp only at h1 h2 h3 h4
  rw [SC.same_eq _ _ _ h1, sameBl_eq h2, Nat.eq_of_beq_eq_true h3, Nat.eq_of_beq_eq_true h4]
 ·cases h
def sameMs : List SM → List SM → Bool
 | [], [] => true
 | x :: l, y :: m => match SM.same x y with
  | true => sameMs l m
  | false => false
 | _, _ => false
theorem sameMs_eq : ∀ {l m : List SM}, sameMs l m = true → l = m
 | [], [], _ => rfl
 | [], _ :: _, h => by cases h
 | _ :: _, [], h => by cases h
 | x :: l, y :: m, h => by
  simp only [sameMs] at h
  split at h
  ·rename_i h1; rw [SM.same_eq h1, sameMs_eq h]
  ·cases h
end Mw
set_option linter.unusedVariables false
namespace Mw
open Go Mv
noncomputable def openS (ops : Array Oper) : TF := fun tail P inl A C Γ items σ nk k => openR P ops inl A.1 A.2 C Γ items tail σ nk k
noncomputable def cRegionY (_ : Nat) (ops : Array Oper) (draw : Bool) : TF := fun tail => Bool.rec (motive := fun _ => SF) (goOn (.inRegion ops (List.range ops.size) :: tail)) (openS ops tail) draw
noncomputable def codeRY (c : Code) : TF := Code.rec (motive := fun _ => TF) cSkip cRegionY cSeq cCond cBlock cLoop cRange cExit cScope cLabel cGoto cRet cRefuse c
noncomputable def itemRY (i : Item) : TF := Item.rec (motive := fun _ => TF) codeRY tPass1 iLoop iScope iRegion iHalt1 iHalt1 iBegin iCall iExtern i
noncomputable def lConsY (i : Item) (tail : List Item) (_ : SF) : SF := itemRY i tail
noncomputable def stepRY (items : List Item) : SF := List.rec (motive := fun _ => SF) lNil lConsY items
theorem stepRY_eq (P : Program) (inl : FuncId → Bool) (A : Run_ × Call_) (C : Cx) (Γ : Facts) (items : List Item) (σ : SS) (nk : Nat) (k : Kont) : stepRY items P inl A C Γ items σ nk k = stepY P inl A.1 A.2 C Γ items σ nk k := by
 have old : ∀ its, stepR its P inl A C Γ items σ nk k = stepR its P inl A C Γ items σ nk k := fun _ => rfl
 unfold stepY
 split
 ·rfl
 ·rename_i hne
  rw [← stepR_eq]
  cases items with
  | nil => rfl
  | cons i tail =>
   cases i with
   | code c =>
    cases c with
    | region id ops d =>
     cases d with
     | false => rfl
     | true => exact absurd rfl (hne id ops tail)
    | _ => rfl
   | _ => rfl
end Mw
set_option linter.unusedVariables false
namespace Mw
open Go Mv
mutual
def namesSC : SC → List Nat
 | .ptr b _ => [b]
 | .slice b _ _ _ => [b]
 | .ref b => [b]
 | .chn b => [b]
 | .fn _ f c => namesL f ++ namesL c
 | .iface _ x => namesSC x
 | .agg l => namesL l
 | .tup l => namesL l
 | _ => []
def namesL : List SC → List Nat
 | [] => []
 | x :: l => namesSC x ++ namesL l
end
def namesSO : SO → List Nat
 | .cells l _ => namesL l
 | .row l _ _ => namesL l
 | .map es => es.flatMap fun x => namesSC x.1 ++ namesSC x.2
 | .pin es sh => es.flatMap fun x => namesSC x.1 ++ namesSC x.2
 | .itr m _ _ _ _ => [m]
 | .chan _ l _ _ _ _ => namesL l
 | _ => []
def reachT (rw : Tr SO) : Nat → List Nat → List Nat → List Nat
 | 0, _, acc => acc
 | _ + 1, [], acc => acc
 | n + 1, i :: todo, acc => match acc.contains i with
  | true => reachT rw n todo acc
  | false => match rw.look i with
   | some o => reachT rw n (namesSO o ++ todo) (i :: acc)
   | none => reachT rw n todo acc
def SGh.lend (i : Nat) : SGh → SGh
 | .main ty iW iC cap tm lent n => .main ty iW iC cap tm (i :: lent) n
 | g => g
def SGh.isMain : SGh → Bool
 | .main .. => true
 | _ => false
def Hp.lend (hp : Hp) (i : Nat) : Option Hp := match hp.gh.isMain, hp.rw.look i with
 | true, some o => some ⟨hp.rw.del i, hp.ro.set i o, hp.gh.lend i⟩
 | _, _ => none
def lendAll : List Nat → Hp → Option Hp
 | [], hp => some hp
 | i :: l, hp => match hp.lend i with
  | some hp => lendAll l hp
  | none => none
def lendOwn (S : Own) (b : Nat) (g : Gh) : Own := ⟨fun x => if x = b then none else S.full x, fun x => if x = b then S.full b else S.ro x, g⟩
theorem lendOwn_part {S : Own} {b : Nat} {g : Gh} (hd : ∀ b, (S.full b).isSome → S.ro b = none) : Mv.Part S (lendOwn S b g) where
 f x o h := by simp only [lendOwn] at h; split at h <;> simp_all
 r x o h := by
  simp only [lendOwn] at h
  split at h
  ·rename_i e; subst e; exact .inl h
  ·exact .inr h
 disj x h := by
  simp only [lendOwn] at h ⊢
  split at h
  ·cases h
  ·rename_i e; rw [if_neg e]; exact hd x h
theorem part_trans {S S1 S2 : Own} (h : Mv.Part S S1) (h' : Mv.Part S1 S2) : Mv.Part S S2 where
 f b o hb := h.f b o (h'.f b o hb)
 r b o hb := (h'.r b o hb).elim (fun e => .inl (h.f b o e)) (h.r b o)
 disj := h'.disj
theorem part_refl {S : Own} (hd : ∀ b, (S.full b).isSome → S.ro b = none) : Mv.Part S S := ⟨fun _ _ h => h, fun _ _ h => .inr h, hd⟩
section
variable {ρ : Env} {hp hp' : Hp} {F S : Own}
theorem Sat.lend {i : Nat} (h : Sat ρ hp F S) (hl : hp.lend i = some hp') : ∃ S', Sat ρ hp' F S' ∧ Mv.Part S S' ∧ (∀ j ∈ hp'.gh.lents, j ∈ hp.gh.lents ∨ (S.full (ρ.blk j)).isSome) ∧ S'.gh = hp'.gh.den ρ := by
 unfold Hp.lend at hl
 split at hl
 ·rename_i o hm hi
  simp only [Option.some.injEq] at hl
  subst hl
  obtain ⟨h1, h2, h3⟩ := h.has i o hi
  have hlents : (hp.gh.lend i).lents = i :: hp.gh.lents := by
   cases hg : hp.gh <;> rw [hg] at hm <;> first | rfl | (cases hm)
  have hok : (hp.gh.lend i).ok ρ := by
   have := h.ghok
   cases hg : hp.gh <;> rw [hg] at hm this <;> first
    | (exact ⟨this.1, this.2.1, fun j hj => (List.mem_cons.1 hj).elim (fun e => e ▸ h1) (this.2.2.1 j), this.2.2.2⟩)
    | (cases hm)
  have hne : ∀ j ∈ hp.gh.lents, ρ.blk j ≠ ρ.blk i := fun j hj e => by
   have := (h.lent j hj).2
   rw [e, h.dis _ (by rw [h3]; rfl)] at this; cases this
  refine ⟨lendOwn S (ρ.blk i) ((hp.gh.lend i).den ρ), ?_, lendOwn_part h.dis, ?_, rfl⟩
  ·exact {
    has := fun j u hj => by
     obtain ⟨hji, hj⟩ := Tr.look_del hj
     obtain ⟨k1, k2, k3⟩ := h.has j u hj
     refine ⟨k1, k2, ?_⟩
     simp only [lendOwn]
     rw [if_neg (fun e => hji (h.inj _ _ _ _ hj hi e))]; exact k3
    hro := fun j u hj => by
     rcases Tr.look_set hj with ⟨rfl, rfl⟩ | ⟨hji, hj⟩
     ·exact ⟨h1, h2, by simp only [lendOwn]; rw [if_pos trivial]; exact h3⟩
     ·obtain ⟨k1, k2, k3⟩ := h.hro j u hj
      refine ⟨k1, k2, ?_⟩
      simp only [lendOwn]
      rw [if_neg (fun e => by rw [e, h.dis _ (by rw [h3]; rfl)] at k3; cases k3)]; exact k3
    inj := fun j j' u u' hj hj' e => h.inj _ _ _ _ (Tr.look_del hj).2 (Tr.look_del hj').2 e
    frm := fun b x hb => by
     simp only [lendOwn]
     split
     ·rename_i e; subst e; rw [h.apart i o hi] at hb; cases hb
     ·exact h.frm b x hb
    apart := fun j u hj => h.apart j u (Tr.look_del hj).2
    ro := fun b x hb => by
     simp only [lendOwn]
     split
     ·rename_i e; subst e
      have := h.ro _ _ hb
      rw [h.dis _ (by rw [h3]; rfl)] at this; cases this
     ·exact h.ro b x hb
    gh := rfl
    dis := fun b hb => by
     simp only [lendOwn] at hb ⊢
     split at hb
     ·cases hb
     ·rename_i e; rw [if_neg e]; exact h.dis b hb
    ghok := hok
    lent := fun j hj => by
     rw [hlents] at hj
     rcases List.mem_cons.1 hj with rfl | hj
     ·refine ⟨?_, ?_⟩
      ·cases hf : F.ro (ρ.blk j) with
       | none => rfl
       | some x => have := h.ro _ _ hf; rw [h.dis _ (by rw [h3]; rfl)] at this; cases this
      ·simp only [lendOwn]; rw [if_pos trivial, h3]; rfl
     ·obtain ⟨k1, k2⟩ := h.lent j hj
      refine ⟨k1, ?_⟩
      simp only [lendOwn]
      rw [if_neg (hne j hj)]; exact k2
    linj := fun j hj k hk e => by
     rw [hlents] at hj hk
     rcases List.mem_cons.1 hj with e1 | hj'
     ·rcases List.mem_cons.1 hk with e2 | hk'
      ·exact e1.trans e2.symm
      ·exact absurd (by rw [← e, e1]) (hne k hk')
     ·rcases List.mem_cons.1 hk with e2 | hk'
      ·exact absurd (by rw [e, e2]) (hne j hj')
      ·exact h.linj j hj' k hk' e
    rinj := fun j hj k u hk e => by
     rw [hlents] at hj
     rcases List.mem_cons.1 hj with e1 | hj'
     ·rcases Tr.look_set hk with ⟨e2, _⟩ | ⟨hki, hk'⟩
      ·exact e1.trans e2.symm
      ·have := (h.hro k u hk').2.2
       rw [← e, e1, h.dis _ (by rw [h3]; rfl)] at this; cases this
     ·rcases Tr.look_set hk with ⟨e2, _⟩ | ⟨hki, hk'⟩
      ·exact absurd (by rw [e, e2]) (hne j hj')
      ·exact h.rinj j hj' k u hk' e
    lnd := by
     rw [hlents]
     exact List.nodup_cons.2 ⟨fun hm => hne i hm rfl, h.lnd⟩ }
  ·intro j hj
   rw [hlents] at hj
   rcases List.mem_cons.1 hj with rfl | hj
   ·exact .inr (by rw [h3]; rfl)
   ·exact .inl hj
 ·cases hl
theorem lendAll_sat : ∀ (l : List Nat) (hp hp' : Hp) (S : Own), Sat ρ hp F S → lendAll l hp = some hp' → ∃ S', Sat ρ hp' F S' ∧ Mv.Part S S' ∧ (∀ j ∈ hp'.gh.lents, j ∈ hp.gh.lents ∨ (S.full (ρ.blk j)).isSome)
 | [], hp, hp', S, h, hl => by
  simp only [lendAll, Option.some.injEq] at hl; subst hl
  exact ⟨S, h, part_refl h.dis, fun j hj => .inl hj⟩
 | i :: l, hp, hp', S, h, hl => by
  simp only [lendAll] at hl
  split at hl
  ·rename_i hp1 h1
   obtain ⟨S1, k1, k2, k3, _⟩ := h.lend h1
   obtain ⟨S2, k4, k5, k6⟩ := lendAll_sat l hp1 hp' S1 k1 hl
   refine ⟨S2, k4, part_trans k2 k5, fun j hj => ?_⟩
   rcases k6 j hj with e | e
   ·exact k3 j e
   ·exact .inr (k2.fs e)
  ·cases hl
def SGh.home : SGh → Option (Nat × SGh)
 | .main ty iW iC cap tm (i :: lent) n => some (i, .main ty iW iC cap tm lent n)
 | _ => Option.none
def thawAll : Nat → Hp → Option Hp
 | 0, hp => match hp.gh.lents with
  | [] => some hp
  | _ :: _ => none
 | n + 1, hp => match hp.gh.home with
  | some (i, g) => match hp.ro.look i with
   | some o => thawAll n ⟨hp.rw.set i o, hp.ro.del i, g⟩
   | none => none
  | none => none
structure Homing (l : Nat → Prop) (S S' : Own) : Prop where
 full : ∀ b o, S'.full b = some o → S.full b = some o ∨ (l b ∧ S.ro b = some o)
 ro : ∀ b o, S'.ro b = some o → S.ro b = some o
def thawOwn (S : Own) (b : Nat) (g : Gh) : Own := ⟨fun x => if x = b then S.ro b else S.full x, fun x => if x = b then none else S.ro x, g⟩
theorem Sat.thaw {i : Nat} {g : SGh} {o : SO} (h : Sat ρ hp F S) (hh : hp.gh.home = some (i, g)) (ho : hp.ro.look i = some o) :
  Sat ρ ⟨hp.rw.set i o, hp.ro.del i, g⟩ F (thawOwn S (ρ.blk i) (g.den ρ)) := by
 obtain ⟨ty, iW, iC, cap, tm, lent, n, e1, e2⟩ : ∃ ty iW iC cap tm lent n, hp.gh = .main ty iW iC cap tm (i :: lent) n ∧ g = .main ty iW iC cap tm lent n := by
  unfold SGh.home at hh
  split at hh
  ·simp only [Option.some.injEq, Prod.mk.injEq] at hh
   obtain ⟨rfl, rfl⟩ := hh
   rename_i hg
   exact ⟨_, _, _, _, _, _, _, hg, rfl⟩
  ·cases hh
 have hl : hp.gh.lents = i :: lent := by rw [e1]; rfl
 have hgl : g.lents = lent := by rw [e2]; rfl
 have him : i ∈ hp.gh.lents := by rw [hl]; exact List.mem_cons_self
 obtain ⟨h1, h2, h3⟩ := h.hro i o ho
 have hfn : S.full (ρ.blk i) = none := by
  cases hf : S.full (ρ.blk i) with
  | none => rfl
  | some x => have := h.dis _ (by rw [hf]; rfl); rw [h3] at this; cases this
 have hne : ∀ j u, hp.rw.look j = some u → ρ.blk j ≠ ρ.blk i := fun j u hj e => by
  have := (h.has j u hj).2.2
  rw [e, hfn] at this; cases this
 have hnd : i ∉ lent ∧ lent.Nodup := by have := h.lnd; rw [hl] at this; exact List.nodup_cons.1 this
 have hlm : ∀ j ∈ lent, j ∈ hp.gh.lents := fun j hj => by rw [hl]; exact List.mem_cons_of_mem _ hj
 have hnl : ∀ j ∈ lent, ρ.blk j ≠ ρ.blk i := fun j hj e => by
  have := h.linj j (hlm j hj) i him e
  subst this; exact hnd.1 hj
 exact {
  has := fun j u hj => by
   rcases Tr.look_set hj with ⟨rfl, rfl⟩ | ⟨_, hj⟩
   ·exact ⟨h1, h2, by simp only [thawOwn]; rw [if_pos trivial]; exact h3⟩
   ·obtain ⟨k1, k2, k3⟩ := h.has j u hj
    exact ⟨k1, k2, by simp only [thawOwn]; rw [if_neg (hne j u hj)]; exact k3⟩
  hro := fun j u hj => by
   obtain ⟨hji, hj⟩ := Tr.look_del hj
   obtain ⟨k1, k2, k3⟩ := h.hro j u hj
   refine ⟨k1, k2, ?_⟩
   simp only [thawOwn]
   rw [if_neg (fun e => hji (h.rinj i him j u hj e.symm).symm)]; exact k3
  inj := fun j j' u u' hj hj' e => by
   rcases Tr.look_set hj with ⟨e1, _⟩ | ⟨_, k1⟩
   ·rcases Tr.look_set hj' with ⟨e2, _⟩ | ⟨_, k2⟩
    ·exact e1.trans e2.symm
    ·exact absurd (by rw [← e, e1]) (hne _ _ k2)
   ·rcases Tr.look_set hj' with ⟨e2, _⟩ | ⟨_, k2⟩
    ·exact absurd (by rw [e, e2]) (hne _ _ k1)
    ·exact h.inj _ _ _ _ k1 k2 e
  frm := fun b x hb => by
   simp only [thawOwn]
   split
   ·rename_i e; subst e; have := h.frm _ _ hb; rw [hfn] at this; cases this
   ·exact h.frm b x hb
  apart := fun j u hj => by
   rcases Tr.look_set hj with ⟨rfl, _⟩ | ⟨_, hj⟩
   ·cases hf : F.full (ρ.blk j) with
    | none => rfl
    | some x => have := h.frm _ _ hf; rw [hfn] at this; cases this
   ·exact h.apart j u hj
  ro := fun b x hb => by
   simp only [thawOwn]
   split
   ·rename_i e; subst e; rw [(h.lent i him).1] at hb; cases hb
   ·exact h.ro b x hb
  gh := rfl
  dis := fun b hb => by
   simp only [thawOwn] at hb ⊢
   split
   ·rfl
   ·rename_i e; rw [if_neg e] at hb; exact h.dis b hb
  ghok := by
   have := h.ghok
   rw [e1] at this
   rw [e2]
   exact ⟨this.1, this.2.1, fun j hj => this.2.2.1 j (List.mem_cons_of_mem _ hj), this.2.2.2⟩
  lent := fun j hj => by
   have hj' : j ∈ lent := by rw [← hgl]; exact hj
   obtain ⟨k1, k2⟩ := h.lent j (hlm j hj')
   refine ⟨k1, ?_⟩
   simp only [thawOwn]
   rw [if_neg (hnl j hj')]; exact k2
  linj := fun j hj k hk e => h.linj j (hlm j (by rw [← hgl]; exact hj)) k (hlm k (by rw [← hgl]; exact hk)) e
  rinj := fun j hj k u hk e => h.rinj j (hlm j (by rw [← hgl]; exact hj)) k u (Tr.look_del hk).2 e
  lnd := by show g.lents.Nodup; rw [hgl]; exact hnd.2 }
theorem thawAll_sat : ∀ (n : Nat) (hp hp' : Hp) (S : Own), Sat ρ hp F S → thawAll n hp = some hp' → ∃ S', Sat ρ hp' F S' ∧ Homing (fun b => ∃ i ∈ hp.gh.lents, ρ.blk i = b) S S' ∧ hp'.gh.lents = []
 | 0, hp, hp', S, h, hl => by
  simp only [thawAll] at hl
  split at hl
  ·rename_i hn
   simp only [Option.some.injEq] at hl; subst hl
   exact ⟨S, h, ⟨fun b o hb => .inl hb, fun b o hb => hb⟩, hn⟩
  ·cases hl
 | n + 1, hp, hp', S, h, hl => by
  simp only [thawAll] at hl
  split at hl
  ·rename_i i g hh
   split at hl
   ·rename_i o ho
    obtain ⟨S2, k1, k2, k3⟩ := thawAll_sat n _ hp' _ (h.thaw hh ho) hl
    have hmem : ∀ j, j ∈ g.lents → j ∈ hp.gh.lents := by
     unfold SGh.home at hh
     split at hh
     ·rename_i hg
      simp only [Option.some.injEq, Prod.mk.injEq] at hh
      obtain ⟨rfl, rfl⟩ := hh
      rw [hg]; exact fun j hj => List.mem_cons_of_mem _ hj
     ·cases hh
    have him : i ∈ hp.gh.lents := by
     unfold SGh.home at hh
     split at hh
     ·rename_i hg
      simp only [Option.some.injEq, Prod.mk.injEq] at hh
      obtain ⟨rfl, rfl⟩ := hh
      rw [hg]; exact List.mem_cons_self
     ·cases hh
    refine ⟨S2, k1, ⟨fun b x hb => ?_, fun b x hb => ?_⟩, k3⟩
    ·rcases k2.full b x hb with e | ⟨⟨j, hj, hjb⟩, e⟩
     ·simp only [thawOwn] at e
      split at e
      ·rename_i eb; subst eb; exact .inr ⟨⟨i, him, rfl⟩, e⟩
      ·exact .inl e
     ·simp only [thawOwn] at e
      split at e
      ·cases e
      ·exact .inr ⟨⟨j, hmem j hj, hjb⟩, e⟩
    ·have := k2.ro b x hb
     simp only [thawOwn] at this
     split at this
     ·cases this
     ·exact this
   ·cases hl
  ·cases hl
end
end Mw
set_option linter.unusedVariables false
namespace Mw
open Go Mv
open Go.Conc.Lib (WgLink WgLib)
structure Hook where
 L : WgLink
 go : FuncId
 g1 : FuncId
 g11 : FuncId
 tF : TypeId
def findChan (rw : Tr SO) : Nat → Option Nat
 | 0 => none
 | n + 1 => match rw.look n with
  | some (.chan _ [] false _ _ _) => some n
  | _ => findChan rw n
def beginG (hk : Hook) (iW : Nat) (hp : Hp) (nk : Nat) : Option Hp := match hp.gh with
 | .none => match findChan hp.rw nk with
  | some iC => match hp.rw.look iW, hp.rw.look iC with
   | some (.cells [.int .u64 (.lit (.ofNat 0)), .int .u32 (.lit (.ofNat 0))] ty), some (.chan cap [] false ns nr tm) => match Nat.beq ty hk.L.tWg, Nat.beq iW iC with
    | true, false => some ⟨(hp.rw.del iW).del iC, hp.ro, .main ty iW iC cap tm [] []⟩
    | _, _ => none
   | _, _ => none
  | none => none
 | .main ty jW iC cap tm lent n => match Nat.beq iW jW, Nat.beq ty hk.L.tWg with
  | true, true => some hp
  | _, _ => none
 | _ => none
def SGh.more (ms : List SM) : SGh → SGh
 | .main ty iW iC cap tm lent ps => .main ty iW iC cap tm lent (ps ++ [ms])
 | g => g
section
variable {ρ : Env} {hp hp' : Hp} {F S : Own}
theorem Sat.stand {g : SGh} (h : Sat ρ hp F S) (hl : g.lents = hp.gh.lents) (hok : g.ok ρ) : Sat ρ { hp with gh := g } F (S.as (g.den ρ)) where
 has := h.has
 hro := h.hro
 inj := h.inj
 frm := h.frm
 apart := h.apart
 ro := h.ro
 gh := rfl
 dis := h.dis
 ghok := hok
 lent i hi := h.lent i (by rw [← hl]; exact hi)
 linj i hi j hj := h.linj i (by rw [← hl]; exact hi) j (by rw [← hl]; exact hj)
 rinj i hi := h.rinj i (by rw [← hl]; exact hi)
 lnd := by show g.lents.Nodup; rw [hl]; exact h.lnd
theorem Sat.but {i : Nat} {o : SO} (h : Sat ρ hp F S) (hi : hp.rw.look i = some o) : Sat ρ { hp with rw := hp.rw.del i } F ((S.but (ρ.blk i)).as S.gh) where
 has j u hj := by
  obtain ⟨hji, hj⟩ := Tr.look_del hj
  obtain ⟨k1, k2, k3⟩ := h.has j u hj
  refine ⟨k1, k2, ?_⟩
  simp only [Own.but, Own.as]
  rw [if_neg (fun e => hji (h.inj _ _ _ _ hj hi e))]; exact k3
 hro := h.hro
 inj j j' u u' hj hj' e := h.inj _ _ _ _ (Tr.look_del hj).2 (Tr.look_del hj').2 e
 frm b x hb := by
  simp only [Own.but, Own.as]
  rw [if_neg (fun e => by subst e; rw [h.apart i o hi] at hb; cases hb)]; exact h.frm b x hb
 apart j u hj := h.apart j u (Tr.look_del hj).2
 ro := h.ro
 gh := h.gh
 dis b hb := by
  simp only [Own.but, Own.as] at hb
  split at hb
  ·cases hb
  ·exact h.dis b hb
 ghok := h.ghok
 lent := h.lent
 linj := h.linj
 rinj := h.rinj
 lnd := h.lnd
variable {P : Program} {N : Nat} {w0 : Option World}
theorem beginG_sound {hk : Hook} {iW nk : Nat} (hs : Sat ρ hp F S) (h : beginG hk iW hp nk = some hp') : ∃ S' iC cap tm lent n, Sat ρ hp' F S' ∧ hp'.gh = .main hk.L.tWg iW iC cap tm lent n ∧
  ∀ Stop g, g.status = .running → Goes P (Co.team P N w0) Stop g S' → Goes P (Co.team P N w0) Stop g S := by
 unfold beginG at h
 split at h
 ·rename_i hg
  split at h
  ·rename_i iC hf
   split at h
   ·rename_i ty cap ns nr tm hW hC
    split at h
    ·rename_i hty hne
     have hty := Nat.eq_of_beq_eq_true hty
     have hne : iW ≠ iC := fun e => by rw [e, Nat.beq_refl] at hne; cases hne
     simp only [Option.some.injEq] at h; subst h; subst hty
     obtain ⟨w1, w2, w3⟩ := hs.has _ _ hW
     obtain ⟨c1, c2, c3⟩ := hs.has _ _ hC
     have hbne : ρ.blk iW ≠ ρ.blk iC := fun e => hne (hs.inj _ _ _ _ hW hC e)
     have hC' : (hp.rw.del iW).look iC = some (.chan cap [] false ns nr tm) ∨ (hp.rw.del iW).look iC = none := by
      cases hx : (hp.rw.del iW).look iC with
      | none => exact .inr rfl
      | some u =>
       have := (Tr.look_del hx).2
       rw [hC] at this; cases this; exact .inl rfl
     have hgn : S.gh = .none := by rw [hs.gh, hg]; rfl
     have s1 := hs.but hW
     have s2 : Sat ρ { hp with rw := (hp.rw.del iW).del iC } F ((((S.but (ρ.blk iW)).as S.gh).but (ρ.blk iC)).as S.gh) := by
      rcases hC' with hC' | hC'
      ·exact s1.but hC'
      ·have s3 := s1
       exact {
        has := fun j u hj => by
         obtain ⟨hji, hj⟩ := Tr.look_del hj
         obtain ⟨k1, k2, k3⟩ := s1.has j u hj
         refine ⟨k1, k2, ?_⟩
         have hjj := (Tr.look_del hj).2
         have : ρ.blk j ≠ ρ.blk iC := fun e => hji (hs.inj _ _ _ _ hjj hC e)
         show (if ρ.blk j = ρ.blk iC then none else _) = _
         rw [if_neg this]; exact k3
        hro := s1.hro
        inj := fun j j' u u' hj hj' e => s1.inj _ _ _ _ (Tr.look_del hj).2 (Tr.look_del hj').2 e
        frm := fun b x hb => by
         show (if b = ρ.blk iC then none else _) = _
         rw [if_neg (fun e => by subst e; rw [hs.apart _ _ hC] at hb; cases hb)]; exact s1.frm b x hb
        apart := fun j u hj => s1.apart j u (Tr.look_del hj).2
        ro := s1.ro
        gh := s1.gh
        dis := fun b hb => by
         have hb' : (if b = ρ.blk iC then none else ((S.but (ρ.blk iW)).as S.gh).full b).isSome = true := hb
         split at hb'
         ·cases hb'
         ·exact s1.dis b hb'
        ghok := s1.ghok
        lent := s1.lent
        linj := s1.linj
        rinj := s1.rinj
        lnd := s1.lnd }
     have s4 := s2.stand (g := .main hk.L.tWg iW iC cap tm [] []) (by show [] = hp.gh.lents; rw [hg]; rfl) ⟨w1, c1, fun i hi => (by cases hi), fun ms hm => by cases hm⟩
     refine ⟨_, iC, cap, tm, [], [], s4, rfl, fun Stop g hr hG => ?_⟩
     refine .big (fun g' S' => g' = g ∧ S' = _) (reach_begin (K := ρ.grp hk.L.tWg iW iC cap tm) (ns := (ns.den ρ).toNat) (nr := (nr.den ρ).toNat) hr w3 c3 hgn hbne ⟨rfl, rfl⟩) ?_
     rintro g' S' ⟨rfl, rfl⟩
     have e1 : SGh.den ρ (.main hk.L.tWg iW iC cap tm [] []) = .main (ρ.grp hk.L.tWg iW iC cap tm) (fun _ => False) (.op false false) [] := by
      simp [SGh.den]
     rw [e1] at hG
     exact hG
    ·cases h
   ·cases h
  ·cases h
 ·rename_i ty jW iC cap tm lent n hg
  split at h
  ·rename_i h1 h2
   obtain rfl := Nat.eq_of_beq_eq_true h1
   obtain rfl := Nat.eq_of_beq_eq_true h2
   simp only [Option.some.injEq] at h; subst h
   exact ⟨S, iC, cap, tm, lent, n, hs, hg, fun Stop g _ hG => hG⟩
  ·cases h
 ·cases h
end
def ins {α : Type} (a : α) : List α → List (List α)
 | [] => [[a]]
 | b :: l => (a :: b :: l) :: (ins a l).map (b :: ·)
def perms {α : Type} : List α → List (List α)
 | [] => [[]]
 | a :: l => (perms l).flatMap (ins a)
theorem ins_mem {α : Type} (a : α) : ∀ (l r : List α), l ++ a :: r ∈ ins a (l ++ r)
 | [], [] => by simp [ins]
 | [], b :: r => by simp [ins]
 | b :: l, r => by
  simp only [List.cons_append, ins, List.mem_cons, List.mem_map]
  exact .inr ⟨_, ins_mem a l r, rfl⟩
theorem perms_mem {α : Type} : ∀ (l L : List α), L.Perm l → L ∈ perms l
 | [], L, h => by rw [h.eq_nil]; simp [perms]
 | a :: l, L, h => by
  obtain ⟨x, y, rfl⟩ := List.append_of_mem (h.symm.subset (List.mem_cons_self ..))
  have h2 : (x ++ y).Perm l := List.Perm.cons_inv (List.perm_middle.symm.trans h)
  simp only [perms, List.mem_flatMap]
  exact ⟨x ++ y, perms_mem l _ h2, ins_mem a x y⟩
def eachOf {α : Type} (f : α → Tree) : List α → Tree
 | [] => .ok
 | a :: l => .both (f a) (eachOf f l)
theorem eachOf_holds {α : Type} {D : Env → SEx → SS → Prop} {E : Env → List Item → SS → Prop} {ρ : Env} {f : α → Tree} : ∀ {l : List α}, holds D E ρ (eachOf f l) → ∀ a ∈ l, holds D E ρ (f a)
 | b :: l, h, a, ha => by
  rcases List.mem_cons.1 ha with rfl | ha
  ·exact h.1
  ·exact eachOf_holds h.2 a ha
def waitF (hk : Hook) (args : List SC) (hp : Hp) (nk : Nat) (Γ : Facts) (k : KEnd) : Tree := match args with
 | [.ptr iW (.lit (.ofNat 0))] => match hp.gh with
  | .main ty jW iC cap tm lent n => match Nat.beq iW jW, Nat.beq ty hk.L.tWg, Nat.ble n.length 999999, thawAll lent.length hp with
   | true, true, true, some hp1 => eachOf (fun L => match giftAll L nk hp1.rw with
    | some (rw', vs, nk') => news (nk' - nk) (.new (.new (k (.ret (.tup [])) none ⟨rw'.set iC (.chan cap vs false (.room nk' 1) (.room (nk' + 1) 1) tm), hp1.ro, .none⟩ (nk' + 2) Γ)))
    | none => .bad) (perms n.flatten)
   | _, _, _, _ => .bad
  | _ => .bad
 | _ => .bad
theorem facts_ext {Γ : Facts} : ∀ (t : List (Nat × List Value)) {ρ : Env}, Γ.On ρ → Γ.On { ρ with k := ρ.k ++ t }
 | [], ρ, h => by simpa using h
 | x :: t, ρ, h => by
  have := facts_ext t (h.grow x.1 x.2)
  simpa [Env.grow] using this
theorem callable_wait {P : Program} {L : WgLink} (H : WgLib P L) : Callable P L.wait := ⟨_, H.f_wait, Go.ConcR.Gen.nm_wait L, rfl⟩
section
variable {P : Program} {N : Nat} {w0 : Option World}
theorem waitF_sound {hk : Hook} (H : WgLib P hk.L) {D : Env → SEx → SS → Prop} {E : Env → List Item → SS → Prop} {args : List SC} {hp : Hp} {nk : Nat} {Γ : Facts} {k : KEnd} {ρ : Env} {F S : Own} {Post : Mv.End → Own → Prop} (hΓ : Γ.On ρ) (hnk : ρ.k.length = nk) (hs : Sat ρ hp F S)
  (hpost : ∀ ρ' e cm hp' Γ', Ext ρ ρ' → Γ'.On ρ' → e.ok ρ'.k.length → holds D E ρ' (k e cm hp' ρ'.k.length Γ') → ∀ S', Sat ρ' hp' F S' → Post (e.den ρ') S')
  (h : holds D E ρ (waitF hk args hp nk Γ k)) : Callable P hk.L.wait ∧ Calls P (Co.team P N w0) hk.L.wait (args.map (SC.den ρ)).toArray S Post := by
 refine ⟨callable_wait H, ?_⟩
 subst hnk
 unfold waitF at h
 split at h
 ·rename_i iW
  split at h
  ·rename_i ty jW iC cap tm lent n hg
   split at h
   ·rename_i hp1 h1 h2 h3 h4
    obtain rfl := Nat.eq_of_beq_eq_true h1
    obtain rfl := Nat.eq_of_beq_eq_true h2
    have h3 := Nat.le_of_ble_eq_true h3
    obtain ⟨S1, s1, hom, hl1⟩ := thawAll_sat _ _ _ _ hs h4
    have hgh : S.gh = .main (ρ.grp hk.L.tWg iW iC cap tm) (fun b => ∃ i ∈ lent, ρ.blk i = b) (.op false false) (n.map (pactOf ρ)) := by rw [hs.gh, hg]; rfl
    have hlents : hp.gh.lents = lent := by rw [hg]; rfl
    rw [hlents] at hom
    have hCok : iC < ρ.k.length := by have := hs.ghok; rw [hg] at this; exact this.2.1
    have hps : ∀ ms ∈ n, ∀ x ∈ ms, x.a ≤ ρ.k.length ∧ x.ok := by have := hs.ghok; rw [hg] at this; exact this.2.2.2
    have hall : ∀ L' ∈ perms n.flatten, ∃ rw' vs nk', giftAll L' ρ.k.length hp1.rw = some (rw', vs, nk') ∧
      holds D E ρ (news (nk' - ρ.k.length) (.new (.new (k (.ret (.tup [])) none ⟨rw'.set iC (.chan cap vs false (.room nk' 1) (.room (nk' + 1) 1) tm), hp1.ro, .none⟩ (nk' + 2) Γ)))) := fun L' hL' => by
     have h5 := eachOf_holds h L' hL'
     split at h5
     ·rename_i rw' vs nk' hgv
      exact ⟨_, _, _, hgv, h5⟩
     ·exact h5.elim
    have hcall := Mx.calls_wait (N := N) (w0 := w0) (K := ρ.grp hk.L.tWg iW iC cap tm) (S := S) H rfl ⟨_, _, _, hgh⟩ hgh (by simp; omega)
     (Post := fun S' => ∃ L' ∈ perms n.flatten, ∃ rw' vs nk' ρG, giftAll L' ρ.k.length hp1.rw = some (rw', vs, nk') ∧ Ext ρ ρG ∧ ρG.k.length = nk' ∧ ρ.k.length ≤ nk' ∧
      ∃ ns nr, Sat ((ρG.grow 0 (List.replicate ns undef)).grow 0 (List.replicate nr undef)) ⟨rw'.set iC (.chan cap vs false (.room nk' 1) (.room (nk' + 1) 1) tm), hp1.ro, .none⟩ F S') (by
      intro sents L ns nr hlen hok hperm hm hpw hC
      have hP : Pw (Pw fun m x => SM.says ρ x m) sents n := Pw.of_get (by rw [hlen, List.length_map]) fun i ms xs hms hxs =>
       hok i (pactOf ρ xs) ms (by rw [List.getElem?_map, hxs]; rfl) hms
      obtain ⟨L', hL1, hL2⟩ := Pw.perm hperm.symm hP.flat
      have hL' : L' ∈ perms n.flatten := perms_mem _ _ hL1.symm
      obtain ⟨rw', vs, nk', hgv, _⟩ := hall L' hL'
      have hCn : S1.full (ρ.blk iC) = none ∧ S1.ro (ρ.blk iC) = none := by
       obtain ⟨c1, c2⟩ := hC
       refine ⟨?_, ?_⟩
       ·cases hf : S1.full (ρ.blk iC) with
        | none => rfl
        | some o =>
         rcases hom.full _ _ hf with e | ⟨_, e⟩
         ·have e' : S.full (ρ.grp hk.L.tWg iW iC cap tm).C = some o := e
          rw [c1] at e'; cases e'
         ·have e' : S.ro (ρ.grp hk.L.tWg iW iC cap tm).C = some o := e
          rw [c2] at e'; cases e'
       ·cases hf : S1.ro (ρ.blk iC) with
        | none => rfl
        | some o =>
         have e' : S.ro (ρ.grp hk.L.tWg iW iC cap tm).C = some o := hom.ro _ _ hf
         rw [c2] at e'; cases e'
      have hap : ∀ m ∈ L, ∀ b, (m.2 b).isSome → S1.full b = none ∧ S1.ro b = none := fun m hmL b hb => by
       obtain ⟨q1, q2, _⟩ := hm m hmL b hb
       refine ⟨?_, ?_⟩
       ·cases hf : S1.full b with
        | none => rfl
        | some o =>
         rcases hom.full _ _ hf with e | ⟨_, e⟩
         ·rw [q1] at e; cases e
         ·rw [q2] at e; cases e
       ·cases hf : S1.ro b with
        | none => rfl
        | some o =>
         have e := hom.ro _ _ hf
         rw [q2] at e; cases e
      have hmem : ∀ x ∈ L', x.a ≤ ρ.k.length ∧ x.ok := fun x hx => by
       obtain ⟨ms, h6, h7⟩ := List.mem_flatten.1 (hL1.mem_iff.2 hx)
       exact hps ms h6 x h7
      obtain ⟨ρG, eG, lG, lG', sG, vG, kG⟩ := gift_all L' L ρ hp1 S1 s1 hl1 hmem hL2 hap hpw hgv
      have hbG : ρG.blk iC = ρ.blk iC := by
       obtain ⟨t, rfl⟩ := eG
       simp only [Env.blk, List.getD_eq_getElem?_getD, List.getElem?_append_left hCok]
      have hCG : (withAll S1 L).full (ρG.blk iC) = none ∧ (withAll S1 L).ro (ρG.blk iC) = none := by
       rw [hbG]
       refine ⟨?_, by rw [withAll_ro]; exact hCn.2⟩
       cases hf : (withAll S1 L).full (ρ.blk iC) with
       | none => rfl
       | some o =>
        rcases withAll_full hf with e | ⟨m, hmL, e⟩
        ·rw [hCn.1] at e; cases e
        ·exact absurd rfl (hm m hmL (ρ.blk iC) (by rw [e]; rfl)).2.2
      have hCok : iC < ρG.k.length := by omega
      have g1 := sG.grow (b := 0) (r := List.replicate ns undef)
      have g2 := g1.grow (b := 0) (r := List.replicate nr undef)
      have hb2 : ((ρG.grow 0 (List.replicate ns undef)).grow 0 (List.replicate nr undef)).blk iC = ρG.blk iC := by
       rw [blk_grow _ _ _ (by simp; omega), blk_grow _ _ _ hCok]
      have hden : (SO.chan cap vs false (.room nk' 1) (.room (nk' + 1) 1) tm).den ((ρG.grow 0 (List.replicate ns undef)).grow 0 (List.replicate nr undef)) = .chan cap (L.map (·.1)).toArray false ns nr tm := by
       subst lG
       have r1 : ((ρG.grow 0 (List.replicate ns undef)).grow 0 (List.replicate nr undef)).rest ρG.k.length = List.replicate ns undef := by
        rw [rest_grow _ _ _ (by simp), rest_new]
       have r2 : ((ρG.grow 0 (List.replicate ns undef)).grow 0 (List.replicate nr undef)).rest (ρG.k.length + 1) = List.replicate nr undef := by
        have := rest_new (ρG.grow 0 (List.replicate ns undef)) 0 (List.replicate nr undef)
        rw [len_grow] at this; exact this
       have e2 : vs.map (SC.den ((ρG.grow 0 (List.replicate ns undef)).grow 0 (List.replicate nr undef))) = L.map (·.1) := by
        rw [vG]
        exact List.map_congr_left fun v hv => by rw [SC.den_grow v (SC.ok_mono (by simp) v (kG v hv)), SC.den_grow v (kG v hv)]
       simp only [SO.den, e2]
       simp [IE.den, r1, r2]
      refine ⟨⟨fun x => if x = ρG.blk iC then some (.chan cap (L.map (·.1)).toArray false ns nr tm) else (withAll S1 L).full x, (withAll S1 L).ro, .none⟩, ⟨fun b o hb => ?_, fun b o hb => ?_, fun b hb => ?_, rfl⟩, L', hL', rw', vs, nk', ρG, hgv, eG, lG, lG', ns, nr, ?_⟩
      ·simp only at hb
       split at hb
       ·rename_i e; subst e
        simp only [Option.some.injEq] at hb
        exact .inl ⟨hbG, by rw [← hb]; rfl⟩
       ·rcases withAll_full hb with hb | ⟨m, hmL, hb⟩
        ·rcases hom.full _ _ hb with e | e
         ·exact .inr (.inl e)
         ·exact .inr (.inr (.inr e))
        ·exact .inr (.inr (.inl ⟨m, hmL, hb⟩))
      ·have hb' : (withAll S1 L).ro b = some o := hb
       rw [withAll_ro] at hb'
       exact hom.ro b o hb'
      ·simp only at hb ⊢
       split at hb
       ·rename_i e; subst e; exact hCG.2
       ·exact sG.dis b hb
      ·exact {
        has := fun j u hj => by
         rcases Tr.look_set hj with ⟨rfl, rfl⟩ | ⟨hjn, hj⟩
         ·refine ⟨by simp; omega, ⟨fun x hx => SC.ok_mono (by simp; omega) x (kG x hx), by simp [IE.ok]; omega, by simp [IE.ok]; omega⟩, ?_⟩
          rw [hb2, hden]
          show (if ρG.blk j = ρG.blk j then _ else _) = _
          rw [if_pos rfl]
         ·obtain ⟨k1, k2, k3⟩ := g2.has j u hj
          refine ⟨k1, k2, ?_⟩
          obtain ⟨l1, _, l3⟩ := sG.has j u hj
          have hbj : ((ρG.grow 0 (List.replicate ns undef)).grow 0 (List.replicate nr undef)).blk j = ρG.blk j := by
           rw [blk_grow _ _ _ (by simp; omega), blk_grow _ _ _ l1]
          rw [hbj] at k3 ⊢
          show (if ρG.blk j = ρG.blk iC then _ else _) = _
          rw [if_neg (fun e => by rw [e, hCG.1] at l3; cases l3)]; exact k3
        hro := fun j u hj => g2.hro j u hj
        inj := fun j j' u u' hj hj' e => by
         have nC : ∀ j u, rw'.look j = some u → ((ρG.grow 0 (List.replicate ns undef)).grow 0 (List.replicate nr undef)).blk j ≠ ((ρG.grow 0 (List.replicate ns undef)).grow 0 (List.replicate nr undef)).blk iC := fun j u hj e => by
          have := (g2.has j u hj).2.2
          rw [e, hb2, hCG.1] at this; cases this
         rcases Tr.look_set hj with ⟨e1, _⟩ | ⟨_, k1⟩
         ·rcases Tr.look_set hj' with ⟨e2, _⟩ | ⟨_, k2⟩
          ·exact e1.trans e2.symm
          ·exact absurd (by rw [← e, e1]) (nC _ _ k2)
         ·rcases Tr.look_set hj' with ⟨e2, _⟩ | ⟨_, k2⟩
          ·exact absurd (by rw [e, e2]) (nC _ _ k1)
          ·exact g2.inj _ _ _ _ k1 k2 e
        frm := fun b o hb => by
         have := sG.frm b o hb
         show (if b = ρG.blk iC then _ else _) = _
         rw [if_neg (fun e => by rw [e, hCG.1] at this; cases this)]; exact this
        apart := fun j u hj => by
         rcases Tr.look_set hj with ⟨rfl, _⟩ | ⟨_, hj⟩
         ·rw [hb2]
          cases hf : F.full (ρG.blk j) with
          | none => rfl
          | some o => have := sG.frm _ _ hf; rw [hCG.1] at this; cases this
         ·exact g2.apart j u hj
        ro := sG.ro
        gh := rfl
        dis := fun b hb => by
         have hb' : (if b = ρG.blk iC then some (Obj.chan cap (L.map (·.1)).toArray false ns nr tm) else (withAll S1 L).full b).isSome = true := hb
         show (withAll S1 L).ro b = none
         split at hb'
         ·rename_i e; subst e; exact hCG.2
         ·exact sG.dis b hb'
        ghok := trivial
        lent := fun i hi => (by cases hi)
        linj := fun i hi => (by cases hi)
        rinj := fun i hi => (by cases hi)
        lnd := List.nodup_nil })
    refine hcall.mono fun e S' ⟨he, L', hL', rw', vs, nk', ρG, hgv, eG, lG, lG', ns, nr, hS'⟩ => ?_
    subst he
    obtain ⟨rw2, vs2, nk2, hgv2, h5⟩ := hall L' hL'
    rw [hgv] at hgv2
    simp only [Option.some.injEq, Prod.mk.injEq] at hgv2
    obtain ⟨rfl, rfl, rfl⟩ := hgv2
    have h6 := news_holds _ ρ _ h5 ρG eG (by omega)
    have h7 := h6 0 (List.replicate ns undef) 0 (List.replicate nr undef)
    have hΓG : Γ.On ρG := by
     obtain ⟨t, rfl⟩ := eG
     exact facts_ext t hΓ
    have := hpost _ (.ret (.tup [])) none _ Γ (eG.trans ((Ext.grow ρG 0 _).trans (Ext.grow _ 0 _))) ((hΓG.grow _ _).grow _ _) trivial (by rw [len_grow, len_grow, lG]; exact h7) S' hS'
    exact this
   ·exact h.elim
  ·exact h.elim
 ·exact h.elim
end
end Mw
set_option linter.unusedVariables false
namespace Mw
open Go Mv
open Go.Conc (QuitsD born)
open Go.Conc.Lib (WgLink WgLib)
def under (P : Program) : Frame := { (default : Frame) with fn := P.funcs.size, defers := [], mode := .panicking [goexitEntry] }
section
variable {P : Program}
theorem gone {x : Frame} (hm : x.mode = .panicking [goexitEntry]) (hd : x.defers = []) (hc : x.catches P = false) (w : World) : stepG P false (Mv.G x []) w = .go { frame := x, callers := [], status := .finished, dying := none } w := by
 simp [Mv.G, stepG, unwind, hm, hd, hc, goexitEntry]
theorem under_quits : QuitsD P 1 0 (Mv.G (under P) []) :=
 QuitsD.ctl (g' := { frame := under P, callers := [], status := .finished, dying := none }) rfl (gone rfl rfl (by
  have hf : P.funcs[(under P).fn]? = none := by simp [under]
  have ht : (under P).todo = [] := rfl
  simp [Frame.catches, hf, ht])) ⟨rfl, rfl⟩
theorem home_ {x y : Frame} {fn : Func} (hk : x.kind = .deferred) (hm : x.mode = .returning) (hd : x.defers = []) (hf : P.funcs[x.fn]? = some fn) (hr : fn.results = #[]) (hy : y.mode = .panicking [goexitEntry]) (w : World) :
  stepG P false (Mv.G x [y]) w = .go (Mv.G y []) w := by
 have h1 := results_none hr x.tmps P w
 have h2 := Go.Conc.events_results_none (P := P) (w := w) hr x.tmps #[]
 simp [Mv.G, stepG, unwind, doReturn, hm, hd, hf, h1, h2, hk, hy, goexitEntry, Go.Conc.seen_none, GStep.after]
theorem leave_under {x : Frame} {fn : Func} (hk : x.kind = .deferred) (hm : x.mode = .returning) (hd : x.defers = []) (hf : P.funcs[x.fn]? = some fn) (hr : fn.results = #[]) : QuitsD P 2 0 (Mv.G x [under P]) :=
 QuitsD.ctl rfl (home_ hk hm hd hf hr rfl) under_quits
theorem stepG_call {main : Bool} {b : Frame} {a : Act} {k : List Item} {cs : List Frame} {w : World} {ops : Array Oper} {i : Nat} {rest : List Nat} {o : Oper} {f : FuncId} {fn : Func} {c : Code} {args : Array Operand} {ats : Array TypeId} {vs : Array Value}
  (ho : ops[i]? = some o) (hw : Region.wanted o (yielded ops a.tmps) = true) (hk : b.kind ≠ .early) (hop : o.op = .call { callee := .value (.func f), args, argTypes := ats })
  (hf : P.funcs[f]? = some fn) (hname : (fn.name == "runtime.NumGoroutine") = false) (hb : fn.body = some c) (hvs : args.map a.eval = vs) :
  stepG P main (Mv.G (b.at a (.inRegion ops (i :: rest) :: k)) cs) w = .go (Mv.G (Frame.enter P f vs .normal) (b.at a (.inRegion ops (i :: rest) :: k) :: cs)) w := by
 subst hvs
 have hb' : fn.body.isNone = false := by rw [hb]; rfl
 have := Go.Conc.stepG_enter (main := main) (cs := cs) (k := k) (rest := rest) ho hw hk (Go.Conc.run_call_body (P := P) (a := a) (w := w) hop hf hname hb')
 have hl : Go.Conc.listed P b.fn a o w = #[] := by unfold Go.Conc.listed; rw [Go.Conc.events_call_body hop hf hname hb']; exact Go.Conc.seen_none P _
 rw [hl] at this
 exact this
theorem stepG_move {main : Bool} {b : Frame} {a : Act} {k : List Item} {cs : List Frame} {w : World} {ops : Array Oper} {i : Nat} {rest : List Nat} {o : Oper} {x : Operand}
  (ho : ops[i]? = some o) (hw : Region.wanted o (yielded ops a.tmps) = true) (hk : b.kind ≠ .early) (hop : o.op = .move x) :
  stepG P main (Mv.G (b.at a (.inRegion ops (i :: rest) :: k)) cs) w = .go (Mv.G (b.at (a.put o.dst (a.eval x)) (.inRegion ops rest :: k)) cs) w := by
 have := Go.Conc.stepG_value (P := P) (w := w) (main := main) (cs := cs) (k := k) (rest := rest) (v := a.eval x) (w' := w) ho hw hk (by simp [execOp, hop])
 have hl : Go.Conc.listed P b.fn a o w = #[] := by unfold Go.Conc.listed; simp [execOp, hop, Go.Conc.seen_none]
 rw [hl] at this
 exact this
variable {L : WgLink} {K : Grp} {S : Own} {pc : Pact} {sent : List Msg}
theorem add_tail (H : WgLib P L) {fn : Func} {b : Frame} {a : Act} {ops : Array Oper} {x : Frame} {fx : Func} (a₀ : Act) (ops₀ : Array Oper) (i : Nat) (hd₀ : a₀.defers = []) (hb : b.kind = .deferred) (hd : a.defers = []) (hf : P.funcs[b.fn]? = some fn) (hr : fn.results = #[])
  (hk : x.kind = .deferred) (hm : x.mode = .returning) (hdx : x.defers = []) (hfx : P.funcs[x.fn]? = some fx) (hrx : fx.results = #[]) (i₀ : Nat) :
  QuitsD P 8 0 (Mv.G ((Go.Conc.base L.done).at (a₀.put ((ops₀[i₀]?).bind (·.dst)) (.tuple #[])) (.inRegion ops₀ [] :: [])) (b.at a (.inRegion ops [i] :: []) :: x :: [under P])) := by
 refine .ctl rfl (fun w => Go.Conc.stepG_region_end) ?_
 refine .ctl rfl (fun w => Go.Conc.stepG_end) ?_
 have hd1 : (a₀.put ((ops₀[i₀]?).bind (·.dst)) (.tuple #[])).defers = [] := by rw [← hd₀]; cases (ops₀[i₀]?).bind (·.dst) <;> rfl
 refine QuitsD.leave0 rfl hd1 H.f_done rfl ?_
 refine .ctl rfl (fun w => Go.Conc.stepG_region_end) ?_
 refine .ctl rfl (fun w => Go.Conc.stepG_end) ?_
 have hd2 : (a.put ((ops[i]?).bind (·.dst)) (.tuple #[])).defers = [] := by rw [← hd]; cases (ops[i]?).bind (·.dst) <;> rfl
 exact QuitsD.leaveD hb hd2 hf hr hm (leave_under hk hm hdx hfx hrx)
theorem done_goes (H : WgLib P L) (hty : K.ty = L.tWg) (hgh : S.gh = .work K .work pc sent) (hok : pc.ok sent) {Stop : Goroutine → Own → Prop} {fn : Func} {b : Frame} {a : Act} {ops : Array Oper} {x : Frame} {fx : Func} (i : Nat) (hb : b.kind = .deferred) (hd : a.defers = [])
  (hf : P.funcs[b.fn]? = some fn) (hr : fn.results = #[]) (hk : x.kind = .deferred) (hm : x.mode = .returning) (hdx : x.defers = []) (hfx : P.funcs[x.fn]? = some fx) (hrx : fx.results = #[]) :
  Goes P (Mx.Hand P K) Stop (Mv.G (Frame.enter P L.done #[.pointer (some ⟨K.W, 0, none⟩)] .normal) (b.at a (.inRegion ops [i] :: []) :: x :: [under P])) S := by
 rw [Go.Conc.enter_at _ H.f_done rfl]
 refine .move rfl (fun w => Go.Conc.stepG_region) ?_
 refine .move rfl (fun w => stepG_move rfl rfl (by simp [Go.Conc.base]) rfl) ?_
 refine .move rfl (fun w => stepG_call rfl rfl (by simp [Go.Conc.base]) rfl H.f_add (Go.ConcR.Gen.nm_add L) rfl (vs := #[.pointer (some ⟨K.W, 0, none⟩), .int .i64 (-1)]) (by simp [Act.eval, Act.put, Go.Conc.Lib.doneFn])) ?_
 refine (Mx.neg_walk (qt := 8) H hty hgh hok ?_).goes (Mx.hand_looks hgh)
 exact add_tail H _ _ i rfl hb hd hf hr hk hm hdx hfx hrx 1
end
def Ops11 (hk : Hook) (nt : Nat) (ops : Array Oper) : Prop := ∃ t ty0 p0 a0 d1 ats ty1 p1 a1, t < nt ∧
 ops = #[⟨some t, .load hk.L.tWgP (.tmp 0), ty0, p0, a0, none⟩, ⟨d1, .call { callee := .value (.func hk.L.done), args := #[.tmp t], argTypes := ats }, ty1, p1, a1, none⟩]
structure GoLib (P : Program) (hk : Hook) : Prop where
 g11 : ∃ fn A id ops, P.funcs[hk.g11]? = some fn ∧ fn.body = some (.seq A (.region id ops false)) ∧ Ops11 hk fn.ntmps ops ∧ fn.results = #[] ∧ (fn.name == "runtime.NumGoroutine") = false
def workEnd (P : Program) (hk : Hook) (iW : Nat) : Kont := fun e σ _ _ => match e, σ.df, σ.cm with
 | .normal, [], some .ret => match sLoad P σ.hp hk.L.tWgP (evC σ.sl (.tmp 0)), σ.hp.gh with
  | some (.val [] (.ptr i (.lit (.ofNat 0)))), .work ty jW _ _ _ ms n => match Nat.beq i jW, Nat.beq ty hk.L.tWg, Nat.beq n ms.length with
   | true, true, true => .ok
   | _, _, _ => .bad
  | _, _ => .bad
 | _, _, _ => .bad
def workMid (P : Program) (hk : Hook) (ex : Run_) (f2 : Func) (A : Code) (iW : Nat) : Kont := fun e σ nk Γ => match (match e with | .normal => true | .ret => true | _ => false), σ.df with
 | true, [d] => match Nat.beq d.f hk.g11, d.args, d.caps, d.col with
  | true, [], [x], none => ex { size := 1 + (f2.ntmps - 1), dfr := true, fn := hk.g11 } Γ [.code A] { sl := slotsOf [x] 0 .nil, hp := σ.hp, df := [], cm := some .ret } nk (workEnd P hk iW)
  | _, _, _, _ => .bad
 | _, _ => .bad
def workF (P : Program) (hk : Hook) (ex : Run_) (iW : Nat) (args : List SC) (hp : Hp) (nk : Nat) (Γ : Facts) : Tree :=
 match P.funcs[hk.g1]?, P.funcs[hk.g11]? with
 | some f1, some f2 => match f1.body, f1.results.toList, f1.name == "runtime.NumGoroutine", f2.body with
  | some c1, [], false, some (.seq A _) =>
   ex { size := args.length + (f1.ntmps - args.length), dfr := false, fn := hk.g1 } Γ [.code c1] { sl := slotsOf args 0 .nil, hp, df := [], cm := none } nk (workMid P hk ex f2 A iW)
  | _, _, _, _ => .bad
 | _, _ => .bad
section
variable {P : Program}
theorem entry_fit {ρ : Env} {args : List SC} {fn : Func} {hp : Hp} {cm : Option SMode} {F S : Own} (hargs : ∀ x ∈ args, x.ok ρ.k.length) (hcm : ∀ m, cm = some m → m.ok ρ.k.length) (hs : Sat ρ hp F S) :
  Fit (args.length + (fn.ntmps - args.length)) F ρ { sl := slotsOf args 0 .nil, hp, df := [], cm } (entry fn (args.map (SC.den ρ)).toArray (cm.map (SMode.den ρ))) S where
 size := by simp [entry]
 df := rfl
 dfok := by simp
 cm := rfl
 cmok := hcm
 hp := hs
 sl := fun d v hd => by
  rcases slotsOf_look args 0 .nil d v hd with ⟨_, h2⟩ | h
  ·rw [Nat.sub_zero] at h2
   have hlt : d < args.length := by
    rcases Nat.lt_or_ge d args.length with h | h
    ·exact h
    ·rw [List.getElem?_eq_none h] at h2; cases h2
   refine ⟨hargs v (List.mem_of_getElem? h2), ?_⟩
   simp only [entry]
   rw [Array.getElem?_append_left (by simpa using hlt)]
   simp [h2]
  ·rw [Tr.nil_look] at h; cases h
theorem enter_deferred {x : Frame} {cs : List Frame} {f : FuncId} {fn : Func} {vs : Array Value} (hm : unwinds x.mode = true) (hd : x.defers = [⟨.fn (.func f) vs, #[]⟩]) (hf : P.funcs[f]? = some fn) (hname : (fn.name == "runtime.NumGoroutine") = false)
  (hb : fn.body.isSome = true) (w : World) : stepG P false (Mv.G x cs) w = .go (Mv.G (Frame.enter P f vs .deferred) ({ x with defers := [] } :: cs)) w := by
 have h1 : ¬ fn.name = "runtime.NumGoroutine" := by simpa using hname
 have h2 : ¬ fn.body = none := by cases hx : fn.body <;> simp_all
 cases hx : x.mode with
 | run => rw [hx] at hm; cases hm
 | _ => simp [Mv.G, stepG, unwind, hx, hd, callDeferred, invoke, callFunc, hf, h1, h2, Go.Conc.seen_none, GStep.after]
theorem workEnd_goes {hk : Hook} {K : Grp} (H : WgLib P hk.L) {fn fx : Func} {ops : Array Oper} {id : Nat} (hf : P.funcs[hk.g11]? = some fn) (hops : Ops11 hk fn.ntmps ops) (hr : fn.results = #[]) {D : Env → SEx → SS → Prop} {E : Env → List Item → SS → Prop} {iW nk : Nat} {ρ : Env} {F S : Own} {e : SEx} {σ : SS} {Γ : Facts} {a : St}
  (hfit : Fit (1 + (fn.ntmps - 1)) F ρ σ a S) {x : Frame} (hxk : x.kind = .deferred) (hxd : x.defers = []) (hfx : P.funcs[x.fn]? = some fx) (hrx : fx.results = #[])
  (h : holds D E ρ (workEnd P hk iW e σ nk Γ)) : e = .normal ∧ Goes P (Mx.Hand P K) StopW (Mv.G (fr (base hk.g11 .deferred) a [.code (.region id ops false)]) (cl { dfr := true, fn := some hk.g11 } (x :: [under P]) a.cm)) S := by
 unfold workEnd at h
 split at h
 ·rename_i hdf hcm
  refine ⟨rfl, ?_⟩
  split at h
  ·rename_i i ty jW iC cap tm ms n hload hgh
   split at h
   ·rename_i hi hty hn
    obtain rfl := Nat.eq_of_beq_eq_true hi
    obtain rfl := Nat.eq_of_beq_eq_true hty
    obtain rfl := Nat.eq_of_beq_eq_true hn
    obtain ⟨t, ty0, p0, a0, d1, ats, ty1, p1, a1, ht, rfl⟩ := hops
    have hacm : a.cm = some .returning := by rw [hfit.cm, hcm]; rfl
    have hadf : a.defers = [] := by rw [hfit.df, hdf]; rfl
    have hg : S.gh = .work (ρ.grp hk.L.tWg i iC cap tm) .work (pactOf ρ ms) ((ms.take ms.length).map (SM.msg ρ)) := by rw [hfit.hp.gh, hgh]; rfl
    have hsent : (pactOf ρ ms).ok ((ms.take ms.length).map (SM.msg ρ)) := by
     have hok := hfit.hp.ghok
     rw [hgh] at hok
     rw [List.take_length]
     exact pact_done fun x hx => ⟨(hok.2.2.1 x hx).2, hok.2.2.2 x (by rw [List.take_length]; exact hx)⟩
    refine .move rfl (fun w => stepG_region) ?_
    have hcs : cl { dfr := true, fn := some hk.g11 } (x :: [under P]) a.cm = { x with mode := .returning } :: [under P] := by rw [hacm]; rfl
    have hrun := (sLoad_good (P := P) (S0 := S) (o := ⟨some t, .load hk.L.tWgP (.tmp 0), ty0, p0, a0, none⟩) rfl hfit.hp (evC_ok hfit.sl) hload).1
    refine op_step (r := { dfr := true, fn := some hk.g11 }) (Q := fun _ _ _ => False) (next := fun a' S' => a' = a.put (some t) (.pointer (some ⟨ρ.blk i, 0, none⟩)) ∧ S' = S) rfl rfl rfl ⟨rfl, fun _ => ⟨rfl, rfl, by simp⟩, by simp [base]⟩ ?_ (fun _ _ h => h.elim)
     (hrun (by simp [allTrue]) _ ⟨rfl, rfl⟩)
    rintro a' S' ⟨rfl, rfl⟩
    rw [St.put_cm, hcs]
    have hlt : t < a.tmps.size := by rw [hfit.size]; omega
    refine .move rfl (fun w => stepG_call (b := base hk.g11 .deferred) (a := ⟨_, _⟩) rfl rfl (by simp [base]) rfl H.f_done (Go.ConcR.Gen.nm_done hk.L) rfl (vs := #[.pointer (some ⟨ρ.blk i, 0, none⟩)]) (by simp [Act.eval, St.put, hlt])) ?_
    exact done_goes (K := ρ.grp hk.L.tWg i iC cap tm) H rfl hg hsent 1 rfl hadf hf hr hxk rfl hxd hfx hrx
   ·exact h.elim
  ·exact h.elim
 ·exact h.elim
theorem workF_sound {hk : Hook} {K : Grp} {ex : Run_} (hex : SoundEx P (Mx.Hand P K) ex) (H : WgLib P hk.L) (Gl : GoLib P hk) {D : Env → SEx → SS → Prop} {E : Env → List Item → SS → Prop} {iW nk : Nat} {args : List SC} {hp : Hp} {Γ : Facts} {ρ : Env} {F S : Own}
  (hv : vals ρ) (hΓ : Γ.On ρ) (hnk : ρ.k.length = nk) (hargs : ∀ x ∈ args, x.ok ρ.k.length) (hs : Sat ρ hp F S)
  (h : holds D E ρ (workF P hk ex iW args hp nk Γ)) : Goes P (Mx.Hand P K) StopW (born P { target := .fn (.func hk.g1) (args.map (SC.den ρ)).toArray, args := #[] }) S := by
 obtain ⟨f2, A, id, ops, hf2, hb2, hops, hr2, hname2⟩ := Gl.g11
 subst hnk
 unfold workF at h
 rw [hf2] at h
 split at h
 ·rename_i f1 f2' hf1 hf2'
  simp only [Option.some.injEq] at hf2'; subst hf2'
  rw [hb2] at h
  split at h
  ·rename_i c1 A' c2 hb1 hr1 hname1 hA
   simp only [Option.some.injEq, Code.seq.injEq] at hA
   obtain ⟨rfl, _⟩ := hA
   have hr1 : f1.results = #[] := by apply Array.ext'; exact hr1
   have hE : ∀ {size : Nat} {dfr : Bool} {f : FuncId} {r : Ctx} {ρ : Env} {Q : Ex → St → Own → Prop}, EOk P (Mx.Hand P K) E { size, dfr, fn := f } r F ρ Q := fun h => by cases h
   refine .move (g' := Mv.G (Frame.enter P hk.g1 (args.map (SC.den ρ)).toArray .deferred) [under P]) rfl (fun w => enter_deferred rfl rfl hf1 hname1 (by rw [hb1]; rfl) w) ?_
   rw [enter_eq (cm := none) hf1 hb1]
   have hrun := hex D E _ { fn := some hk.g1 } Γ _ _ _ _ ρ (fun e a S' => (e = .normal ∨ e = .ret) ∧ ∀ todo, Goes P (Mx.Hand P K) StopW (Mv.G { fr (base hk.g1 .deferred) a todo with mode := .returning } [under P]) S') F ⟨rfl, rfl, by simp, rfl⟩ hv hΓ rfl ?_ hE h _ S (entry_fit (cm := none) hargs (by simp) hs)
   ·refine hrun StopW (base hk.g1 .deferred) [] [under P] ⟨rfl, by simp, by simp [base]⟩ ?_
    rintro e a' S' ⟨rfl | rfl, hg⟩
    ·exact .move rfl (fun _ => stepG_end rfl) (hg _)
    ·rintro todo ⟨k, rfl⟩
     exact .move rfl (fun _ => stepG_ret rfl) (hg _)
   ·intro ρ1 e σ Γ1 he1 hΓ1 hok1 hh a S1 hfit
    unfold workMid at hh
    split at hh
    ·rename_i d hend hdf
     split at hh
     ·rename_i x hdf1 hda hdc hdcol
      have hdf1 := Nat.eq_of_beq_eq_true hdf1
      refine ⟨?_, fun todo => ?_⟩
      ·cases e <;> first | exact .inl rfl | exact .inr rfl | (simp at hend)
      have had : a.defers = [⟨.fn (.func hk.g11) #[x.den ρ1], #[]⟩] := by
       rw [hfit.df, hdf]
       simp [SDef.den, hda, hdc, hdcol, hdf1]
      obtain ⟨x6, hx6⟩ : ∃ x : Frame, x = { fr (base hk.g1 .deferred) a todo with mode := .returning, defers := [] } := ⟨_, rfl⟩
      have hxok : x.ok ρ1.k.length := (hfit.dfok d (by rw [hdf]; simp)).2.1 x (by rw [hdc]; simp)
      refine .move (g' := Mv.G (Frame.enter P hk.g11 #[x.den ρ1] .deferred) ({ fr (base hk.g1 .deferred) a todo with mode := .returning, defers := [] } :: [under P])) rfl (fun w => enter_deferred (x := { fr (base hk.g1 .deferred) a todo with mode := .returning }) rfl had hf2 hname2 (by rw [hb2]; rfl) w) ?_
      rw [enter_eq (cm := some .returning) hf2 hb2, ← hx6]
      refine .move rfl (fun w => stepG_seq) ?_
      have hrun := hex D E _ { dfr := true, fn := some hk.g11 } Γ1 _ _ _ _ ρ1 (fun e a S' => e = .normal ∧ Goes P (Mx.Hand P K) StopW (Mv.G (fr (base hk.g11 .deferred) a [.code (.region id ops false)]) (cl { dfr := true, fn := some hk.g11 } (x6 :: [under P]) a.cm)) S') F ⟨rfl, rfl, by simp, rfl⟩ (vals_ext he1 hv) hΓ1 rfl ?_ hE hh _ S1
       (entry_fit (cm := some .ret) (args := [x]) (fn := f2) (by intro y hy; simp at hy; subst hy; exact hxok) (by intro m hm; cases hm; trivial) hfit.hp)
      ·have hcl : cl { dfr := true, fn := some hk.g11 } (x6 :: [under P]) (some .returning) = x6 :: [under P] := by rw [hx6]; rfl
       rw [← hcl]
       refine hrun StopW (base hk.g11 .deferred) [.code (.region id ops false)] (x6 :: [under P]) ⟨rfl, fun _ => ⟨rfl, rfl, by simp⟩, by simp [base]⟩ ?_
       rintro e' a' S' ⟨rfl, hg⟩
       exact hg
      ·intro ρ2 e2 σ2 Γ2 he2 hΓ2 hok2 hh2 a2 S2 hfit2
       have := workEnd_goes (K := K) (id := id) H hf2 hops hr2 hfit2 (x := x6) (by rw [hx6]; rfl) (by rw [hx6]) (by rw [hx6]; exact hf1) hr1 hh2
       exact ⟨by rw [this.1]; rfl, this.2⟩
     ·exact hh.elim
    ·exact hh.elim
  ·exact h.elim
 ·exact h.elim
end
end Mw
set_option linter.unusedVariables false
namespace Mw
open Go Mv
open Go.Conc (QuitsD born)
open Go.Conc.Lib (WgLink WgLib)
def OpsAdd (hk : Hook) (ops : Array Oper) : Prop := ∃ ty0 p0 a0 ats ty1 p1 a1,
 ops = #[⟨some 4, .load hk.L.tWgP (.tmp 2), ty0, p0, a0, none⟩, ⟨some 5, .call { callee := .value (.func hk.L.add), args := #[.tmp 4, .const (.int .i64 1)], argTypes := ats }, ty1, p1, a1, none⟩]
def OpsGo (hk : Hook) (ops : Array Oper) : Prop := ∃ ty0 p0 a0 ats ty1 p1 a1,
 ops = #[⟨some 6, .makeFunc (.func hk.g1) #[] #[.tmp 2, .tmp 3], ty0, p0, a0, none⟩, ⟨none, .go { callee := .value (.tmp 6), args := #[], argTypes := ats }, ty1, p1, a1, none⟩]
def GoFn (P : Program) (hk : Hook) : Prop := ∃ fn A i1 ops1 i2 ops2, P.funcs[hk.go]? = some fn ∧ fn.body = some (.seq A (.seq (.region i1 ops1 false) (.region i2 ops2 false))) ∧ OpsAdd hk ops1 ∧ OpsGo hk ops2 ∧ 7 ≤ fn.ntmps ∧ fn.results = #[] ∧ (fn.name == "runtime.NumGoroutine") = false
section
variable {P : Program} {main : Bool} {b : Frame} {a : Act} {k : List Item} {cs : List Frame} {w : World} {ops : Array Oper} {i : Nat} {rest : List Nat} {o : Oper}
theorem stepG_makeFunc {fn : Fn} {first caps : Array Operand} {v : Value} (ho : ops[i]? = some o) (hw : Region.wanted o (yielded ops a.tmps) = true) (hk : b.kind ≠ .early) (hop : o.op = .makeFunc fn first caps) (hv : Value.func fn (first.map a.eval) (caps.map a.eval) = v) :
  stepG P main (Mv.G (b.at a (.inRegion ops (i :: rest) :: k)) cs) w = .go (Mv.G (b.at (a.put o.dst v) (.inRegion ops rest :: k)) cs) w := by
 subst hv
 have := Go.Conc.stepG_value (P := P) (w := w) (main := main) (cs := cs) (k := k) (rest := rest) (v := .func fn (first.map a.eval) (caps.map a.eval)) (w' := w) ho hw hk (by simp [execOp, hop, Instr.makeFunc])
 have hl : Go.Conc.listed P b.fn a o w = #[] := by unfold Go.Conc.listed; simp [execOp, hop, Instr.makeFunc, Go.Conc.seen_none]
 rw [hl] at this
 exact this
theorem stepG_back {x c : Frame} {fn : Func} (hk : x.kind = .normal) (hm : x.mode = .returning) (hd : x.defers = []) (hf : P.funcs[x.fn]? = some fn) (hr : fn.results = #[]) :
  stepG P main (Mv.G x (c :: cs)) w = .go (Mv.G (c.finish (.tuple #[])) cs) w := by
 have h1 := results_none hr x.tmps P w
 have h2 := Go.Conc.events_results_none (P := P) (w := w) hr x.tmps #[]
 simp [Mv.G, stepG, unwind, doReturn, hm, hd, hf, h1, h2, hk, Go.Conc.seen_none, GStep.after]
theorem stepG_go {f : Fn} {vs : Array Value} {x : Operand} {ats : Array TypeId} (ho : ops[i]? = some o) (hw : Region.wanted o (yielded ops a.tmps) = true) (hk : b.kind ≠ .early) (hop : o.op = .go { callee := .value x, args := #[], argTypes := ats })
  (hx : a.eval x = .func f #[] vs) :
  stepG P main (Mv.G (b.at a (.inRegion ops (i :: rest) :: k)) cs) w = .spawn (Mv.G (b.at (a.put o.dst undef) (.inRegion ops rest :: k)) cs) (born P { target := .fn f vs, args := #[] }) w #[] := by
 have hr : (execOp a.eval o).run P w = .ok (.spawn { target := .fn f vs, args := #[] }) w := by simp [execOp, hop, resolve, hx, Deferred.ofValue]
 have := Go.Conc.stepG_spawn (P := P) (w := w) (main := main) (cs := cs) (k := k) (rest := rest) ho hw hk hr rfl
 have hl : Go.Conc.listed P b.fn a o w = #[] := by unfold Go.Conc.listed; simp [execOp, hop, resolve, hx, Deferred.ofValue, Go.Conc.seen_none]
 rw [hl] at this
 exact this
end
abbrev Dry := List SC → Hp → Nat → Facts → List SM
def forceMs {β : Type} : List SM → (List SM → β) → β
 | [], k => k []
 | x :: l, k => match x.v, x.l with
  | .int kd (.lit (.ofNat n)), [] => forceN n fun n => forceN x.a fun a => forceN x.n fun m => forceMs l fun l => k (⟨.int kd (.lit (.ofNat n)), [], a, m⟩ :: l)
  | v, e => forceN x.a fun a => forceN x.n fun m => forceMs l fun l => k (⟨v, e, a, m⟩ :: l)
theorem forceMs_eq {β : Type} : ∀ (l : List SM) (k : List SM → β), forceMs l k = k l
 | [], _ => rfl
 | ⟨v, e, a, m⟩ :: l, k => by
  unfold forceMs
  split
  ·rename_i kd n h1 h2
   simp only at h1 h2
   subst h1; subst h2
   simp only [forceN_eq, forceMs_eq l]
  ·simp only [forceN_eq, forceMs_eq l]
structure WSum where
 nk : Nat
 iW : Nat
 args : List SC
 ro : List (Nat × SO)
 ty : TypeId
 iC : Nat
 cap : Nat
 tm : Bool
 ms : List SM
def WSum.gh (s : WSum) : SGh := .work s.ty s.iW s.iC s.cap s.tm s.ms 0
def okTree : Tree → Bool
 | .ok => true
 | .new t => okTree t
 | .both a b => match okTree a with
  | true => okTree b
  | false => false
 | _ => false
theorem okTree_holds {D : Env → SEx → SS → Prop} {E : Env → List Item → SS → Prop} : ∀ (t : Tree) (ρ : Env), okTree t = true → holds D E ρ t
 | .ok, _, _ => trivial
 | .new t, ρ, h => fun b r => okTree_holds t _ h
 | .both a b, ρ, h => by
  simp only [okTree] at h
  split at h
  ·rename_i ha
   exact ⟨okTree_holds a ρ ha, okTree_holds b ρ h⟩
  ·cases h
 | .done _ _, _, h => by cases h
 | .stop _ _, _, h => by cases h
 | .branch _ _ _, _, h => by cases h
 | .need _ _, _, h => by cases h
 | .bad, _, h => by cases h
def WSum.Ok (P : Program) (hk : Hook) (exW : Run_) (s : WSum) : Prop := okTree (workF P hk exW s.iW s.args { rw := .nil, ro := setsT s.ro, gh := s.gh } s.nk {}) = true
def pickW (nk : Nat) : List WSum → Option WSum
 | [] => none
 | s :: l => match Nat.beq s.nk nk with
  | true => some s
  | false => pickW nk l
theorem pickW_mem {nk : Nat} {s : WSum} : ∀ {l : List WSum}, pickW nk l = some s → s ∈ l ∧ s.nk = nk
 | [], h => by cases h
 | x :: l, h => by
  simp only [pickW] at h
  split at h
  ·rename_i hb
   simp only [Option.some.injEq] at h; subst h
   exact ⟨List.mem_cons_self, Nat.eq_of_beq_eq_true hb⟩
  ·obtain ⟨h1, h2⟩ := pickW_mem h
   exact ⟨List.mem_cons_of_mem _ h1, h2⟩
def sameW (s : WSum) (iW : Nat) : SGh → Bool
 | .work ty jW iC cap tm ms n => match Nat.beq s.iW iW, Nat.beq s.iW jW, Nat.beq s.ty ty, Nat.beq s.iC iC, Nat.beq s.cap cap, s.tm == tm, sameMs s.ms ms, Nat.beq n 0 with
  | true, true, true, true, true, true, true, true => true
  | _, _, _, _, _, _, _, _ => false
 | _ => false
theorem sameW_eq {s : WSum} {iW : Nat} {g : SGh} (h : sameW s iW g = true) : s.iW = iW ∧ g = s.gh := by
 unfold sameW at h
 split at h
 ·split at h
  ·rename_i h1 h2 h3 h4 h5 h6 h7 h8
   refine ⟨Nat.eq_of_beq_eq_true h1, ?_⟩
   unfold WSum.gh
   rw [Nat.eq_of_beq_eq_true h2, Nat.eq_of_beq_eq_true h3, Nat.eq_of_beq_eq_true h4, Nat.eq_of_beq_eq_true h5, eq_of_beq h6, sameMs_eq h7, Nat.eq_of_beq_eq_true h8]
  ·cases h
 ·cases h
def workK (ws : List WSum) (P : Program) (hk : Hook) (exW : Run_) (iW : Nat) (args : List SC) (hp : Hp) (nk : Nat) (Γ : Facts) : Tree := match ws with
 | [] => workF P hk exW iW args hp nk Γ
 | ws => match pickW nk ws with
  | none => workF P hk exW iW args hp nk Γ
  | some s => match sameL (SC.same 6) args s.args, lies hp.ro s.ro, sameW s iW hp.gh with
   | true, true, true => .ok
   | _, _, _ => .bad
def goMid (ws : List WSum) (P : Program) (hk : Hook) (exW : Run_) (dry : Dry) (k : KEnd) (iW : Nat) : Kont := fun e σ nk Γ => match e, σ.df, σ.sl.look 2, σ.sl.look 3 with
 | .normal, [], some x2, some x3 => match sLoad P σ.hp hk.L.tWgP (some x2), σ.hp.gh, lendAll (reachT σ.hp.rw 100000 (namesSC x2 ++ namesSC x3) []) σ.hp with
  | some (.val [] (.ptr i (.lit (.ofNat 0)))), .main ty jW iC cap tm lent n, some hp2 => forceMs (dry [x2, x3] { rw := .nil, ro := hp2.ro, gh := .work ty jW iC cap tm [] 0 } nk Γ) fun ms => match Nat.beq i iW, Nat.beq jW iW, Nat.beq ty hk.L.tWg, Nat.ble n.length 999999, Nat.ble ((n ++ [ms]).map List.length).sum cap, ms.all (SM.okB nk) with
    | true, true, true, true, true, true => .both (workK ws P hk exW iW [x2, x3] { rw := .nil, ro := hp2.ro, gh := .work ty jW iC cap tm ms 0 } nk Γ) (k (.ret (.tup [])) none { hp2 with gh := hp2.gh.more ms } nk Γ)
    | _, _, _, _, _, _ => .bad
  | _, _, _ => .bad
 | _, _, _, _ => .bad
def goF (ws : List WSum) (P : Program) (hk : Hook) (exM exW : Run_) (dry : Dry) (args : List SC) (hp : Hp) (nk : Nat) (Γ : Facts) (k : KEnd) : Tree := match args, P.funcs[hk.go]? with
 | [.ptr iW (.lit (.ofNat 0)), f], some fn => match fn.body, beginG hk iW hp nk with
  | some (.seq A _), some hp => exM { size := 2 + (fn.ntmps - 2), fn := hk.go } Γ [.code A] { sl := slotsOf args 0 .nil, hp, df := [], cm := none } nk (goMid ws P hk exW dry k iW)
  | _, _ => .bad
 | _, _ => .bad
section
variable {P : Program} {N : Nat} {w0 : Option World}
theorem lend_gh {hp hp' : Hp} {i ty iW iC cap : Nat} {n : List (List SM)} {tm : Bool} {l : List Nat} (h : hp.lend i = some hp') (hg : hp.gh = .main ty iW iC cap tm l n) : hp'.gh = .main ty iW iC cap tm (i :: l) n := by
 unfold Hp.lend at h
 split at h
 ·simp only [Option.some.injEq] at h; subst h; rw [hg]; rfl
 ·cases h
theorem lendAll_gh {ty iW iC cap : Nat} {n : List (List SM)} {tm : Bool} : ∀ (is : List Nat) {hp hp' : Hp} {l : List Nat}, lendAll is hp = some hp' → hp.gh = .main ty iW iC cap tm l n → ∃ l', hp'.gh = .main ty iW iC cap tm l' n
 | [], hp, hp', l, h, hg => by simp only [lendAll, Option.some.injEq] at h; subst h; exact ⟨l, hg⟩
 | i :: is, hp, hp', l, h, hg => by
  simp only [lendAll] at h
  split at h
  ·rename_i hp1 h1
   exact lendAll_gh is h (lend_gh h1 hg)
  ·cases h
theorem part_as {S S' : Own} {g g' : Gh} (h : Mv.Part S S') : Mv.Part (S.as g) (S'.as g') := ⟨h.f, h.r, h.disj⟩
theorem go_goes {K : Grp} {S S1 S2 : Own} {l l1 : Nat → Prop} {ps : List Pact} {pc : Pact} {b : Frame} {aa : Act} {ops : Array Oper} {i : Nat} {rest : List Nat} {o : Oper} {k : List Item} {cs : List Frame} {x : Operand} {ats : Array TypeId} {f : Fn} {vs : Array Value} {Stop : Goroutine → Own → Prop}
  (ho : ops[i]? = some o) (hw : Region.wanted o (yielded ops aa.tmps) = true) (hk : b.kind ≠ .early) (hop : o.op = .go { callee := .value x, args := #[], argTypes := ats }) (hx : aa.eval x = .func f #[] vs) (hgh : S.gh = .main K l (.op false true) ps)
  (hl : ∀ b, l1 b → l b ∨ (S.full b).isSome) (p1 : Mv.Part S S1) (p2 : Mv.Part S S2) (d1 : ∀ b, (S1.full b).isSome → S2.full b = none ∧ S2.ro b = none) (d2 : ∀ b, (S2.full b).isSome → S1.full b = none ∧ S1.ro b = none) (g1 : S1.gh = .main K l1 (.op false false) (ps ++ [pc])) (g2 : S2.gh = .work K .work pc [])
  (hq : ((ps ++ [pc]).map (·.quota)).sum ≤ K.cap) (hps : ps.length < 1000000) (hchild : Goes P (Mx.Hand P K) StopW (born P { target := .fn f vs, args := #[] }) S2) (hnext : Goes P (Co.team P N w0) Stop (Mv.G (b.at (aa.put o.dst undef) (.inRegion ops rest :: k)) cs) S1) :
  Goes P (Co.team P N w0) Stop (Mv.G (b.at aa (.inRegion ops (i :: rest) :: k)) cs) S := by
 refine .big (fun g' S'' => g' = Mv.G (b.at (aa.put o.dst undef) (.inRegion ops rest :: k)) cs ∧ S'' = S1) (reach_act ⟨_, _, _, hgh⟩ (by rintro g' S'' ⟨rfl, _⟩; exact rfl) ?_) (by rintro g' S'' ⟨rfl, rfl⟩; exact hnext)
 exact ActM.go rfl hgh fun w hS => ⟨_, _, S1, S2, pc, l1, hl, stepG_go ho hw hk hop hx, rfl, rfl, p1, p2, d1, d2, g1, g2, hq, hps, Mx.hands_to hchild ⟨_, _, _, g2⟩, rfl, rfl⟩
theorem callable_go {hk : Hook} (h : GoFn P hk) : Callable P hk.go := by
 obtain ⟨fn, A, i1, ops1, i2, ops2, hf, hb, _, _, _, _, hn⟩ := h
 exact ⟨fn, hf, hn, by rw [hb]; rfl⟩
theorem workK_sound {ws : List WSum} {hk : Hook} {K : Grp} {ex : Run_} (hws : ∀ s ∈ ws, s.Ok P hk ex) (hex : SoundEx P (Mx.Hand P K) ex) (H : WgLib P hk.L) (Gl : GoLib P hk) {D : Env → SEx → SS → Prop} {E : Env → List Item → SS → Prop} {iW nk : Nat} {args : List SC} {hp : Hp} {Γ : Facts} {ρ : Env} {F S : Own}
  (hv : vals ρ) (hΓ : Γ.On ρ) (hnk : ρ.k.length = nk) (hargs : ∀ x ∈ args, x.ok ρ.k.length) (hs : Sat ρ hp F S) (hrw : hp.rw = .nil)
  (h : holds D E ρ (workK ws P hk ex iW args hp nk Γ)) : Goes P (Mx.Hand P K) StopW (born P { target := .fn (.func hk.g1) (args.map (SC.den ρ)).toArray, args := #[] }) S := by
 unfold workK at h
 split at h
 ·exact workF_sound hex H Gl hv hΓ hnk hargs hs h
 ·split at h
  ·exact workF_sound hex H Gl hv hΓ hnk hargs hs h
  ·rename_i s hpick
   obtain ⟨hm, hk'⟩ := pickW_mem hpick
   split at h
   ·rename_i ha hl hg
    have ha := sameL_eq (SC.same_eq 6) _ _ ha
    obtain ⟨g1, g2⟩ := sameW_eq hg
    have hok := hws s hm
    have hs' : Sat ρ { rw := .nil, ro := setsT s.ro, gh := s.gh } F S := hs.less g2.symm (fun i o hi => by rw [Tr.nil_look] at hi; cases hi) (fun i o hi => lies_look hl _ (setsT_look hi))
    rw [ha] at hargs ⊢
    exact workF_sound (D := D) (E := E) (Γ := {}) hex H Gl hv ⟨by simp, by simp, hΓ.lens, by simp⟩ (hnk.trans hk'.symm) hargs hs' (okTree_holds _ ρ hok)
   ·exact h.elim
theorem goMid_goes {ws : List WSum} {hk : Hook} {exW : Run_} {dry : Dry} (hws : ∀ s ∈ ws, s.Ok P hk exW) (H : WgLib P hk.L) (Gl : GoLib P hk) (hexW : ∀ K, SoundEx P (Mx.Hand P K) exW) {fn : Func} {i1 i2 : Nat} {ops1 ops2 : Array Oper} (hf : P.funcs[hk.go]? = some fn) (h1 : OpsAdd hk ops1) (h2 : OpsGo hk ops2) (hnt : 7 ≤ fn.ntmps) (hr : fn.results = #[])
    {D : Env → SEx → SS → Prop} {E : Env → List Item → SS → Prop} {k : KEnd} {iW nk : Nat} {ρ ρ0 : Env} {F S : Own} {e : SEx} {σ : SS} {Γ : Facts} {a : St} (hfit : Fit (2 + (fn.ntmps - 2)) F ρ σ a S) (hnk : ρ.k.length = nk) (hv : vals ρ) (hΓ : Γ.On ρ) (he0 : Ext ρ0 ρ) {Post : Mv.End → Own → Prop}
    (hpost : ∀ ρ' e cm hp' Γ', Ext ρ0 ρ' → Γ'.On ρ' → e.ok ρ'.k.length → holds D E ρ' (k e cm hp' ρ'.k.length Γ') → ∀ S', Sat ρ' hp' F S' → Post (e.den ρ') S')
    (h : holds D E ρ (goMid ws P hk exW dry k iW e σ nk Γ)) {Stop : Goroutine → Own → Prop} {kind : CallKind} {cs : List Frame} (hne : kind ≠ .early)
    (hk' : ∀ x e S', Post e S' → Leaves P hk.go kind e x S' → Goes P (Co.team P N w0) Stop (Mv.G x cs) S') :
    e = .normal ∧ Goes P (Co.team P N w0) Stop (Mv.G (fr (base hk.go kind) a [.code (.seq (.region i1 ops1 false) (.region i2 ops2 false))]) cs) S := by
  subst hnk
  unfold goMid at h
  split at h
  · rename_i x2 x3 hdf hx2 hx3
    refine ⟨rfl, ?_⟩
    split at h
    · rename_i i ty jW iC cap tm lent n hp2 hload hgh hlend
      rw [forceMs_eq] at h
      generalize hms : dry _ _ _ _ = ms at h
      split at h
      · rename_i hi hj hty hn hq hmsok
        have hq := Nat.le_of_ble_eq_true hq
        have hmsok : ∀ x ∈ ms, x.a ≤ ρ.k.length ∧ x.ok := fun x hx => SM.okB_ok (List.all_eq_true.1 hmsok x hx)
        obtain rfl := Nat.eq_of_beq_eq_true hi
        obtain rfl := Nat.eq_of_beq_eq_true hj
        obtain rfl := Nat.eq_of_beq_eq_true hty
        have hn := Nat.le_of_ble_eq_true hn
        obtain ⟨hW, hM⟩ := h
        obtain ⟨ty0, p0, a0, ats, ty1, p1, a1, rfl⟩ := h1
        obtain ⟨ty2, p2, a2, ats2, ty3, p3, a3, rfl⟩ := h2
        have hadf : a.defers = [] := by rw [hfit.df, hdf]; rfl
        obtain ⟨x2ok, hv2⟩ := hfit.sl 2 x2 hx2
        obtain ⟨x3ok, hv3⟩ := hfit.sl 3 x3 hx3
        have hsz := hfit.size
        have hgS : S.gh = .main (ρ.grp hk.L.tWg jW iC cap tm) (fun b => ∃ i ∈ lent, ρ.blk i = b) (.op false false) (n.map (pactOf ρ)) := by rw [hfit.hp.gh, hgh]; rfl
        have hiW : jW < ρ.k.length := by have := hfit.hp.ghok; rw [hgh] at this; exact this.1
        obtain ⟨S', s', hpart, hlents⟩ := lendAll_sat _ _ _ _ hfit.hp hlend
        obtain ⟨lent2, hgh2⟩ := lendAll_gh _ hlend hgh
        refine .move rfl (fun w => stepG_seq) ?_
        refine .move rfl (fun w => stepG_region) ?_
        have hload' : sLoad P σ.hp hk.L.tWgP (evC σ.sl (.tmp 2)) = some (.val [] (.ptr jW (.lit (.ofNat 0)))) := by simp only [evC, hx2]; exact hload
        have hrun := (sLoad_good (P := P) (S0 := S) (o := ⟨some 4, .load hk.L.tWgP (.tmp 2), ty0, p0, a0, none⟩) rfl hfit.hp (evC_ok hfit.sl) hload').1
        have hbn : (base hk.go kind).roundOf = none := rfl
        refine op_step (r := { fn := some hk.go }) (Q := fun _ _ _ => False) (next := fun a' S' => a' = a.put (some 4) (.pointer (some ⟨(ρ.grp hk.L.tWg jW iC cap tm).W, 0, none⟩)) ∧ S' = S) rfl rfl rfl ⟨rfl, by simp, by simp [base]⟩ ?_ (fun _ _ h => h.elim)
          (hrun (by simp [allTrue]) _ ⟨rfl, rfl⟩)
        rintro a' S2 ⟨rfl, rfl⟩
        refine .move rfl (fun w => stepG_call (b := base hk.go kind) (a := ⟨_, _⟩) rfl rfl hne rfl H.f_add (Go.ConcR.Gen.nm_add hk.L) rfl (vs := #[.pointer (some ⟨(ρ.grp hk.L.tWg jW iC cap tm).W, 0, none⟩), .int .i64 1]) (by simp [Act.eval, St.put]; omega)) ?_
        refine Mx.calls_add (N := N) (w0 := w0) (K := ρ.grp hk.L.tWg jW iC cap tm) H rfl ⟨_, _, _, hgS⟩ hgS (by simp; omega) Stop .normal _ (by decide) ?_
        rintro x e S3 ⟨rfl, rfl⟩ ⟨hxf, hxk, hxd, fna, hfa, hxm, hxr⟩
        have hfa' : P.funcs[x.fn]? = some (Go.Conc.Lib.addFn hk.L) := by rw [hxf]; exact H.f_add
        refine .move rfl (fun w => stepG_back hxk hxm hxd hfa' rfl) ?_
        rw [Frame.finish_at]
        refine .move rfl (fun w => Go.Conc.stepG_region_end) ?_
        refine .move rfl (fun w => Go.Conc.stepG_region) ?_
        refine .move rfl (fun w => stepG_makeFunc rfl rfl hne rfl (v := .func (.func hk.g1) #[] #[x2.den ρ, x3.den ρ]) (by simp [Act.eval, Act.put, St.put, hv2, hv3])) ?_
        have h4 : ∀ (v4 v5 v6 : Value), (((({ tmps := a.tmps.setIfInBounds 4 v4, defers := a.defers } : Act).put (some 5) v5).put (some 6) v6).eval (.tmp 6)) = v6 := by intro v4 v5 v6; simp [Act.eval, Act.put]; omega
        refine go_goes (K := ρ.grp hk.L.tWg jW iC cap tm) (l1 := fun b => ∃ i ∈ lent2, ρ.blk i = b) (pc := pactOf ρ ms) (S1 := S'.as ((hp2.gh.more ms).den ρ)) (S2 := ⟨fun _ => none, S'.ro, .work (ρ.grp hk.L.tWg jW iC cap tm) .work (pactOf ρ ms) []⟩) rfl rfl hne rfl (h4 _ _ _) rfl ?_ (part_as hpart) ?_ ?_ ?_ ?_ rfl ?_ ?_ ?_ ?_
        · intro b hb
          obtain ⟨j, hj, rfl⟩ := hb
          rcases hlents j (by rw [hgh2]; exact hj) with h | h
          · exact .inl ⟨j, by rw [hgh] at h; exact h, rfl⟩
          · exact .inr h
        · exact { f := fun b o h => (by cases h), r := fun b o h => hpart.r b o h, disj := fun b h => (by cases h) }
        · exact fun b hb => ⟨rfl, s'.dis b hb⟩
        · exact fun b hb => (by cases hb)
        · rw [hgh2]
          show SGh.den ρ (.main hk.L.tWg jW iC cap tm lent2 (n ++ [ms])) = _
          simp only [SGh.den, List.map_append, List.map_cons, List.map_nil]
        · have e : (n.map (pactOf ρ) ++ [pactOf ρ ms]).map (·.quota) = (n ++ [ms]).map List.length := by
            simp [pactOf, Function.comp_def]
          rw [e]; exact hq
        · simp; omega
        · have sW : Sat ρ { rw := .nil, ro := hp2.ro, gh := .work hk.L.tWg jW iC cap tm ms 0 } ⟨fun _ => none, fun _ => none, .none⟩ ⟨fun _ => none, S'.ro, .work (ρ.grp hk.L.tWg jW iC cap tm) .work (pactOf ρ ms) []⟩ := {
            has := fun j o hj => by rw [Tr.nil_look] at hj; cases hj
            hro := s'.hro
            inj := fun j j' o o' hj => by rw [Tr.nil_look] at hj; cases hj
            frm := fun b o hb => by cases hb
            apart := fun j o hj => rfl
            ro := fun b o hb => by cases hb
            gh := rfl
            dis := fun b hb => by cases hb
            ghok := ⟨hiW, (by have := hfit.hp.ghok; rw [hgh] at this; exact this.2.1), hmsok, fun x hx => by simp at hx⟩
            lent := fun j hj => by cases hj
            linj := fun j hj => by cases hj
            rinj := fun j hj => by cases hj
            lnd := List.nodup_nil }
          exact workK_sound hws (hexW _) H Gl hv hΓ rfl (by
            intro x hx
            rcases List.mem_cons.1 hx with rfl | hx
            · exact x2ok
            · rcases List.mem_cons.1 hx with rfl | hx
              · exact x3ok
              · cases hx) sW rfl hW
        · refine .move rfl (fun w => Go.Conc.stepG_region_end) ?_
          refine .move rfl (fun w => Go.Conc.stepG_end) ?_
          refine hk' _ (.returned (.tuple #[])) _ (hpost ρ (.ret (.tup [])) none _ Γ he0 hΓ trivial hM _ (s'.stand ?_ ?_)) ⟨rfl, rfl, hadf, fn, hf, rfl, Mx.reads_none hr⟩
          · rw [hgh2]; rfl
          · have := s'.ghok
            rw [hgh2] at this ⊢
            exact ⟨this.1, this.2.1, this.2.2.1, fun l hl => (List.mem_append.1 hl).elim (this.2.2.2 l) fun hl => by rw [List.mem_singleton.1 hl]; exact hmsok⟩
      · exact h.elim
    · exact h.elim
  · exact h.elim
theorem goF_sound {ws : List WSum} {hk : Hook} {exM exW : Run_} {dry : Dry} (hws : ∀ s ∈ ws, s.Ok P hk exW) (H : WgLib P hk.L) (Gl : GoLib P hk) (Gf : GoFn P hk) (hexM : SoundEx P (Co.team P N w0) exM) (hexW : ∀ K, SoundEx P (Mx.Hand P K) exW)
  {D : Env → SEx → SS → Prop} {E : Env → List Item → SS → Prop} {args : List SC} {hp : Hp} {nk : Nat} {Γ : Facts} {k : KEnd} {ρ : Env} {F S : Own} {Post : Mv.End → Own → Prop} (hv : vals ρ) (hΓ : Γ.On ρ) (hnk : ρ.k.length = nk) (hargs : ∀ x ∈ args, x.ok ρ.k.length) (hs : Sat ρ hp F S)
  (hpost : ∀ ρ' e cm hp' Γ', Ext ρ ρ' → Γ'.On ρ' → e.ok ρ'.k.length → holds D E ρ' (k e cm hp' ρ'.k.length Γ') → ∀ S', Sat ρ' hp' F S' → Post (e.den ρ') S')
  (h : holds D E ρ (goF ws P hk exM exW dry args hp nk Γ k)) : Callable P hk.go ∧ Calls P (Co.team P N w0) hk.go (args.map (SC.den ρ)).toArray S Post := by
 refine ⟨callable_go Gf, ?_⟩
 obtain ⟨fn, A, i1, ops1, i2, ops2, hf, hb, h1, h2, hnt, hr, hname⟩ := Gf
 subst hnk
 unfold goF at h
 rw [hf] at h
 split at h
 ·rename_i iW f fn' hfe
  simp only [Option.some.injEq] at hfe; subst hfe
  rw [hb] at h
  split at h
  ·rename_i A' c hp1 hA hbeg
   simp only [Option.some.injEq, Code.seq.injEq] at hA
   obtain ⟨rfl, _⟩ := hA
   obtain ⟨S1, iC, cap, tm, lent, n, s1, hg1, hgo⟩ := beginG_sound (P := P) (N := N) (w0 := w0) hs hbeg
   intro Stop kind cs hne hk'
   rw [enter_eq (cm := none) hf hb]
   refine hgo _ _ rfl ?_
   refine .move rfl (fun w => stepG_seq) ?_
   have hrun := hexM D E _ { fn := some hk.go } Γ _ _ _ _ ρ (fun e a S' => e = .normal ∧ Goes P (Co.team P N w0) Stop (Mv.G (fr (base hk.go kind) a [.code (.seq (.region i1 ops1 false) (.region i2 ops2 false))]) cs) S') F ⟨rfl, rfl, by simp, rfl⟩ hv hΓ rfl ?_ (fun h => by cases h) h _ S1 (entry_fit (cm := none) hargs (by simp) s1)
   ·refine hrun Stop (base hk.go kind) [.code (.seq (.region i1 ops1 false) (.region i2 ops2 false))] cs ⟨rfl, by simp, by simp [base]⟩ ?_
    rintro e a' S' ⟨rfl, hg⟩
    exact hg
   ·intro ρ1 e σ Γ1 he1 hΓ1 hok1 hh a S2 hfit
    obtain ⟨h3, h4⟩ := goMid_goes (N := N) (w0 := w0) (i1 := i1) (i2 := i2) hws H Gl hexW hf h1 h2 hnt hr hfit rfl (vals_ext he1 hv) hΓ1 he1 hpost hh hne hk'
    exact ⟨by rw [h3]; rfl, h4⟩
  ·exact h.elim
 ·exact h.elim
end
end Mw
set_option linter.unusedVariables false
namespace Mw
open Go Mv
open Go.Conc.Lib (WgLink WgLib)
def callG (ws : List WSum) (P : Program) (inl : FuncId → Bool) (hk : Hook) (exW : Run_) (dry : Dry) (ex : Run_) (call : Call_) : Call_ := fun f args cm hp nk Γ k => match Nat.beq f hk.go, Nat.beq f hk.L.wait, cm with
 | true, _, none => goF ws P hk ex exW dry args hp nk Γ k
 | false, true, none => waitF hk args hp nk Γ k
 | false, false, cm => runF P inl ex call f args cm hp nk Γ k
 | _, _, _ => .bad
section
variable {P : Program} {N : Nat} {w0 : Option World}
theorem callG_sound {ws : List WSum} {hk : Hook} {inl : FuncId → Bool} {ex exW : Run_} {dry : Dry} {call : Call_} (hws : ∀ s ∈ ws, s.Ok P hk exW) (H : WgLib P hk.L) (Gl : GoLib P hk) (Gf : GoFn P hk) (hexW : ∀ K, SoundEx P (Mx.Hand P K) exW) (hex : SoundEx P (Co.team P N w0) ex) (hcall : SoundCall P (Co.team P N w0) call) :
  SoundCall P (Co.team P N w0) (callG ws P inl hk exW dry ex call) := by
 constructor
 ·intro D E f args hp nk Γ k ρ F S Post hv hΓ hnk hargs hs hpost h
  unfold callG at h
  split at h
  ·rename_i hf _
   obtain rfl := Nat.eq_of_beq_eq_true hf
   exact goF_sound hws H Gl Gf hex hexW hv hΓ hnk hargs hs hpost h
  ·rename_i hf _
   obtain rfl := Nat.eq_of_beq_eq_true hf
   exact waitF_sound H hΓ hnk hs hpost h
  ·exact (runF_sound hex hcall).plain D E f args hp nk Γ k ρ F S Post hv hΓ hnk hargs hs hpost h
  ·exact h.elim
 ·intro D E f args m hp nk Γ k ρ F S Post hv hΓ hnk hargs hm hs hpost h
  unfold callG at h
  split at h
  ·rename_i e
   cases e
  ·rename_i e
   cases e
  ·exact (runF_sound hex hcall).dfr D E f args m hp nk Γ k ρ F S Post hv hΓ hnk hargs hm hs hpost h
  ·exact h.elim
end
end Mw
set_option linter.unusedVariables false
namespace Mv
open Go
open Go.Conc (crowd Leavers Past QuitsD Deaf EvL AtRel)
def AtC (c : Nat) (op : MemOp) : Prop := op.g = 0 ∧ ((∃ e, op.act = .ofEvent e ∧ e.loc = .obj c) ∨ op.act = .recvClosed c ∨ (∃ k cap, op.act = .recv c k cap) ∨ ∃ k, op.act = .recvDone c k)
theorem AtC.touch {c : Nat} {op : MemOp} (h : AtC c op) {b : Touch} (hb : op.act.touch? = some b) : b.loc = .obj c := by
 obtain ⟨_, ⟨e, he, hl⟩ | he | ⟨_, _, he⟩ | ⟨_, he⟩⟩ := h
 ·obtain ⟨loc, wr, sy⟩ := e
  simp only at hl; subst hl
  rw [he] at hb
  cases wr <;> cases sy <;> simp [MemAct.ofEvent, MemAct.touch?] at hb <;> rw [← hb]
 all_goals (rw [he] at hb; simp [MemAct.touch?] at hb)
theorem AtC.low {c M : Nat} {op : MemOp} (h : AtC c op) (hc : c < M) : op.act.low M := by
 obtain ⟨_, ⟨e, he, hl⟩ | he | ⟨_, _, he⟩ | ⟨_, he⟩⟩ := h
 ·obtain ⟨loc, wr, sy⟩ := e
  simp only at hl; subst hl
  rw [he]
  cases wr <;> cases sy <;> exact hc
 all_goals (rw [he]; exact hc)
theorem AtC.unmarked {c : Nat} {op : MemOp} (h : AtC c op) (m : Mark) : op.act ≠ .mark m := by
 obtain ⟨_, ⟨e, he, hl⟩ | he | ⟨_, _, he⟩ | ⟨_, he⟩⟩ := h
 ·obtain ⟨loc, wr, sy⟩ := e
  simp only at hl; subst hl
  rw [he]
  cases wr <;> cases sy <;> simp [MemAct.ofEvent]
 all_goals (rw [he]; simp)
section
variable {P : Program} {N : Nat} {w0 : Option World}
theorem lone_any {g g' : Goroutine} {S S' : Own} {c : Nat} (hs : g.status = .running) (hc : (S.full c).isSome) (hgh : S.gh = .none)
  (h : ∀ w, S.In w → ∃ w' u, Mid S w S' w' ∧ (∀ op ∈ u, AtC c op) ∧ ∀ gs sl, gs[0]? = some g → (∀ j x, 0 < j → gs[j]? = some x → x.status = .running ∨ x.status = .finished) →
   ∃ gs', runT P (crowd gs w sl) 0 = (.next (crowd gs' w' sl), u) ∧ gs'.size = gs.size ∧ gs'[0]? = some g' ∧ ∀ j, 0 < j → gs'[j]? = gs[j]?) :
  ReachT P N w0 g S (fun g2 S2 => g2 = g' ∧ S2 = S') := by
 intro gs w sl t hst
 rcases hst with ⟨Shun, B, q, hst⟩ | ⟨K, base, D, I, eg, eS, hb⟩
 ·obtain ⟨n, gs1, d, sl1, t1, q1, hr, r1, r2, r3, r3', d', sl', r4⟩ := turn hs (Go.ConcN.sumTo gs.size q) gs w sl t q Shun B (Nat.le_refl _) hst.st.h0 hst.st.lv hst.st.past hst.st.norel
  have hin : S.In (w.at d') := In.at hst.st.inn d'
  obtain ⟨w', u, hmid, hu, hrun⟩ := h (w.at d') hin
  obtain ⟨gs', hr', hsz, h0', hoth⟩ := hrun gs1 sl' r1 fun j x hj hx => (r2.old j x hj hx).status
  have hmid0 : Mid S w S' w' := ⟨hmid.inn, hmid.size, hmid.kept, hmid.dom, hmid.rod, hmid.ghd, hmid.qz, hmid.tape, hmid.os, hmid.output⟩
  have hszw : w.heap.size ≤ w'.heap.size := hmid.size
  have hcw : c < w.heap.size := by
   obtain ⟨o, ho⟩ := Option.isSome_iff_exists.1 hc
   exact (hst.st.inn.lay c o ho).lt
  have hne : ∀ b, b < w.heap.size → S.full b = none → S'.full b = none := fun b hb hn => by
   cases hf : S'.full b with
   | none => rfl
   | some o =>
    rcases hmid.dom b (by simp [hf]) with h2 | h2
    ·simp [hn] at h2
    ·exact absurd hb (Nat.not_lt.2 h2)
  have hstand : Stand P g' S' gs' w' (t1 ++ u) Shun w'.heap.size q1 := by
   refine ⟨h0', ⟨fun j x hj hx => ?_, fun j hj => ?_⟩, ?_, hmid.inn, fun a ha => ?_, fun r hr' => ?_, Nat.le_refl _, r3'.app fun op hop a => (hu op hop).unmarked _⟩
   ·rw [Go.Conc.Deaf_other t1 (by omega) u (fun op hop => (hu op hop).1)]
    rw [hoth j hj] at hx
    exact r2.old j x hj hx
   ·rw [hsz] at hj
    have h0 : 0 < gs1.size := (Array.getElem?_eq_some_iff.1 r1).1
    rw [Go.Conc.Deaf_other t1 (g' := 0) (by omega) u (fun op hop => (hu op hop).1)]
    exact r2.above j hj
   ·refine (r3.mono (Nat.le_trans hst.st.low hszw)).app0 (fun op hop => (hu op hop).1) (fun op hop b hb hsh => ?_) ?_ fun op hop => (hu op hop).low (Nat.lt_of_lt_of_le hcw hszw)
    ·rw [(hu op hop).touch hb] at hsh
     have := (hst.st.obj c hsh).2.1
     rw [this] at hc; cases hc
    ·exact deaf_still (fun op hop => ⟨(hu op hop).unmarked _, (hu op hop).unmarked _⟩) _ (by simp)
   ·obtain ⟨a1, a2, a3⟩ := hst.st.cell a ha
    exact ⟨Nat.lt_of_lt_of_le a1 hszw, hne _ a1 a2, by rw [hmid.rod]; exact a3⟩
   ·obtain ⟨a1, a2, a3⟩ := hst.st.obj r hr'
    exact ⟨Nat.lt_of_lt_of_le a1 hszw, hne _ a1 a2, by rw [hmid.rod]; exact a3⟩
  refine ⟨n + 1, gs', w', sl', t1 ++ u, g', S', ?_, ⟨rfl, rfl⟩, .inl ⟨Shun, _, q1, hstand, hmid0.ghd.trans hst.gh, fun b hb => (hmid0.dom b hb).elim (hst.low b) (Nat.le_trans hst.far.1), hst.slow, hst.far.mid hmid0 hst.low⟩⟩
  rw [runNT_app (m' := crowd gs1 (w.at d) sl1) (t' := t1) (by rw [hr]; rfl)]
  simp only [runNT, r4, hr']
 ·have := I.gh0
  rw [eS, hgh] at this
  cases this
theorem close_run {a : St} {o : Oper} {x : Operand} {ats : Array TypeId} {c cap s r : Nat} {buf : Array Value} {tm : Bool} {w : World} (hop : o.op = .call { callee := .builtin .close, args := #[x], argTypes := ats }) (hx : a.eval x = .chan (some c))
  (hc : w.heap[c]? = some (.chan cap buf false s r tm)) : (execOp a.eval o).runT P w #[] = (.ok (.value (.tuple #[])) { w with heap := w.heap.setIfInBounds c (.chan cap buf true s r tm) }, #[⟨.obj c, false, true⟩, ⟨.obj c, true, true⟩]) := by
 have e : execOp a.eval o = Sem.bind (Builtin.close_ ats o.type #[.chan (some c)]) (fun v => pure (.value v)) := by
  simp only [execOp, hop, resolve]
  simp [hx, invoke, Go.builtin]
  rfl
 rw [e]
 show Sem.runT P (Sem.getObj c _) w #[] = _
 simp only [Sem.runT, hc]
 show Sem.runT P (Sem.setObj c (.chan cap buf true s r tm) _) w _ = _
 simp only [Sem.runT, hc]
 rfl
variable {a : St} {b : Frame} {k : List Item} {cs : List Frame} {ops : Array Oper} {i : Nat} {rest : List Nat} {o : Oper} {Stop : Goroutine → Own → Prop} {S : Own} {c cap s r : Nat} {tm : Bool}
theorem goes_close {x : Operand} {ats : Array TypeId} {buf : Array Value} (ho : ops[i]? = some o) (hw : Region.wanted o (yielded ops a.tmps) = true) (hp : plainOp b.roundOf o = true) (hop : o.op = .call { callee := .builtin .close, args := #[x], argTypes := ats }) (hx : a.eval x = .chan (some c))
  (hS : S.full c = some (.chan cap buf false s r tm)) (hgh : S.gh = .none) (hnext : Goes P (Co.team P N w0) Stop (G (fr b (a.put o.dst (.tuple #[])) (.inRegion ops rest :: k)) cs) (S.set c (.chan cap buf true s r tm))) :
  Goes P (Co.team P N w0) Stop (G (fr b a (.inRegion ops (i :: rest) :: k)) cs) S := by
 refine .big _ ⟨rfl, lone_any (c := c) (g' := G (fr b (a.put o.dst (.tuple #[])) (.inRegion ops rest :: k)) cs) (S' := S.set c (.chan cap buf true s r tm)) rfl (by rw [hS]; rfl) hgh fun w hin => ?_⟩ (by rintro g2 S2 ⟨rfl, rfl⟩; exact hnext)
 have hc := hin.full c _ hS
 have hrun := close_run (P := P) hop hx hc
 have hrun1 : (execOp a.eval o).run P w = .ok (.value (.tuple #[])) { w with heap := w.heap.setIfInBounds c (.chan cap buf true s r tm) } := by have := congrArg Prod.fst hrun; simpa using this
 have hrun2 : (execOp a.eval o).events P w #[] = #[⟨.obj c, false, true⟩, ⟨.obj c, true, true⟩] := by have := congrArg Prod.snd hrun; simpa using this
 have hlt : c < w.heap.size := (Array.getElem?_eq_some_iff.1 hc).1
 have hgo : stepG P (0 == 0) (G (fr b a (.inRegion ops (i :: rest) :: k)) cs) w = .go (G (fr b (a.put o.dst (.tuple #[])) (.inRegion ops rest :: k)) cs) { w with heap := w.heap.setIfInBounds c (.chan cap buf true s r tm) } (seen P b.fn (if b.kind == .early then #[] else #[⟨.obj c, false, true⟩, ⟨.obj c, true, true⟩])) := by
  rw [stepG_oper ho hw hp]
  have hfin := fun v => finish_fr b a ops i rest k v
  have hfn : (fr b a (.inRegion ops (i :: rest) :: k)).fn = b.fn := rfl
  have hkd : (fr b a (.inRegion ops (i :: rest) :: k)).kind = b.kind := rfl
  simp [stepG.apply, hrun1, hrun2, GStep.after, G, hfin, ho, hfn, hkd]
 refine ⟨{ w with heap := w.heap.setIfInBounds c (.chan cap buf true s r tm) }, _, (Mid.refl hin).set (by rw [hS]; rfl) (by simp) (fun y => ?_) rfl rfl rfl, ?_, fun gs sl h0 hst => ⟨_, Go.Conc.runT_crowd_go h0 hgo, by simp, ?_, fun j hj => ?_⟩⟩
 ·rw [Array.getElem?_setIfInBounds]
  by_cases e : y = c
  ·subst e; simp [hlt]
  ·simp [e, Ne.symm e]
 ·intro op hop'
  obtain ⟨e, he, rfl⟩ := Go.Conc.mem_ofEvents hop'
  have he := mem_seen he
  refine ⟨rfl, .inl ⟨e, rfl, ?_⟩⟩
  split at he
  ·simp at he
  ·simp at he; rcases he with rfl | rfl <;> rfl
 ·have : 0 < gs.size := (Array.getElem?_eq_some_iff.1 h0).1
  simp [this]
 ·rw [Array.getElem?_setIfInBounds_ne (by omega), Array.getElem?_map]
  cases hx' : gs[j]? with
  | none => rfl
  | some y =>
   simp only [Option.map_some]
   congr 1
   unfold Go.Conc.woken
   split
   ·exact Go.Conc.again_running _ (hst j y hj hx')
   ·rfl
theorem goes_recvClosed {z : Value} (ho : ops[i]? = some o) (hw : Region.wanted o (yielded ops a.tmps) = true) (hp : plainOp b.roundOf o = true) (hrun : ∀ w, (execOp a.eval o).runT P w #[] = (.ok (.comm #[Go.Conc.rcase c z] true (.recv true)) w, #[]))
  (hS : S.full c = some (.chan cap #[] true s r tm)) (hgh : S.gh = .none) (hnext : Goes P (Co.team P N w0) Stop (G (fr b (a.put o.dst (.tuple #[z, .bool false])) (.inRegion ops rest :: k)) cs) S) :
  Goes P (Co.team P N w0) Stop (G (fr b a (.inRegion ops (i :: rest) :: k)) cs) S := by
 refine .big _ ⟨rfl, lone_any (c := c) (g' := G (fr b (a.put o.dst (.tuple #[z, .bool false])) (.inRegion ops rest :: k)) cs) (S' := S) rfl (by rw [hS]; rfl) hgh fun w hin => ?_⟩ (by rintro g2 S2 ⟨rfl, rfl⟩; exact hnext)
 have hc := hin.full c _ hS
 have hrun1 : (execOp a.eval o).run P w = .ok (.comm #[Go.Conc.rcase c z] true (.recv true)) w := by have := congrArg Prod.fst (hrun w); simpa using this
 have hrun2 : (execOp a.eval o).events P w #[] = #[] := by have := congrArg Prod.snd (hrun w); simpa using this
 have hgo : stepG P (0 == 0) (G (fr b a (.inRegion ops (i :: rest) :: k)) cs) w = .comm (G (fr b a (.inRegion ops (i :: rest) :: k)) cs) #[Go.Conc.rcase c z] true (.recv true) w #[] := by
  rw [stepG_oper ho hw hp]
  have hfn : (fr b a (.inRegion ops (i :: rest) :: k)).fn = b.fn := rfl
  have hkd : (fr b a (.inRegion ops (i :: rest) :: k)).kind = b.kind := rfl
  simp [stepG.apply, hrun1, hrun2, GStep.after, G, hfn, hkd, Go.Conc.seen_none]
 have hfin := finish_fr b a ops i rest k (.tuple #[z, .bool false])
 have hg' : (G (fr b a (.inRegion ops (i :: rest) :: k)) cs).finishComm P #[Go.Conc.rcase c z] (.recv true) 0 z false = G (fr b (a.put o.dst (.tuple #[z, .bool false])) (.inRegion ops rest :: k)) cs := by
  rw [ho] at hfin
  simp only [Goroutine.finishComm, commResult, G]
  rw [hfin]
  rfl
 refine ⟨w, _, Mid.refl hin, ?_, fun gs sl h0 hst => ⟨_, Go.Conc.crowd_recv_closed h0 hgo hc (Go.Conc.partners_nil fun j x hx => ?_), by simp, ?_, fun j hj => ?_⟩⟩
 ·intro op hop'
  simp [MemOp.ofEvents] at hop'
  subst hop'
  exact ⟨rfl, .inr (.inl rfl)⟩
 ·rcases Nat.eq_zero_or_pos j with rfl | hj
  ·rcases Go.Conc.getElem?_stand gs 0 0 x hx with ⟨_, rfl⟩ | ⟨h, _⟩
   ·rfl
   ·exact absurd rfl h
  ·rw [Array.getElem?_setIfInBounds_ne (by omega)] at hx
   rcases hst j x hj hx with h | h <;> simp [Go.Conc.offersAt, h]
 ·have : 0 < gs.size := (Array.getElem?_eq_some_iff.1 h0).1
  rw [hg']
  simp [this]
 ·rw [Array.getElem?_setIfInBounds_ne (by omega)]
end
end Mv
set_option linter.unusedVariables false
namespace Mv
open Go
open Go.Conc (crowd Leavers Past QuitsD Deaf EvL AtRel)
section
variable {P : Program} {N : Nat} {w0 : Option World}
variable {a : St} {b : Frame} {k : List Item} {cs : List Frame} {ops : Array Oper} {i : Nat} {rest : List Nat} {o : Oper} {Stop : Goroutine → Own → Prop} {S : Own} {c cap s r : Nat} {tm closed : Bool}
theorem goes_recvBuf {z v : Value} {buf : Array Value} (ho : ops[i]? = some o) (hw : Region.wanted o (yielded ops a.tmps) = true) (hp : plainOp b.roundOf o = true) (hrun : ∀ w, (execOp a.eval o).runT P w #[] = (.ok (.comm #[Go.Conc.rcase c z] true (.recv true)) w, #[]))
  (hS : S.full c = some (.chan cap buf closed s r tm)) (hbuf : 0 < buf.size) (hv : buf.getD 0 undef = v) (hgh : S.gh = .none) (hnext : Goes P (Co.team P N w0) Stop (G (fr b (a.put o.dst (.tuple #[v, .bool true])) (.inRegion ops rest :: k)) cs) (S.set c (.chan cap (buf.extract 1 buf.size) closed s (r + 1) tm))) :
  Goes P (Co.team P N w0) Stop (G (fr b a (.inRegion ops (i :: rest) :: k)) cs) S := by
 refine .big _ ⟨rfl, lone_any (c := c) (g' := G (fr b (a.put o.dst (.tuple #[v, .bool true])) (.inRegion ops rest :: k)) cs) (S' := S.set c (.chan cap (buf.extract 1 buf.size) closed s (r + 1) tm)) rfl (by rw [hS]; rfl) hgh fun w hin => ?_⟩ (by rintro g2 S2 ⟨rfl, rfl⟩; exact hnext)
 have hc := hin.full c _ hS
 have hlt : c < w.heap.size := (Array.getElem?_eq_some_iff.1 hc).1
 have hrun1 : (execOp a.eval o).run P w = .ok (.comm #[Go.Conc.rcase c z] true (.recv true)) w := by have := congrArg Prod.fst (hrun w); simpa using this
 have hrun2 : (execOp a.eval o).events P w #[] = #[] := by have := congrArg Prod.snd (hrun w); simpa using this
 have hgo : stepG P (0 == 0) (G (fr b a (.inRegion ops (i :: rest) :: k)) cs) w = .comm (G (fr b a (.inRegion ops (i :: rest) :: k)) cs) #[Go.Conc.rcase c z] true (.recv true) w #[] := by
  rw [stepG_oper ho hw hp]
  have hfn : (fr b a (.inRegion ops (i :: rest) :: k)).fn = b.fn := rfl
  have hkd : (fr b a (.inRegion ops (i :: rest) :: k)).kind = b.kind := rfl
  simp [stepG.apply, hrun1, hrun2, GStep.after, G, hfn, hkd, Go.Conc.seen_none]
 have hfin := finish_fr b a ops i rest k (.tuple #[v, .bool true])
 have hg' : (G (fr b a (.inRegion ops (i :: rest) :: k)) cs).finishComm P #[Go.Conc.rcase c z] (.recv true) 0 v true = G (fr b (a.put o.dst (.tuple #[v, .bool true])) (.inRegion ops rest :: k)) cs := by
  rw [ho] at hfin
  simp only [Goroutine.finishComm, commResult, G]
  rw [hfin]
  rfl
 refine ⟨w.setChan c cap (buf.extract 1 buf.size) closed s (r + 1) tm, _, (Mid.refl hin).set (by rw [hS]; rfl) (by simp [World.setChan]) (fun y => ?_) rfl rfl rfl, ?_, fun gs sl h0 hst => ⟨_, Go.Conc.crowd_recv_buf h0 hgo hc hbuf (Go.Conc.partners_nil fun j x hx => ?_), by simp, ?_, fun j hj => ?_⟩⟩
 ·unfold World.setChan
  rw [Array.getElem?_setIfInBounds]
  by_cases e : y = c
  ·subst e; simp [hlt]
  ·simp [e, Ne.symm e]
 ·intro op hop'
  simp [MemOp.ofEvents] at hop'
  rcases hop' with rfl | rfl
  ·exact ⟨rfl, .inr (.inr (.inl ⟨_, _, rfl⟩))⟩
  ·exact ⟨rfl, .inr (.inr (.inr ⟨_, rfl⟩))⟩
 ·rcases Nat.eq_zero_or_pos j with rfl | hj
  ·rcases Go.Conc.getElem?_stand gs 0 0 x hx with ⟨_, rfl⟩ | ⟨h, _⟩
   ·rfl
   ·exact absurd rfl h
  ·rw [Array.getElem?_setIfInBounds_ne (by omega)] at hx
   rcases hst j x hj hx with h | h <;> simp [Go.Conc.offersAt, h]
 ·have : 0 < gs.size := (Array.getElem?_eq_some_iff.1 h0).1
  rw [hv, hg']
  simp [this]
 ·rw [Array.getElem?_setIfInBounds_ne (by omega)]
end
end Mv
set_option linter.unusedVariables false
namespace Mw
open Go Mv
abbrev Hk_ := Run_ → Cx → Facts → List Item → Array Oper → List Nat → Oper → List Item → SS → Nat → Kont → Option Tree
structure HkOk (P : Program) (main : Co) (hk : Hk_) : Prop where
 good : ∀ (D : Env → SEx → SS → Prop) (E : Env → List Item → SS → Prop) (ex : Run_) (C : Cx) (Γ : Facts) (items items' tail : List Item) (ops : Array Oper) (i : Nat) (rest rest' : List Nat) (o : Oper) (σ : SS) (k : Kont) (ρ : Env) (Q : Ex → St → Own → Prop) (F : Own) (r : Ctx) (t : Tree),
  CtxOk C r ρ → vals ρ → Γ.On ρ → KOk D E C.size F ρ k Q → ops[i]? = some o → hk ex C Γ items ops rest o items' σ ρ.k.length k = some t → holds D E ρ t → ∀ {a : St} {S : Own}, Fit C.size F ρ σ a S → Region.wanted o (yielded ops a.tmps) = true →
  (∀ {t : Tree}, t = stuck_ C items σ → holds D E ρ t → wpI P main r (.inRegion ops (i :: rest') :: tail) Q a S) →
  (∀ ρ' Γ' σ' a' S', Ext ρ ρ' → vals ρ' → Γ'.On ρ' → Fit C.size F ρ' σ' a' S' → (∃ v, a'.tmps = (a.put o.dst v).tmps) → holds D E ρ' (ex C Γ' (.inRegion ops rest :: items') σ' ρ'.k.length k) → wpI P main r (.inRegion ops rest' :: tail) Q a' S') → wpI P main r (.inRegion ops (i :: rest') :: tail) Q a S
 alloc : ∀ ex C Γ items ops rest o tail σ nk k t, o.op = .alloc t → hk ex C Γ items ops rest o tail σ nk k = none
 bs : ∀ ex C Γ items ops rest o tail σ nk k t n ps, o.op = .buildSlice t n ps → hk ex C Γ items ops rest o tail σ nk k = none
def hOr (h1 h2 : Hk_) : Hk_ := fun ex C Γ items ops rest o tail σ nk k => match h1 ex C Γ items ops rest o tail σ nk k with
 | some t => some t
 | none => h2 ex C Γ items ops rest o tail σ nk k
theorem hOr_ok {P : Program} {main : Co} {h1 h2 : Hk_} (k1 : HkOk P main h1) (k2 : HkOk P main h2) : HkOk P main (hOr h1 h2) where
 good D E ex C Γ items items' tail ops i rest rest' o σ k ρ Q F r t hr hv hΓ hK ho h hh := by
  unfold hOr at h
  split at h
  ·rename_i t' h1'
   simp only [Option.some.injEq] at h; subst h
   exact fun hf hw hst hn => k1.good D E ex C Γ items items' tail ops i rest rest' o σ k ρ Q F r _ hr hv hΓ hK ho h1' hh hf hw hst hn
  ·exact fun hf hw hst hn => k2.good D E ex C Γ items items' tail ops i rest rest' o σ k ρ Q F r _ hr hv hΓ hK ho h hh hf hw hst hn
 alloc ex C Γ items ops rest o tail σ nk k t ho := by
  simp only [hOr, k1.alloc ex C Γ items ops rest o tail σ nk k t ho, k2.alloc ex C Γ items ops rest o tail σ nk k t ho]
 bs ex C Γ items ops rest o tail σ nk k t n ps ho := by
  simp only [hOr, k1.bs ex C Γ items ops rest o tail σ nk k t n ps ho, k2.bs ex C Γ items ops rest o tail σ nk k t n ps ho]
def opH (P : Program) (inl : FuncId → Bool) (hk : Hk_) : Opx := fun ex call rnd C Γ items ops rest o tail σ nk k => match hk ex C Γ items ops rest o tail σ nk k with
 | some t => t
 | none => stepOp P inl ex call rnd C Γ items ops rest o tail σ nk k
theorem opH_ok {P : Program} {main : Co} {inl : FuncId → Bool} {hk : Hk_} (h : HkOk P main hk) : OpxOk P main (opH P inl hk) where
 good D E ex call rnd hrnd hcall C Γ items items' tail ops i rest rest' o σ k ρ Q F r hr hv hΓ hK ho hh := by
  intro a S hf hw hst hn
  unfold opH at hh
  split at hh
  ·rename_i t ht
   exact h.good D E ex C Γ items items' tail ops i rest rest' o σ k ρ Q F r _ hr hv hΓ hK ho ht hh hf hw hst hn
  ·exact stepOp_good hrnd hcall hr hv hΓ hK ho hh hf hw hst hn
 alloc := ⟨inl, fun ex call rnd C Γ items ops rest o tail σ nk k ho => by
  rcases ho with ⟨t, ho⟩ | ⟨t, n, ps, ho⟩
  ·simp only [opH, h.alloc ex C Γ items ops rest o tail σ nk k t ho]
  ·simp only [opH, h.bs ex C Γ items ops rest o tail σ nk k t n ps ho]⟩
def stepH (P : Program) (inl : FuncId → Bool) (hk : Hk_) (ex : Run_) (call : Call_) (other : Run_) : Run_ := fun C Γ items σ nk k => match items with
 | .inRegion ops (i :: rest) :: tail => match ops[i]? with
  | some o => match symWanted σ.sl ops o with
   | some (.inl true) => match hk ex C Γ items ops rest o tail σ nk k with
    | some t => t
    | none => other C Γ items σ nk k
   | _ => other C Γ items σ nk k
  | none => other C Γ items σ nk k
 | .code (.region _ ops true) :: tail => openX P ops (opH P inl hk) ex call C Γ items tail σ nk k
 | _ => other C Γ items σ nk k
theorem stepH_sound {P : Program} {main : Co} {inl : FuncId → Bool} {hk : Hk_} {ex other : Run_} {call : Call_} (h : HkOk P main hk) (hex : SoundEx P main ex) (hcall : SoundCall P main call) (hother : SoundEx P main other) : SoundEx P main (stepH P inl hk ex call other) := by
 intro D E C r Γ items σ nk k ρ Q F hr hv hΓ hnk hK hE hh a S hf
 have old : holds D E ρ (other C Γ items σ nk k) → wpI P main r items Q a S := fun h => hother D E C r Γ items σ nk k ρ Q F hr hv hΓ hnk hK hE h a S hf
 subst hnk
 unfold stepH at hh
 split at hh
 ·rename_i ops i rest tail
  split at hh
  ·rename_i o ho
   split at hh
   ·rename_i hg
    split at hh
    ·rename_i t ht
     exact h.good D E ex C Γ _ tail tail ops i rest rest o σ k ρ Q F r t hr hv hΓ hK ho ht hh hf (symWanted_inl hf.sl hg) (fun e h => by subst e; exact stuck_ok hE h hf)
      fun ρ' Γ' σ' a' S' he hv' hΓ' hf' _ hh => hex D E C r Γ' _ σ' _ k ρ' Q F (hr.later he) hv' hΓ' rfl (hK.later he) (hE.later he) hh a' S' hf'
    ·exact old hh
   ·exact old hh
  ·exact old hh
 ·exact openX_sound (opH_ok h) hex hcall hr hv hΓ hK hE hh hf
 ·exact old hh
abbrev Xop := Hp → (Operand → Option SC) → Op → Option Eff
def XopOk (P : Program) (xop : Xop) : Prop := ∀ {ρ : Env} {hp : Hp} {F S0 S : Own} {ev : Operand → Option SC} {ev' : Operand → Value} {o : Oper} {e : Eff} [Loud S0], vals ρ → Sat ρ hp F S → EvOk ρ ev ev' → xop hp ev o.op = some e → EffGood P ρ hp S0 S (execOp ev' o) e
def isCall : Op → Bool
 | .call _ => true
 | .load _ _ => true
 | _ => false
def hExt (xop : Xop) : Hk_ := fun ex C Γ items ops rest o tail σ nk k => match isCall o.op, xop σ.hp (evC σ.sl) o.op with
 | true, some eff => match o.dst.all (· < C.size) with
  | true => some (applyEff Γ o.dst σ nk (fun σ nk => ex C Γ (.inRegion ops rest :: tail) σ nk k) eff)
  | false => none
 | _, _ => none
theorem hExt_ok {P : Program} {main : Co} {xop : Xop} (h : XopOk P xop) : HkOk P main (hExt xop) where
 good D E ex C Γ items items' tail ops i rest rest' o σ k ρ Q F r t hr hv hΓ hK ho ht hh := by
  intro a S hf hw hst hn
  unfold hExt at ht
  split at ht
  ·rename_i eff hcall heff
   split at ht
   ·rename_i hd
    simp only [Option.some.injEq] at ht
    subst ht
    have hpl : plainOp r.round o = true := by
     unfold plainOp
     cases hop : o.op <;> simp
     rw [hop] at hcall; cases hcall
    refine wpI_op ho hw hpl ?_
    haveI := hf.hp.loud
    have hg := h (S0 := S) hv hf.hp (evC_ok hf.sl) heff
    exact Run.mono (applyEff_sound (next := fun a' S' => (∃ v, a'.tmps = (a.put o.dst v).tmps) → wpI P main r (.inRegion ops rest' :: tail) Q a' S') hΓ hg hf hd hh fun ρ' σ' a' S' he hΓ' hf' hh hx => hn ρ' Γ σ' a' S' he (vals_ext he hv) hΓ' hf' hx hh) fun e S' h => upon_tmps h
   ·cases ht
  ·cases ht
 alloc ex C Γ items ops rest o tail σ nk k t ho := by simp only [hExt, ho, isCall]
 bs ex C Γ items ops rest o tail σ nk k t n ps ho := by simp only [hExt, ho, isCall]
end Mw
set_option linter.unusedVariables false
namespace Mw
open Go Mv
open Go.Conc.Lib (WgLink WgLib)
def closeS (ex : Run_) (C : Cx) (Γ : Facts) (items : List Item) (ops : Array Oper) (rest : List Nat) (o : Oper) (x : Operand) (tail : List Item) (σ : SS) (nk : Nat) (k : Kont) : Tree := match o.dst, evC σ.sl x, σ.hp.gh with
 | none, some (.chn i), .none => match σ.hp.rw.look i with
  | some (.chan cap l false ns nr tm) => ex C Γ (.inRegion ops rest :: tail) (σ.withHp (σ.hp.setB i (.chan cap l true ns nr tm))) nk k
  | _ => stuck_ C items σ
 | _, _, _ => stuck_ C items σ
def recvS (P : Program) (ex : Run_) (C : Cx) (Γ : Facts) (items : List Item) (ops : Array Oper) (rest : List Nat) (o : Oper) (t : TypeId) (x : Operand) (tail : List Item) (σ : SS) (nk : Nat) (k : Kont) : Tree := match o.dst.all (· < C.size), evC σ.sl x, σ.hp.gh, P.underlying t with
 | true, some (.chn i), .none, some (.chan _ elem) => match σ.hp.rw.look i, P.info? elem with
  | some (.chan cap [] true ns nr tm), some inf => match inf.zero with
   | some z => ex C Γ (.inRegion ops rest :: tail) (σ.withSl (putD σ.sl o.dst (.tup [ofVal z, .bool (.lit false)]))) nk k
   | none => stuck_ C items σ
  | some (.chan cap (v :: l) closed ns nr tm), some inf => match inf.zero with
   | some _ => .new (ex C Γ (.inRegion ops rest :: tail) ((σ.withHp (σ.hp.setB i (.chan cap l closed ns (.room nk 1) tm))).withSl (putD σ.sl o.dst (.tup [v, .bool (.lit true)]))) (nk + 1) k)
   | none => stuck_ C items σ
  | _, _ => stuck_ C items σ
 | _, _, _, _ => stuck_ C items σ
def hClose : Hk_ := fun ex C Γ items ops rest o tail σ nk k => match o.op with
 | .call c => match c.callee, c.args.toList with
  | .builtin .close, [x] => some (closeS ex C Γ items ops rest o x tail σ nk k)
  | _, _ => none
 | _ => none
def hRecv (P : Program) : Hk_ := fun ex C Γ items ops rest o tail σ nk k => match o.op with
 | .recv t x true => some (recvS P ex C Γ items ops rest o t x tail σ nk k)
 | _ => none
section
variable {P : Program} {N : Nat} {w0 : Option World} {D : Env → SEx → SS → Prop} {E : Env → List Item → SS → Prop} {ex : Run_}
theorem closeS_good {C : Cx} {Γ : Facts} {items items' tail : List Item} {ops : Array Oper} {i : Nat} {rest rest' : List Nat} {o : Oper} {x : Operand} {ats : Array TypeId} {σ : SS} {k : Kont} {ρ : Env} {Q : Ex → St → Own → Prop} {F : Own}
  {r : Ctx} (hv : vals ρ) (hΓ : Γ.On ρ) (ho : ops[i]? = some o) (hop : o.op = .call { callee := .builtin .close, args := #[x], argTypes := ats })
  (h : holds D E ρ (closeS ex C Γ items ops rest o x items' σ ρ.k.length k)) {a : St} {S : Own} (hf : Fit C.size F ρ σ a S) (hw : Region.wanted o (yielded ops a.tmps) = true) (hst : ∀ {t : Tree}, t = stuck_ C items σ → holds D E ρ t → wpI P (Co.team P N w0) r (.inRegion ops (i :: rest') :: tail) Q a S)
  (hnext : ∀ ρ' Γ' σ' a' S', Ext ρ ρ' → vals ρ' → Γ'.On ρ' → Fit C.size F ρ' σ' a' S' → (∃ v, a'.tmps = (a.put o.dst v).tmps) → holds D E ρ' (ex C Γ' (.inRegion ops rest :: items') σ' ρ'.k.length k) → wpI P (Co.team P N w0) r (.inRegion ops rest' :: tail) Q a' S') : wpI P (Co.team P N w0) r (.inRegion ops (i :: rest') :: tail) Q a S := by
 unfold closeS at h
 split at h
 ·rename_i j hdst hx hgh
  split at h
  ·rename_i cap l ns nr tm hl
   intro Stop b k' cs hb hc
   obtain ⟨h1, h2, h3⟩ := hf.hp.has _ _ hl
   have hx' := (evC_ok hf.sl _ _ hx).2
   have hS : S.full (ρ.blk j) = some (.chan cap (l.map (SC.den ρ)).toArray false (ns.den ρ).toNat (nr.den ρ).toNat tm) := h3
   have hcl : cl r cs a.cm = cl r cs (a.put o.dst (.tuple #[])).cm := by rw [St.put_cm]
   refine goes_close ho hw (by rw [hb.1]; unfold plainOp; rw [hop]; simp) hop hx' hS (by rw [hf.hp.gh, hgh]; rfl) ?_
   have hf2 : Fit C.size F ρ (σ.withHp (σ.hp.setB j (.chan cap l true ns nr tm))) (a.put o.dst (.tuple #[])) (S.set (ρ.blk j) (.chan cap (l.map (SC.den ρ)).toArray true (ns.den ρ).toNat (nr.den ρ).toNat tm)) := by
    rw [hdst]
    have := hf.later (Ext.refl ρ) (hf.hp.put hl (o' := .chan cap l true ns nr tm) h2)
    exact this
   have := hnext ρ Γ _ _ _ (Ext.refl ρ) hv hΓ hf2 ⟨_, rfl⟩ h Stop b k' cs hb hc
   rw [← hcl] at this
   exact this
  ·exact hst rfl h
 ·exact hst rfl h
theorem recv_run {a : St} {o : Oper} {t elem : TypeId} {x : Operand} {c : Nat} {z : Value} {d : ChanDir} {inf : TypeInfo} (hop : o.op = .recv t x true) (hx' : a.eval x = .chan (some c)) (hu : P.underlying t = some (.chan d elem)) (hi : P.info? elem = some inf) (hz : inf.zero = some z) (w : World) :
  (execOp a.eval o).runT P w #[] = (.ok (.comm #[Go.Conc.rcase c z] true (.recv true)) w, #[]) := by
 obtain ⟨m, e⟩ : ∃ m : String, execOp a.eval o = (underlying t).bind fun y => (match y with
  | .chan _ elem => (zeroValue elem).bind fun z => Sem.pure (.comm #[{ chan := a.eval x, send := none, zero := z }] true (.recv true))
  | _ => stuck m) := by
  apply Exists.intro
  simp only [execOp, hop]
  rfl
 rw [e, hx']
 show Sem.runT P (((match P.underlying t with | some d => pure d | none => stuck "no such type" : Sem TypeDesc)).bind _) w #[] = _
 rw [hu]
 show Sem.runT P (((match P.info? elem with | some i => pure i | none => stuck "no such type" : Sem TypeInfo).bind fun i => match i.zero with | some v => pure v | none => unsupported (.resourceLimit _)).bind _) w #[] = _
 rw [hi]
 show Sem.runT P ((match inf.zero with | some v => pure v | none => unsupported (.resourceLimit _) : Sem Value).bind _) w #[] = _
 rw [hz]
 rfl
theorem recvS_good {C : Cx} {Γ : Facts} {items items' tail : List Item} {ops : Array Oper} {i : Nat} {rest rest' : List Nat} {o : Oper} {t : TypeId} {x : Operand} {σ : SS} {k : Kont} {ρ : Env} {Q : Ex → St → Own → Prop} {F : Own}
  {r : Ctx} (hv : vals ρ) (hΓ : Γ.On ρ) (ho : ops[i]? = some o) (hop : o.op = .recv t x true)
  (h : holds D E ρ (recvS P ex C Γ items ops rest o t x items' σ ρ.k.length k)) {a : St} {S : Own} (hf : Fit C.size F ρ σ a S) (hw : Region.wanted o (yielded ops a.tmps) = true) (hst : ∀ {t : Tree}, t = stuck_ C items σ → holds D E ρ t → wpI P (Co.team P N w0) r (.inRegion ops (i :: rest') :: tail) Q a S)
  (hnext : ∀ ρ' Γ' σ' a' S', Ext ρ ρ' → vals ρ' → Γ'.On ρ' → Fit C.size F ρ' σ' a' S' → (∃ v, a'.tmps = (a.put o.dst v).tmps) → holds D E ρ' (ex C Γ' (.inRegion ops rest :: items') σ' ρ'.k.length k) → wpI P (Co.team P N w0) r (.inRegion ops rest' :: tail) Q a' S') : wpI P (Co.team P N w0) r (.inRegion ops (i :: rest') :: tail) Q a S := by
 unfold recvS at h
 split at h
 ·rename_i j d elem hd hx hgh hu
  split at h
  ·rename_i cap ns nr tm inf hl hi
   split at h
   ·rename_i z hz
    intro Stop b k' cs hb hc
    obtain ⟨h1, h2, h3⟩ := hf.hp.has _ _ hl
    have hx' := (evC_ok hf.sl _ _ hx).2
    have hS : S.full (ρ.blk j) = some (.chan cap #[] true (ns.den ρ).toNat (nr.den ρ).toNat tm) := h3
    have hcl : cl r cs a.cm = cl r cs (a.put o.dst (.tuple #[z, .bool false])).cm := by rw [St.put_cm]
    have hrun : ∀ w, (execOp a.eval o).runT P w #[] = (.ok (.comm #[Go.Conc.rcase (ρ.blk j) z] true (.recv true)) w, #[]) := recv_run hop hx' hu hi hz
    refine goes_recvClosed ho hw (by rw [hb.1]; unfold plainOp; rw [hop]; simp) hrun hS (by rw [hf.hp.gh, hgh]; rfl) ?_
    have hf2 := hf.put (v := .tup [ofVal z, .bool (.lit false)]) hd ⟨ok_ofVal _ z, trivial, trivial⟩
    have hden : (SC.tup [ofVal z, .bool (.lit false)]).den ρ = .tuple #[z, .bool false] := by simp [SC.den, dens, den_ofVal, BE.den]
    rw [hden] at hf2
    have := hnext ρ Γ _ _ _ (Ext.refl ρ) hv hΓ hf2 ⟨_, rfl⟩ h Stop b k' cs hb hc
    rw [← hcl] at this
    exact this
   ·exact hst rfl h
  ·rename_i cap v l closed ns nr tm inf hl hi
   split at h
   ·rename_i z hz
    intro Stop b k' cs hb hc
    obtain ⟨h1, h2, h3⟩ := hf.hp.has _ _ hl
    have hx' := (evC_ok hf.sl _ _ hx).2
    have hS : S.full (ρ.blk j) = some (.chan cap ((v :: l).map (SC.den ρ)).toArray closed (ns.den ρ).toNat (nr.den ρ).toNat tm) := h3
    have hcl : cl r cs a.cm = cl r cs (a.put o.dst (.tuple #[v.den ρ, .bool true])).cm := by rw [St.put_cm]
    refine goes_recvBuf (v := v.den ρ) ho hw (by rw [hb.1]; unfold plainOp; rw [hop]; simp) (recv_run hop hx' hu hi hz) hS (by simp) (by simp) (by rw [hf.hp.gh, hgh]; rfl) ?_
    have h4 := h 0 (List.replicate ((nr.den ρ).toNat + 1) undef)
    have he : Ext ρ (ρ.grow 0 (List.replicate ((nr.den ρ).toNat + 1) undef)) := Ext.grow ρ 0 _
    have hok' : (SO.chan cap l closed ns (.room ρ.k.length 1) tm).ok (ρ.grow 0 (List.replicate ((nr.den ρ).toNat + 1) undef)).k.length := by
     have := SO.ok_mono he.len h2
     exact ⟨fun y hy => this.1 y (List.mem_cons_of_mem _ hy), this.2.1, by simp [IE.ok]⟩
    have s1 := (hf.hp.grow (b := 0) (r := List.replicate ((nr.den ρ).toNat + 1) undef)).put hl hok'
    have hden := SO.den_grow (ρ := ρ) (b := 0) (r := List.replicate ((nr.den ρ).toNat + 1) undef) (SO.chan cap (v :: l) closed ns nr tm) h2
    have hobj : (SO.chan cap l closed ns (.room ρ.k.length 1) tm).den (ρ.grow 0 (List.replicate ((nr.den ρ).toNat + 1) undef)) = .chan cap (((v :: l).map (SC.den ρ)).toArray.extract 1 ((v :: l).map (SC.den ρ)).toArray.size) closed (ns.den ρ).toNat ((nr.den ρ).toNat + 1) tm := by
     simp only [SO.den] at hden ⊢
     injection hden with _ e1 _ e2 _ _
     have e1 := congrArg Array.toList e1
     simp only [List.map_cons, List.cons.injEq] at e1
     rw [e1.2, e2]
     simp [IE.den]
     exact ⟨(List.take_of_length_le (by simp)).symm, by omega⟩
    rw [hobj, blk_grow _ _ _ h1] at s1
    have hvok := h2.1 v (List.mem_cons_self ..)
    have hf2 := (hf.later he s1).put (v := .tup [v, .bool (.lit true)]) hd ⟨SC.ok_mono he.len v hvok, trivial, trivial⟩
    have hden2 : (SC.tup [v, .bool (.lit true)]).den (ρ.grow 0 (List.replicate ((nr.den ρ).toNat + 1) undef)) = .tuple #[v.den ρ, .bool true] := by simp [SC.den, dens, BE.den, SC.den_grow v hvok]
    rw [hden2] at hf2
    have := hnext (ρ.grow 0 (List.replicate ((nr.den ρ).toNat + 1) undef)) Γ _ _ _ he (vals_ext he hv) (hΓ.grow _ _) hf2 ⟨_, rfl⟩ (by rw [len_grow]; exact h4) Stop b k' cs hb hc
    rw [← hcl] at this
    exact this
   ·exact hst rfl h
  ·exact hst rfl h
 ·exact hst rfl h
theorem hClose_ok : HkOk P (Co.team P N w0) hClose where
 good D E ex C Γ items items' tail ops i rest rest' o σ k ρ Q F r t hr hv hΓ hK ho ht hh := by
  intro a S hf hw hst hn
  unfold hClose at ht
  split at ht
  ·rename_i c hop
   split at ht
   ·rename_i x hc hargs
    obtain ⟨callee, args, ats⟩ := c
    simp only at hc hargs
    subst hc
    obtain rfl : args = #[x] := by apply Array.ext'; exact hargs
    simp only [Option.some.injEq] at ht
    subst ht
    exact closeS_good hv hΓ ho hop hh hf hw hst hn
   ·cases ht
  ·cases ht
 alloc ex C Γ items ops rest o tail σ nk k t ho := by simp only [hClose, ho]
 bs ex C Γ items ops rest o tail σ nk k t n ps ho := by simp only [hClose, ho]
theorem hRecv_ok : HkOk P (Co.team P N w0) (hRecv P) where
 good D E ex C Γ items items' tail ops i rest rest' o σ k ρ Q F r t hr hv hΓ hK ho ht hh := by
  intro a S hf hw hst hn
  unfold hRecv at ht
  split at ht
  ·rename_i ty x hop
   simp only [Option.some.injEq] at ht
   subst ht
   exact recvS_good hv hΓ ho hop hh hf hw hst hn
  ·cases ht
 alloc ex C Γ items ops rest o tail σ nk k t ho := by simp only [hRecv, ho]
 bs ex C Γ items ops rest o tail σ nk k t n ps ho := by simp only [hRecv, ho]
end
noncomputable def comR (P : Program) (inl : FuncId → Bool) (hm : Hk_) (A : Run_ × Call_) (C : Cx) (Γ : Facts) (items : List Item) (σ : SS) (nk : Nat) (k : Kont) : Tree :=
 stepH P inl hm A.1 A.2 (fun C Γ items σ nk k => stepRY items P inl A C Γ items σ nk k) C Γ items σ nk k
theorem comR_eq (P : Program) (inl : FuncId → Bool) (hm : Hk_) (A : Run_ × Call_) (C : Cx) (Γ : Facts) (items : List Item) (σ : SS) (nk : Nat) (k : Kont) : comR P inl hm A C Γ items σ nk k = stepH P inl hm A.1 A.2 (stepY P inl A.1 A.2) C Γ items σ nk k := by
 have e : (fun C Γ items σ nk k => stepRY items P inl A C Γ items σ nk k) = stepY P inl A.1 A.2 := by
  funext C Γ items σ nk k
  exact stepRY_eq P inl _ C Γ items σ nk k
 unfold comR
 rw [e]
def bothW (P : Program) (inl : FuncId → Bool) (com : FuncId → Bool) (hm : Hk_) : Nat → Run_ × Call_
 | 0 => (fun C _ items σ _ _ => stuck_ C items σ, fun _ _ _ _ _ _ _ => .bad)
 | n + 1 => let A := bothW P inl com hm n
  (fun C Γ items σ nk k => match com C.fn with
   | true => stepH P inl hm A.1 A.2 (stepY P inl A.1 A.2) C Γ items σ nk k
   | false => stepY P inl A.1 A.2 C Γ items σ nk k,
   runF P inl A.1 A.2)
noncomputable def bothRW (P : Program) (inl : FuncId → Bool) (com : FuncId → Bool) (hm : Hk_) (n : Nat) : Run_ × Call_ :=
 Nat.rec (motive := fun _ => Run_ × Call_) (fun C _ items σ _ _ => stuck_ C items σ, fun _ _ _ _ _ _ _ => .bad)
  (fun _ A => (fun C Γ items σ nk k => Bool.rec (motive := fun _ => Tree) (stepRY items P inl A C Γ items σ nk k) (comR P inl hm A C Γ items σ nk k) (com C.fn), runF P inl A.1 A.2)) n
theorem bothRW_eq (P : Program) (inl : FuncId → Bool) (com : FuncId → Bool) (hm : Hk_) : ∀ n, bothRW P inl com hm n = bothW P inl com hm n
 | 0 => rfl
 | n + 1 => by
  show (fun C Γ items σ nk k => Bool.rec (motive := fun _ => Tree) (stepRY items P inl (bothRW P inl com hm n) C Γ items σ nk k) (comR P inl hm (bothRW P inl com hm n) C Γ items σ nk k) (com C.fn), runF P inl (bothRW P inl com hm n).1 (bothRW P inl com hm n).2) = _
  simp only [bothW, bothRW_eq P inl com hm n]
  congr 1
  funext C Γ items σ nk k
  cases com C.fn with
  | true => exact comR_eq P inl hm _ C Γ items σ nk k
  | false => exact stepRY_eq P inl _ C Γ items σ nk k
theorem bothW_sound {P : Program} {main : Co} {inl com : FuncId → Bool} {hm : Hk_} (hh : HkOk P main hm) : ∀ n, SoundEx P main (bothW P inl com hm n).1 ∧ SoundCall P main (bothW P inl com hm n).2
 | 0 => ⟨fun D E C r Γ items σ nk k ρ Q F hr hv hΓ hk hK hE h a S hf => stuck_ok hE h hf, ⟨fun D E f args hp nk Γ k ρ F S Post _ _ _ _ _ _ h => h.elim, fun D E f args m hp nk Γ k ρ F S Post _ _ _ _ _ _ _ h => h.elim⟩⟩
 | n + 1 => by
  obtain ⟨h1, h2⟩ := bothW_sound (inl := inl) (com := com) hh n
  refine ⟨fun D E C r Γ items σ nk k ρ Q F hr hv hΓ hk hK hE h a S hf => ?_, runF_sound h1 h2⟩
  simp only [bothW] at h
  split at h
  ·exact stepH_sound hh h1 h2 (stepY_sound h1 h2) D E C r Γ items σ nk k ρ Q F hr hv hΓ hk hK hE h a S hf
  ·exact stepY_sound h1 h2 D E C r Γ items σ nk k ρ Q F hr hv hΓ hk hK hE h a S hf
section
variable {P : Program} {N : Nat} {w0 : Option World}
end
end Mw
set_option linter.unusedVariables false
namespace Mw
open Go Mv
open Go.Conc.Lib (WgLink WgLib)
def sendS (ex : Run_) (C : Cx) (Γ : Facts) (items : List Item) (ops : Array Oper) (rest : List Nat) (o : Oper) (ch x : Operand) (tail : List Item) (σ : SS) (nk : Nat) (k : Kont) : Tree := match o.dst, evC σ.sl ch, evC σ.sl x, σ.hp.gh with
 | none, some (.chn j), some v, .work ty iW iC cap tm ms n => match Nat.beq j iC, ms[n]? with
  | true, some y => match SC.same 6 v y.v, lies σ.hp.rw y.l, Nat.ble y.n nk with
   | true, true, true => ex C Γ (.inRegion ops rest :: tail) (σ.withHp ⟨delAll y.l σ.hp.rw, σ.hp.ro, .work ty iW iC cap tm ms (n + 1)⟩) nk k
   | _, _, _ => stuck_ C items σ
  | _, _ => stuck_ C items σ
 | _, _, _, _ => stuck_ C items σ
section
variable {P : Program} {K0 : Grp} {D : Env → SEx → SS → Prop} {E : Env → List Item → SS → Prop} {ex : Run_}
theorem goes_send {K : Grp} {a : St} {b : Frame} {k : List Item} {cs : List Frame} {ops : Array Oper} {i : Nat} {rest : List Nat} {o : Oper} {Stop : Goroutine → Own → Prop} {S S1 : Own} {pc : Pact} {sent : List Msg} {ch x : Operand} {m : Msg}
  (ho : ops[i]? = some o) (hw : Region.wanted o (yielded ops a.tmps) = true) (hp : plainOp b.roundOf o = true) (hop : o.op = .send ch x) (hch : a.eval ch = .chan (some K.C)) (hx : a.eval x = m.1) (hgh : S.gh = .work K .work pc sent) (hlen : sent.length < pc.quota)
  (hp1 : Mv.Part S S1) (hp2 : Mv.Part S m.own) (hd1 : ∀ b, (S1.full b).isSome → m.2 b = none) (hd2 : ∀ b, (m.2 b).isSome → S1.full b = none ∧ S1.ro b = none) (hg1 : S1.gh = .work K .work pc (sent ++ [m]))
  (hnext : Goes P (Mx.Hand P K0) Stop (Mv.G (fr b (a.put o.dst undef) (.inRegion ops rest :: k)) cs) S1) :
  Goes P (Mx.Hand P K0) Stop (Mv.G (fr b a (.inRegion ops (i :: rest) :: k)) cs) S := by
 have hfin := finish_fr b a ops i rest k undef
 rw [ho] at hfin
 have hs : Go.Conc.served (Mv.G (fr b a (.inRegion ops (i :: rest) :: k)) cs) undef = Mv.G (fr b (a.put o.dst undef) (.inRegion ops rest :: k)) cs := by
  simp only [Go.Conc.served, Mv.G]
  rw [hfin]
  rfl
 refine .big (fun g' S' => g' = Mv.G (fr b (a.put o.dst undef) (.inRegion ops rest :: k)) cs ∧ S' = S1) ⟨K, .work, pc, sent, hgh, ?_⟩ (by rintro g' S' ⟨rfl, rfl⟩; exact hnext)
 refine .send (g₂ := Mv.G (fr b a (.inRegion ops (i :: rest) :: k)) cs) (m := m) (z := .tuple #[]) (es := fun _ => #[]) rfl hgh hlen (fun w hin => ⟨?_, by simp⟩) (S1 := S1)
  hp1 hp2 hd1 hd2 hg1 rfl ⟨hs, rfl⟩
 have hrun1 : (execOp a.eval o).run P w = .ok (.comm #[Go.Conc.scase K.C m.1 (.tuple #[])] true .send) w := by simp [execOp, hop, hch, hx, Go.Conc.scase]
 have hrun2 : (execOp a.eval o).events P w #[] = #[] := by simp [execOp, hop]
 rw [stepG_oper ho hw hp]
 have hfn : (fr b a (.inRegion ops (i :: rest) :: k)).fn = b.fn := rfl
 have hkd : (fr b a (.inRegion ops (i :: rest) :: k)).kind = b.kind := rfl
 simp [stepG.apply, hrun1, hrun2, GStep.after, Mv.G, hfn, hkd, Go.Conc.seen_none]
theorem sendS_good {C : Cx} {Γ : Facts} {items items' tail : List Item} {ops : Array Oper} {i : Nat} {rest rest' : List Nat} {o : Oper} {ch x : Operand} {σ : SS} {k : Kont} {ρ : Env} {Q : Ex → St → Own → Prop} {F : Own}
  {r : Ctx} (hv : vals ρ) (hΓ : Γ.On ρ) (ho : ops[i]? = some o) (hop : o.op = .send ch x)
  (h : holds D E ρ (sendS ex C Γ items ops rest o ch x items' σ ρ.k.length k)) {a : St} {S : Own} (hf : Fit C.size F ρ σ a S) (hw : Region.wanted o (yielded ops a.tmps) = true) (hst : ∀ {t : Tree}, t = stuck_ C items σ → holds D E ρ t → wpI P (Mx.Hand P K0) r (.inRegion ops (i :: rest') :: tail) Q a S)
  (hnext : ∀ ρ' Γ' σ' a' S', Ext ρ ρ' → vals ρ' → Γ'.On ρ' → Fit C.size F ρ' σ' a' S' → (∃ v, a'.tmps = (a.put o.dst v).tmps) → holds D E ρ' (ex C Γ' (.inRegion ops rest :: items') σ' ρ'.k.length k) → wpI P (Mx.Hand P K0) r (.inRegion ops rest' :: tail) Q a' S') : wpI P (Mx.Hand P K0) r (.inRegion ops (i :: rest') :: tail) Q a S := by
 unfold sendS at h
 split at h
 ·rename_i j v ty iW iC cap tm ms n hdst hch hx hgh
  split at h
  ·rename_i y hj hm
   obtain rfl := Nat.eq_of_beq_eq_true hj
   split at h
   ·rename_i hsame hlies hnk
    have hsame := SC.same_eq _ _ _ hsame
    subst hsame
    have hnk := Nat.le_of_ble_eq_true hnk
    intro Stop b k' cs hb hc
    have hcl : cl r cs a.cm = cl r cs (a.put o.dst undef).cm := by rw [St.put_cm]
    have hn : n < ms.length := (List.getElem?_eq_some_iff.1 hm).1
    have hym : y ∈ ms := List.mem_of_getElem? hm
    have hgok := hf.hp.ghok
    rw [hgh] at hgok
    have hyok := (hgok.2.2.1 y hym).2
    have hlook : ∀ z ∈ y.l, σ.hp.rw.look z.1 = some z.2 := lies_look hlies
    have hfine : y.fine ρ := fun z1 h1 z2 h2 e => by
     have e1 := hf.hp.inj _ _ _ _ (hlook z1 h1) (hlook z2 h2) e
     have l1 := hlook z1 h1
     have l2 := hlook z2 h2
     rw [e1, l2] at l1
     simp only [Option.some.injEq] at l1
     exact Prod.ext e1 l1.symm
    have hat : ∀ z ∈ y.l, liesAt ρ y.l (ρ.blk z.1) = some (z.2.den ρ) := liesAt_of hfine
    have hS : S.gh = .work (ρ.grp ty iW j cap tm) .work (pactOf ρ ms) ((ms.take n).map (SM.msg ρ)) := by rw [hf.hp.gh, hgh]; rfl
    have hown : ∀ b o, (y.msg ρ).2 b = some o → S.full b = some o := fun b o hb => by
     obtain ⟨z, hz, rfl⟩ := liesAt_some (show liesAt ρ y.l b = some o from hb)
     have h1 := hat z hz
     have h2 : liesAt ρ y.l (ρ.blk z.1) = some o := hb
     rw [h1] at h2
     rw [(hf.hp.has _ _ (hlook z hz)).2.2]; exact h2
    have e1 : SGh.den ρ (.work ty iW j cap tm ms (n + 1)) = .work (ρ.grp ty iW j cap tm) .work (pactOf ρ ms) ((ms.take n).map (SM.msg ρ) ++ [y.msg ρ]) := by
     simp only [SGh.den]
     rw [List.take_add_one, hm]
     simp
    let S1 : Own := ⟨fun b => match liesAt ρ y.l b with | some _ => none | none => S.full b, S.ro, .work (ρ.grp ty iW j cap tm) .work (pactOf ρ ms) ((ms.take n).map (SM.msg ρ) ++ [y.msg ρ])⟩
    have hS1 : ∀ b o, S1.full b = some o → liesAt ρ y.l b = none ∧ S.full b = some o := fun b o hb => by
     simp only [S1] at hb
     split at hb
     ·cases hb
     ·rename_i e; exact ⟨e, hb⟩
    have hS1' : ∀ b, liesAt ρ y.l b = none → S1.full b = S.full b := fun b hb => by simp only [S1, hb]
    refine goes_send (K := ρ.grp ty iW j cap tm) (S1 := S1) (m := y.msg ρ) ho hw (by rw [hb.1]; unfold plainOp; rw [hop]; simp) hop (evC_ok hf.sl _ _ hch).2 (evC_ok hf.sl _ _ hx).2 hS (by simp [pactOf]; omega)
     ⟨fun b o hb => (hS1 b o hb).2, fun b o hb => .inr hb, fun b hb => by
      obtain ⟨o, ho⟩ := Option.isSome_iff_exists.1 hb
      exact hf.hp.dis b (by rw [(hS1 b o ho).2]; rfl)⟩
     ⟨hown, fun b o hb => (by cases hb), fun b hb => rfl⟩
     (fun b hb => by
      obtain ⟨o, ho⟩ := Option.isSome_iff_exists.1 hb
      exact (hS1 b o ho).1)
     (fun b hb => by
      obtain ⟨o, ho⟩ := Option.isSome_iff_exists.1 hb
      have ho' : liesAt ρ y.l b = some o := ho
      refine ⟨by simp only [S1, ho'], ?_⟩
      exact hf.hp.dis b (by rw [hown b o ho]; rfl)) rfl ?_
    have s2 : Sat ρ ⟨delAll y.l σ.hp.rw, σ.hp.ro, .work ty iW j cap tm ms (n + 1)⟩ F S1 := by
     have hnone : ∀ i o, (delAll y.l σ.hp.rw).look i = some o → liesAt ρ y.l (ρ.blk i) = none := fun i o hi => by
      obtain ⟨h1, h2⟩ := delAll_look hi
      cases hl : liesAt ρ y.l (ρ.blk i) with
      | none => rfl
      | some u =>
       obtain ⟨z, hz, e⟩ := liesAt_some hl
       exact absurd (hf.hp.inj _ _ _ _ (hlook z hz) h1 e) (h2 z hz)
     exact {
      has := fun i o hi => by
       obtain ⟨k1, k2, k3⟩ := hf.hp.has i o (delAll_look hi).1
       exact ⟨k1, k2, by rw [hS1' _ (hnone i o hi)]; exact k3⟩
      hro := hf.hp.hro
      inj := fun i i' o o' hi hi' e => hf.hp.inj _ _ _ _ (delAll_look hi).1 (delAll_look hi').1 e
      frm := fun b o hb => by
       rw [hS1' b ?_]
       ·exact hf.hp.frm b o hb
       ·cases hl : liesAt ρ y.l b with
        | none => rfl
        | some u =>
         obtain ⟨z, hz, e⟩ := liesAt_some hl
         have := hf.hp.apart _ _ (hlook z hz)
         rw [e, hb] at this; cases this
      apart := fun i o hi => hf.hp.apart i o (delAll_look hi).1
      ro := hf.hp.ro
      gh := e1.symm
      dis := fun b hb => by
       obtain ⟨o, ho⟩ := Option.isSome_iff_exists.1 hb
       exact hf.hp.dis b (by rw [(hS1 b o ho).2]; rfl)
      ghok := ⟨hgok.1, hgok.2.1, hgok.2.2.1, fun z hz => by
       rw [List.take_add_one, hm] at hz
       rcases List.mem_append.1 hz with hz | hz
       ·exact hgok.2.2.2 z hz
       ·simp only [Option.toList_some, List.mem_singleton] at hz
        subst hz
        exact ⟨hnk, hfine⟩⟩
      lent := fun i hi => (by cases hi)
      linj := fun i hi => (by cases hi)
      rinj := fun i hi => (by cases hi)
      lnd := List.nodup_nil }
    have hf2 : Fit C.size F ρ (σ.withHp ⟨delAll y.l σ.hp.rw, σ.hp.ro, .work ty iW j cap tm ms (n + 1)⟩) (a.put o.dst undef) S1 := by
     rw [hdst]
     exact hf.later (Ext.refl ρ) s2
    have := hnext ρ Γ _ _ _ (Ext.refl ρ) hv hΓ hf2 ⟨_, rfl⟩ h Stop b k' cs hb hc
    rw [← hcl] at this
    exact this
   ·exact hst rfl h
  ·exact hst rfl h
 ·exact hst rfl h
def hSend : Hk_ := fun ex C Γ items ops rest o tail σ nk k => match o.op with
 | .send ch x => some (sendS ex C Γ items ops rest o ch x tail σ nk k)
 | _ => none
theorem hSend_ok : HkOk P (Mx.Hand P K0) hSend where
 good D E ex C Γ items items' tail ops i rest rest' o σ k ρ Q F r t hr hv hΓ hK ho ht hh := by
  intro a S hf hw hst hn
  unfold hSend at ht
  split at ht
  ·rename_i ch x hop
   simp only [Option.some.injEq] at ht
   subst ht
   exact sendS_good hv hΓ ho hop hh hf hw hst hn
  ·cases ht
 alloc ex C Γ items ops rest o tail σ nk k t ho := by simp only [hSend, ho]
 bs ex C Γ items ops rest o tail σ nk k t n ps ho := by simp only [hSend, ho]
end
end Mw
set_option linter.unusedVariables false
namespace Mw
open Go Mv Go.Extern
def plainS (P : Program) {α : Type} : Sem α → Option α
 | .pure a => some a
 | .program k => plainS P (k P)
 | _ => none
section
variable {P : Program} {S0 S : Own} {α β : Type}
theorem Run.plain {s : Sem α} {v : α} {K : Except Value α → Own → Prop} (h : plainS P s = some v) (hk : K (.ok v) S) : Run P S0 s S K := by
 induction s with
 | pure a => simp only [plainS, Option.some.injEq] at h; subst h; exact Run.pure hk
 | program k ih => exact Run.program (ih P h)
 | _ => simp [plainS] at h
theorem Run.bindP {s : Sem α} {v : α} {f : α → Sem β} {K : Except Value β → Own → Prop} (h : plainS P s = some v) (hk : Run P S0 (f v) S K) : Run P S0 (s.bind f) S K := Run.bind (Run.plain h hk)
theorem Run.extern {f : FuncId} {args : Array Value} {fn : Func} {e : Array Value → Sem Value} {K : Except Value Next → Own → Prop} (hf : P.funcs[f]? = some fn) (hname : (fn.name == "runtime.NumGoroutine") = false) (hb : fn.body.isNone = true) (hn : Extern.findNext fn = none) (he : Extern.find fn = some e)
  (h : Run P S0 (e args) S fun r S' => match r with | .ok v => K (.ok (.value v)) S' | .error v => K (.error v) S') : Run P S0 (callFunc f args) S K := by
 have h1 : fn.name ≠ "runtime.NumGoroutine" := by simpa using hname
 have h2 : fn.body = none := by simpa using hb
 intro w0 w hin hm
 unfold callFunc
 simp only [bind, program, Sem.bind, okRun, hf, hname, Bool.false_eq_true, if_false, hb, if_true, hn, he]
 refine ⟨trivial, ?_⟩
 exact run_value h w0 w hin hm
end
structure AsLink where
 valueOf : FuncId
 typ : FuncId
 isNil : FuncId
 elemV : FuncId
 setV : FuncId
 typeOf : FuncId
 G : Nat
 tR : TypeId
 tP : TypeId
 tE : TypeId
 tI : TypeId
 kE : Nat
def AsLink.hd (L : AsLink) (t : TypeId) : Value := .pointer (some ⟨L.G, t, none⟩)
structure ExtFn (P : Program) (f : FuncId) (e : Array Value → Sem Value) : Prop where
 ok : ∃ fn, P.funcs[f]? = some fn ∧ (fn.name == "runtime.NumGoroutine") = false ∧ fn.body.isNone = true ∧ Extern.findNext fn = none ∧ Extern.find fn = some e
theorem ExtFn.run {P : Program} {f : FuncId} {e : Array Value → Sem Value} (h : ExtFn P f e) {S0 S : Own} {args : Array Value} {K : Except Value Next → Own → Prop}
  (hr : Run P S0 (e args) S fun r S' => match r with | .ok v => K (.ok (.value v)) S' | .error v => K (.error v) S') : Run P S0 (callFunc f args) S K := by
 obtain ⟨fn, h1, h2, h3, h4, h5⟩ := h.ok
 exact Run.extern h1 h2 h3 h4 h5 hr
def refl (L : AsLink) (t : TypeId) (a : Addr) (fl : Nat) : Value := .agg #[L.hd t, .pointer (some a), .int .u64 fl]
structure AsLib (P : Program) (L : AsLink) : Prop where
 valueOf : ExtFn P L.valueOf fun args => ReflectliteValue.unpack (args.getD 0 (.tuple #[]))
 typ : ExtFn P L.typ (ReflectliteValue.methodAny (ReflectliteValue.valueError "reflectlite.Value.Type" 0) fun t _ _ _ => ReflectliteType.toType t)
 isNil : ExtFn P L.isNil (ReflectliteValue.method (ReflectliteValue.valueError "reflectlite.Value.IsNil" 0) ReflectliteValue.isNil)
 elemV : ExtFn P L.elemV (ReflectliteValue.method (ReflectliteValue.valueError "reflectlite.Value.Elem" 0) ReflectliteValue.elem)
 setV : ExtFn P L.setV ReflectliteValue.set
 typeOf : ExtFn P L.typeOf ReflectliteType.typeOf
 mkP : ∀ a, plainS P (ReflectliteValue.mk L.tP a 0) = some (refl L L.tP a 150)
 mkE : ∀ a, plainS P (ReflectliteValue.mk L.tE a 0) = some (refl L L.tE a (L.kE + 128))
 mkA : ∀ a, plainS P (ReflectliteValue.mk L.tE a 256) = some (refl L L.tE a (L.kE + 384))
 type_ : ∀ a, plainS P (ReflectliteValue.methodAny (ReflectliteValue.valueError "reflectlite.Value.Type" 0) (fun t _ _ _ => ReflectliteType.toType t) #[refl L L.tP a 150]) = some (.iface L.tR (.agg #[L.hd L.tP]))
 partsP : ∀ a, plainS P (ReflectliteValue.parts (refl L L.tP a 150)) = some (some (L.tP, a, 150))
 partsE : ∀ a, plainS P (ReflectliteValue.parts (refl L L.tE a (L.kE + 128))) = some (some (L.tE, a, L.kE + 128))
 partsA : ∀ a, plainS P (ReflectliteValue.parts (refl L L.tE a (L.kE + 384))) = some (some (L.tE, a, L.kE + 384))
 flag : (L.kE + 384) / 256 % 2 = 1
 elem? : plainS P (Rtype.elem? L.tP) = some (some L.tE)
 direct : plainS P (Rtype.directlyAssignable L.tE L.tE) = some true
 typeOf_ : ∀ v, plainS P (ReflectliteType.typeOf #[.iface L.tE v]) = some (.iface L.tR (.agg #[L.hd L.tE]))
 kindP : ∃ f e, (∀ h, plainS P (Go.method (P.types.size + Made.depth) L.tR (.agg #[h]) "Kind") = some (f, h)) ∧ ExtFn P f e ∧ plainS P (e #[L.hd L.tP]) = some (.int .u8 22) ∧ plainS P (e #[L.hd L.tE]) = some (.int .u8 L.kE)
 elemT : ∃ f e, (∀ h, plainS P (Go.method (P.types.size + Made.depth) L.tR (.agg #[h]) "Elem") = some (f, .agg #[h])) ∧ ExtFn P f e ∧ plainS P (e #[.agg #[L.hd L.tP]]) = some (.iface L.tR (.agg #[L.hd L.tE]))
 impl : ∃ f e, (∀ h, plainS P (Go.method (P.types.size + Made.depth) L.tR (.agg #[h]) "Implements") = some (f, .agg #[h])) ∧ ExtFn P f e ∧ plainS P (e #[.agg #[L.hd L.tE], .iface L.tR (.agg #[L.hd L.tI])]) = some (.bool true)
 assign : ∃ f e, (∀ h, plainS P (Go.method (P.types.size + Made.depth) L.tR (.agg #[h]) "AssignableTo") = some (f, .agg #[h])) ∧ ExtFn P f e ∧ plainS P (e #[.agg #[L.hd L.tE], .iface L.tR (.agg #[L.hd L.tE])]) = some (.bool true)
def isHd (L : AsLink) (t : TypeId) : SC → Bool
 | .lit (.pointer (some ⟨g, u, none⟩)) => Nat.beq g L.G && Nat.beq u t
 | _ => false
def isFl (n : Nat) : SC → Bool
 | .lit (.int .u64 (.ofNat m)) => Nat.beq m n
 | _ => false
def asRefl (L : AsLink) (t : TypeId) (fl : Nat) : SC → Option (Nat × Nat)
 | .agg [h, .ptr b (.lit (.ofNat off)), f] => match isHd L t h && isFl fl f with
  | true => some (b, off)
  | false => none
 | _ => none
def isRt (L : AsLink) (t : TypeId) : SC → Bool
 | .iface r (.agg [h]) => Nat.beq r L.tR && isHd L t h
 | _ => false
def rtOf (L : AsLink) (t : TypeId) : SC := .iface L.tR (.agg [.lit (L.hd t)])
def xValueOf (L : AsLink) : List SC → Option Eff
 | [.iface t v] => match Nat.beq t L.tP, Nat.beq t L.tE, cellsOf v with
  | true, _, some l => match l.all SC.single with
   | true => some (.fresh [] (.cells l t) (.held (L.hd L.tP) (.int .u64 150)))
   | false => none
  | false, true, some l => match l.all SC.single with
   | true => some (.fresh [] (.cells l t) (.held (L.hd L.tE) (.int .u64 (L.kE + 128 : Nat))))
   | false => none
  | _, _, _ => none
 | _ => none
def xTyp (L : AsLink) : List SC → Option Eff
 | [v] => match asRefl L L.tP 150 v with
  | some _ => some (.val [] (rtOf L L.tP))
  | none => none
 | _ => none
def xIsNil (P : Program) (L : AsLink) (hp : Hp) : List SC → Option Eff
 | [v] => match asRefl L L.tP 150 v with
  | some (b, off) => match hp.get b with
   | some o => match rowOf o with
    | some l => match symPart P L.tP l off with
     | some (.ptr _ _) => some (.val [] (.bool (.lit false)))
     | _ => none
    | none => none
   | none => none
  | none => none
 | _ => none
def xElemV (P : Program) (L : AsLink) (hp : Hp) : List SC → Option Eff
 | [v] => match asRefl L L.tP 150 v with
  | some (b, off) => match hp.get b with
   | some o => match rowOf o with
    | some l => match symPart P L.tP l off with
     | some (.ptr d x) => some (.val [] (.agg [.lit (L.hd L.tE), .ptr d x, .lit (.int .u64 (L.kE + 384 : Nat))]))
     | _ => none
    | none => none
   | none => none
  | none => none
 | _ => none
def xSet (P : Program) (L : AsLink) (hp : Hp) : List SC → Option Eff
 | [u, v] => match asRefl L L.tE (L.kE + 384) u, asRefl L L.tE (L.kE + 128) v with
  | some (d, off), some (s, so) => match hp.get s, hp.rw.look d with
   | some o, some od => match rowOf o, rowOf od with
    | some l, some ld => match symPart P L.tE l so with
     | some x => match cellsOf x with
      | some new => match (decide (sizeT P L.tE = some new.length)) && new.all SC.single && Nat.ble (off + new.length) ld.length with
       | true => some (.both [] d (rowWith (splice ld off new) od) (.tup []))
       | false => none
      | none => none
     | none => none
    | _, _ => none
   | _, _ => none
  | _, _ => none
 | _ => none
def xTypeOf (L : AsLink) : List SC → Option Eff
 | [.iface t _] => match Nat.beq t L.tE with
  | true => some (.val [] (rtOf L L.tE))
  | false => none
 | _ => none
def xFun (P : Program) (L : AsLink) (hp : Hp) (f : FuncId) (args : List SC) : Option Eff :=
 match Nat.beq f L.valueOf with
 | true => xValueOf L args
 | false => match Nat.beq f L.typ with
  | true => xTyp L args
  | false => match Nat.beq f L.isNil with
   | true => xIsNil P L hp args
   | false => match Nat.beq f L.elemV with
    | true => xElemV P L hp args
    | false => match Nat.beq f L.setV with
     | true => xSet P L hp args
     | false => match Nat.beq f L.typeOf with
      | true => xTypeOf L args
      | false => none
def xMeth (L : AsLink) (recv : SC) (name : String) (args : List SC) : Option Eff := match args with
 | [] => match name == "Kind" with
  | true => match isRt L L.tP recv, isRt L L.tE recv with
   | true, _ => some (.val [] (.int .u8 (.lit 22)))
   | false, true => some (.val [] (.int .u8 (.lit (.ofNat L.kE))))
   | _, _ => none
  | false => match name == "Elem", isRt L L.tP recv with
   | true, true => some (.val [] (rtOf L L.tE))
   | _, _ => none
 | [x] => match name == "Implements" with
  | true => match isRt L L.tE recv, isRt L L.tI x with
   | true, true => some (.val [] (.bool (.lit true)))
   | _, _ => none
  | false => match name == "AssignableTo", isRt L L.tE recv, isRt L L.tE x with
   | true, true, true => some (.val [] (.bool (.lit true)))
   | _, _, _ => none
 | _ => none
def xAs (P : Program) (L : AsLink) : Xop := fun hp ev op => match op with
 | .call c => match c.callee with
  | .value g => match ev g, evs ev c.args.toList with
   | some (.fn (.func f) [] []), some args => xFun P L hp f args
   | _, _ => none
  | .invoke x name => match ev x, evs ev c.args.toList with
   | some recv, some args => xMeth L recv name args
   | _, _ => none
  | _ => none
 | .load t x => match ev x with
  | some (.lit (.pointer (some ⟨g, 0, none⟩))) => match Nat.ble g 15, hp.get g with
   | true, some o => match rowOf o with
    | some l => match symPart P t l 0 with
     | some v => some (.val [] v)
     | none => none
    | none => none
   | _, _ => none
  | _ => none
 | _ => none
section
variable {P : Program} {L : AsLink} {ρ : Env} {hp : Hp} {F S0 S : Own} {e : Eff}
theorem isHd_den {t : TypeId} {x : SC} (h : isHd L t x = true) : x.den ρ = L.hd t := by
 unfold isHd at h
 split at h
 ·simp only [Bool.and_eq_true, Nat.beq_eq] at h
  simp [SC.den, AsLink.hd, h.1, h.2]
 ·cases h
theorem isFl_den {n : Nat} {x : SC} (h : isFl n x = true) : x.den ρ = .int .u64 (n : Nat) := by
 unfold isFl at h
 split at h
 ·simp only [Nat.beq_eq] at h
  subst h; rfl
 ·cases h
theorem asRefl_den {t : TypeId} {fl : Nat} {v : SC} {b off : Nat} (h : asRefl L t fl v = some (b, off)) : v.den ρ = refl L t ⟨ρ.blk b, off, none⟩ fl := by
 unfold asRefl at h
 split at h
 ·split at h
  ·rename_i hh
   simp only [Bool.and_eq_true] at hh
   simp only [Option.some.injEq, Prod.mk.injEq] at h
   obtain ⟨rfl, rfl⟩ := h
   simp [SC.den, dens, isHd_den hh.1, isFl_den hh.2, refl, IE.den]
  ·cases h
 ·cases h
theorem isRt_den {t : TypeId} {v : SC} (h : isRt L t v = true) : v.den ρ = .iface L.tR (.agg #[L.hd t]) := by
 unfold isRt at h
 split at h
 ·simp only [Bool.and_eq_true, Nat.beq_eq] at h
  obtain ⟨rfl, h⟩ := h
  simp [SC.den, dens, isHd_den h]
 ·cases h
theorem rtOf_den {t : TypeId} : (rtOf L t).den ρ = .iface L.tR (.agg #[L.hd t]) := by simp [rtOf, SC.den, dens]
theorem meth_run {f : FuncId} {e : Array Value → Sem Value} {name : String} {h x : Value} {rest : Array Value} {v : Value} (hm : plainS P (Go.method (P.types.size + Made.depth) L.tR (.agg #[h]) name) = some (f, x)) (he : ExtFn P f e) (hv : plainS P (e (#[x] ++ rest)) = some v) {K : Except Value Next → Own → Prop} (hK : K (.ok (.value v)) S) :
  Run P S0 (callMethod (.iface L.tR (.agg #[h])) name rest) S K := by
 show Run P S0 (Sem.program fun p => (Go.method (p.types.size + Made.depth) L.tR (.agg #[h]) name).bind fun y => callFunc y.1 (#[y.2] ++ rest)) S K
 refine Run.program (Run.bindP hm ?_)
 exact he.run (Run.plain hv hK)
theorem xMeth_good (H : AsLib P L) {ev : Operand → Option SC} {ev' : Operand → Value} {o : Oper} {x : Operand} {name : String} {c : Call} {recv : SC} {args : List SC} (hev : EvOk ρ ev ev') (hop : o.op = .call c) (hc : c.callee = .invoke x name) (hx : ev x = some recv) (ha : evs ev c.args.toList = some args) (h : xMeth L recv name args = some e) : EffGood P ρ hp S0 S (execOp ev' o) e := by
 have hx' := (hev x _ hx).2
 have ha' := evs_den hev _ _ ha
 have hargs : c.args.map ev' = (args.map (SC.den ρ)).toArray := by
  apply Array.ext'
  simpa using ha'.1
 have hred : execOp ev' o = callMethod (recv.den ρ) name (args.map (SC.den ρ)).toArray := by
  simp only [execOp, hop, resolve, hc, hargs]
  show invoke (.fn (.method name) #[]) (#[ev' x] ++ (args.map (SC.den ρ)).toArray) = _
  simp only [invoke]
  have e0 : (#[ev' x] ++ (List.map (SC.den ρ) args).toArray)[0]? = some (ev' x) := by simp
  have e1 : (#[ev' x] ++ (List.map (SC.den ρ) args).toArray).extract 1 (#[ev' x] ++ (List.map (SC.den ρ) args).toArray).size = (List.map (SC.den ρ) args).toArray := by
   apply Array.ext'
   simp
   exact List.take_of_length_le (by simp)
  rw [e0, e1, hx']
 rw [hred]
 unfold xMeth at h
 split at h
 ·split at h
  ·rename_i hn
   obtain rfl : name = "Kind" := by simpa using hn
   obtain ⟨f, ex, h1, h2, h3, h4⟩ := H.kindP
   split at h
   ·rename_i hr
    simp only [Option.some.injEq] at h; subst h
    rw [isRt_den hr]
    exact ⟨fun _ K hK => meth_run (v := .int .u8 22) (h1 _) h2 (by simpa using h3) hK, trivial⟩
   ·rename_i hr
    simp only [Option.some.injEq] at h; subst h
    rw [isRt_den hr]
    exact ⟨fun _ K hK => meth_run (v := .int .u8 L.kE) (h1 _) h2 (by simpa using h4) hK, trivial⟩
   ·cases h
  ·split at h
   ·rename_i hn hr
    obtain rfl : name = "Elem" := by simpa using hn
    obtain ⟨f, ex, h1, h2, h3⟩ := H.elemT
    simp only [Option.some.injEq] at h; subst h
    rw [isRt_den hr]
    exact ⟨fun _ K hK => meth_run (h1 _) h2 (by simpa using h3) (by rw [rtOf_den] at hK; exact hK), ⟨trivial, trivial⟩⟩
   ·cases h
 ·split at h
  ·rename_i hn
   obtain rfl : name = "Implements" := by simpa using hn
   obtain ⟨f, ex, h1, h2, h3⟩ := H.impl
   split at h
   ·rename_i hr hy
    simp only [Option.some.injEq] at h; subst h
    rw [isRt_den hr]
    simp only [List.map_cons, List.map_nil, isRt_den hy]
    exact ⟨fun _ K hK => meth_run (v := .bool true) (h1 _) h2 (by simpa using h3) hK, trivial⟩
   ·cases h
  ·split at h
   ·rename_i hn hr hy
    obtain rfl : name = "AssignableTo" := by simpa using hn
    obtain ⟨f, ex, h1, h2, h3⟩ := H.assign
    simp only [Option.some.injEq] at h; subst h
    rw [isRt_den hr]
    simp only [List.map_cons, List.map_nil, isRt_den hy]
    exact ⟨fun _ K hK => meth_run (v := .bool true) (h1 _) h2 (by simpa using h3) hK, trivial⟩
   ·cases h
 ·cases h
theorem xFun_good [Loud S0] (H : AsLib P L) (hv : vals ρ) (hs : Sat ρ hp F S) {f : FuncId} {args : List SC} (hok : ∀ x ∈ args, x.ok ρ.k.length) (h : xFun P L hp f args = some e) : EffGood P ρ hp S0 S (callFunc f (args.map (SC.den ρ)).toArray) e := by
 unfold xFun at h
 split at h
 ·
  rename_i hf
  obtain rfl := Nat.eq_of_beq_eq_true hf
  unfold xValueOf at h
  split at h
  ·rename_i t v
   have hvok : v.ok ρ.k.length := hok (.iface t v) List.mem_cons_self
   split at h
   ·rename_i l ht hc
    obtain rfl := Nat.eq_of_beq_eq_true ht
    split at h
    ·rename_i h1
     simp only [Option.some.injEq] at h; subst h
     refine ⟨fun _ K hK => H.valueOf.run ?_, cellsOf_ok hc hvok⟩
     show Run P S0 ((newVar L.tP (v.den ρ)).bind fun a => ReflectliteValue.mk L.tP a 0) S _
     exact run_newVar hv hc h1 fun r h2 h3 => Run.plain (H.mkP _) (hK r h2 h3)
    ·cases h
   ·rename_i l _ ht hc
    obtain rfl := Nat.eq_of_beq_eq_true ht
    split at h
    ·rename_i h1
     simp only [Option.some.injEq] at h; subst h
     refine ⟨fun _ K hK => H.valueOf.run ?_, cellsOf_ok hc hvok⟩
     show Run P S0 ((newVar L.tE (v.den ρ)).bind fun a => ReflectliteValue.mk L.tE a 0) S _
     exact run_newVar hv hc h1 fun r h2 h3 => Run.plain (H.mkE _) (hK r h2 h3)
    ·cases h
   ·cases h
  ·cases h
 ·split at h
  ·
   rename_i hf
   obtain rfl := Nat.eq_of_beq_eq_true hf
   unfold xTyp at h
   split at h
   ·rename_i v
    split at h
    ·rename_i y hy
     simp only [Option.some.injEq] at h; subst h
     refine ⟨fun _ K hK => H.typ.run ?_, ⟨trivial, trivial⟩⟩
     simp only [List.map_cons, List.map_nil, asRefl_den hy]
     rw [rtOf_den] at hK
     exact Run.plain (H.type_ _) hK
    ·cases h
   ·cases h
  ·split at h
   ·
    rename_i hf
    obtain rfl := Nat.eq_of_beq_eq_true hf
    unfold xIsNil at h
    split at h
    ·rename_i v
     split at h
     ·rename_i b off hy
      split at h
      ·rename_i o hb
       obtain ⟨_, hso, hget⟩ := hs.get hb
       split at h
       ·rename_i l hr
        obtain ⟨te, tail, hden, _⟩ := rowOf_den (ρ := ρ) hr
        rw [hden] at hget
        split at h
        ·rename_i d x hp
         simp only [Option.some.injEq] at h; subst h
         refine ⟨fun _ K hK => H.isNil.run ?_, trivial⟩
         simp only [List.map_cons, List.map_nil, asRefl_den hy]
         show Run P S0 ((ReflectliteValue.parts (refl L L.tP ⟨ρ.blk b, off, none⟩ 150)).bind _) S _
         refine Run.bindP (H.partsP _) ?_
         show Run P S0 ((loadVar L.tP ⟨ρ.blk b, off, none⟩).bind _) S _
         refine Run.bind (run_loadVar hget hp ?_)
         exact Run.pure hK
        ·cases h
       ·cases h
      ·cases h
     ·cases h
    ·cases h
   ·split at h
    ·
     rename_i hf
     obtain rfl := Nat.eq_of_beq_eq_true hf
     unfold xElemV at h
     split at h
     ·rename_i v
      split at h
      ·rename_i b off hy
       split at h
       ·rename_i o hb
        obtain ⟨_, hso, hget⟩ := hs.get hb
        split at h
        ·rename_i l hr
         obtain ⟨te, tail, hden, _⟩ := rowOf_den (ρ := ρ) hr
         rw [hden] at hget
         split at h
         ·rename_i d x hp
          simp only [Option.some.injEq] at h; subst h
          have hx := symPart_ok hp (rowOf_ok hr hso)
          refine ⟨fun _ K hK => H.elemV.run ?_, ⟨trivial, hx, trivial, trivial⟩⟩
          simp only [List.map_cons, List.map_nil, asRefl_den hy]
          show Run P S0 ((ReflectliteValue.parts (refl L L.tP ⟨ρ.blk b, off, none⟩ 150)).bind _) S _
          refine Run.bindP (H.partsP _) ?_
          show Run P S0 ((loadVar L.tP ⟨ρ.blk b, off, none⟩).bind _) S _
          refine Run.bind (run_loadVar hget hp ?_)
          refine Run.bindP H.elem? ?_
          show Run P S0 (ReflectliteValue.mk L.tE ⟨ρ.blk d, (x.den ρ).toNat, none⟩ 256) S _
          exact Run.plain (H.mkA _) hK
         ·cases h
        ·cases h
       ·cases h
      ·cases h
     ·cases h
    ·split at h
     ·
      rename_i hf
      obtain rfl := Nat.eq_of_beq_eq_true hf
      unfold xSet at h
      split at h
      ·rename_i u v
       split at h
       ·rename_i d off s so hu hw
        split at h
        ·rename_i o od hb hd
         obtain ⟨_, hso, hget⟩ := hs.get hb
         obtain ⟨_, hsd, hfull⟩ := hs.has _ _ hd
         split at h
         ·rename_i l ld hr hrd
          obtain ⟨te, tail, hden, _⟩ := rowOf_den (ρ := ρ) hr
          obtain ⟨ted, taild, hdend, hwith⟩ := rowOf_den (ρ := ρ) hrd
          rw [hden] at hget
          rw [hdend] at hfull
          split at h
          ·rename_i x hp
           have hx := symPart_ok hp (rowOf_ok hr hso)
           split at h
           ·rename_i new hc
            split at h
            ·rename_i hcond
             simp only [Bool.and_eq_true, decide_eq_true_eq] at hcond
             simp only [Option.some.injEq] at h; subst h
             refine ⟨⟨⟨_, hd⟩, fun _ K hK => H.setV.run ?_⟩, rowWith_ok hrd hsd (splice_ok (rowOf_ok hrd hsd) (cellsOf_ok hc hx)), trivial⟩
             simp only [List.map_cons, List.map_nil, asRefl_den hu, asRefl_den hw]
             show Run P S0 ((ReflectliteValue.parts (refl L L.tE ⟨ρ.blk d, off, none⟩ (L.kE + 384))).bind _) S _
             refine Run.bindP (H.partsA _) ?_
             show Run P S0 ((ReflectliteValue.parts (refl L L.tE ⟨ρ.blk s, so, none⟩ (L.kE + 128))).bind _) S _
             refine Run.bindP (H.partsE _) ?_
             have hfl : ((L.kE + 384) / ReflectliteValue.flagAddr % 2 == 0) = false := by
              have := H.flag
              simp [ReflectliteValue.flagAddr, this]
             simp only [hfl, Bool.false_eq_true, if_false]
             show Run P S0 ((loadVar L.tE ⟨ρ.blk s, so, none⟩).bind _) S _
             refine Run.bind (run_loadVar hget hp ?_)
             show Run P S0 ((Rtype.directlyAssignable L.tE L.tE).bind _) S _
             refine Run.bindP H.direct ?_
             show Run P S0 ((storeVar L.tE ⟨ρ.blk d, off, none⟩ (x.den ρ)).bind _) S _
             refine Run.bind (Run.mono (run_storeVar (K := fun r S' => r = .ok () ∧ S' = S.set (ρ.blk d) ((rowWith (splice ld off new) od).den ρ)) hv hfull hc hcond.1.2 hcond.1.1 (Nat.le_of_ble_eq_true hcond.2) ⟨rfl, by rw [hwith]⟩) ?_)
             rintro r S' ⟨rfl, rfl⟩
             exact Run.pure hK
            ·cases h
           ·cases h
          ·cases h
         ·cases h
        ·cases h
       ·cases h
      ·cases h
     ·split at h
      ·
       rename_i hf
       obtain rfl := Nat.eq_of_beq_eq_true hf
       unfold xTypeOf at h
       split at h
       ·rename_i t v
        split at h
        ·rename_i ht
         obtain rfl := Nat.eq_of_beq_eq_true ht
         simp only [Option.some.injEq] at h; subst h
         refine ⟨fun _ K hK => H.typeOf.run ?_, ⟨trivial, trivial⟩⟩
         rw [rtOf_den] at hK
         exact Run.plain (H.typeOf_ _) hK
        ·cases h
       ·cases h
      ·cases h
theorem xAs_ok (H : AsLib P L) : XopOk P (xAs P L) := by
 intro ρ hp F S0 S ev ev' o e _ hv hs hev h
 unfold xAs at h
 split at h
 ·rename_i c hop
  split at h
  ·rename_i g hc
   split at h
   ·rename_i f args hg ha
    have hcal : calleeOf ev c = some (f, args, []) := by simp only [calleeOf, hc, hg, ha, List.nil_append]
    obtain ⟨h1, h2, h3⟩ := calleeOf_run hev hcal o.type
    have hred : execOp ev' o = callFunc f ((args.map (SC.den ρ)).toArray ++ (([] : List SC).map (SC.den ρ)).toArray) := by
     simp only [execOp, hop, h3, invoke]
     rfl
    rw [hred]
    have e1 : (args.map (SC.den ρ)).toArray ++ (([] : List SC).map (SC.den ρ)).toArray = (args.map (SC.den ρ)).toArray := by simp
    rw [e1]
    exact xFun_good H hv hs h1 h
   ·cases h
  ·rename_i x name hc
   split at h
   ·rename_i recv args hx ha
    exact xMeth_good H hev hop hc hx ha h
   ·cases h
  ·cases h
 ·rename_i t x hop
  split at h
  ·rename_i g hx
   obtain ⟨_, hx'⟩ := hev x _ hx
   split at h
   ·rename_i so hg hb
    obtain ⟨_, hso, hget⟩ := hs.get hb
    rw [(hv.low g (Nat.lt_of_le_of_lt (Nat.le_of_ble_eq_true hg) (by decide))).2] at hget
    split at h
    ·rename_i l hr
     obtain ⟨te, tail, hden, _⟩ := rowOf_den (ρ := ρ) hr
     rw [hden] at hget
     split at h
     ·rename_i v hp
      simp only [Option.some.injEq] at h; subst h
      refine good_val (s := Instr.loadAt t (ev' x)) (by simp only [execOp, hop]) (symPart_ok hp (rowOf_ok hr hso)) fun _ K hK => ?_
      rw [hx']
      show Run P S0 ((Instr.sureAddr (.pointer (some ⟨g, 0, none⟩))).bind fun a => loadVar t a) _ K
      exact run_loadVar hget hp hK
     ·cases h
    ·cases h
   ·cases h
  ·cases h
 ·cases h
end
end Mw
set_option linter.unusedVariables false
namespace Mw
open Go Mv
def plainD : TypeDesc → Bool
 | .interface _ | .array _ _ | .struct _ => false
 | _ => true
def fieldsF (f : TypeId → Nat → Bool) : List Field → Bool
 | [] => true
 | x :: l => match f x.type x.offset with
  | true => fieldsF f l
  | false => false
def keyF (P : Program) : Nat → TypeId → SC → Bool
 | 0, _, _ => false
 | n + 1, t, v => match P.underlying t with
  | none => false
  | some d => match d with
   | .array len el => match v with
    | .agg cs => match sizeT P el with
     | some s => (List.range len).all fun i => match symPart P el cs (i * s) with
      | some x => keyF P n el x
      | none => false
     | none => false
    | _ => false
   | .struct fs => match v with
    | .agg cs => fieldsF (fun t off => match symPart P t cs off with
      | some x => keyF P n t x
      | none => false) fs.toList
    | _ => false
   | d => plainD d
section
variable {P : Program} {ρ : Env} {hp : Hp} {F S0 S : Own}
theorem run_unit {β : Type} {body : β → PUnit → Sem (ForInStep PUnit)} {K : Except Value PUnit → Own → Prop} : ∀ (l : List β), (∀ x ∈ l, ∀ K : Except Value (ForInStep PUnit) → Own → Prop, K (.ok (.yield ⟨⟩)) S → Run P S0 (body x ⟨⟩) S K) → K (.ok ⟨⟩) S → Run P S0 (forIn l PUnit.unit body) S K
 | [], _, hK => Run.pure hK
 | x :: l, h, hK => by
  rw [List.forIn_cons]
  exact Run.bind (h x List.mem_cons_self _ (run_unit l (fun y hy => h y (List.mem_cons_of_mem _ hy)) hK))
theorem fieldsF_mem {f : TypeId → Nat → Bool} : ∀ {l : List Field}, fieldsF f l = true → ∀ x ∈ l, f x.type x.offset = true
 | [], _, x, hx => by cases hx
 | y :: l, h, x, hx => by
  simp only [fieldsF] at h
  split at h
  ·rename_i h1
   rcases List.mem_cons.1 hx with rfl | hx
   ·exact h1
   ·exact fieldsF_mem h x hx
  ·cases h
theorem keyF_run {em : Bool} : ∀ (n d : Nat) (t : TypeId) (v : SC), n ≤ d → keyF P n t v = true → v.ok ρ.k.length → ∀ {α : Type} {g : Unit → Sem α} {K : Except Value α → Own → Prop}, Run P S0 (g ()) S K → Run P S0 ((Instr.checkKey em d t (v.den ρ)).bind g) S K := by
 intro n
 induction n with
 | zero => intro d t v _ h; cases h
 | succ n ih =>
  intro d t v hd h hv α g K hK
  obtain ⟨d, rfl⟩ : ∃ e, d = e + 1 := ⟨d - 1, by omega⟩
  unfold keyF at h
  split at h
  ·cases h
  ·rename_i ds hu
   refine Run.bind ?_
   have key : ∀ K : Except Value Unit → Own → Prop, K (.ok ()) S → Run P S0 (Instr.checkKey em (d + 1) t (v.den ρ)) S K := by
    intro K hK
    rw [← Sem.bind_pure' (Instr.checkKey em (d + 1) t (v.den ρ))]
    unfold Instr.checkKey
    simp only [bind]
    rw [Sem.bind_assoc']
    refine run_underlying hu ?_
    rw [Sem.bind_pure']
    split at h
    ·rename_i len el
     split at h
     ·rename_i cs
      split at h
      ·rename_i s hs
       obtain ⟨i, hi, hs⟩ := Option.map_eq_some_iff.1 hs
       have hall := List.all_eq_true.1 h
       simp only [SC.den]
       simp only [Std.Legacy.Range.forIn_eq_forIn_range', Std.Legacy.Range.size, Nat.sub_zero, Nat.add_sub_cancel, Nat.div_one, ← List.range_eq_range']
       refine Run.bind (run_unit _ (fun x hx K hK => ?_) (Run.pure hK))
       have hx' := hall x hx
       split at hx'
       ·rename_i y hy
        refine run_sizeOf hi ?_
        rw [hs]
        refine Run.bind (run_part hy ?_)
        have := ih d el y (by omega) hx' (symPart_ok hy (oks_iff.1 hv)) (α := ForInStep PUnit) (g := fun _ => Sem.pure (ForInStep.yield PUnit.unit)) (K := K) (Run.pure hK)
        exact this
       ·cases hx'
      ·cases h
     ·cases h
    ·rename_i fs
     split at h
     ·rename_i cs
      simp only [SC.den]
      rw [← Array.forIn_toList]
      refine Run.bind (run_unit _ (fun x hx K hK => ?_) (Run.pure hK))
      have hx' := fieldsF_mem h x hx
      split at hx'
      ·rename_i y hy
       split
       ·refine Run.bind (run_part hy ?_)
        have := ih d x.type y (by omega) hx' (symPart_ok hy (oks_iff.1 hv)) (α := ForInStep PUnit) (g := fun _ => Sem.pure (ForInStep.yield PUnit.unit)) (K := K) (Run.pure hK)
        exact this
       ·exact Run.pure hK
      ·cases hx'
     ·cases h
    ·cases ds <;> first | exact Run.pure hK | (simp [plainD] at h; done)
   exact key _ hK
def firstB (b : MapEntry → Bool) : List MapEntry → Nat → Option (Nat × Value)
 | [], _ => none
 | e :: l, i => if b e = true then some (i, e.val) else firstB b l (i + 1)
theorem firstB_none {b : MapEntry → Bool} : ∀ {l : List MapEntry} {i : Nat}, (∀ e ∈ l, b e = false) → firstB b l i = none
 | [], _, _ => rfl
 | e :: l, i, h => by
  simp only [firstB, h e List.mem_cons_self, Bool.false_eq_true, if_false]
  exact firstB_none fun y hy => h y (List.mem_cons_of_mem _ hy)
theorem firstB_some {b : MapEntry → Bool} : ∀ {l : List MapEntry} {i : Nat}, (∃ e ∈ l, b e = true) → ∃ pre e post, l = pre ++ e :: post ∧ b e = true ∧ firstB b l i = some (i + pre.length, e.val)
 | [], _, ⟨e, he, _⟩ => by cases he
 | x :: l, i, ⟨e, he, hb⟩ => by
  cases hx : b x with
  | true => exact ⟨[], x, l, rfl, hx, by simp [firstB, hx]⟩
  | false =>
   rcases List.mem_cons.1 he with rfl | he
   ·rw [hb] at hx; cases hx
   ·obtain ⟨pre, y, post, h1, h2, h3⟩ := firstB_some (i := i + 1) ⟨e, he, hb⟩
    refine ⟨x :: pre, y, post, by rw [h1]; rfl, h2, ?_⟩
    simp only [firstB, hx, Bool.false_eq_true, if_false, h3, List.length_cons]
    congr 2
    omega
theorem findNow_eq {d : TypeDesc} {k : Value} {b : MapEntry → Bool} : ∀ {l : List MapEntry} {i : Nat}, (∀ e ∈ l, Instr.sameNow d k e.key = some (b e)) → Instr.findNow d k l i = some (firstB b l i)
 | [], _, _ => rfl
 | e :: l, i, h => by
  simp only [Instr.findNow, h e List.mem_cons_self, firstB]
  cases hb : b e with
  | true => simp
  | false => simp only [Bool.false_eq_true, if_false]; exact findNow_eq fun y hy => h y (List.mem_cons_of_mem _ hy)
theorem findAsking_run {kt : TypeId} {k : Value} {b : MapEntry → Bool} : ∀ {l : List MapEntry} {i : Nat} {K : Except Value (Option (Nat × Value)) → Own → Prop}, (∀ e ∈ l, ∀ K : Except Value Bool → Own → Prop, K (.ok (b e)) S → Run P S0 (Op.equal kt k e.key) S K) →
  K (.ok (firstB b l i)) S → Run P S0 (Instr.findAsking kt k l i) S K
 | [], _, _, _, hK => Run.pure hK
 | e :: l, i, K, h, hK => by
  show Run P S0 ((Op.equal kt k e.key).bind fun r => if r = true then pure (some (i, e.val)) else Instr.findAsking kt k l (i + 1)) S K
  refine Run.bind (h e List.mem_cons_self _ ?_)
  simp only [firstB] at hK
  cases hb : b e with
  | true => rw [hb, if_pos rfl] at hK; simp only [if_true]; exact Run.pure hK
  | false =>
   rw [hb] at hK
   simp only [Bool.false_eq_true, if_false] at hK ⊢
   exact findAsking_run (fun y hy => h y (List.mem_cons_of_mem _ hy)) hK
def KeyEq (P : Program) (S0 S : Own) (kt : TypeId) (d : TypeDesc) (k y : Value) (b : Bool) : Prop :=
 Instr.sameNow d k y = some b ∨ ((∀ x y, Instr.sameNow d x y = none) ∧ ∀ K : Except Value Bool → Own → Prop, K (.ok b) S → Run P S0 (Op.equal kt k y) S K)
theorem findKey_run {kt : TypeId} {d : TypeDesc} {k : Value} {b : MapEntry → Bool} {l : List MapEntry} {α : Type} {g : Option (Nat × Value) → Sem α} {K : Except Value α → Own → Prop} (hu : P.underlying kt = some d) (h : ∀ e ∈ l, KeyEq P S0 S kt d k e.key (b e))
  (hK : Run P S0 (g (firstB b l 0)) S K) : Run P S0 ((Instr.findKey kt k l).bind g) S K := by
 unfold Instr.findKey
 simp only [bind]
 rw [Sem.bind_assoc']
 refine run_underlying hu ?_
 by_cases hn : ∀ x y, Instr.sameNow d x y = none
 ·have hr : ∀ e ∈ l, ∀ K : Except Value Bool → Own → Prop, K (.ok (b e)) S → Run P S0 (Op.equal kt k e.key) S K := fun e he => by
   rcases h e he with h1 | h1
   ·rw [hn] at h1; cases h1
   ·exact h1.2
  cases l with
  | nil => exact hK
  | cons e l =>
   simp only [Instr.findNow, hn]
   exact Run.bind (findAsking_run hr hK)
 ·have hr : ∀ e ∈ l, Instr.sameNow d k e.key = some (b e) := fun e he => by
   rcases h e he with h1 | h1
   ·exact h1
   ·exact absurd h1.1 hn
  rw [findNow_eq hr]
  exact hK
def eqK (P : Program) (hp : Hp) (d : TypeDesc) (kt : TypeId) (k k' : SC) : Option Bool := match d with
 | .int _ => match k, k' with
  | .int j (.lit a), .int j' (.lit b) => match decide (j = j') with
   | true => some (Int.same a b)
   | false => none
  | _, _ => none
 | .string => match k, k' with
  | .lit (.string a), .lit (.string b) => some (a == b)
  | _, _ => none
 | .bool => match k, k' with
  | .bool (.lit a), .bool (.lit b) => some (a == b)
  | _, _ => none
 | .array _ _ | .struct _ => match eqS P hp 40 kt k k' with
  | some (.lit b) => some b
  | _ => none
 | _ => none
theorem eqK_ok (hs : Sat ρ hp F S) {d : TypeDesc} {kt : TypeId} {k k' : SC} {b : Bool} (h : eqK P hp d kt k k' = some b) (hk : k.ok ρ.k.length) (hk' : k'.ok ρ.k.length) : KeyEq P S0 S kt d (k.den ρ) (k'.den ρ) b := by
 have agg : (∀ x y, Instr.sameNow d x y = none) → (match eqS P hp 40 kt k k' with | some (.lit b) => some b | _ => none) = some b → KeyEq P S0 S kt d (k.den ρ) (k'.den ρ) b := by
  intro hn h
  split at h
  ·rename_i b' he
   simp only [Option.some.injEq] at h; subst h
   exact .inr ⟨hn, fun K hK => (eqS_ok (P := P) (S0 := S0) hs 40 Op.maxDepth kt k k' _ (by decide) he hk hk').2 K hK⟩
  ·cases h
 unfold eqK at h
 split at h
 ·split at h
  ·split at h
   ·rename_i hj
    have hj := of_decide_eq_true hj
    simp only [Option.some.injEq] at h; subst h; subst hj
    refine .inl ?_
    simp only [SC.den, IE.den, Instr.sameNow, if_true, Int.same_eq]
   ·cases h
  ·cases h
 ·split at h
  ·simp only [Option.some.injEq] at h; subst h
   exact .inl rfl
  ·cases h
 ·split at h
  ·simp only [Option.some.injEq] at h; subst h
   exact .inl rfl
  ·cases h
 ·exact agg (fun x y => by cases x <;> cases y <;> rfl) h
 ·exact agg (fun x y => by cases x <;> cases y <;> rfl) h
 ·cases h
def noneK (f : SC → Option Bool) : List (SC × SC) → Bool
 | [] => true
 | x :: l => match f x.1 with
  | some false => noneK f l
  | _ => false
def findS (f : SC → Option Bool) : List (SC × SC) → Option (Option Nat)
 | [] => some none
 | x :: l => match f x.1 with
  | some true => match noneK f l with
   | true => some (some 0)
   | false => none
  | some false => match findS f l with
   | some (some i) => some (some (i + 1))
   | some none => some none
   | none => none
  | none => none
theorem noneK_mem {f : SC → Option Bool} : ∀ {l : List (SC × SC)}, noneK f l = true → ∀ x ∈ l, f x.1 = some false
 | [], _, x, hx => by cases hx
 | y :: l, h, x, hx => by
  simp only [noneK] at h
  split at h
  ·rename_i hy
   rcases List.mem_cons.1 hx with rfl | hx
   ·exact hy
   ·exact noneK_mem h x hx
  ·cases h
theorem findS_none {f : SC → Option Bool} : ∀ {l : List (SC × SC)}, findS f l = some none → ∀ x ∈ l, f x.1 = some false
 | [], _, x, hx => by cases hx
 | y :: l, h, x, hx => by
  simp only [findS] at h
  split at h
  ·split at h <;> simp at h
  ·rename_i hy
   split at h <;> simp at h
   rename_i hl
   rcases List.mem_cons.1 hx with rfl | hx
   ·exact hy
   ·exact findS_none hl x hx
  ·cases h
theorem findS_some {f : SC → Option Bool} : ∀ {l : List (SC × SC)} {i : Nat}, findS f l = some (some i) → ∃ A x B, l = A ++ x :: B ∧ A.length = i ∧ f x.1 = some true ∧ ∀ y ∈ A ++ B, f y.1 = some false
 | [], i, h => by simp [findS] at h
 | y :: l, i, h => by
  simp only [findS] at h
  split at h
  ·rename_i hy
   split at h
   ·rename_i hn
    simp only [Option.some.injEq] at h; subst h
    exact ⟨[], y, l, rfl, rfl, hy, noneK_mem hn⟩
   ·cases h
  ·rename_i hy
   split at h
   ·rename_i j hl
    simp only [Option.some.injEq] at h; subst h
    obtain ⟨A, x, B, h1, h2, h3, h4⟩ := findS_some hl
    refine ⟨y :: A, x, B, by rw [h1]; rfl, by simp [h2], h3, fun z hz => ?_⟩
    rcases List.mem_cons.1 hz with rfl | hz
    ·exact hy
    ·exact h4 z hz
   ·simp at h
   ·cases h
  ·cases h
section
variable {d : TypeDesc} {kt : TypeId} {k : SC} {es : List (SC × SC)} {L : List MapEntry} {α : Type} {g : Option (Nat × Value) → Sem α} {K : Except Value α → Own → Prop}
theorem find_miss (hs : Sat ρ hp F S) (hu : P.underlying kt = some d) (hk : k.ok ρ.k.length) (he : ∀ x ∈ es, x.1.ok ρ.k.length ∧ x.2.ok ρ.k.length) (hp' : (L.map kv).Perm (es.map (pairD ρ))) (h : findS (eqK P hp d kt k) es = some none) (hK : Run P S0 (g none) S K) :
  Run P S0 ((Instr.findKey kt (k.den ρ) L).bind g) S K := by
 refine findKey_run (b := fun _ => false) hu (fun e hm => ?_) (by rw [firstB_none fun _ _ => rfl]; exact hK)
 have hm' : kv e ∈ es.map (pairD ρ) := hp'.mem_iff.1 (List.mem_map_of_mem hm)
 obtain ⟨x, hx, hxe⟩ := List.mem_map.1 hm'
 have h1 := eqK_ok (S0 := S0) hs (findS_none h x hx) hk (he x hx).1
 have e1 : x.1.den ρ = e.key := congrArg Prod.fst hxe
 rw [e1] at h1; exact h1
open Classical in
theorem find_hit (hs : Sat ρ hp F S) (hu : P.underlying kt = some d) (hk : k.ok ρ.k.length) (he : ∀ x ∈ es, x.1.ok ρ.k.length ∧ x.2.ok ρ.k.length) (hp' : (L.map kv).Perm (es.map (pairD ρ))) {i : Nat} (h : findS (eqK P hp d kt k) es = some (some i))
  (hK : ∀ pre e post A x B, L = pre ++ e :: post → es = A ++ x :: B → A.length = i → kv e = pairD ρ x → Run P S0 (g (some (pre.length, e.val))) S K) : Run P S0 ((Instr.findKey kt (k.den ρ) L).bind g) S K := by
 obtain ⟨A, x, B, h1, h2, h3, h4⟩ := findS_some h
 have hx : x ∈ es := by rw [h1]; simp
 have hex : ∃ e ∈ L, decide (kv e = pairD ρ x) = true := by
  have := hp'.mem_iff.2 (List.mem_map_of_mem (f := pairD ρ) hx)
  obtain ⟨e, hm, hke⟩ := List.mem_map.1 this
  exact ⟨e, hm, decide_eq_true hke⟩
 obtain ⟨pre, e, post, p1, p2, p3⟩ := firstB_some (b := fun e => decide (kv e = pairD ρ x)) (i := 0) hex
 refine findKey_run (b := fun e => decide (kv e = pairD ρ x)) hu (fun e hm => ?_) (by rw [p3, Nat.zero_add]; exact hK pre e post A x B p1 h1 h2 (of_decide_eq_true p2))
 by_cases hke : kv e = pairD ρ x
 ·rw [decide_eq_true hke]
  have h5 := eqK_ok (S0 := S0) hs h3 hk (he x hx).1
  have e1 : e.key = x.1.den ρ := congrArg Prod.fst hke
  rw [e1]; exact h5
 ·rw [decide_eq_false hke]
  have hm' : kv e ∈ es.map (pairD ρ) := hp'.mem_iff.1 (List.mem_map_of_mem hm)
  obtain ⟨y, hy, hye⟩ := List.mem_map.1 hm'
  have hy' : y ∈ A ++ B := by
   rw [h1] at hy
   rcases List.mem_append.1 hy with hy | hy
   ·exact List.mem_append_left _ hy
   ·rcases List.mem_cons.1 hy with rfl | hy
    ·exact absurd hye.symm hke
    ·exact List.mem_append_right _ hy
  have h5 := eqK_ok (S0 := S0) hs (h4 y hy') hk (he y hy).1
  have e1 : y.1.den ρ = e.key := congrArg Prod.fst hye
  rw [e1] at h5; exact h5
end
end
end Mw
