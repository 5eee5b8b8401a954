/- A logic over the machine and a run of a program on unknown values, in the kernel. No statement of the project is proved in this text. -/
import Derived.Conc.Beside
import Derived.Conc.CrowdComm
import Derived.Conc.DeferLaws
import Derived.Conc.Own2
import Derived.Conc.WgGenN3
import Derived.Laws.Externs
import Derived.Test.YtladmdopggnnmaaGreatDoorm2
set_option linter.unusedVariables false
set_option linter.unusedSimpArgs false
namespace Mw
open Go Mv
def orderOf (m : Region.Mode) (ops : Array Oper) (i : Nat) : Nat := (Region.linearise m ops 0).idxOf i
def ranksOk (ops : Array Oper) : Bool := rankB .any ops id && (!Region.departs ops || (rankB .text ops (orderOf .text ops) && rankB .gc ops (orderOf .gc ops)))
theorem sched_schedule {mixed : Bool} {ops : Array Oper} (h : ranksOk ops = true) (t : Nat) : Sched ops [] (Region.schedule mixed ops t) := by
 simp only [ranksOk, Bool.and_eq_true, Bool.or_eq_true] at h
 unfold Region.schedule
 split
 ·exact sched_linearise (rankB_ok h.1) t
 ·rename_i hd
  rcases h.2 with h2 | ⟨h2, h3⟩
  ·exact absurd (by simp [h2]) hd
  ·split
   ·exact sched_linearise (rankB_ok h2) _
   ·exact sched_linearise (rankB_ok h3) _
def sameL (f : SC → SC → Bool) : List SC → List SC → Bool
 | [], [] => true
 | x :: l, y :: m => f x y && sameL f l m
 | _, _ => false
def SC.same : Nat → SC → SC → Bool
 | _, .int k (.lit m), .int k' (.lit n) => decide (k = k') && Int.same m n
 | _, .int k x, .int k' y => decide (k = k') && decide (x = y)
 | _, .bool x, .bool y => decide (x = y)
 | _, .any i, .any j => Nat.beq i j
 | _, .ref i, .ref j => Nat.beq i j
 | _, .chn i, .chn j => Nat.beq i j
 | _, .yield i, .yield j => Nat.beq i j
 | _, .ptr b x, .ptr b' y => Nat.beq b b' && decide (x = y)
 | _, .slice b x l c, .slice b' x' l' c' => Nat.beq b b' && decide (x = x') && decide (l = l') && decide (c = c')
 | _, .nsl t b x l c, .nsl t' b' x' l' c' => Nat.beq t t' && Nat.beq b b' && decide (x = x') && decide (l = l') && decide (c = c')
 | _, .lit .nilIface, .lit .nilIface => true
 | _, .lit .nilFunc, .lit .nilFunc => true
 | _, .lit (.map none), .lit (.map none) => true
 | _, .lit (.pointer (some ⟨b, o, none⟩)), .lit (.pointer (some ⟨b', o', none⟩)) => Nat.beq b b' && Nat.beq o o'
 | _, .lit (.chan none), .lit (.chan none) => true
 | _, .lit (.pointer none), .lit (.pointer none) => true
 | _, .lit (.slice none 0 0), .lit (.slice none 0 0) => true
 | n + 1, .agg l, .agg m => sameL (SC.same n) l m
 | n + 1, .tup l, .tup m => sameL (SC.same n) l m
 | n + 1, .iface t x, .iface t' y => Nat.beq t t' && SC.same n x y
 | n + 1, .fn f a b, .fn f' a' b' => decide (f = f') && sameL (SC.same n) a a' && sameL (SC.same n) b b'
 | _, _, _ => false
theorem sameL_eq {f : SC → SC → Bool} (hf : ∀ x y, f x y = true → x = y) : ∀ l m, sameL f l m = true → l = m
 | [], [], _ => rfl
 | x :: l, y :: m, h => by
  simp only [sameL, Bool.and_eq_true] at h
  rw [hf x y h.1, sameL_eq hf l m h.2]
 | [], _ :: _, h => by cases h
 | _ :: _, [], h => by cases h
theorem SC.same_eq : ∀ n x y, SC.same n x y = true → x = y := by
 intro n
 induction n with
 | zero =>
  intro x y h
  unfold SC.same at h
  split at h <;> (try simp only [Bool.and_eq_true, decide_eq_true_eq, Int.same_eq, beq_iff_eq, Nat.beq_eq, Bool.false_eq_true] at h) <;> first | rfl | (simp_all; done)
 | succ n ih =>
  have ihl := sameL_eq ih
  intro x y h
  unfold SC.same at h
  split at h <;> (try simp only [Bool.and_eq_true, decide_eq_true_eq, Int.same_eq, beq_iff_eq, Nat.beq_eq, Bool.false_eq_true, Nat.succ.injEq] at *) <;> first
   | rfl
   | (simp_all; done)
   | (subst_vars; rw [ihl _ _ h])
   | (subst_vars; obtain ⟨⟨h1, h2⟩, h3⟩ := h; rw [h1, ihl _ _ h2, ihl _ _ h3])
   | (subst_vars; obtain ⟨h1, h2⟩ := h; rw [h1, ih _ _ h2])
abbrev Opx := Run_ → Call_ → Round_ → Cx → Facts → List Item → Array Oper → List Nat → Oper → List Item → SS → Nat → Kont → Tree
structure OpxOk (P : Program) (main : Co) (opx : Opx) : Prop where
 good : ∀ (D : Env → SEx → SS → Prop) (E : Env → List Item → SS → Prop) (ex : Run_) (call : Call_) (rnd : Round_), SoundRound P main rnd → SoundCall P main call → ∀ (C : Cx) (Γ : Facts) (items items' tail : List Item) (ops : Array Oper) (i : Nat) (rest rest' : List Nat) (o : Oper) (σ : SS) (k : Kont) (ρ : Env) (Q : Ex → St → Own → Prop) (F : Own) (r : Ctx),
  CtxOk C r ρ → vals ρ → Γ.On ρ → KOk D E C.size F ρ k Q → ops[i]? = some o → holds D E ρ (opx ex call rnd C Γ items ops rest o items' σ ρ.k.length k) → ∀ {a : St} {S : Own}, Fit C.size F ρ σ a S → Region.wanted o (yielded ops a.tmps) = true →
  (∀ {t : Tree}, t = stuck_ C items σ → holds D E ρ t → wpI P main r (.inRegion ops (i :: rest') :: tail) Q a S) →
  (∀ ρ' Γ' σ' a' S', Ext ρ ρ' → vals ρ' → Γ'.On ρ' → Fit C.size F ρ' σ' a' S' → (∃ v, a'.tmps = (a.put o.dst v).tmps) → holds D E ρ' (ex C Γ' (.inRegion ops rest :: items') σ' ρ'.k.length k) → wpI P main r (.inRegion ops rest' :: tail) Q a' S') → wpI P main r (.inRegion ops (i :: rest') :: tail) Q a S
 alloc : ∃ inl, ∀ ex call rnd C Γ items ops rest o tail σ nk k, ((∃ t, o.op = .alloc t) ∨ ∃ t n ps, o.op = .buildSlice t n ps) → opx ex call rnd C Γ items ops rest o tail σ nk k = stepOp P inl ex call rnd C Γ items ops rest o tail σ nk k
theorem stepOp_ok {P : Program} {main : Co} {inl : FuncId → Bool} : OpxOk P main (stepOp P inl) :=
 ⟨fun D E ex call rnd hrnd hcall C Γ items items' tail ops i rest rest' o σ k ρ Q F r hr hv hΓ hK ho h => fun hf hw hst hnext => stepOp_good hrnd hcall hr hv hΓ hK ho h hf hw hst hnext, ⟨inl, fun _ _ _ _ _ _ _ _ _ _ _ _ _ _ => rfl⟩⟩
def quietB : Builtin → Bool
 | .len | .cap | .min | .max => true
 | _ => false
def quietC : Callee → Bool
 | .builtin b => quietB b
 | _ => false
def quietOp : Op → Bool
 | .move _ | .assign _ | .pick .. | .build .. | .load .. | .nilCheck _ | .binOp .. | .unOp .. | .convert .. | .makeInterface .. | .makeFunc .. | .slice .. | .fieldAddr .. | .field .. | .indexAddr .. | .index .. | .typeAssert .. | .extract .. => true
 | .call c => quietC c.callee
 | _ => false
def effAt (ops : Array Oper) (i : Nat) : Bool := match ops[i]? with
 | some o => !quietOp o.op
 | none => false
def ahead (ops : Array Oper) (i : Nat) : Nat := (masks ops).getD i 0
def dstIs (ops : Array Oper) (j t : Nat) : Bool := match ops[j]? with
 | some o => match o.dst with
  | some d => Nat.beq d t
  | none => false
 | none => false
def writersGo (t : Nat) : List Oper → Nat → List Nat
 | [], _ => []
 | o :: os, j => match o.dst with
  | some d => match Nat.beq d t with
   | true => j :: writersGo t os (j + 1)
   | false => writersGo t os (j + 1)
  | none => writersGo t os (j + 1)
def writers (ops : Array Oper) (t : Nat) : List Nat := writersGo t ops.toList 0
def seen (ops : Array Oper) (i t : Nat) : Bool := (writers ops t).all fun j => (ahead ops i).testBit j
def dsts (ops : Array Oper) : List Nat := ops.toList.filterMap (·.dst)
def later (ops : Array Oper) (i t : Nat) : Bool := (writers ops t).all fun j => (ahead ops j).testBit i
def tmpsOf : List Operand → List Nat → List Nat
 | [], acc => acc
 | .tmp t :: l, acc => t :: tmpsOf l acc
 | _ :: l, acc => tmpsOf l acc
def readsOf (ops : Array Oper) (i : Nat) : List Nat := match ops[i]? with
 | some o => tmpsOf o.op.operands.toList (match o.guard with
  | some (j, _) => match ops[j]? with
   | some oj => match oj.dst with
    | some d => [d]
    | none => []
   | none => []
  | none => [])
 | none => []
def see (ops : Array Oper) (i : Nat) (sl0 sl : Tr SC) (s : Tr SC) (t : Nat) : Tr SC := match seen ops i t with
 | true => match sl.look t with
  | some v => s.set t v
  | none => s
 | false => match later ops i t with
  | true => match sl0.look t with
   | some v => s.set t v
   | none => s
  | false => s
def hide (ops : Array Oper) (sl0 : Tr SC) (i : Nat) (sl : Tr SC) : Tr SC := (readsOf ops i).foldl (see ops i sl0 sl) .nil
def pendAt (ops : Array Oper) (past : List Nat) : List Nat := (List.range ops.size).filter fun q => !effAt ops q && ((List.range ops.size).all fun j => !(effAt ops j && (ahead ops q).testBit j) || past.contains j) && past.all fun j => !(ahead ops j).testBit q
def newsAt (ops : Array Oper) (past : List Nat) (last : Option Nat) : List Nat := (pendAt ops past).filter fun q => match last with
 | none => true
 | some i => (ahead ops q).testBit i
def isAl (ops : Array Oper) (i : Nat) : Bool := match ops[i]? with
 | some o => match o.op with
  | .alloc _ => true
  | .buildSlice .. => o.guard.isNone
  | _ => false
 | none => false
def isBs (ops : Array Oper) (i : Nat) : Bool := match ops[i]? with
 | some o => match o.op with
  | .buildSlice .. => o.guard.isNone
  | _ => false
 | none => false
def bsOf (ops : Array Oper) : List Nat := (List.range ops.size).filter (isBs ops)
def makesAt (ops : Array Oper) (past : List Nat) : List Nat := (bsOf ops).filter fun q => !past.contains q && (List.range ops.size).all fun j => !(effAt ops j && (ahead ops q).testBit j) || past.contains j
def placeE (ops : Array Oper) : List Nat → List Nat → List Nat
 | [], as => as
 | e :: es, as => as.filter (fun a => (ahead ops e).testBit a) ++ e :: placeE ops es (as.filter fun a => !(ahead ops e).testBit a)
def effsOf (ops : Array Oper) : List Nat := placeE ops ((List.range ops.size).filter fun i => effAt ops i && !isAl ops i) ((List.range ops.size).filter (isAl ops))
def chainB (ops : Array Oper) : List Nat → Bool
 | [] => true
 | i :: l => l.all (fun j => isAl ops j || (ahead ops j).testBit i) && chainB ops l
def placedB (ops : Array Oper) : List Nat → List Nat → Bool
 | _, [] => true
 | past, i :: l => (!isAl ops i || (List.range ops.size).all fun q => (effAt ops q && !isBs ops q) || !(ahead ops q).testBit i || past.all fun e => (ahead ops q).testBit e) && placedB ops (i :: past) l
def nodupB : List Nat → Bool
 | [] => true
 | x :: l => !l.contains x && nodupB l
def openOk (ops : Array Oper) : Bool := ranksOk ops && textual ops && nodupB (dsts ops) && Nat.beq (masks ops).length ops.size && chainB ops (effsOf ops) && placedB ops [] (effsOf ops)
def allocsOk (P : Program) (ops : Array Oper) (size : Nat) : Bool := (List.range ops.size).all fun i => match ops[i]? with
 | some o => match o.op with
  | .alloc t => o.guard.isNone && (match o.dst with | some d => Nat.ble (d + 1) size | none => false) && (match sAlloc P t with | some (.fresh [] _ .ptr) => true | _ => false)
  | .buildSlice _ _ ps => !o.guard.isNone || ((match o.dst with | some d => Nat.ble (d + 1) size | none => false) && ps.toList.all fun x => match x.2 with
   | .tmp t => seen ops i t
   | _ => true)
  | _ => true
 | none => true
def dropA (ops : Array Oper) (l : List Nat) (sl : Tr SC) : Tr SC := l.foldl (fun sl i => match ops[i]? with
 | some o => match o.dst with
  | some d => sl.del d
  | none => sl
 | none => sl) sl
def agrees (sl : Tr SC) (dst : Option Tmp) (v : SC) : Bool := match dst with
 | none => true
 | some d => match sl.look d with
  | none => true
  | some w => SC.same 6 w v
section
variable (P : Program) (ops : Array Oper) (sl0 : Tr SC)
def guessAll (Γ : Facts) (hp : Hp) : List Nat → Tr SC → (Tr SC → Tree) → Tree
 | [], sl, k => k sl
 | q :: l, sl, k => match ops[q]? with
  | none => .bad
  | some o => match symWanted (hide ops sl0 q sl) ops o with
   | some (.inl true) => match symOpF P hp (evC (hide ops sl0 q sl)) o.op with
    | some (.val _ v) => putK sl o.dst (v.nrmF Γ) fun sl => guessAll Γ hp l sl k
    | _ => .bad
   | some (.inl false) => putK sl o.dst undefS fun sl => guessAll Γ hp l sl k
   | _ => .bad
def checkAll (size : Nat) (Γ : Facts) (hp : Hp) (sl : Tr SC) : List Nat → Tree → Tree
 | [], t => t
 | q :: l, t => match ops[q]? with
  | none => .bad
  | some o => match o.dst.all (· < size) with
   | false => .bad
   | true => match symWanted (hide ops sl0 q sl) ops o with
    | some (.inl true) => match symOpF P hp (evC (hide ops sl0 q sl)) o.op with
     | some (.val ns v) => match agrees sl o.dst (v.nrmF Γ) with
      | true => .needs (toShow Γ ns) (checkAll size Γ hp sl l t)
      | false => .bad
     | _ => .bad
    | some (.inl false) => match agrees sl o.dst undefS with
     | true => checkAll size Γ hp sl l t
     | false => .bad
    | _ => .bad
def makesB (hp : Hp) (sl : Tr SC) (l : List Nat) : Bool := l.all fun q => match ops[q]? with
 | some o => (symOpF P hp (evC (hide ops sl0 q sl)) o.op).isSome
 | none => false
def merge (sl : Tr SC) (dst : Option Tmp) (sl' : Tr SC) : Tr SC := match dst with
 | none => sl
 | some d => match sl'.look d with
  | some v => sl.set d v
  | none => sl.del d
variable (opx : Opx) (ex : Run_) (call : Call_)
def stages (C : Cx) (tail : List Item) (k : Kont) : List Nat → List Nat → Option Nat → Facts → SS → Nat → Tree
 | effs, past, last, Γ, σ, nk => guessAll P ops sl0 Γ σ.hp (newsAt ops past last) σ.sl fun sl => match makesB P ops sl0 σ.hp sl (makesAt ops past) with
  | false => .bad
  | true => checkAll P ops sl0 C.size Γ σ.hp sl (pendAt ops past) (match effs with
   | [] => ex C Γ tail (σ.withSl sl) nk k
   | i :: effs => match ops[i]? with
    | none => .bad
    | some o => match symWanted (hide ops sl0 i sl) ops o with
     | some (.inl true) => opx (fun _ Γ _ σ' nk _ => stages C tail k effs (i :: past) (some i) Γ (σ'.withSl (merge sl o.dst σ'.sl)) nk) call (roundF P ex) { C with top := false } Γ [] ops [] o [] (σ.withSl (hide ops sl0 i sl)) nk k
     | some (.inl false) => match o.dst.all (· < C.size) with
      | true => stages C tail k effs (i :: past) (some i) Γ (σ.withSl (putD sl o.dst undefS)) nk
      | false => .bad
     | _ => .bad)
 termination_by structural effs => effs
end
def openX (P : Program) (ops : Array Oper) (opx : Opx) (ex : Run_) (call : Call_) (C : Cx) (Γ : Facts) (items : List Item) (tail : List Item) (σ : SS) (nk : Nat) (k : Kont) : Tree := match openOk ops with
 | true => match allocsOk P ops C.size with
  | true => stages P ops σ.sl opx ex call C tail k (effsOf ops) [] none Γ (σ.withSl (dropA ops ((List.range ops.size).filter (isAl ops)) σ.sl)) nk
  | false => stuck_ C items σ
 | false => stuck_ C items σ
abbrev openR (P : Program) (ops : Array Oper) (inl : FuncId → Bool) := openX P ops (stepOp P inl)
section
variable {P : Program} {main : Co} {ops : Array Oper}
theorem ahead_lt (ht : textual ops = true) {k j : Nat} (h : (ahead ops k).testBit j = true) : ∃ m, GoodMask ops k m ∧ m.testBit j = true := by
 unfold ahead at h
 cases hm : (masks ops)[k]? with
 | none => simp [List.getD, hm] at h
 | some m => exact ⟨m, masks_good ht hm, by simpa [List.getD, hm] using h⟩
theorem ahead_done (ht : textual ops = true) {k j : Nat} (h : (ahead ops k).testBit j = true) {D : List Nat} (hD : Down ops D) (hp : ∀ o, ops[k]? = some o → ∀ x ∈ predsOf o, x ∈ D) : j ∈ D := by
 obtain ⟨m, hm, hj⟩ := ahead_lt ht h
 exact (hm j hj).2 D hD hp
theorem see_look {i x d : Nat} {sl0 sl s : Tr SC} {v : SC} (h : (see ops i sl0 sl s x).look d = some v) : s.look d = some v ∨ (seen ops i d = true ∧ sl.look d = some v) ∨ (later ops i d = true ∧ sl0.look d = some v) := by
 unfold see at h
 split at h
 ·rename_i hs
  split at h
  ·rename_i w hw
   rcases Tr.look_set h with ⟨rfl, rfl⟩ | h
   ·exact .inr (.inl ⟨hs, hw⟩)
   ·exact .inl h.2
  ·exact .inl h
 ·split at h
  ·rename_i hl
   split at h
   ·rename_i w hw
    rcases Tr.look_set h with ⟨rfl, rfl⟩ | h
    ·exact .inr (.inr ⟨hl, hw⟩)
    ·exact .inl h.2
   ·exact .inl h
  ·exact .inl h
theorem foldl_see_look {i : Nat} {sl0 sl : Tr SC} : ∀ (l : List Nat) (s : Tr SC) {d : Nat} {v : SC}, (l.foldl (see ops i sl0 sl) s).look d = some v → s.look d = some v ∨ (seen ops i d = true ∧ sl.look d = some v) ∨ (later ops i d = true ∧ sl0.look d = some v)
 | [], s, d, v, h => .inl h
 | x :: l, s, d, v, h => by
  rcases foldl_see_look l (see ops i sl0 sl s x) h with h1 | h1
  ·exact see_look h1
  ·exact .inr h1
theorem hide_look {i : Nat} {sl0 sl : Tr SC} {d : Nat} {v : SC} (h : (hide ops sl0 i sl).look d = some v) : (seen ops i d = true ∧ sl.look d = some v) ∨ (later ops i d = true ∧ sl0.look d = some v) := by
 rcases foldl_see_look _ _ h with h | h
 ·rw [Tr.nil_look] at h; cases h
 ·exact h
theorem writersGo_mem {t : Nat} {o : Oper} : ∀ {os : List Oper} {k j : Nat}, os[j]? = some o → o.dst = some t → k + j ∈ writersGo t os k
 | [], k, j, h, _ => by simp at h
 | x :: os, k, 0, h, hd => by
  simp only [List.getElem?_cons_zero, Option.some.injEq] at h; subst h
  simp [writersGo, hd]
 | x :: os, k, j + 1, h, hd => by
  have := writersGo_mem (k := k + 1) (os := os) (j := j) (by simpa using h) hd
  have e : k + 1 + j = k + (j + 1) := by omega
  rw [e] at this
  unfold writersGo
  split
  ·split
   ·exact List.mem_cons_of_mem _ this
   ·exact this
  ·exact this
theorem writers_mem {j d : Nat} (h : dstIs ops j d = true) : j ∈ writers ops d := by
 unfold dstIs at h
 split at h
 ·rename_i o ho
  split at h
  ·rename_i d' hd
   have := Nat.eq_of_beq_eq_true h
   subst this
   have := writersGo_mem (k := 0) (os := ops.toList) (j := j) (by simpa using ho) hd
   simpa [writers] using this
  ·cases h
 ·cases h
theorem later_of {i d j : Nat} (hl : later ops i d = true) (h : dstIs ops j d = true) : (ahead ops j).testBit i = true := List.all_eq_true.1 hl j (writers_mem h)
def Old (ρ : Env) (ops : Array Oper) (done : List Nat) (sl0 : Tr SC) (a : St) : Prop :=
 ∀ d v, sl0.look d = some v → (∃ j, j ∈ done ∧ dstIs ops j d = true) ∨ (v.ok ρ.k.length ∧ a.tmps[d]? = some (v.den ρ))
theorem dstIs_iff {j d : Nat} (h : dstIs ops j d = true) : ∃ o, ops[j]? = some o ∧ o.dst = some d := by
 unfold dstIs at h
 split at h
 ·rename_i o ho
  split at h
  ·rename_i d' hd
   have := Nat.eq_of_beq_eq_true h
   subst this
   exact ⟨o, ho, hd⟩
  ·cases h
 ·cases h
theorem dstIs_of {j d : Nat} {o : Oper} (ho : ops[j]? = some o) (hd : o.dst = some d) : dstIs ops j d = true := by
 simp only [dstIs, ho, hd, Nat.beq_refl]
theorem nodupB_eq : ∀ {l : List Nat}, nodupB l = true → l.Nodup
 | [], _ => List.nodup_nil
 | x :: l, h => by
  simp only [nodupB, Bool.and_eq_true, Bool.not_eq_true', List.contains_eq_mem, decide_eq_false_iff_not] at h
  exact List.nodup_cons.2 ⟨h.1, nodupB_eq h.2⟩
theorem uniq {α : Type} {f : α → Option Nat} : ∀ {l : List α} {j j' : Nat} {x y : α} {d : Nat}, (l.filterMap f).Nodup → l[j]? = some x → l[j']? = some y → f x = some d → f y = some d → j = j'
 | [], _, _, _, _, _, _, h, _, _, _ => by simp at h
 | z :: l, 0, 0, _, _, _, _, _, _, _, _ => rfl
 | z :: l, 0, j' + 1, x, y, d, hn, hx, hy, fx, fy => by
  exfalso
  simp only [List.getElem?_cons_zero, Option.some.injEq] at hx
  subst hx
  rw [List.filterMap_cons_some fx] at hn
  exact (List.nodup_cons.1 hn).1 (List.mem_filterMap.2 ⟨y, List.mem_of_getElem? (by simpa using hy), fy⟩)
 | z :: l, j + 1, 0, x, y, d, hn, hx, hy, fx, fy => by
  exfalso
  simp only [List.getElem?_cons_zero, Option.some.injEq] at hy
  subst hy
  rw [List.filterMap_cons_some fy] at hn
  exact (List.nodup_cons.1 hn).1 (List.mem_filterMap.2 ⟨x, List.mem_of_getElem? (by simpa using hx), fx⟩)
 | z :: l, j + 1, j' + 1, x, y, d, hn, hx, hy, fx, fy => by
  have hn' : (l.filterMap f).Nodup := by
   cases hz : f z with
   | none => rwa [List.filterMap_cons_none hz] at hn
   | some w => rw [List.filterMap_cons_some hz] at hn; exact (List.nodup_cons.1 hn).2
  have hx : l[j]? = some x := by simpa using hx
  have hy : l[j']? = some y := by simpa using hy
  exact congrArg (· + 1) (uniq hn' hx hy fx fy)
theorem dst_uniq (hn : nodupB (dsts ops) = true) {j j' d : Nat} (h : dstIs ops j d = true) (h' : dstIs ops j' d = true) : j = j' := by
 obtain ⟨o, h1, h2⟩ := dstIs_iff h
 obtain ⟨o', h3, h4⟩ := dstIs_iff h'
 exact uniq (f := fun o : Oper => o.dst) (nodupB_eq hn) (by simpa using h1) (by simpa using h3) h2 h4
theorem getOp_lt {j : Nat} {o : Oper} (h : ops[j]? = some o) : j < ops.size := by
 rcases Nat.lt_or_ge j ops.size with h' | h'
 ·exact h'
 ·rw [Array.getElem?_eq_none h'] at h; cases h
theorem seen_of {i d j : Nat} (hs : seen ops i d = true) (h : dstIs ops j d = true) : (ahead ops i).testBit j = true := List.all_eq_true.1 hs j (writers_mem h)
def Part (ρ : Env) (ops : Array Oper) (done : List Nat) (sl : Tr SC) (a : St) : Prop :=
 ∀ d v, sl.look d = some v → (∃ j, j ∉ done ∧ dstIs ops j d = true) ∨ (v.ok ρ.k.length ∧ a.tmps[d]? = some (v.den ρ))
theorem Part.seen {ρ : Env} {done : List Nat} {sl0 sl : Tr SC} {a : St} (h : Part ρ ops done sl a) (h0 : Old ρ ops done sl0 a) (ht : textual ops = true) (hD : Down ops done) {i : Nat} (hnd : i ∉ done) (hp : ∀ o, ops[i]? = some o → ∀ x ∈ predsOf o, x ∈ done) : Knows ρ (hide ops sl0 i sl) a := by
 intro d v hd
 rcases hide_look hd with ⟨h2, h1⟩ | ⟨hl, h1⟩
 ·rcases h d v h1 with ⟨j, hj, hjd⟩ | h
  ·exact absurd (ahead_done ht (seen_of h2 hjd) hD hp) hj
  ·exact h
 ·rcases h0 d v h1 with ⟨j, hj, hjd⟩ | h
  ·exact absurd (ahead_done ht (later_of hl hjd) hD fun oj hoj x hx => hD j hj oj hoj x hx) hnd
  ·exact h
theorem guessAll_spec {sl0 : Tr SC} {D : Env → SEx → SS → Prop} {E : Env → List Item → SS → Prop} {ρ : Env} {Γ : Facts} {hp : Hp} {k : Tr SC → Tree} : ∀ (l : List Nat) (sl : Tr SC), holds D E ρ (guessAll P ops sl0 Γ hp l sl k) →
  ∃ sl', holds D E ρ (k sl') ∧ ∀ d v, sl'.look d = some v → (∃ q ∈ l, dstIs ops q d = true) ∨ sl.look d = some v
 | [], sl, h => ⟨sl, h, fun d v h => .inr h⟩
 | q :: l, sl, h => by
  simp only [guessAll] at h
  split at h
  ·exact h.elim
  ·rename_i o ho
   have key : ∀ v, holds D E ρ (guessAll P ops sl0 Γ hp l (putD sl o.dst v) k) → ∃ sl', holds D E ρ (k sl') ∧ ∀ d v, sl'.look d = some v → (∃ q' ∈ q :: l, dstIs ops q' d = true) ∨ sl.look d = some v := by
    intro v h
    obtain ⟨sl', h1, h2⟩ := guessAll_spec l _ h
    refine ⟨sl', h1, fun d u hd => ?_⟩
    rcases h2 d u hd with ⟨q', hq', hd'⟩ | hd
    ·exact .inl ⟨q', List.mem_cons_of_mem _ hq', hd'⟩
    ·cases hdst : o.dst with
     | none => rw [hdst] at hd; exact .inr hd
     | some t =>
      rw [hdst] at hd
      rcases Tr.look_set hd with ⟨rfl, _⟩ | ⟨_, hd⟩
      ·exact .inl ⟨q, List.mem_cons_self, dstIs_of ho hdst⟩
      ·exact .inr hd
   split at h
   ·split at h
    ·rw [putK_eq] at h; exact key _ h
    ·exact h.elim
   ·rw [putK_eq] at h; exact key _ h
   ·exact h.elim
def Yields (P : Program) (ops : Array Oper) (sl0 : Tr SC) (size : Nat) (ρ : Env) (Γ : Facts) (hp : Hp) (sl : Tr SC) (q : Nat) : Prop :=
  ∃ o, ops[q]? = some o ∧ o.dst.all (· < size) = true ∧
    ((symWanted (hide ops sl0 q sl) ops o = some (.inl true) ∧ ∃ ns v, symOpF P hp (evC (hide ops sl0 q sl)) o.op = some (.val ns v) ∧ (∀ c ∈ toShow Γ ns, c.den ρ = true) ∧ agrees sl o.dst (v.nrmF Γ) = true) ∨
      (symWanted (hide ops sl0 q sl) ops o = some (.inl false) ∧ agrees sl o.dst undefS = true))
theorem checkAll_spec {sl0 : Tr SC} {D : Env → SEx → SS → Prop} {E : Env → List Item → SS → Prop} {ρ : Env} {size : Nat} {Γ : Facts} {hp : Hp} {sl : Tr SC} {t : Tree} : ∀ (l : List Nat), holds D E ρ (checkAll P ops sl0 size Γ hp sl l t) →
  (∀ q ∈ l, Yields P ops sl0 size ρ Γ hp sl q) ∧ holds D E ρ t
 | [], h => ⟨by simp, h⟩
 | q :: l, h => by
  simp only [checkAll] at h
  split at h
  ·exact h.elim
  ·rename_i o ho
   split at h
   ·exact h.elim
   ·rename_i hd
    split at h
    ·rename_i hw
     split at h
     ·rename_i ns v hs
      split at h
      ·rename_i ha
       obtain ⟨hn, h⟩ := holds_needs h
       obtain ⟨h1, h2⟩ := checkAll_spec l h
       refine ⟨fun q' hq => ?_, h2⟩
       rcases List.mem_cons.1 hq with rfl | hq
       ·exact ⟨o, ho, hd, .inl ⟨hw, ns, v, hs, hn, ha⟩⟩
       ·exact h1 q' hq
      ·exact h.elim
     ·exact h.elim
    ·rename_i hw
     split at h
     ·rename_i ha
      obtain ⟨h1, h2⟩ := checkAll_spec l h
      refine ⟨fun q' hq => ?_, h2⟩
      rcases List.mem_cons.1 hq with rfl | hq
      ·exact ⟨o, ho, hd, .inr ⟨hw, ha⟩⟩
      ·exact h1 q' hq
     ·exact h.elim
    ·exact h.elim
theorem pend_of {past : List Nat} {q : Nat} (hq : q < ops.size) (he : effAt ops q = false) (h1 : ∀ j, j < ops.size → effAt ops j = true → (ahead ops q).testBit j = true → j ∈ past) (h2 : ∀ j ∈ past, (ahead ops j).testBit q = false) : q ∈ pendAt ops past := by
 refine List.mem_filter.2 ⟨List.mem_range.2 hq, ?_⟩
 simp only [he, Bool.not_false, Bool.true_and, Bool.and_eq_true]
 refine ⟨List.all_eq_true.2 fun j hj => ?_, List.all_eq_true.2 fun j hj => by simp [h2 j hj]⟩
 cases h3 : effAt ops j with
 | false => rfl
 | true =>
  cases h4 : (ahead ops q).testBit j with
  | false => rfl
  | true => simpa using h1 j (List.mem_range.1 hj) h3 h4
theorem merge_look {sl sl' : Tr SC} {dst : Option Tmp} {d : Nat} {v : SC} (h : (merge sl dst sl').look d = some v) : (dst = some d ∧ sl'.look d = some v) ∨ (dst ≠ some d ∧ sl.look d = some v) := by
 cases dst with
 | none => exact .inr ⟨by simp, h⟩
 | some t =>
  simp only [merge] at h
  split at h
  ·rename_i w hw
   rcases Tr.look_set h with ⟨rfl, rfl⟩ | ⟨h1, h2⟩
   ·exact .inl ⟨rfl, hw⟩
   ·exact .inr ⟨fun e => h1 (Option.some.inj e).symm, h2⟩
  ·obtain ⟨h1, h2⟩ := Tr.look_del h
   exact .inr ⟨fun e => h1 (Option.some.inj e).symm, h2⟩
theorem put_other {a : St} {dst : Option Tmp} {w : Value} {d : Nat} (h : dst ≠ some d) : (a.put dst w).tmps[d]? = a.tmps[d]? := by
 cases dst with
 | none => rfl
 | some t =>
  have : t ≠ d := fun e => h (by rw [e])
  simp only [St.put]
  rw [Array.getElem?_setIfInBounds_ne this]
theorem put_same {a : St} {w : Value} {d : Nat} (h : d < a.tmps.size) : (a.put (some d) w).tmps[d]? = some w := by
 simp only [St.put]
 rw [Array.getElem?_setIfInBounds_self_of_lt h]
theorem agrees_eq {sl : Tr SC} {d : Nat} {v w : SC} (h : agrees sl (some d) v = true) (hl : sl.look d = some w) : w = v := by
 simp only [agrees, hl] at h
 exact SC.same_eq _ _ _ h
theorem chain_all {l : List Nat} {i : Nat} (h : chainB ops (i :: l) = true) : (∀ j ∈ l, isAl ops j = false → (ahead ops j).testBit i = true) ∧ chainB ops l = true := by
 simp only [chainB, Bool.and_eq_true] at h
 refine ⟨fun j hj ha => ?_, h.2⟩
 have := List.all_eq_true.1 h.1 j hj
 simpa [ha] using this
theorem placed_mem {j q : Nat} (hq : q < ops.size) (he : (effAt ops q && !isBs ops q) = false) (ha : isAl ops j = true) (hj : (ahead ops q).testBit j = true) : ∀ {l past : List Nat}, placedB ops past l = true → j ∈ l → ∀ e ∈ past, (ahead ops q).testBit e = true
 | [], _, _, h, _, _ => by cases h
 | i :: l, past, hp, h, e, hin => by
  simp only [placedB, Bool.and_eq_true] at hp
  rcases List.mem_cons.1 h with rfl | h
  ·have h1 := hp.1
   simp only [ha, Bool.not_true, Bool.false_or] at h1
   have h2 := List.all_eq_true.1 h1 q (List.mem_range.2 hq)
   simp only [he, hj, Bool.not_true, Bool.false_or] at h2
   exact List.all_eq_true.1 h2 e hin
  ·exact placed_mem hq he ha hj hp.2 h e (List.mem_cons_of_mem _ hin)
theorem mem_placeE {j : Nat} : ∀ {es as : List Nat}, j ∈ placeE ops es as ↔ j ∈ es ∨ j ∈ as
 | [], as => by simp [placeE]
 | e :: es, as => by
  simp only [placeE, List.mem_append, List.mem_cons, List.mem_filter, mem_placeE (es := es), Bool.not_eq_true']
  cases hb : (ahead ops e).testBit j <;> simp <;> grind
theorem nodup_placeE : ∀ {es as : List Nat}, es.Nodup → as.Nodup → (∀ j ∈ es, j ∉ as) → (placeE ops es as).Nodup
 | [], as, _, h, _ => h
 | e :: es, as, h1, h2, h3 => by
  obtain ⟨h4, h5⟩ := List.nodup_cons.1 h1
  simp only [placeE]
  rw [List.nodup_append]
  refine ⟨h2.filter _, List.nodup_cons.2 ⟨fun h => ?_, nodup_placeE h5 (h2.filter _) fun j hj h => h3 j (List.mem_cons_of_mem _ hj) (List.mem_filter.1 h).1⟩, fun a ha b hb e' => ?_⟩
  ·rcases mem_placeE.1 h with h | h
   ·exact h4 h
   ·exact h3 e List.mem_cons_self (List.mem_filter.1 h).1
  ·subst e'
   obtain ⟨k1, k2⟩ := List.mem_filter.1 ha
   rcases List.mem_cons.1 hb with rfl | hb
   ·exact h3 _ List.mem_cons_self k1
   ·rcases mem_placeE.1 hb with hb | hb
    ·exact h3 a (List.mem_cons_of_mem _ hb) k1
    ·have := (List.mem_filter.1 hb).2
     simp [k2] at this
theorem isAl_iff {i : Nat} (h : isAl ops i = true) : ∃ o, ops[i]? = some o ∧ ((∃ t, o.op = .alloc t) ∨ (o.guard = none ∧ ∃ t n ps, o.op = .buildSlice t n ps)) := by
 unfold isAl at h
 split at h
 ·rename_i o ho
  split at h
  ·rename_i t ht; exact ⟨o, ho, .inl ⟨t, ht⟩⟩
  ·rename_i t n ps ht; exact ⟨o, ho, .inr ⟨by simpa using h, t, n, ps, ht⟩⟩
  ·cases h
 ·cases h
theorem isAl_eff {i : Nat} (h : isAl ops i = true) : effAt ops i = true := by
 obtain ⟨o, ho, ⟨t, ht⟩ | ⟨_, t, n, ps, ht⟩⟩ := isAl_iff h <;> simp [effAt, ho, ht, quietOp]
theorem isBs_of {i : Nat} {o : Oper} {t : TypeId} {n : Nat} {ps : Array (Nat × Operand)} (ho : ops[i]? = some o) (hop : o.op = .buildSlice t n ps) (hg : o.guard = none) : isBs ops i = true := by
 simp [isBs, ho, hop, hg]
theorem sBuildSlice_shape {t : TypeId} {n : Nat} {l : Option (List (Nat × SC))} {e : Eff} (h : sBuildSlice P t n l = some e) : ∃ so, e = .fresh [] so (.slice n n) ∧ ∃ l', l = some l' := by
 unfold sBuildSlice at h
 split at h
 ·split at h
  ·unfold sBuildNone at h
   split at h
   ·simp only [Option.some.injEq] at h; subst h; exact ⟨_, rfl, _, rfl⟩
   ·cases h
  ·cases h
 ·unfold sBuildSome at h
  split at h
  ·split at h
   ·split at h
    ·split at h
     ·simp only [Option.some.injEq] at h; subst h; exact ⟨_, rfl, _, rfl⟩
     ·cases h
    ·cases h
   ·cases h
  ·cases h
theorem sBuildSome_inv {t : TypeId} {n : Nat} {l : List (Nat × SC)} {so : SO} (h : sBuildSome P t n (some l) = some (.fresh [] so (.slice n n))) :
  ∃ e sz zs c, P.underlying t = some (.slice e) ∧ sizeT P e = some sz ∧ zeroCells P e = some zs ∧ symFill (fun i => some (i * sz, sz)) (zeroRow zs (n * sz)) l = some c ∧ so = .cells c e := by
 unfold sBuildSome at h
 split at h
 ·rename_i e l' hu hl
  simp only [Option.some.injEq] at hl; subst hl
  split at h
  ·rename_i sz zs hs hz
   split at h
   ·split at h
    ·rename_i c hc
     simp only [Option.some.injEq, Eff.fresh.injEq] at h
     exact ⟨e, sz, zs, c, hu, hs, hz, hc, h.2.1.symm⟩
    ·cases h
   ·cases h
  ·cases h
 ·cases h
theorem sBuildSlice_inv {t : TypeId} {n : Nat} {l : List (Nat × SC)} {so : SO} (h : sBuildSlice P t n (some l) = some (.fresh [] so (.slice n n))) :
  (n = 0 ∧ l = []) ∨ ((n = 0 → l ≠ []) ∧ sBuildSome P t n (some l) = some (.fresh [] so (.slice n n))) := by
 unfold sBuildSlice at h
 split at h
 ·rename_i hl
  simp only [Option.some.injEq] at hl
  exact .inl ⟨rfl, hl⟩
 ·rename_i hne
  exact .inr ⟨fun hn hl => hne hn (by rw [hl]), h⟩
theorem sBuildSlice_same {ρ : Env} (hv : vals ρ) {t : TypeId} {n : Nat} {l l' : List (Nat × SC)} {so so' : SO} (hl : l.map (fun x => (x.1, x.2.den ρ)) = l'.map fun x => (x.1, x.2.den ρ))
  (h : sBuildSlice P t n (some l) = some (.fresh [] so (.slice n n))) (h' : sBuildSlice P t n (some l') = some (.fresh [] so' (.slice n n))) : so.den ρ = so'.den ρ := by
 have hnil : l = [] ↔ l' = [] := by
  constructor
  ·intro e; subst e; simpa using hl.symm
  ·intro e; subst e; simpa using hl
 rcases sBuildSlice_inv h with ⟨h1, h2⟩ | ⟨h1, h2⟩
 ·have h3 := hnil.1 h2
  subst h2 h3
  rw [h] at h'
  simp only [Option.some.injEq, Eff.fresh.injEq] at h'
  rw [h'.2.1]
 ·rcases sBuildSlice_inv h' with ⟨h3, h4⟩ | ⟨h3, h4⟩
  ·exact absurd (hnil.2 h4) (h1 h3)
  ·obtain ⟨e, sz, zs, c, k1, k2, k3, k4, rfl⟩ := sBuildSome_inv h2
   obtain ⟨e', sz', zs', c', k1', k2', k3', k4', rfl⟩ := sBuildSome_inv h4
   rw [k1] at k1'; cases k1'
   rw [k2] at k2'; cases k2'
   rw [k3] at k3'; cases k3'
   have f1 := fill_den hv _ _ _ _ k4
   have f2 := fill_den hv _ _ _ _ k4'
   rw [hl, f2] at f1
   simp only [Option.some.injEq] at f1
   simp only [SO.den, f1]
theorem sBuildSlice_ok {ρ : Env} {S0 : Own} (hv : vals ρ) {t : TypeId} {n : Nat} {l : List (Nat × SC)} {so : SO} (h : sBuildSlice P t n (some l) = some (.fresh [] so (.slice n n))) (hl : ∀ x ∈ l, x.2.ok ρ.k.length) : so.ok ρ.k.length := by
 unfold sBuildSlice at h
 split at h
 ·split at h
  ·unfold sBuildNone at h
   split at h
   ·simp only [Option.some.injEq, Eff.fresh.injEq] at h
    rw [← h.2.1]
    intro x hx; cases hx
   ·cases h
  ·cases h
 ·obtain ⟨e, sz, zs, c, k1, k2, k3, k4, rfl⟩ := sBuildSome_inv h
  exact fill_ok _ _ _ _ k4 hl (zeroRow_ok ((zeroCells_run (S0 := S0) hv k3).1 _))
theorem evParts_on {ρ : Env} {ev : Operand → Option SC} {ev' : Operand → Value} : ∀ (ps : List (Nat × Operand)) (l : List (Nat × SC)), (∀ p ∈ ps, ∀ v, ev p.2 = some v → v.ok ρ.k.length ∧ ev' p.2 = v.den ρ) → evParts ev ps = some l →
  (ps.map (fun x => (x.1, ev' x.2)) = l.map fun x => (x.1, x.2.den ρ)) ∧ ∀ x ∈ l, x.2.ok ρ.k.length
 | [], l, _, h => by simp only [evParts, Option.some.injEq] at h; subst h; exact ⟨rfl, by simp⟩
 | (i, x) :: ps, l, he, h => by
  simp only [evParts] at h
  split at h
  ·rename_i v r hx hr
   simp only [Option.some.injEq] at h; subst h
   obtain ⟨h1, h2⟩ := evParts_on ps r (fun p hp => he p (List.mem_cons_of_mem _ hp)) hr
   obtain ⟨h3, h4⟩ := he (i, x) List.mem_cons_self v hx
   refine ⟨by simp only [List.map_cons, h1]; rw [h4], fun y hy => ?_⟩
   rcases List.mem_cons.1 hy with rfl | hy
   ·exact h3
   ·exact h2 y hy
  ·cases h
def Made (P : Program) (ρ : Env) (a : St) (o : Oper) (so : SO) (w : Way) : Prop :=
 (∃ t, o.op = .alloc t ∧ sAlloc P t = some (.fresh [] so .ptr) ∧ w = .ptr) ∨
 (∃ t n ps l, o.op = .buildSlice t n ps ∧ sBuildSlice P t n (some l) = some (.fresh [] so (.slice n n)) ∧ w = .slice n n ∧ (∀ x ∈ l, x.2.ok ρ.k.length) ∧ ps.toList.map (fun x => (x.1, a.eval x.2)) = l.map fun x => (x.1, x.2.den ρ))
theorem Made.later {ρ ρ' : Env} {a a' : St} {o : Oper} {so : SO} {w : Way} (h : Made P ρ a o so w) (he : Ext ρ ρ') (ha : ∀ t n ps, o.op = .buildSlice t n ps → ∀ x ∈ ps.toList, a'.eval x.2 = a.eval x.2) : Made P ρ' a' o so w := by
 rcases h with h | ⟨t, n, ps, l, h1, h2, h3, h4, h5⟩
 ·exact .inl h
 ·refine .inr ⟨t, n, ps, l, h1, h2, h3, fun x hx => SC.ok_mono he.len _ (h4 x hx), ?_⟩
  have e1 : ps.toList.map (fun x => (x.1, a'.eval x.2)) = ps.toList.map (fun x => (x.1, a.eval x.2)) := List.map_congr_left fun x hx => by rw [ha t n ps h1 x hx]
  have e2 : l.map (fun x => (x.1, x.2.den ρ')) = l.map (fun x => (x.1, x.2.den ρ)) := List.map_congr_left fun x hx => by rw [SC.den_ext he (h4 x hx)]
  rw [e1, e2]; exact h5
theorem Made.isAl {ρ : Env} {a : St} {o : Oper} {so : SO} {w : Way} {j : Nat} (h : Made P ρ a o so w) (ho : ops[j]? = some o) (hg : o.guard = none) : Mw.isAl ops j = true := by
 rcases h with ⟨t, h1, _⟩ | ⟨t, n, ps, l, h1, _⟩ <;> simp [Mw.isAl, ho, h1, hg]
theorem eval_put {a : St} {dst : Option Tmp} {w : Value} {x : Operand} (h : ∀ t, x = .tmp t → dst ≠ some t) : (a.put dst w).eval x = a.eval x := by
 cases x with
 | tmp t =>
  have := put_other (a := a) (w := w) (h t rfl)
  simp only [St.eval, Array.getD_eq_getD_getElem?, this]
 | _ => rfl
theorem eval_tmps {a a' : St} (h : a'.tmps = a.tmps) (x : Operand) : a'.eval x = a.eval x := by cases x <;> simp [St.eval, h]
theorem Part.known {ρ : Env} {done : List Nat} {sl0 sl : Tr SC} {a : St} (h : Part ρ ops done sl a) (h0 : Old ρ ops done sl0 a) (ht : textual ops = true) (hD : Down ops done) {i : Nat} (hp : ∀ o, ops[i]? = some o → ∀ x ∈ predsOf o, x ∈ done) {t : Nat} {v : SC} (hs : Mw.seen ops i t = true) (hl : (hide ops sl0 i sl).look t = some v) : v.ok ρ.k.length ∧ a.tmps[t]? = some (v.den ρ) := by
 rcases hide_look hl with ⟨_, h1⟩ | ⟨h2, h1⟩
 ·rcases h t v h1 with ⟨j, hj, hjd⟩ | h
  ·exact absurd (ahead_done ht (seen_of hs hjd) hD hp) hj
  ·exact h
 ·rcases h0 t v h1 with ⟨j, hj, hjd⟩ | h
  ·obtain ⟨m1, g1, b1⟩ := ahead_lt ht (seen_of hs hjd)
   obtain ⟨m2, g2, b2⟩ := ahead_lt ht (later_of h2 hjd)
   exact absurd (Nat.lt_trans (g1 j b1).1 (g2 i b2).1) (Nat.lt_irrefl _)
  ·exact h
theorem knows_nil {ρ : Env} {a : St} : Knows ρ .nil a := fun d v h => by rw [Tr.nil_look] at h; cases h
theorem Part.evOn {ρ : Env} {done : List Nat} {sl0 sl : Tr SC} {a : St} (h : Part ρ ops done sl a) (h0 : Old ρ ops done sl0 a) (ht : textual ops = true) (hD : Down ops done) {i : Nat} (hp : ∀ o, ops[i]? = some o → ∀ x ∈ predsOf o, x ∈ done) {ps : List (Nat × Operand)} (hs : ∀ x ∈ ps, ∀ t, x.2 = .tmp t → Mw.seen ops i t = true) :
  ∀ p ∈ ps, ∀ v, evC (hide ops sl0 i sl) p.2 = some v → v.ok ρ.k.length ∧ a.eval p.2 = v.den ρ := by
 rintro ⟨n, x⟩ hx v hv
 cases x with
 | tmp t =>
  obtain ⟨h1, h2⟩ := h.known h0 ht hD hp (hs _ hx t rfl) hv
  exact ⟨h1, by simp [St.eval, h2]⟩
 | const c => exact evC_ok (sl := .nil) knows_nil (.const c) v hv
 | global g => exact evC_ok (sl := .nil) knows_nil (.global g) v hv
 | func f => exact evC_ok (sl := .nil) knows_nil (.func f) v hv
theorem effsOf_mem {j : Nat} : j ∈ effsOf ops ↔ j < ops.size ∧ effAt ops j = true := by
 unfold effsOf
 rw [mem_placeE]
 simp only [List.mem_filter, List.mem_range, Bool.and_eq_true, Bool.not_eq_true']
 constructor
 ·rintro (⟨h1, h2, _⟩ | ⟨h1, h2⟩)
  ·exact ⟨h1, h2⟩
  ·exact ⟨h1, isAl_eff h2⟩
 ·rintro ⟨h1, h2⟩
  cases ha : isAl ops j with
  | false => exact .inl ⟨h1, h2, rfl⟩
  | true => exact .inr ⟨h1, rfl⟩
theorem effsOf_nodup : (effsOf ops).Nodup := by
 refine nodup_placeE (List.nodup_range.filter _) (List.nodup_range.filter _) fun j hj h => ?_
 have h1 := (List.mem_filter.1 hj).2
 have h2 := (List.mem_filter.1 h).2
 simp [h2] at h1
theorem dropA_look : ∀ (l : List Nat) (sl : Tr SC) {d : Nat} {v : SC}, (dropA ops l sl).look d = some v → sl.look d = some v ∧ ∀ i ∈ l, dstIs ops i d = false
 | [], sl, d, v, h => ⟨h, by simp⟩
 | i :: l, sl, d, v, h => by
  unfold dropA at h
  rw [List.foldl_cons] at h
  obtain ⟨h1, h2⟩ := dropA_look l _ h
  have key : sl.look d = some v ∧ dstIs ops i d = false := by
   cases ho : ops[i]? with
   | none => rw [ho] at h1; exact ⟨h1, by simp [dstIs, ho]⟩
   | some o =>
    rw [ho] at h1
    simp only at h1
    cases hd : o.dst with
    | none => rw [hd] at h1; exact ⟨h1, by simp [dstIs, ho, hd]⟩
    | some t =>
     rw [hd] at h1
     obtain ⟨h3, h4⟩ := Tr.look_del h1
     refine ⟨h4, ?_⟩
     simp only [dstIs, ho, hd]
     cases hb : Nat.beq t d with
     | false => rfl
     | true => exact absurd (Nat.eq_of_beq_eq_true hb).symm h3
  refine ⟨key.1, fun j hj => ?_⟩
  rcases List.mem_cons.1 hj with rfl | hj
  ·exact key.2
  ·exact h2 j hj
theorem Old.put {ρ ρ' : Env} {done : List Nat} {sl0 : Tr SC} {a a' : St} {i : Nat} {o : Oper} {w : Value} (h : Old ρ ops done sl0 a) (he : Ext ρ ρ') (ho : ops[i]? = some o) (ha : a'.tmps = (a.put o.dst w).tmps) : Old ρ' ops (i :: done) sl0 a' := by
 intro d v hd
 by_cases e : o.dst = some d
 ·exact .inl ⟨i, List.mem_cons_self, dstIs_of ho e⟩
 ·rcases h d v hd with ⟨j, hj, hjd⟩ | ⟨h1, h2⟩
  ·exact .inl ⟨j, List.mem_cons_of_mem _ hj, hjd⟩
  ·exact .inr ⟨SC.ok_mono he.len _ h1, by rw [ha, put_other e, h2, SC.den_ext he h1]⟩
structure Midway (ops : Array Oper) (done past effs : List Nat) (early : Nat → Option Nat) : Prop where
 hdown : Down ops done
 hpast : ∀ j ∈ past, j ∈ done
 heffs : ∀ j ∈ effs, (j ∉ done ∨ (early j).isSome = true) ∧ j < ops.size ∧ effAt ops j = true
 hall : ∀ j, j < ops.size → effAt ops j = true → j ∈ past ∨ j ∈ effs
 hchain : chainB ops effs = true
 hplaced : placedB ops past effs = true
 hnodup : effs.Nodup
 hquiet : ∀ q ∈ done, effAt ops q = false → ∀ j, j < ops.size → effAt ops j = true → (ahead ops q).testBit j = true → j ∈ past
 hdisj : ∀ j ∈ effs, j ∉ past
theorem SO.den_ext {ρ ρ' : Env} (h : Ext ρ ρ') {o : SO} (ho : o.ok ρ.k.length) : o.den ρ' = o.den ρ :=
 Ext.ind (p := fun ρ' => o.den ρ' = o.den ρ) rfl (fun ρ' b r he ih => by rw [SO.den_grow o (SO.ok_mono he.len ho), ih]) ρ' h
structure Held (P : Program) (ops : Array Oper) (ρ : Env) (F F' : Own) (early : Nat → Option Nat) (a : St) (done effs : List Nat) (size : Nat) : Prop where
 le : ∀ b o, F.full b = some o → F'.full b = some o
 ro : F'.ro = F.ro
 each : ∀ i b, early i = some b → i ∈ done ∧ i ∈ effs ∧ F.full b = none ∧ ∃ o so w d, ops[i]? = some o ∧ Made P ρ a o so w ∧ o.guard = none ∧ o.dst = some d ∧ d < size ∧ so.ok ρ.k.length ∧ F'.full b = some (so.den ρ) ∧ a.tmps[d]? = some (w.val b)
 inj : ∀ i j b, early i = some b → early j = some b → i = j
theorem Sat.weaken {ρ : Env} {hp : Hp} {F F' S : Own} (h : Sat ρ hp F' S) (hl : ∀ b o, F.full b = some o → F'.full b = some o) (hr : F'.ro = F.ro) : Sat ρ hp F S where
 has := h.has
 hro := h.hro
 inj := h.inj
 frm b o hb := h.frm b o (hl b o hb)
 apart i o hi := by
  cases hf : F.full (ρ.blk i) with
  | none => rfl
  | some x => rw [← h.apart i o hi, hl _ _ hf]
 ro b o hb := h.ro b o (by rw [hr]; exact hb)
 gh := h.gh
 dis := h.dis
 ghok := h.ghok
 lent i hi := by rw [← hr]; exact h.lent i hi
 linj := h.linj
 rinj := h.rinj
 lnd := h.lnd
 frz := SGh.zOk_of h.frz (Nat.le_refl _) (fun _ _ => rfl) fun x o h1 h2 h3 => by
  have h4 : F.full x = none := by
   cases hf : F.full x with
   | none => rfl
   | some y => rw [hl _ _ hf] at h2; cases h2
  exact ⟨h1, h4, h3⟩
theorem Fit.weaken {size : Nat} {ρ : Env} {σ : SS} {F F' S : Own} {a : St} (h : Fit size F' ρ σ a S) (hl : ∀ b o, F.full b = some o → F'.full b = some o) (hr : F'.ro = F.ro) : Fit size F ρ σ a S :=
 ⟨h.size, h.df, h.dfok, h.cm, h.cmok, h.sl, h.hp.weaken hl hr⟩
theorem Sat.aside {ρ : Env} {hp : Hp} {F S : Own} {b : Nat} {o : Obj} (h : Sat ρ hp F S) (hb : S.full b = none) (hr : S.ro b = none) : Sat ρ hp (F.set b o) (S.set b o) where
 has i x hi := by
  obtain ⟨h1, h2, h3⟩ := h.has i x hi
  refine ⟨h1, h2, ?_⟩
  rw [Own.set_full, if_neg (fun e => by rw [e, hb] at h3; cases h3)]; exact h3
 hro := h.hro
 inj := h.inj
 frm x ob hx := by
  rw [Own.set_full] at hx ⊢
  split at hx
  ·rename_i e; rw [if_pos e]; exact hx
  ·rename_i e; rw [if_neg e]; exact h.frm x ob hx
 apart i x hi := by
  obtain ⟨h1, h2, h3⟩ := h.has i x hi
  rw [Own.set_full, if_neg (fun e => by rw [e, hb] at h3; cases h3)]; exact h.apart i x hi
 ro := h.ro
 gh := h.gh
 ghok := h.ghok
 lent := h.lent
 linj := h.linj
 rinj := h.rinj
 lnd := h.lnd
 frz := SGh.zOk_of h.frz (Nat.le_refl _) (fun _ _ => rfl) fun x ob h1 h2 h3 => by
  have hx : x ≠ b := fun e => by rw [e, hb] at h1; cases h1
  exact ⟨by rw [Own.set_full, if_neg hx]; exact h1, by rw [Own.set_full, if_neg hx]; exact h2, h3⟩
 dis x hx := by
  rw [Own.set_full] at hx
  show S.ro x = none
  split at hx
  ·rename_i e; subst e; exact hr
  ·exact h.dis x hx
theorem Sat.adopt {ρ : Env} {hp : Hp} {F F' S : Own} {b : Nat} {o : SO} (h : Sat ρ hp F' S) (hb : F'.full b = some (o.den ρ)) (ho : o.ok ρ.k.length) (hn : F.full b = none) (hl : ∀ x ob, F.full x = some ob → F'.full x = some ob) (hr : F'.ro = F.ro) :
  Sat (ρ.grow b []) { hp with rw := hp.rw.set ρ.k.length o } F S := by
 have hg := h.grow (b := b) (r := [])
 have hne : ∀ j u, hp.rw.look j = some u → (ρ.grow b []).blk j ≠ b := fun j u hj e => by
  have := hg.apart j u hj
  rw [e, hb] at this; cases this
 exact {
  has := fun j u hj => by
   rcases Tr.look_set hj with ⟨rfl, rfl⟩ | ⟨e, hj⟩
   ·refine ⟨by simp, (by rw [len_grow]; exact SO.ok_mono (Nat.le_succ _) ho), ?_⟩
    rw [blk_new, SO.den_grow _ ho]
    exact h.frm b _ hb
   ·exact hg.has j u hj
  hro := fun j u hj => hg.hro j u hj
  inj := fun j j' u u' hj hj' e => by
   rcases Tr.look_set hj with ⟨rfl, _⟩ | ⟨_, hj⟩ <;> rcases Tr.look_set hj' with ⟨rfl, _⟩ | ⟨_, hj'⟩
   ·rfl
   ·rw [blk_new] at e; exact absurd e.symm (hne _ _ hj')
   ·rw [blk_new] at e; exact absurd e (hne _ _ hj)
   ·exact hg.inj _ _ _ _ hj hj' e
  frm := fun x ob hx => hg.frm x ob (hl x ob hx)
  apart := fun j u hj => by
   rcases Tr.look_set hj with ⟨rfl, _⟩ | ⟨_, hj⟩
   ·rw [blk_new]; exact hn
   ·cases hf : F.full ((ρ.grow b []).blk j) with
    | none => rfl
    | some x => rw [← hg.apart j u hj, hl _ _ hf]
  ro := fun x ob hx => hg.ro x ob (by rw [hr]; exact hx)
  gh := hg.gh
  dis := hg.dis
  ghok := hg.ghok
  lent := fun i hi => by rw [← hr]; exact hg.lent i hi
  linj := hg.linj
  rinj := hg.rinj
  lnd := hg.lnd
  frz := SGh.zOk_of hg.frz (Nat.le_refl _) (fun _ _ => rfl) fun x ob h1 h2 h3 => by
   have hx : b ≠ x := fun e => by rw [← e, hb] at h2; cases h2
   have h4 : F.full x = none := by
    cases hf : F.full x with
    | none => rfl
    | some y => rw [hl _ _ hf] at h2; cases h2
   exact ⟨h1, h4, fun j u hj => by
    rcases Tr.look_set hj with ⟨rfl, _⟩ | ⟨_, hj⟩
    ·rw [blk_new]; exact hx
    ·exact h3 j u hj⟩ }
theorem allocsOk_at {size i : Nat} {o : Oper} {t : TypeId} (h : allocsOk P ops size = true) (ho : ops[i]? = some o) (hop : o.op = .alloc t) : o.guard = none ∧ (∃ d, o.dst = some d ∧ d < size) ∧ ∃ so, sAlloc P t = some (.fresh [] so .ptr) := by
 have h1 := List.all_eq_true.1 h i (List.mem_range.2 (getOp_lt ho))
 simp only [ho, hop, Bool.and_eq_true] at h1
 obtain ⟨⟨h2, h3⟩, h4⟩ := h1
 refine ⟨by simpa using h2, ?_, ?_⟩
 ·split at h3
  ·rename_i d hd; exact ⟨d, hd, Nat.le_of_ble_eq_true h3⟩
  ·cases h3
 ·split at h4
  ·rename_i so hs; exact ⟨so, hs⟩
  ·cases h4
theorem allocsOk_bs {size i : Nat} {o : Oper} {t : TypeId} {n : Nat} {ps : Array (Nat × Operand)} (h : allocsOk P ops size = true) (ho : ops[i]? = some o) (hop : o.op = .buildSlice t n ps) (hg : o.guard = none) :
  (∃ d, o.dst = some d ∧ d < size) ∧ ∀ x ∈ ps.toList, ∀ t, x.2 = .tmp t → seen ops i t = true := by
 have h1 := List.all_eq_true.1 h i (List.mem_range.2 (getOp_lt ho))
 simp only [ho, hop, hg, Option.isNone_none, Bool.not_true, Bool.false_or, Bool.and_eq_true] at h1
 obtain ⟨h3, h4⟩ := h1
 refine ⟨?_, fun x hx t hxt => ?_⟩
 ·split at h3
  ·rename_i d hd; exact ⟨d, hd, Nat.le_of_ble_eq_true h3⟩
  ·cases h3
 ·have := List.all_eq_true.1 h4 x hx
  rw [hxt] at this
  exact this
variable {inl : FuncId → Bool} {opx : Opx} {ex : Run_} {call : Call_} {D : Env → SEx → SS → Prop} {E : Env → List Item → SS → Prop}
def stageNow (P : Program) (ops : Array Oper) (sl0 : Tr SC) (opx : Opx) (ex : Run_) (call : Call_) (C : Cx) (tail : List Item) (k : Kont) (effs past : List Nat) (Γ : Facts) (σ : SS) (sl : Tr SC) (nk : Nat) : Tree := match effs with
 | [] => ex C Γ tail (σ.withSl sl) nk k
 | i :: effs => match ops[i]? with
  | none => .bad
  | some o => match symWanted (hide ops sl0 i sl) ops o with
   | some (.inl true) => opx (fun _ Γ _ σ' nk _ => stages P ops sl0 opx ex call C tail k effs (i :: past) (some i) Γ (σ'.withSl (merge sl o.dst σ'.sl)) nk) call (roundF P ex) { C with top := false } Γ [] ops [] o [] (σ.withSl (hide ops sl0 i sl)) nk k
   | some (.inl false) => match o.dst.all (· < C.size) with
    | true => stages P ops sl0 opx ex call C tail k effs (i :: past) (some i) Γ (σ.withSl (putD sl o.dst undefS)) nk
    | false => .bad
   | _ => .bad
structure Mids (P : Program) (ops : Array Oper) (sl0 : Tr SC) (opx : Opx) (ex : Run_) (call : Call_) (C : Cx) (tail : List Item) (k : Kont) (D : Env → SEx → SS → Prop) (E : Env → List Item → SS → Prop) (F : Own)
  (done past effs : List Nat) (early : Nat → Option Nat) (F' : Own) (Γ : Facts) (σ : SS) (sl : Tr SC) (ρ : Env) (a : St) (S : Own) : Prop where
 mid : Midway ops done past effs early
 vals : vals ρ
 facts : Γ.On ρ
 part : Part ρ ops done sl a
 old : Old ρ ops done sl0 a
 fit : Fit C.size F' ρ { σ with sl := .nil } a S
 held : Held P ops ρ F F' early a done effs C.size
 free : ∀ j ∈ effs, isAl ops j = true → ∀ d v, dstIs ops j d = true → sl.look d ≠ some v
 yields : ∀ q ∈ pendAt ops past, Yields P ops sl0 C.size ρ Γ σ.hp sl q
 makes : ∀ q ∈ makesAt ops past, ∃ o e, ops[q]? = some o ∧ symOpF P σ.hp (evC (hide ops sl0 q sl)) o.op = some e
 now : holds D E ρ (stageNow P ops sl0 opx ex call C tail k effs past Γ σ sl ρ.k.length)
section
variable {sl0 : Tr SC} {C : Cx} {tail : List Item} {k : Kont} {F : Own}
theorem Mids.next (hn : nodupB (dsts ops) = true) (ht : textual ops = true) {done past effs : List Nat} {last : Option Nat} {early : Nat → Option Nat} {F' : Own} {Γ : Facts} {σ : SS} {sl : Tr SC} {ρ : Env} {a : St} {S : Own}
  (hm : Midway ops done past effs early) (hv : Mw.vals ρ) (hΓ : Γ.On ρ) (hp : Part ρ ops done sl a) (h0 : Old ρ ops done sl0 a) (hf : Fit C.size F' ρ { σ with sl := .nil } a S) (hh : Held P ops ρ F F' early a done effs C.size)
  (hfree : ∀ j ∈ effs, isAl ops j = true → ∀ d v, dstIs ops j d = true → sl.look d ≠ some v) (hnews : ∀ q ∈ newsAt ops past last, q ∉ done)
  (h : holds D E ρ (stages P ops sl0 opx ex call C tail k effs past last Γ (σ.withSl sl) ρ.k.length)) :
  ∃ sl2, Mids P ops sl0 opx ex call C tail k D E F done past effs early F' Γ σ sl2 ρ a S := by
 unfold stages at h
 obtain ⟨sl2, h1, h2⟩ := guessAll_spec _ _ h
 split at h1
 ·exact h1.elim
 rename_i hmk
 obtain ⟨hy2, h3⟩ := checkAll_spec _ h1
 rw [SS.withSl_eq] at hy2 h2 hmk
 refine ⟨sl2, hm, hv, hΓ, fun d v hd => ?_, h0, hf, hh, fun j hj ha d v hd hl => ?_, hy2, fun q hq => ?_, ?_⟩
 ·rcases h2 d v hd with ⟨q, hq, hqd⟩ | hd
  ·exact .inl ⟨q, hnews q hq, hqd⟩
  ·exact hp d v hd
 ·rcases h2 d v hl with ⟨q, hq, hqd⟩ | hl
  ·have := dst_uniq hn hd hqd
   subst this
   have h4 := (List.mem_filter.1 (List.mem_filter.1 hq).1).2
   simp only [isAl_eff ha, Bool.not_true, Bool.false_and] at h4
   exact Bool.false_ne_true h4
  ·exact hfree j hj ha d v hd hl
 ·have h4 := List.all_eq_true.1 hmk q hq
  split at h4
  ·rename_i o ho
   obtain ⟨e, he⟩ := Option.isSome_iff_exists.1 h4
   exact ⟨o, e, ho, he⟩
  ·cases h4
 ·unfold stageNow
  simp only [SS.withSl_eq] at h3 ⊢
  exact h3
theorem news_later (ht : textual ops = true) {done : List Nat} (hD : Down ops done) {i q : Nat} {past : List Nat} (hnd : i ∉ done) (hq : q ∈ newsAt ops past (some i)) : q ∉ i :: done := by
 intro hx
 have hq2 := (List.mem_filter.1 hq).2
 simp only at hq2
 rcases List.mem_cons.1 hx with rfl | hx
 ·obtain ⟨m, hg, hjj⟩ := ahead_lt ht hq2
  exact absurd (hg q hjj).1 (Nat.lt_irrefl q)
 ·exact hnd (ahead_done ht hq2 hD fun oq hoq x hx' => hD q hx oq hoq x hx')
theorem Mids.settle (hox : OpxOk P main opx) (hn : nodupB (dsts ops) = true) (ht : textual ops = true) (hal : allocsOk P ops C.size = true) : ∀ {effs done past : List Nat} {early : Nat → Option Nat} {F' : Own} {Γ : Facts} {σ : SS} {sl : Tr SC} {ρ : Env} {a : St} {S : Own},
  Mids P ops sl0 opx ex call C tail k D E F done past effs early F' Γ σ sl ρ a S → ∃ past2 effs2 early2 F2 Γ2 σ2 sl2 ρ2, Ext ρ ρ2 ∧ Mids P ops sl0 opx ex call C tail k D E F done past2 effs2 early2 F2 Γ2 σ2 sl2 ρ2 a S ∧ ∀ i l, effs2 = i :: l → early2 i = none
 | [], done, past, early, F', Γ, σ, sl, ρ, a, S, h => ⟨past, [], early, F', Γ, σ, sl, ρ, Ext.refl ρ, h, by simp⟩
 | i :: effs, done, past, early, F', Γ, σ, sl, ρ, a, S, h => by
  cases he : early i with
  | none => exact ⟨past, i :: effs, early, F', Γ, σ, sl, ρ, Ext.refl ρ, h, fun j l e => by cases e; exact he⟩
  | some b =>
   obtain ⟨hid, _, hFb, o, so0, w, d, ho, hmade, hg, hdst, hdlt, hso0, hF'b0, had⟩ := h.held.each i b he
   have hnow := h.now
   simp only [stageNow, ho] at hnow
   have hw : symWanted (hide ops sl0 i sl) ops o = some (.inl true) := by simp only [symWanted, hg]
   rw [hw] at hnow
   simp only at hnow
   obtain ⟨inl0, hal0⟩ := hox.alloc
   have hkind : (∃ t, o.op = .alloc t) ∨ ∃ t n ps, o.op = .buildSlice t n ps := by
    rcases hmade with ⟨t, k1, _⟩ | ⟨t, n, ps, l, k1, _⟩
    ·exact .inl ⟨t, k1⟩
    ·exact .inr ⟨t, n, ps, k1⟩
   rw [hal0 _ _ _ _ _ _ _ _ _ _ _ _ _ hkind] at hnow
   unfold stepOp at hnow
   have hd1 : o.dst.all (· < ({ C with top := false } : Cx).size) = true := by simp [hdst, hdlt]
   have hkey : ∃ so, so.den ρ = so0.den ρ ∧ so.ok ρ.k.length ∧ symOpF P (σ.withSl (hide ops sl0 i sl)).hp (evC (σ.withSl (hide ops sl0 i sl)).sl) o.op = some (.fresh [] so w) := by
    rcases hmade with ⟨t, hop, hsa, rfl⟩ | ⟨t, n, ps, l, hop, hsb, rfl, hlok, hleq⟩
    ·exact ⟨so0, rfl, hso0, by rw [symOpF_eq, hop]; exact hsa⟩
    ·cases hs : symOpF P (σ.withSl (hide ops sl0 i sl)).hp (evC (σ.withSl (hide ops sl0 i sl)).sl) o.op with
     | none =>
      rw [hd1, hs] at hnow
      simp only [hop, stuck_] at hnow
      exact hnow.elim
     | some e =>
      have hs2 := hs
      rw [symOpF_eq, hop] at hs2
      simp only [symOp, SS.withSl_eq] at hs2
      obtain ⟨so, rfl, l', hl'⟩ := sBuildSlice_shape hs2
      rw [hl'] at hs2
      obtain ⟨e1, e2⟩ := evParts_on _ _ (h.part.evOn h.old ht h.mid.hdown (fun oi hoi x hx => h.mid.hdown i hid oi hoi x hx) (allocsOk_bs hal ho hop hg).2) hl'
      exact ⟨so, sBuildSlice_same h.vals (by rw [← e1, hleq]) hs2 hsb, sBuildSlice_ok (S0 := S) h.vals hs2 e2, rfl⟩
   obtain ⟨so, hden, hso, hsym⟩ := hkey
   have hF'b : F'.full b = some (so.den ρ) := by rw [hden]; exact hF'b0
   rw [hd1, hsym] at hnow
   simp only [applyEff, putK_eq, Hp.setK_eq, SS.withSl_eq, SS.withHp_eq, forceN_eq, hdst, putD] at hnow
   obtain ⟨_, hnow⟩ := holds_needs hnow
   have hb := hnow b []
   have hab : ∀ j, j ∈ effs → j ≠ i := fun j hj e => (List.nodup_cons.1 h.mid.hnodup).1 (e ▸ hj)
   let F2 : Own := { F' with full := fun x => if x = b then F.full x else F'.full x }
   have hsat := h.fit.hp.adopt (F := F2) hF'b hso (by show (if b = b then _ else _) = _; rw [if_pos rfl]; exact hFb) (fun x ob hx => by
    have hx' : (if x = b then F.full x else F'.full x) = some ob := hx
    split at hx'
    ·exact h.held.le x ob hx'
    ·exact hx') rfl
   have hEx : Ext ρ (ρ.grow b []) := Ext.grow ρ b []
   have hfit : Fit C.size F2 (ρ.grow b []) { ({ σ with hp := σ.hp.setB ρ.k.length so } : SS) with sl := .nil } a S := by
    have := h.fit.later hEx h.fit.hp.grow
    exact ⟨this.size, this.df, this.dfok, this.cm, this.cmok, fun x v hx => (by rw [Tr.nil_look] at hx; cases hx), hsat⟩
   have hm : Midway ops done (i :: past) effs (fun j => if j = i then none else early j) := {
    hdown := h.mid.hdown
    hpast := fun j hj => by
     rcases List.mem_cons.1 hj with rfl | hj
     ·exact hid
     ·exact h.mid.hpast j hj
    heffs := fun j hj => by
     obtain ⟨k1, k2, k3⟩ := h.mid.heffs j (List.mem_cons_of_mem _ hj)
     simp only [if_neg (hab j hj)]
     exact ⟨k1, k2, k3⟩
    hall := fun j hj hje => by
     rcases h.mid.hall j hj hje with k1 | k1
     ·exact .inl (List.mem_cons_of_mem _ k1)
     ·rcases List.mem_cons.1 k1 with rfl | k1
      ·exact .inl List.mem_cons_self
      ·exact .inr k1
    hchain := (chain_all h.mid.hchain).2
    hplaced := by have := h.mid.hplaced; simp only [placedB, Bool.and_eq_true] at this; exact this.2
    hnodup := (List.nodup_cons.1 h.mid.hnodup).2
    hquiet := fun q hq hqe j hj hje hb => List.mem_cons_of_mem _ (h.mid.hquiet q hq hqe j hj hje hb)
    hdisj := fun j hj hx => by
     rcases List.mem_cons.1 hx with e | hx
     ·exact hab j hj e
     ·exact h.mid.hdisj j (List.mem_cons_of_mem _ hj) hx }
   have hheld : Held P ops (ρ.grow b []) F F2 (fun j => if j = i then none else early j) a done effs C.size := {
    le := fun x ob hx => by
     show (if x = b then F.full x else F'.full x) = some ob
     split
     ·exact hx
     ·exact h.held.le x ob hx
    ro := h.held.ro
    each := fun j bj hj => by
     split at hj
     ·cases hj
     ·rename_i hji
      obtain ⟨k1, k2, k3, o', so', w', d', k4, k5, k6, k7, k8, k10, k11, k12⟩ := h.held.each j bj hj
      have hbne : bj ≠ b := fun e => hji (h.held.inj j i b (e ▸ hj) he)
      refine ⟨k1, ?_, k3, o', so', w', d', k4, k5.later hEx fun _ _ _ _ _ _ => rfl, k6, k7, k8, SO.ok_mono hEx.len k10, ?_, k12⟩
      ·rcases List.mem_cons.1 k2 with e | k2
       ·exact absurd e hji
       ·exact k2
      ·show (if bj = b then F.full bj else F'.full bj) = _
       rw [if_neg hbne, SO.den_ext hEx k10]; exact k11
    inj := fun j j' bj hj hj' => by
     split at hj
     ·cases hj
     ·split at hj'
      ·cases hj'
      ·exact h.held.inj j j' bj hj hj' }
   have hdi : dstIs ops i d = true := dstIs_of ho hdst
   have hpart : Part (ρ.grow b []) ops done (merge sl (some d) ((hide ops sl0 i sl).set d (w.sc ρ.k.length))) a := by
    intro x v hx
    rcases merge_look hx with ⟨e, hl⟩ | ⟨e, hl⟩
    ·cases e
     rcases Tr.look_set hl with ⟨_, rfl⟩ | ⟨k1, _⟩
     ·have hw2 : (w.sc ρ.k.length).ok (ρ.grow b []).k.length ∧ (w.sc ρ.k.length).den (ρ.grow b []) = w.val b := by
       cases w <;> simp [Way.sc, Way.val, SC.ok, SC.oks, SC.den, dens, IE.ok, IE.den]
      exact .inr ⟨hw2.1, by rw [had, hw2.2]⟩
     ·exact absurd rfl k1
    ·rcases h.part x v hl with k1 | ⟨k1, k2⟩
     ·exact .inl k1
     ·exact .inr ⟨SC.ok_mono hEx.len _ k1, by rw [k2, SC.den_ext hEx k1]⟩
   have hold : Old (ρ.grow b []) ops done sl0 a := fun x v hx => by
    rcases h.old x v hx with k1 | ⟨k1, k2⟩
    ·exact .inl k1
    ·exact .inr ⟨SC.ok_mono hEx.len _ k1, by rw [k2, SC.den_ext hEx k1]⟩
   have hfree : ∀ j ∈ effs, isAl ops j = true → ∀ x v, dstIs ops j x = true → (merge sl (some d) ((hide ops sl0 i sl).set d (w.sc ρ.k.length))).look x ≠ some v := by
    intro j hj ha x v hx hl
    rcases merge_look hl with ⟨e, _⟩ | ⟨_, hl⟩
    ·cases e
     exact hab j hj (dst_uniq hn hx hdi)
    ·exact h.free j (List.mem_cons_of_mem _ hj) ha x v hx hl
   have hnews : ∀ q ∈ newsAt ops (i :: past) (some i), q ∉ done := by
    intro q hq hx
    have hq2 := (List.mem_filter.1 hq).2
    have hq3 := (List.mem_filter.1 (List.mem_filter.1 hq).1).2
    simp only at hq2
    have hqe : effAt ops q = false := by
     cases hqe : effAt ops q with
     | false => rfl
     | true => simp [hqe] at hq3
    obtain ⟨_, i2, i3⟩ := h.mid.heffs i List.mem_cons_self
    exact h.mid.hdisj i List.mem_cons_self (h.mid.hquiet q hx hqe i i2 i3 hq2)
   have hb2 : holds D E (ρ.grow b []) (stages P ops sl0 opx ex call C tail k effs (i :: past) (some i) Γ (({ σ with hp := σ.hp.setB ρ.k.length so } : SS).withSl (merge sl (some d) ((hide ops sl0 i sl).set d (w.sc ρ.k.length)))) (ρ.grow b []).k.length) := by
    rw [len_grow]
    rw [SS.withSl_eq]
    exact hb
   obtain ⟨sl2, hM⟩ := Mids.next hn ht hm (vals_ext hEx h.vals) (h.facts.grow b []) hpart hold hfit hheld hfree hnews hb2
   obtain ⟨past3, effs3, early3, F3, Γ3, σ3, sl3, ρ3, he3, hM3, hs3⟩ := Mids.settle hox hn ht hal hM
   exact ⟨past3, effs3, early3, F3, Γ3, σ3, sl3, ρ3, hEx.trans he3, hM3, hs3⟩
end
theorem stages_sound {sl0 : Tr SC} (hox : OpxOk P main opx) (hex : SoundEx P main ex) (hcall : SoundCall P main call) (ht : textual ops = true) (hn : nodupB (dsts ops) = true) {C : Cx} (hal : allocsOk P ops C.size = true) {r : Ctx} {tail : List Item} {k : Kont} {Q : Ex → St → Own → Prop} {F : Own} :
  ∀ (s done past effs : List Nat) (early : Nat → Option Nat) (F' : Own) (Γ : Facts) (σ : SS) (sl : Tr SC) (ρ : Env) (a : St) (S : Own), Sched ops done s → CtxOk C r ρ → KOk D E C.size F ρ k Q → EOk P main E C r F ρ Q →
   Mids P ops sl0 opx ex call C tail k D E F done past effs early F' Γ σ sl ρ a S → (∀ i l, effs = i :: l → early i = none) → wpI P main r (.inRegion ops s :: tail) Q a S := by
 intro s
 induction s with
 | nil =>
  intro done past effs early F' Γ σ sl ρ a S hs hr hK hE M hset
  cases hs with
  | nil hall =>
   cases effs with
   | cons i effs =>
    obtain ⟨h1, h2, _⟩ := M.mid.heffs i List.mem_cons_self
    rcases h1 with h1 | h1
    ·exact absurd (hall i h2) h1
    ·rw [hset i effs rfl] at h1; cases h1
   | nil =>
    refine wpI_move (fun b k cs w => stepG_region_end) (hex D E C r Γ _ _ _ k ρ Q F hr M.vals M.facts rfl hK hE M.now a S ?_)
    rw [SS.withSl_eq]
    refine (M.fit.weaken M.held.le M.held.ro).withSl fun d v hd => ?_
    rcases M.part d v hd with ⟨j, hj, hjd⟩ | h
    ·obtain ⟨o, ho, _⟩ := dstIs_iff hjd
     exact absurd (hall j (getOp_lt ho)) hj
    ·exact h
 | cons i s ih =>
  intro done past effs early F' Γ σ sl ρ a S hs hr hK hE M hset
  cases hs with
  | cons ho hnd hpr hs =>
   rename_i o
   have hm := M.mid
   have hilt := getOp_lt ho
   have hdown' : Down ops (i :: done) := by
    intro x hx ox hox j hj
    rcases List.mem_cons.1 hx with rfl | hx
    ·rw [ho] at hox; cases hox; exact List.mem_cons_of_mem _ (hpr j hj)
    ·exact List.mem_cons_of_mem _ (hm.hdown x hx ox hox j hj)
   have hpreds : ∀ o', ops[i]? = some o' → ∀ x ∈ predsOf o', x ∈ done := fun o' ho' x hx => by rw [ho] at ho'; cases ho'; exact hpr x hx
   have hkn := M.part.seen M.old ht hm.hdown hnd hpreds
   have hfh : Fit C.size F' ρ { σ with sl := hide ops sl0 i sl } a S := M.fit.withSl hkn
   have hnear : early i = none := by
    cases he : early i with
    | none => rfl
    | some b => exact absurd (M.held.each i b he).1 hnd
   have head : ∀ h l, effs = h :: l → h ∉ done := fun h l e => by
    rcases (hm.heffs h (by rw [e]; exact List.mem_cons_self)).1 with k1 | k1
    ·exact k1
    ·rw [hset h l e] at k1; cases k1
   have heldPut : ∀ (w : Value) (effs' : List Nat), (∀ j, j ∈ effs → (early j).isSome = true → j ∈ effs') → Held P ops ρ F F' early (a.put o.dst w) (i :: done) effs' C.size := fun w effs' hin => {
    le := M.held.le
    ro := M.held.ro
    each := fun j bj hj => by
     obtain ⟨k1, k2, k3, o', so', w', d', k4, k5, k6, k7, k8, k10, k11, k12⟩ := M.held.each j bj hj
     refine ⟨List.mem_cons_of_mem _ k1, hin j k2 (by rw [hj]; rfl), k3, o', so', w', d', k4, k5.later (Ext.refl ρ) fun t n ps hop x hx => eval_put fun tt hxt e => ?_, k6, k7, k8, k10, k11, ?_⟩
     ·exact hnd (ahead_done ht (seen_of ((allocsOk_bs hal k4 hop k6).2 x hx tt hxt) (dstIs_of ho e)) hm.hdown fun oj hoj y hy => hm.hdown j k1 oj hoj y hy)
     have hne : o.dst ≠ some d' := fun e => by
      have := dst_uniq hn (dstIs_of ho e) (dstIs_of k4 k7)
      subst this
      rw [hnear] at hj; cases hj
     rw [put_other hne]; exact k12
    inj := M.held.inj }
   have hpast0 : (effAt ops i && !isBs ops i) = false → ∀ j, j < ops.size → effAt ops j = true → (ahead ops i).testBit j = true → j ∈ past := fun heff j hj hje hb => by
     have hjd := ahead_done ht hb hm.hdown hpreds
     rcases hm.hall j hj hje with h | h
     ·exact h
     ·cases effs with
      | nil => cases h
      | cons hd l =>
       rcases List.mem_cons.1 h with rfl | h
       ·exact absurd hjd (head _ _ rfl)
       ·rcases (hm.heffs j (List.mem_cons_of_mem _ h)).1 with k1 | k1
        ·exact absurd hjd k1
        ·obtain ⟨bj, hbj⟩ := Option.isSome_iff_exists.1 k1
         obtain ⟨_, _, _, o', _, _, _, k4, k5, k6, _⟩ := M.held.each j bj hbj
         have ha : isAl ops j = true := k5.isAl k4 k6
         have hpl := hm.hplaced
         simp only [placedB, Bool.and_eq_true] at hpl
         have := placed_mem hilt heff ha hb hpl.2 h hd List.mem_cons_self
         exact absurd (ahead_done ht this hm.hdown hpreds) (head _ _ rfl)
   cases heff : effAt ops i with
   | false =>
    have hpast := hpast0 (by simp [heff])
    have hq : i ∈ pendAt ops past := pend_of hilt heff hpast (fun j hj => by
     cases hb : (ahead ops j).testBit i with
     | false => rfl
     | true =>
      have hjd := hm.hpast j hj
      exact absurd (ahead_done ht hb hm.hdown fun oj hoj x hx => hm.hdown j hjd oj hoj x hx) hnd)
    obtain ⟨o', ho', hd, hyy⟩ := M.yields i hq
    rw [ho] at ho'; cases ho'
    have hm' : Midway ops (i :: done) past effs early := ⟨hdown', fun j hj => List.mem_cons_of_mem _ (hm.hpast j hj), fun j hj => by
     obtain ⟨h1, h2, h3⟩ := hm.heffs j hj
     refine ⟨?_, h2, h3⟩
     rcases h1 with h1 | h1
     ·refine .inl fun hx => ?_
      rcases List.mem_cons.1 hx with rfl | hx
      ·rw [heff] at h3; cases h3
      ·exact h1 hx
     ·exact .inr h1, hm.hall, hm.hchain, hm.hplaced, hm.hnodup, fun q hq hqe j hj hje hb => by
     rcases List.mem_cons.1 hq with rfl | hq
     ·exact hpast j hj hje hb
     ·exact hm.hquiet q hq hqe j hj hje hb, hm.hdisj⟩
    have next : ∀ v : SC, v.ok ρ.k.length → agrees sl o.dst v = true → wpI P main r (.inRegion ops s :: tail) Q (a.put o.dst (v.den ρ)) S := by
     intro v hok hag
     refine ih (i :: done) past effs early F' Γ σ sl ρ _ S hs hr hK hE ⟨hm', M.vals, M.facts, ?_, M.old.put (Ext.refl ρ) ho rfl, ?_, heldPut _ effs (fun j hj _ => hj), M.free, M.yields, M.makes, M.now⟩ hset
     ·intro d v' hd'
      by_cases e : o.dst = some d
      ·rw [e] at hag hd ⊢
       have hlt : d < C.size := by simpa using hd
       have := agrees_eq hag hd'
       subst this
       exact .inr ⟨hok, put_same (by rw [M.fit.size]; exact hlt)⟩
      ·rcases M.part d v' hd' with ⟨j, hj, hjd⟩ | ⟨h1, h2⟩
       ·refine .inl ⟨j, fun hx => ?_, hjd⟩
        rcases List.mem_cons.1 hx with rfl | hx
        ·obtain ⟨oj, hoj, hdj⟩ := dstIs_iff hjd
         rw [ho] at hoj; cases hoj
         exact e hdj
        ·exact hj hx
       ·exact .inr ⟨h1, by rw [put_other e]; exact h2⟩
     ·exact (M.fit.put (dst := o.dst) (v := v) hd hok).withSl fun d v hd => by rw [Tr.nil_look] at hd; cases hd
    rcases hyy with ⟨hw, ns, v, hsy, hns, hag⟩ | ⟨hw, hag⟩
    ·rw [symOpF_eq] at hsy
     haveI : Loud S := hfh.hp.loud
     obtain ⟨hrun, hok⟩ := symOp_good (S0 := S) M.vals hfh.hp (evC_ok hkn) hsy
     refine wpI_op ho (symWanted_inl hkn hw) (plain_of_sym (by rw [hsy]; rfl)) ?_
     refine hrun (toShow_ok M.facts hns) _ ?_
     rw [SC.nrmF_eq] at hag
     show wpI _ _ _ _ _ _ _
     rw [← SC.nrm_den M.facts v]
     exact next _ (SC.nrm_ok hok) hag
    ·refine wpI_unwanted ho (symWanted_inl hkn hw) ?_
     exact next undefS trivial hag
   | true =>
    have hin : i ∈ effs := by
     rcases hm.hall i hilt heff with h | h
     ·exact absurd (hm.hpast i h) hnd
     ·exact h
    cases effs with
    | nil => cases hin
    | cons i' effs =>
     by_cases hii : i = i'
     ·
      subst hii
      have hab : ∀ j, j ∈ effs → j ≠ i := fun j hj e => (List.nodup_cons.1 hm.hnodup).1 (e ▸ hj)
      have hm' : Midway ops (i :: done) (i :: past) effs early := ⟨hdown', fun j hj => by
       rcases List.mem_cons.1 hj with rfl | hj
       ·exact List.mem_cons_self
       ·exact List.mem_cons_of_mem _ (hm.hpast j hj), fun j hj => by
       obtain ⟨h1, h2, h3⟩ := hm.heffs j (List.mem_cons_of_mem _ hj)
       refine ⟨?_, h2, h3⟩
       rcases h1 with h1 | h1
       ·refine .inl fun hx => ?_
        rcases List.mem_cons.1 hx with e | hx
        ·exact hab j hj e
        ·exact h1 hx
       ·exact .inr h1, fun j hj hje => by
       rcases hm.hall j hj hje with h | h
       ·exact .inl (List.mem_cons_of_mem _ h)
       ·rcases List.mem_cons.1 h with rfl | h
        ·exact .inl List.mem_cons_self
        ·exact .inr h, (chain_all hm.hchain).2, by have := hm.hplaced; simp only [placedB, Bool.and_eq_true] at this; exact this.2, (List.nodup_cons.1 hm.hnodup).2, fun q hq hqe j hj hje hb => by
       rcases List.mem_cons.1 hq with rfl | hq
       ·rw [heff] at hqe; cases hqe
       ·exact List.mem_cons_of_mem _ (hm.hquiet q hq hqe j hj hje hb), fun j hj hx => by
       rcases List.mem_cons.1 hx with e | hx
       ·exact hab j hj e
       ·exact hm.hdisj j (List.mem_cons_of_mem _ hj) hx⟩
      have hKw : KOk D E C.size F' ρ k Q := fun ρ' e σ' Γ' he hΓ' hok hh a' S' hf' => hK ρ' e σ' Γ' he hΓ' hok hh a' S' (hf'.weaken M.held.le M.held.ro)
      have go : ∀ ρ' Γ' (σ' : SS) a' S' sl' w, Ext ρ ρ' → vals ρ' → Γ'.On ρ' → Fit C.size F' ρ' { σ' with sl := .nil } a' S' → Part ρ' ops (i :: done) sl' a' → Old ρ' ops (i :: done) sl0 a' → a'.tmps = (a.put o.dst w).tmps →
        (∀ j ∈ effs, isAl ops j = true → ∀ d v, dstIs ops j d = true → sl'.look d ≠ some v) →
        holds D E ρ' (stages P ops sl0 opx ex call C tail k effs (i :: past) (some i) Γ' (σ'.withSl sl') ρ'.k.length) → wpI P main r (.inRegion ops s :: tail) Q a' S' := by
       intro ρ' Γ' σ' a' S' sl' w he hv' hΓ' hf' hp' ho' haw hfree hh
       have hheld : Held P ops ρ' F F' early a' (i :: done) effs C.size := by
        have h0 := heldPut w effs (fun j hj hje => by
         rcases List.mem_cons.1 hj with rfl | hj
         ·rw [hnear] at hje; cases hje
         ·exact hj)
        exact ⟨h0.le, h0.ro, fun j bj hj => by
         obtain ⟨k1, k2, k3, o', so', w', d', k4, k5, k6, k7, k8, k10, k11, k12⟩ := h0.each j bj hj
         exact ⟨k1, k2, k3, o', so', w', d', k4, k5.later he fun _ _ _ _ x _ => eval_tmps haw x.2, k6, k7, k8, SO.ok_mono he.len k10, by rw [SO.den_ext he k10]; exact k11, by rw [haw]; exact k12⟩, h0.inj⟩
       obtain ⟨sl2, hM⟩ := Mids.next hn ht hm' hv' hΓ' hp' ho' hf' hheld hfree (fun q hq => news_later ht hm.hdown hnd hq) hh
       obtain ⟨past3, effs3, early3, F3, Γ3, σ3, sl3, ρ3, he3, hM3, hs3⟩ := Mids.settle hox hn ht hal hM
       exact ih (i :: done) past3 effs3 early3 F3 Γ3 σ3 sl3 ρ3 a' S' hs (hr.later (he.trans he3)) (hK.later (he.trans he3)) (hE.later (he.trans he3)) hM3 hs3
      have h := M.now
      simp only [stageNow, ho] at h
      split at h
      ·rename_i hw
       rw [SS.withSl_eq] at h
       refine hox.good D E _ _ _ (roundF_sound hex) hcall { C with top := false } _ _ _ _ _ _ _ _ _ _ _ _ _ _ _ ⟨hr.dfr, hr.round, hr.low, hr.fn⟩ M.vals M.facts hKw ho h hfh (symWanted_inl hkn hw) (fun ht' hb => by subst ht'; exact hb.elim) ?_
       rintro ρ' Γ' σ' a' S' he hv' hΓ' hf' ⟨w, hw'⟩ hh
       refine go ρ' Γ' σ' a' S' _ w he hv' hΓ' (hf'.withSl fun d v hd => by rw [Tr.nil_look] at hd; cases hd) ?_ (M.old.put he ho hw') hw' ?_ hh
       ·intro d v hd
        rcases merge_look hd with ⟨e, hl⟩ | ⟨e, hl⟩
        ·exact .inr (hf'.sl d v hl)
        ·rcases M.part d v hl with ⟨j, hj, hjd⟩ | ⟨h1, h2⟩
         ·refine .inl ⟨j, fun hx => ?_, hjd⟩
          rcases List.mem_cons.1 hx with rfl | hx
          ·obtain ⟨oj, hoj, hdj⟩ := dstIs_iff hjd
           rw [ho] at hoj; cases hoj
           exact e hdj
          ·exact hj hx
         ·refine .inr ⟨SC.ok_mono he.len _ h1, ?_⟩
          rw [hw', put_other e, h2, SC.den_ext he h1]
       ·intro j hj ha d v hjd hl
        rcases merge_look hl with ⟨e, _⟩ | ⟨_, hl⟩
        ·exact hab j hj (dst_uniq hn hjd (dstIs_of ho e))
        ·exact M.free j (List.mem_cons_of_mem _ hj) ha d v hjd hl
      ·rename_i hw
       split at h
       ·rename_i hd
        refine wpI_unwanted ho (symWanted_inl hkn hw) ?_
        refine go ρ Γ σ _ S _ undef (Ext.refl ρ) M.vals M.facts ((M.fit.put (dst := o.dst) (v := undefS) hd trivial).withSl fun d v hd => by rw [Tr.nil_look] at hd; cases hd) ?_ (M.old.put (w := undef) (Ext.refl ρ) ho rfl) rfl ?_ h
        ·intro d v hdv
         by_cases e : o.dst = some d
         ·rw [e] at hdv hd ⊢
          simp only [putD] at hdv
          rcases Tr.look_set hdv with ⟨_, rfl⟩ | ⟨h1, _⟩
          ·have hlt : d < C.size := by simpa using hd
           exact .inr ⟨trivial, put_same (by rw [M.fit.size]; exact hlt)⟩
          ·exact absurd rfl h1
         ·have hl : sl.look d = some v := by
           cases hdst : o.dst with
           | none => rw [hdst] at hdv; exact hdv
           | some t =>
            rw [hdst] at hdv e
            rcases Tr.look_set hdv with ⟨h1, _⟩ | ⟨_, h1⟩
            ·exact absurd (by rw [h1]) e
            ·exact h1
          rcases M.part d v hl with ⟨j, hj, hjd⟩ | ⟨h1, h2⟩
          ·refine .inl ⟨j, fun hx => ?_, hjd⟩
           rcases List.mem_cons.1 hx with rfl | hx
           ·obtain ⟨oj, hoj, hdj⟩ := dstIs_iff hjd
            rw [ho] at hoj; cases hoj
            exact e hdj
           ·exact hj hx
          ·exact .inr ⟨h1, by rw [put_other e]; exact h2⟩
        ·intro j hj ha d v hjd hl
         cases hdst : o.dst with
         | none => rw [hdst] at hl; exact M.free j (List.mem_cons_of_mem _ hj) ha d v hjd hl
         | some t =>
          rw [hdst] at hl
          rcases Tr.look_set hl with ⟨h1, _⟩ | ⟨_, h1⟩
          ·subst h1
           exact hab j hj (dst_uniq hn hjd (dstIs_of ho hdst))
          ·exact M.free j (List.mem_cons_of_mem _ hj) ha d v hjd h1
       ·exact h.elim
      ·exact h.elim
     ·
      have hin' : i ∈ effs := by
       rcases List.mem_cons.1 hin with h | h
       ·exact absurd h hii
       ·exact h
      have ha : isAl ops i = true := by
       cases ha : isAl ops i with
       | true => rfl
       | false => exact absurd (ahead_done ht ((chain_all hm.hchain).1 i hin' ha) hm.hdown hpreds) (head i' effs rfl)
      obtain ⟨o', ho', hkind⟩ := isAl_iff ha
      rw [ho] at ho'; cases ho'
      haveI : Loud S := M.fit.hp.loud
      have hkey : ∃ so w d, o.guard = none ∧ o.dst = some d ∧ d < C.size ∧ plainOp r.round o = true ∧ so.ok ρ.k.length ∧ (∀ K : Except Value Next → Own → Prop, (∀ b, S.full b = none → S.ro b = none → K (.ok (.value (w.val b))) (S.set b (so.den ρ))) → Run P S (execOp a.eval o) S K) ∧ ∀ v, Made P ρ (a.put o.dst v) o so w := by
       rcases hkind with ⟨t, hop⟩ | ⟨hg, t, n, ps, hop⟩
       ·obtain ⟨hg, ⟨d, hdst, hdlt⟩, so, hsa⟩ := allocsOk_at hal ho hop
        obtain ⟨hrun, hso⟩ := sAlloc_good (S0 := S) (ρ := ρ) (hp := σ.hp) (ev' := a.eval) hop M.vals hsa
        exact ⟨so, .ptr, d, hg, hdst, hdlt, by unfold plainOp; rw [hop]; simp, hso, fun K hK => hrun (by simp [allTrue]) K hK, fun v => .inl ⟨t, hop, hsa, rfl⟩⟩
       ·obtain ⟨⟨d, hdst, hdlt⟩, hseen⟩ := allocsOk_bs hal ho hop hg
        have hbs := isBs_of ho hop hg
        have hp0 := hpast0 (by simp [hbs])
        have hmk : i ∈ makesAt ops past := by
         refine List.mem_filter.2 ⟨List.mem_filter.2 ⟨List.mem_range.2 hilt, hbs⟩, ?_⟩
         simp only [Bool.and_eq_true]
         refine ⟨by simpa using hm.hdisj i hin, List.all_eq_true.2 fun j hj => ?_⟩
         cases h3 : effAt ops j with
         | false => rfl
         | true =>
          cases h4 : (ahead ops i).testBit j with
          | false => rfl
          | true => simpa using hp0 j (List.mem_range.1 hj) h3 h4
        obtain ⟨o2, e, ho2, hs⟩ := M.makes i hmk
        rw [ho] at ho2; cases ho2
        rw [symOpF_eq, hop] at hs
        simp only [symOp] at hs
        obtain ⟨so, rfl, l, hl⟩ := sBuildSlice_shape hs
        obtain ⟨hrun, hso⟩ := sBuildSlice_good (S0 := S) (ρ := ρ) (S := S) (hp := σ.hp) (ev' := a.eval) hop M.vals (evC_ok hkn) hs
        obtain ⟨e1, e2⟩ := evParts_den (evC_ok hkn) _ _ hl
        rw [hl] at hs
        refine ⟨so, .slice n n, d, hg, hdst, hdlt, by unfold plainOp; rw [hop]; simp, hso, fun K hK => hrun (by simp [allTrue]) K hK, fun v => ?_⟩
        refine Made.later (a := a) (.inr ⟨t, n, ps, l, hop, hs, rfl, e2, e1⟩) (Ext.refl ρ) fun t' n' ps' hop' x hx => eval_put fun tt hxt e => ?_
        rw [hop] at hop'; cases hop'
        obtain ⟨m, g, b⟩ := ahead_lt ht (seen_of (hseen x hx tt hxt) (dstIs_of ho e))
        exact absurd (g i b).1 (Nat.lt_irrefl i)
      obtain ⟨so, w, d, hg, hdst, hdlt, hpl, hso, hrun, hmade⟩ := hkey
      refine wpI_op ho (by simp [Region.wanted, hg]) hpl ?_
      refine hrun _ fun b hb1 hb2 => ?_
      show wpI P main r (.inRegion ops s :: tail) Q (a.put o.dst (w.val b)) (S.set b (so.den ρ))
      have hFb : F.full b = none := by
       cases hf : F.full b with
       | none => rfl
       | some x => rw [M.fit.hp.frm b x (M.held.le b x hf)] at hb1; cases hb1
      have hdi : dstIs ops i d = true := dstIs_of ho hdst
      refine ih (i :: done) past (i' :: effs) (fun j => if j = i then some b else early j) (F'.set b (so.den ρ)) Γ σ sl ρ _ _ hs hr hK hE ⟨?_, M.vals, M.facts, ?_, M.old.put (Ext.refl ρ) ho rfl, ?_, ?_, M.free, M.yields, M.makes, M.now⟩ ?_
      ·exact ⟨hdown', fun j hj => List.mem_cons_of_mem _ (hm.hpast j hj), fun j hj => by
        obtain ⟨h1, h2, h3⟩ := hm.heffs j hj
        refine ⟨?_, h2, h3⟩
        by_cases hji : j = i
        ·exact .inr (by simp [hji])
        ·simp only [if_neg hji]
         rcases h1 with h1 | h1
         ·refine .inl fun hx => ?_
          rcases List.mem_cons.1 hx with e | hx
          ·exact hji e
          ·exact h1 hx
         ·exact .inr h1, hm.hall, hm.hchain, hm.hplaced, hm.hnodup, fun q hq hqe j hj hje hb => by
        rcases List.mem_cons.1 hq with rfl | hq
        ·rw [heff] at hqe; cases hqe
        ·exact hm.hquiet q hq hqe j hj hje hb, hm.hdisj⟩
      ·intro x v hx
       have hne : d ≠ x := fun e => M.free i hin ha x v (e ▸ hdi) hx
       rcases M.part x v hx with ⟨j, hj, hjd⟩ | ⟨h1, h2⟩
       ·refine .inl ⟨j, fun hx' => ?_, hjd⟩
        rcases List.mem_cons.1 hx' with rfl | hx'
        ·exact M.free j hin ha x v hjd hx
        ·exact hj hx'
       ·exact .inr ⟨h1, by rw [put_other (by rw [hdst]; exact fun e => hne (Option.some.inj e))]; exact h2⟩
      ·have hsat := M.fit.hp.aside (o := so.den ρ) hb1 hb2
       refine ⟨?_, by rw [St.put_defers]; exact M.fit.df, M.fit.dfok, by rw [St.put_cm]; exact M.fit.cm, M.fit.cmok, fun x v hx => (by rw [Tr.nil_look] at hx; cases hx), hsat⟩
       have := M.fit.size
       cases hd' : o.dst <;> simp [St.put, this]
      ·refine ⟨fun x ob hx => ?_, M.held.ro, fun j bj hj => ?_, fun j j' bj hj hj' => ?_⟩
       ·rw [Own.set_full, if_neg (fun e => by rw [e, hFb] at hx; cases hx)]; exact M.held.le x ob hx
       ·split at hj
        ·rename_i e; subst e
         cases hj
         exact ⟨List.mem_cons_self, hin, hFb, o, so, w, d, ho, hmade _, hg, hdst, hdlt, hso, by simp, by rw [hdst]; exact put_same (by rw [M.fit.size]; exact hdlt)⟩
        ·rename_i hji
         have h0 := heldPut (w.val b) (i' :: effs) (fun j hj _ => hj)
         obtain ⟨k1, k2, k3, o', so', w', d', k4, k5, k6, k7, k8, k10, k11, k12⟩ := h0.each j bj hj
         refine ⟨k1, k2, k3, o', so', w', d', k4, k5, k6, k7, k8, k10, ?_, k12⟩
         rw [Own.set_full, if_neg (fun e => by have := M.fit.hp.frm bj _ k11; rw [e, hb1] at this; cases this)]; exact k11
       ·have hno : ∀ x, early x = some b → False := fun x hx => by
         obtain ⟨_, _, _, _, _, _, _, _, _, _, _, _, _, k11, _⟩ := M.held.each x b hx
         rw [M.fit.hp.frm b _ k11] at hb1; cases hb1
        split at hj <;> split at hj'
        ·rename_i e e'; rw [e, e']
        ·cases hj; exact (hno _ hj').elim
        ·cases hj'; exact (hno _ hj).elim
        ·exact M.held.inj j j' bj hj hj'
      ·intro h l e
       cases e
       simp only [if_neg (fun e : i' = i => hii e.symm)]
       exact hset i' effs rfl
theorem wpI_draw {r : Ctx} {a : St} {S : Own} {Q : Ex → St → Own → Prop} {id : Nat} {items : List Item} (h : ∀ t, wpI P main r (.inRegion ops (Region.schedule (P.follows .mixedOrders) ops t) :: items) Q a S) : wpI P main r (.code (.region id ops true) :: items) Q a S :=
 fun Stop b k cs hb hc => .one ⟨rfl, fun _ => rfl⟩ fun w hw => ⟨_, _, _, S, stepG_region_draw, (Mv.Mid.refl hw).drew _, by simp, h _ Stop b k cs hb hc⟩
theorem openX_sound (hox : OpxOk P main opx) (hex : SoundEx P main ex) (hcall : SoundCall P main call) {C : Cx} {Γ : Facts} {tail : List Item} {id : Nat} {σ : SS} {k : Kont} {ρ : Env} {Q : Ex → St → Own → Prop} {F : Own}
  {r : Ctx} (hr : CtxOk C r ρ) (hv : vals ρ) (hΓ : Γ.On ρ) (hK : KOk D E C.size F ρ k Q) (hE : EOk P main E C r F ρ Q) (h : holds D E ρ (openX P ops opx ex call C Γ (.code (.region id ops true) :: tail) tail σ ρ.k.length k)) {a : St} {S : Own} (hf : Fit C.size F ρ σ a S) : wpI P main r (.code (.region id ops true) :: tail) Q a S := by
 unfold openX at h
 split at h
 ·rename_i hok
  split at h
  ·rename_i hal
   simp only [openOk, Bool.and_eq_true] at hok
   obtain ⟨⟨⟨⟨⟨hrg, ht⟩, hn⟩, _⟩, hc⟩, hpl⟩ := hok
   refine wpI_draw fun t => ?_
   have hm : Midway ops [] [] (effsOf ops) (fun _ => none) := ⟨fun i hi => by simp at hi, fun j hj => by simp at hj, fun j hj => by
    obtain ⟨h4, h5⟩ := effsOf_mem.1 hj
    exact ⟨.inl (by simp), h4, h5⟩, fun j hj hje => .inr (effsOf_mem.2 ⟨hj, hje⟩), hc, hpl, effsOf_nodup, fun q hq => by simp at hq, fun j _ hx => by simp at hx⟩
   have hdl : ∀ d v, (dropA ops ((List.range ops.size).filter (isAl ops)) σ.sl).look d = some v → σ.sl.look d = some v := fun d v hd => (dropA_look _ _ hd).1
   obtain ⟨sl2, hM⟩ := Mids.next (sl0 := σ.sl) (C := C) (F := F) (F' := F) (a := a) (S := S) hn ht hm hv hΓ (fun d v hd => .inr (hf.sl d v (hdl d v hd))) (fun d v hd => .inr (hf.sl d v hd)) (hf.withSl fun d v hd => by rw [Tr.nil_look] at hd; cases hd)
    ⟨fun _ _ h => h, rfl, fun i b hb => (by cases hb), fun i j b hb => (by cases hb)⟩ (fun j hj ha d v hjd hl => by
     have := (dropA_look _ _ hl).2 j (List.mem_filter.2 ⟨List.mem_range.2 (effsOf_mem.1 hj).1, ha⟩)
     rw [this] at hjd; cases hjd) (fun q _ hx => by simp at hx) h
   exact stages_sound hox hex hcall ht hn hal _ [] [] (effsOf ops) (fun _ => none) F Γ σ sl2 ρ a S (sched_schedule hrg t) hr hK hE hM (fun _ _ _ => rfl)
  ·exact stuck_ok hE h hf
 ·exact stuck_ok hE h hf
def stepY (P : Program) (inl : FuncId → Bool) (ex : Run_) (call : Call_) (C : Cx) (Γ : Facts) (items : List Item) (σ : SS) (nk : Nat) (k : Kont) : Tree := match items with
 | .code (.region _ ops true) :: tail => openR P ops inl ex call C Γ items tail σ nk k
 | _ => stepX P inl ex call C Γ items σ nk k
theorem stepY_sound (hex : SoundEx P main ex) (hcall : SoundCall P main call) : SoundEx P main (stepY P inl ex call) := by
 intro D E C r Γ items σ nk k ρ Q F hr hv hΓ hk hK hE h a S hf
 subst hk
 unfold stepY at h
 split at h
 ·exact openX_sound stepOp_ok hex hcall hr hv hΓ hK hE h hf
 ·exact stepX_sound hex hcall D E C r Γ _ σ _ k ρ Q F hr hv hΓ rfl hK hE h a S hf
end
section
variable {P : Program} {main : Co}
end
open Go Mv
noncomputable def openS (ops : Array Oper) : TF := fun tail P inl A C Γ items σ nk k => openR P ops inl A.1 A.2 C Γ items tail σ nk k
noncomputable def cRegionY (_ : Nat) (ops : Array Oper) (draw : Bool) : TF := fun tail => Bool.rec (motive := fun _ => SF) (goOn (.inRegion ops (List.range ops.size) :: tail)) (openS ops tail) draw
noncomputable def codeRY (c : Code) : TF := Code.rec (motive := fun _ => TF) cSkip cRegionY cSeq cCond cBlock cLoop cRange cExit cScope cLabel cGoto cRet cRefuse c
noncomputable def itemRY (i : Item) : TF := Item.rec (motive := fun _ => TF) codeRY tPass1 iLoop iScope iRegion iHalt1 iHalt1 iBegin iCall iExtern i
noncomputable def lConsY (i : Item) (tail : List Item) (_ : SF) : SF := itemRY i tail
noncomputable def stepRY (items : List Item) : SF := List.rec (motive := fun _ => SF) lNil lConsY items
theorem stepRY_eq (P : Program) (inl : FuncId → Bool) (A : Run_ × Call_) (C : Cx) (Γ : Facts) (items : List Item) (σ : SS) (nk : Nat) (k : Kont) : stepRY items P inl A C Γ items σ nk k = stepY P inl A.1 A.2 C Γ items σ nk k := by
 have old : ∀ its, stepR its P inl A C Γ items σ nk k = stepR its P inl A C Γ items σ nk k := fun _ => rfl
 unfold stepY
 split
 ·rfl
 ·rename_i hne
  rw [← stepR_eq]
  cases items with
  | nil => rfl
  | cons i tail =>
   cases i with
   | code c =>
    cases c with
    | region id ops d =>
     cases d with
     | false => rfl
     | true => exact absurd rfl (hne id ops tail)
    | _ => rfl
   | _ => rfl
open Go Mv
abbrev Hk_ := Run_ → Cx → Facts → List Item → Array Oper → List Nat → Oper → List Item → SS → Nat → Kont → Option Tree
structure HkOk (P : Program) (main : Co) (hk : Hk_) : Prop where
 good : ∀ (D : Env → SEx → SS → Prop) (E : Env → List Item → SS → Prop) (ex : Run_) (C : Cx) (Γ : Facts) (items items' tail : List Item) (ops : Array Oper) (i : Nat) (rest rest' : List Nat) (o : Oper) (σ : SS) (k : Kont) (ρ : Env) (Q : Ex → St → Own → Prop) (F : Own) (r : Ctx) (t : Tree),
  CtxOk C r ρ → vals ρ → Γ.On ρ → KOk D E C.size F ρ k Q → ops[i]? = some o → hk ex C Γ items ops rest o items' σ ρ.k.length k = some t → holds D E ρ t → ∀ {a : St} {S : Own}, Fit C.size F ρ σ a S → Region.wanted o (yielded ops a.tmps) = true →
  (∀ {t : Tree}, t = stuck_ C items σ → holds D E ρ t → wpI P main r (.inRegion ops (i :: rest') :: tail) Q a S) →
  (∀ ρ' Γ' σ' a' S', Ext ρ ρ' → vals ρ' → Γ'.On ρ' → Fit C.size F ρ' σ' a' S' → (∃ v, a'.tmps = (a.put o.dst v).tmps) → holds D E ρ' (ex C Γ' (.inRegion ops rest :: items') σ' ρ'.k.length k) → wpI P main r (.inRegion ops rest' :: tail) Q a' S') → wpI P main r (.inRegion ops (i :: rest') :: tail) Q a S
 alloc : ∀ ex C Γ items ops rest o tail σ nk k t, o.op = .alloc t → hk ex C Γ items ops rest o tail σ nk k = none
 bs : ∀ ex C Γ items ops rest o tail σ nk k t n ps, o.op = .buildSlice t n ps → hk ex C Γ items ops rest o tail σ nk k = none
def hOr (h1 h2 : Hk_) : Hk_ := fun ex C Γ items ops rest o tail σ nk k => match h1 ex C Γ items ops rest o tail σ nk k with
 | some t => some t
 | none => h2 ex C Γ items ops rest o tail σ nk k
theorem hOr_ok {P : Program} {main : Co} {h1 h2 : Hk_} (k1 : HkOk P main h1) (k2 : HkOk P main h2) : HkOk P main (hOr h1 h2) where
 good D E ex C Γ items items' tail ops i rest rest' o σ k ρ Q F r t hr hv hΓ hK ho h hh := by
  unfold hOr at h
  split at h
  ·rename_i t' h1'
   simp only [Option.some.injEq] at h; subst h
   exact fun hf hw hst hn => k1.good D E ex C Γ items items' tail ops i rest rest' o σ k ρ Q F r _ hr hv hΓ hK ho h1' hh hf hw hst hn
  ·exact fun hf hw hst hn => k2.good D E ex C Γ items items' tail ops i rest rest' o σ k ρ Q F r _ hr hv hΓ hK ho h hh hf hw hst hn
 alloc ex C Γ items ops rest o tail σ nk k t ho := by
  simp only [hOr, k1.alloc ex C Γ items ops rest o tail σ nk k t ho, k2.alloc ex C Γ items ops rest o tail σ nk k t ho]
 bs ex C Γ items ops rest o tail σ nk k t n ps ho := by
  simp only [hOr, k1.bs ex C Γ items ops rest o tail σ nk k t n ps ho, k2.bs ex C Γ items ops rest o tail σ nk k t n ps ho]
def opH (P : Program) (inl : FuncId → Bool) (hk : Hk_) : Opx := fun ex call rnd C Γ items ops rest o tail σ nk k => match hk ex C Γ items ops rest o tail σ nk k with
 | some t => t
 | none => stepOp P inl ex call rnd C Γ items ops rest o tail σ nk k
theorem opH_ok {P : Program} {main : Co} {inl : FuncId → Bool} {hk : Hk_} (h : HkOk P main hk) : OpxOk P main (opH P inl hk) where
 good D E ex call rnd hrnd hcall C Γ items items' tail ops i rest rest' o σ k ρ Q F r hr hv hΓ hK ho hh := by
  intro a S hf hw hst hn
  unfold opH at hh
  split at hh
  ·rename_i t ht
   exact h.good D E ex C Γ items items' tail ops i rest rest' o σ k ρ Q F r _ hr hv hΓ hK ho ht hh hf hw hst hn
  ·exact stepOp_good hrnd hcall hr hv hΓ hK ho hh hf hw hst hn
 alloc := ⟨inl, fun ex call rnd C Γ items ops rest o tail σ nk k ho => by
  rcases ho with ⟨t, ho⟩ | ⟨t, n, ps, ho⟩
  ·simp only [opH, h.alloc ex C Γ items ops rest o tail σ nk k t ho]
  ·simp only [opH, h.bs ex C Γ items ops rest o tail σ nk k t n ps ho]⟩
def stepH (P : Program) (inl : FuncId → Bool) (hk : Hk_) (ex : Run_) (call : Call_) (other : Run_) : Run_ := fun C Γ items σ nk k => match items with
 | .inRegion ops (i :: rest) :: tail => match ops[i]? with
  | some o => match symWanted σ.sl ops o with
   | some (.inl true) => match hk ex C Γ items ops rest o tail σ nk k with
    | some t => t
    | none => other C Γ items σ nk k
   | _ => other C Γ items σ nk k
  | none => other C Γ items σ nk k
 | .code (.region _ ops true) :: tail => openX P ops (opH P inl hk) ex call C Γ items tail σ nk k
 | _ => other C Γ items σ nk k
theorem stepH_sound {P : Program} {main : Co} {inl : FuncId → Bool} {hk : Hk_} {ex other : Run_} {call : Call_} (h : HkOk P main hk) (hex : SoundEx P main ex) (hcall : SoundCall P main call) (hother : SoundEx P main other) : SoundEx P main (stepH P inl hk ex call other) := by
 intro D E C r Γ items σ nk k ρ Q F hr hv hΓ hnk hK hE hh a S hf
 have old : holds D E ρ (other C Γ items σ nk k) → wpI P main r items Q a S := fun h => hother D E C r Γ items σ nk k ρ Q F hr hv hΓ hnk hK hE h a S hf
 subst hnk
 unfold stepH at hh
 split at hh
 ·rename_i ops i rest tail
  split at hh
  ·rename_i o ho
   split at hh
   ·rename_i hg
    split at hh
    ·rename_i t ht
     exact h.good D E ex C Γ _ tail tail ops i rest rest o σ k ρ Q F r t hr hv hΓ hK ho ht hh hf (symWanted_inl hf.sl hg) (fun e h => by subst e; exact stuck_ok hE h hf)
      fun ρ' Γ' σ' a' S' he hv' hΓ' hf' _ hh => hex D E C r Γ' _ σ' _ k ρ' Q F (hr.later he) hv' hΓ' rfl (hK.later he) (hE.later he) hh a' S' hf'
    ·exact old hh
   ·exact old hh
  ·exact old hh
 ·exact openX_sound (opH_ok h) hex hcall hr hv hΓ hK hE hh hf
 ·exact old hh
abbrev Xop := Hp → (Operand → Option SC) → Op → Option Eff
def XopOk (P : Program) (xop : Xop) : Prop := ∀ {ρ : Env} {hp : Hp} {F S0 S : Own} {ev : Operand → Option SC} {ev' : Operand → Value} {o : Oper} {e : Eff} [Loud S0], vals ρ → Sat ρ hp F S → EvOk ρ ev ev' → xop hp ev o.op = some e → EffGood P ρ hp S0 S (execOp ev' o) e
def isCall : Op → Bool
 | .call _ => true
 | .load _ _ => true
 | .typeAssert _ _ _ _ => true
 | _ => false
def hExt (xop : Xop) : Hk_ := fun ex C Γ items ops rest o tail σ nk k => match isCall o.op, xop σ.hp (evC σ.sl) o.op with
 | true, some eff => match o.dst.all (· < C.size) with
  | true => some (applyEff Γ o.dst σ nk (fun σ nk => ex C Γ (.inRegion ops rest :: tail) σ nk k) eff)
  | false => none
 | _, _ => none
theorem hExt_ok {P : Program} {main : Co} {xop : Xop} (h : XopOk P xop) : HkOk P main (hExt xop) where
 good D E ex C Γ items items' tail ops i rest rest' o σ k ρ Q F r t hr hv hΓ hK ho ht hh := by
  intro a S hf hw hst hn
  unfold hExt at ht
  split at ht
  ·rename_i eff hcall heff
   split at ht
   ·rename_i hd
    simp only [Option.some.injEq] at ht
    subst ht
    have hpl : plainOp r.round o = true := by
     unfold plainOp
     cases hop : o.op <;> simp
     rw [hop] at hcall; cases hcall
    refine wpI_op ho hw hpl ?_
    haveI := hf.hp.loud
    have hg := h (S0 := S) hv hf.hp (evC_ok hf.sl) heff
    exact Run.mono (applyEff_sound (next := fun a' S' => (∃ v, a'.tmps = (a.put o.dst v).tmps) → wpI P main r (.inRegion ops rest' :: tail) Q a' S') hΓ hg hf hd hh fun ρ' σ' a' S' he hΓ' hf' hh hx => hn ρ' Γ σ' a' S' he (vals_ext he hv) hΓ' hf' hx hh) fun e S' h => upon_tmps h
   ·cases ht
  ·cases ht
 alloc ex C Γ items ops rest o tail σ nk k t ho := by simp only [hExt, ho, isCall]
 bs ex C Γ items ops rest o tail σ nk k t n ps ho := by simp only [hExt, ho, isCall]
open Go Mv Go.Extern
def plainS (P : Program) {α : Type} : Sem α → Option α
 | .pure a => some a
 | .program k => plainS P (k P)
 | _ => none
section
variable {P : Program} {S0 S : Own} {α β : Type}
theorem Run.plain {s : Sem α} {v : α} {K : Except Value α → Own → Prop} (h : plainS P s = some v) (hk : K (.ok v) S) : Run P S0 s S K := by
 induction s with
 | pure a => simp only [plainS, Option.some.injEq] at h; subst h; exact Run.pure hk
 | program k ih => exact Run.program (ih P h)
 | _ => simp [plainS] at h
theorem Run.bindP {s : Sem α} {v : α} {f : α → Sem β} {K : Except Value β → Own → Prop} (h : plainS P s = some v) (hk : Run P S0 (f v) S K) : Run P S0 (s.bind f) S K := Run.bind (Run.plain h hk)
theorem Run.extern {f : FuncId} {args : Array Value} {fn : Func} {e : Array Value → Sem Value} {K : Except Value Next → Own → Prop} (hf : P.funcs[f]? = some fn) (hname : (fn.name == "runtime.NumGoroutine") = false) (hb : fn.body.isNone = true) (hn : Extern.findNext fn = none) (he : Extern.find fn = some e)
  (h : Run P S0 (e args) S fun r S' => match r with | .ok v => K (.ok (.value v)) S' | .error v => K (.error v) S') : Run P S0 (callFunc f args) S K := by
 have h1 : fn.name ≠ "runtime.NumGoroutine" := by simpa using hname
 have h2 : fn.body = none := by simpa using hb
 intro w0 w hin hm
 unfold callFunc
 simp only [bind, program, Sem.bind, okRun, hf, hname, Bool.false_eq_true, if_false, hb, if_true, hn, he]
 refine ⟨trivial, ?_⟩
 exact run_value h w0 w hin hm
end
structure AsLink where
 valueOf : FuncId
 typ : FuncId
 isNil : FuncId
 elemV : FuncId
 setV : FuncId
 typeOf : FuncId
 G : Nat
 tR : TypeId
 tP : TypeId
 tE : TypeId
 tI : TypeId
 kE : Nat
def AsLink.hd (L : AsLink) (t : TypeId) : Value := .pointer (some ⟨L.G, t, none⟩)
structure ExtFn (P : Program) (f : FuncId) (e : Array Value → Sem Value) : Prop where
 ok : ∃ fn, P.funcs[f]? = some fn ∧ (fn.name == "runtime.NumGoroutine") = false ∧ fn.body.isNone = true ∧ Extern.findNext fn = none ∧ Extern.find fn = some e
theorem ExtFn.run {P : Program} {f : FuncId} {e : Array Value → Sem Value} (h : ExtFn P f e) {S0 S : Own} {args : Array Value} {K : Except Value Next → Own → Prop}
  (hr : Run P S0 (e args) S fun r S' => match r with | .ok v => K (.ok (.value v)) S' | .error v => K (.error v) S') : Run P S0 (callFunc f args) S K := by
 obtain ⟨fn, h1, h2, h3, h4, h5⟩ := h.ok
 exact Run.extern h1 h2 h3 h4 h5 hr
def refl (L : AsLink) (t : TypeId) (a : Addr) (fl : Nat) : Value := .agg #[L.hd t, .pointer (some a), .int .u64 fl]
structure AsLib (P : Program) (L : AsLink) : Prop where
 valueOf : ExtFn P L.valueOf fun args => ReflectliteValue.unpack (args.getD 0 (.tuple #[]))
 typ : ExtFn P L.typ (ReflectliteValue.methodAny (ReflectliteValue.valueError "reflectlite.Value.Type" 0) fun t _ _ _ => ReflectliteType.toType t)
 isNil : ExtFn P L.isNil (ReflectliteValue.method (ReflectliteValue.valueError "reflectlite.Value.IsNil" 0) ReflectliteValue.isNil)
 elemV : ExtFn P L.elemV (ReflectliteValue.method (ReflectliteValue.valueError "reflectlite.Value.Elem" 0) ReflectliteValue.elem)
 setV : ExtFn P L.setV ReflectliteValue.set
 typeOf : ExtFn P L.typeOf ReflectliteType.typeOf
 mkP : ∀ a, plainS P (ReflectliteValue.mk L.tP a 0) = some (refl L L.tP a 150)
 mkE : ∀ a, plainS P (ReflectliteValue.mk L.tE a 0) = some (refl L L.tE a (L.kE + 128))
 mkA : ∀ a, plainS P (ReflectliteValue.mk L.tE a 256) = some (refl L L.tE a (L.kE + 384))
 type_ : ∀ a, plainS P (ReflectliteValue.methodAny (ReflectliteValue.valueError "reflectlite.Value.Type" 0) (fun t _ _ _ => ReflectliteType.toType t) #[refl L L.tP a 150]) = some (.iface L.tR (.agg #[L.hd L.tP]))
 partsP : ∀ a, plainS P (ReflectliteValue.parts (refl L L.tP a 150)) = some (some (L.tP, a, 150))
 partsE : ∀ a, plainS P (ReflectliteValue.parts (refl L L.tE a (L.kE + 128))) = some (some (L.tE, a, L.kE + 128))
 partsA : ∀ a, plainS P (ReflectliteValue.parts (refl L L.tE a (L.kE + 384))) = some (some (L.tE, a, L.kE + 384))
 flag : (L.kE + 384) / 256 % 2 = 1
 elem? : plainS P (Rtype.elem? L.tP) = some (some L.tE)
 direct : plainS P (Rtype.directlyAssignable L.tE L.tE) = some true
 typeOf_ : ∀ v, plainS P (ReflectliteType.typeOf #[.iface L.tE v]) = some (.iface L.tR (.agg #[L.hd L.tE]))
 kindP : ∃ f e, (∀ h, plainS P (Go.method (P.types.size + Made.depth) L.tR (.agg #[h]) "Kind") = some (f, h)) ∧ ExtFn P f e ∧ plainS P (e #[L.hd L.tP]) = some (.int .u8 22) ∧ plainS P (e #[L.hd L.tE]) = some (.int .u8 L.kE)
 elemT : ∃ f e, (∀ h, plainS P (Go.method (P.types.size + Made.depth) L.tR (.agg #[h]) "Elem") = some (f, .agg #[h])) ∧ ExtFn P f e ∧ plainS P (e #[.agg #[L.hd L.tP]]) = some (.iface L.tR (.agg #[L.hd L.tE]))
 impl : ∃ f e, (∀ h, plainS P (Go.method (P.types.size + Made.depth) L.tR (.agg #[h]) "Implements") = some (f, .agg #[h])) ∧ ExtFn P f e ∧ plainS P (e #[.agg #[L.hd L.tE], .iface L.tR (.agg #[L.hd L.tI])]) = some (.bool true)
 assign : ∃ f e, (∀ h, plainS P (Go.method (P.types.size + Made.depth) L.tR (.agg #[h]) "AssignableTo") = some (f, .agg #[h])) ∧ ExtFn P f e ∧ plainS P (e #[.agg #[L.hd L.tE], .iface L.tR (.agg #[L.hd L.tE])]) = some (.bool true)
def isHd (L : AsLink) (t : TypeId) : SC → Bool
 | .lit (.pointer (some ⟨g, u, none⟩)) => Nat.beq g L.G && Nat.beq u t
 | _ => false
def isFl (n : Nat) : SC → Bool
 | .lit (.int .u64 (.ofNat m)) => Nat.beq m n
 | _ => false
def asRefl (L : AsLink) (t : TypeId) (fl : Nat) : SC → Option (Nat × Nat)
 | .agg [h, .ptr b (.lit (.ofNat off)), f] => match isHd L t h && isFl fl f with
  | true => some (b, off)
  | false => none
 | _ => none
def isRt (L : AsLink) (t : TypeId) : SC → Bool
 | .iface r (.agg [h]) => Nat.beq r L.tR && isHd L t h
 | _ => false
def rtOf (L : AsLink) (t : TypeId) : SC := .iface L.tR (.agg [.lit (L.hd t)])
def xValueOf (L : AsLink) : List SC → Option Eff
 | [.iface t v] => match Nat.beq t L.tP, Nat.beq t L.tE, cellsOf v with
  | true, _, some l => match l.all SC.single with
   | true => some (.fresh [] (.cells l t) (.held (L.hd L.tP) (.int .u64 150)))
   | false => none
  | false, true, some l => match l.all SC.single with
   | true => some (.fresh [] (.cells l t) (.held (L.hd L.tE) (.int .u64 (L.kE + 128 : Nat))))
   | false => none
  | _, _, _ => none
 | _ => none
def xTyp (L : AsLink) : List SC → Option Eff
 | [v] => match asRefl L L.tP 150 v with
  | some _ => some (.val [] (rtOf L L.tP))
  | none => none
 | _ => none
def xIsNil (P : Program) (L : AsLink) (hp : Hp) : List SC → Option Eff
 | [v] => match asRefl L L.tP 150 v with
  | some (b, off) => match hp.get b with
   | some o => match rowOf o with
    | some l => match symPart P L.tP l off with
     | some (.ptr _ _) => some (.val [] (.bool (.lit false)))
     | _ => none
    | none => none
   | none => none
  | none => none
 | _ => none
def xElemV (P : Program) (L : AsLink) (hp : Hp) : List SC → Option Eff
 | [v] => match asRefl L L.tP 150 v with
  | some (b, off) => match hp.get b with
   | some o => match rowOf o with
    | some l => match symPart P L.tP l off with
     | some (.ptr d x) => some (.val [] (.agg [.lit (L.hd L.tE), .ptr d x, .lit (.int .u64 (L.kE + 384 : Nat))]))
     | _ => none
    | none => none
   | none => none
  | none => none
 | _ => none
def xSet (P : Program) (L : AsLink) (hp : Hp) : List SC → Option Eff
 | [u, v] => match asRefl L L.tE (L.kE + 384) u, asRefl L L.tE (L.kE + 128) v with
  | some (d, off), some (s, so) => match hp.get s, hp.rw.look d with
   | some o, some od => match rowOf o, rowOf od with
    | some l, some ld => match symPart P L.tE l so with
     | some x => match cellsOf x with
      | some new => match (decide (sizeT P L.tE = some new.length)) && new.all SC.single && Nat.ble (off + new.length) ld.length with
       | true => some (.both [] d (rowWith (splice ld off new) od) (.tup []))
       | false => none
      | none => none
     | none => none
    | _, _ => none
   | _, _ => none
  | _, _ => none
 | _ => none
def xTypeOf (L : AsLink) : List SC → Option Eff
 | [.iface t _] => match Nat.beq t L.tE with
  | true => some (.val [] (rtOf L L.tE))
  | false => none
 | _ => none
def xFun (P : Program) (L : AsLink) (hp : Hp) (f : FuncId) (args : List SC) : Option Eff :=
 match Nat.beq f L.valueOf with
 | true => xValueOf L args
 | false => match Nat.beq f L.typ with
  | true => xTyp L args
  | false => match Nat.beq f L.isNil with
   | true => xIsNil P L hp args
   | false => match Nat.beq f L.elemV with
    | true => xElemV P L hp args
    | false => match Nat.beq f L.setV with
     | true => xSet P L hp args
     | false => match Nat.beq f L.typeOf with
      | true => xTypeOf L args
      | false => none
def xMeth (L : AsLink) (recv : SC) (name : String) (args : List SC) : Option Eff := match args with
 | [] => match name == "Kind" with
  | true => match isRt L L.tP recv, isRt L L.tE recv with
   | true, _ => some (.val [] (.int .u8 (.lit 22)))
   | false, true => some (.val [] (.int .u8 (.lit (.ofNat L.kE))))
   | _, _ => none
  | false => match name == "Elem", isRt L L.tP recv with
   | true, true => some (.val [] (rtOf L L.tE))
   | _, _ => none
 | [x] => match name == "Implements" with
  | true => match isRt L L.tE recv, isRt L L.tI x with
   | true, true => some (.val [] (.bool (.lit true)))
   | _, _ => none
  | false => match name == "AssignableTo", isRt L L.tE recv, isRt L L.tE x with
   | true, true, true => some (.val [] (.bool (.lit true)))
   | _, _, _ => none
 | _ => none
def xAs (P : Program) (L : AsLink) : Xop := fun hp ev op => match op with
 | .call c => match c.callee with
  | .value g => match ev g, evs ev c.args.toList with
   | some (.fn (.func f) [] []), some args => xFun P L hp f args
   | _, _ => none
  | .invoke x name => match ev x, evs ev c.args.toList with
   | some recv, some args => xMeth L recv name args
   | _, _ => none
  | _ => none
 | .load t x => match ev x with
  | some (.lit (.pointer (some ⟨g, 0, none⟩))) => match Nat.ble g 15, hp.get g with
   | true, some o => match rowOf o with
    | some l => match symPart P t l 0 with
     | some v => some (.val [] v)
     | none => none
    | none => none
   | _, _ => none
  | _ => none
 | _ => none
section
variable {P : Program} {L : AsLink} {ρ : Env} {hp : Hp} {F S0 S : Own} {e : Eff}
theorem isHd_den {t : TypeId} {x : SC} (h : isHd L t x = true) : x.den ρ = L.hd t := by
 unfold isHd at h
 split at h
 ·simp only [Bool.and_eq_true, Nat.beq_eq] at h
  simp [SC.den, AsLink.hd, h.1, h.2]
 ·cases h
theorem isFl_den {n : Nat} {x : SC} (h : isFl n x = true) : x.den ρ = .int .u64 (n : Nat) := by
 unfold isFl at h
 split at h
 ·simp only [Nat.beq_eq] at h
  subst h; rfl
 ·cases h
theorem asRefl_den {t : TypeId} {fl : Nat} {v : SC} {b off : Nat} (h : asRefl L t fl v = some (b, off)) : v.den ρ = refl L t ⟨ρ.blk b, off, none⟩ fl := by
 unfold asRefl at h
 split at h
 ·split at h
  ·rename_i hh
   simp only [Bool.and_eq_true] at hh
   simp only [Option.some.injEq, Prod.mk.injEq] at h
   obtain ⟨rfl, rfl⟩ := h
   simp [SC.den, dens, isHd_den hh.1, isFl_den hh.2, refl, IE.den]
  ·cases h
 ·cases h
theorem isRt_den {t : TypeId} {v : SC} (h : isRt L t v = true) : v.den ρ = .iface L.tR (.agg #[L.hd t]) := by
 unfold isRt at h
 split at h
 ·simp only [Bool.and_eq_true, Nat.beq_eq] at h
  obtain ⟨rfl, h⟩ := h
  simp [SC.den, dens, isHd_den h]
 ·cases h
theorem rtOf_den {t : TypeId} : (rtOf L t).den ρ = .iface L.tR (.agg #[L.hd t]) := by simp [rtOf, SC.den, dens]
theorem meth_run {f : FuncId} {e : Array Value → Sem Value} {name : String} {h x : Value} {rest : Array Value} {v : Value} (hm : plainS P (Go.method (P.types.size + Made.depth) L.tR (.agg #[h]) name) = some (f, x)) (he : ExtFn P f e) (hv : plainS P (e (#[x] ++ rest)) = some v) {K : Except Value Next → Own → Prop} (hK : K (.ok (.value v)) S) :
  Run P S0 (callMethod (.iface L.tR (.agg #[h])) name rest) S K := by
 show Run P S0 (Sem.program fun p => (Go.method (p.types.size + Made.depth) L.tR (.agg #[h]) name).bind fun y => callFunc y.1 (#[y.2] ++ rest)) S K
 refine Run.program (Run.bindP hm ?_)
 exact he.run (Run.plain hv hK)
theorem xMeth_good (H : AsLib P L) {ev : Operand → Option SC} {ev' : Operand → Value} {o : Oper} {x : Operand} {name : String} {c : Call} {recv : SC} {args : List SC} (hev : EvOk ρ ev ev') (hop : o.op = .call c) (hc : c.callee = .invoke x name) (hx : ev x = some recv) (ha : evs ev c.args.toList = some args) (h : xMeth L recv name args = some e) : EffGood P ρ hp S0 S (execOp ev' o) e := by
 have hx' := (hev x _ hx).2
 have ha' := evs_den hev _ _ ha
 have hargs : c.args.map ev' = (args.map (SC.den ρ)).toArray := by
  apply Array.ext'
  simpa using ha'.1
 have hred : execOp ev' o = callMethod (recv.den ρ) name (args.map (SC.den ρ)).toArray := by
  simp only [execOp, hop, resolve, hc, hargs]
  show invoke (.fn (.method name) #[]) (#[ev' x] ++ (args.map (SC.den ρ)).toArray) = _
  simp only [invoke]
  have e0 : (#[ev' x] ++ (List.map (SC.den ρ) args).toArray)[0]? = some (ev' x) := by simp
  have e1 : (#[ev' x] ++ (List.map (SC.den ρ) args).toArray).extract 1 (#[ev' x] ++ (List.map (SC.den ρ) args).toArray).size = (List.map (SC.den ρ) args).toArray := by
   apply Array.ext'
   simp
   exact List.take_of_length_le (by simp)
  rw [e0, e1, hx']
 rw [hred]
 unfold xMeth at h
 split at h
 ·split at h
  ·rename_i hn
   obtain rfl : name = "Kind" := by simpa using hn
   obtain ⟨f, ex, h1, h2, h3, h4⟩ := H.kindP
   split at h
   ·rename_i hr
    simp only [Option.some.injEq] at h; subst h
    rw [isRt_den hr]
    exact ⟨fun _ K hK => meth_run (v := .int .u8 22) (h1 _) h2 (by simpa using h3) hK, trivial⟩
   ·rename_i hr
    simp only [Option.some.injEq] at h; subst h
    rw [isRt_den hr]
    exact ⟨fun _ K hK => meth_run (v := .int .u8 L.kE) (h1 _) h2 (by simpa using h4) hK, trivial⟩
   ·cases h
  ·split at h
   ·rename_i hn hr
    obtain rfl : name = "Elem" := by simpa using hn
    obtain ⟨f, ex, h1, h2, h3⟩ := H.elemT
    simp only [Option.some.injEq] at h; subst h
    rw [isRt_den hr]
    exact ⟨fun _ K hK => meth_run (h1 _) h2 (by simpa using h3) (by rw [rtOf_den] at hK; exact hK), ⟨trivial, trivial⟩⟩
   ·cases h
 ·split at h
  ·rename_i hn
   obtain rfl : name = "Implements" := by simpa using hn
   obtain ⟨f, ex, h1, h2, h3⟩ := H.impl
   split at h
   ·rename_i hr hy
    simp only [Option.some.injEq] at h; subst h
    rw [isRt_den hr]
    simp only [List.map_cons, List.map_nil, isRt_den hy]
    exact ⟨fun _ K hK => meth_run (v := .bool true) (h1 _) h2 (by simpa using h3) hK, trivial⟩
   ·cases h
  ·split at h
   ·rename_i hn hr hy
    obtain rfl : name = "AssignableTo" := by simpa using hn
    obtain ⟨f, ex, h1, h2, h3⟩ := H.assign
    simp only [Option.some.injEq] at h; subst h
    rw [isRt_den hr]
    simp only [List.map_cons, List.map_nil, isRt_den hy]
    exact ⟨fun _ K hK => meth_run (v := .bool true) (h1 _) h2 (by simpa using h3) hK, trivial⟩
   ·cases h
 ·cases h
theorem xFun_good [Loud S0] (H : AsLib P L) (hv : vals ρ) (hs : Sat ρ hp F S) {f : FuncId} {args : List SC} (hok : ∀ x ∈ args, x.ok ρ.k.length) (h : xFun P L hp f args = some e) : EffGood P ρ hp S0 S (callFunc f (args.map (SC.den ρ)).toArray) e := by
 unfold xFun at h
 split at h
 ·
  rename_i hf
  obtain rfl := Nat.eq_of_beq_eq_true hf
  unfold xValueOf at h
  split at h
  ·rename_i t v
   have hvok : v.ok ρ.k.length := hok (.iface t v) List.mem_cons_self
   split at h
   ·rename_i l ht hc
    obtain rfl := Nat.eq_of_beq_eq_true ht
    split at h
    ·rename_i h1
     simp only [Option.some.injEq] at h; subst h
     refine ⟨fun _ K hK => H.valueOf.run ?_, cellsOf_ok hc hvok⟩
     show Run P S0 ((newVar L.tP (v.den ρ)).bind fun a => ReflectliteValue.mk L.tP a 0) S _
     exact run_newVar hv hc h1 fun r h2 h3 => Run.plain (H.mkP _) (hK r h2 h3)
    ·cases h
   ·rename_i l _ ht hc
    obtain rfl := Nat.eq_of_beq_eq_true ht
    split at h
    ·rename_i h1
     simp only [Option.some.injEq] at h; subst h
     refine ⟨fun _ K hK => H.valueOf.run ?_, cellsOf_ok hc hvok⟩
     show Run P S0 ((newVar L.tE (v.den ρ)).bind fun a => ReflectliteValue.mk L.tE a 0) S _
     exact run_newVar hv hc h1 fun r h2 h3 => Run.plain (H.mkE _) (hK r h2 h3)
    ·cases h
   ·cases h
  ·cases h
 ·split at h
  ·
   rename_i hf
   obtain rfl := Nat.eq_of_beq_eq_true hf
   unfold xTyp at h
   split at h
   ·rename_i v
    split at h
    ·rename_i y hy
     simp only [Option.some.injEq] at h; subst h
     refine ⟨fun _ K hK => H.typ.run ?_, ⟨trivial, trivial⟩⟩
     simp only [List.map_cons, List.map_nil, asRefl_den hy]
     rw [rtOf_den] at hK
     exact Run.plain (H.type_ _) hK
    ·cases h
   ·cases h
  ·split at h
   ·
    rename_i hf
    obtain rfl := Nat.eq_of_beq_eq_true hf
    unfold xIsNil at h
    split at h
    ·rename_i v
     split at h
     ·rename_i b off hy
      split at h
      ·rename_i o hb
       obtain ⟨_, hso, hget⟩ := hs.get hb
       split at h
       ·rename_i l hr
        obtain ⟨te, tail, hden, _⟩ := rowOf_den (ρ := ρ) hr
        rw [hden] at hget
        split at h
        ·rename_i d x hp
         simp only [Option.some.injEq] at h; subst h
         refine ⟨fun _ K hK => H.isNil.run ?_, trivial⟩
         simp only [List.map_cons, List.map_nil, asRefl_den hy]
         show Run P S0 ((ReflectliteValue.parts (refl L L.tP ⟨ρ.blk b, off, none⟩ 150)).bind _) S _
         refine Run.bindP (H.partsP _) ?_
         show Run P S0 ((loadVar L.tP ⟨ρ.blk b, off, none⟩).bind _) S _
         refine Run.bind (run_loadVar hget hp ?_)
         exact Run.pure hK
        ·cases h
       ·cases h
      ·cases h
     ·cases h
    ·cases h
   ·split at h
    ·
     rename_i hf
     obtain rfl := Nat.eq_of_beq_eq_true hf
     unfold xElemV at h
     split at h
     ·rename_i v
      split at h
      ·rename_i b off hy
       split at h
       ·rename_i o hb
        obtain ⟨_, hso, hget⟩ := hs.get hb
        split at h
        ·rename_i l hr
         obtain ⟨te, tail, hden, _⟩ := rowOf_den (ρ := ρ) hr
         rw [hden] at hget
         split at h
         ·rename_i d x hp
          simp only [Option.some.injEq] at h; subst h
          have hx := symPart_ok hp (rowOf_ok hr hso)
          refine ⟨fun _ K hK => H.elemV.run ?_, ⟨trivial, hx, trivial, trivial⟩⟩
          simp only [List.map_cons, List.map_nil, asRefl_den hy]
          show Run P S0 ((ReflectliteValue.parts (refl L L.tP ⟨ρ.blk b, off, none⟩ 150)).bind _) S _
          refine Run.bindP (H.partsP _) ?_
          show Run P S0 ((loadVar L.tP ⟨ρ.blk b, off, none⟩).bind _) S _
          refine Run.bind (run_loadVar hget hp ?_)
          refine Run.bindP H.elem? ?_
          show Run P S0 (ReflectliteValue.mk L.tE ⟨ρ.blk d, (x.den ρ).toNat, none⟩ 256) S _
          exact Run.plain (H.mkA _) hK
         ·cases h
        ·cases h
       ·cases h
      ·cases h
     ·cases h
    ·split at h
     ·
      rename_i hf
      obtain rfl := Nat.eq_of_beq_eq_true hf
      unfold xSet at h
      split at h
      ·rename_i u v
       split at h
       ·rename_i d off s so hu hw
        split at h
        ·rename_i o od hb hd
         obtain ⟨_, hso, hget⟩ := hs.get hb
         obtain ⟨_, hsd, hfull⟩ := hs.has _ _ hd
         split at h
         ·rename_i l ld hr hrd
          obtain ⟨te, tail, hden, _⟩ := rowOf_den (ρ := ρ) hr
          obtain ⟨ted, taild, hdend, hwith⟩ := rowOf_den (ρ := ρ) hrd
          rw [hden] at hget
          rw [hdend] at hfull
          split at h
          ·rename_i x hp
           have hx := symPart_ok hp (rowOf_ok hr hso)
           split at h
           ·rename_i new hc
            split at h
            ·rename_i hcond
             simp only [Bool.and_eq_true, decide_eq_true_eq] at hcond
             simp only [Option.some.injEq] at h; subst h
             refine ⟨⟨⟨_, hd⟩, fun _ K hK => H.setV.run ?_⟩, rowWith_ok hrd hsd (splice_ok (rowOf_ok hrd hsd) (cellsOf_ok hc hx)), trivial⟩
             simp only [List.map_cons, List.map_nil, asRefl_den hu, asRefl_den hw]
             show Run P S0 ((ReflectliteValue.parts (refl L L.tE ⟨ρ.blk d, off, none⟩ (L.kE + 384))).bind _) S _
             refine Run.bindP (H.partsA _) ?_
             show Run P S0 ((ReflectliteValue.parts (refl L L.tE ⟨ρ.blk s, so, none⟩ (L.kE + 128))).bind _) S _
             refine Run.bindP (H.partsE _) ?_
             have hfl : ((L.kE + 384) / ReflectliteValue.flagAddr % 2 == 0) = false := by
              have := H.flag
              simp [ReflectliteValue.flagAddr, this]
             simp only [hfl, Bool.false_eq_true, if_false]
             show Run P S0 ((loadVar L.tE ⟨ρ.blk s, so, none⟩).bind _) S _
             refine Run.bind (run_loadVar hget hp ?_)
             show Run P S0 ((Rtype.directlyAssignable L.tE L.tE).bind _) S _
             refine Run.bindP H.direct ?_
             show Run P S0 ((storeVar L.tE ⟨ρ.blk d, off, none⟩ (x.den ρ)).bind _) S _
             refine Run.bind (Run.mono (run_storeVar (K := fun r S' => r = .ok () ∧ S' = S.set (ρ.blk d) ((rowWith (splice ld off new) od).den ρ)) hv hfull hc hcond.1.2 hcond.1.1 (Nat.le_of_ble_eq_true hcond.2) ⟨rfl, by rw [hwith]⟩) ?_)
             rintro r S' ⟨rfl, rfl⟩
             exact Run.pure hK
            ·cases h
           ·cases h
          ·cases h
         ·cases h
        ·cases h
       ·cases h
      ·cases h
     ·split at h
      ·
       rename_i hf
       obtain rfl := Nat.eq_of_beq_eq_true hf
       unfold xTypeOf at h
       split at h
       ·rename_i t v
        split at h
        ·rename_i ht
         obtain rfl := Nat.eq_of_beq_eq_true ht
         simp only [Option.some.injEq] at h; subst h
         refine ⟨fun _ K hK => H.typeOf.run ?_, ⟨trivial, trivial⟩⟩
         rw [rtOf_den] at hK
         exact Run.plain (H.typeOf_ _) hK
        ·cases h
       ·cases h
      ·cases h
theorem xAs_ok (H : AsLib P L) : XopOk P (xAs P L) := by
 intro ρ hp F S0 S ev ev' o e _ hv hs hev h
 unfold xAs at h
 split at h
 ·rename_i c hop
  split at h
  ·rename_i g hc
   split at h
   ·rename_i f args hg ha
    have hcal : calleeOf ev c = some (f, args, []) := by simp only [calleeOf, hc, hg, ha, List.nil_append]
    obtain ⟨h1, h2, h3⟩ := calleeOf_run hev hcal o.type
    have hred : execOp ev' o = callFunc f ((args.map (SC.den ρ)).toArray ++ (([] : List SC).map (SC.den ρ)).toArray) := by
     simp only [execOp, hop, h3, invoke]
     rfl
    rw [hred]
    have e1 : (args.map (SC.den ρ)).toArray ++ (([] : List SC).map (SC.den ρ)).toArray = (args.map (SC.den ρ)).toArray := by simp
    rw [e1]
    exact xFun_good H hv hs h1 h
   ·cases h
  ·rename_i x name hc
   split at h
   ·rename_i recv args hx ha
    exact xMeth_good H hev hop hc hx ha h
   ·cases h
  ·cases h
 ·rename_i t x hop
  split at h
  ·rename_i g hx
   obtain ⟨_, hx'⟩ := hev x _ hx
   split at h
   ·rename_i so hg hb
    obtain ⟨_, hso, hget⟩ := hs.get hb
    rw [(hv.low g (Nat.lt_of_le_of_lt (Nat.le_of_ble_eq_true hg) (by decide))).2] at hget
    split at h
    ·rename_i l hr
     obtain ⟨te, tail, hden, _⟩ := rowOf_den (ρ := ρ) hr
     rw [hden] at hget
     split at h
     ·rename_i v hp
      simp only [Option.some.injEq] at h; subst h
      refine good_val (s := Instr.loadAt t (ev' x)) (by simp only [execOp, hop]) (symPart_ok hp (rowOf_ok hr hso)) fun _ K hK => ?_
      rw [hx']
      show Run P S0 ((Instr.sureAddr (.pointer (some ⟨g, 0, none⟩))).bind fun a => loadVar t a) _ K
      exact run_loadVar hget hp hK
     ·cases h
    ·cases h
   ·cases h
  ·cases h
 ·cases h
end
end Mw
namespace Mv
open Go
open Go.Conc (crowd Leavers Past QuitsD Deaf EvL AtRel)
open Go.ConcN (sumTo upd)
def NoRel (Shun : Loc → Prop) (t : Trace) : Prop := ∀ op ∈ t, ∀ a : Addr, op.act = .mark (.release a) → Shun (.cell a)
theorem NoRel.app {Shun : Loc → Prop} {t u : Trace} (h : NoRel Shun t) (hu : ∀ op ∈ u, ∀ a : Addr, op.act ≠ .mark (.release a)) : NoRel Shun (t ++ u) := fun op hop a ha => by
 rcases Array.mem_append.1 hop with h1 | h1
 ·exact h op h1 a ha
 ·exact absurd ha (hu op h1 a)
theorem norel_mute {i : Nat} {fn : FuncId} {pos : String} {es : Array Event} (hm : ∀ e ∈ es, Event.mute e = true) : ∀ op ∈ MemOp.ofEvents i fn pos es, ∀ a : Addr, op.act ≠ .mark (.release a) := by
 intro op hop a
 obtain ⟨e, he, rfl⟩ := Go.Conc.mem_ofEvents hop
 have hme := hm e he
 obtain ⟨loc, wr, sy⟩ := e
 cases loc with
 | mark m => cases m <;> simp_all [Event.mute, MemAct.ofEvent]
 | obj c => cases wr <;> cases sy <;> simp [MemAct.ofEvent]
 | _ => simp [MemAct.ofEvent]
theorem norel_ev {S : Own} {N : Nat} {i : Nat} {fn : FuncId} {pos : String} {es : Array Event} (hm : ∀ e ∈ es, Ev S N e) : ∀ op ∈ MemOp.ofEvents i fn pos es, ∀ a : Addr, op.act ≠ .mark (.release a) := by
 intro op hop a'
 obtain ⟨e, he, rfl⟩ := Go.Conc.mem_ofEvents hop
 have h1 := hm e he
 obtain ⟨loc, wr, sy⟩ := e
 unfold Ev at h1
 cases loc with
 | cell a => simp [MemAct.ofEvent]
 | obj r => cases wr <;> cases sy <;> simp [MemAct.ofEvent]
 | mark m => cases m <;> first | exact h1.elim | simp [MemAct.ofEvent]
 | _ => exact h1.elim
structure Stand (P : Program) (g : Goroutine) (S : Own) (gs : Array Goroutine) (w : World) (t : Trace) (Shun : Loc → Prop) (B : Nat) (q : Nat → Nat) : Prop where
 h0 : gs[0]? = some g
 lv : Leavers P t gs q
 past : Past Shun B t
 inn : S.In w
 cell : ∀ a : Addr, Shun (.cell a) → a.block < w.heap.size ∧ S.full a.block = none ∧ S.ro a.block = none
 obj : ∀ r : Nat, Shun (.obj r) → r < w.heap.size ∧ S.full r = none ∧ S.ro r = none
 low : B ≤ w.heap.size
 norel : NoRel Shun t
theorem ev_evL {S : Own} {N M : Nat} {Shun : Loc → Prop} {e : Event} (hc : ∀ a : Addr, Shun (.cell a) → a.block < N ∧ S.full a.block = none ∧ S.ro a.block = none)
  (ho : ∀ r : Nat, Shun (.obj r) → r < N ∧ S.full r = none ∧ S.ro r = none) (h : Ev S N e) (hl : lowE M e) : EvL Shun M e := by
 obtain ⟨loc, wr, sy⟩ := e
 unfold Ev at h
 unfold lowE at hl
 cases loc with
 | cell a =>
  obtain ⟨hs, h⟩ := h
  simp only at hs; subst hs
  refine ⟨fun x hx hsh => ?_, by simp, by simp, ?_⟩
  ·simp only [MemAct.ofEvent, MemAct.touch?, Option.some.injEq] at hx
   subst hx
   obtain ⟨h1, h2, h3⟩ := hc a hsh
   rcases h with h | h | ⟨_, h⟩
   ·exact absurd h1 (Nat.not_lt.2 h)
   ·simp [h2] at h
   ·simp [h3] at h
  ·simpa [MemAct.ofEvent, Go.MemAct.low, Go.Loc.low] using hl
 | obj r =>
  obtain ⟨hs, h⟩ := h
  simp only at hs; subst hs
  refine ⟨fun x hx hsh => ?_, by simp, by simp, ?_⟩
  ·simp only [MemAct.ofEvent, MemAct.touch?, Option.some.injEq] at hx
   subst hx
   obtain ⟨h1, h2, h3⟩ := ho r hsh
   rcases h with h | h | ⟨_, h⟩
   ·exact absurd h1 (Nat.not_lt.2 h)
   ·simp [h2] at h
   ·simp [h3] at h
  ·simpa [MemAct.ofEvent, Go.MemAct.low, Go.Loc.low] using hl
 | mark m =>
  cases m with
  | extern f => exact ⟨fun x hx _ => by simp [MemAct.ofEvent, MemAct.touch?] at hx, by simp, by simp, by simp [MemAct.ofEvent, Go.MemAct.low]⟩
  | noRoom => exact ⟨fun x hx _ => by simp [MemAct.ofEvent, MemAct.touch?] at hx, by simp, by simp, by simp [MemAct.ofEvent, Go.MemAct.low]⟩
  | _ => exact h.elim
 | _ => exact h.elim
section
variable {P : Program}
theorem In.at {S : Own} {w : World} (h : S.In w) (d : Nat) : S.In (w.at d) := ⟨h.lay, h.layro, h.disj⟩
theorem slip {gs : Array Goroutine} {w : World} {sl : Option (Nat × Nat)} {t : Trace} {Shun : Loc → Prop} {B : Nat} {q : Nat → Nat} {a g : Goroutine} {i : Nat} (hL : Leavers P t gs q) (hP : Past Shun B t) (h0 : gs[0]? = some a) (har : a.status = .running)
  (hpos : 0 < i) (hi : gs[i]? = some g) (hg : g.status = .running) :
  ∃ gs' t' q' ops, runT P (crowd gs w sl) i = (.next (crowd gs' w sl), ops) ∧ t' = t ++ ops ∧ gs'.size = gs.size ∧ gs'[0]? = some a ∧ Leavers P t' gs' q' ∧ Past Shun B t' ∧ (∀ op ∈ ops, ∀ a : Addr, op.act ≠ .mark (.release a)) ∧ sumTo gs'.size q' < sumTo gs.size q := by
 have hq := hL.old i g hpos hi
 have hi0 : (i == 0) = false := by simp; omega
 have hlt : i < gs.size := (Array.getElem?_eq_some_iff.1 hi).1
 cases hqi : q i with
 | zero => rw [hqi] at hq; rw [hq.1] at hg; cases hg
 | succ k =>
  rw [hqi] at hq
  rcases hq with ⟨hf, _⟩ | ⟨_, g', es, hm, hstp, hq'⟩
  ·rw [hf] at hg; cases hg
  have hrunT := Go.Conc.runT_crowd_go (P := P) (w := w) (sl := sl) (i := i) hi (by rw [hi0]; exact hstp w)
  have hsz : ((gs.map (Go.Conc.woken P g g' w)).setIfInBounds i g').size = gs.size := by simp
  refine ⟨_, _, upd q i k, _, hrunT, rfl, hsz, ?_, ⟨fun j x hj hx => ?_, fun j hj => ?_⟩, hP.mute (by omega) hm, norel_mute hm, ?_⟩
  ·have hne : i ≠ 0 := by omega
   rw [Array.getElem?_setIfInBounds_ne hne, Array.getElem?_map, h0]
   simp [Go.Conc.woken_run har]
  ·by_cases hji : i = j
   ·subst hji
    rw [Array.getElem?_setIfInBounds_self_of_lt (by simpa using hlt)] at hx
    obtain rfl := Option.some.inj hx
    rw [Go.ConcN.upd_same, Go.Conc.Deaf_own]
    exact hq'
   ·rw [Array.getElem?_setIfInBounds_ne hji, Array.getElem?_map] at hx
    obtain ⟨y, hy, rfl⟩ := Option.map_eq_some_iff.1 hx
    have hqj := hL.old j y hj hy
    rw [Go.Conc.woken_quitsD hqj, Go.ConcN.upd_ne q k (Ne.symm hji), Go.Conc.Deaf_other t hji _ (fun op hop => by obtain ⟨e, _, rfl⟩ := Go.Conc.mem_ofEvents hop; rfl)]
    exact hqj
  ·rw [Go.Conc.Deaf_other t (g' := i) (by simp at hj; omega) _ (fun op hop => by obtain ⟨e, _, rfl⟩ := Go.Conc.mem_ofEvents hop; rfl)]
   exact hL.above j (by simpa using hj)
  ·rw [hsz]
   have hsum : sumTo gs.size (upd q i k) + (k + 1) = sumTo gs.size q + k := by
    have := Go.ConcN.sumTo_upd q k id hlt
    simpa [hqi] using this
   omega
theorem all_awake {gs : Array Goroutine} {t : Trace} {q : Nat → Nat} {a : Goroutine} (h0 : gs[0]? = some a) (har : a.status = .running) (hL : Leavers P t gs q) : ∀ g ∈ gs, Go.Conc.awake g := by
 intro g hg
 obtain ⟨i, hi, rfl⟩ := Array.mem_iff_getElem.1 hg
 rcases Nat.eq_zero_or_pos i with rfl | hpos
 ·have : gs[0] = a := by simpa [Array.getElem?_eq_getElem hi] using h0
  rw [this]; exact Go.Conc.awake_of (.inl har)
 ·exact Go.Conc.awake_of ((hL.old i _ hpos (Array.getElem?_eq_getElem hi)).status.elim .inl fun x => .inr (.inr x))
theorem turn {a : Goroutine} (har : a.status = .running) : ∀ (M : Nat) (gs : Array Goroutine) (w : World) (sl : Option (Nat × Nat)) (t : Trace) (q : Nat → Nat) (Shun : Loc → Prop) (B : Nat), sumTo gs.size q ≤ M → gs[0]? = some a → Leavers P t gs q → Past Shun B t → NoRel Shun t →
  ∃ N gs1 d sl1 t1 q1, runNT P N (crowd gs w sl) t = runNT P 0 (crowd gs1 (w.at d) sl1) t1 ∧ gs1[0]? = some a ∧ Leavers P t1 gs1 q1 ∧ Past Shun B t1 ∧ NoRel Shun t1 ∧
   ∃ d' sl', stepT P (crowd gs1 (w.at d) sl1) = runT P (crowd gs1 (w.at d') sl') 0 := by
 intro M
 induction M with
 | zero =>
  intro gs w sl t q Shun B hM h0 hL hP hR
  obtain ⟨i, g, d, sl', hi, hg, hst⟩ := Go.Conc.crowd_pick (P := P) (w := w) (sl := sl) (all_awake h0 har hL) ⟨0, a, h0, har⟩
  rcases Nat.eq_zero_or_pos i with rfl | hpos
  ·exact ⟨0, gs, w.drawn, sl, t, q, rfl, h0, hL, hP, hR, d, sl', hst⟩
  ·obtain ⟨gs', t', q', ops, _, _, _, _, _, _, _, hlt⟩ := slip (w := w.at d) (sl := sl') hL hP h0 har hpos hi hg
   omega
 | succ M ih =>
  intro gs w sl t q Shun B hM h0 hL hP hR
  obtain ⟨i, g, d, sl', hi, hg, hst⟩ := Go.Conc.crowd_pick (P := P) (w := w) (sl := sl) (all_awake h0 har hL) ⟨0, a, h0, har⟩
  rcases Nat.eq_zero_or_pos i with rfl | hpos
  ·exact ⟨0, gs, w.drawn, sl, t, q, rfl, h0, hL, hP, hR, d, sl', hst⟩
  ·obtain ⟨gs', t', q', ops, hr, rfl, hsz, h0', hL', hP', hR', hlt⟩ := slip (w := w.at d) (sl := sl') hL hP h0 har hpos hi hg
   obtain ⟨N, gs1, d1, sl1, t1, q1, hr1, r1, r2, r3, r3', d', sl'', r4⟩ := ih gs' (w.at d) sl' (t ++ ops) q' Shun B (by omega) h0' hL' hP' (hR.app hR')
   refine ⟨N + 1, gs1, d1, sl1, t1, q1, ?_, r1, r2, r3, r3', d', sl'', r4⟩
   simp only [runNT, hst, hr]
   exact hr1
theorem runNT_app {m m' : Machine} {t t' : Trace} {N K : Nat} (h : runNT P N m t = (.next m', t')) : runNT P (N + K) m t = runNT P K m' t' := by
 rw [runNT_add, h]
theorem lone_step {m : Bool} (hm : m = true) {g : Goroutine} {S : Own} {g' : World → Goroutine} {w' : World → World} {es : World → Array Event} {S' : World → Own} (hs : g.status = .running)
  (h1 : ∀ w, S.In w → stepG P m g w = .go (g' w) (w' w) (es w) ∧ Mid S w (S' w) (w' w) ∧ ∀ e ∈ es w, Ev S w.heap.size e ∧ lowE (w' w).heap.size e)
  (gs : Array Goroutine) (w : World) (sl : Option (Nat × Nat)) (t : Trace) (Shun : Loc → Prop) (B : Nat) (q : Nat → Nat) (hst : Stand P g S gs w t Shun B q) :
  ∃ N gs' sl' t' d q', runNT P N (crowd gs w sl) t = (.next (crowd gs' (w' (w.at d)) sl'), t') ∧ S.In (w.at d) ∧ Stand P (g' (w.at d)) (S' (w.at d)) gs' (w' (w.at d)) t' Shun (w' (w.at d)).heap.size q' ∧ Mid S w (S' (w.at d)) (w' (w.at d)) := by
 have har : g.status = .running := hs
 obtain ⟨N, gs1, d, sl1, t1, q1, hr, r1, r2, r3, r3', d', sl', r4⟩ := turn har (sumTo gs.size q) gs w sl t q Shun B (Nat.le_refl _) hst.h0 hst.lv hst.past hst.norel
 have hin : S.In (w.at d') := In.at hst.inn d'
 obtain ⟨hgo, hmid, hev⟩ := h1 (w.at d') hin
 have hgo' : stepG P (0 == 0) g (w.at d') = .go (g' (w.at d')) (w' (w.at d')) (es (w.at d')) := by rw [← hgo, hm]; rfl
 have hrunT := Go.Conc.runT_crowd_go (P := P) (sl := sl') (i := 0) r1 hgo'
 have hlt : 0 < gs1.size := (Array.getElem?_eq_some_iff.1 r1).1
 have hstand : Stand P (g' (w.at d')) (S' (w.at d')) ((gs1.map (Go.Conc.woken P g (g' (w.at d')) (w' (w.at d')))).setIfInBounds 0 (g' (w.at d'))) (w' (w.at d')) (t1 ++ MemOp.ofEvents 0 g.frame.fn g.frame.place (es (w.at d'))) Shun (w' (w.at d')).heap.size q1 := by
  have hsz : w.heap.size ≤ (w' (w.at d')).heap.size := hmid.size
  have hne : ∀ b, b < w.heap.size → S.full b = none → (S' (w.at d')).full b = none := fun b hb hn => by
   cases hf : (S' (w.at d')).full b with
   | none => rfl
   | some o =>
    rcases hmid.dom b (by simp [hf]) with h2 | h2
    ·simp [hn] at h2
    ·exact absurd hb (Nat.not_lt.2 h2)
  refine ⟨by simp [hlt], ⟨fun j x hj hx => ?_, fun j hj => ?_⟩, ?_, hmid.inn, fun a ha => ?_, fun r hr' => ?_, Nat.le_refl _, r3'.app (norel_ev fun e he => (hev e he).1)⟩
  ·have hne : 0 ≠ j := by omega
   rw [Array.getElem?_setIfInBounds_ne hne, Array.getElem?_map] at hx
   obtain ⟨y, hy, rfl⟩ := Option.map_eq_some_iff.1 hx
   have hq := r2.old j y hj hy
   rw [Go.Conc.woken_quitsD hq, Go.Conc.Deaf_other t1 (by omega) _ (fun op hop => by obtain ⟨e, _, rfl⟩ := Go.Conc.mem_ofEvents hop; rfl)]
   exact hq
  ·rw [Go.Conc.Deaf_other t1 (g' := 0) (by simp at hj; omega) _ (fun op hop => by obtain ⟨e, _, rfl⟩ := Go.Conc.mem_ofEvents hop; rfl)]
   exact r2.above j (by simpa using hj)
  ·exact (r3.mono (Nat.le_trans hst.low hsz)).own fun e he => ev_evL hst.cell hst.obj (hev e he).1 (hev e he).2
  ·obtain ⟨a1, a2, a3⟩ := hst.cell a ha
   exact ⟨Nat.lt_of_lt_of_le a1 hsz, hne _ a1 a2, by rw [hmid.rod]; exact a3⟩
  ·obtain ⟨a1, a2, a3⟩ := hst.obj r hr'
   exact ⟨Nat.lt_of_lt_of_le a1 hsz, hne _ a1 a2, by rw [hmid.rod]; exact a3⟩
 refine ⟨N + 1, _, sl', _, d', q1, ?_, hin, hstand, ⟨hmid.inn, hmid.size, hmid.kept, hmid.dom, hmid.rod, hmid.ghd, hmid.qz, hmid.tape, hmid.os, hmid.output⟩⟩
 rw [runNT_app (m' := crowd gs1 (w.at d) sl1) (t' := t1) (by rw [hr]; rfl)]
 simp only [runNT, r4, hrunT]
end
open Go
open Go.Conc
open Go.ConcN (upd upd_ne upd_same)
inductive Rk : Type 1
 | zero
 | sup (ι : Type) (f : ι → Rk)
inductive Rk.Lt : Rk → Rk → Prop
 | zero {ι : Type} (f : ι → Rk) : Lt .zero (.sup ι f)
 | sub {ι : Type} (f : ι → Rk) (i : ι) : Lt (f i) (.sup ι f)
theorem Rk.acc : ∀ r : Rk, Acc Rk.Lt r
 | .zero => ⟨_, fun y h => by cases h⟩
 | .sup ι f => ⟨_, fun y h => by
   cases h with
   | zero => exact ⟨_, fun y h => by cases h⟩
   | sub _ i => exact Rk.acc (f i)⟩
def Down (l' l : List Rk) : Prop := ∃ r new rest, l.Perm (r :: rest) ∧ l'.Perm (new ++ rest) ∧ ∀ x ∈ new, Rk.Lt x r
theorem Down.perm {l' l m : List Rk} (h : Down l' l) (hp : l.Perm m) : Down l' m := let ⟨r, n, s, a, b, c⟩ := h; ⟨r, n, s, hp.symm.trans a, b, c⟩
theorem Down.acc_perm {l m : List Rk} (h : Acc Down l) (hp : l.Perm m) : Acc Down m := ⟨_, fun _ hy => h.inv (hy.perm hp.symm)⟩
theorem Down.acc_cons (r : Rk) : ∀ l, Acc Down l → Acc Down (r :: l) := by
 induction (Rk.acc r) with
 | intro r _ ihr =>
  intro l hl
  induction hl with
  | intro l hl ihl =>
   refine ⟨_, fun m hm => ?_⟩
   obtain ⟨r', new, rest, h1, h2, h3⟩ := hm
   have app : ∀ (n : List Rk), (∀ x ∈ n, Rk.Lt x r) → Acc Down (n ++ l) := by
    intro n
    induction n with
    | nil => exact fun _ => ⟨_, hl⟩
    | cons x n ih => exact fun hx => ihr x (hx x (by simp)) _ (ih fun y hy => hx y (by simp [hy]))
   by_cases he : r' = r
   ·subst he
    exact Down.acc_perm (app new h3) ((h1.cons_inv.append_left new).trans h2.symm)
   ·have hmem : r' ∈ l := by
     have : r' ∈ r :: l := h1.symm.subset (by simp)
     rcases List.mem_cons.1 this with h | h
     ·exact absurd h he
     ·exact h
    obtain ⟨l0, hl0⟩ : ∃ l0, l.Perm (r' :: l0) := by
     obtain ⟨a, b, rfl⟩ := List.append_of_mem hmem
     exact ⟨a ++ b, List.perm_middle⟩
    have h4 : rest.Perm (r :: l0) := by
     have : (r' :: rest).Perm (r' :: r :: l0) := h1.symm.trans (((List.Perm.cons r hl0)).trans (List.Perm.swap r' r l0))
     exact this.cons_inv
    have h5 : Acc Down (r :: (new ++ l0)) := ihl (new ++ l0) ⟨r', new, l0, hl0, .refl _, h3⟩
    exact Down.acc_perm h5 ((List.perm_middle.symm.trans (h4.symm.append_left new)).trans h2.symm)
theorem Down.acc : ∀ l : List Rk, Acc Down l
 | [] => ⟨_, fun m hm => by obtain ⟨r, new, rest, h1, _⟩ := hm; have := h1.length_eq; simp at this⟩
 | r :: l => Down.acc_cons r l (Down.acc l)
def GoesR (P : Program) (co : Co) (Stop : Goroutine → Own → Prop) : Rk → Goroutine → Own → Prop
 | .zero, g, S => Stop g S
 | .sup ι f, g, S => Stop g S ∨
   (g.status = .running ∧ ∀ w, S.In w → ∃ (i : ι) (g' : Goroutine) (w' : World) (es : Array Event) (S' : Own), stepG P co.m g w = .go g' w' es ∧ Mid S w S' w' ∧ (∀ e ∈ es, Ev S w.heap.size e ∧ lowE w'.heap.size e) ∧ GoesR P co Stop (f i) g' S') ∨
   ∃ Q : Goroutine → Own → Prop, co.rel g S Q ∧ ∀ g' S', Q g' S' → ∃ i : ι, GoesR P co Stop (f i) g' S'
theorem Goes.ranked {P : Program} {co : Co} {Stop : Goroutine → Own → Prop} {g : Goroutine} {S : Own} (h : Goes P co Stop g S) : ∃ r, GoesR P co Stop r g S := by
 classical
 induction h with
 | stop h => exact ⟨.zero, h⟩
 | @step g S g' w' es S' hs h1 _ ih =>
  refine ⟨.sup {w : World // S.In w} fun x => (ih x.1 x.2).choose, .inr (.inl ⟨hs.1, fun w hw => ⟨⟨w, hw⟩, g' w, w' w, es w, S' w, (h1 w hw).1, (h1 w hw).2.1, (h1 w hw).2.2, (ih w hw).choose_spec⟩⟩)⟩
 | @big g S Q h1 _ ih =>
  exact ⟨.sup {p : Goroutine × Own // Q p.1 p.2} fun x => (ih x.1.1 x.1.2 x.2).choose, .inr (.inr ⟨Q, h1, fun g' S' hq => ⟨⟨(g', S'), hq⟩, (ih g' S' hq).choose_spec⟩⟩)⟩
def inB (b : Nat) : Loc → Prop
 | .cell a => a.block = b
 | .obj r => r = b
 | _ => False
theorem inB_mem {b : Nat} {l : Loc} (h : inB b l) : l.isMemory = true := by cases l <;> first | rfl | exact h.elim
theorem inB_of {l : Loc} (h : l.isMemory = true) : ∃ b, inB b l := by
 cases l with
 | cell a => exact ⟨a.block, rfl⟩
 | obj r => exact ⟨r, rfl⟩
 | _ => simp [Loc.isMemory] at h
theorem inB_one {a b : Nat} {l : Loc} (h : inB a l) (h' : inB b l) : a = b := by
 cases l with
 | cell x => exact h.symm.trans h'
 | obj r => exact h.symm.trans h'
 | _ => exact h.elim
theorem inB_low {b B : Nat} {l : Loc} (h : inB b l) (hl : l.low B) : b < B := by
 cases l with
 | cell x => cases h; exact hl
 | obj r => cases h; exact hl
 | _ => exact h.elim
theorem touch_low {x : MemAct} {y : Touch} {B : Nat} (h : x.touch? = some y) (hl : x.low B) : y.loc.low B := by
 cases x with
 | access e => simp only [MemAct.touch?, Option.some.injEq] at h; subst h; exact hl
 | mark m => cases m <;> simp [MemAct.touch?] at h <;> (subst h; exact hl)
 | _ => simp [MemAct.touch?] at h
def Fine (i : Nat) (S : Own) (N : Nat) (usr : Nat → Nat → Prop) (boss : Nat → Nat) (x : Touch) : Prop :=
 ∀ b, inB b x.loc → (x.kind = .plain ∧ (N ≤ b ∨ (S.full b).isSome ∨ (x.write = false ∧ (S.ro b).isSome))) ∨ (usr i b ∧ x.kind = .atomic) ∨ (usr i b ∧ x.kind = .said ∧ boss b = i)
structure Tm where
 own : Nat → Option Own
 bag : Nat → Option (Own × Nat)
 rel : Nat → Option Nat
 q : Nat → Nat
 d : Nat → Nat
 sh : Nat → Prop
 usr : Nat → Nat → Prop
 boss : Nat → Nat
 calm : Nat → Prop
 low : Nat
 w0 : Option World
structure Core (P : Program) (gs : Array Goroutine) (w : World) (t : Trace) (T : Tm) : Prop where
 inn : ∀ i S, T.own i = some S → S.In w
 apart : ∀ i j S U, i ≠ j → T.own i = some S → T.own j = some U → ∀ b, (S.full b).isSome → U.full b = none ∧ U.ro b = none
 binn : ∀ i S p, T.bag i = some (S, p) → S.In w
 bapart : ∀ i j S U p, T.own i = some S → T.bag j = some (U, p) → ∀ b, ((S.full b).isSome → U.full b = none ∧ U.ro b = none) ∧ ((U.full b).isSome → S.full b = none ∧ S.ro b = none)
 bbapart : ∀ i j S U p p', i ≠ j → T.bag i = some (S, p) → T.bag j = some (U, p') → ∀ b, (S.full b).isSome → U.full b = none ∧ U.ro b = none
 shapart : ∀ i S, T.own i = some S → ∀ b, T.sh b → S.full b = none ∧ S.ro b = none
 shbag : ∀ i S p, T.bag i = some (S, p) → ∀ b, T.sh b → S.full b = none ∧ S.ro b = none
 shlow : ∀ b, T.sh b → b < w.heap.size
 ush : ∀ i b, T.usr i b → T.sh b
 clean : ∀ said, ¬ Race said t
 full : ∀ i S, T.own i = some S → ∀ b, (S.full b).isSome → ∀ k x, touchAt t k = some x → inB b x.loc → Knows t i k
 ro : ∀ i S, T.own i = some S → ∀ b, (S.ro b).isSome → ∀ k x, touchAt t k = some x → inB b x.loc → x.write = true → Knows t i k
 bfull : ∀ i S p, T.bag i = some (S, p) → ∀ b, (S.full b).isSome → ∀ k x, touchAt t k = some x → inB b x.loc → Before t k p
 bro : ∀ i S p, T.bag i = some (S, p) → ∀ b, (S.ro b).isSome → ∀ k x, touchAt t k = some x → inB b x.loc → x.write = true → Before t k p
 shplain : ∀ i b, T.usr i b → ∀ k x, touchAt t k = some x → inB b x.loc → x.kind = .plain → Knows t i k
 shsaid : ∀ b, T.sh b → ∀ k x, touchAt t k = some x → inB b x.loc → x.kind = .said → Knows t (T.boss b) k
 known : ∀ k x, touchAt t k = some x → x.loc.isMemory = true → Knows t 0 k ∨ (∃ b, T.sh b ∧ inB b x.loc ∧ x.kind = .atomic) ∨
  ∃ j, t.g? k = some j ∧ j ≠ 0 ∧ ((T.own j).isSome ∨ ∃ p, T.rel j = some p ∧ k ≤ p)
 over : ∀ k j, t.g? k = some j → j ≠ 0 → t.counts k → Knows t 0 k ∨ (T.own j).isSome ∨ ∃ p, T.rel j = some p ∧ k ≤ p
 aft : ∀ i p, T.rel i = some p → t.g? p = some i ∧ ∀ k, p < k → t.g? k = some i → ¬ t.counts k ∧ ∀ x, touchAt t k = some x → x.loc.isMemory = true → ∃ b, T.sh b ∧ inB b x.loc ∧ x.kind = .atomic
 deaf : ∀ i, (T.own i).isSome → Deaf t i = T.d i
 quit : ∀ i g, T.own i = none → gs[i]? = some g → QuitsD P (T.q i) (Deaf t i) g
 above : ∀ j, gs.size ≤ j → Deaf t j = 0 ∧ T.own j = none ∧ T.rel j = none ∧ ∀ b, ¬ T.usr j b
 seen : ∀ op ∈ t, op.act.low w.heap.size
 calm : ∀ b, T.calm b → T.sh b ∧ (∀ i, ¬ T.usr i b) ∧ ∀ k x, touchAt t k = some x → inB b x.loc → Knows t 0 k
 low : ∀ i S, T.own i = some S → ∀ b, (S.full b).isSome → T.low ≤ b
 blow : ∀ i S p, T.bag i = some (S, p) → ∀ b, (S.full b).isSome → T.low ≤ b
 slow : ∀ b, T.sh b → T.low ≤ b
 far : Far T.low T.w0 w
theorem g?_new {t u : Trace} {k i : Nat} (hu : ∀ op ∈ u, op.g = i) {x : MemOp} (h : (t ++ u)[k]? = some x) (hk : t.size ≤ k) : x.g = i := by
 rcases getElem?_append_cases h with ⟨h1, _⟩ | ⟨_, h1⟩
 ·omega
 ·exact hu x h1
theorem deaf_still {t u : Trace} {i : Nat} (hu : ∀ op ∈ u, op.act ≠ .mark .disable ∧ op.act ≠ .mark .enable) : ∀ k, t.size ≤ k → (t ++ u).deaf i k = Deaf t i := by
 intro k
 induction k with
 | zero =>
  intro h
  have : t.size = 0 := by omega
  unfold Deaf; rw [this]; rfl
 | succ k ih =>
  intro h
  by_cases hk : t.size ≤ k
  ·cases hy : (t ++ u)[k]? with
   | none =>
    have : (t ++ u).deaf i (k + 1) = (t ++ u).deaf i k := by rw [Trace.deaf, hy]
    rw [this]; exact ih hk
   | some y =>
    rw [deaf_succ hy, ih hk]
    rcases getElem?_append_cases hy with ⟨h1, _⟩ | ⟨_, h1⟩
    ·omega
    ·have := hu y h1
     unfold deafStep
     split
     ·rename_i e; exact absurd e this.1
     ·rename_i e; exact absurd e this.2
     ·rfl
  ·have : k + 1 = t.size := by omega
   rw [this]; exact deaf_old (Nat.le_refl _)
section
variable {P : Program} {gs gs' : Array Goroutine} {w w' : World} {t u : Trace} {M : Tm}
theorem Core.low_t (C : Core P gs w t M) {k : Nat} {x : Touch} (h : touchAt t k = some x) : x.loc.low w.heap.size := by
 obtain ⟨op, ho, hx⟩ := touch_of h
 exact touch_low hx (C.seen op (mem_of_getElem? ho))
theorem touch_cases {k : Nat} {x : Touch} (h : touchAt (t ++ u) k = some x) : (k < t.size ∧ touchAt t k = some x) ∨ (t.size ≤ k ∧ ∃ op ∈ u, (t ++ u)[k]? = some op ∧ op.act.touch? = some x) := by
 obtain ⟨op, ho, hx⟩ := touch_of h
 rcases getElem?_append_cases ho with ⟨h1, h2⟩ | ⟨h1, h2⟩
 ·exact .inl ⟨h1, by rw [touchAt_of h2]; exact hx⟩
 ·exact .inr ⟨h1, op, h2, ho, hx⟩
theorem Core.grow (C : Core P gs w t M) {i : Nat} {S S' : Own} {d' : Nat} (ho : M.own i = some S) (hu : ∀ op ∈ u, op.g = i)
  (hf : ∀ op ∈ u, ∀ x, op.act.touch? = some x → Fine i S w.heap.size M.usr M.boss x) (hl : ∀ op ∈ u, op.act.low w'.heap.size) (hd : Deaf (t ++ u) i = d')
  (hlast : M.rel i = none ∨ (∀ op ∈ u, op.act.touch? = none) ∨ (Deaf t i ≠ 0 ∧ (∀ op ∈ u, op.act ≠ .mark .disable ∧ op.act ≠ .mark .enable) ∧ ∀ op ∈ u, ∀ x, op.act.touch? = some x → x.kind = .atomic))
  (hin : S'.In w') (hcalm : Calm w w') (hsz : w.heap.size ≤ w'.heap.size) (hkept : ∀ b, b < w.heap.size → S.full b = none → ¬ M.sh b → w'.heap[b]? = w.heap[b]?)
  (hdom : ∀ b, (S'.full b).isSome → (S.full b).isSome ∨ w.heap.size ≤ b) (hrod : ∀ b, (S'.ro b).isSome → (S.full b).isSome ∨ (S.ro b).isSome) (hgs : gs'.size = gs.size) (hi : i < gs.size)
  (hq : ∀ j g, M.own j = none → gs'[j]? = some g → QuitsD P (M.q j) (Deaf t j) g) :
  Core P gs' w' (t ++ u) { M with own := upd M.own i (some S'), d := upd M.d i d' } := by
 have same : ∀ T : Own, T.In w → (∀ b, (S.full b).isSome → T.full b = none ∧ T.ro b = none) → (∀ b, M.sh b → T.full b = none ∧ T.ro b = none) → T.In w' := by
  intro T hT ha hs
  refine ⟨fun b o hb => ?_, fun b o hb => ?_, hT.disj⟩
  ·have h1 := hT.lt (b := b) (by simp [hb])
   refine (hT.lay b o hb).of (hkept b h1 ?_ ?_)
   ·cases hS : S.full b with
    | none => rfl
    | some x => have := (ha b (by simp [hS])).1; rw [hb] at this; cases this
   ·intro hs'; have := (hs b hs').1; rw [hb] at this; cases this
  ·have h1 := hT.lt_ro (b := b) (by simp [hb])
   refine (hT.layro b o hb).of (hkept b h1 ?_ ?_)
   ·cases hS : S.full b with
    | none => rfl
    | some x => have := (ha b (by simp [hS])).2; rw [hb] at this; cases this
   ·intro hs'; have := (hs b hs').2; rw [hb] at this; cases this
 have own' : ∀ j T, upd M.own i (some S') j = some T → (j = i ∧ T = S') ∨ (j ≠ i ∧ M.own j = some T) := by
  intro j T h
  by_cases hj : j = i
  ·subst hj; rw [upd_same] at h; exact .inl ⟨rfl, (Option.some.inj h).symm⟩
  ·rw [upd_ne _ _ hj] at h; exact .inr ⟨hj, h⟩
 have fresh : ∀ T : Own, T.In w → ∀ b, w.heap.size ≤ b → T.full b = none ∧ T.ro b = none := by
  intro T hT b hb
  refine ⟨?_, ?_⟩
  ·cases h : T.full b with
   | none => rfl
   | some o => have := hT.lt (b := b) (by simp [h]); omega
  ·cases h : T.ro b with
   | none => rfl
   | some o => have := hT.lt_ro (b := b) (by simp [h]); omega
 have ap1 : ∀ T : Own, T.In w → (∀ b, (S.full b).isSome → T.full b = none ∧ T.ro b = none) → ∀ b, (S'.full b).isSome → T.full b = none ∧ T.ro b = none := by
  intro T hT ha b hb
  rcases hdom b hb with h | h
  ·exact ha b h
  ·exact fresh T hT b h
 have ap2 : ∀ T : Own, T.In w → (∀ b, (S.full b).isSome → T.full b = none ∧ T.ro b = none) → (∀ b, (T.full b).isSome → S.full b = none ∧ S.ro b = none) → ∀ b, (T.full b).isSome → S'.full b = none ∧ S'.ro b = none := by
  intro T hT ha hb b hTb
  have h1 := hT.lt hTb
  obtain ⟨h2, h3⟩ := hb b hTb
  refine ⟨?_, ?_⟩
  ·cases h : S'.full b with
   | none => rfl
   | some o =>
    rcases hdom b (by simp [h]) with h' | h'
    ·rw [h2] at h'; cases h'
    ·omega
  ·cases h : S'.ro b with
   | none => rfl
   | some o =>
    rcases hrod b (by simp [h]) with h' | h'
    ·rw [h2] at h'; cases h'
    ·rw [h3] at h'; cases h'
 have bi := C.inn i S ho
 have other : ∀ T : Own, T.In w → (∀ b, (S.full b).isSome → T.full b = none ∧ T.ro b = none) → (∀ b, (T.full b).isSome → S.full b = none ∧ S.ro b = none) → (∀ b, M.sh b → T.full b = none ∧ T.ro b = none) →
   ∀ op ∈ u, ∀ x, op.act.touch? = some x → ∀ b, inB b x.loc → ((T.full b).isSome → False) ∧ ((T.ro b).isSome → x.write = true → False) := by
  intro T hT ha hb hs op hop x hx b hbx
  rcases hf op hop x hx b hbx with ⟨_, h⟩ | ⟨h, _⟩ | ⟨h, _⟩
  ·rcases h with h | h | ⟨hw, h⟩
   ·obtain ⟨e1, e2⟩ := fresh T hT b h
    simp [e1, e2]
   ·obtain ⟨e1, e2⟩ := ha b h
    simp [e1, e2]
   ·refine ⟨fun hTb => ?_, fun _ hw' => by rw [hw] at hw'; cases hw'⟩
    have := (hb b hTb).2
    rw [this] at h; cases h
  ·obtain ⟨e1, e2⟩ := hs b (C.ush i b h); simp [e1, e2]
  ·obtain ⟨e1, e2⟩ := hs b (C.ush i b h); simp [e1, e2]
 have gi : ∀ {k : Nat} {x : MemOp}, (t ++ u)[k]? = some x → t.size ≤ k → (t ++ u).g? k = some i := fun hx hk => by simp [Trace.g?, hx, g?_new hu hx hk]
 have isS : ∀ j, (M.own j).isSome → (upd M.own i (some S') j).isSome := by
  intro j hj
  by_cases hji : j = i
  ·subst hji; simp [upd_same]
  ·rw [upd_ne _ _ hji]; exact hj
 refine ⟨?_, ?_, ?_, ?_, C.bbapart, ?_, C.shbag, fun b hb => Nat.lt_of_lt_of_le (C.shlow b hb) hsz, C.ush, ?_, ?_, ?_, ?_, ?_, ?_, ?_, ?_, ?_, ?_, ?_, ?_, ?_, ?_, ?_, ?_, C.blow, C.slow, ?_⟩
 ·
  intro j T h
  rcases own' j T h with ⟨rfl, rfl⟩ | ⟨hj, h⟩
  ·exact hin
  ·exact same T (C.inn j T h) (C.apart i j S T (Ne.symm hj) ho h) (C.shapart j T h)
 ·
  intro j k T U hjk hT hU b hb
  rcases own' j T hT with ⟨e1, e2⟩ | ⟨hj, hT'⟩
  ·subst e1; subst e2
   rcases own' k U hU with ⟨e3, _⟩ | ⟨hk, hU'⟩
   ·exact absurd e3.symm hjk
   ·exact ap1 U (C.inn k U hU') (C.apart j k S U hjk ho hU') b hb
  ·rcases own' k U hU with ⟨e1, e2⟩ | ⟨hk, hU'⟩
   ·subst e1; subst e2
    exact ap2 T (C.inn j T hT') (C.apart k j S T (Ne.symm hj) ho hT') (C.apart j k T S hj hT' ho) b hb
   ·exact C.apart j k T U hjk hT' hU' b hb
 ·
  intro j T p h
  exact same T (C.binn j T p h) (fun b hb => ((C.bapart i j S T p ho h b).1 hb)) (C.shbag j T p h)
 ·
  intro j k T U p hT hU b
  rcases own' j T hT with ⟨rfl, rfl⟩ | ⟨hj, hT⟩
  ·exact ⟨ap1 U (C.binn k U p hU) (fun b hb => (C.bapart j k S U p ho hU b).1 hb) b, ap2 U (C.binn k U p hU) (fun b hb => (C.bapart j k S U p ho hU b).1 hb) (fun b hb => (C.bapart j k S U p ho hU b).2 hb) b⟩
  ·exact C.bapart j k T U p hT hU b
 ·
  intro j T hT b hb
  rcases own' j T hT with ⟨rfl, rfl⟩ | ⟨hj, hT⟩
  ·obtain ⟨e1, e2⟩ := C.shapart j S ho b hb
   refine ⟨?_, ?_⟩
   ·cases h : T.full b with
    | none => rfl
    | some o =>
     rcases hdom b (by simp [h]) with h' | h'
     ·rw [e1] at h'; cases h'
     ·have := C.shlow b hb; omega
   ·cases h : T.ro b with
    | none => rfl
    | some o =>
     rcases hrod b (by simp [h]) with h' | h'
     ·rw [e1] at h'; cases h'
     ·rw [e2] at h'; cases h'
  ·exact C.shapart j T hT b hb
 ·
  intro said
  refine noRace_append (C.clean said) hu fun k a ha op hop y hy hc => ?_
  obtain ⟨hloc, hm, hw, hk⟩ := hc
  obtain ⟨b, hb⟩ := inB_of hm
  have hb' : inB b y.loc := hloc ▸ hb
  rcases hf op hop y hy b hb' with ⟨hp, h⟩ | ⟨hs, ha'⟩ | ⟨hs, hs', hboss⟩
  ·rcases h with h | h | ⟨hw', h⟩
   ·have := inB_low hb (C.low_t ha); omega
   ·exact C.full i S ho b h k a ha hb
   ·rcases hw with hw | hw
    ·exact C.ro i S ho b h k a ha hb hw
    ·rw [hw'] at hw; cases hw
  ·rcases hk with hk | hk | ⟨_, _, hk⟩
   ·exact C.shplain i b hs k a ha hb hk
   ·rw [ha'] at hk; cases hk
   ·rw [ha'] at hk; cases hk
  ·rcases hk with hk | hk | ⟨_, hk, _⟩
   ·exact C.shplain i b hs k a ha hb hk
   ·rw [hs'] at hk; cases hk
   ·exact hboss ▸ C.shsaid b (C.ush i b hs) k a ha hb hk
 ·
  intro j T hT b hb k x hx hbx
  rcases touch_cases hx with ⟨hk, hx'⟩ | ⟨hk, op, hop, hx1, hx2⟩
  ·rcases own' j T hT with ⟨rfl, rfl⟩ | ⟨hj, hT⟩
   ·rcases hdom b hb with h | h
    ·exact (C.full j S ho b h k x hx' hbx).app u
    ·have := inB_low hbx (C.low_t hx'); omega
   ·exact (C.full j T hT b hb k x hx' hbx).app u
  ·rcases own' j T hT with ⟨rfl, rfl⟩ | ⟨hj, hT⟩
   ·have := knows_own hx1; rwa [hu op hop] at this
   ·exact ((other T (C.inn j T hT) (C.apart i j S T (Ne.symm hj) ho hT) (C.apart j i T S hj hT ho) (C.shapart j T hT) op hop x hx2 b hbx).1 hb).elim
 ·
  intro j T hT b hb k x hx hbx hw
  rcases touch_cases hx with ⟨hk, hx'⟩ | ⟨hk, op, hop, hx1, hx2⟩
  ·rcases own' j T hT with ⟨rfl, rfl⟩ | ⟨hj, hT⟩
   ·rcases hrod b hb with h | h
    ·exact (C.full j S ho b h k x hx' hbx).app u
    ·exact (C.ro j S ho b h k x hx' hbx hw).app u
   ·exact (C.ro j T hT b hb k x hx' hbx hw).app u
  ·rcases own' j T hT with ⟨rfl, rfl⟩ | ⟨hj, hT⟩
   ·have := knows_own hx1; rwa [hu op hop] at this
   ·exact ((other T (C.inn j T hT) (C.apart i j S T (Ne.symm hj) ho hT) (C.apart j i T S hj hT ho) (C.shapart j T hT) op hop x hx2 b hbx).2 hb hw).elim
 ·
  intro j T p hT b hb k x hx hbx
  rcases touch_cases hx with ⟨hk, hx'⟩ | ⟨hk, op, hop, hx1, hx2⟩
  ·exact (C.bfull j T p hT b hb k x hx' hbx).app u
  ·exact ((other T (C.binn j T p hT) (fun b h => (C.bapart i j S T p ho hT b).1 h) (fun b h => (C.bapart i j S T p ho hT b).2 h) (C.shbag j T p hT) op hop x hx2 b hbx).1 hb).elim
 ·
  intro j T p hT b hb k x hx hbx hw
  rcases touch_cases hx with ⟨hk, hx'⟩ | ⟨hk, op, hop, hx1, hx2⟩
  ·exact (C.bro j T p hT b hb k x hx' hbx hw).app u
  ·exact ((other T (C.binn j T p hT) (fun b h => (C.bapart i j S T p ho hT b).1 h) (fun b h => (C.bapart i j S T p ho hT b).2 h) (C.shbag j T p hT) op hop x hx2 b hbx).2 hb hw).elim
 ·
  intro j b hb k x hx hbx hp
  rcases touch_cases hx with ⟨hk, hx'⟩ | ⟨hk, op, hop, hx1, hx2⟩
  ·exact (C.shplain j b hb k x hx' hbx hp).app u
  ·have hb' := C.ush j b hb
   rcases hf op hop x hx2 b hbx with ⟨_, h⟩ | ⟨_, h⟩ | ⟨_, h, _⟩
   ·obtain ⟨e1, e2⟩ := C.shapart i S ho b hb'
    rcases h with h | h | ⟨_, h⟩
    ·have := C.shlow b hb'; omega
    ·rw [e1] at h; cases h
    ·rw [e2] at h; cases h
   ·rw [hp] at h; cases h
   ·rw [hp] at h; cases h
 ·
  intro b hb k x hx hbx hp
  rcases touch_cases hx with ⟨hk, hx'⟩ | ⟨hk, op, hop, hx1, hx2⟩
  ·exact (C.shsaid b hb k x hx' hbx hp).app u
  ·rcases hf op hop x hx2 b hbx with ⟨h, _⟩ | ⟨_, h⟩ | ⟨_, _, h⟩
   ·rw [hp] at h; cases h
   ·rw [hp] at h; cases h
   ·have := knows_own hx1; rwa [hu op hop, ← h] at this
 ·
  intro k x hx hm
  rcases touch_cases hx with ⟨hk, hx'⟩ | ⟨hk, op, hop, hx1, hx2⟩
  ·rcases C.known k x hx' hm with h | h | ⟨j, h1, h2, h3⟩
   ·exact .inl (h.app u)
   ·exact .inr (.inl h)
   ·exact .inr (.inr ⟨j, by rw [g?_old hk]; exact h1, h2, h3.imp (isS j) id⟩)
  ·have hg := hu op hop
   by_cases hi0 : i = 0
   ·left; have := knows_own hx1; rwa [hg, hi0] at this
   ·exact .inr (.inr ⟨i, gi hx1 hk, hi0, .inl (by simp [upd_same])⟩)
 ·
  intro k j hg hj hc
  have hlt : k < (t ++ u).size := by unfold Trace.g? at hg; obtain ⟨z, hz, _⟩ := Option.map_eq_some_iff.1 hg; exact lt_size_of_getElem? hz
  by_cases hk : k < t.size
  ·rcases C.over k j (by rw [← g?_old (u := u) hk]; exact hg) hj ((counts_old hk).1 hc) with h | h | h
   ·exact .inl (h.app u)
   ·exact .inr (.inl (isS j h))
   ·exact .inr (.inr h)
  ·right; left
   have h2 := gi (Array.getElem?_eq_getElem hlt) (by omega)
   have : j = i := Option.some.inj (hg.symm.trans h2)
   subst this; simp [upd_same]
 ·
  intro j p hp
  obtain ⟨h1, h2⟩ := C.aft j p hp
  have hlt : p < t.size := by unfold Trace.g? at h1; obtain ⟨z, hz, _⟩ := Option.map_eq_some_iff.1 h1; exact lt_size_of_getElem? hz
  refine ⟨by rw [g?_old hlt]; exact h1, fun k hk hg => ?_⟩
  by_cases hkt : k < t.size
  ·obtain ⟨h3, h4⟩ := h2 k hk (by rw [← g?_old (u := u) hkt]; exact hg)
   exact ⟨fun hc => h3 ((counts_old hkt).1 hc), fun x hx => h4 x (by rwa [touchAt_old hkt] at hx)⟩
  ·have hlt' : k < (t ++ u).size := by unfold Trace.g? at hg; obtain ⟨z, hz, _⟩ := Option.map_eq_some_iff.1 hg; exact lt_size_of_getElem? hz
   have hel : (t ++ u)[k]? = some (t ++ u)[k] := Array.getElem?_eq_getElem hlt'
   have h5 := gi hel (by omega)
   have hji : j = i := Option.some.inj (hg.symm.trans h5)
   subst hji
   have hmem : (t ++ u)[k] ∈ u := by
    rcases getElem?_append_cases hel with ⟨h6, _⟩ | ⟨_, h6⟩
    ·omega
    ·exact h6
   rcases hlast with hb | hb | ⟨hb1, hb2, hb3⟩
   ·rw [hb] at hp; cases hp
   ·refine ⟨fun ⟨x, hx, _⟩ => ?_, fun x hx => ?_⟩
    ·have : touchAt (t ++ u) k = some x := hx
     rw [touchAt_of hel, hb _ hmem] at this; cases this
    ·rw [touchAt_of hel, hb _ hmem] at hx; cases hx
   ·refine ⟨fun ⟨x, hx, _, hx3⟩ => ?_, fun x hx hm => ?_⟩
    ·have hx' : touchAt (t ++ u) k = some x := hx
     rw [touchAt_of hel] at hx'
     rcases hx3 with hx3 | ⟨g0, hg0, hx3⟩
     ·exact hx3 (hb3 _ hmem x hx')
     ·obtain rfl : j = g0 := Option.some.inj (h5.symm.trans hg0)
      rw [deaf_still hb2 k (by omega)] at hx3
      exact hb1 hx3
    ·rw [touchAt_of hel] at hx
     obtain ⟨b, hbx⟩ := inB_of hm
     have hka := hb3 _ hmem x hx
     rcases hf _ hmem x hx b hbx with ⟨h, _⟩ | ⟨h, _⟩ | ⟨_, h, _⟩
     ·rw [hka] at h; cases h
     ·exact ⟨b, C.ush j b h, hbx, hka⟩
     ·rw [hka] at h; cases h
 ·
  intro j hj
  by_cases hji : j = i
  ·subst hji; show _ = upd M.d j d' j; rw [upd_same]; exact hd
  ·have hj : (upd M.own i (some S') j).isSome := hj
   show _ = upd M.d i d' j
   rw [upd_ne _ _ hji] at hj ⊢
   rw [Deaf_other t (Ne.symm hji) u hu]; exact C.deaf j hj
 ·
  intro j g hj hg
  have hj : upd M.own i (some S') j = none := hj
  by_cases hji : j = i
  ·subst hji; rw [upd_same] at hj; cases hj
  ·rw [upd_ne _ _ hji] at hj
   rw [Deaf_other t (Ne.symm hji) u hu]; exact hq j g hj hg
 ·
  intro j hj
  have hji : j ≠ i := by omega
  show _ ∧ upd M.own i (some S') j = none ∧ _
  rw [upd_ne _ _ hji, Deaf_other t (Ne.symm hji) u hu]
  exact C.above j (by omega)
 ·
  intro op hop
  rcases Array.mem_append.1 hop with h | h
  ·exact MemAct.low_mono hsz (C.seen op h)
  ·exact hl op h
 ·
  intro b hb
  obtain ⟨h1, h2, h3⟩ := C.calm b hb
  refine ⟨h1, h2, fun k x hx hbx => ?_⟩
  rcases touch_cases hx with ⟨hk, hx'⟩ | ⟨hk, op, hop, hx1, hx2⟩
  ·exact (h3 k x hx' hbx).app u
  ·obtain ⟨e1, e2⟩ := C.shapart i S ho b h1
   rcases hf op hop x hx2 b hbx with ⟨_, h⟩ | ⟨h, _⟩ | ⟨h, _⟩
   ·rcases h with h | h | ⟨_, h⟩
    ·have := C.shlow b h1; omega
    ·rw [e1] at h; cases h
    ·rw [e2] at h; cases h
   ·exact absurd h (h2 i)
   ·exact absurd h (h2 i)
 ·
  intro j T hT b hb
  rcases own' j T hT with ⟨rfl, rfl⟩ | ⟨hj, hT⟩
  ·rcases hdom b hb with h | h
   ·exact C.low j S ho b h
   ·exact Nat.le_trans C.far.1 h
  ·exact C.low j T hT b hb
 ·
  refine C.far.next hcalm hsz fun b hb => hkept b (Nat.lt_of_lt_of_le hb C.far.1) ?_ fun h => ?_
  ·cases hf : S.full b with
   | none => rfl
   | some x => have := C.low i S ho b (by simp [hf]); omega
  ·have := C.slow b h; omega
end
open Go
open Go.Conc
open Go.ConcN (upd upd_ne upd_same)
theorem upd_id {α : Type} (f : Nat → α) (i : Nat) : upd f i (f i) = f := by
 funext a; unfold upd; split
 ·rename_i h; rw [h]
 ·rfl
theorem g?_lt {t : Trace} {k i : Nat} (h : t.g? k = some i) : k < t.size := by
 unfold Trace.g? at h; obtain ⟨z, hz, _⟩ := Option.map_eq_some_iff.1 h; exact lt_size_of_getElem? hz
theorem g?_el {t : Trace} {k i : Nat} (h : t.g? k = some i) : ∃ z, t[k]? = some z ∧ z.g = i := by
 unfold Trace.g? at h; exact Option.map_eq_some_iff.1 h
theorem ev_fine {S : Own} {N M i : Nat} {usr : Nat → Nat → Prop} {boss : Nat → Nat} {e : Event} (h : Ev S N e) (hl : lowE M e) :
  (∀ x, (MemAct.ofEvent e).touch? = some x → Fine i S N usr boss x) ∧ (MemAct.ofEvent e).low M ∧ e.loc ≠ .mark .disable ∧ e.loc ≠ .mark .enable := by
 obtain ⟨loc, wr, sy⟩ := e
 unfold Ev at h
 unfold lowE at hl
 cases loc with
 | cell a =>
  obtain ⟨hs, h⟩ := h
  simp only at hs; subst hs
  refine ⟨fun x hx b hb => ?_, by simpa [MemAct.ofEvent, Go.MemAct.low, Go.Loc.low] using hl, by simp, by simp⟩
  simp only [MemAct.ofEvent, MemAct.touch?, Option.some.injEq] at hx
  subst hx
  obtain rfl : a.block = b := hb
  exact .inl ⟨rfl, h⟩
 | obj r =>
  obtain ⟨hs, h⟩ := h
  simp only at hs; subst hs
  refine ⟨fun x hx b hb => ?_, by simpa [MemAct.ofEvent, Go.MemAct.low, Go.Loc.low] using hl, by simp, by simp⟩
  simp only [MemAct.ofEvent, MemAct.touch?, Option.some.injEq] at hx
  subst hx
  obtain rfl : r = b := hb
  exact .inl ⟨rfl, h⟩
 | mark m =>
  cases m with
  | extern f => exact ⟨fun x hx => by simp [MemAct.ofEvent, MemAct.touch?] at hx, by simp [MemAct.ofEvent, Go.MemAct.low], by simp, by simp⟩
  | noRoom => exact ⟨fun x hx => by simp [MemAct.ofEvent, MemAct.touch?] at hx, by simp [MemAct.ofEvent, Go.MemAct.low], by simp, by simp⟩
  | _ => exact h.elim
 | _ => exact h.elim
section
variable {P : Program} {gs : Array Goroutine} {w w' : World} {t : Trace} {T : Tm}
theorem Core.priv (C : Core P gs w t T) {i : Nat} {S S' : Own} {g g' : Goroutine} {es : Array Event} (ho : T.own i = some S) (hr : T.rel i = none) (hi : i < gs.size)
  (hm : Mid S w S' w') (hev : ∀ e ∈ es, Ev S w.heap.size e ∧ lowE w'.heap.size e) (fn : FuncId) (pos : String) :
  Core P ((gs.map (woken P g g' w')).setIfInBounds i g') w' (t ++ MemOp.ofEvents i fn pos es) { T with own := upd T.own i (some S') } := by
 have hd : Deaf (t ++ MemOp.ofEvents i fn pos es) i = T.d i := by
  rw [Deaf_own, deafBehind_still (fun e he => (ev_fine (i := 0) (usr := fun _ _ => False) (boss := id) (hev e he).1 (hev e he).2).2.2), C.deaf i (by simp [ho])]
 have := C.grow (gs' := (gs.map (woken P g g' w')).setIfInBounds i g') (u := MemOp.ofEvents i fn pos es) (S' := S') (w' := w') (d' := T.d i) ho
  (fun op hop => by obtain ⟨e, _, rfl⟩ := mem_ofEvents hop; rfl)
  (fun op hop x hx => by obtain ⟨e, he, rfl⟩ := mem_ofEvents hop; exact (ev_fine (hev e he).1 (hev e he).2).1 x hx)
  (fun op hop => by obtain ⟨e, he, rfl⟩ := mem_ofEvents hop; exact (ev_fine (i := 0) (usr := fun _ _ => False) (boss := id) (hev e he).1 (hev e he).2).2.1)
  hd (.inl hr) hm.inn hm.calm hm.size (fun b hb hn _ => hm.kept b hb hn) hm.dom (fun b hb => .inr (by rwa [hm.rod] at hb)) (by simp) hi (fun j x hj hx => ?_)
 ·rwa [upd_id] at this
 ·have hne : i ≠ j := by rintro rfl; rw [ho] at hj; cases hj
  rw [Array.getElem?_setIfInBounds_ne hne, Array.getElem?_map] at hx
  obtain ⟨y, hy, rfl⟩ := Option.map_eq_some_iff.1 hx
  have h1 := C.quit j y hj hy
  rw [woken_quitsD h1]; exact h1
structure Part (S S1 : Own) : Prop where
 f : ∀ b o, S1.full b = some o → S.full b = some o
 r : ∀ b o, S1.ro b = some o → S.full b = some o ∨ S.ro b = some o
 disj : ∀ b, (S1.full b).isSome → S1.ro b = none
theorem Part.inn {S S1 : Own} {w : World} (h : Part S S1) (hS : S.In w) : S1.In w :=
 ⟨fun b o x => hS.lay b o (h.f b o x), fun b o x => (h.r b o x).elim (hS.lay b o) (hS.layro b o), h.disj⟩
theorem Part.fs {S S1 : Own} (h : Part S S1) {b : Nat} (hb : (S1.full b).isSome) : (S.full b).isSome := by
 obtain ⟨o, ho⟩ := Option.isSome_iff_exists.1 hb; simp [h.f b o ho]
theorem Part.rs {S S1 : Own} (h : Part S S1) {b : Nat} (hb : (S1.ro b).isSome) : (S.full b).isSome ∨ (S.ro b).isSome := by
 obtain ⟨o, ho⟩ := Option.isSome_iff_exists.1 hb; exact (h.r b o ho).imp (by intro e; simp [e]) (by intro e; simp [e])
theorem Part.ap1 {S S1 U : Own} (h : Part S S1) (ha : ∀ b, (S.full b).isSome → U.full b = none ∧ U.ro b = none) : ∀ b, (S1.full b).isSome → U.full b = none ∧ U.ro b = none := fun b hb => ha b (h.fs hb)
theorem Part.ap2 {S S1 U : Own} (h : Part S S1) (ha : ∀ b, (U.full b).isSome → S.full b = none ∧ S.ro b = none) : ∀ b, (U.full b).isSome → S1.full b = none ∧ S1.ro b = none := by
 intro b hb
 obtain ⟨e1, e2⟩ := ha b hb
 refine ⟨?_, ?_⟩
 ·cases hx : S1.full b with
  | none => rfl
  | some o => rw [h.f b o hx] at e1; cases e1
 ·cases hx : S1.ro b with
  | none => rfl
  | some o =>
   rcases h.r b o hx with e | e
   ·rw [e] at e1; cases e1
   ·rw [e] at e2; cases e2
theorem Part.sh {S S1 : Own} (h : Part S S1) {sh : Nat → Prop} (ha : ∀ b, sh b → S.full b = none ∧ S.ro b = none) : ∀ b, sh b → S1.full b = none ∧ S1.ro b = none := by
 intro b hb
 obtain ⟨e1, e2⟩ := ha b hb
 refine ⟨?_, ?_⟩
 ·cases hx : S1.full b with
  | none => rfl
  | some o => rw [h.f b o hx] at e1; cases e1
 ·cases hx : S1.ro b with
  | none => rfl
  | some o =>
   rcases h.r b o hx with e | e
   ·rw [e] at e1; cases e1
   ·rw [e] at e2; cases e2
theorem Core.less (C : Core P gs w t T) {i : Nat} {S S1 : Own} (ho : T.own i = some S) (hp : Part S S1) : Core P gs w t { T with own := upd T.own i (some S1) } := by
 have own' : ∀ j U, upd T.own i (some S1) j = some U → (j = i ∧ U = S1) ∨ (j ≠ i ∧ T.own j = some U) := by
  intro j U h
  by_cases hj : j = i
  ·subst hj; rw [upd_same] at h; exact .inl ⟨rfl, (Option.some.inj h).symm⟩
  ·rw [upd_ne _ _ hj] at h; exact .inr ⟨hj, h⟩
 have isS : ∀ j, (T.own j).isSome ↔ (upd T.own i (some S1) j).isSome := by
  intro j
  by_cases hji : j = i
  ·subst hji; simp [upd_same, ho]
  ·rw [upd_ne _ _ hji]
 have nn : ∀ j, upd T.own i (some S1) j = none → T.own j = none := by
  intro j hj
  cases hx : T.own j with
  | none => rfl
  | some U => have := (isS j).1 (by simp [hx]); rw [hj] at this; cases this
 refine { C with inn := ?_, apart := ?_, bapart := ?_, shapart := ?_, full := ?_, ro := ?_, known := ?_, over := ?_, deaf := ?_, quit := ?_, above := ?_, low := fun j U hU b hb => ?_ }
 ·intro j U h
  rcases own' j U h with ⟨rfl, rfl⟩ | ⟨_, h⟩
  ·exact hp.inn (C.inn _ S ho)
  ·exact C.inn j U h
 ·intro j k U V hjk hU hV b hb
  rcases own' j U hU with ⟨e1, e2⟩ | ⟨hj, hU'⟩
  ·subst e1; subst e2
   rcases own' k V hV with ⟨e3, _⟩ | ⟨_, hV'⟩
   ·exact absurd e3.symm hjk
   ·exact hp.ap1 (C.apart j k S V hjk ho hV') b hb
  ·rcases own' k V hV with ⟨e1, e2⟩ | ⟨_, hV'⟩
   ·subst e1; subst e2
    exact hp.ap2 (C.apart j k U S hjk hU' ho) b hb
   ·exact C.apart j k U V hjk hU' hV' b hb
 ·intro j k U V p hU hV b
  rcases own' j U hU with ⟨e1, e2⟩ | ⟨_, hU'⟩
  ·subst e1; subst e2
   exact ⟨hp.ap1 (fun b hb => (C.bapart j k S V p ho hV b).1 hb) b, hp.ap2 (fun b hb => (C.bapart j k S V p ho hV b).2 hb) b⟩
  ·exact C.bapart j k U V p hU' hV b
 ·intro j U hU b hb
  rcases own' j U hU with ⟨e1, e2⟩ | ⟨_, hU'⟩
  ·subst e1; subst e2; exact hp.sh (C.shapart j S ho) b hb
  ·exact C.shapart j U hU' b hb
 ·intro j U hU b hb k x hx hbx
  rcases own' j U hU with ⟨e1, e2⟩ | ⟨_, hU'⟩
  ·subst e1; subst e2; exact C.full j S ho b (hp.fs hb) k x hx hbx
  ·exact C.full j U hU' b hb k x hx hbx
 ·intro j U hU b hb k x hx hbx hw
  rcases own' j U hU with ⟨e1, e2⟩ | ⟨_, hU'⟩
  ·subst e1; subst e2
   rcases hp.rs hb with h | h
   ·exact C.full j S ho b h k x hx hbx
   ·exact C.ro j S ho b h k x hx hbx hw
  ·exact C.ro j U hU' b hb k x hx hbx hw
 ·intro k x hx hm
  rcases C.known k x hx hm with h | h | ⟨j, h1, h2, h3⟩
  ·exact .inl h
  ·exact .inr (.inl h)
  ·exact .inr (.inr ⟨j, h1, h2, h3.imp (isS j).1 id⟩)
 ·intro k j hg hj hc
  rcases C.over k j hg hj hc with h | h | h
  ·exact .inl h
  ·exact .inr (.inl ((isS j).1 h))
  ·exact .inr (.inr h)
 ·exact fun j hj => C.deaf j ((isS j).2 hj)
 ·exact fun j g hj hg => C.quit j g (nn j hj) hg
 ·intro j hj
  obtain ⟨h1, h2, h3⟩ := C.above j hj
  refine ⟨h1, ?_, h3⟩
  cases hx : upd T.own i (some S1) j with
  | none => exact hx
  | some U => have := (isS j).2 (by simp [hx]); rw [h2] at this; cases this
 ·rcases own' j U hU with ⟨e1, e2⟩ | ⟨_, hU'⟩
  ·subst e1; subst e2; exact C.low j S ho b (hp.fs hb)
  ·exact C.low j U hU' b hb
theorem Core.drop (C : Core P gs w t T) {i z p : Nat} {S S1 S2 : Own} (ho : T.own i = some S) (hz : T.bag z = none) (h1 : Part S S1) (h2 : Part S S2)
  (a12 : ∀ b, (S1.full b).isSome → S2.full b = none ∧ S2.ro b = none) (a21 : ∀ b, (S2.full b).isSome → S1.full b = none ∧ S1.ro b = none)
  (hp : ∀ k, Knows t i k → Before t k p) : Core P gs w t { T with own := upd T.own i (some S1), bag := upd T.bag z (some (S2, p)) } := by
 have D := C.less ho h1
 have bag' : ∀ j U r, upd T.bag z (some (S2, p)) j = some (U, r) → (j = z ∧ U = S2 ∧ r = p) ∨ (j ≠ z ∧ T.bag j = some (U, r)) := by
  intro j U r h
  by_cases hj : j = z
  ·subst hj; rw [upd_same] at h; cases h; exact .inl ⟨rfl, rfl, rfl⟩
  ·rw [upd_ne _ _ hj] at h; exact .inr ⟨hj, h⟩
 refine { D with binn := ?_, bapart := ?_, bbapart := ?_, shbag := ?_, bfull := ?_, bro := ?_, blow := fun j U r hU b hb => ?_ }
 ·intro j U r h
  rcases bag' j U r h with ⟨rfl, rfl, rfl⟩ | ⟨_, h⟩
  ·exact h2.inn (C.inn i S ho)
  ·exact C.binn j U r h
 ·intro j k U V r hU hV b
  rcases bag' k V r hV with ⟨e1, e2, e3⟩ | ⟨_, hV'⟩
  ·subst e1; subst e2; subst e3
   by_cases hj : j = i
   ·subst hj
    have : U = S1 := by have h : upd T.own j (some S1) j = some U := hU; rw [upd_same] at h; exact (Option.some.inj h).symm
    subst this
    exact ⟨a12 b, a21 b⟩
   ·have hU' : T.own j = some U := by have h : upd T.own i (some S1) j = some U := hU; rwa [upd_ne _ _ hj] at h
    exact ⟨h2.ap2 (C.apart j i U S hj hU' ho) b, h2.ap1 (C.apart i j S U (Ne.symm hj) ho hU') b⟩
  ·exact D.bapart j k U V r hU hV' b
 ·intro j k U V r r' hjk hU hV b hb
  rcases bag' j U r hU with ⟨e1, e2, e3⟩ | ⟨_, hU'⟩
  ·subst e1; subst e2; subst e3
   rcases bag' k V r' hV with ⟨e1, _, _⟩ | ⟨_, hV'⟩
   ·exact absurd e1.symm hjk
   ·exact h2.ap1 (fun b hb => (C.bapart i k S V r' ho hV' b).1 hb) b hb
  ·rcases bag' k V r' hV with ⟨e1, e2, e3⟩ | ⟨_, hV'⟩
   ·subst e1; subst e2; subst e3
    exact h2.ap2 (fun b hb => (C.bapart i j S U r ho hU' b).2 hb) b hb
   ·exact C.bbapart j k U V r r' hjk hU' hV' b hb
 ·intro j U r hU b hb
  rcases bag' j U r hU with ⟨_, rfl, _⟩ | ⟨_, hU'⟩
  ·exact h2.sh (C.shapart i S ho) b hb
  ·exact C.shbag j U r hU' b hb
 ·intro j U r hU b hb k x hx hbx
  rcases bag' j U r hU with ⟨_, rfl, rfl⟩ | ⟨_, hU'⟩
  ·exact hp k (C.full i S ho b (h2.fs hb) k x hx hbx)
  ·exact C.bfull j U r hU' b hb k x hx hbx
 ·intro j U r hU b hb k x hx hbx hw
  rcases bag' j U r hU with ⟨_, rfl, rfl⟩ | ⟨_, hU'⟩
  ·rcases h2.rs hb with h | h
   ·exact hp k (C.full i S ho b h k x hx hbx)
   ·exact hp k (C.ro i S ho b h k x hx hbx hw)
  ·exact C.bro j U r hU' b hb k x hx hbx hw
 ·rcases bag' j U r hU with ⟨_, rfl, _⟩ | ⟨_, hU'⟩
  ·exact C.low i S ho b (h2.fs hb)
  ·exact C.blow j U r hU' b hb
end
open Go
open Go.Conc
open Go.ConcN (upd upd_ne upd_same)
def Own.join (S U : Own) : Own := { S with full := fun b => (S.full b).or (U.full b), ro := fun b => (S.ro b).or (U.ro b) }
theorem or_some {α : Type} {a b : Option α} {x : α} (h : a.or b = some x) : a = some x ∨ b = some x := by
 cases a with
 | none => exact .inr (by simpa using h)
 | some y => exact .inl (by simpa using h)
theorem or_isSome {α : Type} {a b : Option α} (h : (a.or b).isSome) : a.isSome ∨ b.isSome := by
 cases a <;> simp_all
theorem or_none' {α : Type} {a b : Option α} (h1 : a = none) (h2 : b = none) : a.or b = none := by subst h1; subst h2; rfl
section
variable {P : Program} {gs : Array Goroutine} {w w' : World} {t : Trace} {T : Tm}
theorem Own.join_inn {S U : Own} (hS : S.In w) (hU : U.In w) (h1 : ∀ b, (S.full b).isSome → U.full b = none ∧ U.ro b = none) (h2 : ∀ b, (U.full b).isSome → S.full b = none ∧ S.ro b = none) : (S.join U).In w := by
 refine ⟨fun b o h => (or_some h).elim (hS.lay b o) (hU.lay b o), fun b o h => (or_some h).elim (hS.layro b o) (hU.layro b o), fun b h => ?_⟩
 rcases or_isSome h with h | h
 ·exact or_none' (hS.disj b h) (h1 b h).2
 ·exact or_none' (h2 b h).2 (hU.disj b h)
theorem up_cases {α : Type} {f : Nat → Option α} {i j : Nat} {x y : α} (h : upd f i (some x) j = some y) : (j = i ∧ y = x) ∨ (j ≠ i ∧ f j = some y) := by
 by_cases hj : j = i
 ·subst hj; rw [upd_same] at h; exact .inl ⟨rfl, (Option.some.inj h).symm⟩
 ·rw [upd_ne _ _ hj] at h; exact .inr ⟨hj, h⟩
theorem un_cases {α : Type} {f : Nat → Option α} {i j : Nat} {y : α} (h : upd f i none j = some y) : j ≠ i ∧ f j = some y := by
 by_cases hj : j = i
 ·subst hj; rw [upd_same] at h; cases h
 ·rw [upd_ne _ _ hj] at h; exact ⟨hj, h⟩
theorem up_isSome {α : Type} {f : Nat → Option α} {i : Nat} {x : α} (hi : (f i).isSome) (j : Nat) : (upd f i (some x) j).isSome = (f j).isSome := by
 by_cases hj : j = i
 ·subst hj; rw [upd_same, hi]; rfl
 ·rw [upd_ne _ _ hj]
theorem up_none {α : Type} {f : Nat → Option α} {i : Nat} {x : α} (hi : (f i).isSome) {j : Nat} (h : upd f i (some x) j = none) : f j = none := by
 have := up_isSome (x := x) hi j
 rw [h] at this
 cases hx : f j with
 | none => rfl
 | some y => rw [hx] at this; cases this
theorem Core.own_swap (C : Core P gs w t T) {i : Nat} {S S' : Own} (ho : T.own i = some S) (hin : S'.In w)
  (ha : ∀ j U, j ≠ i → T.own j = some U → (∀ b, (S'.full b).isSome → U.full b = none ∧ U.ro b = none) ∧ (∀ b, (U.full b).isSome → S'.full b = none ∧ S'.ro b = none))
  (hb : ∀ j U p, T.bag j = some (U, p) → ∀ b, ((S'.full b).isSome → U.full b = none ∧ U.ro b = none) ∧ ((U.full b).isSome → S'.full b = none ∧ S'.ro b = none))
  (hs : ∀ b, T.sh b → S'.full b = none ∧ S'.ro b = none)
  (hlw : ∀ b, (S'.full b).isSome → T.low ≤ b) (hf : ∀ b, (S'.full b).isSome → ∀ k x, touchAt t k = some x → inB b x.loc → Knows t i k) (hr : ∀ b, (S'.ro b).isSome → ∀ k x, touchAt t k = some x → inB b x.loc → x.write = true → Knows t i k) :
  Core P gs w t { T with own := upd T.own i (some S') } := by
 have hi : (T.own i).isSome := by simp [ho]
 refine { C with inn := ?_, apart := ?_, bapart := ?_, shapart := ?_, full := ?_, ro := ?_, known := ?_, over := ?_, deaf := ?_, quit := ?_, above := ?_, low := ?_ }
 ·intro j U h
  rcases up_cases h with ⟨rfl, rfl⟩ | ⟨_, h⟩
  ·exact hin
  ·exact C.inn j U h
 ·intro j k U V hjk hU hV b hbb
  rcases up_cases hU with ⟨e1, e2⟩ | ⟨hj, hU'⟩
  ·subst e1; subst e2
   rcases up_cases hV with ⟨e3, _⟩ | ⟨hk, hV'⟩
   ·exact absurd e3.symm hjk
   ·exact (ha k V hk hV').1 b hbb
  ·rcases up_cases hV with ⟨e1, e2⟩ | ⟨_, hV'⟩
   ·subst e1; subst e2
    exact (ha j U hj hU').2 b hbb
   ·exact C.apart j k U V hjk hU' hV' b hbb
 ·intro j k U V p hU hV b
  rcases up_cases hU with ⟨e1, e2⟩ | ⟨_, hU'⟩
  ·subst e1; subst e2; exact hb k V p hV b
  ·exact C.bapart j k U V p hU' hV b
 ·intro j U hU b hbb
  rcases up_cases hU with ⟨e1, e2⟩ | ⟨_, hU'⟩
  ·subst e1; subst e2; exact hs b hbb
  ·exact C.shapart j U hU' b hbb
 ·intro j U hU b hbb k x hx hbx
  rcases up_cases hU with ⟨e1, e2⟩ | ⟨_, hU'⟩
  ·subst e1; subst e2; exact hf b hbb k x hx hbx
  ·exact C.full j U hU' b hbb k x hx hbx
 ·intro j U hU b hbb k x hx hbx hw
  rcases up_cases hU with ⟨e1, e2⟩ | ⟨_, hU'⟩
  ·subst e1; subst e2; exact hr b hbb k x hx hbx hw
  ·exact C.ro j U hU' b hbb k x hx hbx hw
 ·intro k x hx hm
  rcases C.known k x hx hm with h | h | ⟨j, h1, h2, h3⟩
  ·exact .inl h
  ·exact .inr (.inl h)
  ·exact .inr (.inr ⟨j, h1, h2, h3.imp (fun h => (up_isSome hi j).trans h) id⟩)
 ·intro k j hg hj hc
  rcases C.over k j hg hj hc with h | h | h
  ·exact .inl h
  ·exact .inr (.inl ((up_isSome hi j).trans h))
  ·exact .inr (.inr h)
 ·exact fun j hj => C.deaf j ((up_isSome hi j).symm.trans hj)
 ·exact fun j g hj hg => C.quit j g (up_none hi hj) hg
 ·intro j hj
  obtain ⟨h1, h2, h3⟩ := C.above j hj
  refine ⟨h1, ?_, h3⟩
  have : j ≠ i := by rintro rfl; rw [ho] at h2; cases h2
  show upd T.own i (some S') j = none
  rw [upd_ne _ _ this]; exact h2
 ·intro j U hU b hbb
  rcases up_cases hU with ⟨e1, e2⟩ | ⟨_, hU'⟩
  ·subst e1; subst e2; exact hlw b hbb
  ·exact C.low j U hU' b hbb
theorem Core.unbag (C : Core P gs w t T) (z : Nat) : Core P gs w t { T with bag := upd T.bag z none } := by
 refine { C with binn := ?_, bapart := ?_, bbapart := ?_, shbag := ?_, bfull := ?_, bro := ?_, blow := fun j U p h => C.blow j U p (un_cases h).2 }
 ·exact fun j U p h => C.binn j U p (un_cases h).2
 ·exact fun j k U V p hU hV => C.bapart j k U V p hU (un_cases hV).2
 ·exact fun j k U V p p' hjk hU hV => C.bbapart j k U V p p' hjk (un_cases hU).2 (un_cases hV).2
 ·exact fun j U p h => C.shbag j U p (un_cases h).2
 ·exact fun j U p h => C.bfull j U p (un_cases h).2
 ·exact fun j U p h => C.bro j U p (un_cases h).2
theorem Core.take (C : Core P gs w t T) {i z p : Nat} {S U : Own} (ho : T.own i = some S) (hz : T.bag z = some (U, p)) (hk : Knows t i p) :
  Core P gs w t { T with own := upd T.own i (some (S.join U)), bag := upd T.bag z none } := by
 have D := C.unbag z
 have b1 : ∀ b, (S.full b).isSome → U.full b = none ∧ U.ro b = none := fun b => (C.bapart i z S U p ho hz b).1
 have b2 : ∀ b, (U.full b).isSome → S.full b = none ∧ S.ro b = none := fun b => (C.bapart i z S U p ho hz b).2
 refine D.own_swap (i := i) ho (Own.join_inn (C.inn i S ho) (C.binn z U p hz) b1 b2) ?_ ?_ ?_ (fun b hb => (or_isSome hb).elim (C.low i S ho b) (C.blow z U p hz b)) ?_ ?_
 ·intro j V hj hV
  refine ⟨fun b hb => ?_, fun b hb => ?_⟩
  ·rcases or_isSome hb with h | h
   ·exact C.apart i j S V (Ne.symm hj) ho hV b h
   ·exact (C.bapart j z V U p hV hz b).2 h
  ·obtain ⟨e1, e2⟩ := C.apart j i V S hj hV ho b hb
   obtain ⟨e3, e4⟩ := (C.bapart j z V U p hV hz b).1 hb
   exact ⟨or_none' e1 e3, or_none' e2 e4⟩
 ·intro j V r hV b
  obtain ⟨hj, hV'⟩ := un_cases hV
  refine ⟨fun hb => ?_, fun hb => ?_⟩
  ·rcases or_isSome hb with h | h
   ·exact (C.bapart i j S V r ho hV' b).1 h
   ·exact C.bbapart z j U V p r (Ne.symm hj) hz hV' b h
  ·obtain ⟨e1, e2⟩ := (C.bapart i j S V r ho hV' b).2 hb
   obtain ⟨e3, e4⟩ := C.bbapart j z V U r p hj hV' hz b hb
   exact ⟨or_none' e1 e3, or_none' e2 e4⟩
 ·intro b hb
  obtain ⟨e1, e2⟩ := C.shapart i S ho b hb
  obtain ⟨e3, e4⟩ := C.shbag z U p hz b hb
  exact ⟨or_none' e1 e3, or_none' e2 e4⟩
 ·intro b hb k x hx hbx
  rcases or_isSome hb with h | h
  ·exact C.full i S ho b h k x hx hbx
  ·exact Knows.of_before (C.bfull z U p hz b h k x hx hbx) hk
 ·intro b hb k x hx hbx hw
  rcases or_isSome hb with h | h
  ·exact C.ro i S ho b h k x hx hbx hw
  ·exact Knows.of_before (C.bro z U p hz b h k x hx hbx hw) hk
theorem Core.last (C : Core P gs w t T) {i p : Nat} (hi : (T.own i).isSome) (hr : T.rel i = none) (hg : t.g? p = some i) (hl : ∀ k, p < k → t.g? k ≠ some i) (his : i < gs.size) :
  Core P gs w t { T with rel := upd T.rel i (some p) } := by
 refine { C with known := ?_, over := ?_, aft := ?_, above := ?_ }
 ·intro k x hx hm
  rcases C.known k x hx hm with h | h | ⟨j, h1, h2, h3⟩
  ·exact .inl h
  ·exact .inr (.inl h)
  ·refine .inr (.inr ⟨j, h1, h2, ?_⟩)
   rcases h3 with h3 | ⟨p', h3, h4⟩
   ·exact .inl h3
   ·have hj : j ≠ i := by rintro rfl; rw [hr] at h3; cases h3
    exact .inr ⟨p', by show upd T.rel i (some p) j = _; rw [upd_ne _ _ hj]; exact h3, h4⟩
 ·intro k j hgk hj hc
  rcases C.over k j hgk hj hc with h | h | ⟨p', h3, h4⟩
  ·exact .inl h
  ·exact .inr (.inl h)
  ·have hj : j ≠ i := by rintro rfl; rw [hr] at h3; cases h3
   exact .inr (.inr ⟨p', by show upd T.rel i (some p) j = _; rw [upd_ne _ _ hj]; exact h3, h4⟩)
 ·intro j p' h
  rcases up_cases h with ⟨rfl, rfl⟩ | ⟨_, h⟩
  ·exact ⟨hg, fun k hk hgk => absurd hgk (hl k hk)⟩
  ·exact C.aft j p' h
 ·intro j hj
  obtain ⟨h1, h2, h3, h4⟩ := C.above j hj
  refine ⟨h1, h2, ?_, h4⟩
  have : j ≠ i := by omega
  show upd T.rel i (some p) j = none
  rw [upd_ne _ _ this]; exact h3
theorem Core.goes (C : Core P gs w t T) {i p n : Nat} (hi : i ≠ 0) (hr : T.rel i = some p) (hq : ∀ g, gs[i]? = some g → QuitsD P n (Deaf t i) g) :
  Core P gs w t { T with own := upd T.own i none, q := upd T.q i n } := by
 refine { C with inn := ?_, apart := ?_, bapart := ?_, shapart := ?_, full := ?_, ro := ?_, known := ?_, over := ?_, deaf := ?_, quit := ?_, above := ?_, low := fun j U h => C.low j U (un_cases h).2 }
 ·exact fun j U h => C.inn j U (un_cases h).2
 ·exact fun j k U V hjk hU hV => C.apart j k U V hjk (un_cases hU).2 (un_cases hV).2
 ·exact fun j k U V p hU hV => C.bapart j k U V p (un_cases hU).2 hV
 ·exact fun j U hU => C.shapart j U (un_cases hU).2
 ·exact fun j U hU => C.full j U (un_cases hU).2
 ·exact fun j U hU => C.ro j U (un_cases hU).2
 ·intro k x hx hm
  rcases C.known k x hx hm with h | h | ⟨j, h1, h2, h3⟩
  ·exact .inl h
  ·exact .inr (.inl h)
  ·by_cases hj : j = i
   ·subst hj
    by_cases hk : k ≤ p
    ·exact .inr (.inr ⟨j, h1, h2, .inr ⟨p, hr, hk⟩⟩)
    ·exact .inr (.inl (((C.aft j p hr).2 k (by omega) h1).2 x hx hm))
   ·exact .inr (.inr ⟨j, h1, h2, h3.imp (fun h => by show (upd T.own i none j).isSome; rw [upd_ne _ _ hj]; exact h) id⟩)
 ·intro k j hg hj hc
  by_cases hji : j = i
  ·subst hji
   by_cases hk : k ≤ p
   ·exact .inr (.inr ⟨p, hr, hk⟩)
   ·exact absurd hc ((C.aft j p hr).2 k (by omega) hg).1
  ·rcases C.over k j hg hj hc with h | h | h
   ·exact .inl h
   ·exact .inr (.inl (by show (upd T.own i none j).isSome; rw [upd_ne _ _ hji]; exact h))
   ·exact .inr (.inr h)
 ·intro j hj
  obtain ⟨U, hU⟩ := Option.isSome_iff_exists.1 hj
  exact C.deaf j (by rw [(un_cases hU).2]; rfl)
 ·intro j g hj hg
  by_cases hji : j = i
  ·subst hji; show QuitsD P (upd T.q j n j) _ g; rw [upd_same]; exact hq g hg
  ·have hj' : upd T.own i none j = none := hj
   rw [upd_ne _ _ hji] at hj'
   show QuitsD P (upd T.q i n j) _ g
   rw [upd_ne _ _ hji]; exact C.quit j g hj' hg
 ·intro j hj
  obtain ⟨h1, h2, h3⟩ := C.above j hj
  refine ⟨h1, ?_, h3⟩
  show upd T.own i none j = none
  by_cases hji : j = i
  ·subst hji; exact upd_same _ _ _
  ·rw [upd_ne _ _ hji]; exact h2
end
open Go
open Go.Conc
open Go.ConcN (upd upd_ne upd_same)
def shunOf (sh : Nat → Prop) : Loc → Prop := fun l => ∃ b, sh b ∧ inB b l
section
variable {P : Program} {gs : Array Goroutine} {w w' : World} {t : Trace} {T : Tm}
theorem touch_no {y : MemOp} (hy : y.act.touch? = none) {k : Nat} {x : Touch} (h : touchAt (t ++ #[y]) k = some x) : k < t.size ∧ touchAt t k = some x := by
 rcases touch_cases h with h | ⟨_, op, hop, _, hx⟩
 ·exact h
 ·have : op = y := by simpa using hop
  subst this; rw [hy] at hx; cases hx
theorem Core.start (C : Core P gs w t T) {i p : Nat} {E : Own} (hE : ∀ b, E.full b = none ∧ E.ro b = none) (hgo : t.act? p = some (.go gs.size)) (hh : t.heard p)
    (hlast : ∀ k, Knows t i k → Before t k p) {y : MemOp} (hy : y.g = gs.size) (hya : y.act = .start) (child : Goroutine) (uc : Nat → Prop) (huc : ∀ b, uc b → T.usr i b) :
    Core P (gs.push child) w (t ++ #[y]) { T with own := upd T.own gs.size (some E), d := upd T.d gs.size 0, usr := fun j b => T.usr j b ∨ (j = gs.size ∧ uc b) } ∧
      ∀ k, Before t k p → Knows (t ++ #[y]) gs.size k := by
  have hyt : y.act.touch? = none := by rw [hya]; rfl
  have hall : ∀ op ∈ (#[y] : Trace), op.g = gs.size := by
    intro op hop
    have : op = y := by simpa using hop
    rw [this, hy]
  obtain ⟨ha1, ha2, ha3, ha4⟩ := C.above gs.size (Nat.le_refl _)
  have hel : (t ++ #[y])[t.size]? = some y := by simp
  have hpl := lt_of_act? hgo
  have hedge : HappensBefore (t ++ #[y]) p t.size := by
    refine .single (.inr ⟨.spawn (child := gs.size) (by rw [act?_old hpl]; exact hgo) (by rw [act?_of hel, hya]) (by simp [Trace.g?, hy]), (heard_old hpl).2 hh, ⟨gs.size, by simp [Trace.g?, hy], ?_⟩⟩)
    rw [deaf_old (Nat.le_refl _)]; exact ha1
  have hkn : ∀ k, Before t k p → Knows (t ++ #[y]) gs.size k := fun k hk => ⟨t.size, y, hel, hy, .inr ((hk.app #[y]).hb hedge)⟩
  have own' : ∀ j U, upd T.own gs.size (some E) j = some U → (j = gs.size ∧ U = E) ∨ (j ≠ gs.size ∧ T.own j = some U) := fun j U h => up_cases h
  have isS : ∀ j, (T.own j).isSome → (upd T.own gs.size (some E) j).isSome := by
    intro j hj
    by_cases h : j = gs.size
    · subst h; simp [upd_same]
    · rw [upd_ne _ _ h]; exact hj
  have gold : ∀ {k j : Nat}, k < t.size → t.g? k = some j → (t ++ #[y]).g? k = some j := fun hk h => by rw [g?_old hk]; exact h
  have gcase : ∀ {k j : Nat}, (t ++ #[y]).g? k = some j → (k < t.size ∧ t.g? k = some j) ∨ (k = t.size ∧ j = gs.size) := by
    intro k j h
    by_cases hk : k < t.size
    · exact .inl ⟨hk, by rwa [g?_old hk] at h⟩
    · have h1 := g?_lt h
      simp at h1
      have : k = t.size := by omega
      subst this
      refine .inr ⟨rfl, ?_⟩
      have : (t ++ #[y]).g? t.size = some gs.size := by simp [Trace.g?, hy]
      rw [this] at h; exact (Option.some.inj h).symm
  refine ⟨{ inn := ?_, apart := ?_, binn := C.binn, bapart := ?_, bbapart := C.bbapart, shapart := ?_, shbag := C.shbag, shlow := C.shlow, ush := ?_, clean := ?_, full := ?_, ro := ?_, bfull := ?_, bro := ?_,
            shplain := ?_, shsaid := ?_, known := ?_, over := ?_, aft := ?_, deaf := ?_, quit := ?_, above := ?_, seen := ?_, calm := ?_, low := ?_, blow := C.blow, slow := C.slow, far := C.far }, hkn⟩
  · intro j U h
    rcases own' j U h with ⟨_, rfl⟩ | ⟨_, h⟩
    · exact ⟨fun b o hb => (by rw [(hE b).1] at hb; cases hb), fun b o hb => (by rw [(hE b).2] at hb; cases hb), fun b _ => (hE b).2⟩
    · exact C.inn j U h
  · intro j k U V hjk hU hV b hb
    rcases own' j U hU with ⟨_, rfl⟩ | ⟨_, hU'⟩
    · rw [(hE b).1] at hb; cases hb
    · rcases own' k V hV with ⟨_, rfl⟩ | ⟨_, hV'⟩
      · exact hE b
      · exact C.apart j k U V hjk hU' hV' b hb
  · intro j k U V q hU hV b
    rcases own' j U hU with ⟨_, rfl⟩ | ⟨_, hU'⟩
    · exact ⟨fun hb => (by rw [(hE b).1] at hb; cases hb), fun _ => hE b⟩
    · exact C.bapart j k U V q hU' hV b
  · intro j U hU b hb
    rcases own' j U hU with ⟨_, rfl⟩ | ⟨_, hU'⟩
    · exact hE b
    · exact C.shapart j U hU' b hb
  · intro j b h
    rcases h with h | ⟨_, h⟩
    · exact C.ush j b h
    · exact C.ush i b (huc b h)
  · intro said
    exact noRace_append (g := gs.size) (C.clean said) hall fun k a _ op hop b hb _ => by
      have : op = y := by simpa using hop
      rw [this, hyt] at hb; cases hb
  · intro j U hU b hb k x hx hbx
    rcases own' j U hU with ⟨_, rfl⟩ | ⟨_, hU'⟩
    · rw [(hE b).1] at hb; cases hb
    · exact (C.full j U hU' b hb k x (touch_no hyt hx).2 hbx).app _
  · intro j U hU b hb k x hx hbx hw
    rcases own' j U hU with ⟨_, rfl⟩ | ⟨_, hU'⟩
    · rw [(hE b).2] at hb; cases hb
    · exact (C.ro j U hU' b hb k x (touch_no hyt hx).2 hbx hw).app _
  · exact fun j U r hU b hb k x hx hbx => (C.bfull j U r hU b hb k x (touch_no hyt hx).2 hbx).app _
  · exact fun j U r hU b hb k x hx hbx hw => (C.bro j U r hU b hb k x (touch_no hyt hx).2 hbx hw).app _
  · intro j b h k x hx hbx hp
    rcases h with h | ⟨rfl, h⟩
    · exact (C.shplain j b h k x (touch_no hyt hx).2 hbx hp).app _
    · exact hkn k (hlast k (C.shplain i b (huc b h) k x (touch_no hyt hx).2 hbx hp))
  · exact fun b hb k x hx hbx hp => (C.shsaid b hb k x (touch_no hyt hx).2 hbx hp).app _
  · intro k x hx hm
    obtain ⟨hk, hx'⟩ := touch_no hyt hx
    rcases C.known k x hx' hm with h | h | ⟨j, h1, h2, h3⟩
    · exact .inl (h.app _)
    · exact .inr (.inl h)
    · exact .inr (.inr ⟨j, gold hk h1, h2, h3.imp (isS j) id⟩)
  · intro k j hg hj hc
    rcases gcase hg with ⟨hk, hg'⟩ | ⟨rfl, rfl⟩
    · rcases C.over k j hg' hj ((counts_old hk).1 hc) with h | h | h
      · exact .inl (h.app _)
      · exact .inr (.inl (isS j h))
      · exact .inr (.inr h)
    · exact .inr (.inl (by simp [upd_same]))
  · intro j q hq
    obtain ⟨h1, h2⟩ := C.aft j q hq
    refine ⟨gold (g?_lt h1) h1, fun k hk hg => ?_⟩
    rcases gcase hg with ⟨hkt, hg'⟩ | ⟨rfl, rfl⟩
    · obtain ⟨h3, h4⟩ := h2 k hk hg'
      exact ⟨fun hc => h3 ((counts_old hkt).1 hc), fun x hx => h4 x (touch_no hyt hx).2⟩
    · have hq' : T.rel gs.size = some q := hq
      rw [ha3] at hq'; cases hq'
  · intro j hj
    by_cases h : j = gs.size
    · subst h
      show _ = upd T.d gs.size 0 gs.size
      rw [upd_same, Deaf_push, ha1]; unfold deafStep; rw [hya]
    · have hj' : (upd T.own gs.size (some E) j).isSome := hj
      rw [upd_ne _ _ h] at hj'
      show _ = upd T.d gs.size 0 j
      rw [upd_ne _ _ h, Deaf_other t (Ne.symm h) #[y] hall]
      exact C.deaf j hj'
  · intro j g hj hg
    have hj' : upd T.own gs.size (some E) j = none := hj
    by_cases h : j = gs.size
    · subst h; rw [upd_same] at hj'; cases hj'
    · rw [upd_ne _ _ h] at hj'
      rw [Array.getElem?_push, if_neg h] at hg
      rw [Deaf_other t (Ne.symm h) #[y] hall]
      exact C.quit j g hj' hg
  · intro j hj
    have hj' : gs.size + 1 ≤ j := by simpa using hj
    have h : j ≠ gs.size := by omega
    obtain ⟨h1, h2, h3, h4⟩ := C.above j (by omega)
    refine ⟨?_, ?_, h3, fun b hb => hb.elim (h4 b) (fun hb => h hb.1)⟩
    · rw [Deaf_other t (Ne.symm h) #[y] hall]
      exact h1
    · show upd T.own gs.size (some E) j = none
      rw [upd_ne _ _ h]; exact h2
  · intro op hop
    rcases Array.mem_append.1 hop with h | h
    · exact C.seen op h
    · have : op = y := by simpa using h
      rw [this, hya]; trivial
  · intro b hb
    obtain ⟨h1, h2, h3⟩ := C.calm b hb
    refine ⟨h1, fun j hj => ?_, fun k x hx hbx => (h3 k x (touch_no hyt hx).2 hbx).app _⟩
    rcases hj with hj | ⟨_, hj⟩
    · exact h2 j hj
    · exact h2 i (huc b hj)
  · intro j U hU b hb
    rcases own' j U hU with ⟨_, rfl⟩ | ⟨_, hU'⟩
    · rw [(hE b).1] at hb; cases hb
    · exact C.low j U hU' b hb
theorem Core.shelve (C : Core P gs w t T) {b : Nat} {S S1 : Own} (ho : T.own 0 = some S) (hb : (S.full b).isSome) (h1 : Part S S1) (h2 : S1.full b = none) (h3 : S1.ro b = none) :
  Core P gs w t { T with own := upd T.own 0 (some S1), sh := fun x => T.sh x ∨ x = b, boss := upd T.boss b 0, calm := fun x => T.calm x ∨ x = b } := by
 have D := C.less ho h1
 have nsh : ¬ T.sh b := fun h => by have := (C.shapart 0 S ho b h).1; rw [this] at hb; cases hb
 refine { D with shapart := ?_, shbag := ?_, shlow := ?_, ush := ?_, shsaid := ?_, known := ?_, aft := ?_, calm := ?_, slow := ?_ }
 ·intro j U hU x hx
  rcases hx with hx | rfl
  ·exact D.shapart j U hU x hx
  ·rcases up_cases hU with ⟨_, rfl⟩ | ⟨hj, hU'⟩
   ·exact ⟨h2, h3⟩
   ·exact C.apart 0 j S U (Ne.symm hj) ho hU' x hb
 ·intro j U p hU x hx
  rcases hx with hx | rfl
  ·exact C.shbag j U p hU x hx
  ·exact (C.bapart 0 j S U p ho hU x).1 hb
 ·intro x hx
  rcases hx with hx | rfl
  ·exact C.shlow x hx
  ·exact (C.inn 0 S ho).lt hb
 ·exact fun j x hx => .inl (C.ush j x hx)
 ·intro x hx k y hy hxy hp
  show Knows t (upd T.boss b 0 x) k
  by_cases hxb : x = b
  ·subst hxb; rw [upd_same]; exact C.full 0 S ho x hb k y hy hxy
  ·rw [upd_ne _ _ hxb]; exact C.shsaid x (hx.elim id (fun h => absurd h hxb)) k y hy hxy hp
 ·intro k x hx hm
  rcases D.known k x hx hm with h | ⟨c, h, h'⟩ | h
  ·exact .inl h
  ·exact .inr (.inl ⟨c, .inl h, h'⟩)
  ·exact .inr (.inr h)
 ·intro j p hp
  obtain ⟨e1, e2⟩ := C.aft j p hp
  exact ⟨e1, fun k hk hg => ⟨(e2 k hk hg).1, fun x hx hm => let ⟨c, h, h'⟩ := (e2 k hk hg).2 x hx hm; ⟨c, .inl h, h'⟩⟩⟩
 ·intro x hx
  rcases hx with hx | rfl
  ·obtain ⟨e1, e2, e3⟩ := C.calm x hx
   exact ⟨.inl e1, e2, e3⟩
  ·exact ⟨.inr rfl, fun j hj => nsh (C.ush j x hj), C.full 0 S ho x hb⟩
 ·intro x hx
  rcases hx with hx | rfl
  ·exact C.slow x hx
  ·exact C.low 0 S ho x hb
theorem knows_po {k p j m : Nat} (hk : t.g? k = some j) (hp : t.g? p = some j) (hle : k ≤ p) (h : Knows t m p) : Knows t m k := by
 rcases Nat.lt_or_eq_of_le hle with h' | rfl
 ·obtain ⟨x, hx, hxg⟩ := g?_el hk
  obtain ⟨y, hy, hyg⟩ := g?_el hp
  exact Knows.of_before (.inr (hb_po h' hx hy (hxg.trans hyg.symm))) h
 ·exact h
theorem Core.all_known (C : Core P gs w t T) (hall : ∀ j, j ≠ 0 → T.own j = none) (hk : ∀ j p, T.rel j = some p → Knows t 0 p) {k : Nat} {x : Touch} (hx : touchAt t k = some x) (hm : x.loc.isMemory = true) :
  Knows t 0 k ∨ ∃ b, T.sh b ∧ inB b x.loc ∧ x.kind = .atomic := by
 rcases C.known k x hx hm with h | h | ⟨j, h1, h2, h3 | ⟨p, h3, h4⟩⟩
 ·exact .inl h
 ·exact .inr h
 ·rw [hall j h2] at h3; cases h3
 ·exact .inl (knows_po h1 (C.aft j p h3).1 h4 (hk j p h3))
def Tm.one (S : Own) (q : Nat → Nat) (Shun : Loc → Prop) (N : Nat) (w0 : Option World) : Tm :=
 { own := fun i => if i = 0 then some S else none, bag := fun _ => none, rel := fun _ => none, q := q, d := fun _ => 0, sh := fun b => ∃ l, inB b l ∧ Shun l, usr := fun _ _ => False, boss := fun _ => 0, calm := fun _ => False, low := N, w0 }
theorem Core.begin {g : Goroutine} {S : Own} {Shun : Loc → Prop} {B : Nat} {q : Nat → Nat} (h : Stand P g S gs w t Shun B q) {N : Nat} {w0 : Option World} (hlw : ∀ b, (S.full b).isSome → N ≤ b) (hsl : ∀ b l, inB b l → Shun l → N ≤ b) (hfar : Far N w0 w) : Core P gs w t (Tm.one S q Shun N w0) := by
  have one : ∀ i U, (Tm.one S q Shun N w0).own i = some U → i = 0 ∧ U = S := by
    intro i U hi
    simp only [Tm.one] at hi
    split at hi
    · exact ⟨‹_›, (Option.some.inj hi).symm⟩
    · cases hi
  have shn : ∀ b, (Tm.one S q Shun N w0).sh b → S.full b = none ∧ S.ro b = none := by
    rintro b ⟨l, hl, hs⟩
    cases l with
    | cell a => cases hl; exact (h.cell a hs).2
    | obj r => cases hl; exact (h.obj b hs).2
    | _ => exact hl.elim
  have kn : ∀ k x, touchAt t k = some x → x.loc.isMemory = true → Knows t 0 k ∨ (Shun x.loc ∧ x.kind = .atomic) := h.past.known
  refine { inn := ?_, apart := ?_, binn := ?_, bapart := ?_, bbapart := ?_, shapart := ?_, shbag := ?_, shlow := ?_, ush := ?_, clean := h.past.clean, full := ?_, ro := ?_, bfull := ?_, bro := ?_,
           shplain := ?_, shsaid := ?_, known := ?_, over := ?_, aft := ?_, deaf := ?_, quit := ?_, above := ?_, seen := ?_, calm := fun _ h => h.elim, low := ?_, blow := fun i U p hi => (by cases hi), slow := fun b ⟨l, hl, hs⟩ => hsl b l hl hs, far := hfar }
  · intro i U hi; obtain ⟨_, rfl⟩ := one i U hi; exact h.inn
  · intro i j U V hij hi hj; exact absurd ((one i U hi).1.trans (one j V hj).1.symm) hij
  · intro i U p hi; cases hi
  · intro i j U V p _ hj; cases hj
  · intro i j U V p p' _ hi; cases hi
  · intro i U hi b hb; obtain ⟨_, rfl⟩ := one i U hi; exact shn b hb
  · intro i U p hi; cases hi
  · rintro b ⟨l, hl, hs⟩
    cases l with
    | cell a => cases hl; exact (h.cell a hs).1
    | obj r => cases hl; exact (h.obj b hs).1
    | _ => exact hl.elim
  · exact fun _ _ h => h.elim
  · intro i U hi b hb k x hx hbx
    obtain ⟨rfl, rfl⟩ := one i U hi
    rcases kn k x hx (inB_mem hbx) with h' | ⟨h', _⟩
    · exact h'
    · have := (shn b ⟨x.loc, hbx, h'⟩).1; rw [this] at hb; cases hb
  · intro i U hi b hb k x hx hbx hw
    obtain ⟨rfl, rfl⟩ := one i U hi
    rcases kn k x hx (inB_mem hbx) with h' | ⟨h', _⟩
    · exact h'
    · have := (shn b ⟨x.loc, hbx, h'⟩).2; rw [this] at hb; cases hb
  · intro i U p hi; cases hi
  · intro i U p hi; cases hi
  · exact fun _ _ h => h.elim
  · intro b hb k x hx hbx hp
    rcases kn k x hx (inB_mem hbx) with h' | ⟨_, h'⟩
    · exact h'
    · rw [hp] at h'; cases h'
  · intro k x hx hm
    rcases kn k x hx hm with h' | ⟨h1, h2⟩
    · exact .inl h'
    · obtain ⟨b, hb⟩ := inB_of hm
      exact .inr (.inl ⟨b, ⟨x.loc, hb, h1⟩, hb, h2⟩)
  · intro k j hg hj hc
    obtain ⟨p, hp, hb⟩ := h.past.over k j hg hj hc
    obtain ⟨z, hz, hzg⟩ := g?_el hp
    exact .inl ⟨p, z, hz, hzg, .inr hb⟩
  · intro i p hi; cases hi
  · intro i hi
    obtain ⟨U, hU⟩ := Option.isSome_iff_exists.1 hi
    obtain ⟨rfl, _⟩ := one i U hU
    exact h.past.hears
  · intro i g' hi hg
    have : i ≠ 0 := by rintro rfl; simp [Tm.one] at hi
    exact h.lv.old i g' (by omega) hg
  · intro j hj
    refine ⟨h.lv.above j hj, ?_, rfl, fun _ h => h⟩
    have : 0 < gs.size := (Array.getElem?_eq_some_iff.1 h.h0).1
    simp only [Tm.one]; rw [if_neg (by omega)]
  · exact fun op hop => MemAct.low_mono h.low (h.past.seen op hop)
  · intro i U hi; obtain ⟨_, rfl⟩ := one i U hi; exact hlw
theorem Core.finish (C : Core P gs w t T) (hall : ∀ j, j ≠ 0 → T.own j = none) (hk : ∀ j p, T.rel j = some p → Knows t 0 p) (hd : T.d 0 = 0) {g : Goroutine} {S S' : Own} (ho : T.own 0 = some S) (hg : gs[0]? = some g)
  (hin : S'.In w) (hsh : ∀ b, T.sh b → ¬ T.calm b → S'.full b = none ∧ S'.ro b = none) (hnr : ∀ op ∈ t, ∀ a : Addr, op.act = .mark (.release a) → T.sh a.block ∧ ¬ T.calm a.block) :
  Stand P g S' gs w t (shunOf fun b => T.sh b ∧ ¬ T.calm b) w.heap.size T.q := by
 refine ⟨hg, ⟨fun i g' hi hg' => C.quit i g' (hall i (by omega)) hg', fun j hj => (C.above j hj).1⟩, ⟨C.clean, ?_, ?_, ?_, C.seen⟩, hin, ?_, ?_, Nat.le_refl _, fun op hop a ha => ⟨a.block, hnr op hop a ha, rfl⟩⟩
 ·intro k x hx hm
  rcases C.all_known hall hk hx hm with h | ⟨b, h1, h2, h3⟩
  ·exact .inl h
  ·by_cases hc : T.calm b
   ·exact .inl ((C.calm b hc).2.2 k x hx h2)
   ·exact .inr ⟨⟨b, ⟨h1, hc⟩, h2⟩, h3⟩
 ·intro k j hgk hj hc
  have hkn : Knows t 0 k := by
   rcases C.over k j hgk hj hc with h | h | ⟨p, h3, h4⟩
   ·exact h
   ·rw [hall j hj] at h; cases h
   ·exact knows_po hgk (C.aft j p h3).1 h4 (hk j p h3)
  obtain ⟨m, z, hz, hzg, hb⟩ := hkn
  refine ⟨m, by simp [Trace.g?, hz, hzg], ?_⟩
  rcases hb with rfl | hb
  ·simp only [Trace.g?, hz, Option.map_some, Option.some.injEq] at hgk
   exact absurd (hgk.symm.trans hzg) hj
  ·exact hb
 ·rw [C.deaf 0 (by simp [ho])]; exact hd
 ·rintro a ⟨b, ⟨hb, hc⟩, rfl⟩
  exact ⟨C.shlow _ hb, hsh _ hb hc⟩
 ·rintro r ⟨b, ⟨hb, hc⟩, rfl⟩
  exact ⟨C.shlow _ hb, hsh _ hb hc⟩
end
open Go
open Go.Conc
open Go.ConcN (upd upd_ne upd_same)
def Rk.of : Nat → Rk
 | 0 => .zero
 | n + 1 => .sup Unit fun _ => Rk.of n
theorem Rk.of_lt (n : Nat) : Rk.Lt (Rk.of n) (Rk.of (n + 1)) := .sub (fun _ : Unit => Rk.of n) ()
def updr (f : Nat → Rk) (i : Nat) (x : Rk) : Nat → Rk := fun a => if a = i then x else f a
theorem updr_same (f : Nat → Rk) (i : Nat) (x : Rk) : updr f i x i = x := by simp [updr]
theorem updr_ne (f : Nat → Rk) {i a : Nat} (x : Rk) (h : a ≠ i) : updr f i x a = f a := by simp [updr, h]
theorem updr_id (f : Nat → Rk) (i : Nat) : updr f i (f i) = f := by
 funext a; unfold updr; split
 ·rename_i h; rw [h]
 ·rfl
def ranks (n : Nat) (f : Nat → Rk) : List Rk := (List.range n).map f
theorem ranks_succ (n : Nat) (f : Nat → Rk) : (ranks (n + 1) f).Perm (f n :: ranks n f) := by
 unfold ranks
 rw [List.range_succ, List.map_append]
 exact List.perm_append_comm
theorem ranks_upd {n i : Nat} (f : Nat → Rk) (hi : i < n) : ∃ rest, ∀ x, (ranks n (updr f i x)).Perm (x :: rest) := by
 induction n with
 | zero => omega
 | succ n ih =>
  by_cases h : i = n
  ·subst h
   refine ⟨ranks i f, fun x => ?_⟩
   have e : ranks i (updr f i x) = ranks i f := by
    unfold ranks
    refine List.map_congr_left fun a ha => ?_
    rw [updr_ne]; have := List.mem_range.1 ha; omega
   have := ranks_succ i (updr f i x)
   rwa [updr_same, e] at this
  ·obtain ⟨rest, hr⟩ := ih (by omega)
   refine ⟨f n :: rest, fun x => ?_⟩
   have h1 := ranks_succ n (updr f i x)
   rw [updr_ne _ _ (Ne.symm h)] at h1
   exact h1.trans (((hr x).cons (f n)).trans (List.Perm.swap x (f n) rest))
theorem ranks_down {n i : Nat} {f : Nat → Rk} (hi : i < n) {x : Rk} (hx : Rk.Lt x (f i)) (k j : Nat) (hz : Rk.Lt .zero (f i)) :
  Down (ranks n (updr f i x) ++ List.replicate (k + j) Rk.zero) (ranks n f ++ List.replicate j Rk.zero) := by
 obtain ⟨rest, hr⟩ := ranks_upd f hi
 have h0 : (ranks n f).Perm (f i :: rest) := by have := hr (f i); rwa [updr_id] at this
 refine ⟨f i, x :: List.replicate k .zero, rest ++ List.replicate j .zero, h0.append_right _, ?_, ?_⟩
 ·have := (hr x).append_right (List.replicate (k + j) Rk.zero)
  refine this.trans ?_
  rw [← List.replicate_append_replicate]
  simp only [List.cons_append]
  refine List.Perm.cons x ?_
  rw [← List.append_assoc, ← List.append_assoc]
  exact (List.perm_append_comm).append_right _
 ·intro y hy
  rcases List.mem_cons.1 hy with rfl | hy
  ·exact hx
  ·rw [(List.mem_replicate.1 hy).2]; exact hz
open Go
open Go.Conc
open Go.ConcN (upd upd_ne upd_same)
section
variable {P : Program} {gs : Array Goroutine} {w w' : World} {t : Trace} {T : Tm}
theorem own_same {i : Nat} {S : Own} (ho : T.own i = some S) : upd T.own i (some S) = T.own := by
 have := upd_id T.own i
 rwa [ho] at this
theorem knows_before {i p : Nat} (hg : t.g? p = some i) (hl : p + 1 = t.size) {k : Nat} (h : Knows t i k) : Before t k p := by
 obtain ⟨q, z, h1, h2, h3⟩ := h
 have hq := lt_size_of_getElem? h1
 rcases Nat.lt_or_eq_of_le (show q ≤ p by omega) with h' | rfl
 ·obtain ⟨y, hy, hyg⟩ := g?_el hg
  exact h3.trans (.inr (hb_po h' h1 hy (h2.trans hyg.symm)))
 ·exact h3
theorem Core.fork (C : Core P gs w t T) {i z : Nat} {S S1 S2 : Own} {g' child : Goroutine} (ho : T.own i = some S) (hi : i < gs.size) (hz : T.bag z = none) (hr : T.rel i = none) (hd : T.d i = 0) (h1 : Part S S1) (h2 : Part S S2)
  (a12 : ∀ b, (S1.full b).isSome → S2.full b = none ∧ S2.ro b = none) (a21 : ∀ b, (S2.full b).isSome → S1.full b = none ∧ S1.ro b = none) (uc : Nat → Prop) (huc : ∀ b, uc b → T.usr i b)
  {y y' : MemOp} (hy : y.g = i) (hya : y.act = .go gs.size) (hy' : y'.g = gs.size) (hya' : y'.act = .start) :
  Core P ((gs.setIfInBounds i g').push child) w ((t ++ #[y]) ++ #[y'])
   { T with own := upd (upd T.own i (some S1)) gs.size (some S2), d := upd T.d gs.size 0, usr := fun j b => T.usr j b ∨ (j = gs.size ∧ uc b) } := by
 have hyt : y.act.touch? = none := by rw [hya]; rfl
 have hmem : ∀ op ∈ (#[y] : Trace), op = y := fun op hop => by simpa using hop
 have hne : i ≠ gs.size := by omega
 have hsize : (gs.setIfInBounds i g').size = gs.size := by simp
 have hg : (t ++ #[y]).g? t.size = some i := by simp [Trace.g?, hy]
 have hDi : Deaf t i = 0 := by rw [C.deaf i (by simp [ho]), hd]
 have C1 := C.grow (gs' := gs.setIfInBounds i g') (w' := w) (u := #[y]) (S := S) (S' := S) (d' := 0) ho (fun op hop => by rw [hmem op hop, hy]) (fun op hop x hx => by rw [hmem op hop, hyt] at hx; cases hx)
  (fun op hop => by rw [hmem op hop, hya]; trivial) (by rw [Deaf_push, hDi]; unfold deafStep; rw [hya]) (.inl hr) (C.inn i S ho) (Calm.refl _) (Nat.le_refl _) (fun _ _ _ _ => rfl) (fun _ h => .inl h) (fun _ h => .inr h) hsize hi
  (fun j x hj hx => by
   have hij : i ≠ j := by rintro rfl; rw [ho] at hj; cases hj
   rw [Array.getElem?_setIfInBounds_ne hij] at hx; exact C.quit j x hj hx)
 have e1 : upd T.d i 0 = T.d := by rw [← hd]; exact upd_id T.d i
 rw [own_same ho, e1] at C1
 have C2 := C1.drop (z := z) (p := t.size) ho hz h1 h2 a12 a21 (fun k hk => knows_before hg (by simp) hk)
 obtain ⟨C3, hk⟩ := C2.start (i := i) (p := t.size) (E := ⟨fun _ => none, fun _ => none, S2.gh⟩) (fun _ => ⟨rfl, rfl⟩)
  (by rw [hsize, act?_of (op := y) (by simp), hya]) ⟨i, hg, by rw [deaf_old (Nat.le_refl _)]; exact hDi⟩ (fun k hk => knows_before hg (by simp) hk) (y := y') (by rw [hsize]; exact hy') hya' child uc huc
 rw [hsize] at C3 hk
 have C4 := C3.take (i := gs.size) (z := z) (p := t.size) (upd_same _ _ _) (upd_same _ _ _) (hk t.size (.inl rfl))
 have e2 : (Own.join ⟨fun _ => none, fun _ => none, S2.gh⟩ S2) = S2 := by simp [Own.join]
 have e3 : upd (upd T.bag z (some (S2, t.size))) z none = T.bag := by
  funext a; unfold upd
  split
  ·rename_i h; rw [h, hz]
  ·rfl
 have e4 : upd (upd (upd T.own i (some S1)) gs.size (some (⟨fun _ => none, fun _ => none, S2.gh⟩ : Own))) gs.size (some S2) = upd (upd T.own i (some S1)) gs.size (some S2) := by
  funext a; unfold upd
  split <;> rfl
 simp only [e2, e3, e4] at C4
 exact C4
end
open Go
open Go.Conc
open Go.ConcN (upd upd_ne upd_same)
def Own.as (S : Own) (g : Gh) : Own := { S with gh := g }
def Runs (g : Goroutine) : Prop := g.status = .running
def StopW (_ : Goroutine) (_ : Own) : Prop := False
structure GD where
 T : Tm
 m : Nat
 W : Nat → WPh
 sent : Nat → List Msg
 ps : List Pact
 lent : Nat → Prop
 L : List (Msg × Nat)
 r0 : Rk
 f : Nat → Rk
 tok : Nat
 S : Own
 ph : MPh
 g : Goroutine
 blk : Bool
 st : Int
 sm : Int
 ns : Nat
 nr : Nat
open Go
open Go.Conc
open Go.ConcN (upd upd_ne upd_same)
section
variable {P : Program} {gs : Array Goroutine} {w w' : World} {t : Trace} {T : Tm}
theorem Core.leaver (C : Core P gs w t T) {i n : Nat} (ho : T.own i = none) {g g' : Goroutine} {es : Array Event} (hi : i < gs.size) (hm : ∀ e ∈ es, Event.mute e = true) (hq : QuitsD P n (deafBehind (Deaf t i) es) g')
    (fn : FuncId) (pos : String) : Core P ((gs.map (woken P g g' w)).setIfInBounds i g') w (t ++ MemOp.ofEvents i fn pos es) { T with q := upd T.q i n } := by
  have hug : ∀ op ∈ MemOp.ofEvents i fn pos es, op.g = i := fun op hop => by obtain ⟨e, _, rfl⟩ := mem_ofEvents hop; rfl
  have hut : ∀ op ∈ MemOp.ofEvents i fn pos es, op.act.touch? = none := fun op hop => by obtain ⟨e, he, rfl⟩ := mem_ofEvents hop; exact touch_mute (hm e he)
  have hul : ∀ op ∈ MemOp.ofEvents i fn pos es, op.act.low w.heap.size := fun op hop => by obtain ⟨e, he, rfl⟩ := mem_ofEvents hop; exact low_mute (hm e he) _
  have hDo := Deaf_own t i fn pos es
  revert hug hut hul hDo
  generalize MemOp.ofEvents i fn pos es = u
  intro hug hut hul hDo
  have old : ∀ {k : Nat} {x : Touch}, touchAt (t ++ u) k = some x → k < t.size ∧ touchAt t k = some x := by
    intro k x h
    rcases touch_cases h with h | ⟨_, op, hop, _, hx⟩
    · exact h
    · rw [hut op hop] at hx; cases hx
  have nocount : ∀ {k : Nat}, t.size ≤ k → ¬ (t ++ u).counts k := by
    rintro k hk ⟨x, hx, _⟩
    have := (old hx).1; omega
  refine { inn := C.inn, apart := C.apart, binn := C.binn, bapart := C.bapart, bbapart := C.bbapart, shapart := C.shapart, shbag := C.shbag, shlow := C.shlow, ush := C.ush, clean := ?_, full := ?_, ro := ?_, bfull := ?_, bro := ?_,
            shplain := ?_, shsaid := ?_, known := ?_, over := ?_, aft := ?_, deaf := ?_, quit := ?_, above := ?_, seen := ?_, calm := fun b hb => ⟨(C.calm b hb).1, (C.calm b hb).2.1, fun k x hx hbx => ((C.calm b hb).2.2 k x (old hx).2 hbx).app u⟩, low := C.low, blow := C.blow, slow := C.slow, far := C.far }
  · exact fun said => noRace_append (C.clean said) hug fun k a _ op hop b hb _ => by rw [hut op hop] at hb; cases hb
  · exact fun j U hU b hb k x hx hbx => (C.full j U hU b hb k x (old hx).2 hbx).app u
  · exact fun j U hU b hb k x hx hbx hw => (C.ro j U hU b hb k x (old hx).2 hbx hw).app u
  · exact fun j U r hU b hb k x hx hbx => (C.bfull j U r hU b hb k x (old hx).2 hbx).app u
  · exact fun j U r hU b hb k x hx hbx hw => (C.bro j U r hU b hb k x (old hx).2 hbx hw).app u
  · exact fun j b hb k x hx hbx hp => (C.shplain j b hb k x (old hx).2 hbx hp).app u
  · exact fun b hb k x hx hbx hp => (C.shsaid b hb k x (old hx).2 hbx hp).app u
  · intro k x hx hmem
    obtain ⟨hk, hx'⟩ := old hx
    rcases C.known k x hx' hmem with h | h | ⟨j, h1, h2, h3⟩
    · exact .inl (h.app u)
    · exact .inr (.inl h)
    · exact .inr (.inr ⟨j, by rw [g?_old hk]; exact h1, h2, h3⟩)
  · intro k j hg hj hc
    by_cases hk : k < t.size
    · rcases C.over k j (by rw [← g?_old (u := u) hk]; exact hg) hj ((counts_old hk).1 hc) with h | h
      · exact .inl (h.app u)
      · exact .inr h
    · exact absurd hc (nocount (by omega))
  · intro j p hp
    obtain ⟨h1, h2⟩ := C.aft j p hp
    refine ⟨by rw [g?_old (g?_lt h1)]; exact h1, fun k hk hg => ?_⟩
    by_cases hkt : k < t.size
    · obtain ⟨h3, h4⟩ := h2 k hk (by rw [← g?_old (u := u) hkt]; exact hg)
      exact ⟨fun hc => h3 ((counts_old hkt).1 hc), fun x hx => h4 x (old hx).2⟩
    · exact ⟨nocount (by omega), fun x hx => by have := (old hx).1; omega⟩
  · intro j hj
    have : i ≠ j := by
      rintro rfl
      have hj' : (T.own i).isSome := hj
      rw [ho] at hj'; cases hj'
    rw [Deaf_other t this u hug]; exact C.deaf j hj
  · intro j x hj hx
    show QuitsD P (upd T.q i n j) _ x
    by_cases hji : j = i
    · subst hji
      rw [Array.getElem?_setIfInBounds_self_of_lt (by simpa using hi)] at hx
      obtain rfl := Option.some.inj hx
      rw [upd_same, hDo]; exact hq
    · rw [Array.getElem?_setIfInBounds_ne (Ne.symm hji), Array.getElem?_map] at hx
      obtain ⟨y, hy, rfl⟩ := Option.map_eq_some_iff.1 hx
      have h1 := C.quit j y hj hy
      rw [upd_ne _ _ hji, Deaf_other t (Ne.symm hji) u hug, woken_quitsD h1]; exact h1
  · intro j hj
    have hj' : gs.size ≤ j := by simpa using hj
    rw [Deaf_other t (by omega) u hug]
    exact C.above j hj'
  · intro op hop
    rcases Array.mem_append.1 hop with h | h
    · exact C.seen op h
    · exact hul op h
end
theorem woken_runs {P : Program} {g g' x : Goroutine} {w : World} (hr : Runs x) : woken P g g' w x = x := by
 have hx : x.status = .running := hr
 unfold Go.Conc.woken
 split
 ·exact again_running w (.inl hx)
 ·rfl
open Go
open Go.Conc
open Go.ConcN (upd upd_ne upd_same)
theorem Rk.Lt.pos {a b : Rk} (h : Rk.Lt a b) : Rk.Lt .zero b := by
 cases h with
 | zero f => exact .zero f
 | sub f i => exact .zero f
section
variable {P : Program} {K : Grp} {N : Nat} {w0 : Option World} {StopM : Goroutine → Own → Prop} {base : Nat} {D : GD} {gs gs' : Array Goroutine} {w w' : World} {t u : Trace}
end
open Go
open Go.Conc
open Go.ConcN (upd upd_ne upd_same)
theorem runs_status {g : Goroutine} (h : Runs g) : g.status = .running := h
section
variable {P : Program} {K : Grp} {N : Nat} {w0 : Option World} {StopM : Goroutine → Own → Prop} {base : Nat} {D : GD} {gs gs' : Array Goroutine} {w w' : World} {t u : Trace}
theorem Core.at {T : Tm} (C : Core P gs w t T) (d : Nat) : Core P gs (w.at d) t T :=
 { C with inn := fun i S h => In.at (C.inn i S h) d, binn := fun i S p h => In.at (C.binn i S p h) d, far := C.far.next ⟨rfl, rfl, rfl⟩ (Nat.le_refl _) fun _ _ => rfl }
theorem map_set_get {α : Type} (gs : Array α) (f : α → α) (i : Nat) (x : α) (j : Nat) (h : j ≠ i) : ((gs.map f).setIfInBounds i x)[j]? = (gs[j]?).map f := by
 rw [Array.getElem?_setIfInBounds_ne (Ne.symm h), Array.getElem?_map]
theorem upd_keep {α : Type} (f : Nat → α) (i : Nat) (x : α) (h : f i = x) : upd f i x = f := by rw [← h]; exact upd_id f i
end
open Go
open Go.Conc
open Go.ConcN (upd upd_ne upd_same)
section
variable {P : Program} {K : Grp} {N : Nat} {w0 : Option World} {StopM : Goroutine → Own → Prop} {base : Nat} {D : GD} {gs gs' : Array Goroutine} {w w' : World} {t u : Trace}
structure StandL (P : Program) (N : Nat) (w0 : Option World) (g : Goroutine) (S : Own) (gs : Array Goroutine) (w : World) (t : Trace) (Shun : Loc → Prop) (B : Nat) (q : Nat → Nat) : Prop where
 st : Stand P g S gs w t Shun B q
 gh : S.gh = .none
 low : ∀ b, (S.full b).isSome → N ≤ b
 slow : ∀ b l, inB b l → Shun l → N ≤ b
 far : Far N w0 w
end
open Go
open Go.Conc
open Go.ConcN (upd upd_ne upd_same)
section
variable {P : Program} {K : Grp} {N : Nat} {w0 : Option World} {StopM : Goroutine → Own → Prop} {base : Nat} {D : GD} {gs gs' : Array Goroutine} {w w' : World} {t u : Trace}
abbrev rk1 : Rk := .sup Unit fun _ => .zero
theorem rk1_below {r : Rk} (h : Rk.Lt r rk1) : r = .zero := by
 generalize he : rk1 = q at h
 cases h with
 | zero f => rfl
 | sub f i => cases he; rfl
theorem no_lt_zero {r : Rk} (h : Rk.Lt r .zero) : False := by cases h
end
section
variable {P : Program} {N : Nat} {w0 : Option World}
end
open Go
open Go.Conc
open Go.ConcN (upd upd_ne upd_same)
section
variable {P : Program} {N : Nat} {w0 : Option World}
def Own.but (S : Own) (b : Nat) : Own := { S with full := fun x => if x = b then none else S.full x }
theorem Own.but_part (S : Own) (b : Nat) (hd : ∀ b, (S.full b).isSome → S.ro b = none) (g : Gh) : Part S ((S.but b).as g) where
 f x o h := by simp only [Own.but, Own.as] at h; split at h <;> simp_all
 r x o h := .inr h
 disj x h := hd x (by simp only [Own.but, Own.as] at h; split at h <;> simp_all)
end
end Mv
namespace Mw
open Go Mv
mutual
def namesSC : SC → List Nat
 | .ptr b _ => [b]
 | .slice b _ _ _ => [b]
 | .ref b => [b]
 | .chn b => [b]
 | .nsl _ b _ _ _ => [b]
 | .fn _ f c => namesL f ++ namesL c
 | .iface _ x => namesSC x
 | .agg l => namesL l
 | .tup l => namesL l
 | _ => []
def namesL : List SC → List Nat
 | [] => []
 | x :: l => namesSC x ++ namesL l
end
def namesSO : SO → List Nat
 | .cells l _ => namesL l
 | .row l _ _ => namesL l
 | .map es => es.flatMap fun x => namesSC x.1 ++ namesSC x.2
 | .pin es sh => es.flatMap fun x => namesSC x.1 ++ namesSC x.2
 | .itr m _ _ _ _ => [m]
 | .chan _ l _ _ _ _ => namesL l
 | _ => []
def reachT (rw : Tr SO) : Nat → List Nat → List Nat → List Nat
 | 0, _, acc => acc
 | _ + 1, [], acc => acc
 | n + 1, i :: todo, acc => match acc.contains i with
  | true => reachT rw n todo acc
  | false => match rw.look i with
   | some o => reachT rw n (namesSO o ++ todo) (i :: acc)
   | none => reachT rw n todo acc
def lendOwn (S : Own) (b : Nat) (g : Gh) : Own := ⟨fun x => if x = b then none else S.full x, fun x => if x = b then S.full b else S.ro x, g⟩
theorem lendOwn_part {S : Own} {b : Nat} {g : Gh} (hd : ∀ b, (S.full b).isSome → S.ro b = none) : Mv.Part S (lendOwn S b g) where
 f x o h := by simp only [lendOwn] at h; split at h <;> simp_all
 r x o h := by
  simp only [lendOwn] at h
  split at h
  ·rename_i e; subst e; exact .inl h
  ·exact .inr h
 disj x h := by
  simp only [lendOwn] at h ⊢
  split at h
  ·cases h
  ·rename_i e; rw [if_neg e]; exact hd x h
theorem part_trans {S S1 S2 : Own} (h : Mv.Part S S1) (h' : Mv.Part S1 S2) : Mv.Part S S2 where
 f b o hb := h.f b o (h'.f b o hb)
 r b o hb := (h'.r b o hb).elim (fun e => .inl (h.f b o e)) (h.r b o)
 disj := h'.disj
theorem part_refl {S : Own} (hd : ∀ b, (S.full b).isSome → S.ro b = none) : Mv.Part S S := ⟨fun _ _ h => h, fun _ _ h => .inr h, hd⟩
section
variable {ρ : Env} {hp hp' : Hp} {F S : Own}
end
open Go Mv
section
variable {a d : Nat} {ρ ρ' : Env}
end
section
variable {a d n : Nat}
end
def news : Nat → Tree → Tree
 | 0, t => t
 | n + 1, t => .new (news n t)
theorem news_holds {D : Env → SEx → SS → Prop} {E : Env → List Item → SS → Prop} : ∀ (n : Nat) (ρ : Env) (t : Tree), holds D E ρ (news n t) → ∀ ρ', Ext ρ ρ' → ρ'.k.length = ρ.k.length + n → holds D E ρ' t
 | 0, ρ, t, h, ρ', ⟨l, e⟩, hl => by
  subst e
  have : l = [] := List.eq_nil_of_length_eq_zero (by simpa using hl)
  subst this
  simpa [news] using h
 | n + 1, ρ, t, h, ρ', ⟨l, e⟩, hl => by
  subst e
  cases l with
  | nil => simp at hl
  | cons x l =>
   have h1 : holds D E (ρ.grow x.1 x.2) (news n t) := h x.1 x.2
   exact news_holds n _ t h1 _ ⟨l, by simp [Env.grow]⟩ (by simp only [List.length_append, List.length_cons, Env.grow, List.length_nil] at hl ⊢; omega)
def samePs : List (SC × SC) → List (SC × SC) → Bool
 | [], [] => true
 | (x, y) :: l, (u, v) :: m => match SC.same 6 x u, SC.same 6 y v with
  | true, true => samePs l m
  | _, _ => false
 | _, _ => false
theorem samePs_eq : ∀ {l m : List (SC × SC)}, samePs l m = true → l = m
 | [], [], _ => rfl
 | [], _ :: _, h => by cases h
 | _ :: _, [], h => by cases h
 | (x, y) :: l, (u, v) :: m, h => by
  simp only [samePs] at h
  split at h
  ·rename_i h1 h2
   rw [SC.same_eq _ _ _ h1, SC.same_eq _ _ _ h2, samePs_eq h]
  ·cases h
def SO.same : SO → SO → Bool
 | .map l, .map m => samePs l m
 | .pin l r, .pin m r' => samePs l m && Nat.beq r r'
 | .cells l e, .cells m e' => sameL (SC.same 6) l m && Nat.beq e e'
 | .row l e r, .row m e' r' => sameL (SC.same 6) l m && Nat.beq e e' && Nat.beq r r'
 | .calls, .calls => true
 | _, _ => false
theorem SO.same_eq {x y : SO} (h : SO.same x y = true) : x = y := by
 unfold SO.same at h
 split at h
 ·rw [samePs_eq h]
 ·simp only [Bool.and_eq_true] at h
  rw [samePs_eq h.1, Nat.eq_of_beq_eq_true h.2]
 ·simp only [Bool.and_eq_true] at h
  rw [sameL_eq (SC.same_eq 6) _ _ h.1, Nat.eq_of_beq_eq_true h.2]
 ·simp only [Bool.and_eq_true] at h
  rw [sameL_eq (SC.same_eq 6) _ _ h.1.1, Nat.eq_of_beq_eq_true h.1.2, Nat.eq_of_beq_eq_true h.2]
 ·rfl
 ·cases h
def lies (t : Tr SO) : List (Nat × SO) → Bool
 | [] => true
 | (i, o) :: l => match t.look i with
  | some o' => match SO.same o' o with
   | true => lies t l
   | false => false
  | none => false
theorem lies_look {t : Tr SO} : ∀ {l : List (Nat × SO)}, lies t l = true → ∀ x ∈ l, t.look x.1 = some x.2
 | [], _, x, hx => by cases hx
 | (i, o) :: l, h, x, hx => by
  simp only [lies] at h
  split at h
  ·rename_i o' ho
   split at h
   ·rename_i hs
    rcases List.mem_cons.1 hx with rfl | hx
    ·rw [ho, SO.same_eq hs]
    ·exact lies_look h x hx
   ·cases h
  ·cases h
theorem blt_true {i n : Nat} (h : Nat.blt i n = true) : i < n := Nat.le_of_ble_eq_true h
def setsT {α : Type} : List (Nat × α) → Tr α
 | [] => .nil
 | (i, x) :: l => (setsT l).set i x
theorem setsT_look {α : Type} {i : Nat} {x : α} : ∀ {l : List (Nat × α)}, (setsT l).look i = some x → (i, x) ∈ l
 | [], h => by rw [setsT, Tr.nil_look] at h; cases h
 | (j, y) :: l, h => by
  rcases Tr.look_set h with ⟨rfl, rfl⟩ | ⟨_, h⟩
  ·exact List.mem_cons_self
  ·exact List.mem_cons_of_mem _ (setsT_look h)
open Go Mv
open Go.Conc.Lib (WgLink WgLib)
section
variable {ρ : Env} {hp hp' : Hp} {F S : Own}
theorem Sat.stand {g : SGh} (h : Sat ρ hp F S) (hl : g.lents = hp.gh.lents) (hok : g.ok ρ) (hz : g.zOk ρ F S hp.rw := by trivial) : Sat ρ { hp with gh := g } F (S.as (g.den ρ)) where
 has := h.has
 hro := h.hro
 inj := h.inj
 frm := h.frm
 apart := h.apart
 ro := h.ro
 gh := rfl
 dis := h.dis
 ghok := hok
 lent i hi := h.lent i (by rw [← hl]; exact hi)
 linj i hi j hj := h.linj i (by rw [← hl]; exact hi) j (by rw [← hl]; exact hj)
 rinj i hi := h.rinj i (by rw [← hl]; exact hi)
 lnd := by show g.lents.Nodup; rw [hl]; exact h.lnd
 frz := SGh.zOk_of hz (Nat.le_refl _) (fun _ _ => rfl) fun _ _ h1 h2 h3 => ⟨h1, h2, h3⟩
theorem Sat.but {i : Nat} {o : SO} (h : Sat ρ hp F S) (hi : hp.rw.look i = some o) : Sat ρ { hp with rw := hp.rw.del i } F ((S.but (ρ.blk i)).as S.gh) where
 has j u hj := by
  obtain ⟨hji, hj⟩ := Tr.look_del hj
  obtain ⟨k1, k2, k3⟩ := h.has j u hj
  refine ⟨k1, k2, ?_⟩
  simp only [Own.but, Own.as]
  rw [if_neg (fun e => hji (h.inj _ _ _ _ hj hi e))]; exact k3
 hro := h.hro
 inj j j' u u' hj hj' e := h.inj _ _ _ _ (Tr.look_del hj).2 (Tr.look_del hj').2 e
 frm b x hb := by
  simp only [Own.but, Own.as]
  rw [if_neg (fun e => by subst e; rw [h.apart i o hi] at hb; cases hb)]; exact h.frm b x hb
 apart j u hj := h.apart j u (Tr.look_del hj).2
 ro := h.ro
 gh := h.gh
 dis b hb := by
  simp only [Own.but, Own.as] at hb
  split at hb
  ·cases hb
  ·exact h.dis b hb
 ghok := h.ghok
 lent := h.lent
 linj := h.linj
 rinj := h.rinj
 lnd := h.lnd
 frz := SGh.zOk_of h.frz (Nat.le_refl _) (fun _ _ => rfl) fun x ob h1 h2 h3 => ⟨by
  simp only [Own.but, Own.as]
  rw [if_neg (Ne.symm (h3 i o hi))]; exact h1, h2, fun j u hj => h3 j u (Tr.look_del hj).2⟩
variable {P : Program} {N : Nat} {w0 : Option World}
end
section
variable {P : Program} {N : Nat} {w0 : Option World}
end
open Go Mv
open Go.Conc (QuitsD born)
open Go.Conc.Lib (WgLink WgLib)
def under (P : Program) : Frame := { (default : Frame) with fn := P.funcs.size, defers := [], mode := .panicking [goexitEntry] }
section
variable {P : Program}
theorem gone {x : Frame} (hm : x.mode = .panicking [goexitEntry]) (hd : x.defers = []) (hc : x.catches P = false) (w : World) : stepG P false (Mv.G x []) w = .go { frame := x, callers := [], status := .finished, dying := none } w := by
 simp [Mv.G, stepG, unwind, hm, hd, hc, goexitEntry]
theorem under_quits : QuitsD P 1 0 (Mv.G (under P) []) :=
 QuitsD.ctl (g' := { frame := under P, callers := [], status := .finished, dying := none }) rfl (gone rfl rfl (by
  have hf : P.funcs[(under P).fn]? = none := by simp [under]
  have ht : (under P).todo = [] := rfl
  simp [Frame.catches, hf, ht])) ⟨rfl, rfl⟩
theorem home_ {x y : Frame} {fn : Func} (hk : x.kind = .deferred) (hm : x.mode = .returning) (hd : x.defers = []) (hf : P.funcs[x.fn]? = some fn) (hr : fn.results = #[]) (hy : y.mode = .panicking [goexitEntry]) (w : World) :
  stepG P false (Mv.G x [y]) w = .go (Mv.G y []) w := by
 have h1 := results_none hr x.tmps P w
 have h2 := Go.Conc.events_results_none (P := P) (w := w) hr x.tmps #[]
 simp [Mv.G, stepG, unwind, doReturn, hm, hd, hf, h1, h2, hk, hy, goexitEntry, Go.Conc.seen_none, GStep.after]
theorem leave_under {x : Frame} {fn : Func} (hk : x.kind = .deferred) (hm : x.mode = .returning) (hd : x.defers = []) (hf : P.funcs[x.fn]? = some fn) (hr : fn.results = #[]) : QuitsD P 2 0 (Mv.G x [under P]) :=
 QuitsD.ctl rfl (home_ hk hm hd hf hr rfl) under_quits
variable {L : WgLink} {K : Grp} {S : Own} {pc : Pact} {sent : List Msg}
end
section
variable {P : Program}
theorem entry_fit {ρ : Env} {args : List SC} {fn : Func} {hp : Hp} {cm : Option SMode} {F S : Own} (hargs : ∀ x ∈ args, x.ok ρ.k.length) (hcm : ∀ m, cm = some m → m.ok ρ.k.length) (hs : Sat ρ hp F S) :
  Fit (args.length + (fn.ntmps - args.length)) F ρ { sl := slotsOf args 0 .nil, hp, df := [], cm } (entry fn (args.map (SC.den ρ)).toArray (cm.map (SMode.den ρ))) S where
 size := by simp [entry]
 df := rfl
 dfok := by simp
 cm := rfl
 cmok := hcm
 hp := hs
 sl := fun d v hd => by
  rcases slotsOf_look args 0 .nil d v hd with ⟨_, h2⟩ | h
  ·rw [Nat.sub_zero] at h2
   have hlt : d < args.length := by
    rcases Nat.lt_or_ge d args.length with h | h
    ·exact h
    ·rw [List.getElem?_eq_none h] at h2; cases h2
   refine ⟨hargs v (List.mem_of_getElem? h2), ?_⟩
   simp only [entry]
   rw [Array.getElem?_append_left (by simpa using hlt)]
   simp [h2]
  ·rw [Tr.nil_look] at h; cases h
theorem enter_deferred {x : Frame} {cs : List Frame} {f : FuncId} {fn : Func} {vs : Array Value} (hm : unwinds x.mode = true) (hd : x.defers = [⟨.fn (.func f) vs, #[]⟩]) (hf : P.funcs[f]? = some fn) (hname : (fn.name == "runtime.NumGoroutine") = false)
  (hb : fn.body.isSome = true) (w : World) : stepG P false (Mv.G x cs) w = .go (Mv.G (Frame.enter P f vs .deferred) ({ x with defers := [] } :: cs)) w := by
 have h1 : ¬ fn.name = "runtime.NumGoroutine" := by simpa using hname
 have h2 : ¬ fn.body = none := by cases hx : fn.body <;> simp_all
 cases hx : x.mode with
 | run => rw [hx] at hm; cases hm
 | _ => simp [Mv.G, stepG, unwind, hx, hd, callDeferred, invoke, callFunc, hf, h1, h2, Go.Conc.seen_none, GStep.after]
end
open Go Mv
open Go.Conc (QuitsD born)
open Go.Conc.Lib (WgLink WgLib)
section
variable {P : Program} {main : Bool} {b : Frame} {a : Act} {k : List Item} {cs : List Frame} {w : World} {ops : Array Oper} {i : Nat} {rest : List Nat} {o : Oper}
end
structure WSum where
 nk : Nat
 iW : Nat
 args : List SC
 ro : List (Nat × SO)
 ty : TypeId
 iC : Nat
 cap : Nat
 tm : Bool
 ms : List SM
section
variable {P : Program} {N : Nat} {w0 : Option World}
end
open Go Mv
open Go.Conc.Lib (WgLink WgLib)
section
variable {P : Program} {N : Nat} {w0 : Option World} {D : Env → SEx → SS → Prop} {E : Env → List Item → SS → Prop} {ex : Run_}
end
noncomputable def comR (P : Program) (inl : FuncId → Bool) (hm : Hk_) (A : Run_ × Call_) (C : Cx) (Γ : Facts) (items : List Item) (σ : SS) (nk : Nat) (k : Kont) : Tree :=
 stepH P inl hm A.1 A.2 (fun C Γ items σ nk k => stepRY items P inl A C Γ items σ nk k) C Γ items σ nk k
theorem comR_eq (P : Program) (inl : FuncId → Bool) (hm : Hk_) (A : Run_ × Call_) (C : Cx) (Γ : Facts) (items : List Item) (σ : SS) (nk : Nat) (k : Kont) : comR P inl hm A C Γ items σ nk k = stepH P inl hm A.1 A.2 (stepY P inl A.1 A.2) C Γ items σ nk k := by
 have e : (fun C Γ items σ nk k => stepRY items P inl A C Γ items σ nk k) = stepY P inl A.1 A.2 := by
  funext C Γ items σ nk k
  exact stepRY_eq P inl _ C Γ items σ nk k
 unfold comR
 rw [e]
section
variable {P : Program} {N : Nat} {w0 : Option World}
end
open Go Mv
def plainD : TypeDesc → Bool
 | .interface _ | .array _ _ | .struct _ => false
 | _ => true
def fieldsF (f : TypeId → Nat → Bool) : List Field → Bool
 | [] => true
 | x :: l => match f x.type x.offset with
  | true => fieldsF f l
  | false => false
def keyF (P : Program) : Nat → TypeId → SC → Bool
 | 0, _, _ => false
 | n + 1, t, v => match P.underlying t with
  | none => false
  | some d => match d with
   | .array len el => match v with
    | .agg cs => match sizeT P el with
     | some s => (List.range len).all fun i => match symPart P el cs (i * s) with
      | some x => keyF P n el x
      | none => false
     | none => false
    | _ => false
   | .struct fs => match v with
    | .agg cs => fieldsF (fun t off => match symPart P t cs off with
      | some x => keyF P n t x
      | none => false) fs.toList
    | _ => false
   | d => plainD d
section
variable {P : Program} {ρ : Env} {hp : Hp} {F S0 S : Own}
theorem run_unit {β : Type} {body : β → PUnit → Sem (ForInStep PUnit)} {K : Except Value PUnit → Own → Prop} : ∀ (l : List β), (∀ x ∈ l, ∀ K : Except Value (ForInStep PUnit) → Own → Prop, K (.ok (.yield ⟨⟩)) S → Run P S0 (body x ⟨⟩) S K) → K (.ok ⟨⟩) S → Run P S0 (forIn l PUnit.unit body) S K
 | [], _, hK => Run.pure hK
 | x :: l, h, hK => by
  rw [List.forIn_cons]
  exact Run.bind (h x List.mem_cons_self _ (run_unit l (fun y hy => h y (List.mem_cons_of_mem _ hy)) hK))
theorem fieldsF_mem {f : TypeId → Nat → Bool} : ∀ {l : List Field}, fieldsF f l = true → ∀ x ∈ l, f x.type x.offset = true
 | [], _, x, hx => by cases hx
 | y :: l, h, x, hx => by
  simp only [fieldsF] at h
  split at h
  ·rename_i h1
   rcases List.mem_cons.1 hx with rfl | hx
   ·exact h1
   ·exact fieldsF_mem h x hx
  ·cases h
theorem keyF_run {em : Bool} : ∀ (n d : Nat) (t : TypeId) (v : SC), n ≤ d → keyF P n t v = true → v.ok ρ.k.length → ∀ {α : Type} {g : Unit → Sem α} {K : Except Value α → Own → Prop}, Run P S0 (g ()) S K → Run P S0 ((Instr.checkKey em d t (v.den ρ)).bind g) S K := by
 intro n
 induction n with
 | zero => intro d t v _ h; cases h
 | succ n ih =>
  intro d t v hd h hv α g K hK
  obtain ⟨d, rfl⟩ : ∃ e, d = e + 1 := ⟨d - 1, by omega⟩
  unfold keyF at h
  split at h
  ·cases h
  ·rename_i ds hu
   refine Run.bind ?_
   have key : ∀ K : Except Value Unit → Own → Prop, K (.ok ()) S → Run P S0 (Instr.checkKey em (d + 1) t (v.den ρ)) S K := by
    intro K hK
    rw [← Sem.bind_pure' (Instr.checkKey em (d + 1) t (v.den ρ))]
    unfold Instr.checkKey
    simp only [bind]
    rw [Sem.bind_assoc']
    refine run_underlying hu ?_
    rw [Sem.bind_pure']
    split at h
    ·rename_i len el
     split at h
     ·rename_i cs
      split at h
      ·rename_i s hs
       obtain ⟨i, hi, hs⟩ := Option.map_eq_some_iff.1 hs
       have hall := List.all_eq_true.1 h
       simp only [SC.den]
       simp only [Std.Legacy.Range.forIn_eq_forIn_range', Std.Legacy.Range.size, Nat.sub_zero, Nat.add_sub_cancel, Nat.div_one, ← List.range_eq_range']
       refine Run.bind (run_unit _ (fun x hx K hK => ?_) (Run.pure hK))
       have hx' := hall x hx
       split at hx'
       ·rename_i y hy
        refine run_sizeOf hi ?_
        rw [hs]
        refine Run.bind (run_part hy ?_)
        have := ih d el y (by omega) hx' (symPart_ok hy (oks_iff.1 hv)) (α := ForInStep PUnit) (g := fun _ => Sem.pure (ForInStep.yield PUnit.unit)) (K := K) (Run.pure hK)
        exact this
       ·cases hx'
      ·cases h
     ·cases h
    ·rename_i fs
     split at h
     ·rename_i cs
      simp only [SC.den]
      rw [← Array.forIn_toList]
      refine Run.bind (run_unit _ (fun x hx K hK => ?_) (Run.pure hK))
      have hx' := fieldsF_mem h x hx
      split at hx'
      ·rename_i y hy
       split
       ·refine Run.bind (run_part hy ?_)
        have := ih d x.type y (by omega) hx' (symPart_ok hy (oks_iff.1 hv)) (α := ForInStep PUnit) (g := fun _ => Sem.pure (ForInStep.yield PUnit.unit)) (K := K) (Run.pure hK)
        exact this
       ·exact Run.pure hK
      ·cases hx'
     ·cases h
    ·cases ds <;> first | exact Run.pure hK | (simp [plainD] at h; done)
   exact key _ hK
def firstB (b : MapEntry → Bool) : List MapEntry → Nat → Option (Nat × Value)
 | [], _ => none
 | e :: l, i => if b e = true then some (i, e.val) else firstB b l (i + 1)
theorem firstB_none {b : MapEntry → Bool} : ∀ {l : List MapEntry} {i : Nat}, (∀ e ∈ l, b e = false) → firstB b l i = none
 | [], _, _ => rfl
 | e :: l, i, h => by
  simp only [firstB, h e List.mem_cons_self, Bool.false_eq_true, if_false]
  exact firstB_none fun y hy => h y (List.mem_cons_of_mem _ hy)
theorem firstB_some {b : MapEntry → Bool} : ∀ {l : List MapEntry} {i : Nat}, (∃ e ∈ l, b e = true) → ∃ pre e post, l = pre ++ e :: post ∧ b e = true ∧ firstB b l i = some (i + pre.length, e.val)
 | [], _, ⟨e, he, _⟩ => by cases he
 | x :: l, i, ⟨e, he, hb⟩ => by
  cases hx : b x with
  | true => exact ⟨[], x, l, rfl, hx, by simp [firstB, hx]⟩
  | false =>
   rcases List.mem_cons.1 he with rfl | he
   ·rw [hb] at hx; cases hx
   ·obtain ⟨pre, y, post, h1, h2, h3⟩ := firstB_some (i := i + 1) ⟨e, he, hb⟩
    refine ⟨x :: pre, y, post, by rw [h1]; rfl, h2, ?_⟩
    simp only [firstB, hx, Bool.false_eq_true, if_false, h3, List.length_cons]
    congr 2
    omega
theorem findNow_eq {d : TypeDesc} {k : Value} {b : MapEntry → Bool} : ∀ {l : List MapEntry} {i : Nat}, (∀ e ∈ l, Instr.sameNow d k e.key = some (b e)) → Instr.findNow d k l i = some (firstB b l i)
 | [], _, _ => rfl
 | e :: l, i, h => by
  simp only [Instr.findNow, h e List.mem_cons_self, firstB]
  cases hb : b e with
  | true => simp
  | false => simp only [Bool.false_eq_true, if_false]; exact findNow_eq fun y hy => h y (List.mem_cons_of_mem _ hy)
theorem findAsking_run {kt : TypeId} {k : Value} {b : MapEntry → Bool} : ∀ {l : List MapEntry} {i : Nat} {K : Except Value (Option (Nat × Value)) → Own → Prop}, (∀ e ∈ l, ∀ K : Except Value Bool → Own → Prop, K (.ok (b e)) S → Run P S0 (Op.equal kt k e.key) S K) →
  K (.ok (firstB b l i)) S → Run P S0 (Instr.findAsking kt k l i) S K
 | [], _, _, _, hK => Run.pure hK
 | e :: l, i, K, h, hK => by
  show Run P S0 ((Op.equal kt k e.key).bind fun r => if r = true then pure (some (i, e.val)) else Instr.findAsking kt k l (i + 1)) S K
  refine Run.bind (h e List.mem_cons_self _ ?_)
  simp only [firstB] at hK
  cases hb : b e with
  | true => rw [hb, if_pos rfl] at hK; simp only [if_true]; exact Run.pure hK
  | false =>
   rw [hb] at hK
   simp only [Bool.false_eq_true, if_false] at hK ⊢
   exact findAsking_run (fun y hy => h y (List.mem_cons_of_mem _ hy)) hK
def KeyEq (P : Program) (S0 S : Own) (kt : TypeId) (d : TypeDesc) (k y : Value) (b : Bool) : Prop :=
 Instr.sameNow d k y = some b ∨ ((∀ x y, Instr.sameNow d x y = none) ∧ ∀ K : Except Value Bool → Own → Prop, K (.ok b) S → Run P S0 (Op.equal kt k y) S K)
theorem findKey_run {kt : TypeId} {d : TypeDesc} {k : Value} {b : MapEntry → Bool} {l : List MapEntry} {α : Type} {g : Option (Nat × Value) → Sem α} {K : Except Value α → Own → Prop} (hu : P.underlying kt = some d) (h : ∀ e ∈ l, KeyEq P S0 S kt d k e.key (b e))
  (hK : Run P S0 (g (firstB b l 0)) S K) : Run P S0 ((Instr.findKey kt k l).bind g) S K := by
 unfold Instr.findKey
 simp only [bind]
 rw [Sem.bind_assoc']
 refine run_underlying hu ?_
 by_cases hn : ∀ x y, Instr.sameNow d x y = none
 ·have hr : ∀ e ∈ l, ∀ K : Except Value Bool → Own → Prop, K (.ok (b e)) S → Run P S0 (Op.equal kt k e.key) S K := fun e he => by
   rcases h e he with h1 | h1
   ·rw [hn] at h1; cases h1
   ·exact h1.2
  cases l with
  | nil => exact hK
  | cons e l =>
   simp only [Instr.findNow, hn]
   exact Run.bind (findAsking_run hr hK)
 ·have hr : ∀ e ∈ l, Instr.sameNow d k e.key = some (b e) := fun e he => by
   rcases h e he with h1 | h1
   ·exact h1
   ·exact absurd h1.1 hn
  rw [findNow_eq hr]
  exact hK
def eqK (P : Program) (hp : Hp) (d : TypeDesc) (kt : TypeId) (k k' : SC) : Option Bool := match d with
 | .int _ => match k, k' with
  | .int j (.lit a), .int j' (.lit b) => match decide (j = j') with
   | true => some (Int.same a b)
   | false => none
  | _, _ => none
 | .string => match k, k' with
  | .lit (.string a), .lit (.string b) => some (a == b)
  | _, _ => none
 | .bool => match k, k' with
  | .bool (.lit a), .bool (.lit b) => some (a == b)
  | _, _ => none
 | .array _ _ | .struct _ => match eqS P hp 40 kt k k' with
  | some (.lit b) => some b
  | _ => none
 | _ => none
theorem eqK_ok (hs : Sat ρ hp F S) {d : TypeDesc} {kt : TypeId} {k k' : SC} {b : Bool} (h : eqK P hp d kt k k' = some b) (hk : k.ok ρ.k.length) (hk' : k'.ok ρ.k.length) : KeyEq P S0 S kt d (k.den ρ) (k'.den ρ) b := by
 have agg : (∀ x y, Instr.sameNow d x y = none) → (match eqS P hp 40 kt k k' with | some (.lit b) => some b | _ => none) = some b → KeyEq P S0 S kt d (k.den ρ) (k'.den ρ) b := by
  intro hn h
  split at h
  ·rename_i b' he
   simp only [Option.some.injEq] at h; subst h
   exact .inr ⟨hn, fun K hK => (eqS_ok (P := P) (S0 := S0) hs 40 Op.maxDepth kt k k' _ (by decide) he hk hk').2 K hK⟩
  ·cases h
 unfold eqK at h
 split at h
 ·split at h
  ·split at h
   ·rename_i hj
    have hj := of_decide_eq_true hj
    simp only [Option.some.injEq] at h; subst h; subst hj
    refine .inl ?_
    simp only [SC.den, IE.den, Instr.sameNow, if_true, Int.same_eq]
   ·cases h
  ·cases h
 ·split at h
  ·simp only [Option.some.injEq] at h; subst h
   exact .inl rfl
  ·cases h
 ·split at h
  ·simp only [Option.some.injEq] at h; subst h
   exact .inl rfl
  ·cases h
 ·exact agg (fun x y => by cases x <;> cases y <;> rfl) h
 ·exact agg (fun x y => by cases x <;> cases y <;> rfl) h
 ·cases h
def noneK (f : SC → Option Bool) : List (SC × SC) → Bool
 | [] => true
 | x :: l => match f x.1 with
  | some false => noneK f l
  | _ => false
def findS (f : SC → Option Bool) : List (SC × SC) → Option (Option Nat)
 | [] => some none
 | x :: l => match f x.1 with
  | some true => match noneK f l with
   | true => some (some 0)
   | false => none
  | some false => match findS f l with
   | some (some i) => some (some (i + 1))
   | some none => some none
   | none => none
  | none => none
theorem noneK_mem {f : SC → Option Bool} : ∀ {l : List (SC × SC)}, noneK f l = true → ∀ x ∈ l, f x.1 = some false
 | [], _, x, hx => by cases hx
 | y :: l, h, x, hx => by
  simp only [noneK] at h
  split at h
  ·rename_i hy
   rcases List.mem_cons.1 hx with rfl | hx
   ·exact hy
   ·exact noneK_mem h x hx
  ·cases h
theorem findS_none {f : SC → Option Bool} : ∀ {l : List (SC × SC)}, findS f l = some none → ∀ x ∈ l, f x.1 = some false
 | [], _, x, hx => by cases hx
 | y :: l, h, x, hx => by
  simp only [findS] at h
  split at h
  ·split at h <;> simp at h
  ·rename_i hy
   split at h <;> simp at h
   rename_i hl
   rcases List.mem_cons.1 hx with rfl | hx
   ·exact hy
   ·exact findS_none hl x hx
  ·cases h
theorem findS_some {f : SC → Option Bool} : ∀ {l : List (SC × SC)} {i : Nat}, findS f l = some (some i) → ∃ A x B, l = A ++ x :: B ∧ A.length = i ∧ f x.1 = some true ∧ ∀ y ∈ A ++ B, f y.1 = some false
 | [], i, h => by simp [findS] at h
 | y :: l, i, h => by
  simp only [findS] at h
  split at h
  ·rename_i hy
   split at h
   ·rename_i hn
    simp only [Option.some.injEq] at h; subst h
    exact ⟨[], y, l, rfl, rfl, hy, noneK_mem hn⟩
   ·cases h
  ·rename_i hy
   split at h
   ·rename_i j hl
    simp only [Option.some.injEq] at h; subst h
    obtain ⟨A, x, B, h1, h2, h3, h4⟩ := findS_some hl
    refine ⟨y :: A, x, B, by rw [h1]; rfl, by simp [h2], h3, fun z hz => ?_⟩
    rcases List.mem_cons.1 hz with rfl | hz
    ·exact hy
    ·exact h4 z hz
   ·simp at h
   ·cases h
  ·cases h
section
variable {d : TypeDesc} {kt : TypeId} {k : SC} {es : List (SC × SC)} {L : List MapEntry} {α : Type} {g : Option (Nat × Value) → Sem α} {K : Except Value α → Own → Prop}
theorem find_miss (hs : Sat ρ hp F S) (hu : P.underlying kt = some d) (hk : k.ok ρ.k.length) (he : ∀ x ∈ es, x.1.ok ρ.k.length ∧ x.2.ok ρ.k.length) (hp' : (L.map kv).Perm (es.map (pairD ρ))) (h : findS (eqK P hp d kt k) es = some none) (hK : Run P S0 (g none) S K) :
  Run P S0 ((Instr.findKey kt (k.den ρ) L).bind g) S K := by
 refine findKey_run (b := fun _ => false) hu (fun e hm => ?_) (by rw [firstB_none fun _ _ => rfl]; exact hK)
 have hm' : kv e ∈ es.map (pairD ρ) := hp'.mem_iff.1 (List.mem_map_of_mem hm)
 obtain ⟨x, hx, hxe⟩ := List.mem_map.1 hm'
 have h1 := eqK_ok (S0 := S0) hs (findS_none h x hx) hk (he x hx).1
 have e1 : x.1.den ρ = e.key := congrArg Prod.fst hxe
 rw [e1] at h1; exact h1
open Classical in
theorem find_hit (hs : Sat ρ hp F S) (hu : P.underlying kt = some d) (hk : k.ok ρ.k.length) (he : ∀ x ∈ es, x.1.ok ρ.k.length ∧ x.2.ok ρ.k.length) (hp' : (L.map kv).Perm (es.map (pairD ρ))) {i : Nat} (h : findS (eqK P hp d kt k) es = some (some i))
  (hK : ∀ pre e post A x B, L = pre ++ e :: post → es = A ++ x :: B → A.length = i → kv e = pairD ρ x → Run P S0 (g (some (pre.length, e.val))) S K) : Run P S0 ((Instr.findKey kt (k.den ρ) L).bind g) S K := by
 obtain ⟨A, x, B, h1, h2, h3, h4⟩ := findS_some h
 have hx : x ∈ es := by rw [h1]; simp
 have hex : ∃ e ∈ L, decide (kv e = pairD ρ x) = true := by
  have := hp'.mem_iff.2 (List.mem_map_of_mem (f := pairD ρ) hx)
  obtain ⟨e, hm, hke⟩ := List.mem_map.1 this
  exact ⟨e, hm, decide_eq_true hke⟩
 obtain ⟨pre, e, post, p1, p2, p3⟩ := firstB_some (b := fun e => decide (kv e = pairD ρ x)) (i := 0) hex
 refine findKey_run (b := fun e => decide (kv e = pairD ρ x)) hu (fun e hm => ?_) (by rw [p3, Nat.zero_add]; exact hK pre e post A x B p1 h1 h2 (of_decide_eq_true p2))
 by_cases hke : kv e = pairD ρ x
 ·rw [decide_eq_true hke]
  have h5 := eqK_ok (S0 := S0) hs h3 hk (he x hx).1
  have e1 : e.key = x.1.den ρ := congrArg Prod.fst hke
  rw [e1]; exact h5
 ·rw [decide_eq_false hke]
  have hm' : kv e ∈ es.map (pairD ρ) := hp'.mem_iff.1 (List.mem_map_of_mem hm)
  obtain ⟨y, hy, hye⟩ := List.mem_map.1 hm'
  have hy' : y ∈ A ++ B := by
   rw [h1] at hy
   rcases List.mem_append.1 hy with hy | hy
   ·exact List.mem_append_left _ hy
   ·rcases List.mem_cons.1 hy with rfl | hy
    ·exact absurd hye.symm hke
    ·exact List.mem_append_right _ hy
  have h5 := eqK_ok (S0 := S0) hs (h4 y hy') hk (he y hy).1
  have e1 : y.1.den ρ = e.key := congrArg Prod.fst hye
  rw [e1] at h5; exact h5
end
end
open Go Mv
structure ShapeOk (n : Nat) (s : Shape) : Prop where
 perm : s.2.1.Perm (List.range n)
 len : s.2.2.length = n
 sorted : s.2.2.Pairwise (· < ·)
 below : ∀ x ∈ s.2.2, x < s.1
theorem shapeB_ok {n : Nat} {s : Shape} (h : shapeB n s = true) : ShapeOk n s := by
 simp only [shapeB, Bool.and_eq_true, decide_eq_true_eq, List.all_eq_true] at h
 exact ⟨List.isPerm_iff.1 h.1.1.1, h.1.1.2, h.1.2, h.2⟩
theorem Env.shape_ok (ρ : Env) (n sh : Nat) : ShapeOk n (ρ.shape n sh) := by
 unfold Env.shape
 split
 ·rename_i h; exact shapeB_ok h
 ·exact ⟨.refl _, by simp, List.pairwise_lt_range, fun x hx => List.mem_range.1 hx⟩
theorem ShapeOk.plen {n : Nat} {s : Shape} (h : ShapeOk n s) : s.2.1.length = n := by rw [h.perm.length_eq, List.length_range]
theorem pin_kv {l : List (Value × Value)} {s : Shape} (h : ShapeOk l.length s) : ((pinE l s).map kv).Perm l := by
 have e1 : (pinE l s).map kv = s.2.1.map fun i => match l[i]? with | some y => y | none => (undef, undef) := by
  unfold pinE
  rw [List.map_map]
  have : ∀ (p q : List Nat), p.length ≤ q.length → (p.zip q).map (kv ∘ fun x : Nat × Nat => match l[x.1]? with | some y => ({ key := y.1, val := y.2, born := x.2 } : MapEntry) | none => { key := undef, val := undef, born := x.2 }) = p.map fun i => match l[i]? with | some y => y | none => (undef, undef) := by
   intro p
   induction p with
   | nil => intro q _; rfl
   | cons a p ih =>
    intro q hq
    cases q with
    | nil => simp at hq
    | cons b q =>
     rw [List.zip_cons_cons, List.map_cons, List.map_cons, ih q (by simpa using hq)]
     congr 1
     simp only [Function.comp, kv]
     cases l[a]? <;> rfl
  exact this _ _ (by rw [h.plen, h.len]; exact Nat.le_refl _)
 rw [e1]
 refine (h.perm.map _).trans ?_
 have e2 : (List.range l.length).map (fun i => match l[i]? with | some y => y | none => (undef, undef)) = l := by
  apply List.ext_getElem?
  intro i
  rw [List.getElem?_map]
  by_cases hi : i < l.length
  ·rw [List.getElem?_range hi]
   simp [List.getElem?_eq_getElem hi]
  ·rw [List.getElem?_eq_none (by simpa using hi), List.getElem?_eq_none (by omega)]; rfl
 rw [e2]
theorem zip_born {l : List (Value × Value)} {s : Shape} (h : ShapeOk l.length s) : (pinE l s).map (·.born) = s.2.2 := by
 unfold pinE
 rw [List.map_map]
 have : ∀ (p q : List Nat), p.length = q.length → (p.zip q).map ((·.born) ∘ fun x : Nat × Nat => match l[x.1]? with | some y => ({ key := y.1, val := y.2, born := x.2 } : MapEntry) | none => { key := undef, val := undef, born := x.2 }) = q := by
  intro p
  induction p with
  | nil => intro q hq; cases q with | nil => rfl | cons b q => cases hq
  | cons a p ih =>
   intro q hq
   cases q with
   | nil => cases hq
   | cons b q =>
    rw [List.zip_cons_cons, List.map_cons, ih q (by simpa using hq)]
    congr 1
    simp only [Function.comp]
    cases l[a]? <;> rfl
 exact this _ _ (by rw [h.plen, h.len])
theorem pin_stamps {l : List (Value × Value)} {s : Shape} (h : ShapeOk l.length s) : Stamps (pinE l s) s.1 := by
 have hb := zip_born h
 refine ⟨?_, fun e he => h.below _ ?_⟩
 ·have : ((pinE l s).map (·.born)).Pairwise (· < ·) := by rw [hb]; exact h.sorted
  exact List.pairwise_map.1 this
 ·rw [← hb]; exact List.mem_map_of_mem he
theorem absE_kv (l : List (Value × Value)) : (absE l).map kv = l := by
 unfold absE
 rw [List.map_map]
 exact (List.map_congr_left fun x _ => rfl).trans (List.map_id _)
section
variable {P : Program} {ρ : Env} {hp : Hp} {F S0 S : Own} {ev : Operand → Option SC} {ev' : Operand → Value} {o : Oper} {e : Eff}
def entriesOf (hp : Hp) : SC → Option (List (SC × SC))
 | .lit (.map none) => some []
 | .ref b => match hp.get b with
  | some (.map es) => some es
  | some (.pin es _) => some es
  | _ => none
 | _ => none
theorem entriesOf_run (hs : Sat ρ hp F S) {x : SC} {es : List (SC × SC)} (h : entriesOf hp x = some es) : (∀ y ∈ es, y.1.ok ρ.k.length ∧ y.2.ok ρ.k.length) ∧ ((x.den ρ = .map none ∧ es = []) ∨
  ∃ r, x.den ρ = .map (some r) ∧ ∀ {α : Type} {f : Obj → Sem α} {K : Except Value α → Own → Prop}, (∀ L c, (L.toList.map kv).Perm (es.map (pairD ρ)) → Run P S0 (f (.map L c)) S K) → Run P S0 ((getObj r).bind f) S K) := by
 unfold entriesOf at h
 split at h
 ·simp only [Option.some.injEq] at h; subst h
  exact ⟨by simp, .inl ⟨rfl, rfl⟩⟩
 ·rename_i b
  split at h
  ·rename_i es' hg
   simp only [Option.some.injEq] at h; subst h
   obtain ⟨_, hok, hget⟩ := hs.get hg
   refine ⟨hok, .inr ⟨_, rfl, fun {α f K} hK => ?_⟩⟩
   refine Run.getMap hget fun L c hp' _ => ?_
   refine hK L c ?_
   rw [List.toList_toArray, absE_kv] at hp'
   exact hp'
  ·rename_i es' sh hg
   simp only [Option.some.injEq] at h; subst h
   obtain ⟨_, hok, hget⟩ := hs.get hg
   refine ⟨hok.2, .inr ⟨_, rfl, fun {α f K} hK => ?_⟩⟩
   have hsh : ShapeOk (es'.map (pairD ρ)).length (ρ.shape es'.length sh) := by rw [List.length_map]; exact ρ.shape_ok _ _
   refine Run.getPin hget (by rw [List.toList_toArray]; exact pin_stamps hsh) fun c' _ => ?_
   refine hK _ c' ?_
   rw [List.toList_toArray]
   exact pin_kv hsh
  ·cases h
 ·cases h
def pairOk (c : Bool) (v : SC) (b : Bool) : SC := match c with
 | true => .tup [v, .bool (.lit b)]
 | false => v
def sLookup (P : Program) (hp : Hp) (t : TypeId) (x k : Option SC) (commaOk : Bool) : Option Eff := match P.underlying t, x, k with
 | some (.map kt el), some x, some k => match entriesOf hp x, P.underlying kt, keyF P 6 kt k with
  | some es, some d, true => match findS (eqK P hp d kt k) es with
   | some (some i) => match es[i]? with
    | some y => some (.val [] (pairOk commaOk y.2 true))
    | none => none
   | some none => match P.info? el with
    | some i => match i.zero with
     | some z => some (.val [] (pairOk commaOk (ofVal z) false))
     | none => none
    | none => none
   | none => none
  | _, _, _ => none
 | _, _, _ => none
theorem sLookup_good {t : TypeId} {x k : Operand} {c : Bool} (hop : o.op = .lookup t x k c) (hs : Sat ρ hp F S) (hev : EvOk ρ ev ev') (h : sLookup P hp t (ev x) (ev k) c = some e) : EffGood P ρ hp S0 S (execOp ev' o) e := by
 have hred : execOp ev' o = (do pure (.value (← Instr.lookup t (ev' x) (ev' k) c)) : Sem Next) := by simp only [execOp, hop]
 unfold sLookup at h
 split at h
 ·rename_i kt el x0 k0 hu hx hk
  obtain ⟨hxo, hx'⟩ := hev x _ hx
  obtain ⟨hko, hk'⟩ := hev k _ hk
  split at h
  ·rename_i es d hes hd hf
   obtain ⟨heo, hrun⟩ := entriesOf_run (P := P) (S0 := S0) hs hes
   have enter : ∀ {K : Except Value Value → Own → Prop}, (∀ L : List MapEntry, (L.map kv).Perm (es.map (pairD ρ)) → Run P S0 ((Instr.findKey kt (k0.den ρ) L).bind fun r => match r with
      | some (_, v) => (pure (v, true) : Sem (Value × Bool)).bind fun x => pure (if c = true then .tuple #[x.1, .bool x.2] else x.1)
      | none => (zeroValue el).bind fun z => (pure (z, false) : Sem (Value × Bool)).bind fun x => pure (if c = true then .tuple #[x.1, .bool x.2] else x.1)) S K) → Run P S0 (Instr.lookup t (ev' x) (ev' k) c) S K := by
    intro K hK
    rw [hx', hk', ← Sem.bind_pure' (Instr.lookup t _ _ c)]
    unfold Instr.lookup
    simp only [bind]
    rw [Sem.bind_assoc']
    refine run_underlying hu ?_
    rw [Sem.bind_pure']
    rcases hrun with ⟨e1, e2⟩ | ⟨r, e1, hr⟩
    ·rw [e1]
     refine keyF_run (em := (#[] : Array MapEntry).isEmpty) 6 10000 kt k0 (by decide) hf hko ?_
     exact hK [] (by rw [e2]; exact .refl _)
    ·rw [e1]
     refine hr fun L c' hL => ?_
     refine keyF_run (em := L.isEmpty) 6 10000 kt k0 (by decide) hf hko ?_
     exact hK L.toList hL
   split at h
   ·rename_i i hi
    split at h
    ·rename_i y hy
     simp only [Option.some.injEq] at h; subst h
     refine good_val hred ?_ fun _ K hK => enter fun L hL => find_hit hs hd hko heo hL hi fun pre e post A z B h1 h2 h3 h4 => ?_
     ·have := (heo y (List.mem_of_getElem? hy)).2
      unfold pairOk
      split
      ·exact ⟨this, trivial, trivial⟩
      ·exact this
     ·have e1 : z = y := by
       rw [h2, ← h3] at hy
       simpa using hy
      subst e1
      have e2 : e.val = z.2.den ρ := congrArg Prod.snd h4
      simp only [e2]
      cases c <;> exact Run.pure hK
    ·cases h
   ·rename_i hi
    split at h
    ·rename_i ti hti
     split at h
     ·rename_i z hz
      simp only [Option.some.injEq] at h; subst h
      refine good_val hred ?_ fun _ K hK => enter fun L hL => find_miss hs hd hko heo hL hi ?_
      ·unfold pairOk
       split
       ·exact ⟨ok_ofVal _ z, trivial, trivial⟩
       ·exact ok_ofVal _ z
      ·refine run_zeroValue hti hz ?_
       have e1 := den_ofVal ρ z
       cases c
       ·simp only [pairOk, e1] at hK
        exact Run.pure hK
       ·simp only [pairOk, SC.den, dens, e1] at hK
        exact Run.pure hK
     ·cases h
    ·cases h
   ·cases h
  ·cases h
 ·cases h
def bitsF : Nat → SC → Bool
 | _, .int _ _ => true
 | _, .bool _ => true
 | _, .lit (.string _) => true
 | n + 1, .agg l => l.all (bitsF n)
 | _, _ => false
theorem bitsF_ok : ∀ (n m : Nat) (x : SC), n ≤ m → bitsF n x = true → Instr.sameBits m (x.den ρ) (x.den ρ) = true := by
 have prim : ∀ (m : Nat) (x : SC), (match x with | .int _ _ | .bool _ | .lit (.string _) => true | _ => false) = true → Instr.sameBits m (x.den ρ) (x.den ρ) = true := by
  intro m x h
  split at h
  ·cases m <;> simp [SC.den, Instr.sameBits]
  ·cases m <;> simp [SC.den, Instr.sameBits]
  ·rename_i b
   have hb : (b == b) = true := by
    cases b
    show (_ == _) = true
    exact beq_self_eq_true (α := Array UInt8) _
   cases m <;> simp [SC.den, Instr.sameBits, hb]
  ·cases h
 intro n
 induction n with
 | zero =>
  intro m x _ h
  cases x with
  | int k e => exact prim m _ rfl
  | bool b => exact prim m _ rfl
  | lit v => cases v <;> first | exact prim m _ rfl | (simp [bitsF] at h; done)
  | _ => simp [bitsF] at h
 | succ n ih =>
  intro m x hm h
  cases x with
  | int k e => exact prim m _ rfl
  | bool b => exact prim m _ rfl
  | lit v => cases v <;> first | exact prim m _ rfl | (simp [bitsF] at h; done)
  | agg l =>
   obtain ⟨m, rfl⟩ : ∃ k, m = k + 1 := ⟨m - 1, by omega⟩
   simp only [bitsF, List.all_eq_true] at h
   simp only [SC.den, Instr.sameBits, beq_self_eq_true, Bool.true_and, List.all_eq_true, dens_eq]
   intro y hy
   obtain ⟨a, b⟩ := y
   have e1 : ∀ (l : List Value) (a b : Value), (a, b) ∈ l.zip l → a = b ∧ a ∈ l := by
    intro l
    induction l with
    | nil => intro a b h; simp at h
    | cons z l ihl =>
     intro a b h
     rw [List.zip_cons_cons] at h
     rcases List.mem_cons.1 h with h | h
     ·simp only [Prod.mk.injEq] at h; exact ⟨h.1.trans h.2.symm, by rw [h.1]; exact List.mem_cons_self⟩
     ·obtain ⟨h1, h2⟩ := ihl a b h; exact ⟨h1, List.mem_cons_of_mem _ h2⟩
   obtain ⟨h1, h2⟩ := e1 _ a b hy
   subst h1
   obtain ⟨z, hz, rfl⟩ := List.mem_map.1 h2
   exact ih m z (by omega) (h z hz)
  | _ => simp [bitsF] at h
theorem stamps_born {es es' : List MapEntry} {c : Nat} (e : es'.map (·.born) = es.map (·.born)) (h : Stamps es c) : Stamps es' c := by
 refine ⟨?_, fun x hx => ?_⟩
 ·have : (es'.map (·.born)).Pairwise (· < ·) := by rw [e]; exact List.pairwise_map.2 h.1
  exact List.pairwise_map.1 this
 ·have : x.born ∈ es'.map (·.born) := List.mem_map_of_mem hx
  rw [e] at this
  obtain ⟨y, hy, hy'⟩ := List.mem_map.1 this
  rw [← hy']; exact h.2 y hy
theorem modify_mid {α : Type} (f : α → α) (e : α) (post : List α) : ∀ pre : List α, (pre ++ e :: post).modify pre.length f = pre ++ f e :: post
 | [] => by simp
 | x :: pre => by simp [modify_mid f e post pre]
def cmpL (f : SC → SC → Ordering) : List SC → List SC → Ordering
 | [], [] => .eq
 | [], _ :: _ => .lt
 | _ :: _, [] => .gt
 | x :: l, y :: m => match f x y with
  | .eq => cmpL f l m
  | r => r
def cmpS : Nat → SC → SC → Ordering
 | n, x, y => match x, y with
  | .int _ (.lit a), .int _ (.lit b) => match Int.less a b with
   | true => .lt
   | false => match Int.less b a with
    | true => .gt
    | false => .eq
  | .bool (.lit a), .bool (.lit b) => match a, b with
   | false, true => .lt
   | true, false => .gt
   | _, _ => .eq
  | .agg l, .agg m => match n with
   | n + 1 => cmpL (cmpS n) l m
   | 0 => .eq
  | _, _ => .eq
def insS (x : SC × SC) : List (SC × SC) → List (SC × SC)
 | [] => [x]
 | y :: l => match cmpS 6 x.1 y.1 with
  | .gt => y :: insS x l
  | _ => x :: y :: l
theorem insS_perm (x : SC × SC) : ∀ l, (insS x l).Perm (x :: l)
 | [] => .refl _
 | y :: l => by
  simp only [insS]
  split
  ·exact ((insS_perm x l).cons y).trans (.swap _ _ _)
  ·exact .refl _
def setV : Nat → SC → List (SC × SC) → List (SC × SC)
 | _, _, [] => []
 | 0, v, x :: l => (x.1, v) :: l
 | i + 1, v, x :: l => x :: setV i v l
theorem setV_mid (v : SC) (x : SC × SC) (B : List (SC × SC)) : ∀ A : List (SC × SC), setV A.length v (A ++ x :: B) = A ++ (x.1, v) :: B
 | [] => rfl
 | y :: A => by simp [setV, setV_mid v x B A]
def sUpdate (P : Program) (hp : Hp) (t : TypeId) (m k v : Option SC) : Option Eff := match P.underlying t, m, k, v with
 | some (.map kt _), some (.ref b), some k, some v => match hp.rw.look b, P.underlying kt, keyF P 6 kt k with
  | some (.map es), some d, true => match findS (eqK P hp d kt k) es with
   | some (some i) => match es[i]? with
    | some y => match SC.same 6 y.1 k, bitsF 6 k with
     | true, true => some (.store [] b (.map (setV i v es)))
     | _, _ => none
    | none => none
   | some none => some (.store [] b (.map (insS (k, v) es)))
   | none => none
  | _, _, _ => none
 | _, _, _, _ => none
theorem sUpdate_good {t : TypeId} {m k v : Operand} (hop : o.op = .mapUpdate t m k v) (hs : Sat ρ hp F S) (hev : EvOk ρ ev ev') (h : sUpdate P hp t (ev m) (ev k) (ev v) = some e) : EffGood P ρ hp S0 S (execOp ev' o) e := by
 have hred : execOp ev' o = (do Instr.mapUpdate t (ev' m) (ev' k) (ev' v); pure .skip : Sem Next) := by simp only [execOp, hop]
 unfold sUpdate at h
 split at h
 ·rename_i kt el b k0 v0 hu hm hk hv
  obtain ⟨_, hm'⟩ := hev m _ hm
  obtain ⟨hko, hk'⟩ := hev k _ hk
  obtain ⟨hvo, hv'⟩ := hev v _ hv
  split at h
  ·rename_i es d hb hd hf
   obtain ⟨hblt, heo, hfull⟩ := hs.has b _ hb
   have heo : ∀ x ∈ es, x.1.ok ρ.k.length ∧ x.2.ok ρ.k.length := heo
   have hget : S.get (ρ.blk b) = some ((SO.map es).den ρ) := by unfold Own.get; rw [hfull]; rfl
   have enter : ∀ {K : Except Value Unit → Own → Prop}, (∀ (L : Array MapEntry) (c : Nat), (L.toList.map kv).Perm (es.map (pairD ρ)) → Stamps L.toList c → Run P S0 ((Instr.findKey kt (k0.den ρ) L.toList).bind fun r => match r with
      | some (i, _) => (Instr.keyThatStays (((L[i]?).map (·.key)).getD (k0.den ρ)) (k0.den ρ)).bind fun key => setObj (ρ.blk b) (.map (L.modify i fun e => { e with key, val := v0.den ρ }) c)
      | none => setObj (ρ.blk b) (.map (L.push { key := k0.den ρ, val := v0.den ρ, born := c }) (c + 1))) S K) → Run P S0 (Instr.mapUpdate t (ev' m) (ev' k) (ev' v)) S K := by
    intro K hK
    rw [hm', hk', hv', ← Sem.bind_pure' (Instr.mapUpdate t _ _ _)]
    unfold Instr.mapUpdate
    simp only [bind]
    rw [Sem.bind_assoc']
    refine run_underlying hu ?_
    rw [Sem.bind_pure']
    simp only [SC.den]
    refine Run.getMap hget fun L c hL hst => ?_
    rw [List.toList_toArray, absE_kv] at hL
    refine keyF_run (em := false) 6 10000 kt k0 (by decide) hf hko ?_
    exact hK L c hL hst
   have store : ∀ {es' : List (SC × SC)} {K : Except Value Next → Own → Prop} {L' : Array MapEntry} {c' : Nat}, K (.ok .skip) (S.set (ρ.blk b) ((SO.map es').den ρ)) → (L'.toList.map kv).Perm (es'.map (pairD ρ)) → Stamps L'.toList c' →
     Run P S0 (setObj (ρ.blk b) (.map L' c')) S (fun r S' => match r with | .ok _ => Run P S0 (pure .skip : Sem Next) S' K | .error v => K (.error v) S') := by
    intro es' K L' c' hK hL' hst'
    refine Run.setObjL (o := (SO.map es').den ρ) hfull rfl rfl ?_ (Run.pure (Run.pure hK))
    refine same_abs ?_ hst'
    rw [List.toList_toArray, absE_kv]
    exact hL'
   split at h
   ·rename_i i hi
    split at h
    ·rename_i y hy
     split at h
     ·rename_i hsame hbits
      simp only [Option.some.injEq] at h; subst h
      refine ⟨⟨⟨_, hb⟩, fun _ K hK => ?_⟩, fun x hx => ?_⟩
      ·rw [hred]
       refine Run.bind (enter fun L c hL hst => find_hit hs hd hko heo hL hi fun pre e post A z B h1 h2 h3 h4 => ?_)
       have e1 : z = y := by
        rw [h2, ← h3] at hy
        simpa using hy
       subst e1
       have e2 : e.key = z.1.den ρ := congrArg Prod.fst h4
       have e3 : z.1 = k0 := SC.same_eq _ _ _ hsame
       have hLi : L[pre.length]? = some e := by rw [← Array.getElem?_toList, h1]; simp
       simp only [hLi, Option.map_some, Option.getD_some]
       rw [e2, e3]
       have hkt : Instr.keyThatStays (k0.den ρ) (k0.den ρ) = Sem.pure (k0.den ρ) := by
        unfold Instr.keyThatStays
        rw [if_pos (bitsF_ok 6 10000 k0 (by decide) hbits)]
        rfl
       rw [hkt]
       have hmod : (L.modify pre.length fun e => { e with key := k0.den ρ, val := v0.den ρ }).toList = pre ++ { e with key := k0.den ρ, val := v0.den ρ } :: post := by
        rw [Array.toList_modify, h1, modify_mid]
       refine store hK ?_ ?_
       ·rw [hmod, h2, ← h3, setV_mid]
        rw [h1, h2] at hL
        simp only [List.map_append, List.map_cons] at hL ⊢
        have c1 : (pre.map kv ++ post.map kv).Perm (A.map (pairD ρ) ++ B.map (pairD ρ)) := by
         have := (List.perm_middle.symm.trans hL).trans List.perm_middle
         rw [h4] at this
         exact this.cons_inv
        have e4 : kv { e with key := k0.den ρ, val := v0.den ρ } = pairD ρ (z.1, v0) := by rw [e3]; rfl
        rw [e4]
        exact (List.perm_middle.trans (c1.cons _)).trans List.perm_middle.symm
       ·rw [hmod]
        refine stamps_born ?_ hst
        rw [h1]; simp
      ·have hx' : ∀ (i : Nat) (l : List (SC × SC)), x ∈ setV i v0 l → (∃ z ∈ l, x = (z.1, v0)) ∨ x ∈ l := by
        intro i l
        induction l generalizing i with
        | nil => intro h; simp [setV] at h
        | cons z l ih =>
         intro h
         cases i with
         | zero =>
          simp only [setV] at h
          rcases List.mem_cons.1 h with h | h
          ·exact .inl ⟨z, List.mem_cons_self, h⟩
          ·exact .inr (List.mem_cons_of_mem _ h)
         | succ i =>
          simp only [setV] at h
          rcases List.mem_cons.1 h with h | h
          ·exact .inr (by rw [h]; exact List.mem_cons_self)
          ·rcases ih i h with ⟨w, hw, e⟩ | h
           ·exact .inl ⟨w, List.mem_cons_of_mem _ hw, e⟩
           ·exact .inr (List.mem_cons_of_mem _ h)
       rcases hx' _ _ hx with ⟨z, hz, rfl⟩ | hx
       ·exact ⟨(heo z hz).1, hvo⟩
       ·exact heo x hx
     ·cases h
    ·cases h
   ·rename_i hi
    simp only [Option.some.injEq] at h; subst h
    refine ⟨⟨⟨_, hb⟩, fun _ K hK => ?_⟩, fun x hx => ?_⟩
    ·rw [hred]
     refine Run.bind (enter fun L c hL hst => find_miss hs hd hko heo hL hi ?_)
     refine store hK ?_ ?_
     ·rw [Array.toList_push, List.map_append]
      refine List.Perm.trans ?_ ((insS_perm (k0, v0) es).map _).symm
      refine List.perm_append_comm.trans ?_
      exact hL.cons _
     ·rw [Array.toList_push]
      refine ⟨List.pairwise_append.2 ⟨hst.1, List.pairwise_singleton _ _, fun a ha b hb => ?_⟩, fun a ha => ?_⟩
      ·rw [List.mem_singleton.1 hb]; exact hst.2 a ha
      ·rcases List.mem_append.1 ha with ha | ha
       ·exact Nat.lt_succ_of_lt (hst.2 a ha)
       ·rw [List.mem_singleton.1 ha]; exact Nat.lt_succ_self _
    ·have := (insS_perm (k0, v0) es).mem_iff.1 hx
     rcases List.mem_cons.1 this with rfl | hx
     ·exact ⟨hko, hvo⟩
     ·exact heo x hx
   ·cases h
  ·cases h
 ·cases h
end
open Go Mv
section
variable {P : Program} {ρ : Env} {hp : Hp} {F S0 S : Own} {ev : Operand → Option SC} {ev' : Operand → Value} {o : Oper} {e : Eff}
theorem zip_find {e : Nat} : ∀ {p q : List Nat}, p.Nodup → ∀ {j : Nat}, p[j]? = some e → ∀ {s}, q[j]? = some s → (p.zip q).find? (fun x => x.1 == e) = some (e, s)
 | [], _, _, j, h, _, _ => by simp at h
 | a :: p, [], _, j, _, s, h => by simp at h
 | a :: p, b :: q, hn, j, h, s, h' => by
  rw [List.zip_cons_cons, List.find?_cons]
  cases j with
  | zero =>
   simp only [List.getElem?_cons_zero, Option.some.injEq] at h h'
   subst h; subst h'
   simp
  | succ j =>
   simp only [List.getElem?_cons_succ] at h h'
   have hne : a ≠ e := by
    rintro rfl
    exact (List.nodup_cons.1 hn).1 (List.mem_of_getElem? h)
   rw [show ((a, b).1 == e) = false by simpa using hne]
   exact zip_find (p := p) (q := q) (List.nodup_cons.1 hn).2 h h'
theorem ShapeOk.at_ {n : Nat} {s : Shape} (h : ShapeOk n s) {e : Nat} (he : e < n) : ∃ j : Nat, j < n ∧ s.2.1[j]? = some e ∧ s.2.2[j]? = some (stampOf s e) := by
 have hm : e ∈ s.2.1 := h.perm.mem_iff.2 (List.mem_range.2 he)
 obtain ⟨j, hj, hje⟩ := List.getElem_of_mem hm
 have hjn : j < n := by rw [h.plen] at hj; exact hj
 have hj2 : j < s.2.2.length := by rw [h.len]; exact hjn
 have h2 : s.2.2[j]? = some s.2.2[j] := List.getElem?_eq_getElem hj2
 refine ⟨j, hjn, by rw [List.getElem?_eq_getElem hj, hje], ?_⟩
 unfold stampOf
 rw [zip_find (e := e) (j := j) (p := s.2.1) (q := s.2.2) (h.perm.nodup_iff.2 List.nodup_range) (by rw [List.getElem?_eq_getElem hj, hje]) h2]
 exact h2
theorem pin_get {l : List (Value × Value)} {s : Shape} (h : ShapeOk l.length s) {e : Nat} {y : Value × Value} (hy : l[e]? = some y) : ∃ j : Nat, (pinE l s)[j]? = some { key := y.1, val := y.2, born := stampOf s e } ∧ s.2.2[j]? = some (stampOf s e) := by
 have he : e < l.length := (List.getElem?_eq_some_iff.1 hy).1
 obtain ⟨j, hj, h1, h2⟩ := h.at_ he
 refine ⟨j, ?_, h2⟩
 unfold pinE
 have h3 : (s.2.1.zip s.2.2)[j]? = some (e, stampOf s e) := List.getElem?_zip_eq_some.2 ⟨h1, h2⟩
 rw [List.getElem?_map, h3]
 simp only [Option.map_some, hy]
theorem find_born {L : List MapEntry} {c : Nat} (hs : Stamps L c) {j : Nat} {x : MapEntry} (hx : L[j]? = some x) : L.find? (fun e => e.born == x.born) = some x := by
 have : ∀ (L : List MapEntry), L.Pairwise (fun a b => a.born < b.born) → ∀ {j : Nat}, L[j]? = some x → L.find? (fun e => e.born == x.born) = some x := by
  intro L
  induction L with
  | nil => intro _ j h; simp at h
  | cons a L ih =>
   intro hp j h
   cases j with
   | zero =>
    simp only [List.getElem?_cons_zero, Option.some.injEq] at h
    subst h; simp
   | succ j =>
    simp only [List.getElem?_cons_succ] at h
    have hlt := (List.pairwise_cons.1 hp).1 x (List.mem_of_getElem? h)
    rw [List.find?_cons, show (a.born == x.born) = false by simpa using Nat.ne_of_lt hlt]
    exact ih (List.pairwise_cons.1 hp).2 h
 exact this L hs.1 hx
def sEntry (hp : Hp) (x : Option SC) : Option Eff := match x with
 | some (.ptr b (.lit (.ofNat 0))) => match hp.get b with
  | some (.itr m sh n (some i) _) => match hp.get m with
   | some (.pin es sh') => match Nat.beq sh sh', Nat.beq es.length n, es[i]? with
    | true, true, some y => some (.val [] (.tup [y.1, y.2]))
    | _, _, _ => none
   | _ => none
  | _ => none
 | _ => none
theorem sEntry_good {x : Operand} (hop : o.op = .entry x) (hs : Sat ρ hp F S) (hev : EvOk ρ ev ev') (h : sEntry hp (ev x) = some e) : EffGood P ρ hp S0 S (execOp ev' o) e := by
 have hred : execOp ev' o = (do pure (.value (← Instr.entry (ev' x))) : Sem Next) := by simp only [execOp, hop]
 unfold sEntry at h
 split at h
 ·rename_i b hx
  obtain ⟨_, hx'⟩ := hev x _ hx
  split at h
  ·rename_i m sh n i r hb
   obtain ⟨_, hbo, hbg⟩ := hs.get hb
   split at h
   ·rename_i es sh' hm
    obtain ⟨_, hmo, hmg⟩ := hs.get hm
    split at h
    ·rename_i y h1 h2 h3
     have h1 := Nat.eq_of_beq_eq_true h1
     have h2 := Nat.eq_of_beq_eq_true h2
     subst h1; subst h2
     simp only [Option.some.injEq] at h; subst h
     have hy := hmo.2 y (List.mem_of_getElem? h3)
     refine good_val hred ⟨hy.1, hy.2, trivial⟩ fun _ K hK => ?_
     rw [hx']
     unfold Instr.entry
     simp only [SC.den, IE.den, bind]
     refine Run.getObj hbg rfl rfl ?_
     have hsh : ShapeOk (es.map (pairD ρ)).length (ρ.shape es.length sh) := by rw [List.length_map]; exact ρ.shape_ok _ _
     have hl3 : (es.map (pairD ρ))[i]? = some (pairD ρ y) := by rw [List.getElem?_map, h3]; rfl
     obtain ⟨j, hj, _⟩ := pin_get hsh hl3
     have hb2 : ((ρ.rest r).map natV ++ [stampOf (ρ.shape es.length sh) i]).toArray.back? = some (stampOf (ρ.shape es.length sh) i) := by simp
     simp only [SO.den, Sem.bind, hb2]
     refine Run.getPin hmg (by rw [List.toList_toArray]; exact pin_stamps hsh) fun c' hc => ?_
     have hc : c' = (ρ.shape es.length sh).1 := by
      rcases hc with hc | hc
      ·have : pinE (es.map (pairD ρ)) (ρ.shape es.length sh) = [] := by simpa using hc
       rw [this] at hj; simp at hj
      ·exact hc
     subst hc
     simp only [Sem.bind, bne_self_eq_false, Bool.false_eq_true, if_false]
     have hfb := find_born (pin_stamps hsh) hj
     simp only at hfb
     rw [List.find?_toArray, hfb]
     exact Run.pure hK
    ·cases h
   ·cases h
  ·cases h
 ·cases h
end
open Go Mv
section
variable {P : Program} {ρ : Env} {hp : Hp} {F S0 S : Own} {ev : Operand → Option SC} {ev' : Operand → Value} {o : Oper} {e : Eff}
def sMakeMap (r : Option Operand) : Option Eff := match r with
 | none => some (.fresh [] (.map []) .ref)
 | some _ => none
theorem sMakeMap_good [Loud S0] {t : TypeId} {r : Option Operand} (hop : o.op = .makeMap t r) (h : sMakeMap r = some e) : EffGood P ρ hp S0 S (execOp ev' o) e := by
 unfold sMakeMap at h
 split at h
 ·simp only [Option.some.injEq] at h; subst h
  refine ⟨fun _ K hK => ?_, fun x hx => by cases hx⟩
  have hred : execOp ev' o = (do pure (.value (← Instr.makeMap t none)) : Sem Next) := by simp only [execOp, hop, Option.map_none]
  rw [hred]
  refine run_value ?_
  show Run P S0 (.new (.map #[] 0) fun r => Sem.pure (Value.map (some r))) S _
  exact Run.newL (o := (SO.map []).den ρ) (same_abs (.refl _) ⟨List.Pairwise.nil, fun e h => by cases h⟩) fun r h1 h2 => Run.pure (hK r h1 h2)
 ·cases h
def evP (ev : Operand → Option SC) : Operand → Option SC := fun y => match ev y with
 | some (.lit (.pointer (some ⟨g, off, none⟩))) => match Nat.blt g 16 with
  | true => some (.ptr g (.lit (.ofNat off)))
  | false => none
 | v => v
theorem evP_ok (hv : vals ρ) (hev : EvOk ρ ev ev') : EvOk ρ (evP ev) ev' := fun y v h => by
 unfold evP at h
 split at h
 ·rename_i g off hy
  split at h
  ·rename_i hg
   have hg := blt_true hg
   simp only [Option.some.injEq] at h; subst h
   obtain ⟨_, h2⟩ := hev y _ hy
   refine ⟨⟨(hv.low g hg).1, trivial⟩, ?_⟩
   rw [h2]
   simp only [SC.den, IE.den, (hv.low g hg).2]
   rfl
  ·cases h
 ·exact hev y v h
def xMap (P : Program) : Xop := fun hp ev op => match op with
 | .indexAddr t x i => match ev x with
  | some (.lit (.pointer (some _))) => symOp P hp (evP ev) (.indexAddr t x i)
  | _ => none
 | .makeMap _ r => sMakeMap r
 | .lookup t x k c => sLookup P hp t (ev x) (ev k) c
 | .mapUpdate t m k v => sUpdate P hp t (ev m) (ev k) (ev v)
 | .entry x => sEntry hp (ev x)
 | _ => none
theorem xMap_ok : XopOk P (xMap P) := by
 intro ρ hp F S0 S ev ev' o e _ hv hs hev h
 unfold xMap at h
 split at h
 ·rename_i t x i hop
  split at h
  ·rw [← hop] at h
   exact symOp_good hv hs (evP_ok hv hev) h
  ·cases h
 ·rename_i hop; exact sMakeMap_good hop h
 ·rename_i hop; exact sLookup_good hop hs hev h
 ·rename_i hop; exact sUpdate_good hop hs hev h
 ·rename_i hop; exact sEntry_good hop hs hev h
 ·cases h
def hMap (P : Program) : Hk_ := fun ex C Γ items ops rest o tail σ nk k => match xMap P σ.hp (evC σ.sl) o.op with
 | some eff => match o.dst.all (· < C.size) with
  | true => some (applyEff Γ o.dst σ nk (fun σ nk => ex C Γ (.inRegion ops rest :: tail) σ nk k) eff)
  | false => none
 | none => none
theorem hMap_ok {main : Co} : HkOk P main (hMap P) where
 good D E ex C Γ items items' tail ops i rest rest' o σ k ρ Q F r t hr hv hΓ hK ho ht hh := by
  intro a S hf hw hst hn
  unfold hMap at ht
  split at ht
  ·rename_i eff heff
   split at ht
   ·rename_i hd
    simp only [Option.some.injEq] at ht
    subst ht
    have hpl : plainOp r.round o = true := by
     unfold plainOp
     cases hop : o.op <;> simp
     rw [hop] at heff; cases heff
    refine wpI_op ho hw hpl ?_
    haveI := hf.hp.loud
    have hg := xMap_ok (P := P) (S0 := S) hv hf.hp (evC_ok hf.sl) heff
    exact Run.mono (applyEff_sound (next := fun a' S' => (∃ v, a'.tmps = (a.put o.dst v).tmps) → wpI P main r (.inRegion ops rest' :: tail) Q a' S') hΓ hg hf hd hh fun ρ' σ' a' S' he hΓ' hf' hh hx => hn ρ' Γ σ' a' S' he (vals_ext he hv) hΓ' hf' hx hh) fun e S' h => upon_tmps h
   ·cases ht
  ·cases ht
 alloc ex C Γ items ops rest o tail σ nk k t ho := by simp only [hMap, ho, xMap]
 bs ex C Γ items ops rest o tail σ nk k t n ps ho := by simp only [hMap, ho, xMap]
end
open Go Mv
def mkH (rw ro : List (Nat × SO)) : Hp := ⟨setsT rw, setsT ro, .none⟩
def mkS (sl : List (Nat × SC)) (hp : Hp) : SS := { sl := setsT sl, hp, df := [], cm := none }
def vI (n : Nat) : SC := .int .i64 (.lit (.ofNat n))
def vP (b : Nat) : SC := .ptr b (.lit (.ofNat 0))
def vQ (b o : Nat) : SC := .ptr b (.lit (.ofNat o))
def vL (b l c : Nat) : SC := .slice b (.lit (.ofNat 0)) (.lit (.ofNat l)) (.lit (.ofNat c))
def vZ : SC := .lit (.slice none 0 0)
def v0 : SC := .lit (.pointer none)
def vT : SC := .bool (.lit true)
def vF : SC := .bool (.lit false)
def uC : List Nat → List SC
 | [] => []
 | n :: l => match n with
  | 0 => vF :: uC l
  | 1 => vT :: uC l
  | n + 2 => vI n :: uC l
def restF (ρ : Env) (l : List Nat) (S : Own) : Own := ⟨fun b => match (l.map ρ.blk).contains b with | true => none | false => S.full b, S.ro, S.gh⟩
theorem restF_in {ρ : Env} {l : List Nat} {S : Own} {i : Nat} (h : i ∈ l) : (restF ρ l S).full (ρ.blk i) = none := by
 simp only [restF]
 rw [List.contains_iff_mem.2 (List.mem_map_of_mem h)]
theorem restF_some {ρ : Env} {l : List Nat} {S : Own} {b : Nat} {o : Obj} (h : (restF ρ l S).full b = some o) : S.full b = some o := by
 simp only [restF] at h
 split at h
 ·cases h
 ·exact h
theorem restF_out {ρ : Env} {l : List Nat} {S : Own} {b : Nat} (h : ∀ i ∈ l, ρ.blk i ≠ b) : (restF ρ l S).full b = S.full b := by
 simp only [restF]
 split
 ·rename_i hc
  obtain ⟨i, hi, e⟩ := List.mem_map.1 (List.contains_iff_mem.1 hc)
  exact absurd e (h i hi)
 ·rfl
def delNs : List Nat → Tr SO → Tr SO
 | [], t => t
 | i :: l, t => delNs l (t.del i)
theorem delNs_look {i : Nat} {o : SO} : ∀ {l : List Nat} {t : Tr SO}, (delNs l t).look i = some o → t.look i = some o ∧ i ∉ l
 | [], t, h => ⟨h, by simp⟩
 | j :: l, t, h => by
  obtain ⟨h1, h2⟩ := delNs_look (l := l) h
  obtain ⟨h3, h4⟩ := Tr.look_del h1
  exact ⟨h4, fun hm => (List.mem_cons.1 hm).elim h3 h2⟩
def backT : List Nat → Tr SO → Tr SO → Tr SO
 | [], _, t => t
 | i :: l, src, t => match src.look i with
  | some o => (backT l src t).set i o
  | none => backT l src t
theorem backT_look {src t : Tr SO} {i : Nat} {o : SO} : ∀ {l : List Nat}, (backT l src t).look i = some o → (i ∈ l ∧ src.look i = some o) ∨ t.look i = some o
 | [], h => .inr h
 | j :: l, h => by
  simp only [backT] at h
  split at h
  ·rename_i o' ho
   rcases Tr.look_set h with ⟨rfl, rfl⟩ | ⟨_, h⟩
   ·exact .inl ⟨List.mem_cons_self, ho⟩
   ·exact (backT_look h).imp (fun h => ⟨List.mem_cons_of_mem _ h.1, h.2⟩) id
  ·exact (backT_look h).imp (fun h => ⟨List.mem_cons_of_mem _ h.1, h.2⟩) id
def Left (v : SC) (hp : Hp) (nk : Nat) (F : Own) (ρ0 : Env) (e : Mv.End) (S : Own) : Prop := ∃ ρ, Ext ρ0 ρ ∧ ({} : Facts).On ρ ∧ ρ.k.length = nk ∧ e = .returned (v.den ρ) ∧ v.ok ρ.k.length ∧ Sat ρ hp F S
structure Sum where
 g : FuncId
 args : List SC
 rw : List (Nat × SO)
 ro : List (Nat × SO)
 nk : Nat
 v : SC
 hp : Hp
 nk' : Nat
 out : List Nat
def pickS (f : FuncId) (nk : Nat) : List Sum → Option Sum
 | [] => none
 | s :: l => match Nat.beq s.g f && Nat.beq s.nk nk with
  | true => some s
  | false => pickS f nk l
theorem pickS_mem {f : FuncId} {nk : Nat} {s : Sum} : ∀ {l : List Sum}, pickS f nk l = some s → s ∈ l ∧ s.g = f ∧ s.nk = nk
 | [], h => by cases h
 | x :: l, h => by
  simp only [pickS] at h
  split at h
  ·rename_i hb
   simp only [Option.some.injEq] at h; subst h
   simp only [Bool.and_eq_true] at hb
   exact ⟨List.mem_cons_self, Nat.eq_of_beq_eq_true hb.1, Nat.eq_of_beq_eq_true hb.2⟩
  ·obtain ⟨h1, h2⟩ := pickS_mem h
   exact ⟨List.mem_cons_of_mem _ h1, h2⟩
def noGh : SGh → Bool
 | .none => true
 | _ => false
def callS (sums : List Sum) (call : Call_) : Call_ := fun f args cm hp nk Γ k => match sums with
 | [] => call f args cm hp nk Γ k
 | _ => match pickS f nk sums with
  | none => call f args cm hp nk Γ k
  | some s => match cm, sameL (SC.same 6) args s.args, lies hp.rw s.rw, lies hp.ro s.ro, noGh hp.gh, noGh s.hp.gh, Nat.ble nk s.nk' with
   | none, true, true, true, true, true, true => news (s.nk' - nk) (k (.ret s.v) none ⟨backT s.out s.hp.rw (delNs (s.rw.map Prod.fst) hp.rw), hp.ro, .none⟩ s.nk' {})
   | _, _, _, _, _, _, _ => .bad
theorem noGh_eq {g : SGh} (h : noGh g = true) : g = .none := by
 unfold noGh at h
 split at h
 ·rfl
 ·cases h
theorem sat_part {ρ : Env} {hp : Hp} {F S : Own} {rw ro : List (Nat × SO)} (hs : Sat ρ hp F S) (hgh : hp.gh = .none) (h1 : ∀ x ∈ rw, hp.rw.look x.1 = some x.2) (h2 : ∀ x ∈ ro, hp.ro.look x.1 = some x.2) : Sat ρ (mkH rw ro) (restF ρ (rw.map Prod.fst) S) S where
 has i o hi := hs.has i o (h1 _ (setsT_look hi))
 hro i o hi := hs.hro i o (h2 _ (setsT_look hi))
 inj i j o o' hi hj e := hs.inj i j o o' (h1 _ (setsT_look hi)) (h1 _ (setsT_look hj)) e
 frm b o hb := restF_some hb
 apart i o hi := restF_in (List.mem_map_of_mem (f := Prod.fst) (setsT_look hi))
 ro b o hb := hb
 gh := by rw [hs.gh, hgh]; rfl
 dis := hs.dis
 ghok := trivial
 lent i hi := by cases hi
 linj i hi := by cases hi
 rinj i hi := by cases hi
 lnd := List.nodup_nil
 frz := trivial
theorem sat_join {ρ ρ' : Env} {hp hp' : Hp} {F S S' : Own} {rw : List (Nat × SO)} {out : List Nat} (hs : Sat ρ hp F S) (h1 : ∀ x ∈ rw, hp.rw.look x.1 = some x.2) (he : Ext ρ ρ') (hgh' : hp'.gh = .none) (hs' : Sat ρ' hp' (restF ρ (rw.map Prod.fst) S) S') :
  Sat ρ' ⟨backT out hp'.rw (delNs (rw.map Prod.fst) hp.rw), hp.ro, .none⟩ F S' := by
 have hout : ∀ i ∈ rw.map Prod.fst, ∃ o, hp.rw.look i = some o := fun i hi => by
  obtain ⟨x, hx, rfl⟩ := List.mem_map.1 hi
  exact ⟨_, h1 x hx⟩
 have old : ∀ i o, (backT out hp'.rw (delNs (rw.map Prod.fst) hp.rw)).look i = some o → hp'.rw.look i = some o ∨ (hp.rw.look i = some o ∧ i ∉ rw.map Prod.fst) := fun i o h => (backT_look h).imp (fun h => h.2) delNs_look
 have keep : ∀ i o, hp.rw.look i = some o → i ∉ rw.map Prod.fst → i < ρ.k.length ∧ o.ok ρ.k.length ∧ (restF ρ (rw.map Prod.fst) S).full (ρ.blk i) = some (o.den ρ) := fun i o h hn => by
  obtain ⟨k1, k2, k3⟩ := hs.has i o h
  refine ⟨k1, k2, ?_⟩
  rw [restF_out]
  ·exact k3
  ·intro j hj e
   obtain ⟨o', hj'⟩ := hout j hj
   have := hs.inj j i _ _ hj' h e
   exact hn (this ▸ hj)
 have frm : ∀ b o, F.full b = some o → (restF ρ (rw.map Prod.fst) S).full b = some o := fun b o hb => by
  rw [restF_out]
  ·exact hs.frm b o hb
  ·intro j hj e
   obtain ⟨o', hj'⟩ := hout j hj
   have := hs.apart j o' hj'
   rw [e, hb] at this; cases this
 exact {
  has := fun i o hi => by
   rcases old i o hi with h | ⟨h, hn⟩
   ·exact hs'.has i o h
   ·obtain ⟨k1, k2, k3⟩ := keep i o h hn
    exact ⟨Nat.lt_of_lt_of_le k1 he.len, SO.ok_mono he.len k2, by rw [blk_ext he k1, SO.den_ext he k2]; exact hs'.frm _ _ k3⟩
  hro := fun i o hi => by
   obtain ⟨k1, k2, k3⟩ := hs.hro i o hi
   exact ⟨Nat.lt_of_lt_of_le k1 he.len, SO.ok_mono he.len k2, by rw [blk_ext he k1, SO.den_ext he k2]; exact hs'.ro _ _ k3⟩
  inj := fun i j o o' hi hj e => by
   rcases old i o hi with h | ⟨h, hn⟩ <;> rcases old j o' hj with g | ⟨g, gn⟩
   ·exact hs'.inj i j o o' h g e
   ·obtain ⟨k1, k2, k3⟩ := keep j o' g gn
    have := hs'.apart i o h
    rw [e, blk_ext he k1, k3] at this; cases this
   ·obtain ⟨k1, k2, k3⟩ := keep i o h hn
    have := hs'.apart j o' g
    rw [← e, blk_ext he k1, k3] at this; cases this
   ·rw [blk_ext he (hs.has i o h).1, blk_ext he (hs.has j o' g).1] at e
    exact hs.inj i j o o' h g e
  frm := fun b o hb => hs'.frm b o (frm b o hb)
  apart := fun i o hi => by
   rcases old i o hi with h | ⟨h, hn⟩
   ·have h2 := hs'.apart i o h
    cases hf : F.full (ρ'.blk i) with
    | none => rfl
    | some u => rw [frm _ _ hf] at h2; cases h2
   ·rw [blk_ext he (hs.has i o h).1]; exact hs.apart i o h
  ro := fun b o hb => hs'.ro b o (hs.ro b o hb)
  gh := by rw [hs'.gh, hgh']
  dis := hs'.dis
  ghok := trivial
  lent := fun i hi => by cases hi
  linj := fun i hi => by cases hi
  rinj := fun i hi => by cases hi
  lnd := List.nodup_nil
  frz := trivial }
open Go Mv
def keepT {α : Type} (t : Tr α) : List Nat → Tr α
 | [] => .nil
 | d :: l => match t.look d with
  | some v => (keepT t l).set d v
  | none => keepT t l
theorem keepT_look {α : Type} {t : Tr α} {d : Nat} {v : α} : ∀ {l : List Nat}, (keepT t l).look d = some v → t.look d = some v
 | [], h => by rw [keepT, Tr.nil_look] at h; cases h
 | e :: l, h => by
  unfold keepT at h
  split at h
  ·rename_i w hw
   rcases Tr.look_set h with ⟨rfl, rfl⟩ | ⟨_, h⟩
   ·exact hw
   ·exact keepT_look h
  ·exact keepT_look h
def namesOf (sl : Tr SC) : List Nat → List Nat
 | [] => []
 | d :: l => match sl.look d with
  | some v => namesSC v ++ namesOf sl l
  | none => namesOf sl l
def Hp.cut (hp : Hp) (from_ keepRo : List Nat) : Option Hp := match hp.gh with
 | .none => some ⟨keepT hp.rw (reachT hp.rw 1000000 from_ []), keepT hp.ro keepRo, .none⟩
 | _ => none
def cutS (keep keepB keepRo : List Nat) (σ : SS) : Option SS := match σ.df, σ.hp.cut (namesOf σ.sl keep ++ keepB) keepRo with
 | [], some hp => some { sl := keepT σ.sl keep, hp, df := [], cm := σ.cm }
 | _, _ => none
theorem cut_sat {hp hp' : Hp} {from_ keepRo : List Nat} {ρ : Env} {F S : Own} (h : Sat ρ hp F S) (hc : hp.cut from_ keepRo = some hp') : Sat ρ hp' F S ∧ hp'.gh = .none := by
 unfold Hp.cut at hc
 split at hc
 ·rename_i hgh
  simp only [Option.some.injEq] at hc; subst hc
  exact ⟨{
    has := fun i o hi => h.has i o (keepT_look hi)
    hro := fun i o hi => h.hro i o (keepT_look hi)
    inj := fun i j o o' hi hj e => h.inj i j o o' (keepT_look hi) (keepT_look hj) e
    frm := h.frm
    apart := fun i o hi => h.apart i o (keepT_look hi)
    ro := h.ro
    gh := by rw [h.gh, hgh]
    dis := h.dis
    ghok := trivial
    lent := fun i hi => by cases hi
    linj := fun i hi => by cases hi
    rinj := fun i hi => by cases hi
    lnd := List.nodup_nil
    frz := trivial }, rfl⟩
 ·cases hc
theorem cut_fit {keep keepB keepRo : List Nat} {size : Nat} {F : Own} {ρ : Env} {σ σ' : SS} {a : St} {S : Own} (h : Fit size F ρ σ a S) (hc : cutS keep keepB keepRo σ = some σ') : Fit size F ρ σ' a S := by
 unfold cutS at hc
 split at hc
 ·rename_i hp hdf hhp
  simp only [Option.some.injEq] at hc; subst hc
  exact {
   size := h.size
   df := by rw [h.df, hdf]
   dfok := fun d hd => by cases hd
   cm := h.cm
   cmok := h.cmok
   sl := fun d v hd => h.sl d v (keepT_look hd)
   hp := (cut_sat h.hp hhp).1 }
 ·cases hc
def both2 {α : Type} : Option (List α) → Option (List α) → Option (List α)
 | some l, some m => some (l ++ m)
 | _, _ => none
theorem both2_some {α : Type} {a b : Option (List α)} {l : List α} (h : both2 a b = some l) : ∃ x y, a = some x ∧ b = some y ∧ l = x ++ y := by
 unfold both2 at h
 split at h
 ·rename_i x y
  simp only [Option.some.injEq] at h
  exact ⟨x, y, rfl, rfl, h.symm⟩
 ·cases h
theorem all_same {α : Type} {n : Nat} {x : α} : ∀ y ∈ List.replicate n x, y = x := fun y hy => (List.mem_replicate.1 hy).2
structure Cut where
 call : Bool
 at_ : Nat
 nk : Nat
 keep : List Nat
 keepB : List Nat
 keepRo : List Nat
 sums : List Sum
 msgs : List (Nat × List SM)
 ws : List WSum := []
def Cut.hit (c : Cut) (items : List Item) (nk : Nat) : Bool := match items with
 | .code (.region id _ _) :: _ => match c.call, Nat.beq id c.at_ with
  | false, true => Nat.ble c.nk nk
  | _, _ => false
 | .inRegion ops (i :: _) :: _ => match c.call with
  | true => match ops[i]? with
   | some o => match o.op with
    | .call cl => match cl.callee with
     | .value (.func g) => match Nat.beq g c.at_ with
      | true => Nat.ble c.nk nk
      | false => false
     | _ => false
    | _ => false
   | none => false
  | false => false
 | _ => false
def stepCut (c : Cut) (other : Run_) : Run_ := fun C Γ items σ nk k => match c.hit items nk with
 | true => match C.top with
  | true => match cutS c.keep c.keepB c.keepRo σ with
   | some σ' => .stop items σ'
   | none => .bad
  | false => other C Γ items σ nk k
 | false => other C Γ items σ nk k
section
variable {P : Program} {main : Co}
theorem stepCut_sound {c : Cut} {other : Run_} (hother : SoundEx P main other) : SoundEx P main (stepCut c other) := by
 intro D E C r Γ items σ nk k ρ Q F hr hv hΓ hk hK hE h a S hf
 unfold stepCut at h
 split at h
 ·split at h
  ·rename_i ht
   split at h
   ·rename_i σ' hc
    exact hE ht ρ _ σ' (Ext.refl ρ) h a S (cut_fit hf hc)
   ·exact h.elim
  ·exact hother D E C r Γ items σ nk k ρ Q F hr hv hΓ hk hK hE h a S hf
 ·exact hother D E C r Γ items σ nk k ρ Q F hr hv hΓ hk hK hE h a S hf
end
noncomputable def cutR (P : Program) (inl : FuncId → Bool) (c : Cut) (A : Run_ × Call_) (C : Cx) (Γ : Facts) (items : List Item) (σ : SS) (nk : Nat) (k : Kont) : Tree :=
 stepCut c (fun C Γ items σ nk k => stepRY items P inl A C Γ items σ nk k) C Γ items σ nk k
theorem Facts.On.ext {ρ ρ' : Env} (h : ({} : Facts).On ρ) (he : Ext ρ ρ') : ({} : Facts).On ρ' := by
 obtain ⟨t, rfl⟩ := he
 exact ⟨by simp, by simp, fun i hi => by have := h.lens i hi; simpa [Env.list, hi] using this, by simp⟩
section
variable {P : Program} {N : Nat} {w0 : Option World}
def lastE (keepB keepRo : List Nat) : KEnd := fun e _ hp _ _ => match e with
 | .ret v => match hp.cut (namesSC v ++ keepB) keepRo with
  | some hp => .done (.panic [(v, false, false)]) { hp }
  | none => .bad
 | _ => .bad
def lastK (P : Program) (call : Call_) (g : FuncId) (keepB keepRo : List Nat) : Kont := fun e σ nk Γ => match P.funcs[g]? with
 | some fn => match e with
  | .normal => unw P call fn.results.toList σ.df .ret σ nk Γ (lastE keepB keepRo)
  | .ret => unw P call fn.results.toList σ.df .ret σ nk Γ (lastE keepB keepRo)
  | _ => .bad
 | none => .bad
def callAt (size : Nat) (items : List Item) (σ : SS) : Option (FuncId × List SC × List Item × Option Tmp) := match items with
 | .inRegion ops (i :: rest) :: tail => match ops[i]? with
  | some o => match symWanted σ.sl ops o with
   | some (.inl true) => match o.op with
    | .call c => match calleeOf (evC σ.sl) c, o.dst.all (· < size) with
     | some (g, args, caps), true => some (g, args ++ caps, .inRegion ops rest :: tail, o.dst)
     | _, _ => none
    | _ => none
   | _ => none
  | none => none
 | _ => none
end
def itemsTo (id : Nat) : Code → List Item → Option (List Item)
 | .region i ops d, tail => match Nat.beq i id with
  | true => some (.code (.region i ops d) :: tail)
  | false => none
 | .seq a b, tail => match itemsTo id a (.code b :: tail) with
  | some l => some l
  | none => itemsTo id b tail
 | .cond _ x y, tail => match itemsTo id x tail with
  | some l => some l
  | none => itemsTo id y tail
 | .block n c, tail => itemsTo id c (.inBlock n :: tail)
 | .loop c, tail => itemsTo id c (.inLoop c :: tail)
 | .scope c, tail => itemsTo id c (.inScope c :: tail)
 | _, _ => none
def bodyOf (P : Program) (f : FuncId) : Code := match P.funcs[f]? with
 | some fn => match fn.body with
  | some c => c
  | none => .skip
 | none => .skip
def atStm (P : Program) (f id : Nat) : List Item := match itemsTo id (bodyOf P f) [] with
 | some l => l
 | none => []
def atOp (P : Program) (f id i : Nat) : List Item := match itemsTo id (bodyOf P f) [] with
 | some (.code (.region _ ops _) :: tail) => .inRegion ops ((List.range ops.size).drop i) :: tail
 | _ => []
section
variable {P : Program} {N : Nat} {w0 : Option World}
end
def fnOf (P : Program) (g : FuncId) : Func := match P.funcs[g]? with
 | some fn => fn
 | none => default
structure FnOk (P : Program) (g : FuncId) : Prop where
 fn : P.funcs[g]? = some (fnOf P g)
 name : ((fnOf P g).name == "runtime.NumGoroutine") = false
 body : (fnOf P g).body = some (bodyOf P g)
def noCut (sums : List Sum) (msgs : List (Nat × List SM)) (ws : List WSum := []) : Cut := { call := false, at_ := 99999, nk := 0, keep := [], keepB := [], keepRo := [], sums, msgs, ws }
open Go Mv
section
variable {P : Program} {ρ : Env} {hp : Hp} {F S0 S : Own}
theorem map_ofSc (ρ : Env) (l : List Value) : (l.map ofSc).map (SC.den ρ) = l := by
 rw [List.map_map]
 have : SC.den ρ ∘ ofSc = id := funext fun v => den_ofSc ρ v
 rw [this, List.map_id]
end
end Mw

