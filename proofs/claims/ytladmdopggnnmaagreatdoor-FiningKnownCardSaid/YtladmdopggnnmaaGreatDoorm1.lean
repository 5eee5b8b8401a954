/- A logic over the machine and a run of a program on unknown values, in the kernel. No statement of the project is proved in this text. -/
import Derived.Calls
import Derived.KernelRfl
import Derived.Laws.Sem
set_option linter.unusedVariables false
set_option linter.unusedSimpArgs false
namespace Mw
def fnTable (n : Nat) (ls : List (List Int)) (x y : Int) : Int := match n, ls with
 | _, _ => 0
end Mw
namespace Mv
open Go
inductive MPh where
 | op (deaf pend : Bool) | again (n : Nat) | saw (v : Nat) | reg | got | out (deaf : Bool) | joined
inductive WPh where
 | work | rel | dis | d2 | d3 | d4 | left
abbrev Msg := Value × (Nat → Option Obj)
structure Pact where
 quota : Nat
 ok : List Msg → Prop
structure Grp where
 ty : TypeId
 W : Nat
 C : Nat
 cap : Nat
 tm : Bool
inductive Gh where
 | none
 | main (K : Grp) (lent : Nat → Prop) (ph : MPh) (pacts : List Pact)
 | work (K : Grp) (ph : WPh) (pact : Pact) (sent : List Msg)
 | head (C : Nat) (tm : Bool) (ms : List Value)
 | hand (C : Nat) (tm : Bool) (v : Value)
def Gh.quiet : Gh → Bool
 | .work _ .work _ _ => false
 | .work _ _ _ _ => true
 | _ => false
structure Own where
 full : Nat → Option Obj
 ro : Nat → Option Obj
 gh : Gh := .none
def isCells : Obj → Bool
 | .cells .. => true
 | _ => false
def kv (e : MapEntry) : Value × Value := (e.key, e.val)
def Stamps (es : List MapEntry) (c : Nat) : Prop := es.Pairwise (fun a b => a.born < b.born) ∧ ∀ e ∈ es, e.born < c
def mapish : Obj → Bool
 | .map _ 0 => true
 | _ => false
def Same (o o' : Obj) : Prop := match o with
 | .map es 0 => ∃ es' c, o' = .map es' c ∧ (es'.toList.map kv).Perm (es.toList.map kv) ∧ Stamps es'.toList c
 | o => o = o'
theorem same_iff {o o' : Obj} (h : mapish o = false) : Same o o' ↔ o = o' := by
 unfold Same
 split
 ·cases h
 ·exact Iff.rfl
theorem same_self {o : Obj} (h : mapish o = false) : Same o o := (same_iff h).2 rfl
theorem same_cells {o o' : Obj} (h : Same o o') : isCells o' = isCells o ∧ o'.isChan = o.isChan := by
 cases hm : mapish o with
 | false => rw [(same_iff hm).1 h]; exact ⟨rfl, rfl⟩
 | true =>
  unfold mapish at hm
  split at hm
  ·obtain ⟨es', c, rfl, _⟩ := h; exact ⟨rfl, rfl⟩
  ·cases hm
def Lay (w : World) (b : Nat) (o : Obj) : Prop := ∃ o', w.heap[b]? = some o' ∧ Same o o'
theorem Lay.eq {w : World} {b : Nat} {o : Obj} (h : Lay w b o) (hm : mapish o = false) : w.heap[b]? = some o := by
 obtain ⟨o', h1, h2⟩ := h
 rw [(same_iff hm).1 h2]; exact h1
theorem Lay.of {w w' : World} {b : Nat} {o : Obj} (h : Lay w b o) (e : w'.heap[b]? = w.heap[b]?) : Lay w' b o := by
 obtain ⟨o', h1, h2⟩ := h
 exact ⟨o', e.trans h1, h2⟩
theorem Lay.lt {w : World} {b : Nat} {o : Obj} (h : Lay w b o) : b < w.heap.size := by
 obtain ⟨o', h1, _⟩ := h
 exact (Array.getElem?_eq_some_iff.1 h1).1
theorem Lay.self {w : World} {b : Nat} {o : Obj} (h : w.heap[b]? = some o) (hm : mapish o = false) : Lay w b o := ⟨o, h, same_self hm⟩
namespace Own
structure In (S : Own) (w : World) : Prop where
 lay : ∀ b o, S.full b = some o → Lay w b o
 layro : ∀ b o, S.ro b = some o → Lay w b o
 disj : ∀ b, (S.full b).isSome → S.ro b = none
theorem In.full {S : Own} {w : World} (h : S.In w) (b : Nat) (o : Obj) (hb : S.full b = some o) (hm : mapish o = false := by rfl) : w.heap[b]? = some o := (h.lay b o hb).eq hm
def set (S : Own) (b : Nat) (o : Obj) : Own := { S with full := fun x => if x = b then some o else S.full x }
@[simp] theorem set_full (S : Own) (b : Nat) (o : Obj) (x : Nat) : (S.set b o).full x = if x = b then some o else S.full x := rfl
def get (S : Own) (b : Nat) : Option Obj := (S.full b).or (S.ro b)
theorem In.getL {S : Own} {w : World} (h : S.In w) {b : Nat} {o : Obj} (hg : S.get b = some o) : Lay w b o := by
 unfold Own.get at hg
 cases hf : S.full b with
 | some x => rw [hf] at hg; simp at hg; subst hg; exact h.lay b x hf
 | none => rw [hf] at hg; simp at hg; exact h.layro b o hg
theorem In.get {S : Own} {w : World} (h : S.In w) {b : Nat} {o : Obj} (hg : S.get b = some o) (hm : mapish o = false := by rfl) : w.heap[b]? = some o := (h.getL hg).eq hm
theorem In.lt {S : Own} {w : World} (h : S.In w) {b : Nat} (hb : (S.full b).isSome) : b < w.heap.size := by
 obtain ⟨o, ho⟩ := Option.isSome_iff_exists.1 hb
 exact (h.lay b o ho).lt
theorem In.lt_ro {S : Own} {w : World} (h : S.In w) {b : Nat} (hb : (S.ro b).isSome) : b < w.heap.size := by
 obtain ⟨o, ho⟩ := Option.isSome_iff_exists.1 hb
 exact (h.layro b o ho).lt
end Own
class Loud (S : Own) : Prop where
 q : S.gh.quiet = false
structure Mid (S0 : Own) (w0 : World) (S : Own) (w : World) : Prop where
 inn : S.In w
 size : w0.heap.size ≤ w.heap.size
 kept : ∀ b, b < w0.heap.size → S0.full b = none → w.heap[b]? = w0.heap[b]?
 dom : ∀ b, (S.full b).isSome → (S0.full b).isSome ∨ w0.heap.size ≤ b
 rod : S.ro = S0.ro
 ghd : S.gh = S0.gh
 qz : S0.gh.quiet = true → w.heap.size = w0.heap.size
 tape : w.tape = w0.tape
 os : w.os = w0.os
 output : w.output = w0.output
theorem Mid.refl {S : Own} {w : World} (h : S.In w) : Mid S w S w :=
 ⟨h, Nat.le_refl _, fun _ _ _ => rfl, fun _ h => .inl h, rfl, rfl, fun _ => rfl, rfl, rfl, rfl⟩
structure FarW (N : Nat) (w0 w : World) : Prop where
 heap : ∀ b, b < N → w.heap[b]? = w0.heap[b]?
 size : N ≤ w.heap.size
 tape : w.tape = w0.tape
 os : w.os = w0.os
 output : w.output = w0.output
def Far (N : Nat) (o : Option World) (w : World) : Prop := N ≤ w.heap.size ∧ ∀ w0, o = some w0 → FarW N w0 w
structure Calm (w w' : World) : Prop where
 tape : w'.tape = w.tape
 os : w'.os = w.os
 output : w'.output = w.output
theorem Calm.refl (w : World) : Calm w w := ⟨rfl, rfl, rfl⟩
theorem Mid.calm {S0 S : Own} {w0 w : World} (h : Mid S0 w0 S w) : Calm w0 w := ⟨h.tape, h.os, h.output⟩
theorem Far.next {N : Nat} {o : Option World} {w w' : World} (h : Far N o w) (hc : Calm w w') (hs : w.heap.size ≤ w'.heap.size) (hk : ∀ b, b < N → w'.heap[b]? = w.heap[b]?) : Far N o w' :=
 ⟨Nat.le_trans h.1 hs, fun w0 ho => let f := h.2 w0 ho; ⟨fun b hb => (hk b hb).trans (f.heap b hb), Nat.le_trans h.1 hs, hc.tape.trans f.tape, hc.os.trans f.os, hc.output.trans f.output⟩⟩
theorem Far.mid {N : Nat} {o : Option World} {S S' : Own} {w w' : World} (h : Far N o w) (hm : Mid S w S' w') (hl : ∀ b, (S.full b).isSome → N ≤ b) : Far N o w' :=
 h.next hm.calm hm.size fun b hb => hm.kept b (Nat.lt_of_lt_of_le hb h.1) (by
  cases hf : S.full b with
  | none => rfl
  | some x => have := hl b (by simp [hf]); omega)
def Ev (S : Own) (N : Nat) (e : Event) : Prop :=
 match e.loc with
 | .cell a => e.sync = false ∧ (N ≤ a.block ∨ (S.full a.block).isSome ∨ (e.write = false ∧ (S.ro a.block).isSome))
 | .obj r => e.sync = false ∧ (N ≤ r ∨ (S.full r).isSome ∨ (e.write = false ∧ (S.ro r).isSome))
 | .mark (.extern _) => True
 | .mark .noRoom => True
 | _ => False
def isOne : Value → Bool
 | .agg _ | .tuple _ => false
 | _ => true
def okRun (P : Program) (A : Event → Prop) {α : Type} : Sem α → World → (Except Value α → World → Prop) → Prop
 | .pure a, w, K => K (.ok a) w
 | .load m a k, w, K => ∃ v, w.cell? a = some v ∧ A ⟨.cell a, false, m == .atomic⟩ ∧ okRun P A (k v) w K
 | .store m a v k, w, K => isOne v = true ∧ (w.cell? a).isSome ∧ w.frozen? a = false ∧ A ⟨.cell a, true, m == .atomic⟩ ∧ okRun P A k (w.setCell a v) K
 | .new o k, w, K => okRun P A (k w.heap.size) { w with heap := w.heap.push o } K
 | .shape r k, w, K => okRun P A (k (w.shape? r)) w K
 | .freeze _ _ _, _, _ => False
 | .frozen a k, w, K => okRun P A (k (w.frozen? a)) w K
 | .getObj r k, w, K => ∃ o, w.heap[r]? = some o ∧ isCells o = false ∧ A ⟨.obj r, false, o.isChan⟩ ∧ okRun P A (k o) w K
 | .setObj r o k, w, K => (∃ o0, w.heap[r]? = some o0 ∧ isCells o0 = false) ∧ A ⟨.obj r, true, o.isChan⟩ ∧ okRun P A k { w with heap := w.heap.setIfInBounds r o } K
 | .choose q k, w, K =>
  if q.forced then okRun P A (k 0) w K else okRun P A (k (q.cut (w.tape w.drawn q))) { w with drawn := w.drawn + 1 } K
 | .sys _ _, _, _ => False
 | .program k, w, K => okRun P A (k P) w K
 | .mark m k, w, K => A ⟨.mark m, false, true⟩ ∧ okRun P A k w K
 | .halt (.panic v), w, K => K (.error v) w
 | .halt _, _, _ => False
def outcome {α : Type} (w : World) : Except Value α → Result α
 | .ok a => .ok a w
 | .error v => .halt (.panic v) w
theorem cell_lt {w : World} {a : Addr} {v : Value} (h : w.cell? a = some v) : a.block < w.heap.size := by
 rcases Nat.lt_or_ge a.block w.heap.size with h1 | h1
 ·exact h1
 ·simp [World.cell?, Array.getElem?_eq_none h1] at h
theorem push_app (es es' : Array Event) (x : Event) : es.push x ++ es' = es ++ (#[x] ++ es') := by
 apply Array.ext'; simp
def lowE (M : Nat) (e : Event) : Prop := match e.loc with
 | .cell a => a.block < M
 | .obj r => r < M
 | _ => True
theorem lowE.mono {M N : Nat} {e : Event} (h : lowE M e) (hm : M ≤ N) : lowE N e := by
 unfold lowE at h ⊢
 split <;> simp_all <;> omega
theorem okRun.sound {P : Program} {A : Event → Prop} {α : Type} {s : Sem α} : ∀ {w : World} {K : Except Value α → World → Prop} (es : Array Event), okRun P A s w K →
  ∃ r w' es', s.runT P w es = (outcome w' r, es ++ es') ∧ (∀ e ∈ es', A e ∧ lowE w'.heap.size e) ∧ w.heap.size ≤ w'.heap.size ∧ K r w' := by
 have pair : ∀ {es' : Array Event} {x : Event} {M : Nat}, (∀ e ∈ es', A e ∧ lowE M e) → A x ∧ lowE M x → ∀ e ∈ #[x] ++ es', A e ∧ lowE M e := by
  intro es' x M h hx e he
  rcases Array.mem_append.1 he with h1 | h1
  ·simp at h1; subst h1; exact hx
  ·exact h e h1
 induction s with
 | pure a => exact fun es h => ⟨.ok a, _, #[], by simp [Sem.runT, outcome], by simp, Nat.le_refl _, h⟩
 | load m a k ih =>
  rintro w K es ⟨v, hv, ha, h⟩
  obtain ⟨r, w', es', hr, he, hz, hk⟩ := ih v (es.push ⟨.cell a, false, m == .atomic⟩) h
  refine ⟨r, w', #[⟨.cell a, false, m == .atomic⟩] ++ es', ?_, pair (x := ⟨.cell a, false, m == .atomic⟩) he ⟨ha, Nat.lt_of_lt_of_le (cell_lt hv) hz⟩, hz, hk⟩
  simp only [Sem.runT, hv]; rw [hr, push_app]
 | store m a v k ih =>
  rintro w K es ⟨h1, hv, hf, ha, h⟩
  obtain ⟨r, w', es', hr, he, hz, hk⟩ := ih (es.push ⟨.cell a, true, m == .atomic⟩) h
  have hz' : w.heap.size ≤ w'.heap.size := by simpa [World.setCell] using hz
  obtain ⟨x, hx⟩ := Option.isSome_iff_exists.1 hv
  refine ⟨r, w', #[⟨.cell a, true, m == .atomic⟩] ++ es', ?_, pair (x := ⟨.cell a, true, m == .atomic⟩) he ⟨ha, Nat.lt_of_lt_of_le (cell_lt hx) hz'⟩, hz', hk⟩
  cases v <;> first | (simp [isOne] at h1; done) | (simp only [Sem.runT, hx, hf, Bool.false_eq_true, if_false]; rw [hr, push_app])
 | new o k ih =>
  intro w K es h
  obtain ⟨r, w', es', hr, he, hz, hk⟩ := ih _ es h
  exact ⟨r, w', es', hr, he, by simp at hz; omega, hk⟩
 | shape r k ih => exact fun es h => ih _ es h
 | freeze a n k ih => exact fun es h => h.elim
 | frozen a k ih => exact fun es h => ih _ es h
 | getObj r k ih =>
  rintro w K es ⟨o, ho, hc, ha, h⟩
  obtain ⟨x, w', es', hr, he, hz, hk⟩ := ih o (es.push ⟨.obj r, false, o.isChan⟩) h
  refine ⟨x, w', #[⟨.obj r, false, o.isChan⟩] ++ es', ?_, pair (x := ⟨.obj r, false, o.isChan⟩) he ⟨ha, Nat.lt_of_lt_of_le (Array.getElem?_eq_some_iff.1 ho).1 hz⟩, hz, hk⟩
  cases o <;> first | (simp [isCells] at hc; done) | (simp only [Sem.runT, ho]; rw [hr, push_app])
 | setObj r o k ih =>
  rintro w K es ⟨⟨o0, ho, hc⟩, ha, h⟩
  obtain ⟨x, w', es', hr, he, hz, hk⟩ := ih (es.push ⟨.obj r, true, o.isChan⟩) h
  have hz' : w.heap.size ≤ w'.heap.size := by simpa using hz
  refine ⟨x, w', #[⟨.obj r, true, o.isChan⟩] ++ es', ?_, pair (x := ⟨.obj r, true, o.isChan⟩) he ⟨ha, Nat.lt_of_lt_of_le (Array.getElem?_eq_some_iff.1 ho).1 hz'⟩, hz', hk⟩
  cases o0 <;> first | (simp [isCells] at hc; done) | (simp only [Sem.runT, ho]; rw [hr, push_app])
 | choose q k ih =>
  intro w K es h
  simp only [okRun] at h
  simp only [Sem.runT]
  split at h
  ·rename_i hq; rw [if_pos hq]; exact ih _ es h
  ·rename_i hq; rw [if_neg hq]; exact ih _ es h
 | sys c k ih => exact fun es h => h.elim
 | program k ih => exact fun es h => ih _ es h
 | mark m k ih =>
  rintro w K es ⟨ha, h⟩
  obtain ⟨r, w', es', hr, he, hz, hk⟩ := ih (es.push ⟨.mark m, false, true⟩) h
  refine ⟨r, w', #[⟨.mark m, false, true⟩] ++ es', ?_, pair (x := ⟨.mark m, false, true⟩) he ⟨ha, trivial⟩, hz, hk⟩
  simp only [Sem.runT]; rw [hr, push_app]
 | halt h0 =>
  intro w K es h
  cases h0 <;> first | exact ⟨.error _, _, #[], by simp [Sem.runT, outcome], by simp, Nat.le_refl _, h⟩ | exact h.elim
theorem okRun.bind {P : Program} {A : Event → Prop} {α β : Type} {s : Sem α} {f : α → Sem β} : ∀ {w : World} {K : Except Value β → World → Prop},
  okRun P A s w (fun r w' => match r with | .ok a => okRun P A (f a) w' K | .error v => K (.error v) w') → okRun P A (s.bind f) w K := by
 induction s with
 | pure a => exact fun h => h
 | load m a k ih => rintro w K ⟨v, hv, ha, h⟩; exact ⟨v, hv, ha, ih v h⟩
 | store m a v k ih => rintro w K ⟨h1, hv, hf, ha, h⟩; exact ⟨h1, hv, hf, ha, ih h⟩
 | new o k ih => exact fun h => ih _ h
 | shape r k ih => exact fun h => ih _ h
 | freeze a n k ih => exact fun h => h.elim
 | frozen a k ih => exact fun h => ih _ h
 | getObj r k ih => rintro w K ⟨o, ho, hc, ha, h⟩; exact ⟨o, ho, hc, ha, ih o h⟩
 | setObj r o k ih => rintro w K ⟨ho, ha, h⟩; exact ⟨ho, ha, ih h⟩
 | choose q k ih =>
  intro w K h
  simp only [okRun, Sem.bind] at h ⊢
  split
  ·rename_i hq; rw [if_pos hq] at h; exact ih _ h
  ·rename_i hq; rw [if_neg hq] at h; exact ih _ h
 | sys c k ih => exact fun h => h.elim
 | program k ih => exact fun h => ih _ h
 | mark m k ih => rintro w K ⟨ha, h⟩; exact ⟨ha, ih h⟩
 | halt h0 => intro w K h; cases h0 <;> first | exact h | exact h.elim
def Run (P : Program) (S0 : Own) {α : Type} (s : Sem α) (S : Own) (K : Except Value α → Own → Prop) : Prop :=
 ∀ w0 w, S0.In w0 → Mid S0 w0 S w → okRun P (Ev S0 w0.heap.size) s w fun r w' => ∃ S', Mid S0 w0 S' w' ∧ K r S'
section
variable {P : Program} {S0 S : Own} {α β : Type} {K : Except Value α → Own → Prop}
theorem okRun.mono {P : Program} {A : Event → Prop} {α : Type} {s : Sem α} : ∀ {w : World} {K K' : Except Value α → World → Prop}, okRun P A s w K → (∀ r w', K r w' → K' r w') → okRun P A s w K' := by
 induction s with
 | pure a => exact fun h hk => hk _ _ h
 | load m a k ih => rintro w K K' ⟨v, hv, ha, h⟩ hk; exact ⟨v, hv, ha, ih v h hk⟩
 | store m a v k ih => rintro w K K' ⟨h1, hv, hf, ha, h⟩ hk; exact ⟨h1, hv, hf, ha, ih h hk⟩
 | new o k ih => exact fun h hk => ih _ h hk
 | shape r k ih => exact fun h hk => ih _ h hk
 | freeze a n k ih => exact fun h hk => h.elim
 | frozen a k ih => exact fun h hk => ih _ h hk
 | getObj r k ih => rintro w K K' ⟨o, ho, hc, ha, h⟩ hk; exact ⟨o, ho, hc, ha, ih o h hk⟩
 | setObj r o k ih => rintro w K K' ⟨ho, ha, h⟩ hk; exact ⟨ho, ha, ih h hk⟩
 | choose q k ih =>
  intro w K K' h hk
  simp only [okRun] at h ⊢
  split
  ·rename_i hq; rw [if_pos hq] at h; exact ih _ h hk
  ·rename_i hq; rw [if_neg hq] at h; exact ih _ h hk
 | sys c k ih => exact fun h hk => h.elim
 | program k ih => exact fun h hk => ih _ h hk
 | mark m k ih => rintro w K K' ⟨ha, h⟩ hk; exact ⟨ha, ih h hk⟩
 | halt h0 => intro w K K' h hk; cases h0 <;> first | exact hk _ _ h | exact h.elim
theorem Run.mono {s : Sem α} {K' : Except Value α → Own → Prop} (h : Run P S0 s S K) (hk : ∀ r S', K r S' → K' r S') : Run P S0 s S K' :=
 fun w0 w h0 hm => (h w0 w h0 hm).mono fun r _ ⟨S', m, k⟩ => ⟨S', m, hk r S' k⟩
theorem Run.bind {s : Sem α} {f : α → Sem β} {K : Except Value β → Own → Prop}
  (h : Run P S0 s S fun r S' => match r with | .ok a => Run P S0 (f a) S' K | .error v => K (.error v) S') : Run P S0 (s.bind f) S K :=
 fun w0 w h0 hm => okRun.bind ((h w0 w h0 hm).mono fun r w1 ⟨S', m, k⟩ => by
  cases r with
  | ok a => exact k w0 w1 h0 m
  | error v => exact ⟨S', m, k⟩)
theorem Run.pure {a : α} (h : K (.ok a) S) : Run P S0 (.pure a) S K := fun _ _ _ hm => ⟨S, hm, h⟩
theorem Run.panic {v : Value} (h : K (.error v) S) : Run P S0 (.halt (.panic v) : Sem α) S K := fun _ _ _ hm => ⟨S, hm, h⟩
theorem Run.program {k : Program → Sem α} (h : Run P S0 (k P) S K) : Run P S0 (.program k) S K := fun w0 w h0 hm => h w0 w h0 hm
theorem ev_read {w0 w : World} {S0 S : Own} {b : Nat} {o : Obj} (hm : Mid S0 w0 S w) (hg : S.get b = some o) :
  w0.heap.size ≤ b ∨ (S0.full b).isSome ∨ (S0.ro b).isSome := by
 unfold Own.get at hg
 cases hf : S.full b with
 | some x =>
  rcases hm.dom b (by simp [hf]) with h | h
  ·exact .inr (.inl h)
  ·exact .inl h
 | none =>
  rw [hf] at hg; simp at hg
  exact .inr (.inr (by rw [← hm.rod, hg]; rfl))
theorem Run.load {a : Addr} {k : Value → Sem α} {c : Array Value} {e : TypeId} {f : Nat × Nat} {v : Value}
  (hb : S.get a.block = some (.cells c e f)) (hs : a.spot = none) (hc : c[a.off]? = some v) (h : Run P S0 (k v) S K) : Run P S0 (.load .plain a k) S K :=
 fun w0 w h0 hm => ⟨v, by have := hm.inn.get hb; simp [World.cell?, this, hs, hc], by
  have := ev_read hm hb
  refine ⟨rfl, ?_⟩
  rcases this with h | h | h
  ·exact .inl h
  ·exact .inr (.inl h)
  ·exact .inr (.inr ⟨rfl, h⟩), h w0 w h0 hm⟩
theorem Mid.setL {w0 w w' : World} {S0 S : Own} {b : Nat} {o o' : Obj} (hm : Mid S0 w0 S w) (hb : (S.full b).isSome) (hso : Same o o') (hsz : w'.heap.size = w.heap.size)
  (hw : ∀ x, w'.heap[x]? = if x = b then some o' else w.heap[x]?) (ht : w'.tape = w.tape) (ho : w'.os = w.os) (hu : w'.output = w.output) : Mid S0 w0 (S.set b o) w' where
 inn := {
  lay := fun x ob hx => by
   simp only [Own.set_full] at hx
   split at hx
   ·rename_i e
    simp only [Option.some.injEq] at hx; subst hx
    exact ⟨o', by rw [hw, if_pos e], hso⟩
   ·rename_i e
    exact (hm.inn.lay x ob hx).of (by rw [hw, if_neg e])
  layro := fun x ob hx => by
   have hx' : S.ro x = some ob := hx
   by_cases e : x = b
   ·subst e; have := hm.inn.disj x hb; rw [this] at hx'; simp at hx'
   ·exact (hm.inn.layro x ob hx').of (by rw [hw, if_neg e])
  disj := fun x hx => by
   simp only [Own.set_full] at hx
   show S.ro x = none
   split at hx
   ·rename_i e; subst e; exact hm.inn.disj x hb
   ·exact hm.inn.disj x hx }
 size := by rw [hsz]; exact hm.size
 kept x hx hn := by
  rw [hw]
  by_cases e : x = b
  ·subst e
   rcases hm.dom x hb with h | h
   ·simp [hn] at h
   ·omega
  ·rw [if_neg e]; exact hm.kept x hx hn
 dom x hx := by
  simp only [Own.set_full] at hx
  split at hx
  ·rename_i e; subst e; exact hm.dom x hb
  ·exact hm.dom x hx
 rod := hm.rod
 ghd := hm.ghd
 qz hq := hsz.trans (hm.qz hq)
 tape := ht.trans hm.tape
 os := ho.trans hm.os
 output := hu.trans hm.output
theorem Mid.set {w0 w w' : World} {S0 S : Own} {b : Nat} {o : Obj} (hm : Mid S0 w0 S w) (hb : (S.full b).isSome) (hsz : w'.heap.size = w.heap.size)
  (hw : ∀ x, w'.heap[x]? = if x = b then some o else w.heap[x]?) (ht : w'.tape = w.tape) (ho : w'.os = w.os) (hu : w'.output = w.output) (hmo : mapish o = false := by rfl) : Mid S0 w0 (S.set b o) w' := hm.setL hb (same_self hmo) hsz hw ht ho hu
theorem Run.store {a : Addr} {k : Sem α} {c : Array Value} {e : TypeId} {f : Nat × Nat} {v : Value}
  (hb : S.full a.block = some (.cells c e f)) (hs : a.spot = none) (hc : a.off < c.size) (hf : (f.1 ≤ a.off && a.off < f.2) = false) (h1 : isOne v = true)
  (h : Run P S0 k (S.set a.block (.cells (c.setIfInBounds a.off v) e f)) K) : Run P S0 (.store .plain a v k) S K :=
 fun w0 w h0 hm => by
  have hw := hm.inn.full _ _ hb
  refine ⟨h1, by simp [World.cell?, hw, hs, hc], by obtain ⟨lo, hi⟩ := f; simpa [World.frozen?, hw] using hf, ⟨rfl, ?_⟩, ?_⟩
  ·rcases hm.dom a.block (by simp [hb]) with h | h
   ·exact .inr (.inl h)
   ·exact .inl h
  ·refine h w0 _ h0 (hm.set (by simp [hb]) (by simp [World.setCell]) ?_ rfl rfl rfl)
   intro x
   simp only [World.setCell, Array.getElem?_modify]
   by_cases e : a.block = x
   ·subst e; simp [hw, hs]
   ·simp only [if_neg e, if_neg (Ne.symm e)]
theorem Run.newL [hq : Loud S0] {o o' : Obj} {k : Nat → Sem α} (hso : Same o o') (h : ∀ r, S.full r = none → S.ro r = none → Run P S0 (k r) (S.set r o) K) : Run P S0 (.new o' k) S K :=
 fun w0 w h0 hm => by
  have hfr : S.full w.heap.size = none := by
   cases hf : S.full w.heap.size with
   | none => rfl
   | some x => have := hm.inn.lt (b := w.heap.size) (by simp [hf]); omega
  have hrr : S.ro w.heap.size = none := by
   cases hf : S.ro w.heap.size with
   | none => rfl
   | some x => have := hm.inn.lt_ro (b := w.heap.size) (by simp [hf]); omega
  refine h w.heap.size hfr hrr w0 _ h0 ?_
  exact {
   inn := {
    lay := fun x ob hx => by
     simp only [Own.set_full] at hx
     split at hx
     ·rename_i e; subst e
      simp only [Option.some.injEq] at hx; subst hx
      exact ⟨o', by simp, hso⟩
     ·have h1 := hm.inn.lay x ob hx
      have hlt := h1.lt
      exact h1.of (by simp only [Array.getElem?_push]; rw [if_neg (by omega)])
    layro := fun x ob hx => by
     have h1 := hm.inn.layro x ob hx
     have hlt := h1.lt
     exact h1.of (by simp only [Array.getElem?_push]; rw [if_neg (by omega)])
    disj := fun x hx => by
     simp only [Own.set_full] at hx
     show S.ro x = none
     split at hx
     ·rename_i e; subst e; exact hrr
     ·exact hm.inn.disj x hx }
   size := by simp; have := hm.size; omega
   kept := fun x hx hn => by
    have := hm.size
    simp only [Array.getElem?_push]; rw [if_neg (by omega)]; exact hm.kept x hx hn
   dom := fun x hx => by
    simp only [Own.set_full] at hx
    split at hx
    ·rename_i e; subst e; exact .inr hm.size
    ·exact hm.dom x hx
   rod := hm.rod
   ghd := hm.ghd
   qz h := by rw [hq.q] at h; cases h
   tape := hm.tape
   os := hm.os
   output := hm.output }
theorem Run.new [hq : Loud S0] {o : Obj} {k : Nat → Sem α} (h : ∀ r, S.full r = none → S.ro r = none → Run P S0 (k r) (S.set r o) K) (hmo : mapish o = false := by rfl) : Run P S0 (.new o k) S K := Run.newL (same_self hmo) h
theorem Mid.drew {w0 w : World} {S0 S : Own} (hm : Mid S0 w0 S w) (n : Nat) : Mid S0 w0 S { w with drawn := n } :=
 ⟨⟨hm.inn.lay, hm.inn.layro, hm.inn.disj⟩, hm.size, hm.kept, hm.dom, hm.rod, hm.ghd, hm.qz, hm.tape, hm.os, hm.output⟩
theorem Run.choose {q : Question} {k : Nat → Sem α} (h : ∀ n, (q.forced = true → n = 0) → (q.forced = false → ∃ t, n = q.cut t) → Run P S0 (k n) S K) : Run P S0 (.choose q k) S K :=
 fun w0 w h0 hm => by
  simp only [okRun]
  split
  ·rename_i hq; exact h 0 (fun _ => rfl) (fun hf => by rw [hf] at hq; cases hq) w0 w h0 hm
  ·rename_i hq; exact h _ (fun hf => absurd hf hq) (fun _ => ⟨_, rfl⟩) w0 _ h0 (hm.drew _)
theorem Run.shape {r : Nat} {k : Option (TypeId × Nat) → Sem α} {c : Array Value} {e : TypeId} {f : Nat × Nat} (hb : S.get r = some (.cells c e f))
  (h : Run P S0 (k (some (e, c.size))) S K) : Run P S0 (.shape r k) S K :=
 fun w0 w h0 hm => by have := hm.inn.get hb; simp only [okRun, World.shape?, this]; exact h w0 w h0 hm
theorem Run.frozen {a : Addr} {k : Bool → Sem α} {c : Array Value} {e : TypeId} {lo hi : Nat} (hb : S.get a.block = some (.cells c e (lo, hi)))
  (h : Run P S0 (k (lo ≤ a.off && a.off < hi)) S K) : Run P S0 (.frozen a k) S K :=
 fun w0 w h0 hm => by have := hm.inn.get hb; simp only [okRun, World.frozen?, this]; exact h w0 w h0 hm
theorem Run.getObj {r : Nat} {k : Obj → Sem α} {o : Obj} (hb : S.get r = some o) (ho : isCells o = false) (hch : o.isChan = false)
  (h : Run P S0 (k o) S K) (hmo : mapish o = false := by rfl) : Run P S0 (.getObj r k) S K :=
 fun w0 w h0 hm => ⟨o, hm.inn.get hb hmo, ho, by
  have := ev_read hm hb
  refine ⟨hch, ?_⟩
  rcases this with h | h | h
  ·exact .inl h
  ·exact .inr (.inl h)
  ·exact .inr (.inr ⟨rfl, h⟩), h w0 w h0 hm⟩
theorem Run.getMap {r : Nat} {k : Obj → Sem α} {es : Array MapEntry} (hb : S.get r = some (.map es 0))
  (h : ∀ es' c, (es'.toList.map kv).Perm (es.toList.map kv) → Stamps es'.toList c → Run P S0 (k (.map es' c)) S K) : Run P S0 (.getObj r k) S K :=
 fun w0 w h0 hm => by
  obtain ⟨o', h1, es', c, rfl, h2, h3⟩ := hm.inn.getL hb
  refine ⟨_, h1, rfl, ⟨rfl, ?_⟩, h es' c h2 h3 w0 w h0 hm⟩
  rcases ev_read hm hb with h | h | h
  ·exact .inl h
  ·exact .inr (.inl h)
  ·exact .inr (.inr ⟨rfl, h⟩)
theorem stamps_nil {es : List MapEntry} (h : Stamps es 0) : es = [] := by
 cases es with
 | nil => rfl
 | cons e l => exact absurd (h.2 e List.mem_cons_self) (Nat.not_lt_zero _)
theorem same_abs {es es' : Array MapEntry} {c : Nat} (hp : (es'.toList.map kv).Perm (es.toList.map kv)) (h : Stamps es'.toList c) : Same (.map es 0) (.map es' c) := ⟨es', c, rfl, hp, h⟩
theorem Run.getPin {r : Nat} {k : Obj → Sem α} {es : Array MapEntry} {c : Nat} (hb : S.get r = some (.map es c)) (hs : Stamps es.toList c)
  (h : ∀ c', (es = #[] ∨ c' = c) → Run P S0 (k (.map es c')) S K) : Run P S0 (.getObj r k) S K := by
 cases c with
 | zero =>
  have e : es = #[] := by have := stamps_nil hs; exact Array.ext' this
  subst e
  refine Run.getMap hb fun es' c' hp _ => ?_
  have e' : es' = #[] := Array.ext' (by simpa using hp)
  subst e'
  exact h c' (.inl rfl)
 | succ c => exact Run.getObj hb rfl rfl (h _ (.inr rfl)) rfl
theorem Run.setObjL {r : Nat} {k : Sem α} {o o' o0 : Obj} (hb : S.full r = some o0) (h0c : isCells o0 = false) (hch : o'.isChan = false) (hso : Same o o')
  (h : Run P S0 k (S.set r o) K) : Run P S0 (.setObj r o' k) S K :=
 fun w0 w h0 hm => by
  obtain ⟨ob, hw, hsb⟩ := hm.inn.lay _ _ hb
  refine ⟨⟨ob, hw, by rw [(same_cells hsb).1]; exact h0c⟩, ⟨hch, ?_⟩, ?_⟩
  ·rcases hm.dom r (by simp [hb]) with h | h
   ·exact .inr (.inl h)
   ·exact .inl h
  ·refine h w0 _ h0 (hm.setL (by simp [hb]) hso (by simp) ?_ rfl rfl rfl)
   intro x
   have hlt := (Array.getElem?_eq_some_iff.1 hw).1
   simp only [Array.getElem?_setIfInBounds]
   by_cases e : r = x
   ·subst e; simp [hlt]
   ·simp only [if_neg e, if_neg (Ne.symm e)]
theorem Run.setObj {r : Nat} {k : Sem α} {o o0 : Obj} (hb : S.full r = some o0) (h0c : isCells o0 = false) (hch : o.isChan = false)
  (h : Run P S0 k (S.set r o) K) (hmo : mapish o = false := by rfl) : Run P S0 (.setObj r o k) S K := Run.setObjL hb h0c hch (same_self hmo) h
theorem Run.noRoom {k : Sem α} (h : Run P S0 k S K) : Run P S0 (.mark .noRoom k) S K := fun w0 w h0 hm => ⟨trivial, h w0 w h0 hm⟩
def Reads (P : Program) (S : Own) {α : Type} (s : Sem α) (v : α) : Prop := ∀ w, S.In w → okRun P (Ev S w.heap.size) s w fun r w' => r = .ok v ∧ w' = w
theorem Reads.pure {v : α} : Reads P S (.pure v) v := fun _ _ => ⟨rfl, rfl⟩
theorem Reads.bind {s : Sem α} {f : α → Sem β} {x : α} {v : β} (h : Reads P S s x) (h' : Reads P S (f x) v) : Reads P S (s.bind f) v :=
 fun w hw => okRun.bind ((h w hw).mono fun r w' ⟨hr, hw'⟩ => by subst hr; subst hw'; exact h' _ hw)
theorem Reads.load {a : Addr} {k : Value → Sem α} {c : Array Value} {e : TypeId} {f : Nat × Nat} {x : Value} {v : α}
  (hb : S.get a.block = some (.cells c e f)) (hs : a.spot = none) (hc : c[a.off]? = some x) (h : Reads P S (k x) v) : Reads P S (.load .plain a k) v :=
 fun w hw => ⟨x, by have := hw.get hb; simp [World.cell?, this, hs, hc], by
  have := ev_read (Mid.refl hw) hb
  refine ⟨rfl, ?_⟩
  rcases this with h | h | h
  ·exact .inl h
  ·exact .inr (.inl h)
  ·exact .inr (.inr ⟨rfl, h⟩), h w hw⟩
end
open Go
def G (f : Frame) (cs : List Frame) : Goroutine := { frame := f, callers := cs, status := .running, dying := none }
class Strict where
 on : Bool
instance : Strict := ⟨false⟩
structure Co where
 m : Bool
 rel : Goroutine → Own → (Goroutine → Own → Prop) → Prop
 [strict : Strict]
def Hs (main : Co) (g : Goroutine) : Prop := g.status = .running ∧ (main.strict.on = true → g = G g.frame g.callers)
inductive Goes (P : Program) (main : Co) (Stop : Goroutine → Own → Prop) : Goroutine → Own → Prop
 | stop {g : Goroutine} {S : Own} : Stop g S → Goes P main Stop g S
 | step {g : Goroutine} {S : Own} (g' : World → Goroutine) (w' : World → World) (es : World → Array Event) (S' : World → Own) :
   Hs main g →
   (∀ w, S.In w → stepG P main.m g w = .go (g' w) (w' w) (es w) ∧ Mid S w (S' w) (w' w) ∧ ∀ e ∈ es w, Ev S w.heap.size e ∧ lowE (w' w).heap.size e) →
   (∀ w, S.In w → Goes P main Stop (g' w) (S' w)) → Goes P main Stop g S
 | big {g : Goroutine} {S : Own} (Q : Goroutine → Own → Prop) : main.rel g S Q → (∀ g' S', Q g' S' → Goes P main Stop g' S') → Goes P main Stop g S
section
variable {P : Program} {main : Co} {Stop : Goroutine → Own → Prop}
theorem Goes.one {g : Goroutine} {S : Own} (hs : Hs main g)
  (h : ∀ w, S.In w → ∃ g' w' es S', stepG P main.m g w = .go g' w' es ∧ Mid S w S' w' ∧ (∀ e ∈ es, Ev S w.heap.size e ∧ lowE w'.heap.size e) ∧ Goes P main Stop g' S') : Goes P main Stop g S := by
 classical
 refine .step (fun w => if hw : S.In w then (h w hw).choose else g) (fun w => if hw : S.In w then (h w hw).choose_spec.choose else w)
  (fun w => if hw : S.In w then (h w hw).choose_spec.choose_spec.choose else #[]) (fun w => if hw : S.In w then (h w hw).choose_spec.choose_spec.choose_spec.choose else S) hs ?_ ?_
 ·intro w hw
  simp only [dif_pos hw]
  have := (h w hw).choose_spec.choose_spec.choose_spec.choose_spec
  exact ⟨this.1, this.2.1, this.2.2.1⟩
 ·intro w hw
  simp only [dif_pos hw]
  exact (h w hw).choose_spec.choose_spec.choose_spec.choose_spec.2.2.2
theorem Goes.move {g g' : Goroutine} {S : Own} (hs : Hs main g) (h : ∀ w, stepG P main.m g w = .go g' w) (hg : Goes P main Stop g' S) : Goes P main Stop g S :=
 .one hs fun w hw => ⟨g', w, #[], S, h w, .refl hw, by simp, hg⟩
end
structure St where
 tmps : Array Value
 defers : List Deferred
 cm : Option FrameMode := none
def St.eval (a : St) : Operand → Value
 | .tmp t => a.tmps.getD t undef
 | .const v => v
 | .global g => .pointer (some ⟨g, 0, none⟩)
 | .func f => .func (.func f) #[] #[]
def St.put (a : St) (dst : Option Tmp) (v : Value) : St :=
 match dst with
 | some d => { a with tmps := a.tmps.setIfInBounds d v }
 | none => a
@[simp] theorem St.put_cm (a : St) (dst : Option Tmp) (v : Value) : (a.put dst v).cm = a.cm := by cases dst <;> rfl
@[simp] theorem St.put_defers (a : St) (dst : Option Tmp) (v : Value) : (a.put dst v).defers = a.defers := by cases dst <;> rfl
structure Ctx where
 round : Option Nat := none
 dfr : Bool := false
 fn : Option FuncId := none
def cl (r : Ctx) (cs : List Frame) (m : Option FrameMode) : List Frame :=
 if r.dfr then match m, cs with
  | some m, x :: cs => { x with mode := m } :: cs
  | _, _ => cs
 else cs
def fr (b : Frame) (a : St) (k : List Item) : Frame := { b with tmps := a.tmps, defers := a.defers, todo := k, mode := .run }
theorem eval_fr (b : Frame) (a : St) (k : List Item) (x : Operand) : (fr b a k).eval x = a.eval x := by cases x <;> rfl
theorem eval_fr' (b : Frame) (a : St) (k : List Item) : (fr b a k).eval = a.eval := funext (eval_fr b a k)
section moves
variable {P : Program} {main : Bool} {b : Frame} {a : St} {k : List Item} {cs : List Frame} {w : World}
theorem stepG_skip : stepG P main (G (fr b a (.code .skip :: k)) cs) w = .go (G (fr b a k) cs) w := by simp [G, stepG, stepG.exec, fr]
theorem stepG_label {l : Nat} : stepG P main (G (fr b a (.code (.label l) :: k)) cs) w = .go (G (fr b a k) cs) w := by simp [G, stepG, stepG.exec, fr]
theorem stepG_inBlock {id : Nat} : stepG P main (G (fr b a (.inBlock id :: k)) cs) w = .go (G (fr b a k) cs) w := by simp [G, stepG, stepG.exec, fr]
theorem stepG_inScope {c : Code} : stepG P main (G (fr b a (.inScope c :: k)) cs) w = .go (G (fr b a k) cs) w := by simp [G, stepG, stepG.exec, fr]
theorem stepG_seq {x y : Code} : stepG P main (G (fr b a (.code (.seq x y) :: k)) cs) w = .go (G (fr b a (.code x :: .code y :: k)) cs) w := by simp [G, stepG, stepG.exec, fr]
theorem stepG_cond {c : Operand} {x y : Code} {t : Bool} (h : a.eval c = .bool t) :
  stepG P main (G (fr b a (.code (.cond c x y) :: k)) cs) w = .go (G (fr b a (.code (if t then x else y) :: k)) cs) w := by
 have h' : (fr b a (.code (.cond c x y) :: k)).eval c = .bool t := by rw [eval_fr]; exact h
 simp only [fr] at h'
 simp [G, stepG, stepG.exec, fr, h']
theorem stepG_block {id : Nat} {c : Code} : stepG P main (G (fr b a (.code (.block id c) :: k)) cs) w = .go (G (fr b a (.code c :: .inBlock id :: k)) cs) w := by simp [G, stepG, stepG.exec, fr]
theorem stepG_loop {c : Code} : stepG P main (G (fr b a (.code (.loop c) :: k)) cs) w = .go (G (fr b a (.code c :: .inLoop c :: k)) cs) w := by simp [G, stepG, stepG.exec, fr]
theorem stepG_inLoop {c : Code} : stepG P main (G (fr b a (.inLoop c :: k)) cs) w = .go (G (fr b a (.code c :: .inLoop c :: k)) cs) w := by simp [G, stepG, stepG.exec, fr]
theorem stepG_scope {c : Code} : stepG P main (G (fr b a (.code (.scope c) :: k)) cs) w = .go (G (fr b a (.code c :: .inScope c :: k)) cs) w := by simp [G, stepG, stepG.exec, fr]
theorem stepG_exit {id : Nat} {k' : List Item} (h : exitTo id k = some k') : stepG P main (G (fr b a (.code (.exit id) :: k)) cs) w = .go (G (fr b a k') cs) w := by simp [G, stepG, stepG.exec, fr, h]
theorem stepG_goto {l : Nat} {k' : List Item} (h : gotoIn l k = some k') : stepG P main (G (fr b a (.code (.goto l) :: k)) cs) w = .go (G (fr b a k') cs) w := by simp [G, stepG, stepG.exec, fr, h]
theorem stepG_region {id : Nat} {ops : Array Oper} : stepG P main (G (fr b a (.code (.region id ops false) :: k)) cs) w = .go (G (fr b a (.inRegion ops (List.range ops.size) :: k)) cs) w := by simp [G, stepG, stepG.exec, fr]
theorem stepG_region_draw {id : Nat} {ops : Array Oper} : stepG P main (G (fr b a (.code (.region id ops true) :: k)) cs) w =
  .go (G (fr b a (.inRegion ops (Region.schedule (P.follows .mixedOrders) ops (w.tape w.drawn (.order b.fn id))) :: k)) cs) { w with drawn := w.drawn + 1 } := by
 simp [G, stepG, stepG.exec, fr, choose, Sem.run, Question.forced, Question.cut]
theorem stepG_region_end {ops : Array Oper} : stepG P main (G (fr b a (.inRegion ops [] :: k)) cs) w = .go (G (fr b a k) cs) w := by simp [G, stepG, stepG.exec, fr]
theorem stepG_ret (h : b.roundOf = none) : stepG P main (G (fr b a (.code .ret :: k)) cs) w = .go (G { fr b a (.code .ret :: k) with mode := .returning } cs) w := by
 simp [G, stepG, stepG.exec, fr, h]
theorem stepG_end (h : b.roundOf = none) : stepG P main (G (fr b a []) cs) w = .go (G { fr b a [] with mode := .returning } cs) w := by
 simp [G, stepG, stepG.exec, fr, h]
theorem finish_fr (b : Frame) (a : St) (ops : Array Oper) (i : Nat) (rest : List Nat) (k : List Item) (v : Value) :
  (fr b a (.inRegion ops (i :: rest) :: k)).finish v = fr b (a.put ((ops[i]?).bind (·.dst)) v) (.inRegion ops rest :: k) := by
 cases h : (ops[i]?).bind (·.dst) <;> simp [Frame.finish, fr, St.put, h]
theorem stepG_unwanted {ops : Array Oper} {i : Nat} {rest : List Nat} {o : Oper} (ho : ops[i]? = some o) (hw : Region.wanted o (yielded ops a.tmps) = false) :
  stepG P main (G (fr b a (.inRegion ops (i :: rest) :: k)) cs) w = .go (G (fr b (a.put o.dst undef) (.inRegion ops rest :: k)) cs) w := by
 have := finish_fr b a ops i rest k undef
 rw [ho] at this
 simp only [Option.bind_some] at this
 rw [← this]
 simp [G, stepG, stepG.exec, fr, ho, hw]
def plainOp (r : Option Nat) (o : Oper) : Bool := r.isNone || !(match o.op with | .defer _ => true | _ => false)
theorem stepG_oper {ops : Array Oper} {i : Nat} {rest : List Nat} {o : Oper} (ho : ops[i]? = some o) (hw : Region.wanted o (yielded ops a.tmps) = true) (hp : plainOp b.roundOf o = true) :
  stepG P main (G (fr b a (.inRegion ops (i :: rest) :: k)) cs) w = stepG.apply P true (fr b a (.inRegion ops (i :: rest) :: k)) cs none (execOp a.eval o) w := by
 have he := eval_fr' b a (.inRegion ops (i :: rest) :: k)
 have h1 : stepG P main (G (fr b a (.inRegion ops (i :: rest) :: k)) cs) w = stepG.oper P true (fr b a (.inRegion ops (i :: rest) :: k)) cs none w := by
  simp [G, stepG, stepG.exec, fr, ho, hw]
 rw [h1]
 have h2 : (fr b a (.inRegion ops (i :: rest) :: k)).oper? = some o := by simp [Frame.oper?, fr, ho]
 have h3 : (fr b a (.inRegion ops (i :: rest) :: k)).roundOf = b.roundOf := rfl
 simp only [stepG.oper, h2, h3, he]
 unfold plainOp at hp
 cases hr : b.roundOf with
 | none => rfl
 | some l =>
  rw [hr] at hp
  cases hop : o.op <;> simp [hop] at hp ⊢
end moves
open Go
inductive Ex where
 | normal
 | exit (id : Nat)
 | goto (l : Nat)
 | ret
 | panic (chain : List PanicEntry)
def Leads : Option Code → List Item → Prop
 | none, todo => todo = []
 | some (.exit id), todo => ∃ k, todo = .code (.exit id) :: k ∧ exitTo id k = none
 | some (.goto l), todo => ∃ k, todo = .code (.goto l) :: k ∧ gotoIn l k = none
 | some .ret, todo => ∃ k, todo = .code .ret :: k
 | _, _ => False
def Fits (r : Ctx) (b : Frame) (cs : List Frame) : Prop := b.roundOf = r.round ∧ (r.dfr = true → r.round = none ∧ b.kind = .deferred ∧ cs ≠ []) ∧ ∀ f, r.fn = some f → b.fn = f
section
variable (P : Program) (main : Co) (r : Ctx) (Stop : Goroutine → Own → Prop) (b : Frame) (k : List Item) (cs : List Frame)
def Out (jump : Option Code) (a : St) (S : Own) : Prop := ∀ todo, Leads jump todo → Goes P main Stop (G (fr b a todo) (cl r cs a.cm)) S
def After : Ex → St → Own → Prop
 | .normal, a, S => Goes P main Stop (G (fr b a k) (cl r cs a.cm)) S
 | .exit id, a, S => match exitTo id k with
  | some k' => Goes P main Stop (G (fr b a k') (cl r cs a.cm)) S
  | none => Out P main r Stop b cs (some (.exit id)) a S
 | .goto l, a, S => match gotoIn l k with
  | some k' => Goes P main Stop (G (fr b a k') (cl r cs a.cm)) S
  | none => Out P main r Stop b cs (some (.goto l)) a S
 | .ret, a, S => Out P main r Stop b cs (some .ret) a S
 | .panic ch, a, S => ∀ todo, Goes P main Stop (G { fr b a todo with mode := .panicking ch } (cl r cs a.cm)) S
end
def wp (P : Program) (main : Co) (r : Ctx) (c : Code) (Q : Ex → St → Own → Prop) (a : St) (S : Own) : Prop :=
 ∀ Stop b k cs, Fits r b cs → (∀ e a' S', Q e a' S' → After P main r Stop b k cs e a' S') → Goes P main Stop (G (fr b a (.code c :: k)) (cl r cs a.cm)) S
section rules
variable {P : Program} {main : Co} {r : Ctx} {Q : Ex → St → Own → Prop} {a : St} {S : Own}
theorem wp_ret (h : Q .ret a S) : wp P main r .ret Q a S := fun _ _ k _ _ hc => hc _ _ _ h _ ⟨k, rfl⟩
theorem wp_exit {id : Nat} (h : Q (.exit id) a S) : wp P main r (.exit id) Q a S := fun Stop b k cs _ hc => by
 have := hc _ _ _ h
 simp only [After] at this
 cases hk : exitTo id k with
 | some k' => rw [hk] at this; exact .move ⟨rfl, fun _ => rfl⟩ (fun _ => stepG_exit hk) this
 | none => rw [hk] at this; exact this _ ⟨k, rfl, hk⟩
theorem wp_goto {l : Nat} (h : Q (.goto l) a S) : wp P main r (.goto l) Q a S := fun Stop b k cs _ hc => by
 have := hc _ _ _ h
 simp only [After] at this
 cases hk : gotoIn l k with
 | some k' => rw [hk] at this; exact .move ⟨rfl, fun _ => rfl⟩ (fun _ => stepG_goto hk) this
 | none => rw [hk] at this; exact this _ ⟨k, rfl, hk⟩
end rules
inductive End where
 | returned (v : Value)
 | panicked (chain : List PanicEntry)
def Leaves (P : Program) (f : FuncId) (kind : CallKind) (e : End) (x : Frame) (S : Own) : Prop :=
 x.fn = f ∧ x.kind = kind ∧ x.defers = [] ∧ ∃ fn, P.funcs[f]? = some fn ∧ match e with
  | .returned v => x.mode = .returning ∧ Reads P S (results fn x.tmps) v
  | .panicked ch => x.mode = .panicking ch
def Calls (P : Program) (main : Co) (f : FuncId) (args : Array Value) (S : Own) (Post : End → Own → Prop) : Prop :=
 ∀ Stop kind cs, kind ≠ .early → (∀ x e S', Post e S' → Leaves P f kind e x S' → Goes P main Stop (G x cs) S') → Goes P main Stop (G (Frame.enter P f args kind) cs) S
theorem Calls.mono {P : Program} {main : Co} {f : FuncId} {args : Array Value} {S : Own} {Post Post' : End → Own → Prop} (h : Calls P main f args S Post) (hp : ∀ e S', Post e S' → Post' e S') : Calls P main f args S Post' :=
 fun Stop kind cs hne hk => h Stop kind cs hne fun x e S' p l => hk x e S' (hp e S' p) l
def recovers : FrameMode → Value × FrameMode
 | .panicking ({ v, recovered := false, goexit := false } :: older) => (v, .panicking ({ v, recovered := true } :: older))
 | m => (.nilIface, m)
def takesUp : FrameMode → Bool
 | .panicking ({ recovered := false, goexit := false, .. } :: _) => true
 | _ => false
theorem recovers_not {m : FrameMode} (h : takesUp m = false) : recovers m = (.nilIface, m) := by
 cases m with
 | panicking ch => cases ch with
  | nil => rfl
  | cons p older => obtain ⟨v, rec, ge⟩ := p; cases rec <;> cases ge <;> first | rfl | (simp [takesUp] at h)
 | _ => rfl
theorem tryRecover_cons {f : Frame} (hk : f.kind = .deferred) (x : Frame) (cs : List Frame) (m : FrameMode) :
  tryRecover f ({ x with mode := m } :: cs) = if takesUp m then some ((recovers m).1, { x with mode := (recovers m).2 } :: cs) else none := by
 unfold tryRecover
 rw [hk]
 cases m with
 | panicking ch => cases ch with
  | nil => rfl
  | cons p older => obtain ⟨v, rec, ge⟩ := p; cases rec <;> cases ge <;> rfl
 | _ => rfl
def Upon (P : Program) (main : Co) (r : Ctx) (o : Oper) (a : St) (next : St → Own → Prop) (Q : Ex → St → Own → Prop) : Except Value Next → Own → Prop
 | .ok (.value v), S => next (a.put o.dst v) S
 | .ok .skip, S => next (a.put o.dst undef) S
 | .ok (.enter f args), S => Calls P main f args S fun e S' => match e with
  | .returned v => next (a.put o.dst v) S'
  | .panicked ch => Q (.panic ch) a S'
 | .ok (.defer d), S => next ({ a with defers := d :: a.defers }.put o.dst undef) S
 | .ok .recover, S => r.dfr = true ∧ ∃ m, a.cm = some m ∧ next ({ a with cm := some (recovers m).2 }.put o.dst (recovers m).1) S
 | .error v, S => Q (.panic [{ v, recovered := false }]) a S
 | _, _ => False
theorem mem_seen {P : Program} {fn : FuncId} {es : Array Event} {e : Event} (h : e ∈ seen P fn es) : e ∈ es := by
 dsimp only [seen] at h
 have key : ∀ (l : List Event) (q : Bool) (kept : Array Event), e ∈ (l.foldl (fun (x : Bool × Array Event) e => match x with
   | (q, kept) => match e.loc with
    | .mark (.extern f) => ((P.funcs[f]?).any (·.norace), kept)
    | _ => (q, if q && !e.sync then kept else kept.push e)) (q, kept)).2 → e ∈ kept ∨ e ∈ l := by
  intro l
  induction l with
  | nil => intro q kept h; exact .inl h
  | cons x l ih =>
   intro q kept h
   rw [List.foldl_cons] at h
   simp only at h
   split at h
   ·rcases ih _ _ h with h | h
    ·exact .inl h
    ·exact .inr (List.mem_cons_of_mem _ h)
   ·rcases ih _ _ h with h | h
    ·split at h
     ·exact .inl h
     ·rcases Array.mem_push.1 h with h | h
      ·exact .inl h
      ·exact .inr (by rw [h]; exact List.mem_cons_self)
    ·exact .inr (List.mem_cons_of_mem _ h)
 rw [← Array.foldl_toList] at h
 rcases key es.toList _ _ h with h | h
 ·simp at h
 ·exact Array.mem_toList_iff.1 h
theorem raise_fr (b : Frame) (a : St) (k : List Item) (ch : List PanicEntry) : (fr b a k).raise ch = { fr b a k with mode := .panicking ch } := rfl
section
variable {P : Program} {main : Co} {r : Ctx} {Q : Ex → St → Own → Prop} {a : St} {S : Own}
theorem op_step {next : St → Own → Prop} {Stop : Goroutine → Own → Prop} {b : Frame} {k : List Item} {cs : List Frame} {ops : Array Oper} {i : Nat} {rest : List Nat} {o : Oper} (ho : ops[i]? = some o)
  (hw : Region.wanted o (yielded ops a.tmps) = true) (hp : plainOp r.round o = true) (hb : Fits r b cs)
  (hnext : ∀ a' S', next a' S' → Goes P main Stop (G (fr b a' (.inRegion ops rest :: k)) (cl r cs a'.cm)) S')
  (hpanic : ∀ ch S', Q (.panic ch) a S' → ∀ todo, Goes P main Stop (G { fr b a todo with mode := .panicking ch } (cl r cs a.cm)) S')
  (h : Run P S (execOp a.eval o) S (Upon P main r o a next Q)) : Goes P main Stop (G (fr b a (.inRegion ops (i :: rest) :: k)) (cl r cs a.cm)) S := by
 refine .one ⟨rfl, fun _ => rfl⟩ fun w hS => ?_
 obtain ⟨x, w', es', hrun, hev, _, S', hm, hk⟩ := (h w w hS (.refl hS)).sound #[]
 rw [stepG_oper ho hw (by rw [hb.1]; exact hp)]
 have hrun1 : (execOp a.eval o).run P w = outcome w' x := by have := congrArg Prod.fst hrun; simpa using this
 have hrun2 : (execOp a.eval o).events P w #[] = es' := by have := congrArg Prod.snd hrun; simpa using this
 have hfin := fun v => finish_fr b a ops i rest k v
 have hevs : ∀ (c : Bool), ∀ e ∈ seen P b.fn (if c then #[] else es'), Ev S w.heap.size e ∧ lowE w'.heap.size e := by
  intro c e he
  have := mem_seen he
  cases c
  ·exact hev e this
  ·simp at this
 have hfn : (fr b a (.inRegion ops (i :: rest) :: k)).fn = b.fn := rfl
 have hkd : (fr b a (.inRegion ops (i :: rest) :: k)).kind = b.kind := rfl
 cases x with
 | error v =>
  refine ⟨_, w', seen P b.fn (if b.kind == .early then #[] else es'), S', ?_, hm, hevs _, hpanic _ _ hk (.inRegion ops (i :: rest) :: k)⟩
  simp [stepG.apply, hrun1, hrun2, outcome, GStep.after, G, raise_fr, hfn, hkd]
 | ok n =>
  cases n with
  | value v =>
   refine ⟨_, w', seen P b.fn (if b.kind == .early then #[] else es'), S', ?_, hm, hevs _, by have e := hnext _ _ hk; rw [St.put_cm] at e; exact e⟩
   simp [stepG.apply, hrun1, hrun2, outcome, GStep.after, G, hfin, ho, hfn, hkd]
  | skip =>
   refine ⟨_, w', seen P b.fn (if b.kind == .early then #[] else es'), S', ?_, hm, hevs _, by have e := hnext _ _ hk; rw [St.put_cm] at e; exact e⟩
   simp [stepG.apply, hrun1, hrun2, outcome, GStep.after, G, hfin, ho, hfn, hkd]
  | enter f args =>
   refine ⟨G (Frame.enter P f args .normal) (fr b a (.inRegion ops (i :: rest) :: k) :: cl r cs a.cm), w', seen P b.fn (if b.kind == .early then #[] else es'), S', ?_, hm, hevs _, ?_⟩
   ·have : (match (fr b a (.inRegion ops (i :: rest) :: k)).todo with | .call _ true _ _ :: _ => CallKind.wrapped | _ => .normal) = .normal := rfl
    simp [stepG.apply, hrun1, hrun2, outcome, GStep.after, G, hfn, hkd]
    exact congrArg (Frame.enter P f args) this
   ·refine hk Stop .normal _ (by decide) fun y e S2 hpost ⟨hyf, hyk, hyd, fn, hfn', hy⟩ => ?_
    cases e with
    | returned v =>
     obtain ⟨hym, hyr⟩ := hy
     refine .one ⟨rfl, fun _ => rfl⟩ fun w2 hS2 => ?_
     obtain ⟨z, w3, es3, hr3, hev3, _, rfl, rfl⟩ := (hyr w2 hS2).sound #[]
     have e1 : (results fn y.tmps).run P w3 = .ok v w3 := by have := congrArg Prod.fst hr3; simpa [outcome] using this
     have e2 : (results fn y.tmps).events P w3 #[] = es3 := by have := congrArg Prod.snd hr3; simpa using this
     refine ⟨_, w3, seen P f es3, S2, ?_, .refl hS2, fun e he => hev3 e (mem_seen he), by have e := hnext _ _ hpost; rw [St.put_cm] at e; exact e⟩
     have e3 := hfin v
     rw [ho] at e3
     simp only [Option.bind_some] at e3
     simp [stepG, G, hym, unwind, hyd, hyf, hfn', e1, e2, doReturn, hyk, GStep.after, e3]
    | panicked ch =>
     refine .one ⟨rfl, fun _ => rfl⟩ fun w2 hS2 => ⟨_, w2, #[], S2, ?_, .refl hS2, by simp, hpanic _ _ hpost (.inRegion ops (i :: rest) :: k)⟩
     have hcat : y.catches P = false := by simp [Frame.catches, hyf, hfn']
     simp [stepG, G, hy, unwind, hyd, hcat, raise_fr]
  | defer d =>
   refine ⟨_, w', seen P b.fn (if b.kind == .early then #[] else es'), S', ?_, hm, hevs _, by have e := hnext _ _ hk; rw [St.put_cm] at e; exact e⟩
   have e3 := finish_fr b { a with defers := d :: a.defers } ops i rest k undef
   rw [ho] at e3
   simp only [Option.bind_some] at e3
   rw [← e3]
   simp [stepG.apply, hrun1, hrun2, outcome, GStep.after, G, hfn, hkd]
   simp [fr]
  | recover =>
   obtain ⟨hd, m, hcm, hk⟩ := hk
   obtain ⟨hb1, hb2, _⟩ := hb
   obtain ⟨hr, hkind, hcs⟩ := hb2 hd
   cases cs with
   | nil => exact absurd rfl hcs
   | cons x cs =>
    have hro : (fr b a (.inRegion ops (i :: rest) :: k)).roundOf = none := by rw [← hr, ← hb1]; rfl
    have e := hnext _ _ hk
    rw [St.put_cm] at e
    have e3 := finish_fr b { a with cm := some (recovers m).2 } ops i rest k (recovers m).1
    rw [ho] at e3
    simp only [Option.bind_some] at e3
    have e4 : (fr b a (.inRegion ops (i :: rest) :: k)).finish (recovers m).1 = fr b (St.put { a with cm := some (recovers m).2 } o.dst (recovers m).1) (.inRegion ops rest :: k) := e3
    refine ⟨_, w', seen P b.fn (if b.kind == .early then #[] else es'), S', ?_, hm, hevs _, e⟩
    have hkd' : (fr b a (.inRegion ops (i :: rest) :: k)).kind = .deferred := by rw [hkd, hkind]
    have hcl : cl r (x :: cs) a.cm = { x with mode := m } :: cs := by rw [hcm]; simp [cl, hd]
    have htr := tryRecover_cons hkd' x cs m
    rw [hcl]
    cases ht : takesUp m with
    | true =>
     rw [ht] at htr
     simp [stepG.apply, hrun1, hrun2, outcome, GStep.after, G, hro, htr, cl, hd, hfn, hkd]
     exact e4
    | false =>
     rw [ht] at htr
     rw [recovers_not ht] at e4
     simp [stepG.apply, hrun1, hrun2, outcome, GStep.after, G, hro, htr, recovers_not ht, cl, hd, hfn, hkd]
     exact e4
  | _ => exact hk.elim
end
open Go
def base (f : FuncId) (kind : CallKind) : Frame := { fn := f, tmps := #[], todo := [], defers := [], mode := .run, kind }
def entry (fn : Func) (args : Array Value) (cm : Option FrameMode := none) : St := { tmps := args ++ Array.replicate (fn.ntmps - args.size) undef, defers := [], cm }
theorem enter_eq {P : Program} {f : FuncId} {fn : Func} {c : Code} {args : Array Value} {kind : CallKind} {cm : Option FrameMode} (hf : P.funcs[f]? = some fn) (hb : fn.body = some c) :
  Frame.enter P f args kind = fr (base f kind) (entry fn args cm) [.code c] := by
 simp [Frame.enter, fr, base, entry, hf, hb]
def Unw (P : Program) (main : Co) (f : FuncId) (m : FrameMode) (tmps : Array Value) (ds : List Deferred) (S : Own) (Post : End → Own → Prop) : Prop :=
 ∀ Stop x cs, x.fn = f → x.mode = m → x.tmps = tmps → x.defers = ds → (∀ y e S', Post e S' → Leaves P f x.kind e y S' → Goes P main Stop (G y cs) S') → Goes P main Stop (G x cs) S
section
variable {P : Program} {main : Co} {f : FuncId} {S : Own} {Post : End → Own → Prop} {tmps : Array Value}
theorem Unw.ret {fn : Func} {v : Value} (hf : P.funcs[f]? = some fn) (hr : Reads P S (results fn tmps) v) (hp : Post (.returned v) S) :
  Unw P main f .returning tmps [] S Post :=
 fun _ x _ hfn hm ht hd hk => hk x _ S hp ⟨hfn, rfl, hd, fn, hf, hm, by rw [ht]; exact hr⟩
theorem Unw.panic {fn : Func} {ch : List PanicEntry} (hf : P.funcs[f]? = some fn) (hp : Post (.panicked ch) S) : Unw P main f (.panicking ch) tmps [] S Post :=
 fun _ x _ hfn hm _ hd hk => hk x _ S hp ⟨hfn, rfl, hd, fn, hf, hm⟩
def CallsD (P : Program) (main : Co) (g : FuncId) (args : Array Value) (S : Own) (m : FrameMode) (Post : End → FrameMode → Own → Prop) : Prop :=
 ∀ Stop x cs, x.mode = m → (∀ y e m' S', Post e m' S' → Leaves P g .deferred e y S' → Goes P main Stop (G y ({ x with mode := m' } :: cs)) S') →
  Goes P main Stop (G (Frame.enter P g args .deferred) (x :: cs)) S
def afterDefer : FrameMode → FrameMode
 | .panicking ({ recovered := true, .. } :: older) => match older.dropWhile (!·.goexit) with
  | [] => .returning
  | rest => .panicking rest
 | m => m
def raised (ch : List PanicEntry) : FrameMode → FrameMode
 | .panicking chain => .panicking (ch ++ chain)
 | _ => .panicking ch
theorem raise_mode (x : Frame) (ch : List PanicEntry) : x.raise ch = { x with mode := raised ch x.mode } := by
 unfold Frame.raise raised
 cases x.mode <;> rfl
def unwinds : FrameMode → Bool
 | .run => false
 | _ => true
def plainTarget : Target → Bool
 | .fn _ _ => true
 | _ => false
theorem Unw.defer {m : FrameMode} {d : Deferred} {ds : List Deferred} (hm : unwinds m = true) (hd : plainTarget d.target = true)
  (h : Run P S (invoke d.target d.args) S fun r S' => match r with
   | .ok (.enter g args) => CallsD P main g args S' m fun e m' S'' => match e with
    | .returned _ => Unw P main f (afterDefer m') tmps ds S'' Post
    | .panicked ch => Unw P main f (raised ch m') tmps ds S'' Post
   | _ => False) : Unw P main f m tmps (d :: ds) S Post := by
 intro Stop x cs hfn hmode ht hdef hk
 refine .one ⟨rfl, fun _ => rfl⟩ fun w hS => ?_
 obtain ⟨r, w', es', hrun, hev, _, S', hmid, hres⟩ := (h w w hS (.refl hS)).sound #[]
 have hrun1 : (invoke d.target d.args).run P w = outcome w' r := by have := congrArg Prod.fst hrun; simpa using this
 have hrun2 : (invoke d.target d.args).events P w #[] = es' := by have := congrArg Prod.snd hrun; simpa using this
 cases r with
 | error v => exact hres.elim
 | ok n =>
  cases n <;> try exact hres.elim
  rename_i g args
  refine ⟨G (Frame.enter P g args .deferred) ({ x with defers := ds } :: cs), w', seen P f es', S', ?_, hmid, fun e he => hev e (mem_seen he), ?_⟩
  ·obtain ⟨t, as⟩ := d
   have hnil : t ≠ .nil := by rintro rfl; simp [plainTarget] at hd
   have hn : (match t with | .nil => true | _ => false) = false := by cases t <;> first | rfl | exact absurd rfl hnil
   cases t <;> simp [plainTarget] at hd
   rename_i fn cap
   cases m with
   | run => simp [unwinds] at hm
   | returning => simp [stepG, G, hmode, unwind, hdef, callDeferred, hrun1, hrun2, outcome, GStep.after, hfn]
   | panicking ch => simp [stepG, G, hmode, unwind, hdef, callDeferred, hrun1, hrun2, outcome, GStep.after, hfn]
  ·refine hres Stop { x with defers := ds } cs hmode fun y e m' S2 hpost ⟨hyf, hyk, hyd, fn, hfn', hy⟩ => ?_
   cases e with
   | returned v =>
    obtain ⟨hym, hyr⟩ := hy
    refine .one ⟨rfl, fun _ => rfl⟩ fun w2 hS2 => ?_
    obtain ⟨z, w3, es3, hr3, hev3, _, rfl, rfl⟩ := (hyr w2 hS2).sound #[]
    have e1 : (results fn y.tmps).run P w3 = .ok v w3 := by have := congrArg Prod.fst hr3; simpa [outcome] using this
    have e2 : (results fn y.tmps).events P w3 #[] = es3 := by have := congrArg Prod.snd hr3; simpa using this
    refine ⟨G { x with defers := ds, mode := afterDefer m' } cs, w3, seen P g es3, S2, ?_, .refl hS2, fun e he => hev3 e (mem_seen he),
     hpost Stop { x with defers := ds, mode := afterDefer m' } cs hfn rfl ht rfl hk⟩
    have : stepG P main.m (G y ({ x with defers := ds, mode := m' } :: cs)) w3 = GStep.after (seen P g es3) (doReturn P main.m y ({ x with defers := ds, mode := m' } :: cs) none v w3) := by
     simp [stepG, G, hym, unwind, hyd, hyf, hfn', e1, e2]
    rw [this]
    simp only [doReturn, hyk]
    cases m' with
    | panicking ch => cases ch with
     | nil => simp [afterDefer, GStep.after, G]
     | cons p older =>
      obtain ⟨pv, rec, ge⟩ := p
      cases rec with
      | false => simp [afterDefer, GStep.after, G]
      | true => cases hdw : older.dropWhile (fun x => !x.goexit) <;> simp [afterDefer, GStep.after, G, hdw]
    | _ => simp [afterDefer, GStep.after, G]
   | panicked ch =>
    refine .one ⟨rfl, fun _ => rfl⟩ fun w2 hS2 => ⟨G ({ x with defers := ds, mode := raised ch m' }) cs, w2, #[], S2, ?_, .refl hS2, by simp,
     hpost Stop { x with defers := ds, mode := raised ch m' } cs hfn rfl ht rfl hk⟩
    have hcat : y.catches P = false := by simp [Frame.catches, hyf, hfn']
    have hr := raise_mode ({ x with defers := ds, mode := m' }) ch
    simp [stepG, G, hy, unwind, hyd, hcat, hr]
def bodyPost (P : Program) (main : Co) (f : FuncId) (Post : End → Own → Prop) : Ex → St → Own → Prop
 | .normal, a, S | .ret, a, S => Unw P main f .returning a.tmps a.defers S Post
 | .panic ch, a, S => Unw P main f (.panicking ch) a.tmps a.defers S Post
 | _, _, _ => False
theorem Calls.enter {fn : Func} {c : Code} {args : Array Value} (hf : P.funcs[f]? = some fn) (hb : fn.body = some c)
  (h : wp P main { fn := some f } c (bodyPost P main f Post) (entry fn args) S) : Calls P main f args S Post := by
 intro Stop kind cs _ hk
 rw [enter_eq (cm := none) hf hb]
 refine h Stop (base f kind) [] cs ⟨rfl, by simp, by simp [base]⟩ fun e a' S' q => ?_
 cases e with
 | normal => exact .move ⟨rfl, fun _ => rfl⟩ (fun _ => stepG_end rfl) (q Stop _ cs rfl rfl rfl rfl hk)
 | ret =>
  rintro todo ⟨k, rfl⟩
  exact .move ⟨rfl, fun _ => rfl⟩ (fun _ => stepG_ret rfl) (q Stop _ cs rfl rfl rfl rfl hk)
 | panic ch => exact fun todo => q Stop _ cs rfl rfl rfl rfl hk
 | exit id => exact q.elim
 | goto l => exact q.elim
def bodyPostD (P : Program) (main : Co) (g : FuncId) (Post : End → FrameMode → Own → Prop) : Ex → St → Own → Prop
 | .normal, a, S | .ret, a, S => ∃ m', a.cm = some m' ∧ Unw P main g .returning a.tmps a.defers S fun e S' => Post e m' S'
 | .panic ch, a, S => ∃ m', a.cm = some m' ∧ Unw P main g (.panicking ch) a.tmps a.defers S fun e S' => Post e m' S'
 | _, _, _ => False
theorem CallsD.enter {g : FuncId} {fn : Func} {c : Code} {args : Array Value} {m : FrameMode} {Post : End → FrameMode → Own → Prop} (hf : P.funcs[g]? = some fn) (hb : fn.body = some c)
  (h : wp P main { dfr := true, fn := some g } c (bodyPostD P main g Post) (entry fn args (some m)) S) : CallsD P main g args S m Post := by
 intro Stop x cs hx hk
 rw [enter_eq (cm := some m) hf hb]
 have e0 : x :: cs = cl { dfr := true, fn := some g } (x :: cs) (some m) := by rw [← hx]; rfl
 rw [e0]
 refine h Stop (base g .deferred) [] (x :: cs) ⟨rfl, fun _ => ⟨rfl, rfl, by simp⟩, by simp [base]⟩ fun e a' S' q => ?_
 have key : ∀ m' md todo, a'.cm = some m' → Unw P main g md a'.tmps a'.defers S' (fun e S' => Post e m' S') →
   Goes P main Stop (G { fr (base g .deferred) a' todo with mode := md } (cl { dfr := true, fn := some g } (x :: cs) a'.cm)) S' := by
  intro m' md todo hcm hu
  rw [hcm]
  exact hu Stop _ _ rfl rfl rfl rfl fun y e S2 p l => hk y e m' S2 p l
 cases e with
 | normal => obtain ⟨m', hcm, hu⟩ := q; exact .move ⟨rfl, fun _ => rfl⟩ (fun _ => stepG_end rfl) (key m' _ _ hcm hu)
 | ret =>
  rintro todo ⟨k, rfl⟩
  obtain ⟨m', hcm, hu⟩ := q
  exact .move ⟨rfl, fun _ => rfl⟩ (fun _ => stepG_ret rfl) (key m' _ _ hcm hu)
 | panic ch => obtain ⟨m', hcm, hu⟩ := q; exact fun todo => key m' _ _ hcm hu
 | exit id => exact q.elim
 | goto l => exact q.elim
end
end Mv

namespace Mw
open Go Mv
inductive Dg (π : Type) where
 | d0 (p : π)
 | d1 (p : π)
 | d2 (p : π)
 | d3 (p : π)
 | d4 (p : π)
 | d5 (p : π)
 | d6 (p : π)
 | d7 (p : π)
inductive Dz where
 | stop
 | bad
structure N8 (β : Type) where
 mk ::
 c0 : β
 c1 : β
 c2 : β
 c3 : β
 c4 : β
 c5 : β
 c6 : β
 c7 : β
namespace N8
variable {β : Type}
def nth (t : N8 β) (r : Nat) : β := match r with
 | 0 => t.c0
 | 1 => t.c1
 | 2 => t.c2
 | 3 => t.c3
 | 4 => t.c4
 | 5 => t.c5
 | 6 => t.c6
 | _ => t.c7
def upd (t : N8 β) (r : Nat) (x : β) : N8 β := match r with
 | 0 => { t with c0 := x }
 | 1 => { t with c1 := x }
 | 2 => { t with c2 := x }
 | 3 => { t with c3 := x }
 | 4 => { t with c4 := x }
 | 5 => { t with c5 := x }
 | 6 => { t with c6 := x }
 | _ => { t with c7 := x }
theorem below {r : Nat} (h : r < 8) : r = 0 ∨ r = 1 ∨ r = 2 ∨ r = 3 ∨ r = 4 ∨ r = 5 ∨ r = 6 ∨ r = 7 := by omega
theorem nth_upd_self (t : N8 β) (x : β) {r : Nat} (h : r < 8) : (t.upd r x).nth r = x := by
 rcases below h with rfl | rfl | rfl | rfl | rfl | rfl | rfl | rfl <;> rfl
theorem nth_upd_other (t : N8 β) (x : β) {r r' : Nat} (h : r < 8) (h' : r' < 8) (hne : r' ≠ r) : (t.upd r x).nth r' = t.nth r' := by
 rcases below h with rfl | rfl | rfl | rfl | rfl | rfl | rfl | rfl <;> rcases below h' with rfl | rfl | rfl | rfl | rfl | rfl | rfl | rfl <;> first | rfl | exact absurd rfl hne
end N8
namespace Dg
variable {π : Type}
def dig (r : Nat) (p : π) : Dg π := match Nat.beq r 0 with
 | true => .d0 p
 | false => match Nat.beq r 1 with
  | true => .d1 p
  | false => match Nat.beq r 2 with
   | true => .d2 p
   | false => match Nat.beq r 3 with
    | true => .d3 p
    | false => match Nat.beq r 4 with
     | true => .d4 p
     | false => match Nat.beq r 5 with
      | true => .d5 p
      | false => match Nat.beq r 6 with
       | true => .d6 p
       | false => .d7 p
def ofS (sub : Nat → π) (n : Nat) : Dg π := dig (Nat.mod n 8) (sub (Nat.div n 8))
end Dg
namespace Tr
variable {α β γ π : Type}
def ofZ (n : Nat) : Dz := match Nat.beq n 0 with
 | true => .stop
 | false => .bad
def getZ (p : Dz) (t : Option α) : Option α := match p with
 | .stop => t
 | .bad => none
def setZ (p : Dz) (v t : Option α) : Option α := match p with
 | .stop => v
 | .bad => t
def setKZ (p : Dz) (v t : Option α) (k : Option α → γ) : γ := match p with
 | .stop => k v
 | .bad => k t
def getS (sub : π → β → Option α) (p : Dg π) (t : N8 β) : Option α := match p with
 | .d0 p => sub p t.c0
 | .d1 p => sub p t.c1
 | .d2 p => sub p t.c2
 | .d3 p => sub p t.c3
 | .d4 p => sub p t.c4
 | .d5 p => sub p t.c5
 | .d6 p => sub p t.c6
 | .d7 p => sub p t.c7
def setS (sub : π → Option α → β → β) (p : Dg π) (v : Option α) (t : N8 β) : N8 β := match p with
 | .d0 p => { t with c0 := sub p v t.c0 }
 | .d1 p => { t with c1 := sub p v t.c1 }
 | .d2 p => { t with c2 := sub p v t.c2 }
 | .d3 p => { t with c3 := sub p v t.c3 }
 | .d4 p => { t with c4 := sub p v t.c4 }
 | .d5 p => { t with c5 := sub p v t.c5 }
 | .d6 p => { t with c6 := sub p v t.c6 }
 | .d7 p => { t with c7 := sub p v t.c7 }
def setKS (sub : π → Option α → β → (β → γ) → γ) (p : Dg π) (v : Option α) (t : N8 β) (k : N8 β → γ) : γ := match t with
 | ⟨c0, c1, c2, c3, c4, c5, c6, c7⟩ => match p with
  | .d0 p => sub p v c0 fun c0 => k ⟨c0, c1, c2, c3, c4, c5, c6, c7⟩
  | .d1 p => sub p v c1 fun c1 => k ⟨c0, c1, c2, c3, c4, c5, c6, c7⟩
  | .d2 p => sub p v c2 fun c2 => k ⟨c0, c1, c2, c3, c4, c5, c6, c7⟩
  | .d3 p => sub p v c3 fun c3 => k ⟨c0, c1, c2, c3, c4, c5, c6, c7⟩
  | .d4 p => sub p v c4 fun c4 => k ⟨c0, c1, c2, c3, c4, c5, c6, c7⟩
  | .d5 p => sub p v c5 fun c5 => k ⟨c0, c1, c2, c3, c4, c5, c6, c7⟩
  | .d6 p => sub p v c6 fun c6 => k ⟨c0, c1, c2, c3, c4, c5, c6, c7⟩
  | .d7 p => sub p v c7 fun c7 => k ⟨c0, c1, c2, c3, c4, c5, c6, c7⟩
structure Lens (of : Nat → π) (g : π → β → Option α) (s : π → Option α → β → β) : Prop where
 law : ∀ m n v t u, g (of m) (s (of n) v t) = some u → (m = n ∧ v = some u) ∨ (m ≠ n ∧ g (of m) t = some u)
theorem lensZ : Lens ofZ (getZ (α := α)) setZ where
 law m n v t u h := by
  unfold ofZ at h ⊢
  cases hm : Nat.beq m 0 with
  | false => simp only [hm, getZ] at h; cases h
  | true =>
   have hm' := Nat.eq_of_beq_eq_true hm
   cases hn : Nat.beq n 0 with
   | true =>
    have hn' := Nat.eq_of_beq_eq_true hn
    simp only [hm, hn, getZ, setZ] at h
    exact .inl ⟨by omega, h⟩
   | false =>
    simp only [hm, hn, getZ, setZ] at h
    exact .inr ⟨fun e => (by rw [← e, hm] at hn; cases hn), h⟩
theorem getS_dig (sub : π → β → Option α) {r : Nat} (h : r < 8) (p : π) (t : N8 β) : getS sub (Dg.dig r p) t = sub p (t.nth r) := by
 rcases N8.below h with rfl | rfl | rfl | rfl | rfl | rfl | rfl | rfl <;> rfl
theorem setS_dig (sub : π → Option α → β → β) {r : Nat} (h : r < 8) (p : π) (v : Option α) (t : N8 β) : setS sub (Dg.dig r p) v t = t.upd r (sub p v (t.nth r)) := by
 rcases N8.below h with rfl | rfl | rfl | rfl | rfl | rfl | rfl | rfl <;> rfl
theorem lensS {of : Nat → π} {g : π → β → Option α} {s : π → Option α → β → β} (L : Lens of g s) : Lens (Dg.ofS of) (getS g) (setS s) where
 law m n v t u h := by
  have hm : Nat.mod m 8 < 8 := Nat.mod_lt _ (by decide)
  have hn : Nat.mod n 8 < 8 := Nat.mod_lt _ (by decide)
  have em : 8 * (Nat.div m 8) + Nat.mod m 8 = m := Nat.div_add_mod m 8
  have en : 8 * (Nat.div n 8) + Nat.mod n 8 = n := Nat.div_add_mod n 8
  unfold Dg.ofS at h ⊢
  rw [setS_dig _ hn, getS_dig _ hm] at h
  rw [getS_dig _ hm]
  by_cases e : Nat.mod m 8 = Nat.mod n 8
  ·rw [e, N8.nth_upd_self _ _ hn] at h
   rcases L.law _ _ _ _ _ h with ⟨h1, h2⟩ | ⟨h1, h2⟩
   ·exact .inl ⟨by rw [← em, ← en, e, h1], h2⟩
   ·exact .inr ⟨fun hh => h1 (by rw [hh]), by rw [e]; exact h2⟩
  ·rw [N8.nth_upd_other _ _ hn hm e] at h
   exact .inr ⟨fun hh => e (by rw [hh]), h⟩
theorem setKS_eq {sub : π → Option α → β → (β → γ) → γ} {s : π → Option α → β → β} (h : ∀ p v t k, sub p v t k = k (s p v t)) (p : Dg π) (v : Option α) (t : N8 β) (k : N8 β → γ) : setKS sub p v t k = k (setS s p v t) := by
 cases t; cases p <;> simp only [setKS, setS, h]
end Tr
abbrev P3 := Dg (Dg (Dg Dz))
abbrev P6 := Dg (Dg (Dg P3))
abbrev T3 (α : Type) := N8 (N8 (N8 (Option α)))
abbrev T6 (α : Type) := N8 (N8 (N8 (T3 α)))
structure Tr (α : Type) where
 mk ::
 small : T3 α
 big : T6 α
inductive Ky where
 | small (p : P3)
 | big (p : P6)
namespace Tr
variable {α β : Type}
def of3 : Nat → P3 := Dg.ofS (Dg.ofS (Dg.ofS ofZ))
def of6 : Nat → P6 := Dg.ofS (Dg.ofS (Dg.ofS of3))
def get3 : P3 → T3 α → Option α := getS (getS (getS getZ))
def get6 : P6 → T6 α → Option α := getS (getS (getS get3))
def set3 : P3 → Option α → T3 α → T3 α := setS (setS (setS setZ))
def set6 : P6 → Option α → T6 α → T6 α := setS (setS (setS set3))
theorem lens3 : Lens of3 (get3 (α := α)) set3 := lensS (lensS (lensS lensZ))
theorem lens6 : Lens of6 (get6 (α := α)) set6 := lensS (lensS (lensS lens3))
def key (n : Nat) : Ky := match Nat.ble n 511 with
 | true => .small (of3 n)
 | false => .big (of6 n)
def lookKy (k : Ky) (t : Tr α) : Option α := match k with
 | .small p => get3 p t.small
 | .big p => get6 p t.big
def setKy (k : Ky) (v : Option α) (t : Tr α) : Tr α := match k with
 | .small p => { t with small := set3 p v t.small }
 | .big p => { t with big := set6 p v t.big }
def fill (x : β) : N8 β := ⟨x, x, x, x, x, x, x, x⟩
def nil3 : T3 α := fill (fill (fill none))
def nil6 : T6 α := fill (fill (fill nil3))
def nil : Tr α := ⟨nil3, nil6⟩
def look (t : Tr α) (n : Nat) : Option α := lookKy (key n) t
theorem look_setKy {n key' : Nat} {t : Tr α} {v : Option α} {u : α} (h : (setKy (key n) v t).look key' = some u) : (key' = n ∧ v = some u) ∨ (key' ≠ n ∧ t.look key' = some u) := by
 unfold look key at *
 cases hk : Nat.ble key' 511 <;> cases hn : Nat.ble n 511 <;> simp only [hk, hn, lookKy, setKy] at h ⊢
 ·exact lens6.law _ _ _ _ _ h
 ·exact .inr ⟨fun e => (by rw [e, hn] at hk; cases hk), h⟩
 ·exact .inr ⟨fun e => (by rw [e, hn] at hk; cases hk), h⟩
 ·exact lens3.law _ _ _ _ _ h
def set (t : Tr α) (n : Nat) (v : α) : Tr α := setKy (key n) (some v) t
theorem look_set {key key' : Nat} {t : Tr α} {v u : α} (h : (t.set key v).look key' = some u) : (key' = key ∧ u = v) ∨ (key' ≠ key ∧ t.look key' = some u) := by
 rcases look_setKy h with ⟨h1, h2⟩ | h
 ·exact .inl ⟨h1, (Option.some.inj h2).symm⟩
 ·exact .inr h
def del (t : Tr α) (n : Nat) : Tr α := setKy (key n) none t
theorem look_del {key key' : Nat} {t : Tr α} {u : α} (h : (t.del key).look key' = some u) : key' ≠ key ∧ t.look key' = some u := by
 rcases look_setKy h with ⟨h1, h2⟩ | h
 ·cases h2
 ·exact h
theorem getS_fill {π : Type} {g : π → β → Option α} {x : β} (h : ∀ p, g p x = none) (p : Dg π) : getS g p (fill x) = none := by
 cases p <;> exact h _
theorem nil3_get (p : P3) : get3 p (nil3 : T3 α) = none := getS_fill (getS_fill (getS_fill fun p => by cases p <;> rfl)) p
theorem nil_look (n : Nat) : (nil : Tr α).look n = none := by
 unfold look
 cases key n with
 | small p => exact nil3_get p
 | big p => exact getS_fill (getS_fill (getS_fill nil3_get)) p
def setK3 : P3 → Option α → T3 α → (T3 α → β) → β := setKS (setKS (setKS setKZ))
def setK6 : P6 → Option α → T6 α → (T6 α → β) → β := setKS (setKS (setKS setK3))
theorem setK3_eq (p : P3) (v : Option α) (t : T3 α) (k : T3 α → β) : setK3 p v t k = k (set3 p v t) :=
 setKS_eq (setKS_eq (setKS_eq fun p v t k => by cases p <;> rfl)) p v t k
theorem setK6_eq (p : P6) (v : Option α) (t : T6 α) (k : T6 α → β) : setK6 p v t k = k (set6 p v t) :=
 setKS_eq (setKS_eq (setKS_eq setK3_eq)) p v t k
def setKK (ky : Ky) (v : Option α) (t : Tr α) (k : Tr α → β) : β := match t with
 | ⟨a, b⟩ => match ky with
  | .small p => setK3 p v a fun a => k ⟨a, b⟩
  | .big p => setK6 p v b fun b => k ⟨a, b⟩
theorem setKK_eq (ky : Ky) (v : Option α) (t : Tr α) (k : Tr α → β) : setKK ky v t k = k (setKy ky v t) := by
 cases t; cases ky <;> simp only [setKK, setK3_eq, setK6_eq, setKy]
def setK (n : Nat) (v : α) (t : Tr α) (k : Tr α → β) : β := setKK (key n) (some v) t k
theorem setK_eq (n : Nat) (v : α) (t : Tr α) (k : Tr α → β) : setK n v t k = k (t.set n v) := setKK_eq _ _ _ _
end Tr
inductive IE where
 | lit (n : Int)
 | var (i : Nat)
 | add (a b : IE)
 | sub (a b : IE)
 | mul (a b : IE)
 | quo (a b : IE)
 | rem (a b : IE)
 | bits (op : BinOp) (k : IntKind) (a b : IE)
 | shl (k : IntKind) (a b : IE)
 | shr (k : IntKind) (a b : IE)
 | min (a b : IE)
 | max (a b : IE)
 | wrap (k : IntKind) (a : IE)
 | nth (l : Nat) (ix : IE)
 | len (l : Nat)
 | room (b : Nat) (size : Nat)
 | fn (n : Nat) (ls : List Nat) (a b : IE)
 deriving DecidableEq
inductive BE where
 | lit (b : Bool)
 | var (i : Nat)
 | lt (a b : IE)
 | le (a b : IE)
 | eq (a b : IE)
 | not (a : BE)
 | pick (c a b : BE)
 deriving DecidableEq
inductive SC where
 | any (i : Nat)
 | int (k : IntKind) (e : IE)
 | bool (b : BE)
 | lit (v : Value)
 | ptr (b : Nat) (off : IE)
 | slice (b : Nat) (off len cap : IE)
 | ref (b : Nat)
 | fn (f : Fn) (first caps : List SC)
 | yield (l : Nat)
 | iface (t : TypeId) (x : SC)
 | agg (l : List SC)
 | tup (l : List SC)
 | chn (b : Nat)
 | nsl (t b : Nat) (off len cap : IE)
inductive SO where
 | cells (l : List SC) (e : TypeId)
 | row (l : List SC) (e : TypeId) (r : Nat)
 | ints (k : IntKind) (l : Nat) (e : TypeId)
 | obj (i : Nat)
 | map (es : List (SC × SC))
 | pin (es : List (SC × SC)) (sh : Nat)
 | itr (m sh n : Nat) (e : Option Nat) (r : Nat)
 | calls
 | rng (n size : Nat) (sl : Tr SC) (fn : FuncId) (params : Array Tmp) (assign body : Code) (st : LoopState) (pend : Option Code) (d : Nat)
 | chan (cap : Nat) (buf : List SC) (closed : Bool) (ns nr : IE) (tm : Bool)
 | win (k : IntKind) (l j o : Nat)
 | lrow (k : IntKind) (l : Nat) (e : TypeId) (r : Nat)
 | tail (l : List SC) (e : TypeId) (r q : Nat)
 | hrow (hd : List SC) (k : IntKind) (l : Nat) (e : TypeId)
 | mapq (q : Nat)
 | cut (off : IE) (l : List SC) (e : TypeId) (r q : Nat)
structure Env where
 i : List Int := []
 b : List Bool := []
 k : List (Nat × List Value) := []
 v : List Value := []
 o : List Obj := []
 l : List (List Int) := []
 lp : List Loop := []
 g : List Gh := []
def bitsOf (op : BinOp) (k : IntKind) (x y : Int) : Int :=
 let a := BitVec.ofInt k.bits x
 let b := BitVec.ofInt k.bits y
 k.wrap (match op with
  | .and => a &&& b
  | .or => a ||| b
  | .xor => a ^^^ b
  | _ => a &&& ~~~b).toNat
def intOf : Value → Int
 | .int _ n => n
 | _ => 0
namespace Env
variable (ρ : Env)
def int (i : Nat) : Int := ρ.i.getD i 0
def bool (i : Nat) : Bool := ρ.b.getD i false
def blk (i : Nat) : Nat := (ρ.k.getD i (0, [])).1
def rest (i : Nat) : List Value := (ρ.k.getD i (0, [])).2
def val (i : Nat) : Value := ρ.v.getD i .nilFunc
def list (i : Nat) : List Int := if i < 64 then ρ.l.getD i [] else (ρ.rest (i - 64)).map intOf
def obj (i : Nat) : Obj := ρ.o.getD i (.number ⟨0, 0, none⟩ false)
def grow (b : Nat) (r : List Value := []) : Env := { ρ with k := ρ.k ++ [(b, r)] }
end Env
def IE.den (ρ : Env) : IE → Int
 | .lit n => n
 | .var i => ρ.int i
 | .add a b => a.den ρ + b.den ρ
 | .sub a b => a.den ρ - b.den ρ
 | .mul a b => a.den ρ * b.den ρ
 | .quo a b => (a.den ρ).tdiv (b.den ρ)
 | .rem a b => (a.den ρ).tmod (b.den ρ)
 | .bits op k a b => bitsOf op k (a.den ρ) (b.den ρ)
 | .shl k a b => a.den ρ * 2 ^ (Nat.min (b.den ρ).toNat k.bits)
 | .shr k a b => (a.den ρ).fdiv (2 ^ (Nat.min (b.den ρ).toNat k.bits))
 | .min a b => if b.den ρ < a.den ρ then b.den ρ else a.den ρ
 | .max a b => if b.den ρ > a.den ρ then b.den ρ else a.den ρ
 | .wrap k a => k.wrap (a.den ρ)
 | .nth l ix => (ρ.list l).getD (ix.den ρ).toNat 0
 | .len l => ((ρ.list l).length : Nat)
 | .room b s => ((ρ.rest b).length / s : Nat)
 | .fn n ls a b => fnTable n (ls.map ρ.list) (a.den ρ) (b.den ρ)
def BE.den (ρ : Env) : BE → Bool
 | .lit b => b
 | .var i => ρ.bool i
 | .lt a b => decide (a.den ρ < b.den ρ)
 | .le a b => decide (a.den ρ ≤ b.den ρ)
 | .eq a b => a.den ρ == b.den ρ
 | .not a => !a.den ρ
 | .pick c a b => if c.den ρ then a.den ρ else b.den ρ
mutual
def SC.den (ρ : Env) : SC → Value
 | .any i => ρ.val i
 | .int k e => .int k (e.den ρ)
 | .bool b => .bool (b.den ρ)
 | .lit v => v
 | .ptr b off => .pointer (some ⟨ρ.blk b, (off.den ρ).toNat, none⟩)
 | .slice b off len cap => .slice (some ⟨ρ.blk b, (off.den ρ).toNat, none⟩) (len.den ρ).toNat (cap.den ρ).toNat
 | .ref b => .map (some (ρ.blk b))
 | .fn f first caps => .func f (dens ρ first).toArray (dens ρ caps).toArray
 | .yield l => .func (.yield (ρ.blk l)) #[] #[]
 | .iface t x => .iface t (SC.den ρ x)
 | .agg l => .agg (dens ρ l).toArray
 | .tup l => .tuple (dens ρ l).toArray
 | .chn b => .chan (some (ρ.blk b))
 | .nsl t b off len cap => match ρ.bool t with
  | true => .slice none 0 0
  | false => .slice (some ⟨ρ.blk b, (off.den ρ).toNat, none⟩) (len.den ρ).toNat (cap.den ρ).toNat
def dens (ρ : Env) : List SC → List Value
 | [] => []
 | x :: l => SC.den ρ x :: dens ρ l
end
theorem dens_eq (ρ : Env) : ∀ l : List SC, dens ρ l = l.map (SC.den ρ)
 | [] => rfl
 | x :: l => by rw [dens, List.map_cons, dens_eq ρ l]
def fill (ρ : Env) (n size : Nat) (sl : Tr SC) : Array Value := ((List.range size).map fun i => match sl.look i with
 | some v => v.den ρ
 | none => (ρ.rest n).getD i undef).toArray
def natV : Value → Nat
 | .int _ n => n.toNat
 | _ => 0
abbrev Shape := Nat × List Nat × List Nat
def shapeOf (n : Nat) (r : List Value) : Shape := ((r.map natV).headD 0, ((r.map natV).drop 1).take n, ((r.map natV).drop 1).drop n)
def shapeB (n : Nat) (s : Shape) : Bool := s.2.1.isPerm (List.range n) && decide (s.2.2.length = n) && decide (s.2.2.Pairwise (· < ·)) && s.2.2.all (· < s.1)
def Env.shape (ρ : Env) (n sh : Nat) : Shape := if shapeB n (shapeOf n (ρ.rest sh)) then shapeOf n (ρ.rest sh) else (n, List.range n, List.range n)
def pairD (ρ : Env) (x : SC × SC) : Value × Value := (x.1.den ρ, x.2.den ρ)
def absE (l : List (Value × Value)) : List MapEntry := l.map fun x => { key := x.1, val := x.2, born := 0 }
def pinE (l : List (Value × Value)) (s : Shape) : List MapEntry := (s.2.1.zip s.2.2).map fun x => match l[x.1]? with
 | some y => { key := y.1, val := y.2, born := x.2 }
 | none => { key := undef, val := undef, born := x.2 }
def stampOf (s : Shape) (e : Nat) : Nat := match (s.2.1.zip s.2.2).find? fun x => x.1 == e with
 | some x => x.2
 | none => 0
def patch (x : Obj) (o : Nat) (vs : List Value) : Obj := match x with
 | .cells cs ty fz => .cells (cs.toList.take o ++ List.replicate (o - cs.size) (Value.agg #[]) ++ vs ++ cs.toList.drop (o + vs.length)).toArray ty fz
 | _ => .cells (List.replicate o (Value.agg #[]) ++ vs).toArray 0 (0, 0)
def padN (n : Nat) (vs : List Value) : List Value := (List.range n).map fun i => vs.getD i undef
theorem padN_len (n : Nat) (vs : List Value) : (padN n vs).length = n := by simp [padN]
def pairsQ : List Value → List (Value × Value)
 | k :: v :: l => (k, v) :: pairsQ l
 | _ => []
def SO.den (ρ : Env) : SO → Obj
 | .cells l e => .cells (l.map (SC.den ρ)).toArray e (0, 0)
 | .row l e r => .cells (l.map (SC.den ρ) ++ ρ.rest r).toArray e (0, 0)
 | .ints k l e => .cells ((ρ.list l).map (Value.int k)).toArray e (0, 0)
 | .obj i => ρ.obj i
 | .map es => .map (absE (es.map (pairD ρ))).toArray 0
 | .pin es sh => .map (pinE (es.map (pairD ρ)) (ρ.shape es.length sh)).toArray (ρ.shape es.length sh).1
 | .itr m sh n e r => .mapIter (some (ρ.blk m)) (ρ.shape n sh).1 (match e with | some e => (ρ.rest r).map natV ++ [stampOf (ρ.shape n sh) e] | none => []).toArray (ρ.shape n sh).1
 | .calls => .deferred (some [])
 | .rng n size sl fn params assign body st pend d => .loop { state := st, pending := pend, fn, tmps := fill ρ n size sl, params, assign, body, defers := ρ.blk d }
 | .chan cap buf closed ns nr tm => .chan cap (buf.map (SC.den ρ)).toArray closed (ns.den ρ).toNat (nr.den ρ).toNat tm
 | .win k l j o => patch (ρ.obj j) (ρ.int o).toNat ((ρ.list l).map (Value.int k))
 | .lrow k l e r => .cells ((ρ.list l).map (Value.int k) ++ ρ.rest r).toArray e (0, 0)
 | .tail l e r q => .cells (ρ.rest q ++ (l.map (SC.den ρ) ++ ρ.rest r)).toArray e (0, 0)
 | .hrow hd k l e => .cells (hd.map (SC.den ρ) ++ (ρ.list l).map (Value.int k)).toArray e (0, 0)
 | .mapq q => .map (absE (pairsQ (ρ.rest q))).toArray 0
 | .cut off l e r q => .cells (padN (off.den ρ).toNat (ρ.rest q) ++ (l.map (SC.den ρ) ++ ρ.rest r)).toArray e (0, 0)
def lok (n l : Nat) : Prop := 64 ≤ l → l - 64 < n
def IE.ok (n : Nat) : IE → Prop
 | .lit _ | .var _ => True
 | .len l => lok n l
 | .add a b | .sub a b | .mul a b | .quo a b | .rem a b | .bits _ _ a b | .shl _ a b | .shr _ a b | .min a b | .max a b => a.ok n ∧ b.ok n
 | .fn _ ls a b => (∀ l ∈ ls, lok n l) ∧ a.ok n ∧ b.ok n
 | .wrap _ a => a.ok n
 | .nth l a => lok n l ∧ a.ok n
 | .room b _ => b < n
def BE.ok (n : Nat) : BE → Prop
 | .lit _ | .var _ => True
 | .lt a b | .le a b | .eq a b => a.ok n ∧ b.ok n
 | .not a => a.ok n
 | .pick c a b => c.ok n ∧ a.ok n ∧ b.ok n
mutual
def SC.ok (n : Nat) : SC → Prop
 | .any _ | .lit _ => True
 | .int _ e => e.ok n
 | .bool b => b.ok n
 | .ptr b off => b < n ∧ off.ok n
 | .slice b off len cap => b < n ∧ off.ok n ∧ len.ok n ∧ cap.ok n
 | .ref b => b < n
 | .fn _ first caps => SC.oks n first ∧ SC.oks n caps
 | .yield l => l < n
 | .iface _ x => SC.ok n x
 | .agg l => SC.oks n l
 | .tup l => SC.oks n l
 | .chn b => b < n
 | .nsl _ b off len cap => b < n ∧ off.ok n ∧ len.ok n ∧ cap.ok n
def SC.oks (n : Nat) : List SC → Prop
 | [] => True
 | x :: l => SC.ok n x ∧ SC.oks n l
end
theorem oks_iff {n : Nat} : ∀ {l : List SC}, SC.oks n l ↔ ∀ x ∈ l, x.ok n
 | [] => by simp [SC.oks]
 | x :: l => by simp [SC.oks, oks_iff (l := l)]
def SO.ok (n : Nat) : SO → Prop
 | .cells l _ => ∀ x ∈ l, x.ok n
 | .row l _ r => r < n ∧ ∀ x ∈ l, x.ok n
 | .ints _ l _ => lok n l
 | .obj _ | .calls => True
 | .win _ l _ _ => lok n l
 | .lrow _ l _ r => lok n l ∧ r < n
 | .tail l _ r q => (r < n ∧ q < n) ∧ ∀ x ∈ l, x.ok n
 | .hrow hd _ l _ => lok n l ∧ ∀ x ∈ hd, x.ok n
 | .mapq q => q < n
 | .cut off l _ r q => off.ok n ∧ (r < n ∧ q < n) ∧ ∀ x ∈ l, x.ok n
 | .rng m size sl _ _ _ _ _ _ d => m < n ∧ d < n ∧ ∀ i v, sl.look i = some v → v.ok n ∧ i < size
 | .map es => ∀ x ∈ es, x.1.ok n ∧ x.2.ok n
 | .pin es sh => sh < n ∧ ∀ x ∈ es, x.1.ok n ∧ x.2.ok n
 | .itr m sh _ _ r => m < n ∧ sh < n ∧ r < n
 | .chan _ buf _ ns nr _ => (∀ x ∈ buf, x.ok n) ∧ ns.ok n ∧ nr.ok n
theorem blk_grow (ρ : Env) (b : Nat) (r : List Value) {i : Nat} (h : i < ρ.k.length) : (ρ.grow b r).blk i = ρ.blk i := by
 simp [Env.blk, Env.grow, List.getElem?_append_left h]
theorem rest_grow (ρ : Env) (b : Nat) (r : List Value) {i : Nat} (h : i < ρ.k.length) : (ρ.grow b r).rest i = ρ.rest i := by
 simp [Env.rest, Env.grow, List.getElem?_append_left h]
@[simp] theorem blk_new (ρ : Env) (b : Nat) (r : List Value) : (ρ.grow b r).blk ρ.k.length = b := by simp [Env.blk, Env.grow]
@[simp] theorem rest_new (ρ : Env) (b : Nat) (r : List Value) : (ρ.grow b r).rest ρ.k.length = r := by simp [Env.rest, Env.grow]
@[simp] theorem len_grow (ρ : Env) (b : Nat) (r : List Value) : (ρ.grow b r).k.length = ρ.k.length + 1 := by simp [Env.grow]
theorem list_grow (ρ : Env) (b : Nat) (r : List Value) {l : Nat} (h : lok ρ.k.length l) : (ρ.grow b r).list l = ρ.list l := by
 unfold Env.list
 split
 ·rfl
 ·rw [rest_grow ρ b r (h (by omega))]
theorem IE.den_grow {ρ : Env} {b : Nat} {r : List Value} (e : IE) (h : e.ok ρ.k.length) : e.den (ρ.grow b r) = e.den ρ := by
 induction e with
 | fn n ls x y ih1 ih2 =>
  simp only [IE.den]
  rw [ih1 h.2.1, ih2 h.2.2, List.map_congr_left fun l hl => list_grow ρ b r (h.1 l hl)]
 | nth l ix ih => simp only [IE.den]; rw [list_grow ρ b r h.1, ih h.2]
 | len l => simp only [IE.den]; rw [list_grow ρ b r h]
 | _ => simp_all [IE.den, IE.ok, rest_grow] <;> rfl
theorem BE.den_grow {ρ : Env} {b : Nat} {r : List Value} (e : BE) (h : e.ok ρ.k.length) : e.den (ρ.grow b r) = e.den ρ := by
 induction e with
 | lt a c => simp only [BE.den, IE.den_grow _ h.1, IE.den_grow _ h.2]
 | le a c => simp only [BE.den, IE.den_grow _ h.1, IE.den_grow _ h.2]
 | eq a c => simp only [BE.den, IE.den_grow _ h.1, IE.den_grow _ h.2]
 | not a ih => simp only [BE.den, ih h]
 | pick c x y h1 h2 h3 => simp only [BE.den, h1 h.1, h2 h.2.1, h3 h.2.2]
 | _ => rfl
mutual
theorem SC.den_grow {ρ : Env} {b : Nat} {r : List Value} : ∀ (x : SC), x.ok ρ.k.length → x.den (ρ.grow b r) = x.den ρ
 | .any _, _ | .lit _, _ => rfl
 | .int k e, h => by simp only [SC.den]; rw [IE.den_grow e h]
 | .bool e, h => by simp only [SC.den]; rw [BE.den_grow e h]
 | .ptr i off, h => by simp only [SC.den, IE.den_grow _ h.2, blk_grow ρ b r h.1]
 | .slice i off len cap, h => by simp only [SC.den, IE.den_grow _ h.2.1, IE.den_grow _ h.2.2.1, IE.den_grow _ h.2.2.2, blk_grow ρ b r h.1]
 | .ref i, h => by simp only [SC.den]; rw [blk_grow ρ b r h]
 | .fn f first caps, h => by simp only [SC.den, dens_grow first h.1, dens_grow caps h.2]
 | .yield l, h => by simp only [SC.den]; rw [blk_grow ρ b r h]
 | .iface t x, h => by simp only [SC.den]; rw [SC.den_grow x h]
 | .agg l, h => by simp only [SC.den]; rw [dens_grow l h]
 | .tup l, h => by simp only [SC.den]; rw [dens_grow l h]
 | .chn i, h => by simp only [SC.den]; rw [blk_grow ρ b r h]
 | .nsl t i off len cap, h => by
  have e : (ρ.grow b r).bool t = ρ.bool t := rfl
  simp only [SC.den, IE.den_grow _ h.2.1, IE.den_grow _ h.2.2.1, IE.den_grow _ h.2.2.2, blk_grow ρ b r h.1, e]
theorem dens_grow {ρ : Env} {b : Nat} {r : List Value} : ∀ (l : List SC), SC.oks ρ.k.length l → dens (ρ.grow b r) l = dens ρ l
 | [], _ => rfl
 | x :: l, h => by simp only [dens]; rw [SC.den_grow x h.1, dens_grow l h.2]
end
theorem map_grow {ρ : Env} {b : Nat} {r : List Value} {l : List SC} (h : ∀ x ∈ l, x.ok ρ.k.length) : l.map (SC.den (ρ.grow b r)) = l.map (SC.den ρ) :=
 List.map_congr_left fun x hx => SC.den_grow x (h x hx)
theorem pairs_grow {ρ : Env} {b : Nat} {r : List Value} {l : List (SC × SC)} (h : ∀ x ∈ l, x.1.ok ρ.k.length ∧ x.2.ok ρ.k.length) : l.map (pairD (ρ.grow b r)) = l.map (pairD ρ) :=
 List.map_congr_left fun x hx => by simp only [pairD, SC.den_grow x.1 (h x hx).1, SC.den_grow x.2 (h x hx).2]
theorem fill_grow {ρ : Env} {b : Nat} {r : List Value} {n size : Nat} {sl : Tr SC} (hn : n < ρ.k.length) (h : ∀ i v, sl.look i = some v → v.ok ρ.k.length) : fill (ρ.grow b r) n size sl = fill ρ n size sl := by
 unfold fill
 congr 1
 apply List.map_congr_left
 intro i _
 cases hl : sl.look i with
 | none => simp only [rest_grow ρ b r hn]
 | some v => simp only [SC.den_grow v (h i v hl)]
theorem SO.den_grow {ρ : Env} {b : Nat} {r : List Value} (x : SO) (h : x.ok ρ.k.length) : x.den (ρ.grow b r) = x.den ρ := by
 cases x with
 | cells l e => simp only [SO.den, map_grow h]
 | row l e i => simp only [SO.den, map_grow h.2, rest_grow ρ b r h.1]
 | map es => simp only [SO.den, pairs_grow h]
 | pin es sh => simp only [SO.den, pairs_grow h.2, Env.shape, rest_grow ρ b r h.1]
 | itr m sh n e i => simp only [SO.den, Env.shape, blk_grow ρ b r h.1, rest_grow ρ b r h.2.1, rest_grow ρ b r h.2.2]
 | rng n size sl fn params assign body st pend d =>
  simp only [SO.den, fill_grow h.1 (fun i v hi => (h.2.2 i v hi).1), blk_grow ρ b r h.2.1]
 | chan cap buf closed ns nr tm => simp only [SO.den, map_grow h.1, IE.den_grow _ h.2.1, IE.den_grow _ h.2.2]
 | lrow k l e i => simp only [SO.den, rest_grow ρ b r h.2, list_grow ρ b r h.1]
 | tail l e i q => simp only [SO.den, map_grow h.2, rest_grow ρ b r h.1.1, rest_grow ρ b r h.1.2]
 | hrow hd k l e => simp only [SO.den, map_grow h.2, list_grow ρ b r h.1]
 | mapq q => simp only [SO.den]; rw [rest_grow ρ b r h]
 | cut off l e i q => simp only [SO.den, IE.den_grow off h.1, map_grow h.2.2, rest_grow ρ b r h.2.1.1, rest_grow ρ b r h.2.1.2]
 | ints k l e => simp only [SO.den]; rw [list_grow ρ b r h]
 | win k l j o =>
  have e : (ρ.grow b r).obj j = ρ.obj j ∧ (ρ.grow b r).int o = ρ.int o := ⟨rfl, rfl⟩
  simp only [SO.den, e.1, e.2]; rw [list_grow ρ b r h]
 | _ => rfl
theorem lok_mono {n m l : Nat} (hn : n ≤ m) (h : lok n l) : lok m l := fun hl => Nat.lt_of_lt_of_le (h hl) hn
theorem IE.ok_mono {n m : Nat} (hn : n ≤ m) : ∀ {e : IE}, e.ok n → e.ok m := by
 intro e
 induction e with
 | fn k ls x y ih1 ih2 => exact fun h => ⟨fun l hl => lok_mono hn (h.1 l hl), ih1 h.2.1, ih2 h.2.2⟩
 | nth l ix ih => exact fun h => ⟨lok_mono hn h.1, ih h.2⟩
 | len l => exact fun h => lok_mono hn h
 | room b s => exact fun h => Nat.lt_of_lt_of_le h hn
 | _ => simp_all [IE.ok]
theorem BE.ok_mono {n m : Nat} (hn : n ≤ m) : ∀ {e : BE}, e.ok n → e.ok m := by
 intro e
 induction e with
 | lt a c => exact fun h => ⟨IE.ok_mono hn h.1, IE.ok_mono hn h.2⟩
 | le a c => exact fun h => ⟨IE.ok_mono hn h.1, IE.ok_mono hn h.2⟩
 | eq a c => exact fun h => ⟨IE.ok_mono hn h.1, IE.ok_mono hn h.2⟩
 | not a ih => exact ih
 | pick c x y h1 h2 h3 => exact fun h => ⟨h1 h.1, h2 h.2.1, h3 h.2.2⟩
 | _ => exact fun h => h
mutual
theorem SC.ok_mono {n m : Nat} (hn : n ≤ m) : ∀ (x : SC), x.ok n → x.ok m
 | .any _, _ | .lit _, _ => trivial
 | .int k e, h => IE.ok_mono hn (e := e) h
 | .bool e, h => BE.ok_mono hn (e := e) h
 | .ptr i off, h => ⟨Nat.lt_of_lt_of_le h.1 hn, IE.ok_mono hn h.2⟩
 | .slice i off len cap, h => ⟨Nat.lt_of_lt_of_le h.1 hn, IE.ok_mono hn h.2.1, IE.ok_mono hn h.2.2.1, IE.ok_mono hn h.2.2.2⟩
 | .ref i, h => Nat.lt_of_lt_of_le h hn
 | .fn f first caps, h => ⟨oks_mono hn first h.1, oks_mono hn caps h.2⟩
 | .yield l, h => Nat.lt_of_lt_of_le h hn
 | .iface t x, h => SC.ok_mono hn x h
 | .agg l, h => oks_mono hn l h
 | .tup l, h => oks_mono hn l h
 | .chn i, h => Nat.lt_of_lt_of_le h hn
 | .nsl t i off len cap, h => ⟨Nat.lt_of_lt_of_le h.1 hn, IE.ok_mono hn h.2.1, IE.ok_mono hn h.2.2.1, IE.ok_mono hn h.2.2.2⟩
theorem oks_mono {n m : Nat} (hn : n ≤ m) : ∀ (l : List SC), SC.oks n l → SC.oks m l
 | [], _ => trivial
 | x :: l, h => ⟨SC.ok_mono hn x h.1, oks_mono hn l h.2⟩
end
theorem SO.ok_mono {n m : Nat} (hn : n ≤ m) {x : SO} (h : x.ok n) : x.ok m := by
 cases x with
 | cells l e => exact fun y hy => SC.ok_mono hn y (h y hy)
 | row l e i => exact ⟨Nat.lt_of_lt_of_le h.1 hn, fun y hy => SC.ok_mono hn y (h.2 y hy)⟩
 | map es => exact fun y hy => ⟨SC.ok_mono hn _ (h y hy).1, SC.ok_mono hn _ (h y hy).2⟩
 | pin es sh => exact ⟨Nat.lt_of_lt_of_le h.1 hn, fun y hy => ⟨SC.ok_mono hn _ (h.2 y hy).1, SC.ok_mono hn _ (h.2 y hy).2⟩⟩
 | itr m' sh k e i => exact ⟨Nat.lt_of_lt_of_le h.1 hn, Nat.lt_of_lt_of_le h.2.1 hn, Nat.lt_of_lt_of_le h.2.2 hn⟩
 | rng m' size sl fn params assign body st pend d => exact ⟨Nat.lt_of_lt_of_le h.1 hn, Nat.lt_of_lt_of_le h.2.1 hn, fun i v hi => ⟨SC.ok_mono hn v (h.2.2 i v hi).1, (h.2.2 i v hi).2⟩⟩
 | chan cap buf closed ns nr tm => exact ⟨fun y hy => SC.ok_mono hn y (h.1 y hy), IE.ok_mono hn h.2.1, IE.ok_mono hn h.2.2⟩
 | lrow k l e i => exact ⟨lok_mono hn h.1, Nat.lt_of_lt_of_le h.2 hn⟩
 | tail l e i q => exact ⟨⟨Nat.lt_of_lt_of_le h.1.1 hn, Nat.lt_of_lt_of_le h.1.2 hn⟩, fun y hy => SC.ok_mono hn y (h.2 y hy)⟩
 | hrow hd k l e => exact ⟨lok_mono hn h.1, fun y hy => SC.ok_mono hn y (h.2 y hy)⟩
 | mapq q => exact Nat.lt_of_lt_of_le h hn
 | cut off l e i q => exact ⟨IE.ok_mono hn h.1, ⟨Nat.lt_of_lt_of_le h.2.1.1 hn, Nat.lt_of_lt_of_le h.2.1.2 hn⟩, fun y hy => SC.ok_mono hn y (h.2.2 y hy)⟩
 | ints k l e => exact lok_mono hn h
 | win k l j o => exact lok_mono hn h
 | _ => trivial
structure SM where
 v : SC
 l : List (Nat × SO) := []
 a : Nat := 0
 n : Nat := 0
def Env.to (ρ : Env) (a : Nat) (t : List (Nat × List Value)) : Env := { ρ with k := ρ.k.take a ++ t }
def liesAt (ρ : Env) : List (Nat × SO) → Nat → Option Obj
 | [], _ => none
 | (i, o) :: l, b => if ρ.blk i = b then some (o.den ρ) else liesAt ρ l b
def SM.msg (ρ : Env) (x : SM) : Msg := (x.v.den ρ, liesAt ρ x.l)
def SM.ok (x : SM) : Prop := x.a ≤ x.n ∧ x.v.ok x.n ∧ ∀ y ∈ x.l, y.1 < x.n ∧ y.2.ok x.n
def SM.fine (ρ : Env) (x : SM) : Prop := ∀ y ∈ x.l, ∀ z ∈ x.l, ρ.blk y.1 = ρ.blk z.1 → y = z
def SM.says (ρ : Env) (x : SM) (m : Msg) : Prop := ∃ t, t.length = x.n - x.a ∧ m = x.msg (ρ.to x.a t) ∧ x.fine (ρ.to x.a t)
def Pw {α β : Type _} (R : α → β → Prop) : List α → List β → Prop
 | [], [] => True
 | x :: l, y :: m => R x y ∧ Pw R l m
 | _, _ => False
theorem Pw.congr {α β : Type _} {R R' : α → β → Prop} : ∀ {l : List α} {m : List β}, (∀ y ∈ m, ∀ x, R x y ↔ R' x y) → (Pw R l m ↔ Pw R' l m)
 | [], [], _ => Iff.rfl
 | _ :: _, [], _ => Iff.rfl
 | [], _ :: _, _ => Iff.rfl
 | x :: l, y :: m, h => and_congr (h y List.mem_cons_self x) (Pw.congr fun z hz => h z (List.mem_cons_of_mem _ hz))
def pactOf (ρ : Env) (ms : List SM) : Pact := ⟨ms.length, fun l => Pw (fun m x => x.says ρ m) l ms⟩
theorem liesAt_grow {ρ : Env} {b : Nat} {r : List Value} : ∀ {l : List (Nat × SO)}, (∀ y ∈ l, y.1 < ρ.k.length ∧ y.2.ok ρ.k.length) → liesAt (ρ.grow b r) l = liesAt ρ l
 | [], _ => rfl
 | (i, o) :: l, h => by
  funext x
  have h1 := h (i, o) List.mem_cons_self
  simp only [liesAt, blk_grow ρ b r h1.1, SO.den_grow o h1.2, liesAt_grow (l := l) fun y hy => h y (List.mem_cons_of_mem _ hy)]
theorem SM.msg_grow {ρ : Env} {b : Nat} {r : List Value} {x : SM} (h : x.ok) (hn : x.n ≤ ρ.k.length) : x.msg (ρ.grow b r) = x.msg ρ := by
 unfold SM.msg
 rw [SC.den_grow _ (SC.ok_mono hn _ h.2.1), liesAt_grow fun y hy => ⟨Nat.lt_of_lt_of_le (h.2.2 y hy).1 hn, SO.ok_mono hn (h.2.2 y hy).2⟩]
theorem Env.to_grow {ρ : Env} {b a : Nat} {r : List Value} {t : List (Nat × List Value)} (h : a ≤ ρ.k.length) : (ρ.grow b r).to a t = ρ.to a t := by
 simp only [Env.to, Env.grow, List.take_append_of_le_length h]
theorem pactOf_grow {ρ : Env} {b : Nat} {r : List Value} {ms : List SM} (h : ∀ x ∈ ms, x.a ≤ ρ.k.length) : pactOf (ρ.grow b r) ms = pactOf ρ ms := by
 unfold pactOf
 congr 1
 funext l
 apply propext
 refine Pw.congr fun x hx m => ?_
 unfold SM.says
 refine exists_congr fun t => ?_
 rw [Env.to_grow (h x hx)]
inductive SGh where
 | none
 | any (i : Nat)
 | main (ty : TypeId) (iW iC cap : Nat) (tm : Bool) (lent : List Nat) (ps : List (List SM))
 | work (ty : TypeId) (iW iC cap : Nat) (tm : Bool) (ms : List SM) (n : Nat)
 | frz (z : Nat)
 | head (iC : Nat) (tm : Bool) (ms : List SC)
 | hand (iC : Nat) (tm : Bool) (v : SC)
def loudGh (g : Gh) : Gh := match g.quiet with
 | true => .none
 | false => g
theorem loudGh_loud (g : Gh) : (loudGh g).quiet = false := by
 unfold loudGh
 split
 ·rfl
 ·assumption
def Env.grp (ρ : Env) (ty : TypeId) (iW iC cap : Nat) (tm : Bool) : Grp := ⟨ty, ρ.blk iW, ρ.blk iC, cap, tm⟩
def SGh.den (ρ : Env) : SGh → Gh
 | .none | .frz _ => .none
 | .any i => loudGh (ρ.g.getD i .none)
 | .main ty iW iC cap tm lent ps => .main (ρ.grp ty iW iC cap tm) (fun b => ∃ i ∈ lent, ρ.blk i = b) (.op false false) (ps.map (pactOf ρ))
 | .work ty iW iC cap tm ms n => .work (ρ.grp ty iW iC cap tm) .work (pactOf ρ ms) ((ms.take n).map (SM.msg ρ))
 | .head iC tm ms => .head (ρ.blk iC) tm (ms.map (SC.den ρ))
 | .hand iC tm v => .hand (ρ.blk iC) tm (v.den ρ)
def SGh.ok (ρ : Env) : SGh → Prop
 | .main _ iW iC _ _ lent ps => iW < ρ.k.length ∧ iC < ρ.k.length ∧ (∀ i ∈ lent, i < ρ.k.length) ∧ ∀ ms ∈ ps, ∀ x ∈ ms, x.a ≤ ρ.k.length ∧ x.ok
 | .work _ iW iC _ _ ms n => iW < ρ.k.length ∧ iC < ρ.k.length ∧ (∀ x ∈ ms, x.a ≤ ρ.k.length ∧ x.ok) ∧ ∀ x ∈ ms.take n, x.n ≤ ρ.k.length ∧ x.fine ρ
 | .head iC _ ms => iC < ρ.k.length ∧ ∀ x ∈ ms, x.ok ρ.k.length
 | .hand iC _ v => iC < ρ.k.length ∧ v.ok ρ.k.length
 | _ => True
def frzV : Value → Option (Nat × Obj)
 | .agg ⟨[.pointer (some a), .int _ t, .agg cs]⟩ => some (a.block, .cells cs t.toNat (0, 0))
 | _ => none
def frzL (r : List Value) : List (Nat × Obj) := r.filterMap frzV
structure ZOk (ρ : Env) (z : Nat) (F S : Own) (rw : Tr SO) : Prop where
 lt : z < ρ.k.length
 nd : ((frzL (ρ.rest z)).map Prod.fst).Nodup
 full : ∀ x ∈ frzL (ρ.rest z), S.full x.1 = some x.2
 off : ∀ x ∈ frzL (ρ.rest z), F.full x.1 = none
 apart : ∀ x ∈ frzL (ρ.rest z), ∀ i o, rw.look i = some o → ρ.blk i ≠ x.1
def SGh.zOk (ρ : Env) (F S : Own) (rw : Tr SO) : SGh → Prop
 | .frz z => ZOk ρ z F S rw
 | _ => True
theorem SGh.zOk_of {ρ ρ' : Env} {F F' S S' : Own} {rw rw' : Tr SO} {s : SGh} (h : s.zOk ρ F S rw) (hk : ρ.k.length ≤ ρ'.k.length) (hr : ∀ i, i < ρ.k.length → ρ'.rest i = ρ.rest i)
  (hS : ∀ b o, S.full b = some o → F.full b = Option.none → (∀ i o, rw.look i = some o → ρ.blk i ≠ b) → S'.full b = some o ∧ F'.full b = Option.none ∧ ∀ i o, rw'.look i = some o → ρ'.blk i ≠ b) : s.zOk ρ' F' S' rw' := by
 cases s with
 | frz z =>
  have e := hr z h.lt
  have k := fun x hx => hS x.1 x.2 (h.full x hx) (h.off x hx) (h.apart x hx)
  exact ⟨Nat.lt_of_lt_of_le h.lt hk, by rw [e]; exact h.nd, by rw [e]; exact fun x hx => (k x hx).1, by rw [e]; exact fun x hx => (k x hx).2.1, by rw [e]; exact fun x hx => (k x hx).2.2⟩
 | _ => trivial
def SGh.lents : SGh → List Nat
 | .main _ _ _ _ _ lent _ => lent
 | _ => []
theorem SGh.loud (ρ : Env) (s : SGh) : (s.den ρ).quiet = false := by
 cases s
 ·rfl
 ·exact loudGh_loud _
 all_goals rfl
theorem SGh.lents_ok {ρ : Env} {s : SGh} (hs : s.ok ρ) : ∀ i ∈ s.lents, i < ρ.k.length := by
 cases s with
 | main ty iW iC cap tm lent m' => exact hs.2.2.1
 | _ => exact fun i hi => (by cases hi)
theorem SGh.ok_grow {ρ : Env} {b : Nat} {r : List Value} {s : SGh} (hs : s.ok ρ) : s.ok (ρ.grow b r) := by
 have hl : ρ.k.length ≤ (ρ.grow b r).k.length := by simp
 cases s with
 | main ty iW iC cap tm lent m' => exact ⟨Nat.lt_of_lt_of_le hs.1 hl, Nat.lt_of_lt_of_le hs.2.1 hl, fun i hi => Nat.lt_of_lt_of_le (hs.2.2.1 i hi) hl, fun ms hm x hx => ⟨Nat.le_trans (hs.2.2.2 ms hm x hx).1 hl, (hs.2.2.2 ms hm x hx).2⟩⟩
 | work ty iW iC cap tm ms m' =>
  refine ⟨Nat.lt_of_lt_of_le hs.1 hl, Nat.lt_of_lt_of_le hs.2.1 hl, fun x hx => ⟨Nat.le_trans (hs.2.2.1 x hx).1 hl, (hs.2.2.1 x hx).2⟩, fun x hx => ⟨Nat.le_trans (hs.2.2.2 x hx).1 hl, fun y hy z hz e => ?_⟩⟩
  have hok := (hs.2.2.1 x (List.mem_of_mem_take hx)).2
  obtain ⟨h1, h2⟩ := hs.2.2.2 x hx
  rw [blk_grow ρ b r (Nat.lt_of_lt_of_le (hok.2.2 y hy).1 h1), blk_grow ρ b r (Nat.lt_of_lt_of_le (hok.2.2 z hz).1 h1)] at e
  exact h2 y hy z hz e
 | head iC tm ms => exact ⟨Nat.lt_of_lt_of_le hs.1 hl, fun x hx => SC.ok_mono hl x (hs.2 x hx)⟩
 | hand iC tm v => exact ⟨Nat.lt_of_lt_of_le hs.1 hl, SC.ok_mono hl v hs.2⟩
 | _ => trivial
theorem SGh.den_grow {ρ : Env} {b : Nat} {r : List Value} (s : SGh) (hs : s.ok ρ) : s.den (ρ.grow b r) = s.den ρ := by
 cases s with
 | main ty iW iC cap tm lent m' =>
  have e : (fun x => ∃ i ∈ lent, (ρ.grow b r).blk i = x) = fun x => ∃ i ∈ lent, ρ.blk i = x := by
   funext x
   apply propext
   constructor
   ·rintro ⟨i, hi, h⟩; exact ⟨i, hi, by rw [← blk_grow ρ b r (hs.2.2.1 i hi)]; exact h⟩
   ·rintro ⟨i, hi, h⟩; exact ⟨i, hi, by rw [blk_grow ρ b r (hs.2.2.1 i hi)]; exact h⟩
  have e2 : m'.map (pactOf (ρ.grow b r)) = m'.map (pactOf ρ) := List.map_congr_left fun ms hm => pactOf_grow fun x hx => (hs.2.2.2 ms hm x hx).1
  simp only [SGh.den, Env.grp, e, e2, blk_grow ρ b r hs.1, blk_grow ρ b r hs.2.1]
 | work ty iW iC cap tm ms m' =>
  have e2 : (ms.take m').map (SM.msg (ρ.grow b r)) = (ms.take m').map (SM.msg ρ) := List.map_congr_left fun x hx => SM.msg_grow (hs.2.2.1 x (List.mem_of_mem_take hx)).2 (hs.2.2.2 x hx).1
  simp only [SGh.den, Env.grp, e2, pactOf_grow fun x hx => (hs.2.2.1 x hx).1, blk_grow ρ b r hs.1, blk_grow ρ b r hs.2.1]
 | head iC tm ms =>
  have e : ms.map (SC.den (ρ.grow b r)) = ms.map (SC.den ρ) := List.map_congr_left fun x hx => SC.den_grow x (hs.2 x hx)
  simp only [SGh.den, e, blk_grow ρ b r hs.1]
 | hand iC tm v => simp only [SGh.den, SC.den_grow v hs.2, blk_grow ρ b r hs.1]
 | _ => rfl
structure Hp where
 rw : Tr SO := .nil
 ro : Tr SO := .nil
 gh : SGh := .none
def Hp.get (hp : Hp) (i : Nat) : Option SO := match hp.rw.look i with
 | some o => some o
 | none => hp.ro.look i
def Knows (ρ : Env) (sl : Tr SC) (a : St) : Prop := ∀ d v, sl.look d = some v → v.ok ρ.k.length ∧ a.tmps[d]? = some (v.den ρ)
structure Sat (ρ : Env) (hp : Hp) (F S : Own) : Prop where
 has : ∀ i o, hp.rw.look i = some o → i < ρ.k.length ∧ o.ok ρ.k.length ∧ S.full (ρ.blk i) = some (o.den ρ)
 hro : ∀ i o, hp.ro.look i = some o → i < ρ.k.length ∧ o.ok ρ.k.length ∧ S.ro (ρ.blk i) = some (o.den ρ)
 inj : ∀ i j o o', hp.rw.look i = some o → hp.rw.look j = some o' → ρ.blk i = ρ.blk j → i = j
 frm : ∀ b o, F.full b = some o → S.full b = some o
 apart : ∀ i o, hp.rw.look i = some o → F.full (ρ.blk i) = none
 ro : ∀ b o, F.ro b = some o → S.ro b = some o
 gh : S.gh = hp.gh.den ρ
 dis : ∀ b, (S.full b).isSome → S.ro b = none
 ghok : hp.gh.ok ρ
 lent : ∀ i ∈ hp.gh.lents, F.ro (ρ.blk i) = none ∧ (S.ro (ρ.blk i)).isSome
 linj : ∀ i ∈ hp.gh.lents, ∀ j ∈ hp.gh.lents, ρ.blk i = ρ.blk j → i = j
 rinj : ∀ i ∈ hp.gh.lents, ∀ j o, hp.ro.look j = some o → ρ.blk i = ρ.blk j → i = j
 lnd : hp.gh.lents.Nodup
 frz : hp.gh.zOk ρ F S hp.rw
theorem Sat.loud {ρ : Env} {hp : Hp} {F S : Own} (h : Sat ρ hp F S) : Loud S := ⟨by rw [h.gh]; exact SGh.loud ρ _⟩
theorem Sat.get {ρ : Env} {hp : Hp} {F S : Own} (h : Sat ρ hp F S) {i : Nat} {o : SO} (hi : hp.get i = some o) : i < ρ.k.length ∧ o.ok ρ.k.length ∧ S.get (ρ.blk i) = some (o.den ρ) := by
 unfold Hp.get at hi
 split at hi
 ·rename_i o' ho
  cases hi
  obtain ⟨h1, h2, h3⟩ := h.has i o ho
  exact ⟨h1, h2, by unfold Own.get; rw [h3]; rfl⟩
 ·obtain ⟨h1, h2, h3⟩ := h.hro i o hi
  refine ⟨h1, h2, ?_⟩
  unfold Own.get
  cases hf : S.full (ρ.blk i) with
  | none => rw [h3]; rfl
  | some x => have := h.dis (ρ.blk i) (by simp [hf]); rw [h3] at this; cases this
theorem Sat.grow {ρ : Env} {hp : Hp} {F S : Own} {b : Nat} {r : List Value} (h : Sat ρ hp F S) : Sat (ρ.grow b r) hp F S where
 has i o hi := by
  obtain ⟨h1, h2, h3⟩ := h.has i o hi
  refine ⟨by simp; omega, SO.ok_mono (by simp) h2, ?_⟩
  rw [blk_grow ρ b r h1, SO.den_grow o h2]; exact h3
 hro i o hi := by
  obtain ⟨h1, h2, h3⟩ := h.hro i o hi
  refine ⟨by simp; omega, SO.ok_mono (by simp) h2, ?_⟩
  rw [blk_grow ρ b r h1, SO.den_grow o h2]; exact h3
 inj i j o o' hi hj e := by
  rw [blk_grow ρ b r (h.has i o hi).1, blk_grow ρ b r (h.has j o' hj).1] at e
  exact h.inj i j o o' hi hj e
 frm := h.frm
 apart i o hi := by rw [blk_grow ρ b r (h.has i o hi).1]; exact h.apart i o hi
 ro := h.ro
 gh := by rw [SGh.den_grow _ h.ghok]; exact h.gh
 dis := h.dis
 ghok := SGh.ok_grow h.ghok
 lent i hi := by rw [blk_grow ρ b r (SGh.lents_ok h.ghok i hi)]; exact h.lent i hi
 linj i hi j hj e := by
  rw [blk_grow ρ b r (SGh.lents_ok h.ghok i hi), blk_grow ρ b r (SGh.lents_ok h.ghok j hj)] at e
  exact h.linj i hi j hj e
 rinj i hi j o hj e := by
  rw [blk_grow ρ b r (SGh.lents_ok h.ghok i hi), blk_grow ρ b r (h.hro j o hj).1] at e
  exact h.rinj i hi j o hj e
 lnd := h.lnd
 frz := SGh.zOk_of h.frz (by simp) (fun i hi => rest_grow ρ b r hi) fun x o h1 h2 h3 => ⟨h1, h2, fun i u hi => by rw [blk_grow ρ b r (h.has i u hi).1]; exact h3 i u hi⟩
theorem Knows.grow {ρ : Env} {sl : Tr SC} {a : St} {b : Nat} {r : List Value} (h : Knows ρ sl a) : Knows (ρ.grow b r) sl a := fun d v hd => by
 obtain ⟨h1, h2⟩ := h d v hd
 exact ⟨SC.ok_mono (by simp) v h1, by rw [SC.den_grow v h1]; exact h2⟩
theorem Knows.put {ρ : Env} {sl : Tr SC} {a : St} {d : Nat} {v : SC} (h : Knows ρ sl a) (hd : d < a.tmps.size) (hv : v.ok ρ.k.length) : Knows ρ (sl.set d v) (a.put (some d) (v.den ρ)) := by
 intro x u hx
 show _ ∧ (a.tmps.setIfInBounds d (v.den ρ))[x]? = _
 rw [Array.getElem?_setIfInBounds]
 rcases Tr.look_set hx with ⟨rfl, rfl⟩ | ⟨e, hx⟩
 ·exact ⟨hv, by simp [hd]⟩
 ·rw [if_neg (Ne.symm e)]; exact h x u hx
theorem Sat.put {ρ : Env} {hp : Hp} {F S : Own} {i : Nat} {o o' : SO} (h : Sat ρ hp F S) (hi : hp.rw.look i = some o) (ho : o'.ok ρ.k.length) : Sat ρ { hp with rw := hp.rw.set i o' } F (S.set (ρ.blk i) (o'.den ρ)) where
 has j u hj := by
  rcases Tr.look_set hj with ⟨rfl, rfl⟩ | ⟨e, hj⟩
  ·exact ⟨(h.has _ _ hi).1, ho, by simp⟩
  ·obtain ⟨h1, h2, h3⟩ := h.has j u hj
   refine ⟨h1, h2, ?_⟩
   rw [Own.set_full, if_neg (fun e' => e (h.inj _ _ _ _ hj hi e'))]; exact h3
 hro j u hj := h.hro j u hj
 inj j j' u u' hj hj' e := by
  have key : ∀ {x w}, (hp.rw.set i o').look x = some w → ∃ w', hp.rw.look x = some w' := fun {x w} hx => by
   rcases Tr.look_set hx with ⟨rfl, _⟩ | ⟨_, hx⟩
   ·exact ⟨o, hi⟩
   ·exact ⟨w, hx⟩
  obtain ⟨w, hw⟩ := key hj
  obtain ⟨w', hw'⟩ := key hj'
  exact h.inj _ _ _ _ hw hw' e
 frm b ob hb := by
  rw [Own.set_full]
  split
  ·rename_i e; subst e; rw [h.apart i o hi] at hb; cases hb
  ·exact h.frm b ob hb
 apart j u hj := by
  rcases Tr.look_set hj with ⟨rfl, rfl⟩ | ⟨_, hj⟩
  ·exact h.apart _ o hi
  ·exact h.apart j u hj
 ro := h.ro
 gh := h.gh
 ghok := h.ghok
 lent := h.lent
 linj := h.linj
 rinj := h.rinj
 lnd := h.lnd
 frz := SGh.zOk_of h.frz (Nat.le_refl _) (fun _ _ => rfl) fun x ob h1 h2 h3 => ⟨by rw [Own.set_full, if_neg (Ne.symm (h3 i o hi))]; exact h1, h2, fun j u hj => by
  rcases Tr.look_set hj with ⟨rfl, _⟩ | ⟨_, hj⟩
  ·exact h3 _ o hi
  ·exact h3 j u hj⟩
 dis b hb := by
  rw [Own.set_full] at hb
  split at hb
  ·rename_i e; subst e; exact h.dis _ (by rw [(h.has i o hi).2.2]; rfl)
  ·exact h.dis b hb
theorem Sat.lose {ρ : Env} {hp : Hp} {F S : Own} {i : Nat} {o : SO} (h : Sat ρ hp F S) (hi : hp.rw.look i = some o) (ob : Obj) : Sat ρ { hp with rw := hp.rw.del i } F (S.set (ρ.blk i) ob) where
 has j u hj := by
  obtain ⟨hji, hj⟩ := Tr.look_del hj
  obtain ⟨h1, h2, h3⟩ := h.has j u hj
  refine ⟨h1, h2, ?_⟩
  rw [Own.set_full, if_neg (fun e' => hji (h.inj _ _ _ _ hj hi e'))]; exact h3
 hro j u hj := h.hro j u hj
 inj j j' u u' hj hj' e := h.inj _ _ _ _ (Tr.look_del hj).2 (Tr.look_del hj').2 e
 frm b x hb := by
  rw [Own.set_full]
  split
  ·rename_i e; subst e; rw [h.apart i o hi] at hb; cases hb
  ·exact h.frm b x hb
 apart j u hj := h.apart j u (Tr.look_del hj).2
 ro := h.ro
 gh := h.gh
 ghok := h.ghok
 lent := h.lent
 linj := h.linj
 rinj := h.rinj
 lnd := h.lnd
 frz := SGh.zOk_of h.frz (Nat.le_refl _) (fun _ _ => rfl) fun x ob' h1 h2 h3 => ⟨by rw [Own.set_full, if_neg (Ne.symm (h3 i o hi))]; exact h1, h2, fun j u hj => h3 j u (Tr.look_del hj).2⟩
 dis b hb := by
  rw [Own.set_full] at hb
  split at hb
  ·rename_i e; subst e; exact h.dis _ (by rw [(h.has i o hi).2.2]; rfl)
  ·exact h.dis b hb
theorem Sat.new {ρ : Env} {hp : Hp} {F S : Own} {b : Nat} {r : List Value} {o : SO} (h : Sat ρ hp F S) (hb : S.full b = none) (hr : S.ro b = none) (ho : o.ok (ρ.k.length + 1)) :
  Sat (ρ.grow b r) { hp with rw := hp.rw.set ρ.k.length o } F (S.set b (o.den (ρ.grow b r))) := by
 have hg := h.grow (b := b) (r := r)
 have hne : ∀ j u, hp.rw.look j = some u → (ρ.grow b r).blk j ≠ b := fun j u hj e => by
  have := (hg.has j u hj).2.2
  rw [e, hb] at this; cases this
 exact {
  has := fun j u hj => by
   rcases Tr.look_set hj with ⟨rfl, rfl⟩ | ⟨e, hj⟩
   ·exact ⟨by simp, by simpa using ho, by simp⟩
   ·obtain ⟨h1, h2, h3⟩ := hg.has j u hj
    exact ⟨h1, h2, by rw [Own.set_full, if_neg (hne j u hj)]; exact h3⟩
  hro := fun j u hj => hg.hro j u hj
  inj := fun j j' u u' hj hj' e => by
   rcases Tr.look_set hj with ⟨rfl, _⟩ | ⟨_, hj⟩ <;> rcases Tr.look_set hj' with ⟨rfl, _⟩ | ⟨_, hj'⟩
   ·rfl
   ·rw [blk_new] at e; exact absurd e.symm (hne _ _ hj')
   ·rw [blk_new] at e; exact absurd e (hne _ _ hj)
   ·exact hg.inj _ _ _ _ hj hj' e
  frm := fun x ob hx => by
   rw [Own.set_full]
   split
   ·rename_i e; subst e; rw [h.frm _ _ hx] at hb; cases hb
   ·exact h.frm x ob hx
  apart := fun j u hj => by
   rcases Tr.look_set hj with ⟨rfl, _⟩ | ⟨_, hj⟩
   ·rw [blk_new]
    cases hf : F.full b with
    | none => rfl
    | some x => rw [h.frm _ _ hf] at hb; cases hb
   ·exact hg.apart j u hj
  ro := h.ro
  gh := hg.gh
  ghok := hg.ghok
  lent := hg.lent
  linj := hg.linj
  rinj := hg.rinj
  lnd := hg.lnd
  frz := SGh.zOk_of hg.frz (Nat.le_refl _) (fun _ _ => rfl) fun x ob h1 h2 h3 => by
   have hx : b ≠ x := fun e => by rw [← e, hb] at h1; cases h1
   exact ⟨by rw [Own.set_full, if_neg (Ne.symm hx)]; exact h1, h2, fun j u hj => by
    rcases Tr.look_set hj with ⟨rfl, _⟩ | ⟨_, hj⟩
    ·rw [blk_new]; exact hx
    ·exact h3 j u hj⟩
  dis := fun x hx => by
   rw [Own.set_full] at hx
   show S.ro x = none
   split at hx
   ·rename_i e; subst e; exact hr
   ·exact h.dis x hx }
theorem Sat.less {ρ : Env} {hp hp' : Hp} {F S : Own} (h : Sat ρ hp F S) (hg : hp'.gh = hp.gh) (h1 : ∀ i o, hp'.rw.look i = some o → hp.rw.look i = some o) (h2 : ∀ i o, hp'.ro.look i = some o → hp.ro.look i = some o) : Sat ρ hp' F S where
 has i o hi := h.has i o (h1 i o hi)
 hro i o hi := h.hro i o (h2 i o hi)
 inj i j o o' hi hj e := h.inj i j o o' (h1 _ _ hi) (h1 _ _ hj) e
 frm := h.frm
 apart i o hi := h.apart i o (h1 _ _ hi)
 ro := h.ro
 gh := by rw [hg]; exact h.gh
 ghok := by rw [hg]; exact h.ghok
 lent := by rw [hg]; exact h.lent
 linj := by rw [hg]; exact h.linj
 rinj i hi j o hj := h.rinj i (by rw [← hg]; exact hi) j o (h2 j o hj)
 lnd := by rw [hg]; exact h.lnd
 frz := by rw [hg]; exact SGh.zOk_of h.frz (Nat.le_refl _) (fun _ _ => rfl) fun x o k1 k2 k3 => ⟨k1, k2, fun i u hi => k3 i u (h1 i u hi)⟩
 dis := h.dis
def ofSc : Value → SC
 | .int k n => .int k (.lit n)
 | .bool b => .bool (.lit b)
 | v => .lit v
theorem den_ofSc (ρ : Env) (v : Value) : (ofSc v).den ρ = v := by cases v <;> rfl
theorem ok_ofSc (n : Nat) (v : Value) : (ofSc v).ok n := by cases v <;> trivial
def ofVal : Value → SC
 | .agg cs => .agg (cs.toList.map ofSc)
 | v => ofSc v
theorem den_ofVal (ρ : Env) (v : Value) : (ofVal v).den ρ = v := by
 cases v with
 | agg cs =>
  have : (SC.den ρ ∘ ofSc) = id := funext fun v => den_ofSc ρ v
  show Value.agg (dens ρ (cs.toList.map ofSc)).toArray = _
  rw [dens_eq, List.map_map, this]; simp
 | _ => rfl
theorem ok_ofVal (n : Nat) (v : Value) : (ofVal v).ok n := by
 cases v with
 | agg cs =>
  refine oks_iff.2 fun x hx => ?_
  obtain ⟨y, _, rfl⟩ := List.mem_map.1 hx
  exact ok_ofSc n y
 | _ => trivial
open Go Mv
def Int.same : Int → Int → Bool
 | .ofNat a, .ofNat b => Nat.beq a b
 | .negSucc a, .negSucc b => Nat.beq a b
 | _, _ => false
theorem Int.same_eq (a b : Int) : Int.same a b = (a == b) := by
 cases a <;> cases b <;> simp only [Int.same]
 ·rename_i a b; rw [Bool.eq_iff_iff]; simp [Nat.beq_eq]; omega
 ·rename_i a b; rfl
 ·rename_i a b; rfl
 ·rename_i a b; rw [Bool.eq_iff_iff]; simp [Nat.beq_eq]
def Int.less : Int → Int → Bool
 | .ofNat a, .ofNat b => Nat.ble (a + 1) b
 | .negSucc _, .ofNat _ => true
 | .ofNat _, .negSucc _ => false
 | .negSucc a, .negSucc b => Nat.ble (b + 1) a
theorem Int.less_eq (a b : Int) : Int.less a b = decide (a < b) := by
 cases a <;> cases b <;> simp only [Int.less]
 ·rename_i a b; rw [Bool.eq_iff_iff]; simp [Nat.ble_eq]; omega
 ·rename_i a b; symm; simp only [decide_eq_false_iff_not]; have : (0 : Int) ≤ Int.ofNat a := Int.natCast_nonneg a; omega
 ·rename_i a b; symm; simp only [decide_eq_true_eq]; have : (0 : Int) ≤ Int.ofNat b := Int.natCast_nonneg b; omega
 ·rename_i a b; rw [Bool.eq_iff_iff]; simp only [Nat.ble_eq, decide_eq_true_eq]; omega
def IE.plusL (m : Int) (b : IE) : IE := match b with
 | .lit n => .lit (m + n)
 | b => match Int.same m 0 with
  | true => b
  | false => .add (.lit m) b
def IE.plusR (a b : IE) : IE := match b with
 | .lit n => match Int.same n 0 with
  | true => a
  | false => .add a (.lit n)
 | b => .add a b
def IE.plus (a b : IE) : IE := match a with
 | .lit m => IE.plusL m b
 | a => IE.plusR a b
theorem IE.den_plus (ρ : Env) (a b : IE) : (IE.plus a b).den ρ = a.den ρ + b.den ρ := by
 have hL : ∀ m b, (IE.plusL m b).den ρ = m + b.den ρ := by
  intro m b
  unfold IE.plusL
  split
  ·rfl
  ·split
   ·rename_i h
    rw [Int.same_eq] at h
    have : m = 0 := by simpa using h
    omega
   ·rfl
 have hR : ∀ a b, (IE.plusR a b).den ρ = a.den ρ + b.den ρ := by
  intro a b
  unfold IE.plusR
  split
  ·rename_i n
   split
   ·rename_i h
    rw [Int.same_eq] at h
    have : n = 0 := by simpa using h
    simp only [IE.den]; omega
   ·rfl
  ·rfl
 unfold IE.plus
 split
 ·exact hL _ _
 ·exact hR _ _
def IE.times (j : IE) (n : Nat) : IE := match j with
 | .lit m => .lit (m * n)
 | j => match Nat.beq n 1 with
  | true => j
  | false => .mul j (.lit n)
theorem IE.den_times (ρ : Env) (j : IE) (n : Nat) : (IE.times j n).den ρ = j.den ρ * n := by
 unfold IE.times
 split
 ·rfl
 ·split
  ·rename_i h
   have := Nat.eq_of_beq_eq_true h
   subst this; simp
  ·rfl
def IE.wrp (k : IntKind) : IE → IE
 | .lit n => .lit (k.wrap n)
 | e => .wrap k e
theorem IE.den_wrp (ρ : Env) (k : IntKind) (e : IE) : (IE.wrp k e).den ρ = k.wrap (e.den ρ) := by
 cases e <;> rfl
def notNeg : IE → List BE
 | .lit n => if 0 ≤ n then [] else [.lit false]
 | e => [.le (.lit 0) e]
def allTrue (ρ : Env) (l : List BE) : Prop := ∀ c ∈ l, c.den ρ = true
theorem notNeg_den {ρ : Env} {e : IE} (h : allTrue ρ (notNeg e)) : 0 ≤ e.den ρ := by
 unfold notNeg at h
 split at h
 ·rename_i n
  by_cases hn : 0 ≤ n
  ·exact hn
  ·rw [if_neg hn] at h; have := h (.lit false) (by simp); simp [BE.den] at this
 ·have := h _ List.mem_cons_self
  exact of_decide_eq_true this
section
variable {P : Program} {S0 S : Own}
theorem Run.of_eq {α : Type} {s s' : Sem α} {K : Except Value α → Own → Prop} (e : s = s') (h : Run P S0 s' S K) : Run P S0 s S K := e ▸ h
end
section
variable {P : Program} {S0 S : Own} {α : Type} {K : Except Value α → Own → Prop}
theorem run_underlying {t : TypeId} {d : TypeDesc} {f : TypeDesc → Sem α} (h : P.underlying t = some d) (hf : Run P S0 (f d) S K) : Run P S0 ((underlying t).bind f) S K := fun w0 w h0 hm => by
 show okRun P _ ((match P.underlying t with | some d => pure d | none => stuck "no such type" : Sem TypeDesc).bind f) w _
 rw [h]; exact hf w0 w h0 hm
theorem run_typeInfo {t : TypeId} {i : TypeInfo} {f : TypeInfo → Sem α} (h : P.info? t = some i) (hf : Run P S0 (f i) S K) : Run P S0 ((typeInfo t).bind f) S K := fun w0 w h0 hm => by
 show okRun P _ ((match P.info? t with | some i => pure i | none => stuck "no such type" : Sem TypeInfo).bind f) w _
 rw [h]; exact hf w0 w h0 hm
theorem run_sizeOf {t : TypeId} {i : TypeInfo} {f : Nat → Sem α} (h : P.info? t = some i) (hf : Run P S0 (f i.size) S K) : Run P S0 ((Go.sizeOf t).bind f) S K := fun w0 w h0 hm => by
 show okRun P _ (((match P.info? t with | some i => pure i | none => stuck "no such type" : Sem TypeInfo).bind fun i => pure i.size).bind f) w _
 rw [h]; exact hf w0 w h0 hm
theorem run_zeroValue {t : TypeId} {i : TypeInfo} {v : Value} {f : Value → Sem α} (h : P.info? t = some i) (hv : i.zero = some v) (hf : Run P S0 (f v) S K) : Run P S0 ((zeroValue t).bind f) S K := fun w0 w h0 hm => by
 show okRun P _ (((match P.info? t with | some i => pure i | none => stuck "no such type" : Sem TypeInfo).bind fun i => match i.zero with | some v => pure v | none => unsupported (.resourceLimit _)).bind f) w _
 rw [h]
 show okRun P _ ((match i.zero with | some v => pure v | none => unsupported (.resourceLimit _) : Sem Value).bind f) w _
 rw [hv]; exact hf w0 w h0 hm
def aggDesc : TypeDesc → Bool
 | .struct _ | .array _ _ => true
 | _ => false
theorem run_isAgg {t : TypeId} {d : TypeDesc} {f : Bool → Sem α} (h : P.underlying t = some d) (hf : Run P S0 (f (aggDesc d)) S K) : Run P S0 ((isAgg t).bind f) S K := fun w0 w h0 hm => by
 show okRun P _ (((match P.underlying t with | some d => pure d | none => stuck "no such type" : Sem TypeDesc).bind fun d => match d with | .struct _ | .array _ _ => pure true | _ => pure false).bind f) w _
 rw [h]
 cases d <;> exact hf w0 w h0 hm
theorem add_off (b o i : Nat) : Addr.add ⟨b, o, none⟩ i = ⟨b, o + i, none⟩ := by
 unfold Addr.add
 split
 ·rename_i h; subst h; rfl
 ·rfl
theorem run_loadCells {b o : Nat} {c : Array Value} {e : TypeId} {fz : Nat × Nat} {f : Array Value → Sem α} (hb : S.get b = some (.cells c e fz)) : ∀ (n i : Nat) (acc : Array Value), o + i + n ≤ c.size →
  Run P S0 (f (acc ++ c.extract (o + i) (o + i + n))) S K → Run P S0 ((loadCellsFrom ⟨b, o, none⟩ i n acc).bind f) S K := by
 intro n
 induction n with
 | zero =>
  intro i acc hn hf
  have : acc ++ c.extract (o + i) (o + i + 0) = acc := by apply Array.ext'; simp
  rw [this] at hf
  exact hf
 | succ n ih =>
  intro i acc hn hf
  have hlt : o + i < c.size := by omega
  show Run P S0 (.load .plain (Addr.add ⟨b, o, none⟩ i) fun v => (loadCellsFrom ⟨b, o, none⟩ (i + 1) n (acc.push v)).bind f) S K
  rw [add_off]
  refine Run.load (a := ⟨b, o + i, none⟩) hb rfl (Array.getElem?_eq_getElem hlt) (ih (i + 1) _ (by omega) ?_)
  have e1 : acc.push c[o + i] ++ c.extract (o + (i + 1)) (o + (i + 1) + n) = acc ++ c.extract (o + i) (o + i + (n + 1)) := by
   apply Array.ext'
   simp only [Array.toList_append, Array.toList_push, Array.toList_extract, List.append_assoc, List.extract_eq_take_drop]
   congr 1
   rw [show o + (i + 1) = o + i + 1 from by omega, show o + i + 1 + n - (o + i + 1) = n from by omega, show o + i + (n + 1) - (o + i) = n + 1 from by omega]
   rw [List.drop_eq_getElem_cons (l := c.toList) (i := o + i) (by simpa using hlt)]
   simp
  rw [e1]; exact hf
theorem run_load {a : Addr} {c : Array Value} {e : TypeId} {fz : Nat × Nat} {v : Value} {f : Value → Sem α} (hb : S.get a.block = some (.cells c e fz)) (hs : a.spot = none) (hv : c[a.off]? = some v) (hf : Run P S0 (f v) S K) :
  Run P S0 ((load a).bind f) S K := Run.load hb hs hv hf
theorem run_loadVar_one {b o : Nat} {c : Array Value} {e : TypeId} {fz : Nat × Nat} {t : TypeId} {d : TypeDesc} {v : Value} {f : Value → Sem α} (hb : S.get b = some (.cells c e fz)) (h : P.underlying t = some d) (ha : aggDesc d = false)
  (hv : c[o]? = some v) (hf : Run P S0 (f v) S K) : Run P S0 ((loadVar t ⟨b, o, none⟩).bind f) S K := by
 unfold loadVar
 simp only [bind]
 rw [Sem.bind_assoc']
 refine run_isAgg h ?_
 simp only [ha]
 exact run_load hb rfl hv hf
theorem run_loadVar_agg {b o : Nat} {c : Array Value} {e : TypeId} {fz : Nat × Nat} {t : TypeId} {d : TypeDesc} {i : TypeInfo} {f : Value → Sem α} (hb : S.get b = some (.cells c e fz)) (h : P.underlying t = some d) (ha : aggDesc d = true)
  (hi : P.info? t = some i) (hn : o + i.size ≤ c.size) (hf : Run P S0 (f (.agg (c.extract o (o + i.size)))) S K) : Run P S0 ((loadVar t ⟨b, o, none⟩).bind f) S K := by
 unfold loadVar
 simp only [bind]
 rw [Sem.bind_assoc']
 refine run_isAgg h ?_
 simp only [ha, if_true]
 rw [Sem.bind_assoc']
 refine run_sizeOf hi ?_
 rw [Sem.bind_assoc']
 refine run_loadCells hb _ 0 #[] (by omega) ?_
 have e : (#[] ++ c.extract (o + 0) (o + 0 + i.size)) = c.extract o (o + i.size) := by simp
 rw [e]; exact hf
theorem run_storeCells {b o : Nat} {e : TypeId} {f : Unit → Sem α} : ∀ (vs : List Value) (i : Nat) (c : Array Value) (S : Own), S.full b = some (.cells c e (0, 0)) → o + i + vs.length ≤ c.size → (∀ v ∈ vs, isOne v = true) →
  (∀ c' S', S'.full b = some (.cells c' e (0, 0)) → c'.size = c.size → (∀ j, c'[j]? = if o + i ≤ j ∧ j < o + i + vs.length then vs[j - (o + i)]? else c[j]?) → (∀ o', S.set b o' = S'.set b o') → Run P S0 (f ()) S' K) →
  Run P S0 ((storeCells ⟨b, o, none⟩ vs i).bind f) S K := by
 intro vs
 induction vs with
 | nil =>
  intro i c S hb _ _ hf
  refine hf c S hb rfl (fun j => ?_) (fun _ => rfl)
  rw [if_neg]; simp only [List.length_nil]; omega
 | cons v vs ih =>
  intro i c S hb hn h1 hf
  simp only [List.length_cons] at hn
  show Run P S0 (.store .plain (Addr.add ⟨b, o, none⟩ i) v ((storeCells ⟨b, o, none⟩ vs (i + 1)).bind f)) S K
  rw [add_off]
  refine Run.store (a := ⟨b, o + i, none⟩) hb rfl (show o + i < c.size by omega) (by simp) (h1 v List.mem_cons_self) ?_
  refine ih (i + 1) (c.setIfInBounds (o + i) v) _ (by simp [Own.set]) (by simp; omega) (fun u hu => h1 u (List.mem_cons_of_mem _ hu)) ?_
  intro c' S' hS' hsz hc' hset
  refine hf c' S' hS' (by simpa using hsz) (fun j => ?_) (fun o' => ?_)
  ·rw [hc' j]
   by_cases hj : j = o + i
   ·subst hj
    rw [if_neg (by omega), if_pos (by simp only [List.length_cons]; omega)]
    simp only [Nat.sub_self, List.getElem?_cons_zero]
    rw [Array.getElem?_setIfInBounds_self_of_lt (by omega)]
   ·by_cases hin : o + (i + 1) ≤ j ∧ j < o + (i + 1) + vs.length
    ·rw [if_pos hin, if_pos (by simp only [List.length_cons]; omega)]
     rw [show j - (o + i) = (j - (o + (i + 1))) + 1 from by omega, List.getElem?_cons_succ]
    ·rw [if_neg hin, if_neg (by simp only [List.length_cons]; omega)]
     rw [Array.getElem?_setIfInBounds_ne (by omega)]
  ·rw [← hset o']
   simp only [Own.set]
   congr 1
   funext x
   by_cases e1 : x = b <;> simp [e1]
end
def SC.single : SC → Bool
 | .lit v => isOne v
 | .agg _ | .tup _ => false
 | _ => true
structure vals (ρ : Env) : Prop where
 one : ∀ i, isOne (ρ.val i) = true
 low : ∀ i, i < 16 → i < ρ.k.length ∧ ρ.blk i = i
def env0 : Env := { k := (List.range 16).map fun i => (i, []) }
theorem vals0 : vals env0 where
 one i := rfl
 low i hi := ⟨by simpa [env0] using hi, by simp [env0, Env.blk, hi]⟩
theorem SC.isOne_den {ρ : Env} (hv : vals ρ) {x : SC} (h : x.single = true) : isOne (x.den ρ) = true := by
 cases x <;> first | rfl | exact hv.one _ | exact h | (simp [SC.single] at h; done) | (simp only [SC.den]; split <;> rfl)
def isAggT (P : Program) (t : TypeId) : Option Bool := (P.underlying t).map aggDesc
def sizeT (P : Program) (t : TypeId) : Option Nat := (P.info? t).map (·.size)
def symPart (P : Program) (t : TypeId) (l : List SC) (off : Nat) : Option SC :=
 match isAggT P t with
 | some false => l[off]?
 | some true => match sizeT P t with
  | some n => match Nat.ble (off + n) l.length with
   | true => some (.agg ((l.drop off).take n))
   | false => none
  | none => none
 | none => none
def cellsOf : SC → Option (List SC)
 | .agg l => some l
 | .tup _ => none
 | x => some [x]
def splice (l : List SC) (off : Nat) (new : List SC) : List SC := l.take off ++ new ++ l.drop (off + new.length)
open Go Mv
inductive Way where
 | ptr
 | slice (n c : Nat)
 | ref
 | chan
 | held (h z : Value)
def Way.val (r : Nat) : Way → Value
 | .ptr => .pointer (some ⟨r, 0, none⟩)
 | .slice n c => .slice (some ⟨r, 0, none⟩) n c
 | .ref => .map (some r)
 | .chan => .chan (some r)
 | .held h z => .agg #[h, .pointer (some ⟨r, 0, none⟩), z]
def Way.sc (r : Nat) : Way → SC
 | .ptr => .ptr r (.lit 0)
 | .slice n c => .slice r (.lit 0) (.lit n) (.lit c)
 | .ref => .ref r
 | .chan => .chn r
 | .held h z => .agg [.lit h, .ptr r (.lit 0), .lit z]
inductive Eff where
 | val (needs : List BE) (v : SC)
 | store (needs : List BE) (b : Nat) (o : SO)
 | both (needs : List BE) (b : Nat) (o : SO) (v : SC)
 | fresh (needs : List BE) (o : SO) (w : Way)
 | append (needs : List BE) (old : Option Nat) (l : List SC) (e : TypeId) (len size : Nat)
def Eff.ok (n : Nat) : Eff → Prop
 | .val _ v => v.ok n
 | .store _ b o => o.ok n
 | .both _ b o v => o.ok n ∧ v.ok n
 | .fresh _ o _ => o.ok n
 | .append _ _ l _ _ _ => ∀ x ∈ l, x.ok n
def EffOk (P : Program) (ρ : Env) (hp : Hp) (S0 S : Own) (s : Sem Next) : Eff → Prop
 | .val needs v => allTrue ρ needs → ∀ K : Except Value Next → Own → Prop, K (.ok (.value (v.den ρ))) S → Run P S0 s S K
 | .store needs b so => (∃ o, hp.rw.look b = some o) ∧ (allTrue ρ needs → ∀ K : Except Value Next → Own → Prop, K (.ok .skip) (S.set (ρ.blk b) (so.den ρ)) → Run P S0 s S K)
 | .both needs b so v => (∃ o, hp.rw.look b = some o) ∧ (allTrue ρ needs → ∀ K : Except Value Next → Own → Prop, K (.ok (.value (v.den ρ))) (S.set (ρ.blk b) (so.den ρ)) → Run P S0 s S K)
 | .fresh needs so w => allTrue ρ needs → ∀ K : Except Value Next → Own → Prop,
   (∀ r, S.full r = none → S.ro r = none → K (.ok (.value (w.val r))) (S.set r (so.den ρ))) → Run P S0 s S K
 | .append needs old l e len size => (∀ b, old = some b → ∃ o, hp.rw.look b = some o) ∧ (allTrue ρ needs → ∀ K : Except Value Next → Own → Prop,
   (∀ r rest, ((S.full r = none ∧ S.ro r = none) ∨ ∃ b, old = some b ∧ r = ρ.blk b) →
    K (.ok (.value (.slice (some ⟨r, 0, none⟩) len (len + rest.length / size)))) (S.set r (.cells (l.map (SC.den ρ) ++ rest).toArray e (0, 0)))) → Run P S0 s S K)
def EffGood (P : Program) (ρ : Env) (hp : Hp) (S0 S : Own) (s : Sem Next) (e : Eff) : Prop := EffOk P ρ hp S0 S s e ∧ e.ok ρ.k.length
section
variable {P : Program} {ρ : Env} {hp : Hp} {F S0 S : Own}
theorem run_value {s : Sem Value} {K : Except Value Next → Own → Prop} {S : Own} (h : Run P S0 s S fun r S' => match r with | .ok v => K (.ok (.value v)) S' | .error v => K (.error v) S') :
    Run P S0 (do pure (.value (← s)) : Sem Next) S K := Run.bind (h.mono fun r S' k => by
  cases r with
  | ok v => exact Run.pure k
  | error v => exact k)
theorem good_val {s : Sem Value} {s' : Sem Next} {needs : List BE} {v : SC} (he : s' = (do pure (.value (← s)) : Sem Next)) (hok : v.ok ρ.k.length)
  (h : allTrue ρ needs → ∀ K : Except Value Value → Own → Prop, K (.ok (v.den ρ)) S → Run P S0 s S K) : EffGood P ρ hp S0 S s' (.val needs v) :=
 ⟨fun hn K hK => by rw [he]; exact run_value (h hn _ hK), hok⟩
def rowOf : SO → Option (List SC)
 | .cells l _ | .row l _ _ => some l
 | _ => none
def rowWith (l : List SC) : SO → SO
 | .cells _ e => .cells l e
 | .row _ e r => .row l e r
 | o => o
theorem rowOf_den {o : SO} {l : List SC} (h : rowOf o = some l) : ∃ te tail, o.den ρ = .cells (l.map (SC.den ρ) ++ tail).toArray te (0, 0) ∧ ∀ l', (rowWith l' o).den ρ = .cells (l'.map (SC.den ρ) ++ tail).toArray te (0, 0) := by
 cases o <;> simp only [rowOf, Option.some.injEq, reduceCtorEq] at h
 case cells l e => subst h; exact ⟨e, [], by simp [SO.den], fun l' => by simp [SO.den, rowWith]⟩
 case row l e r => subst h; exact ⟨e, _, rfl, fun l' => rfl⟩
theorem rowOf_ok {n : Nat} {o : SO} {l : List SC} (h : rowOf o = some l) (ho : o.ok n) : ∀ x ∈ l, x.ok n := by
 cases o <;> simp only [rowOf, Option.some.injEq, reduceCtorEq] at h
 ·subst h; exact ho
 ·subst h; exact ho.2
theorem rowWith_ok {n : Nat} {o : SO} {l l' : List SC} (h : rowOf o = some l) (ho : o.ok n) (hl : ∀ x ∈ l', x.ok n) : (rowWith l' o).ok n := by
 cases o <;> simp only [rowOf, reduceCtorEq] at h
 ·exact hl
 ·exact ⟨ho.1, hl⟩
theorem map_extract {l : List SC} {tail : List Value} {off n : Nat} (h : off + n ≤ l.length) : (l.map (SC.den ρ) ++ tail).toArray.extract off (off + n) = (((l.drop off).take n).map (SC.den ρ)).toArray := by
 apply Array.ext'
 simp only [Array.toList_extract, List.extract_eq_take_drop, Nat.add_sub_cancel_left, List.map_take, List.map_drop]
 rw [List.drop_append_of_le_length (by simp; omega), List.take_append_of_le_length (by simp; omega)]
theorem run_part {t : TypeId} {l : List SC} {off : Nat} {v : SC} {K : Except Value Value → Own → Prop} {S : Own} (h : symPart P t l off = some v) (hK : K (.ok (v.den ρ)) S) :
  Run P S0 (part t (dens ρ l).toArray off) S K := by
 rw [dens_eq]
 unfold symPart isAggT sizeT at h
 cases hu : P.underlying t with
 | none => rw [hu] at h; simp at h
 | some d =>
  rw [hu] at h
  simp only [Option.map_some] at h
  unfold part
  simp only [bind]
  refine run_isAgg hu ?_
  cases ha : aggDesc d with
  | false =>
   rw [ha] at h
   have : (l.map (SC.den ρ)).toArray[off]? = some (v.den ρ) := by simp [h]
   simp only [Bool.false_eq_true, if_false, this]
   exact Run.pure hK
  | true =>
   rw [ha] at h
   cases hi : P.info? t with
   | none => rw [hi] at h; simp at h
   | some i =>
    rw [hi] at h
    simp only [Option.map_some] at h
    split at h
    ·rename_i hle
     simp only [Option.some.injEq] at h
     subst h
     simp only [if_true]
     refine run_sizeOf hi ?_
     have e1 := map_extract (ρ := ρ) (tail := []) (Nat.le_of_ble_eq_true hle)
     rw [List.append_nil] at e1
     rw [e1]
     have := hK
     simp only [SC.den, dens_eq] at this
     exact Run.pure this
    ·simp at h
theorem symPart_ok {t : TypeId} {l : List SC} {off n : Nat} {v : SC} (h : symPart P t l off = some v) (hl : ∀ x ∈ l, x.ok n) : v.ok n := by
 unfold symPart at h
 split at h
 ·exact hl _ (List.mem_of_getElem? h)
 ·split at h
  ·split at h
   ·simp only [Option.some.injEq] at h; subst h
    exact oks_iff.2 fun x hx => hl x (List.mem_of_mem_drop (List.mem_of_mem_take hx))
   ·simp at h
  ·simp at h
 ·simp at h
theorem run_loadVar {t : TypeId} {l : List SC} {tail : List Value} {te : TypeId} {b off : Nat} {v : SC} {K : Except Value Value → Own → Prop} {S : Own} (hb : S.get b = some (.cells (l.map (SC.den ρ) ++ tail).toArray te (0, 0))) (h : symPart P t l off = some v) (hK : K (.ok (v.den ρ)) S) :
  Run P S0 (loadVar t ⟨b, off, none⟩) S K := by
 unfold symPart isAggT sizeT at h
 have e0 : loadVar t ⟨b, off, none⟩ = (loadVar t ⟨b, off, none⟩).bind Sem.pure := (Sem.bind_pure' _).symm
 rw [e0]
 cases hu : P.underlying t with
 | none => rw [hu] at h; simp at h
 | some d =>
  rw [hu] at h
  simp only [Option.map_some] at h
  cases ha : aggDesc d with
  | false =>
   rw [ha] at h
   have hlt : off < l.length := (List.getElem?_eq_some_iff.1 h).1
   exact run_loadVar_one hb hu ha (v := v.den ρ) (by
    rw [List.getElem?_toArray, List.getElem?_append_left (by simpa using hlt)]
    simp [h]) (Run.pure hK)
  | true =>
   rw [ha] at h
   cases hi : P.info? t with
   | none => rw [hi] at h; simp at h
   | some i =>
    rw [hi] at h
    simp only [Option.map_some] at h
    split at h
    ·rename_i hle
     have hle := Nat.le_of_ble_eq_true hle
     simp only [Option.some.injEq] at h
     subst h
     refine run_loadVar_agg hb hu ha hi (by simp; omega) ?_
     rw [map_extract hle]
     have := hK
     simp only [SC.den, dens_eq] at this
     exact Run.pure this
    ·simp at h
theorem cellsOf_den {v : SC} {l : List SC} (h : cellsOf v = some l) (h1 : l.all SC.single = true) (hv : vals ρ) : (v.den ρ).cells = (l.map (SC.den ρ)).toArray := by
 cases v <;> simp only [cellsOf, Option.some.injEq, reduceCtorEq] at h
 case agg l' => subst h; simp only [SC.den, Value.cells, dens_eq]
 all_goals
  subst h
  simp only [List.all_cons, List.all_nil, Bool.and_true] at h1
  have := SC.isOne_den hv h1
  simp only [List.map_cons, List.map_nil]
  generalize SC.den ρ _ = x at this ⊢
  cases x <;> first | rfl | (simp [isOne] at this)
theorem cellsOf_ok {n : Nat} {v : SC} {l : List SC} (h : cellsOf v = some l) (hv : v.ok n) : ∀ x ∈ l, x.ok n := by
 cases v <;> simp only [cellsOf, Option.some.injEq, reduceCtorEq] at h
 case agg l' => subst h; exact oks_iff.1 hv
 all_goals subst h; intro x hx; simp only [List.mem_singleton] at hx; subst hx; exact hv
theorem run_storeVar {t : TypeId} {l new : List SC} {tail : List Value} {te : TypeId} {b off : Nat} {v : SC} {K : Except Value Unit → Own → Prop} (hv : vals ρ) (hb : S.full b = some (.cells (l.map (SC.den ρ) ++ tail).toArray te (0, 0))) (hc : cellsOf v = some new)
  (h1 : new.all SC.single = true) (hsz : sizeT P t = some new.length) (hle : off + new.length ≤ l.length) (hK : K (.ok ()) (S.set b (.cells ((splice l off new).map (SC.den ρ) ++ tail).toArray te (0, 0)))) :
  Run P S0 (storeVar t ⟨b, off, none⟩ (v.den ρ)) S K := by
 unfold sizeT at hsz
 cases hi : P.info? t with
 | none => rw [hi] at hsz; simp at hsz
 | some ti =>
  rw [hi] at hsz
  simp only [Option.map_some, Option.some.injEq] at hsz
  have hcl := cellsOf_den hc h1 hv
  unfold storeVar
  simp only [bind]
  refine run_sizeOf hi ?_
  have e1 : ¬ (v.den ρ).cells.size ≠ ti.size := by rw [hcl, hsz]; simp
  simp only [if_neg e1]
  have e0 : storeCells ⟨b, off, none⟩ (v.den ρ).cells.toList = (storeCells ⟨b, off, none⟩ (v.den ρ).cells.toList 0).bind Sem.pure := (Sem.bind_pure' _).symm
  show Run P S0 (storeCells ⟨b, off, none⟩ (v.den ρ).cells.toList) _ _
  rw [e0]
  refine run_storeCells (f := Sem.pure) (v.den ρ).cells.toList 0 (l.map (SC.den ρ) ++ tail).toArray _ hb (by rw [hcl]; simp; omega) ?_ ?_
  ·rw [hcl]
   intro u hu
   simp only [List.mem_map] at hu
   obtain ⟨x, hx, rfl⟩ := hu
   exact SC.isOne_den hv (List.all_eq_true.1 h1 x hx)
  ·intro c' S' hS' hsz' hc' hset
   have e2 : S' = S.set b (.cells ((splice l off new).map (SC.den ρ) ++ tail).toArray te (0, 0)) := by
    rw [hset]
    have hcc : c' = ((splice l off new).map (SC.den ρ) ++ tail).toArray := by
     apply Array.ext_getElem?
     intro j
     rw [hc' j, hcl]
     have hsl : ((splice l off new).map (SC.den ρ)).length = l.length := by simp [splice]; omega
     simp only [List.getElem?_toArray, List.length_map, Nat.add_zero]
     by_cases hjl : j < l.length
     ·rw [List.getElem?_append_left (l₁ := List.map (SC.den ρ) (splice l off new)) (by rw [hsl]; exact hjl), List.getElem?_append_left (l₁ := List.map (SC.den ρ) l) (by simpa using hjl)]
      simp only [splice, List.map_append, List.map_take, List.map_drop]
      have hlen : (List.take off (List.map (SC.den ρ) l)).length = off := by simp; omega
      by_cases hj : j < off
      ·rw [if_neg (by omega), List.append_assoc, List.getElem?_append_left (by rw [hlen]; exact hj), List.getElem?_take_of_lt hj]
      ·by_cases hj2 : j < off + new.length
       ·rw [if_pos ⟨by omega, hj2⟩, List.append_assoc, List.getElem?_append_right (by rw [hlen]; omega), hlen, List.getElem?_append_left (by simp; omega)]
       ·rw [if_neg (by omega), List.append_assoc, List.getElem?_append_right (by rw [hlen]; omega), hlen, List.getElem?_append_right (by simp; omega), List.getElem?_drop]
        congr 1
        simp; omega
     ·rw [if_neg (by omega), List.getElem?_append_right (l₁ := List.map (SC.den ρ) l) (by simp; omega), List.getElem?_append_right (l₁ := List.map (SC.den ρ) (splice l off new)) (by rw [hsl]; omega), hsl]
      simp
    have h3 : S' = S'.set b (.cells c' te (0, 0)) := by
     cases S' with
     | mk fu ro =>
      simp only [Own.set]
      congr 1
      funext x
      by_cases e : x = b
      ·subst e; rw [if_pos rfl]; exact hS'
      ·rw [if_neg e]
    rw [← hcc]
    exact h3
   rw [e2]
   exact Run.pure hK
theorem splice_ok {n : Nat} {l new : List SC} {off : Nat} (h1 : ∀ x ∈ l, x.ok n) (h2 : ∀ x ∈ new, x.ok n) : ∀ x ∈ splice l off new, x.ok n := by
 intro x hx
 simp only [splice, List.mem_append] at hx
 rcases hx with (hx | hx) | hx
 ·exact h1 x (List.mem_of_mem_take hx)
 ·exact h2 x hx
 ·exact h1 x (List.mem_of_mem_drop hx)
theorem run_newVar [Loud S0] {v : SC} {l : List SC} {t : TypeId} {α : Type} {f : Addr → Sem α} {K : Except Value α → Own → Prop} {S : Own} (hv : vals ρ) (hc : cellsOf v = some l) (h1 : l.all SC.single = true)
  (h : ∀ r, S.full r = none → S.ro r = none → Run P S0 (f ⟨r, 0, none⟩) (S.set r ((SO.cells l t).den ρ)) K) : Run P S0 ((newVar t (v.den ρ)).bind f) S K := by
 unfold newVar
 rw [cellsOf_den hc h1 hv]
 exact Run.new fun r h2 h3 => h r h2 h3
end
open Go Mv
section
variable {P : Program} {ρ : Env} {hp : Hp} {F S0 S : Own} {ev : Operand → Option SC} {ev' : Operand → Value} {o : Oper} {e : Eff}
def EvOk (ρ : Env) (ev : Operand → Option SC) (ev' : Operand → Value) : Prop := ∀ x v, ev x = some v → v.ok ρ.k.length ∧ ev' x = v.den ρ
theorem toNat_plus {x : Int} {n : Nat} (h : 0 ≤ x) : (x + n).toNat = x.toNat + n := by omega
theorem IE.ok_plus {n : Nat} {a b : IE} (ha : a.ok n) (hb : b.ok n) : (IE.plus a b).ok n := by
 unfold IE.plus
 split
 ·unfold IE.plusL
  split
  ·trivial
  ·split
   ·exact hb
   ·exact ⟨trivial, hb⟩
 ·unfold IE.plusR
  split
  ·split
   ·exact ha
   ·exact ⟨ha, trivial⟩
  ·exact ⟨ha, hb⟩
theorem IE.ok_times {n m : Nat} {a : IE} (ha : a.ok n) : (IE.times a m).ok n := by
 unfold IE.times
 split
 ·trivial
 ·split
  ·exact ha
  ·exact ⟨ha, trivial⟩
theorem IE.ok_wrp {n : Nat} {k : IntKind} {a : IE} (ha : a.ok n) : (IE.wrp k a).ok n := by
 cases a <;> first | trivial | exact ha
def sMove (x : Option SC) : Option Eff := match x with
 | some v => some (.val [] v)
 | none => none
theorem sMove_good {x : Operand} (hop : o.op = .move x ∨ o.op = .assign x) (hev : EvOk ρ ev ev') (h : sMove (ev x) = some e) : EffGood P ρ hp S0 S (execOp ev' o) e := by
 unfold sMove at h
 split at h
 ·rename_i v hx
  simp only [Option.some.injEq] at h; subst h
  obtain ⟨h1, h2⟩ := hev x v hx
  refine ⟨fun _ K hK => ?_, h1⟩
  rcases hop with hop | hop <;> simp only [execOp, hop, h2] <;> exact Run.pure hK
 ·simp at h
def sPick (c a b : Option SC) : Option Eff := match c with
 | some (.bool (.lit true)) => sMove a
 | some (.bool (.lit false)) => sMove b
 | some (.bool c) => match a, b with
  | some (.bool a), some (.bool b) => some (.val [] (.bool (.pick c a b)))
  | _, _ => none
 | _ => none
theorem sPick_good {c x y : Operand} (hop : o.op = .pick c x y) (hev : EvOk ρ ev ev') (h : sPick (ev c) (ev x) (ev y) = some e) : EffGood P ρ hp S0 S (execOp ev' o) e := by
 have hpick : ∀ (b : Bool) (v : SC), ev' c = .bool b → v.ok ρ.k.length → (if b then ev' x else ev' y) = v.den ρ → EffGood P ρ hp S0 S (execOp ev' o) (.val [] v) := by
  intro b v hc hok hv'
  refine ⟨fun _ K hK => ?_, hok⟩
  simp only [execOp, hop, hc]
  show Run P S0 (Sem.pure (Next.value (if b then ev' x else ev' y))) _ K
  rw [hv']
  exact Run.pure hK
 have hmove : ∀ (b : Bool) z, ev' c = .bool b → (if b then ev' x else ev' y) = ev' z → sMove (ev z) = some e → EffGood P ρ hp S0 S (execOp ev' o) e := by
  intro b z hc hz h
  unfold sMove at h
  split at h
  ·rename_i v hv
   simp only [Option.some.injEq] at h; subst h
   exact hpick b v hc (hev _ _ hv).1 (by rw [hz, (hev _ _ hv).2])
  ·simp at h
 unfold sPick at h
 split at h
 ·rename_i hc; exact hmove true x (hev _ _ hc).2 rfl h
 ·rename_i hc; exact hmove false y (hev _ _ hc).2 rfl h
 ·rename_i b _ _ hc
  split at h
  ·rename_i p q hx hy
   simp only [Option.some.injEq] at h; subst h
   refine hpick (b.den ρ) _ (hev _ _ hc).2 ⟨(hev _ _ hc).1, (hev _ _ hx).1, (hev _ _ hy).1⟩ ?_
   rw [(hev _ _ hx).2, (hev _ _ hy).2]
   simp only [SC.den, BE.den]
   cases b.den ρ <;> rfl
  ·simp at h
 ·simp at h
def sNilCheck (x : Option SC) : Option Eff := match x with
 | some (.ptr b off) => some (.val [] (.ptr b off))
 | some (.fn (.func f) l m) => some (.val [] (.fn (.func f) l m))
 | some (.fn (.via t p f b) l m) => some (.val [] (.fn (.via t p f b) l m))
 | some (.yield l) => some (.val [] (.yield l))
 | some (.lit (.pointer (some a))) => some (.val [] (.lit (.pointer (some a))))
 | some (.lit (.func (.func f) l m)) => some (.val [] (.lit (.func (.func f) l m)))
 | some (.iface t x) => some (.val [] (.iface t x))
 | _ => none
theorem sNilCheck_good {x : Operand} (hop : o.op = .nilCheck x) (hev : EvOk ρ ev ev') (h : sNilCheck (ev x) = some e) : EffGood P ρ hp S0 S (execOp ev' o) e := by
 unfold sNilCheck at h
 split at h <;> (try (simp at h; done))
 all_goals
  rename_i hx
  simp only [Option.some.injEq] at h; subst h
  obtain ⟨h1, h2⟩ := hev _ _ hx
  refine ⟨fun _ K hK => ?_, h1⟩
  simp only [execOp, hop, h2, SC.den]
  exact Run.pure hK
def sFieldAddr (P : Program) (s : TypeId) (x : Option SC) (f : Nat) : Option Eff := match P.underlying s with
 | some (.struct fields) => match x, fields[f]? with
  | some (.ptr b off), some fld => match sizeT P fld.type with
   | some (_ + 1) => some (.val (notNeg off) (.ptr b (.plus off (.lit fld.offset))))
   | _ => none
  | _, _ => none
 | _ => none
theorem sFieldAddr_good {t : TypeId} {x : Operand} {f : Nat} (hop : o.op = .fieldAddr t x f) (hev : EvOk ρ ev ev') (h : sFieldAddr P t (ev x) f = some e) : EffGood P ρ hp S0 S (execOp ev' o) e := by
 unfold sFieldAddr at h
 split at h
 ·rename_i fields hu
  split at h
  ·rename_i b off fld hx hf
   obtain ⟨hok, hx'⟩ := hev x _ hx
   split at h
   ·rename_i n hn
    simp only [Option.some.injEq] at h; subst h
    refine good_val (s := Instr.fieldAt t (ev' x) f) (by simp only [execOp, hop]) ⟨hok.1, IE.ok_plus hok.2 trivial⟩ fun hneeds K hK => ?_
    rw [hx']
    unfold Instr.fieldAt
    simp only [bind]
    refine run_underlying hu ?_
    simp only [hf, SC.den, Instr.sureAddr]
    unfold sizeT at hn
    obtain ⟨i, hi, hn⟩ := Option.map_eq_some_iff.1 hn
    show Run P S0 ((fieldPlace _ fld).bind fun x => pure (.pointer (some x))) _ K
    unfold fieldPlace
    simp only [bind]
    rw [Sem.bind_assoc']
    refine run_sizeOf hi ?_
    rw [if_neg (by omega), add_off]
    have e1 : (off.den ρ).toNat + fld.offset = ((IE.plus off (.lit fld.offset)).den ρ).toNat := by
     rw [IE.den_plus]; simp only [IE.den]; rw [toNat_plus (notNeg_den hneeds)]
    rw [e1]
    exact Run.pure hK
   ·simp at h
  ·simp at h
 ·simp at h
def sField (P : Program) (t : TypeId) (x : Option SC) (f : Nat) : Option Eff := match P.underlying t with
 | some (.struct fields) => match x, fields[f]? with
  | some (.agg l), some fld => match symPart P fld.type l fld.offset with
   | some v => some (.val [] v)
   | none => none
  | _, _ => none
 | _ => none
theorem sField_good {t : TypeId} {x : Operand} {f : Nat} (hop : o.op = .field t x f) (hev : EvOk ρ ev ev') (h : sField P t (ev x) f = some e) : EffGood P ρ hp S0 S (execOp ev' o) e := by
 unfold sField at h
 split at h
 ·rename_i fields hu
  split at h
  ·rename_i l fld hx hf
   obtain ⟨hok, hx'⟩ := hev x _ hx
   split at h
   ·rename_i v hp'
    simp only [Option.some.injEq] at h; subst h
    refine good_val (s := Instr.field t (ev' x) f) (by simp only [execOp, hop]) (symPart_ok hp' (oks_iff.1 hok)) fun _ K hK => ?_
    rw [hx']
    unfold Instr.field
    simp only [bind]
    refine run_underlying hu ?_
    simp only [hf, SC.den, asAgg]
    exact run_part hp' hK
   ·simp at h
  ·simp at h
 ·simp at h
def offFrom (o : Nat) : IE → Option IE
 | .var i => match Nat.beq i o with
  | true => some (.lit 0)
  | false => none
 | .add a b => match offFrom o a with
  | some a' => some (.plus a' b)
  | none => none
 | _ => none
theorem offFrom_den {ρ : Env} {o n : Nat} : ∀ {e e' : IE}, offFrom o e = some e' → e.ok n → e.den ρ = ρ.int o + e'.den ρ ∧ e'.ok n := by
 intro e
 induction e with
 | var i =>
  intro e' h _
  simp only [offFrom] at h
  split at h
  ·rename_i hb
   cases h
   exact ⟨by simp [IE.den, Nat.eq_of_beq_eq_true hb], trivial⟩
  ·cases h
 | add a b iha ihb =>
  intro e' h hok
  simp only [offFrom] at h
  split at h
  ·rename_i a' ha
   cases h
   obtain ⟨h1, h2⟩ := iha ha hok.1
   exact ⟨by rw [IE.den_plus]; simp only [IE.den, h1]; omega, IE.ok_plus h2 hok.2⟩
  ·cases h
 | _ => intro e' h; simp [offFrom] at h
def numsOf : SO → Option (IntKind × Nat × Option Nat)
 | .ints k l _ => some (k, l, none)
 | .lrow k l _ _ => some (k, l, none)
 | .win k l _ o => some (k, l, some o)
 | _ => none
theorem numsOf_ok {so : SO} {k : IntKind} {l n : Nat} {b : Option Nat} (h : numsOf so = some (k, l, b)) (hok : so.ok n) : lok n l := by
 cases so <;> simp only [numsOf, Option.some.injEq, Prod.mk.injEq, reduceCtorEq] at h
 case ints => obtain ⟨_, rfl, _⟩ := h; exact hok
 case win => obtain ⟨_, rfl, _⟩ := h; exact hok
 case lrow => obtain ⟨_, rfl, _⟩ := h; exact hok.1
def relOff (b : Option Nat) (off : IE) : Option IE := match b with
 | none => some off
 | some o => offFrom o off
def baseNeed (b : Option Nat) : List BE := match b with
 | none => []
 | some o => [.le (.lit 0) (.var o)]
def baseOf (ρ : Env) (b : Option Nat) : Int := match b with
 | none => 0
 | some o => ρ.int o
theorem baseNeed_den {ρ : Env} {b : Option Nat} (h : allTrue ρ (baseNeed b)) : 0 ≤ baseOf ρ b := by
 cases b with
 | none => exact Int.le_refl 0
 | some o => exact of_decide_eq_true (h (.le (.lit 0) (.var o)) (by simp [baseNeed]))
theorem relOff_den {ρ : Env} {b : Option Nat} {off off' : IE} {n : Nat} (h : relOff b off = some off') (hok : off.ok n) : off.den ρ = baseOf ρ b + off'.den ρ ∧ off'.ok n := by
 cases b with
 | none => cases h; exact ⟨by simp [baseOf], hok⟩
 | some o => exact offFrom_den h hok
theorem patch_get {x : Obj} {o n : Nat} {vs : List Value} (h : n < vs.length) : ∃ cs ty fz, patch x o vs = .cells cs ty fz ∧ ∀ n, n < vs.length → cs[o + n]? = vs[n]? := by
 unfold patch
 split
 ·rename_i cs ty fz
  refine ⟨_, _, _, rfl, fun n hn => ?_⟩
  simp only [List.getElem?_toArray]
  have hl : (cs.toList.take o ++ List.replicate (o - cs.size) (Value.agg #[])).length = o := by
   simp only [List.length_append, List.length_take, Array.length_toList, List.length_replicate]; omega
  rw [List.append_assoc, List.getElem?_append_right (by omega), hl, List.getElem?_append_left (by omega)]
  congr 1; omega
 ·refine ⟨_, _, _, rfl, fun n hn => ?_⟩
  simp only [List.getElem?_toArray]
  rw [List.getElem?_append_right (by simp), List.length_replicate]
  congr 1; omega
theorem numsOf_den {so : SO} {k : IntKind} {l : Nat} {b : Option Nat} (h : numsOf so = some (k, l, b)) (hne : ∃ n : Nat, n < (ρ.list l).length) (hb : 0 ≤ baseOf ρ b) :
  ∃ cs ty fz, so.den ρ = .cells cs ty fz ∧ ∀ n, n < (ρ.list l).length → cs[(baseOf ρ b).toNat + n]? = some (.int k ((ρ.list l).getD n 0)) := by
 obtain ⟨n0, hn0⟩ := hne
 cases so <;> simp only [numsOf, Option.some.injEq, Prod.mk.injEq, reduceCtorEq] at h
 case ints k' l' e =>
  obtain ⟨rfl, rfl, rfl⟩ := h
  exact ⟨_, _, _, rfl, fun n hn => by simp [baseOf, hn]⟩
 case win k' l' j o =>
  obtain ⟨rfl, rfl, rfl⟩ := h
  obtain ⟨cs, ty, fz, h1, h2⟩ := patch_get (x := ρ.obj j) (o := (ρ.int o).toNat) (vs := (ρ.list l').map (Value.int k')) (n := n0) (by simpa using hn0)
  exact ⟨cs, ty, fz, h1, fun n hn => by rw [show baseOf ρ (some o) = ρ.int o from rfl, h2 n (by simpa using hn)]; simp [hn]⟩
 case lrow k' l' e r =>
  obtain ⟨rfl, rfl, rfl⟩ := h
  exact ⟨_, _, _, rfl, fun n hn => by simp [baseOf, hn, List.getElem?_append_left]⟩
def offA (cap : Option IE) (q : Option Nat) : IE → Option (Nat × Nat)
 | .lit (.ofNat k) => some (0, k)
 | .room q' 1 => match q with
  | some q0 => match Nat.beq q' q0 with
   | true => some (1, 0)
   | false => none
  | none => none
 | .add a b => match offA cap q a, offA cap q b with
  | some (i, k), some (j, m) => some (i + j, k + m)
  | _, _ => none
 | .mul (.lit (.ofNat c)) (.min (.lit (.ofNat 1)) x) => match cap with
  | some cp => match decide (x = cp) with
   | true => some (0, c)
   | false => none
  | none => none
 | _ => none
def preOf (ρ : Env) (q : Option Nat) : List Value := match q with
 | some q => ρ.rest q
 | none => []
theorem offA_den {ρ : Env} {cap : Option IE} {q : Option Nat} (hc : ∀ c, cap = some c → 1 ≤ c.den ρ) : ∀ {e : IE} {i k : Nat}, offA cap q e = some (i, k) → e.den ρ = ((i * (preOf ρ q).length + k : Nat) : Int) := by
 intro e
 induction e with
 | lit n =>
  intro i k h
  cases n with
  | ofNat n => simp only [offA, Option.some.injEq, Prod.mk.injEq] at h; obtain ⟨rfl, rfl⟩ := h; simp [IE.den]
  | negSucc n => simp [offA] at h
 | add a b iha ihb =>
  intro i k h
  simp only [offA] at h
  split at h
  ·rename_i i1 k1 i2 k2 h1 h2
   simp only [Option.some.injEq, Prod.mk.injEq] at h
   obtain ⟨rfl, rfl⟩ := h
   simp only [IE.den, iha h1, ihb h2, Nat.add_mul]
   omega
  ·cases h
 | room b n =>
  intro i k h
  unfold offA at h
  split at h <;> try (cases h; done)
  ·rename_i heq; cases heq
  ·rename_i q' heq
   cases heq
   split at h
   ·rename_i q0
    split at h
    ·rename_i hb
     have hb := Nat.eq_of_beq_eq_true hb
     subst hb
     simp only [Option.some.injEq, Prod.mk.injEq] at h
     obtain ⟨rfl, rfl⟩ := h
     simp [IE.den, preOf]
    ·cases h
   ·cases h
  ·rename_i heq; cases heq
  ·rename_i heq; cases heq
 | mul a b iha ihb =>
  intro i k h
  unfold offA at h
  split at h <;> try (cases h; done)
  ·rename_i heq; cases heq
  ·rename_i heq; cases heq
  ·rename_i heq; cases heq
  ·rename_i c x heq
   cases heq
   split at h
   ·rename_i cp
    split at h
    ·rename_i hx
     have hx := of_decide_eq_true hx
     subst hx
     simp only [Option.some.injEq, Prod.mk.injEq] at h
     obtain ⟨rfl, rfl⟩ := h
     have := hc x rfl
     show (c : Int) * (if x.den ρ < 1 then x.den ρ else 1) = _
     rw [if_neg (by omega), Int.mul_one, Nat.zero_mul, Nat.zero_add]
    ·cases h
   ·cases h
 | _ => intro i k h; simp [offA] at h
theorem symPart_pre {P : Program} {t : TypeId} {l p : List SC} {k : Nat} : symPart P t (p ++ l) (p.length + k) = symPart P t l k := by
 unfold symPart
 have e1 : (p ++ l)[p.length + k]? = l[k]? := by rw [List.getElem?_append_right (by omega)]; congr 1; omega
 have e2 : (p ++ l).drop (p.length + k) = l.drop k := by rw [List.drop_append, List.drop_eq_nil_of_le (by omega), List.nil_append]; congr 1; omega
 cases isAggT P t with
 | none => rfl
 | some b => cases b with
  | false => simp only [e1]
  | true =>
   cases hs : sizeT P t with
   | none => rfl
   | some n =>
    simp only [e2, List.length_append]
    have e3 : Nat.ble (p.length + k + n) (p.length + l.length) = Nat.ble (k + n) l.length := by
     cases hb : Nat.ble (k + n) l.length with
     | true => exact Nat.ble_eq_true_of_le (by have := Nat.le_of_ble_eq_true hb; omega)
     | false =>
      cases hb2 : Nat.ble (p.length + k + n) (p.length + l.length) with
      | false => rfl
      | true =>
       have := Nat.le_of_ble_eq_true hb2
       rw [Nat.ble_eq_true_of_le (show k + n ≤ l.length by omega)] at hb; cases hb
    rw [e3]
def tailLoad (P : Program) (t : TypeId) (off : IE) : SO → Option SC
 | .tail l _ _ q => match offA none (some q) off with
  | some (1, k) => symPart P t l k
  | _ => none
 | .cut off0 l _ _ _ => match decide (off = off0) with
  | true => symPart P t l 0
  | false => none
 | _ => none
def peel (h : Nat) : IE → Option IE
 | .lit (.ofNat n) => match Nat.ble h n with
  | true => some (.lit (.ofNat (n - h)))
  | false => none
 | .add a b => match peel h a with
  | some a' => some (.plus a' b)
  | none => none
 | _ => none
theorem peel_den {ρ : Env} {h n : Nat} : ∀ {e e' : IE}, peel h e = some e' → e.ok n → e.den ρ = (h : Int) + e'.den ρ ∧ e'.ok n := by
 intro e
 induction e with
 | lit z =>
  intro e' he _
  cases z with
  | ofNat m =>
   simp only [peel] at he
   split at he
   ·rename_i hb
    cases he
    have := Nat.le_of_ble_eq_true hb
    exact ⟨by simp only [IE.den, Int.ofNat_eq_natCast]; omega, trivial⟩
   ·cases he
  | negSucc m => simp [peel] at he
 | add a b iha ihb =>
  intro e' he hok
  simp only [peel] at he
  split at he
  ·rename_i a' ha
   cases he
   obtain ⟨h1, h2⟩ := iha ha hok.1
   exact ⟨by rw [IE.den_plus]; simp only [IE.den, h1]; omega, IE.ok_plus h2 hok.2⟩
  ·cases he
 | _ => intro e' he; simp [peel] at he
def headAt (P : Program) (t : TypeId) (hd : List SC) : IE → Option SC
 | .lit (.ofNat n) => symPart P t hd n
 | _ => none
def hLoad (P : Program) (t : TypeId) (off : IE) (hd : List SC) (l : Nat) : Option Eff := match headAt P t hd off with
 | some v => some (.val [] v)
 | none => match peel hd.length off, isAggT P t with
  | some r, some false => some (.val (notNeg r ++ [.lt r (.len l)]) (.int .i64 (.nth l r)))
  | some r, some true => match sizeT P t with
   | some n => match Nat.ble 1 n with
    | true => some (.val (notNeg r ++ [.le (.plus r (.lit n)) (.len l)]) (.agg ((List.range n).map fun (j : Nat) => SC.int .i64 (.nth l (.plus r (.lit (j : Int)))))))
    | false => none
   | none => none
  | _, _ => none
def hrowLoad (P : Program) (t : TypeId) (off : IE) : SO → Option Eff
 | .hrow hd .i64 l _ => hLoad P t off hd l
 | _ => none
theorem hLoad_good {t : TypeId} {x : Operand} {b te l : Nat} {off : IE} {hd : List SC} (hop : o.op = .load t x) (hs : Sat ρ hp F S) (hok : (SC.ptr b off).ok ρ.k.length) (hx' : ev' x = (SC.ptr b off).den ρ) (hb : hp.get b = some (.hrow hd .i64 l te)) (h : hLoad P t off hd l = some e) : EffGood P ρ hp S0 S (execOp ev' o) e := by
 obtain ⟨_, hso, hget⟩ := hs.get hb
 have hred : ∀ K : Except Value Value → Own → Prop, Run P S0 (loadVar t ⟨ρ.blk b, (off.den ρ).toNat, none⟩) S K → Run P S0 (Instr.loadAt t (ev' x)) S K := fun K hr => by
  rw [hx']
  show Run P S0 ((Instr.sureAddr (SC.den ρ (.ptr b off))).bind fun a => loadVar t a) _ K
  exact hr
 have hden : (SO.hrow hd .i64 l te).den ρ = .cells (hd.map (SC.den ρ) ++ (ρ.list l).map (Value.int .i64)).toArray te (0, 0) := rfl
 rw [hden] at hget
 have hcs : ∀ n, n < (ρ.list l).length → (hd.map (SC.den ρ) ++ (ρ.list l).map (Value.int .i64)).toArray[hd.length + n]? = some (.int .i64 ((ρ.list l).getD n 0)) := fun n hn => by
  simp only [List.getElem?_toArray]
  rw [List.getElem?_append_right (by simp)]
  simp [hn]
 unfold hLoad at h
 split at h
 ·rename_i v hh
  simp only [Option.some.injEq] at h; subst h
  unfold headAt at hh
  split at hh
  ·rename_i n
   refine good_val (s := Instr.loadAt t (ev' x)) (by simp only [execOp, hop]) (symPart_ok hh hso.2) fun _ K hK => hred K ?_
   exact run_loadVar (ρ := ρ) hget hh hK
  ·cases hh
 ·split at h
  ·rename_i off' hrel hag
   simp only [Option.some.injEq] at h; subst h
   obtain ⟨hoff, hok'⟩ := peel_den (ρ := ρ) hrel hok.2
   obtain ⟨d, hu, hag⟩ := Option.map_eq_some_iff.1 hag
   refine good_val (s := Instr.loadAt t (ev' x)) (by simp only [execOp, hop]) ⟨hso.1, hok'⟩ fun hneeds K hK => hred K ?_
   have h0 : 0 ≤ off'.den ρ := notNeg_den fun c hc => hneeds c (by simp [hc])
   have h1 : off'.den ρ < ((ρ.list l).length : Nat) := of_decide_eq_true (hneeds (.lt off' (.len l)) (by simp))
   rw [← Sem.bind_pure' (loadVar t _)]
   refine run_loadVar_one hget hu hag (v := .int .i64 ((ρ.list l).getD (off'.den ρ).toNat 0)) ?_ (Run.pure hK)
   rw [show (off.den ρ).toNat = hd.length + (off'.den ρ).toNat by omega]
   exact hcs _ (by omega)
  ·rename_i off' hrel hag
   obtain ⟨hoff, hok'⟩ := peel_den (ρ := ρ) hrel hok.2
   obtain ⟨d, hu, hag⟩ := Option.map_eq_some_iff.1 hag
   split at h
   ·rename_i n hn
    split at h
    ·rename_i hn1
     have hn1 := Nat.le_of_ble_eq_true hn1
     simp only [Option.some.injEq] at h; subst h
     obtain ⟨i, hi, hn⟩ := Option.map_eq_some_iff.1 hn
     refine good_val (s := Instr.loadAt t (ev' x)) (by simp only [execOp, hop]) (oks_iff.2 fun y hy => ?_) fun hneeds K hK => hred K ?_
     ·obtain ⟨j, _, rfl⟩ := List.mem_map.1 hy
      exact ⟨hso.1, IE.ok_plus hok' trivial⟩
     have h0 : 0 ≤ off'.den ρ := notNeg_den fun c hc => hneeds c (by simp [hc])
     have h1 : (IE.plus off' (.lit n)).den ρ ≤ ((ρ.list l).length : Nat) := of_decide_eq_true (hneeds (.le (.plus off' (.lit n)) (.len l)) (by simp))
     rw [IE.den_plus] at h1
     simp only [IE.den] at h1
     rw [← Sem.bind_pure' (loadVar t _)]
     refine run_loadVar_agg hget hu hag hi (by simp; omega) ?_
     have e1 : (hd.map (SC.den ρ) ++ (ρ.list l).map (Value.int .i64)).toArray.extract (off.den ρ).toNat ((off.den ρ).toNat + i.size) = (dens ρ ((List.range n).map fun (j : Nat) => SC.int .i64 (.nth l (.plus off' (.lit (j : Int)))))).toArray := by
      apply Array.ext_getElem?
      intro j
      rw [dens_eq]
      rw [Array.getElem?_extract]
      simp only [List.getElem?_toArray, List.getElem?_map, List.map_map]
      by_cases hj : j < n
      ·rw [if_pos (by simp; omega)]
       rw [List.getElem?_range hj]
       simp only [Option.map_some, Function.comp, SC.den, IE.den, IE.den_plus]
       have := hcs ((off'.den ρ).toNat + j) (by omega)
       simp only [List.getElem?_toArray] at this
       rw [show (off.den ρ).toNat + j = hd.length + ((off'.den ρ).toNat + j) by omega, this, toNat_plus h0]
      ·rw [if_neg (by omega)]
       rw [List.getElem?_eq_none (by simpa using hj)]
       rfl
     rw [e1]
     exact Run.pure hK
    ·cases h
   ·cases h
  ·cases h
def sLoad (P : Program) (hp : Hp) (t : TypeId) (x : Option SC) : Option Eff := match x with
 | some (.ptr b off) => match hp.get b with
  | some o => match numsOf o with
   | some (k, l, b) => match relOff b off, isAggT P t with
    | some off, some false => some (.val (baseNeed b ++ (notNeg off ++ [.lt off (.len l)])) (.int k (.nth l off)))
    | some off, some true => match sizeT P t with
     | some n => match Nat.ble 1 n with
      | true => some (.val (baseNeed b ++ (notNeg off ++ [.le (.plus off (.lit n)) (.len l)])) (.agg ((List.range n).map fun (j : Nat) => SC.int k (.nth l (.plus off (.lit (j : Int)))))))
      | false => none
     | none => none
    | _, _ => none
   | none => match rowOf o, off with
    | some l, .lit (.ofNat off) => match symPart P t l off with
     | some v => some (.val [] v)
     | none => none
    | _, _ => match tailLoad P t off o with
     | some v => some (.val [] v)
     | none => hrowLoad P t off o
  | none => none
 | _ => none
theorem sLoad_good {t : TypeId} {x : Operand} (hop : o.op = .load t x) (hs : Sat ρ hp F S) (hev : EvOk ρ ev ev') (h : sLoad P hp t (ev x) = some e) : EffGood P ρ hp S0 S (execOp ev' o) e := by
 unfold sLoad at h
 split at h
 ·rename_i b off hx
  obtain ⟨hok, hx'⟩ := hev x _ hx
  have hred : ∀ K : Except Value Value → Own → Prop, Run P S0 (loadVar t ⟨ρ.blk b, (off.den ρ).toNat, none⟩) S K → Run P S0 (Instr.loadAt t (ev' x)) S K := fun K hr => by
   rw [hx']
   show Run P S0 ((Instr.sureAddr (SC.den ρ (.ptr b off))).bind fun a => loadVar t a) _ K
   exact hr
  split at h
  ·rename_i so hb
   obtain ⟨_, hso, hget⟩ := hs.get hb
   split at h
   ·rename_i k l bs hnums
    split at h
    ·rename_i off' hrel hag
     simp only [Option.some.injEq] at h; subst h
     obtain ⟨hoff, hok'⟩ := relOff_den (ρ := ρ) hrel hok.2
     obtain ⟨d, hu, hag⟩ := Option.map_eq_some_iff.1 hag
     refine good_val (s := Instr.loadAt t (ev' x)) (by simp only [execOp, hop]) ⟨numsOf_ok hnums hso, hok'⟩ fun hneeds K hK => hred K ?_
     have hb0 : 0 ≤ baseOf ρ bs := baseNeed_den fun c hc => hneeds c (by simp [hc])
     have h0 : 0 ≤ off'.den ρ := notNeg_den fun c hc => hneeds c (by simp [hc])
     have h1 : off'.den ρ < ((ρ.list l).length : Nat) := of_decide_eq_true (hneeds (.lt off' (.len l)) (by simp))
     obtain ⟨cs, ty, fz, hden, hcs⟩ := numsOf_den hnums ⟨(off'.den ρ).toNat, by omega⟩ hb0
     rw [hden] at hget
     rw [← Sem.bind_pure' (loadVar t _)]
     refine run_loadVar_one hget hu hag (v := .int k ((ρ.list l).getD (off'.den ρ).toNat 0)) ?_ (Run.pure hK)
     rw [show (off.den ρ).toNat = (baseOf ρ bs).toNat + (off'.den ρ).toNat by omega]
     exact hcs _ (by omega)
    ·rename_i off' hrel hag
     obtain ⟨hoff, hok'⟩ := relOff_den (ρ := ρ) hrel hok.2
     obtain ⟨d, hu, hag⟩ := Option.map_eq_some_iff.1 hag
     split at h
     ·rename_i n hn
      split at h
      ·rename_i hn1
       have hn1 := Nat.le_of_ble_eq_true hn1
       simp only [Option.some.injEq] at h; subst h
       obtain ⟨i, hi, hn⟩ := Option.map_eq_some_iff.1 hn
       refine good_val (s := Instr.loadAt t (ev' x)) (by simp only [execOp, hop]) (oks_iff.2 fun y hy => ?_) fun hneeds K hK => hred K ?_
       ·obtain ⟨j, _, rfl⟩ := List.mem_map.1 hy
        exact ⟨numsOf_ok hnums hso, IE.ok_plus hok' trivial⟩
       have hb0 : 0 ≤ baseOf ρ bs := baseNeed_den fun c hc => hneeds c (by simp [hc])
       have h0 : 0 ≤ off'.den ρ := notNeg_den fun c hc => hneeds c (by simp [hc])
       have h1 : (IE.plus off' (.lit n)).den ρ ≤ ((ρ.list l).length : Nat) := of_decide_eq_true (hneeds (.le (.plus off' (.lit n)) (.len l)) (by simp))
       rw [IE.den_plus] at h1
       simp only [IE.den] at h1
       obtain ⟨cs, ty, fz, hden, hcs⟩ := numsOf_den hnums ⟨(off'.den ρ).toNat, by omega⟩ hb0
       rw [hden] at hget
       have hsz : (off.den ρ).toNat + n ≤ cs.size := by
        have h2 := hcs ((off'.den ρ).toNat + (n - 1)) (by omega)
        obtain ⟨h3, _⟩ := Array.getElem?_eq_some_iff.1 h2
        omega
       rw [← Sem.bind_pure' (loadVar t _)]
       refine run_loadVar_agg hget hu hag hi (by omega) ?_
       have e1 : cs.extract (off.den ρ).toNat ((off.den ρ).toNat + i.size) = (dens ρ ((List.range n).map fun (j : Nat) => SC.int k (.nth l (.plus off' (.lit (j : Int)))))).toArray := by
        apply Array.ext_getElem?
        intro j
        rw [dens_eq]
        rw [Array.getElem?_extract]
        simp only [List.getElem?_toArray, List.getElem?_map, List.map_map]
        by_cases hj : j < n
        ·rw [if_pos (by omega)]
         rw [List.getElem?_range hj]
         simp only [Option.map_some, Function.comp, SC.den, IE.den, IE.den_plus]
         rw [show (off.den ρ).toNat + j = (baseOf ρ bs).toNat + ((off'.den ρ).toNat + j) by omega, hcs _ (by omega), toNat_plus h0]
        ·rw [if_neg (by omega)]
         rw [List.getElem?_eq_none (by simpa using hj)]
         rfl
       rw [e1]
       exact Run.pure hK
      ·simp at h
     ·simp at h
    ·simp at h
   ·split at h
    ·rename_i l n hr
     obtain ⟨te, tail, hden, _⟩ := rowOf_den (ρ := ρ) hr
     rw [hden] at hget
     split at h
     ·rename_i v hv
      simp only [Option.some.injEq] at h; subst h
      refine good_val (s := Instr.loadAt t (ev' x)) (by simp only [execOp, hop]) (symPart_ok hv (rowOf_ok hr hso)) fun hneeds K hK => hred K ?_
      exact run_loadVar hget hv hK
     ·simp at h
    ·rename_i off x1 offd hmiss
     split at h
     ·rename_i v hv
      simp only [Option.some.injEq] at h; subst h
      cases so with
      | tail l te r q =>
       simp only [tailLoad] at hv
       split at hv
       ·rename_i k ho
        have hoff := offA_den (ρ := ρ) (fun c hc => by cases hc) ho
        have hoff' : (off.den ρ).toNat = (ρ.rest q).length + k := by rw [hoff, Int.toNat_natCast, Nat.one_mul]; rfl
        refine good_val (s := Instr.loadAt t (ev' x)) (by simp only [execOp, hop]) (symPart_ok hv (fun y hy => hso.2 y hy)) fun hneeds K hK => hred K ?_
        rw [hoff']
        have hsp' := symPart_pre (P := P) (t := t) (l := l) (p := (ρ.rest q).map ofSc) (k := k)
        rw [List.length_map] at hsp'
        have hmo : ((ρ.rest q).map ofSc).map (SC.den ρ) = ρ.rest q := by
         rw [List.map_map]
         have : SC.den ρ ∘ ofSc = id := funext fun v => den_ofSc ρ v
         rw [this, List.map_id]
        refine run_loadVar (ρ := ρ) (l := (ρ.rest q).map ofSc ++ l) (tail := ρ.rest r) (te := te) ?_ (hsp'.trans hv) hK
        rw [hget]
        simp only [SO.den, List.map_append, hmo, List.append_assoc]
       ·cases hv
      | cut off0 l te r q =>
       simp only [tailLoad] at hv
       split at hv
       ·rename_i ho
        have ho := of_decide_eq_true ho
        subst ho
        refine good_val (s := Instr.loadAt t (ev' x)) (by simp only [execOp, hop]) (symPart_ok hv (fun y hy => hso.2.2 y hy)) fun hneeds K hK => hred K ?_
        have hsp' := symPart_pre (P := P) (t := t) (l := l) (p := (padN (off.den ρ).toNat (ρ.rest q)).map ofSc) (k := 0)
        rw [List.length_map, padN_len, Nat.add_zero] at hsp'
        have hmo : ((padN (off.den ρ).toNat (ρ.rest q)).map ofSc).map (SC.den ρ) = padN (off.den ρ).toNat (ρ.rest q) := by
         rw [List.map_map]
         have : SC.den ρ ∘ ofSc = id := funext fun v => den_ofSc ρ v
         rw [this, List.map_id]
        refine run_loadVar (ρ := ρ) (l := (padN (off.den ρ).toNat (ρ.rest q)).map ofSc ++ l) (tail := ρ.rest r) (te := te) ?_ (hsp'.trans hv) hK
        rw [hget]
        simp only [SO.den, List.map_append, hmo, List.append_assoc]
       ·cases hv
      | _ => simp [tailLoad] at hv
     ·unfold hrowLoad at h
      split at h
      ·exact hLoad_good hop hs hok hx' hb h
      ·cases h
  ·simp at h
 ·simp at h
def sStore (P : Program) (hp : Hp) (t : TypeId) (x v : Option SC) : Option Eff := match x, v with
 | some (.ptr b (.lit (.ofNat off))), some v => match cellsOf v, hp.rw.look b with
  | some new, some o => match rowOf o with
   | some l => match (decide (sizeT P t = some new.length)) && new.all SC.single && Nat.ble (off + new.length) l.length with
    | true => some (.store [] b (rowWith (splice l off new) o))
    | false => none
   | none => none
  | _, _ => none
 | _, _ => none
theorem sStore_good {t : TypeId} {x y : Operand} (hop : o.op = .store t x y) (hv : vals ρ) (hs : Sat ρ hp F S) (hev : EvOk ρ ev ev') (h : sStore P hp t (ev x) (ev y) = some e) : EffGood P ρ hp S0 S (execOp ev' o) e := by
 unfold sStore at h
 split at h
 ·rename_i b off v hx hy
  obtain ⟨hokx, hx'⟩ := hev x _ hx
  obtain ⟨hoky, hy'⟩ := hev y _ hy
  split at h
  ·rename_i new so hc hb
   obtain ⟨hlt, hso, hfull⟩ := hs.has _ _ hb
   split at h
   ·rename_i l hr
    obtain ⟨te, tail, hden, hwith⟩ := rowOf_den (ρ := ρ) hr
    rw [hden] at hfull
    split at h
    ·rename_i hcond
     simp only [Bool.and_eq_true, decide_eq_true_eq] at hcond
     simp only [Option.some.injEq] at h; subst h
     refine ⟨⟨⟨_, hb⟩, fun _ K hK => ?_⟩, rowWith_ok hr hso (splice_ok (rowOf_ok hr hso) (cellsOf_ok hc hoky))⟩
     simp only [execOp, hop]
     show Run P S0 ((Instr.storeAt t (ev' x) (ev' y)).bind fun _ => Sem.pure Next.skip) _ K
     rw [hx', hy']
     refine Run.bind (Run.mono (run_storeVar (K := fun r S' => r = .ok () ∧ S' = S.set (ρ.blk b) ((rowWith (splice l off new) so).den ρ)) hv hfull hc hcond.1.2 hcond.1.1 (Nat.le_of_ble_eq_true hcond.2) ⟨rfl, by rw [hwith]; rfl⟩) ?_)
     rintro r S' ⟨rfl, rfl⟩
     exact Run.pure hK
    ·simp at h
   ·simp at h
  ·simp at h
 ·simp at h
def sBox (e : TypeId) (v : Option SC) : Option Eff := match v with
 | some v => match cellsOf v with
  | some l => match l.all SC.single with
   | true => some (.fresh [] (.cells l e) .ptr)
   | false => none
  | none => none
 | none => none
theorem sBox_good [Loud S0] {t : TypeId} {x : Operand} (hop : o.op = .box t x) (hv : vals ρ) (hev : EvOk ρ ev ev') (h : sBox t (ev x) = some e) : EffGood P ρ hp S0 S (execOp ev' o) e := by
 unfold sBox at h
 split at h
 ·rename_i v hx
  obtain ⟨hok, hx'⟩ := hev x _ hx
  split at h
  ·rename_i l hc
   split at h
   ·rename_i h1
    simp only [Option.some.injEq] at h; subst h
    refine ⟨fun _ K hK => ?_, cellsOf_ok hc hok⟩
    simp only [execOp, hop, hx']
    refine run_value ?_
    show Run P S0 ((newVar t (v.den ρ)).bind fun a => Sem.pure (Value.pointer (some a))) S _
    exact run_newVar hv hc h1 fun r h2 h3 => Run.pure (hK r h2 h3)
   ·simp at h
  ·simp at h
 ·simp at h
def sAlloc (P : Program) (e : TypeId) : Option Eff := match P.info? e with
 | some i => match i.zero with
  | some z => sBox e (some (ofVal z))
  | none => none
 | none => none
theorem sAlloc_good [Loud S0] {t : TypeId} (hop : o.op = .alloc t) (hv : vals ρ) (h : sAlloc P t = some e) : EffGood P ρ hp S0 S (execOp ev' o) e := by
 unfold sAlloc at h
 split at h
 ·rename_i i hi
  split at h
  ·rename_i z hz
   unfold sBox at h
   simp only at h
   split at h
   ·rename_i l hc
    split at h
    ·rename_i h1
     simp only [Option.some.injEq] at h; subst h
     refine ⟨fun _ K hK => ?_, cellsOf_ok hc (ok_ofVal _ z)⟩
     simp only [execOp, hop]
     refine run_value ?_
     show Run P S0 ((zeroValue t).bind fun z => (newVar t z).bind fun a => Sem.pure (Value.pointer (some a))) S _
     refine run_zeroValue hi hz ?_
     have := run_newVar (P := P) (S0 := S0) (t := t) (f := fun a => Sem.pure (Value.pointer (some a))) (K := fun r S' => match r with | .ok v => K (.ok (.value v)) S' | .error v => K (.error v) S') (S := S) hv hc h1 fun r h2 h3 => Run.pure (hK r h2 h3)
     rw [den_ofVal] at this
     exact this
    ·simp at h
   ·simp at h
  ·simp at h
 ·simp at h
def sExtract (x : Option SC) (i : Nat) : Option Eff := match x with
 | some (.tup l) => sMove l[i]?
 | _ => none
theorem sExtract_good {x : Operand} {i : Nat} (hop : o.op = .extract x i) (hev : EvOk ρ ev ev') (h : sExtract (ev x) i = some e) : EffGood P ρ hp S0 S (execOp ev' o) e := by
 unfold sExtract at h
 split at h
 ·rename_i l hx
  obtain ⟨hok, hx'⟩ := hev x _ hx
  unfold sMove at h
  split at h
  ·rename_i v hl
   simp only [Option.some.injEq] at h; subst h
   refine good_val (s := Instr.extract (ev' x) i) (by simp only [execOp, hop]) (oks_iff.1 hok _ (List.mem_of_getElem? hl)) fun _ K hK => ?_
   rw [hx']
   unfold Instr.extract
   simp only [SC.den, dens_eq]
   have : (l.map (SC.den ρ)).toArray[i]? = some (v.den ρ) := by simp [hl]
   rw [this]
   exact Run.pure hK
  ·simp at h
 ·simp at h
def sConvert (P : Program) (src dst : TypeId) (x : Option SC) : Option Eff := match P.underlying src, P.underlying dst, x with
 | some _, some (.int k), some (.int _ a) => some (.val [] (.int k (.wrp k a)))
 | _, _, _ => none
theorem sConvert_good {src dst : TypeId} {x : Operand} (hop : o.op = .convert src dst x) (hev : EvOk ρ ev ev') (h : sConvert P src dst (ev x) = some e) : EffGood P ρ hp S0 S (execOp ev' o) e := by
 unfold sConvert at h
 split at h
 ·rename_i d k k' a hs' hd hx
  obtain ⟨hok, hx'⟩ := hev x _ hx
  simp only [Option.some.injEq] at h; subst h
  refine good_val (s := Go.convert src dst (ev' x)) (by simp only [execOp, hop]) (IE.ok_wrp (a := a) hok) fun _ K hK => ?_
  rw [hx']
  unfold Go.convert
  simp only [bind]
  refine run_underlying hs' (run_underlying hd ?_)
  simp only [SC.den, IE.den_wrp] at hK
  cases d <;> exact Run.pure hK
 ·simp at h
def sUn (op : UnOp) (x : Option SC) : Option Eff := match op, x with
 | .not, some (.bool (.lit b)) => some (.val [] (.bool (.lit !b)))
 | .not, some (.bool b) => some (.val [] (.bool (.not b)))
 | .neg, some (.int k (.lit n)) => some (.val [] (.int k (.lit (k.wrap (0 - n)))))
 | .neg, some (.int k a) => some (.val [] (.int k (.wrap k (.sub (.lit 0) a))))
 | _, _ => none
theorem sUn_good {op : UnOp} {t : TypeId} {x : Operand} (hop : o.op = .unOp op t x) (hev : EvOk ρ ev ev') (h : sUn op (ev x) = some e) : EffGood P ρ hp S0 S (execOp ev' o) e := by
 unfold sUn at h
 split at h <;> (try (simp at h; done))
 ·rename_i b hx
  obtain ⟨hok, hx'⟩ := hev _ _ hx
  simp only [Option.some.injEq] at h; subst h
  refine good_val (s := Op.unary .not (ev' x)) (by simp only [execOp, hop]) trivial fun _ K hK => ?_
  rw [hx']
  exact Run.pure hK
 ·rename_i b _ hx
  obtain ⟨hok, hx'⟩ := hev _ _ hx
  simp only [Option.some.injEq] at h; subst h
  refine good_val (s := Op.unary .not (ev' x)) (by simp only [execOp, hop]) hok fun _ K hK => ?_
  rw [hx']
  exact Run.pure hK
 ·rename_i k n hx
  obtain ⟨hok, hx'⟩ := hev _ _ hx
  simp only [Option.some.injEq] at h; subst h
  refine good_val (s := Op.unary .neg (ev' x)) (by simp only [execOp, hop]) trivial fun _ K hK => ?_
  rw [hx']
  have e1 : (SC.int k (.lit (k.wrap (0 - n)))).den ρ = .int k (k.wrap (-n)) := by simp [SC.den, IE.den]
  rw [e1] at hK
  exact Run.of_eq (by simp [Op.unary, Op.intArith, SC.den, IE.den, pure]) (Run.pure hK)
 ·rename_i k a _ hx
  obtain ⟨hok, hx'⟩ := hev _ _ hx
  simp only [Option.some.injEq] at h; subst h
  refine good_val (s := Op.unary .neg (ev' x)) (by simp only [execOp, hop]) ⟨trivial, hok⟩ fun _ K hK => ?_
  rw [hx']
  have e1 : (SC.int k (.wrap k (.sub (.lit 0) a))).den ρ = .int k (k.wrap (-(a.den ρ))) := by simp [SC.den, IE.den]
  rw [e1] at hK
  exact Run.of_eq (by simp [Op.unary, Op.intArith, SC.den, pure]) (Run.pure hK)
end
open Go Mv
section
variable {P : Program} {ρ : Env} {hp : Hp} {F S0 S : Own} {ev : Operand → Option SC} {ev' : Operand → Value} {o : Oper} {e : Eff}
def BE.and (a b : BE) : BE := match a, b with
 | .lit true, b => b
 | .lit false, _ => .lit false
 | a, b => .pick a b (.lit false)
theorem BE.den_and (a b : BE) : (BE.and a b).den ρ = (a.den ρ && b.den ρ) := by
 unfold BE.and
 split
 ·rfl
 ·rfl
 ·simp only [BE.den]; cases a.den ρ <;> rfl
theorem BE.ok_and {n : Nat} {a b : BE} (ha : a.ok n) (hb : b.ok n) : (BE.and a b).ok n := by
 unfold BE.and
 split
 ·exact hb
 ·trivial
 ·exact ⟨ha, hb, trivial⟩
def IE.eqL (m : Int) (b : IE) : BE := match b with
 | .lit n => .lit (Int.same m n)
 | b => .eq (.lit m) b
def IE.eqB (a b : IE) : BE := match a with
 | .lit m => IE.eqL m b
 | a => .eq a b
def IE.ltL (m : Int) (b : IE) : BE := match b with
 | .lit n => .lit (Int.less m n)
 | b => .lt (.lit m) b
def IE.ltB (a b : IE) : BE := match a with
 | .lit m => IE.ltL m b
 | a => .lt a b
def IE.leL (m : Int) (b : IE) : BE := match b with
 | .lit n => .lit (!Int.less n m)
 | b => .le (.lit m) b
def IE.leB (a b : IE) : BE := match a with
 | .lit m => IE.leL m b
 | a => .le a b
def BE.neg (a : BE) : BE := match a with
 | .lit b => .lit !b
 | a => .not a
theorem IE.den_eqB (a b : IE) : (IE.eqB a b).den ρ = (a.den ρ == b.den ρ) := by
 unfold IE.eqB
 split
 ·unfold IE.eqL
  split
  ·simp only [BE.den, IE.den, Int.same_eq]
  ·rfl
 ·rfl
theorem IE.den_ltB (a b : IE) : (IE.ltB a b).den ρ = decide (a.den ρ < b.den ρ) := by
 unfold IE.ltB
 split
 ·unfold IE.ltL
  split
  ·simp only [BE.den, IE.den, Int.less_eq]; rfl
  ·rfl
 ·rfl
theorem IE.den_leB (a b : IE) : (IE.leB a b).den ρ = decide (a.den ρ ≤ b.den ρ) := by
 unfold IE.leB
 split
 ·unfold IE.leL
  split
  ·rename_i m _ n
   simp only [BE.den, IE.den, Int.less_eq]
   by_cases h : n < m
   ·have : ¬ m ≤ n := by omega
    simp [h, this]
   ·have : m ≤ n := by omega
    simp [h, this]
  ·rfl
 ·rfl
theorem BE.den_neg (a : BE) : (BE.neg a).den ρ = !a.den ρ := by
 unfold BE.neg
 split <;> rfl
theorem IE.ok_eqB {n : Nat} {a b : IE} (ha : a.ok n) (hb : b.ok n) : (IE.eqB a b).ok n := by
 unfold IE.eqB; split
 ·unfold IE.eqL; split <;> first | trivial | exact ⟨ha, hb⟩
 ·exact ⟨ha, hb⟩
theorem IE.ok_ltB {n : Nat} {a b : IE} (ha : a.ok n) (hb : b.ok n) : (IE.ltB a b).ok n := by
 unfold IE.ltB; split
 ·unfold IE.ltL; split <;> first | trivial | exact ⟨ha, hb⟩
 ·exact ⟨ha, hb⟩
theorem IE.ok_leB {n : Nat} {a b : IE} (ha : a.ok n) (hb : b.ok n) : (IE.leB a b).ok n := by
 unfold IE.leB; split
 ·unfold IE.leL; split <;> first | trivial | exact ⟨ha, hb⟩
 ·exact ⟨ha, hb⟩
theorem BE.ok_neg {n : Nat} {a : BE} (ha : a.ok n) : (BE.neg a).ok n := by
 unfold BE.neg; split <;> first | trivial | exact ha
def isRow (hp : Hp) (i : Nat) : Bool := match hp.rw.look i with
 | some (.cells (_ :: _) _) => true
 | some (.row (_ :: _) _ _) => true
 | _ => false
def litsB (a b : BE) : Option BE := match a, b with
 | .lit x, .lit y => some (.lit (x == y))
 | a, b => some (.pick a b (.not b))
def eqFields (P : Program) (eq : TypeId → SC → SC → Option BE) (xs ys : List SC) : List Field → Option BE
 | [] => some (.lit true)
 | f :: fs => match f.name == "_" with
  | true => eqFields P eq xs ys fs
  | false => match symPart P f.type xs f.offset, symPart P f.type ys f.offset with
   | some x, some y => match eq f.type x y with
    | some (.lit false) => some (.lit false)
    | some c => match eqFields P eq xs ys fs with
     | some r => some (BE.and c r)
     | none => none
    | none => none
   | _, _ => none
def eqElems (P : Program) (eq : TypeId → SC → SC → Option BE) (el : TypeId) (n : Nat) (xs ys : List SC) : List Nat → Option BE
 | [] => some (.lit true)
 | i :: is => match symPart P el xs (i * n), symPart P el ys (i * n) with
  | some x, some y => match eq el x y with
   | some (.lit false) => some (.lit false)
   | some c => match eqElems P eq el n xs ys is with
    | some r => some (BE.and c r)
    | none => none
   | none => none
  | _, _ => none
def eqS (P : Program) (hp : Hp) : Nat → TypeId → SC → SC → Option BE
 | 0, _, _, _ => none
 | d + 1, t, x, y => match P.underlying t, x, y with
  | some (.int _), .int k a, .int k' b => match decide (k = k') with
   | true => some (IE.eqB a b)
   | false => none
  | some .bool, .bool a, .bool b => litsB a b
  | some .string, .lit (.string a), .lit (.string b) => some (.lit (a == b))
  | some (.pointer _), .lit (.pointer none), .lit (.pointer none) => some (.lit true)
  | some (.pointer _), .lit (.pointer none), .ptr .. => some (.lit false)
  | some (.pointer _), .ptr .., .lit (.pointer none) => some (.lit false)
  | some (.pointer el), .ptr b (.lit (.ofNat m)), .ptr c (.lit (.ofNat n)) => match sizeT P el with
   | some (_ + 1) => match Nat.beq b c with
    | true => some (.lit (Nat.beq m n))
    | false => match isRow hp b && isRow hp c with
     | true => some (.lit false)
     | false => none
   | _ => none
  | some (.interface _), .lit .nilIface, .lit .nilIface => some (.lit true)
  | some (.interface _), .lit .nilIface, .iface .. => some (.lit false)
  | some (.interface _), .iface .., .lit .nilIface => some (.lit false)
  | some (.interface _), .iface tx vx, .iface ty vy => match Nat.beq tx ty with
   | false => some (.lit false)
   | true => match P.info? tx with
    | some i => match i.comparable with
     | true => eqS P hp d tx vx vy
     | false => none
    | none => none
  | some (.slice _), .lit (.slice none _ _), .lit (.slice none _ _) => some (.lit true)
  | some (.slice _), .lit (.slice none _ _), .slice .. => some (.lit false)
  | some (.slice _), .slice .., .lit (.slice none _ _) => some (.lit false)
  | some (.map ..), .lit (.map none), .lit (.map none) => some (.lit true)
  | some (.map ..), .lit (.map none), .ref _ => some (.lit false)
  | some (.map ..), .ref _, .lit (.map none) => some (.lit false)
  | some (.func ..), .lit .nilFunc, .lit .nilFunc => some (.lit true)
  | some (.func ..), .lit .nilFunc, .fn .. => some (.lit false)
  | some (.func ..), .fn .., .lit .nilFunc => some (.lit false)
  | some (.struct fields), .agg xs, .agg ys => match P.stoodInHeld t with
   | true => none
   | false => eqFields P (eqS P hp d) xs ys fields.toList
  | some (.array len el), .agg xs, .agg ys => match sizeT P el with
   | some n => eqElems P (eqS P hp d) el n xs ys (List.range len)
   | none => none
  | _, _, _ => none
end
open Go Mv
section
variable {P : Program} {ρ : Env} {hp : Hp} {F S0 S : Own}
abbrev LoopSt := Option Bool × Unit
def loopRes (b : Bool) : LoopSt := if b then (none, ()) else (some false, ())
theorem run_forIn_cons {β : Type} {x : β} {l : List β} {s : LoopSt} {body : β → LoopSt → Sem (ForInStep LoopSt)} {K : Except Value LoopSt → Own → Prop}
  (h : Run P S0 (body x s) S fun r S' => match r with
   | .ok (.done s') => K (.ok s') S'
   | .ok (.yield s') => Run P S0 (forIn l s' body) S' K
   | .error v => K (.error v) S') : Run P S0 (forIn (x :: l) s body) S K := by
 rw [List.forIn_cons]
 refine Run.bind (h.mono fun r S' k => ?_)
 cases r with
 | error v => exact k
 | ok st => cases st with
  | done s' => exact Run.pure k
  | yield s' => exact k
theorem run_fields {eq : TypeId → SC → SC → Option BE} {eqM : TypeId → Value → Value → Sem Bool} {xs ys : List SC} {n : Nat} (hxs : ∀ x ∈ xs, x.ok n) (hys : ∀ x ∈ ys, x.ok n)
    (heq : ∀ t x y r, eq t x y = some r → x.ok n → y.ok n → r.ok n ∧ ∀ (K : Except Value Bool → Own → Prop), K (.ok (r.den ρ)) S → Run P S0 (eqM t (x.den ρ) (y.den ρ)) S K) :
    ∀ (fs : List Field) (r : BE), eqFields P eq xs ys fs = some r → r.ok n ∧ ∀ (K : Except Value LoopSt → Own → Prop), K (.ok (loopRes (r.den ρ))) S →
      Run P S0 (forIn fs ((none, ()) : LoopSt) fun (f : Field) (_ : LoopSt) => if f.name ≠ "_" then (part f.type (dens ρ xs).toArray f.offset).bind fun a => (part f.type (dens ρ ys).toArray f.offset).bind fun b => (eqM f.type a b).bind fun c =>
        if (!c) = true then (pure (ForInStep.done ((some false, ()) : LoopSt)) : Sem _) else pure (ForInStep.yield (none, ())) else pure (ForInStep.yield (none, ()))) S K := by
  intro fs
  induction fs with
  | nil =>
    intro r h
    simp only [eqFields, Option.some.injEq] at h; subst h
    exact ⟨trivial, fun K hK => Run.pure hK⟩
  | cons f fs ih =>
    intro r h
    simp only [eqFields] at h
    split at h
    · rename_i hname
      have hname' : f.name = "_" := by simpa using hname
      obtain ⟨h1, h2⟩ := ih r h
      refine ⟨h1, fun K hK => run_forIn_cons ?_⟩
      rw [if_neg (by simpa using hname')]
      exact Run.pure (h2 K hK)
    · rename_i hname
      have hname' : f.name ≠ "_" := by simpa using hname
      split at h
      · rename_i x y hx hy
        have hxo := symPart_ok hx hxs
        have hyo := symPart_ok hy hys
        have step : ∀ (c : BE) (K : Except Value LoopSt → Own → Prop), eq f.type x y = some c →
            (c.den ρ = false → K (.ok (some false, ())) S) → (c.den ρ = true → Run P S0 (forIn fs ((none, ()) : LoopSt) fun (f : Field) (_ : LoopSt) => if f.name ≠ "_" then (part f.type (dens ρ xs).toArray f.offset).bind fun a => (part f.type (dens ρ ys).toArray f.offset).bind fun b => (eqM f.type a b).bind fun c =>
        if (!c) = true then (pure (ForInStep.done ((some false, ()) : LoopSt)) : Sem _) else pure (ForInStep.yield (none, ())) else pure (ForInStep.yield (none, ()))) S K) →
            Run P S0 (forIn (f :: fs) ((none, ()) : LoopSt) fun (f : Field) (_ : LoopSt) => if f.name ≠ "_" then (part f.type (dens ρ xs).toArray f.offset).bind fun a => (part f.type (dens ρ ys).toArray f.offset).bind fun b => (eqM f.type a b).bind fun c =>
        if (!c) = true then (pure (ForInStep.done ((some false, ()) : LoopSt)) : Sem _) else pure (ForInStep.yield (none, ())) else pure (ForInStep.yield (none, ()))) S K := by
          intro c K hc hf ht
          refine run_forIn_cons ?_
          rw [if_pos hname']
          refine Run.bind (run_part hx ?_)
          refine Run.bind (run_part hy ?_)
          refine Run.bind ((heq _ _ _ _ hc hxo hyo).2 _ ?_)
          cases hb : c.den ρ with
          | false => exact Run.pure (hf hb)
          | true => exact Run.pure (ht hb)
        split at h
        · rename_i hc
          simp only [Option.some.injEq] at h; subst h
          exact ⟨trivial, fun K hK => step _ K hc (fun _ => hK) (fun hb => by simp [BE.den] at hb)⟩
        · rename_i c _ hc
          split at h
          · rename_i r' hr'
            simp only [Option.some.injEq] at h; subst h
            obtain ⟨h1, h2⟩ := ih r' hr'
            refine ⟨BE.ok_and (heq _ _ _ _ hc hxo hyo).1 h1, fun K hK => step _ K hc (fun hb => ?_) fun hb => h2 K ?_⟩
            · rw [BE.den_and, hb] at hK; exact hK
            · rw [BE.den_and, hb] at hK; exact hK
          · simp at h
        · simp at h
      · simp at h
theorem run_elems {eq : TypeId → SC → SC → Option BE} {eqM : TypeId → Value → Value → Sem Bool} {xs ys : List SC} {el : TypeId} {sz n : Nat} (hxs : ∀ x ∈ xs, x.ok n) (hys : ∀ x ∈ ys, x.ok n)
  (heq : ∀ t x y r, eq t x y = some r → x.ok n → y.ok n → r.ok n ∧ ∀ (K : Except Value Bool → Own → Prop), K (.ok (r.den ρ)) S → Run P S0 (eqM t (x.den ρ) (y.den ρ)) S K) :
  ∀ (is : List Nat) (r : BE), eqElems P eq el sz xs ys is = some r → r.ok n ∧ ∀ (K : Except Value LoopSt → Own → Prop), K (.ok (loopRes (r.den ρ))) S →
   Run P S0 (forIn is ((none, ()) : LoopSt) fun (i : Nat) (_ : LoopSt) => (part el (dens ρ xs).toArray (i * sz)).bind fun a => (part el (dens ρ ys).toArray (i * sz)).bind fun b => (eqM el a b).bind fun c =>
    if (!c) = true then (pure (ForInStep.done ((some false, ()) : LoopSt)) : Sem _) else pure (ForInStep.yield (none, ()))) S K := by
 intro is
 induction is with
 | nil =>
  intro r h
  simp only [eqElems, Option.some.injEq] at h; subst h
  exact ⟨trivial, fun K hK => Run.pure hK⟩
 | cons i is ih =>
  intro r h
  simp only [eqElems] at h
  split at h
  ·rename_i x y hx hy
   have hxo := symPart_ok hx hxs
   have hyo := symPart_ok hy hys
   have step : ∀ (c : BE) (K : Except Value LoopSt → Own → Prop), eq el x y = some c →
     (c.den ρ = false → K (.ok (some false, ())) S) → (c.den ρ = true → Run P S0 (forIn is ((none, ()) : LoopSt) fun (i : Nat) (_ : LoopSt) => (part el (dens ρ xs).toArray (i * sz)).bind fun a => (part el (dens ρ ys).toArray (i * sz)).bind fun b => (eqM el a b).bind fun c =>
    if (!c) = true then (pure (ForInStep.done ((some false, ()) : LoopSt)) : Sem _) else pure (ForInStep.yield (none, ()))) S K) →
     Run P S0 (forIn (i :: is) ((none, ()) : LoopSt) fun (i : Nat) (_ : LoopSt) => (part el (dens ρ xs).toArray (i * sz)).bind fun a => (part el (dens ρ ys).toArray (i * sz)).bind fun b => (eqM el a b).bind fun c =>
    if (!c) = true then (pure (ForInStep.done ((some false, ()) : LoopSt)) : Sem _) else pure (ForInStep.yield (none, ()))) S K := by
    intro c K hc hf ht
    refine run_forIn_cons ?_
    refine Run.bind (run_part hx ?_)
    refine Run.bind (run_part hy ?_)
    refine Run.bind ((heq _ _ _ _ hc hxo hyo).2 _ ?_)
    cases hb : c.den ρ with
    | false => exact Run.pure (hf hb)
    | true => exact Run.pure (ht hb)
   split at h
   ·rename_i hc
    simp only [Option.some.injEq] at h; subst h
    exact ⟨trivial, fun K hK => step _ K hc (fun _ => hK) (fun hb => by simp [BE.den] at hb)⟩
   ·rename_i c _ hc
    split at h
    ·rename_i r' hr'
     simp only [Option.some.injEq] at h; subst h
     obtain ⟨h1, h2⟩ := ih r' hr'
     refine ⟨BE.ok_and (heq _ _ _ _ hc hxo hyo).1 h1, fun K hK => step _ K hc (fun hb => ?_) fun hb => h2 K ?_⟩
     ·rw [BE.den_and, hb] at hK; exact hK
     ·rw [BE.den_and, hb] at hK; exact hK
    ·simp at h
   ·simp at h
  ·simp at h
theorem isRow_has {i : Nat} (hs : Sat ρ hp F S) (h : isRow hp i = true) : ∃ o c e, hp.rw.look i = some o ∧ S.full (ρ.blk i) = some (.cells c e (0, 0)) ∧ 0 < c.size := by
 unfold isRow at h
 split at h
 ·rename_i x l e hl
  exact ⟨_, _, _, hl, (hs.has i _ hl).2.2, by simp⟩
 ·rename_i x l e r hl
  exact ⟨_, _, _, hl, (hs.has i _ hl).2.2, by simp⟩
 ·cases h
theorem run_frozen_row {α : Type} {b off : Nat} {c : Array Value} {te : TypeId} {g : Bool → Sem α} {K : Except Value α → Own → Prop} (hb : S.full b = some (.cells c te (0, 0))) (h : Run P S0 (g false) S K) : Run P S0 ((frozen ⟨b, off, none⟩).bind g) S K := by
 refine Run.frozen (a := ⟨b, off, none⟩) (c := c) (e := te) (lo := 0) (hi := 0) (by unfold Own.get; rw [hb]; rfl) ?_
 have : (decide (0 ≤ off) && decide (off < 0)) = false := by simp
 show Run P S0 (Sem.bind (.pure (decide (0 ≤ off) && decide (off < 0))) g) S K
 rw [this]; exact h
theorem run_shape_row {α : Type} {b : Nat} {c : Array Value} {te : TypeId} {g : Option (TypeId × Nat) → Sem α} {K : Except Value α → Own → Prop} (hb : S.full b = some (.cells c te (0, 0))) (h : Run P S0 (g (some (te, c.size))) S K) : Run P S0 ((shape b).bind g) S K :=
 Run.shape (c := c) (e := te) (f := (0, 0)) (by unfold Own.get; rw [hb]; rfl) h
theorem run_sameAddr {a b m n : Nat} {c c' : Array Value} {te te' : TypeId} (ha : S.full a = some (.cells c te (0, 0))) (hb : S.full b = some (.cells c' te' (0, 0))) (h0 : 0 < c.size) (h0' : 0 < c'.size) (hne : a ≠ b) {K : Except Value Bool → Own → Prop} (hK : K (.ok false) S) :
  Run P S0 (sameAddr ⟨a, m, none⟩ ⟨b, n, none⟩) S K := by
 rw [← Sem.bind_pure' (sameAddr _ _)]
 unfold sameAddr
 simp only [bind]
 rw [if_neg (by simpa using hne)]
 simp only [Sem.bind_assoc']
 refine run_frozen_row ha (run_frozen_row hb ?_)
 simp only [Bool.and_self, Bool.false_eq_true, if_false]
 simp only [noView, viewAt, bind, Sem.bind_assoc']
 refine run_shape_row ha ?_
 show Run P S0 ((shape b).bind _) S K
 refine run_shape_row hb ?_
 show Run P S0 ((mayBeOne ⟨a, m, none⟩ ⟨b, n, none⟩).bind fun r => (if r = true then (choose (Question.extern "sameAddr.stringBytes" 2)).bind fun x => pure (x == 1) else pure false).bind Sem.pure) S K
 unfold mayBeOne
 simp only [stringish, bind, Sem.bind_assoc']
 refine run_frozen_row ha ?_
 simp only [Bool.false_eq_true, if_false, Sem.bind_assoc']
 refine run_shape_row ha (run_frozen_row ha ?_)
 refine run_frozen_row hb ?_
 simp only [Bool.false_eq_true, if_false, Sem.bind_assoc']
 refine run_shape_row hb (run_frozen_row hb ?_)
 refine run_shape_row ha ?_
 refine run_shape_row hb ?_
 exact Run.pure hK
theorem eqS_ok (hs : Sat ρ hp F S) : ∀ (d d' : Nat) (t : TypeId) (x y : SC) (r : BE), d ≤ d' → eqS P hp d t x y = some r → x.ok ρ.k.length → y.ok ρ.k.length →
    r.ok ρ.k.length ∧ ∀ (K : Except Value Bool → Own → Prop), K (.ok (r.den ρ)) S → Run P S0 (Op.equalIn d' t (x.den ρ) (y.den ρ)) S K := by
  intro d
  induction d with
  | zero => intro d' t x y r _ h; simp [eqS] at h
  | succ d ih =>
    intro d' t x y r hd h hxo hyo
    obtain ⟨d', rfl⟩ : ∃ d'', d' = d'' + 1 := ⟨d' - 1, by omega⟩
    have open_ : ∀ (K : Except Value Bool → Own → Prop) (td : TypeDesc), P.underlying t = some td → Run P S0 ((Op.equalIn (d' + 1) t (x.den ρ) (y.den ρ)).bind Sem.pure) S K → Run P S0 (Op.equalIn (d' + 1) t (x.den ρ) (y.den ρ)) S K := fun K td _ h => by
      rwa [Sem.bind_pure'] at h
    unfold eqS at h
    split at h <;> (try (simp at h; done))
    ·
      rename_i k0 k a k' b hu
      split at h
      · rename_i hk
        have hk : k = k' := of_decide_eq_true hk
        subst hk
        simp only [Option.some.injEq] at h; subst h
        refine ⟨IE.ok_eqB hxo hyo, fun K hK => open_ K _ hu ?_⟩
        unfold Op.equalIn
        simp only [bind]
        rw [Sem.bind_assoc']
        refine run_underlying hu ?_
        rw [IE.den_eqB] at hK
        simp only [SC.den, if_true]
        exact Run.pure hK
      · simp at h
    ·
      rename_i a b hu
      unfold litsB at h
      split at h
      · simp only [Option.some.injEq] at h; subst h
        refine ⟨trivial, fun K hK => open_ K _ hu ?_⟩
        unfold Op.equalIn
        simp only [bind]
        rw [Sem.bind_assoc']
        exact run_underlying hu (Run.pure hK)
      · simp only [Option.some.injEq] at h; subst h
        refine ⟨⟨hxo, hyo, hyo⟩, fun K hK => open_ K _ hu ?_⟩
        unfold Op.equalIn
        simp only [bind]
        rw [Sem.bind_assoc']
        refine run_underlying hu (Run.pure ?_)
        simp only [BE.den] at hK
        revert hK
        cases a.den ρ <;> cases b.den ρ <;> exact id
    ·
      rename_i a b hu
      simp only [Option.some.injEq] at h; subst h
      refine ⟨trivial, fun K hK => open_ K _ hu ?_⟩
      unfold Op.equalIn
      simp only [bind]
      rw [Sem.bind_assoc']
      exact run_underlying hu (Run.pure hK)
    · rename_i hu
      simp only [Option.some.injEq] at h; subst h
      refine ⟨trivial, fun K hK => open_ K _ hu ?_⟩
      unfold Op.equalIn
      simp only [bind]
      rw [Sem.bind_assoc']
      exact run_underlying hu (Run.pure hK)
    · rename_i hu
      simp only [Option.some.injEq] at h; subst h
      refine ⟨trivial, fun K hK => open_ K _ hu ?_⟩
      unfold Op.equalIn
      simp only [bind]
      rw [Sem.bind_assoc']
      exact run_underlying hu (Run.pure hK)
    · rename_i hu
      simp only [Option.some.injEq] at h; subst h
      refine ⟨trivial, fun K hK => open_ K _ hu ?_⟩
      unfold Op.equalIn
      simp only [bind]
      rw [Sem.bind_assoc']
      exact run_underlying hu (Run.pure hK)
    ·
      rename_i el b m c n hu
      split at h
      · rename_i sz hsz
        obtain ⟨i, hi, hsz⟩ := Option.map_eq_some_iff.1 hsz
        have enter : ∀ (K : Except Value Bool → Own → Prop), Run P S0 (sameAddr ⟨ρ.blk b, m, none⟩ ⟨ρ.blk c, n, none⟩) S K → Run P S0 (Op.equalIn (d' + 1) t (.pointer (some ⟨ρ.blk b, m, none⟩)) (.pointer (some ⟨ρ.blk c, n, none⟩))) S K := by
          intro K hr
          rw [← Sem.bind_pure' (Op.equalIn (d' + 1) t _ _)]
          unfold Op.equalIn
          simp only [bind]
          rw [Sem.bind_assoc']
          refine run_underlying hu ?_
          show Run P S0 (((Go.sizeOf el).bind _).bind Sem.pure) S K
          rw [Sem.bind_assoc']
          refine run_sizeOf hi ?_
          rw [if_pos (by omega), Sem.bind_pure']
          exact hr
        split at h
        · rename_i hbc
          have hbc := Nat.eq_of_beq_eq_true hbc
          subst hbc
          simp only [Option.some.injEq] at h; subst h
          refine ⟨trivial, fun K hK => enter K ?_⟩
          unfold sameAddr
          simp only [beq_self_eq_true, if_true]
          have e1 : ((⟨ρ.blk b, m, none⟩ : Addr) == ⟨ρ.blk b, n, none⟩) = Nat.beq m n := by
            rw [Bool.eq_iff_iff]
            simp [Nat.beq_eq]
          show Run P S0 (Sem.pure _) S K
          rw [e1]
          exact Run.pure hK
        · rename_i hbc
          split at h
          · rename_i hrow
            simp only [Bool.and_eq_true] at hrow
            simp only [Option.some.injEq] at h; subst h
            obtain ⟨o1, c1, e1, hl1, hf1, hz1⟩ := isRow_has hs hrow.1
            obtain ⟨o2, c2, e2, hl2, hf2, hz2⟩ := isRow_has hs hrow.2
            refine ⟨trivial, fun K hK => enter K (run_sameAddr hf1 hf2 hz1 hz2 ?_ hK)⟩
            intro e
            have := hs.inj _ _ _ _ hl1 hl2 e
            subst this
            simp at hbc
          · simp at h
      · simp at h
    all_goals try (
      rename_i hu
      simp only [Option.some.injEq] at h; subst h
      refine ⟨trivial, fun K hK => open_ K _ hu ?_⟩
      unfold Op.equalIn
      simp only [bind]
      rw [Sem.bind_assoc']
      exact run_underlying hu (Run.pure hK)
      done)
    ·
      rename_i tx vx ty vy hu
      obtain ⟨m, enter⟩ : ∃ m : String, ∀ (K : Except Value Bool → Own → Prop), Run P S0 ((if tx ≠ ty then pure false else (typeInfo tx).bind fun info => if (!info.comparable) = true then
            (do if (← program).holdsPacked (← program).depth tx then unsupported (.noEntry m)
                runtimePanic (.error ("comparing uncomparable type " ++ (← typeStr tx)))) else Op.equalIn d' tx (vx.den ρ) (vy.den ρ) : Sem Bool)) S K → Run P S0 (Op.equalIn (d' + 1) t (.iface tx (vx.den ρ)) (.iface ty (vy.den ρ))) S K := by
        apply Exists.intro
        intro K hr
        rw [← Sem.bind_pure' (Op.equalIn (d' + 1) t _ _)]
        unfold Op.equalIn
        simp only [bind]
        rw [Sem.bind_assoc']
        refine run_underlying hu ?_
        rw [Sem.bind_pure']
        exact hr
      split at h
      · rename_i hne
        simp only [Option.some.injEq] at h; subst h
        refine ⟨trivial, fun K hK => enter K ?_⟩
        rw [if_pos (fun e => by subst e; simp at hne)]
        exact Run.pure hK
      · rename_i heq
        have heq := Nat.eq_of_beq_eq_true heq
        subst heq
        split at h
        · rename_i i hi
          split at h
          · rename_i hc
            obtain ⟨h1, h2⟩ := ih d' tx vx vy r (by omega) h hxo hyo
            refine ⟨h1, fun K hK => enter K ?_⟩
            rw [if_neg (by simp)]
            refine run_typeInfo hi ?_
            rw [if_neg (by simp [hc])]
            exact h2 K hK
          · simp at h
        · simp at h
    ·
      rename_i fields xs ys hu
      split at h
      · simp at h
      · rename_i hst
        obtain ⟨h1, h2⟩ := run_fields (P := P) (S0 := S0) (S := S) (ρ := ρ) (eqM := Op.equalIn d') (oks_iff.1 hxo) (oks_iff.1 hyo) (fun t x y r hh hx hy => ih d' t x y r (by omega) hh hx hy) _ r h
        refine ⟨h1, fun K hK => open_ K _ hu ?_⟩
        unfold Op.equalIn
        simp only [bind]
        rw [Sem.bind_assoc']
        refine run_underlying hu ?_
        rw [Sem.bind_pure']
        show Run P S0 (Sem.bind program _) S K
        refine Run.bind (Run.program (Run.pure ?_))
        simp only [hst, Bool.false_eq_true, if_false, Array.forIn_toList.symm]
        refine Run.bind (h2 _ ?_)
        cases hb : r.den ρ with
        | true => simp only [loopRes, if_true]; rw [hb] at hK; exact Run.pure hK
        | false => simp only [loopRes, Bool.false_eq_true, if_false]; rw [hb] at hK; exact Run.pure hK
    ·
      rename_i len el xs ys hu
      split at h
      · rename_i n hn
        obtain ⟨i, hi, hn⟩ := Option.map_eq_some_iff.1 hn
        obtain ⟨h1, h2⟩ := run_elems (P := P) (S0 := S0) (S := S) (ρ := ρ) (eqM := Op.equalIn d') (oks_iff.1 hxo) (oks_iff.1 hyo) (fun t x y r hh hx hy => ih d' t x y r (by omega) hh hx hy) _ r h
        refine ⟨h1, fun K hK => open_ K _ hu ?_⟩
        unfold Op.equalIn
        simp only [bind]
        rw [Sem.bind_assoc']
        refine run_underlying hu ?_
        rw [Sem.bind_pure']
        show Run P S0 ((Go.sizeOf el).bind _) S K
        refine run_sizeOf hi ?_
        rw [hn]
        simp only [Std.Legacy.Range.forIn_eq_forIn_range', Std.Legacy.Range.size, Nat.sub_zero, Nat.add_sub_cancel, Nat.div_one, ← List.range_eq_range']
        refine Run.bind (h2 _ ?_)
        cases hb : r.den ρ with
        | true => simp only [loopRes, if_true]; rw [hb] at hK; exact Run.pure hK
        | false => simp only [loopRes, Bool.false_eq_true, if_false]; rw [hb] at hK; exact Run.pure hK
      · simp at h
end
open Go Mv
section
variable {P : Program} {ρ : Env} {hp : Hp} {F S0 S : Own} {ev : Operand → Option SC} {ev' : Operand → Value} {o : Oper} {e : Eff}
def isConstO : Operand → Bool
 | .const _ => true
 | _ => false
def guardEq (P : Program) (t : TypeId) (x y : Operand) (a b : SC) : Bool := match a, b with
 | .lit .nilIface, .lit .nilIface => isConstO x || isConstO y
 | .agg _, .agg _ => !P.eqGuardType P.depth t
 | .any _, _ | _, .any _ => false
 | .lit (.agg _), _ | _, .lit (.agg _) => false
 | _, _ => true
def guardFree (P : Program) (op : BinOp) (t : TypeId) (x y : Operand) (a b : SC) : Bool := match op with
 | .eql | .neq => guardEq P t x y a b
 | _ => true
theorem guardEq_run {op : BinOp} (hop : op = .eql ∨ op = .neq) {t : TypeId} {x y : Operand} {a b : SC} (h : guardEq P t x y a b = true) {α : Type} {f : Unit → Sem α} {K : Except Value α → Own → Prop} (hf : Run P S0 (f ()) S K) : Run P S0 ((eqGuard op t x y (a.den ρ) (b.den ρ)).bind f) S K := by
 unfold guardEq at h
 split at h
 ·have : eqGuard op t x y .nilIface .nilIface = (Sem.pure () : Sem Unit) := by
   unfold eqGuard
   rcases hop with rfl | rfl <;> cases x <;> cases y <;> first | rfl | (simp [isConstO] at h)
  simp only [SC.den]
  rw [this]; exact hf
 ·rename_i xs ys
  simp only [SC.den]
  unfold eqGuard
  rcases hop with rfl | rfl
  all_goals
   show Run P S0 ((Sem.bind program fun p => Sem.bind program fun q => _).bind f) S K
   rw [Sem.bind_assoc']
   refine Run.bind (Run.program (Run.pure ?_))
   show Run P S0 ((Sem.bind program fun q => _).bind f) S K
   rw [Sem.bind_assoc']
   refine Run.bind (Run.program (Run.pure ?_))
   simp only [h, if_true]
   exact hf
 ·cases h
 ·cases h
 ·cases h
 ·cases h
 ·have h1 : a = .lit .nilIface → b = .lit .nilIface → False := by assumption
  have h2 : ∀ l l', a = .agg l → b = .agg l' → False := by assumption
  have h3 : ∀ i, a = .any i → False := by assumption
  have h4 : ∀ i, b = .any i → False := by assumption
  have h5 : ∀ l, a = .lit (.agg l) → False := by assumption
  have h6 : ∀ l, b = .lit (.agg l) → False := by assumption
  have e1 : ¬ (a.den ρ = .nilIface ∧ b.den ρ = .nilIface) := by
   rintro ⟨ha, hb⟩
   cases a <;> simp only [SC.den, reduceCtorEq] at ha <;> try (split at ha <;> cases ha)
   ·exact h3 _ rfl
   ·cases b <;> simp only [SC.den, reduceCtorEq] at hb <;> try (split at hb <;> cases hb)
    ·exact h4 _ rfl
    ·subst ha; subst hb; exact h1 rfl rfl
  have e2 : ∀ c c', ¬ (a.den ρ = .agg c ∧ b.den ρ = .agg c') := by
   rintro c c' ⟨ha, hb⟩
   cases a <;> simp only [SC.den, reduceCtorEq] at ha <;> try (split at ha <;> cases ha)
   ·exact h3 _ rfl
   ·subst ha; exact h5 _ rfl
   ·cases b <;> simp only [SC.den, reduceCtorEq] at hb <;> try (split at hb <;> cases hb)
    ·exact h4 _ rfl
    ·subst hb; exact h6 _ rfl
    ·exact h2 _ _ rfl rfl
  have : eqGuard op t x y (a.den ρ) (b.den ρ) = (Sem.pure () : Sem Unit) := by
   unfold eqGuard
   generalize a.den ρ = va at e1 e2 ⊢
   generalize b.den ρ = vb at e1 e2 ⊢
   rcases hop with rfl | rfl
   all_goals
    cases va <;> cases vb <;> first | rfl | exact absurd ⟨rfl, rfl⟩ e1 | exact absurd ⟨rfl, rfl⟩ (e2 _ _)
  rw [this]; exact hf
theorem guard_run {op : BinOp} {t : TypeId} {x y : Operand} {a b : SC} (h : guardFree P op t x y a b = true) {α : Type} {f : Unit → Sem α} {K : Except Value α → Own → Prop} (hf : Run P S0 (f ()) S K) : Run P S0 ((eqGuard op t x y (a.den ρ) (b.den ρ)).bind f) S K := by
 cases op <;> first | exact guardEq_run (.inl rfl) h hf | exact guardEq_run (.inr rfl) h hf | exact hf
def sAdd (k : IntKind) (a b : IE) : Option Eff := some (.val [] (.int k (.wrp k (.plus a b))))
def subI (k : IntKind) (a b : IE) : IE := match a, b with
 | .lit m, .lit n => .lit (k.wrap (m - n))
 | a, b => .wrap k (.sub a b)
def mulI (k : IntKind) (a b : IE) : IE := match a, b with
 | .lit m, .lit n => .lit (k.wrap (m * n))
 | a, b => .wrap k (.mul a b)
def sSub (k : IntKind) (a b : IE) : Option Eff := some (.val [] (.int k (subI k a b)))
def sMul (k : IntKind) (a b : IE) : Option Eff := some (.val [] (.int k (mulI k a b)))
def sQuo (k : IntKind) (a b : IE) : Option Eff := match a, b with
 | .lit m, .lit n => match Int.same n 0 with
  | true => none
  | false => some (.val [] (.int k (.lit (k.wrap (m.tdiv n)))))
 | a, b => some (.val [.not (.eq b (.lit 0))] (.int k (.wrap k (.quo a b))))
def sRem (k : IntKind) (a b : IE) : Option Eff := match a, b with
 | .lit m, .lit n => match Int.same n 0 with
  | true => none
  | false => some (.val [] (.int k (.lit (m.tmod n))))
 | a, b => some (.val [.not (.eq b (.lit 0))] (.int k (.rem a b)))
def sBits (op : BinOp) (k : IntKind) (a b : IE) : Option Eff := match a, b with
 | .lit m, .lit n => some (.val [] (.int k (.lit (bitsOf op k m n))))
 | a, b => some (.val [] (.int k (.bits op k a b)))
def sShl (k : IntKind) (a b : IE) : Option Eff := match a, b with
 | .lit m, .lit (.ofNat n) => some (.val [] (.int k (.lit (k.wrap (m * 2 ^ (Nat.min n k.bits))))))
 | _, _ => some (.val (notNeg b) (.int k (.wrap k (.shl k a b))))
def sShr (k : IntKind) (a b : IE) : Option Eff := match a, b with
 | .lit m, .lit (.ofNat n) => some (.val [] (.int k (.lit (m.fdiv (2 ^ (Nat.min n k.bits))))))
 | _, _ => some (.val (notNeg b) (.int k (.shr k a b)))
def sBool (b : BE) : Option Eff := some (.val [] (.bool b))
def sInt (op : BinOp) (k : IntKind) (a b : IE) : Option Eff := match op with
 | .add => sAdd k a b
 | .sub => sSub k a b
 | .mul => sMul k a b
 | .quo => sQuo k a b
 | .rem => sRem k a b
 | .and => sBits .and k a b
 | .or => sBits .or k a b
 | .xor => sBits .xor k a b
 | .andNot => sBits .andNot k a b
 | .shl => sShl k a b
 | .shr => sShr k a b
 | .eql => sBool (IE.eqB a b)
 | .neq => sBool (BE.neg (IE.eqB a b))
 | .lss => sBool (IE.ltB a b)
 | .leq => sBool (IE.leB a b)
 | .gtr => sBool (IE.ltB b a)
 | .geq => sBool (IE.leB b a)
def isShift : BinOp → Bool
 | .shl | .shr => true
 | _ => false
def sBin (P : Program) (hp : Hp) (op : BinOp) (t : TypeId) (x y : Operand) (a b : Option SC) : Option Eff := match a, b with
 | some (.int k a), some (.int k' b) => match isShift op || decide (k = k') with
  | true => sInt op k a b
  | false => none
 | some (.lit (.string a)), some (.lit (.string b)) => match op with
  | .eql => some (.val [] (.bool (.lit (a.toList == b.toList))))
  | .neq => some (.val [] (.bool (.lit (!(a.toList == b.toList)))))
  | _ => none
 | some a, some b => match guardFree P op t x y a b with
  | true => match op with
   | .eql => match eqS P hp 40 t a b with
    | some r => some (.val [] (.bool r))
    | none => none
   | .neq => match eqS P hp 40 t a b with
    | some r => some (.val [] (.bool (BE.neg r)))
    | none => none
   | _ => none
  | false => none
 | _, _ => none
theorem sInt_ok {op : BinOp} {k : IntKind} {a b : IE} (ha : a.ok ρ.k.length) (hb : b.ok ρ.k.length) (h : sInt op k a b = some e) : e.ok ρ.k.length := by
  cases op <;> simp only [sInt, sAdd, sSub, sMul, subI, mulI, sQuo, sRem, sBits, sShl, sShr, sBool] at h
  case quo | rem | and | or | xor | andNot | shl | shr =>
    split at h
    · first
        | (split at h
           · simp at h
           · simp only [Option.some.injEq] at h; subst h; exact trivial)
        | (simp only [Option.some.injEq] at h; subst h; exact trivial)
    · simp only [Option.some.injEq] at h; subst h
      first | exact ⟨ha, hb⟩ | exact trivial
  all_goals simp only [Option.some.injEq] at h; subst h
  case add => exact IE.ok_wrp (IE.ok_plus ha hb)
  case sub => show IE.ok _ _; split <;> first | trivial | exact ⟨ha, hb⟩
  case mul => show IE.ok _ _; split <;> first | trivial | exact ⟨ha, hb⟩
  case eql => exact IE.ok_eqB ha hb
  case neq => exact BE.ok_neg (IE.ok_eqB ha hb)
  case lss => exact IE.ok_ltB ha hb
  case leq => exact IE.ok_leB ha hb
  case gtr => exact IE.ok_ltB hb ha
  case geq => exact IE.ok_leB hb ha
theorem sInt_run {op : BinOp} {k k' : IntKind} {a b : IE} {t : TypeId} (hk : isShift op = true ∨ k = k') (h : sInt op k a b = some e) : ∃ needs v, e = .val needs v ∧ (allTrue ρ needs → ∀ K : Except Value Value → Own → Prop, K (.ok (v.den ρ)) S → Run P S0 (binOp op t (.int k (a.den ρ)) (.int k' (b.den ρ))) S K) := by
 have fin : ∀ {needs : List BE} {v : SC}, e = .val needs v → (allTrue ρ needs → binOp op t (.int k (a.den ρ)) (.int k' (b.den ρ)) = Sem.pure (v.den ρ)) → ∃ needs v, e = .val needs v ∧ (allTrue ρ needs → ∀ K : Except Value Value → Own → Prop, K (.ok (v.den ρ)) S → Run P S0 (binOp op t (.int k (a.den ρ)) (.int k' (b.den ρ))) S K) :=
  fun he hb => ⟨_, _, he, fun hn K hK => Run.of_eq (hb hn) (Run.pure hK)⟩
 cases op <;> simp only [sInt, sAdd, sSub, sMul, subI, mulI, sQuo, sRem, sBits, sShl, sShr, sBool] at h
 case shl =>
  split at h
  ·simp only [Option.some.injEq] at h; subst h
   rename_i m n
   refine fin rfl fun _ => ?_
   simp only [binOp, Op.shift, IE.den]
   rfl
  ·simp only [Option.some.injEq] at h; subst h
   refine fin rfl fun hn => ?_
   have := notNeg_den hn
   simp only [binOp, Op.shift, SC.den, IE.den, if_neg (show ¬ (b.den ρ < 0) by omega)]
   rfl
 case shr =>
  split at h
  ·simp only [Option.some.injEq] at h; subst h
   rename_i m n
   refine fin rfl fun _ => ?_
   simp only [binOp, Op.shift, IE.den]
   rfl
  ·simp only [Option.some.injEq] at h; subst h
   refine fin rfl fun hn => ?_
   have := notNeg_den hn
   simp only [binOp, Op.shift, SC.den, IE.den, if_neg (show ¬ (b.den ρ < 0) by omega)]
   rfl
 all_goals
  have hk : k = k' := by rcases hk with h | h <;> first | exact h | (simp [isShift] at h)
  subst hk
 case quo =>
  split at h
  ·rename_i m n
   split at h
   ·simp at h
   ·rename_i hne
    simp only [Option.some.injEq] at h; subst h
    have : ¬ n = 0 := fun e => by subst e; simp [Int.same_eq] at hne
    refine fin rfl fun _ => ?_
    simp [binOp, Op.intDiv, SC.den, IE.den, pure, this]
  ·simp only [Option.some.injEq] at h; subst h
   refine fin rfl fun hn => ?_
   have : ¬ b.den ρ = 0 := by
    have := hn _ List.mem_cons_self
    simpa [BE.den, IE.den] using this
   simp [binOp, Op.intDiv, SC.den, IE.den, pure, this]
 case rem =>
  split at h
  ·rename_i m n
   split at h
   ·simp at h
   ·rename_i hne
    simp only [Option.some.injEq] at h; subst h
    have : ¬ n = 0 := fun e => by subst e; simp [Int.same_eq] at hne
    refine fin rfl fun _ => ?_
    simp [binOp, Op.intDiv, SC.den, IE.den, pure, this]
  ·simp only [Option.some.injEq] at h; subst h
   refine fin rfl fun hn => ?_
   have : ¬ b.den ρ = 0 := by
    have := hn _ List.mem_cons_self
    simpa [BE.den, IE.den] using this
   simp [binOp, Op.intDiv, SC.den, IE.den, pure, this]
 case and | or | xor | andNot =>
  split at h <;> simp only [Option.some.injEq] at h <;> subst h <;> (refine fin rfl fun _ => ?_) <;> (simp only [binOp, ne_eq, not_true_eq_false, if_false, Op.intBits]; rfl)
 all_goals simp only [Option.some.injEq] at h; subst h
 case add =>
  refine fin rfl fun _ => ?_
  simp [binOp, Op.intArith, SC.den, IE.den_wrp, IE.den_plus, pure]
 case sub =>
  refine fin rfl fun _ => ?_
  simp only [SC.den]
  split <;> (simp only [binOp, ne_eq, not_true_eq_false, if_false, Op.intArith]; rfl)
 case mul =>
  refine fin rfl fun _ => ?_
  simp only [SC.den]
  split <;> (simp only [binOp, ne_eq, not_true_eq_false, if_false, Op.intArith]; rfl)
 case eql =>
  refine fin rfl fun _ => ?_
  simp only [SC.den, IE.den_eqB, binOp, ne_eq, not_true_eq_false, if_false, Op.intCmp]; rfl
 case neq =>
  refine fin rfl fun _ => ?_
  simp only [SC.den, BE.den_neg, IE.den_eqB, binOp, ne_eq, not_true_eq_false, if_false, Op.intCmp]; rfl
 case lss =>
  refine fin rfl fun _ => ?_
  simp only [SC.den, IE.den_ltB, binOp, ne_eq, not_true_eq_false, if_false, Op.intCmp]; rfl
 case leq =>
  refine fin rfl fun _ => ?_
  simp only [SC.den, IE.den_leB, binOp, ne_eq, not_true_eq_false, if_false, Op.intCmp]; rfl
 case gtr =>
  refine fin rfl fun _ => ?_
  simp only [SC.den, IE.den_ltB, binOp, ne_eq, not_true_eq_false, if_false, Op.intCmp]; rfl
 case geq =>
  refine fin rfl fun _ => ?_
  simp only [SC.den, IE.den_leB, binOp, ne_eq, not_true_eq_false, if_false, Op.intCmp]; rfl
theorem sBin_good {op : BinOp} {t yt : TypeId} {x y : Operand} (hop : o.op = .binOp op t x y yt) (hs : Sat ρ hp F S) (hev : EvOk ρ ev ev') (h : sBin P hp op t x y (ev x) (ev y) = some e) : EffGood P ρ hp S0 S (execOp ev' o) e := by
 have hred : execOp ev' o = (do pure (.value (← (do eqGuard op t x y (ev' x) (ev' y); binOp op t (ev' x) (ev' y)))) : Sem Next) := by simp only [execOp, hop]
 unfold sBin at h
 split at h
 ·rename_i k a k' b hx hy
  obtain ⟨hxo, hx'⟩ := hev x _ hx
  obtain ⟨hyo, hy'⟩ := hev y _ hy
  split at h
  ·rename_i hk
   have hk : isShift op = true ∨ k = k' := by simpa using hk
   have hok := sInt_ok (ρ := ρ) hxo hyo h
   obtain ⟨needs, v, rfl, hrun⟩ := sInt_run (P := P) (ρ := ρ) (S0 := S0) (S := S) (t := t) hk h
   refine good_val hred hok fun hn K hK => ?_
   rw [hx', hy']
   have hg : guardFree P op t x y (.int k a) (.int k' b) = true := by cases op <;> rfl
   exact guard_run hg (hrun hn K hK)
  ·simp at h
 ·rename_i a b hx hy
  obtain ⟨hxo, hx'⟩ := hev x _ hx
  obtain ⟨hyo, hy'⟩ := hev y _ hy
  split at h <;> (try (simp at h; done))
  ·simp only [Option.some.injEq] at h; subst h
   refine good_val hred trivial fun _ K hK => ?_
   rw [hx', hy']
   exact guard_run (P := P) (op := .eql) (x := x) (y := y) (a := .lit (.string a)) (b := .lit (.string b)) rfl (Run.pure hK)
  ·simp only [Option.some.injEq] at h; subst h
   refine good_val hred trivial fun _ K hK => ?_
   rw [hx', hy']
   exact guard_run (P := P) (op := .neq) (x := x) (y := y) (a := .lit (.string a)) (b := .lit (.string b)) rfl (Run.pure hK)
 ·rename_i a b _ _ hx hy
  obtain ⟨hxo, hx'⟩ := hev x _ hx
  obtain ⟨hyo, hy'⟩ := hev y _ hy
  split at h
  ·rename_i hg
   have hbin : ∀ r, eqS P hp 40 t a b = some r → ∀ K : Except Value Value → Own → Prop, (K (.ok (.bool (r.den ρ))) S → Run P S0 (binOp .eql t (a.den ρ) (b.den ρ)) S K) ∧ (K (.ok (.bool (!r.den ρ))) S → Run P S0 (binOp .neq t (a.den ρ) (b.den ρ)) S K) := by
    intro r hr K
    have hok := (eqS_ok (P := P) (S0 := S0) hs 40 Op.maxDepth t a b r (by decide) hr hxo hyo).2
    have fin : (binOp .eql t (a.den ρ) (b.den ρ) = (Op.equal t (a.den ρ) (b.den ρ)).bind fun r => Sem.pure (.bool r)) → (binOp .neq t (a.den ρ) (b.den ρ) = (Op.equal t (a.den ρ) (b.den ρ)).bind fun r => Sem.pure (.bool !r)) →
      (K (.ok (.bool (r.den ρ))) S → Run P S0 (binOp .eql t (a.den ρ) (b.den ρ)) S K) ∧ (K (.ok (.bool (!r.den ρ))) S → Run P S0 (binOp .neq t (a.den ρ) (b.den ρ)) S K) := fun h1 h2 =>
     ⟨fun hK => by rw [h1]; exact Run.bind (hok _ (Run.pure hK)), fun hK => by rw [h2]; exact Run.bind (hok _ (Run.pure hK))⟩
    have hnint : ∀ k a' k' b', a = .int k a' → b = .int k' b' → False := by assumption
    have hnstr : ∀ a' b', a = .lit (.string a') → b = .lit (.string b') → False := by assumption
    unfold eqS at hr
    split at hr <;> (try (simp at hr; done)) <;> first
     | exact fin rfl rfl
     | (exfalso; exact hnint _ _ _ _ rfl rfl)
     | (exfalso; exact hnstr _ _ rfl rfl)
   split at h
   ·split at h
    ·rename_i r hr
     simp only [Option.some.injEq] at h; subst h
     refine good_val hred (eqS_ok (P := P) (S0 := S0) hs 40 Op.maxDepth t a b r (by decide) hr hxo hyo).1 fun _ K hK => ?_
     rw [hx', hy']
     refine guard_run hg ?_
     exact (hbin r hr K).1 hK
    ·simp at h
   ·split at h
    ·rename_i r hr
     simp only [Option.some.injEq] at h; subst h
     refine good_val hred (BE.ok_neg (eqS_ok (P := P) (S0 := S0) hs 40 Op.maxDepth t a b r (by decide) hr hxo hyo).1) fun _ K hK => ?_
     rw [hx', hy']
     refine guard_run hg ?_
     simp only [SC.den, BE.den_neg] at hK
     exact (hbin r hr K).2 hK
    ·simp at h
   ·simp at h
  ·simp at h
 ·simp at h
end
open Go Mv
def symFill (place : Nat → Option (Nat × Nat)) (cells : List SC) : List (Nat × SC) → Option (List SC)
 | [] => some cells
 | (i, v) :: rest => match place i, cellsOf v with
  | some (off, size), some new => match Nat.beq new.length size && Nat.ble (off + size) cells.length && new.all SC.single with
   | true => symFill place (splice cells off new) rest
   | false => none
  | _, _ => none
def evParts (ev : Operand → Option SC) : List (Nat × Operand) → Option (List (Nat × SC))
 | [] => some []
 | (i, x) :: l => match ev x, evParts ev l with
  | some v, some r => some ((i, v) :: r)
  | _, _ => none
def evs (ev : Operand → Option SC) : List Operand → Option (List SC)
 | [] => some []
 | x :: l => match ev x, evs ev l with
  | some v, some r => some (v :: r)
  | _, _ => none
def placesOf (P : Program) : List Field → Option (List (Nat × Nat))
 | [] => some []
 | f :: fs => match sizeT P f.type, placesOf P fs with
  | some n, some l => some ((f.offset, n) :: l)
  | _, _ => none
section
variable {P : Program} {ρ : Env} {hp : Hp} {F S0 S : Own} {ev : Operand → Option SC} {ev' : Operand → Value} {o : Oper} {e : Eff}
theorem run_places : ∀ (fs : List Field) (l : List (Nat × Nat)) {α : Type} {g : List (Nat × Nat) → Sem α} {K : Except Value α → Own → Prop} {S : Own}, placesOf P fs = some l → Run P S0 (g l) S K →
  Run P S0 ((fs.mapM (m := Sem) fun (f : Field) => do pure (f.offset, ← Go.sizeOf f.type)).bind g) S K := by
 intro fs
 induction fs with
 | nil => intro l α g K S h hg; simp only [placesOf, Option.some.injEq] at h; subst h; exact hg
 | cons f fs ih =>
  intro l α g K S h hg
  simp only [placesOf] at h
  split at h
  ·rename_i n l' hn hl
   simp only [Option.some.injEq] at h; subst h
   obtain ⟨i, hi, rfl⟩ := Option.map_eq_some_iff.1 hn
   rw [List.mapM_cons]
   simp only [bind]
   rw [Sem.bind_assoc', Sem.bind_assoc']
   refine run_sizeOf hi ?_
   show Run P S0 (((fs.mapM (m := Sem) fun (f : Field) => do pure (f.offset, ← Go.sizeOf f.type)).bind fun y => pure ((f.offset, i.size) :: y)).bind g) S K
   rw [Sem.bind_assoc']
   exact ih l' hl hg
  ·simp at h
theorem foldl_set (off : Nat) : ∀ (new : List Value) (k : Nat) (arr : Array Value), off + k + new.length ≤ arr.size → ∀ j,
  ((new.zipIdx k).foldl (fun (cs : Array Value) (x : Value × Nat) => cs.setIfInBounds (off + x.2) x.1) arr)[j]? = if off + k ≤ j ∧ j < off + k + new.length then new[j - (off + k)]? else arr[j]? := by
 intro new
 induction new with
 | nil => intro k arr _ j; rw [if_neg (by simp only [List.length_nil]; omega)]; rfl
 | cons v new ih =>
  intro k arr h j
  simp only [List.length_cons] at h
  rw [List.zipIdx_cons, List.foldl_cons, ih (k + 1) _ (by simp; omega)]
  simp only [List.length_cons]
  by_cases hj : j = off + k
  ·subst hj
   rw [if_neg (by omega), if_pos (by omega)]
   simp only [Nat.sub_self, List.getElem?_cons_zero]
   rw [Array.getElem?_setIfInBounds_self_of_lt (by omega)]
  ·by_cases hin : off + (k + 1) ≤ j ∧ j < off + (k + 1) + new.length
   ·rw [if_pos hin, if_pos (by omega), show j - (off + k) = (j - (off + (k + 1))) + 1 by omega, List.getElem?_cons_succ]
   ·rw [if_neg hin, if_neg (by omega), Array.getElem?_setIfInBounds_ne (by omega)]
theorem foldl_splice (new : List SC) (cs : List SC) (off : Nat) (h : off + new.length ≤ cs.length) :
  ((new.map (SC.den ρ)).toArray.zipIdx.foldl (fun (cs : Array Value) (x : Value × Nat) => cs.setIfInBounds (off + x.2) x.1) (cs.map (SC.den ρ)).toArray) = ((splice cs off new).map (SC.den ρ)).toArray := by
 apply Array.ext_getElem?
 intro j
 rw [← Array.foldl_toList, Array.toList_zipIdx]
 rw [foldl_set off _ 0 _ (by simpa using h)]
 simp only [splice, List.map_append, List.map_take, List.map_drop, List.getElem?_toArray, List.length_map, Nat.add_zero]
 have hlen : (List.take off (List.map (SC.den ρ) cs)).length = off := by simp; omega
 by_cases hj : j < off
 ·rw [if_neg (by omega), List.append_assoc, List.getElem?_append_left (by rw [hlen]; exact hj), List.getElem?_take_of_lt hj]
 ·by_cases hj2 : j < off + new.length
  ·rw [if_pos ⟨by omega, hj2⟩, List.append_assoc, List.getElem?_append_right (by rw [hlen]; omega), hlen, List.getElem?_append_left (by simp; omega)]
  ·rw [if_neg (by omega), List.append_assoc, List.getElem?_append_right (by rw [hlen]; omega), hlen, List.getElem?_append_right (by simp; omega), List.getElem?_drop]
   congr 1
   simp; omega
theorem fill_den (hv : vals ρ) (place : Nat → Option (Nat × Nat)) : ∀ (l : List (Nat × SC)) (cells c : List SC), symFill place cells l = some c →
  Instr.fill place (cells.map (SC.den ρ)).toArray (l.map fun x => (x.1, x.2.den ρ)) = some (c.map (SC.den ρ)).toArray := by
 intro l
 induction l with
 | nil => intro cells c h; simp only [symFill, Option.some.injEq] at h; subst h; rfl
 | cons x l ih =>
  intro cells c h
  obtain ⟨i, v⟩ := x
  simp only [symFill] at h
  split at h
  ·rename_i off size new hp hc
   split at h
   ·rename_i hcond
    simp only [Bool.and_eq_true] at hcond
    have h0 := Nat.eq_of_beq_eq_true hcond.1.1
    have h1 := Nat.le_of_ble_eq_true hcond.1.2
    have hcl := cellsOf_den hc hcond.2 hv
    simp only [List.map_cons, Instr.fill, hp, hcl]
    have e1 : (decide ((new.map (SC.den ρ)).toArray.size ≠ size) || decide (off + (new.map (SC.den ρ)).toArray.size > (cells.map (SC.den ρ)).toArray.size)) = false := by
     simp only [List.size_toArray, List.length_map, Bool.or_eq_false_iff, decide_eq_false_iff_not, ne_eq]
     exact ⟨fun h => h h0, by omega⟩
    rw [if_neg (by rw [e1]; simp)]
    rw [foldl_splice new cells off (by rw [h0]; exact h1)]
    exact ih _ _ h
   ·simp at h
  ·simp at h
theorem fill_ok {n : Nat} (place : Nat → Option (Nat × Nat)) : ∀ (l : List (Nat × SC)) (cells c : List SC), symFill place cells l = some c → (∀ x ∈ l, x.2.ok n) → (∀ x ∈ cells, x.ok n) → ∀ x ∈ c, x.ok n := by
 intro l
 induction l with
 | nil => intro cells c h _ hc; simp only [symFill, Option.some.injEq] at h; subst h; exact hc
 | cons x l ih =>
  intro cells c h hl hc
  obtain ⟨i, v⟩ := x
  simp only [symFill] at h
  split at h
  ·rename_i off size new hp hcv
   split at h
   ·exact ih _ _ h (fun y hy => hl y (List.mem_cons_of_mem _ hy)) (splice_ok hc (cellsOf_ok hcv (hl _ List.mem_cons_self)))
   ·simp at h
  ·simp at h
theorem evParts_den (hev : EvOk ρ ev ev') : ∀ (ps : List (Nat × Operand)) (l : List (Nat × SC)), evParts ev ps = some l → (ps.map (fun x => (x.1, ev' x.2)) = l.map fun x => (x.1, x.2.den ρ)) ∧ ∀ x ∈ l, x.2.ok ρ.k.length := by
 intro ps
 induction ps with
 | nil => intro l h; simp only [evParts, Option.some.injEq] at h; subst h; exact ⟨rfl, by simp⟩
 | cons p ps ih =>
  intro l h
  obtain ⟨i, x⟩ := p
  simp only [evParts] at h
  split at h
  ·rename_i v r hx hr
   simp only [Option.some.injEq] at h; subst h
   obtain ⟨h1, h2⟩ := ih r hr
   refine ⟨by rw [List.map_cons, List.map_cons, h1, (hev x v hx).2], fun y hy => ?_⟩
   rcases List.mem_cons.1 hy with rfl | hy
   ·exact (hev x v hx).1
   ·exact h2 y hy
  ·simp at h
theorem evs_den (hev : EvOk ρ ev ev') : ∀ (ps : List Operand) (l : List SC), evs ev ps = some l → ps.map ev' = l.map (SC.den ρ) ∧ ∀ x ∈ l, x.ok ρ.k.length := by
 intro ps
 induction ps with
 | nil => intro l h; simp only [evs, Option.some.injEq] at h; subst h; exact ⟨rfl, by simp⟩
 | cons x ps ih =>
  intro l h
  simp only [evs] at h
  split at h
  ·rename_i v r hx hr
   simp only [Option.some.injEq] at h; subst h
   obtain ⟨h1, h2⟩ := ih r hr
   refine ⟨by rw [List.map_cons, List.map_cons, h1, (hev x v hx).2], fun y hy => ?_⟩
   rcases List.mem_cons.1 hy with rfl | hy
   ·exact (hev _ _ hx).1
   ·exact h2 y hy
  ·simp at h
def zeroCells (P : Program) (t : TypeId) : Option (List SC) := match P.info? t with
 | some i => match i.zero with
  | some z => match cellsOf (ofVal z) with
   | some zs => match zs.all SC.single with
    | true => some zs
    | false => none
   | none => none
  | none => none
 | none => none
theorem zeroCells_run (hv : vals ρ) {t : TypeId} {zs : List SC} (h : zeroCells P t = some zs) : (∀ n, ∀ x ∈ zs, x.ok n) ∧ ∃ z, z.cells = (zs.map (SC.den ρ)).toArray ∧ ∀ {α : Type} {g : Value → Sem α} {K : Except Value α → Own → Prop} {S : Own}, Run P S0 (g z) S K → Run P S0 ((zeroValue t).bind g) S K := by
 unfold zeroCells at h
 split at h
 ·rename_i i hi
  split at h
  ·rename_i z hz
   split at h
   ·rename_i zs' hzs
    split at h
    ·rename_i h1
     simp only [Option.some.injEq] at h; subst h
     exact ⟨fun n => cellsOf_ok hzs (ok_ofVal n z), z, by rw [← den_ofVal ρ z]; exact cellsOf_den hzs h1 hv, fun hr => run_zeroValue hi hz hr⟩
    ·simp at h
   ·simp at h
  ·simp at h
 ·simp at h
def sBuild (P : Program) (t : TypeId) (parts : Option (List (Nat × SC))) : Option Eff := match P.underlying t, parts, zeroCells P t with
 | some (.struct fields), some l, some zs => match placesOf P fields.toList with
  | some places => match symFill (places[·]?) zs l with
   | some c => some (.val [] (.agg c))
   | none => none
  | none => none
 | some (.array _ e), some l, some zs => match sizeT P e with
  | some n => match symFill (fun i => some (i * n, n)) zs l with
   | some c => some (.val [] (.agg c))
   | none => none
  | none => none
 | _, _, _ => none
theorem sBuild_good {t : TypeId} {parts : Array (Nat × Operand)} (hop : o.op = .build t parts) (hv : vals ρ) (hev : EvOk ρ ev ev') (h : sBuild P t (evParts ev parts.toList) = some e) : EffGood P ρ hp S0 S (execOp ev' o) e := by
 have hparts : ∀ l, evParts ev parts.toList = some l → (parts.map fun x => (x.1, ev' x.2)).toList = l.map fun x => (x.1, x.2.den ρ) := fun l hl => by
  rw [Array.toList_map]; exact (evParts_den hev _ _ hl).1
 unfold sBuild at h
 split at h
 ·rename_i fields l zs hu hl hz
  obtain ⟨hzo, z, hzc, hzr⟩ := zeroCells_run (S0 := S0) hv hz
  split at h
  ·rename_i places hpl
   split at h
   ·rename_i c hc
    simp only [Option.some.injEq] at h; subst h
    refine good_val (s := Instr.build t (parts.map fun x => (x.1, ev' x.2))) (by simp only [execOp, hop]) (oks_iff.2 (fill_ok _ _ _ _ hc (evParts_den hev _ _ hl).2 (hzo _))) fun _ K hK => ?_
    unfold Instr.build
    simp only [bind]
    refine hzr (run_underlying hu ?_)
    show Run P S0 ((fields.mapM (m := Sem) fun (f : Field) => do pure (f.offset, ← Go.sizeOf f.type)).bind _) _ K
    rw [Array.mapM_eq_mapM_toList]
    show Run P S0 (((fields.toList.mapM (m := Sem) fun (f : Field) => do pure (f.offset, ← Go.sizeOf f.type)).bind fun x => pure x.toArray).bind _) _ K
    rw [Sem.bind_assoc']
    refine run_places _ places hpl ?_
    have hf := fill_den hv (places[·]?) l zs c hc
    rw [hparts l hl, hzc]
    refine Run.bind (Run.pure ?_)
    have : (fun (x : Nat) => places.toArray[x]?) = fun (x : Nat) => places[x]? := by funext x; simp
    simp only [this, hf]
    simp only [SC.den, dens_eq] at hK
    exact Run.pure hK
   ·simp at h
  ·simp at h
 ·rename_i n e' l zs hu hl hz
  obtain ⟨hzo, z, hzc, hzr⟩ := zeroCells_run (S0 := S0) hv hz
  split at h
  ·rename_i sz hsz
   split at h
   ·rename_i c hc
    simp only [Option.some.injEq] at h; subst h
    obtain ⟨ti, hti, rfl⟩ := Option.map_eq_some_iff.1 hsz
    refine good_val (s := Instr.build t (parts.map fun x => (x.1, ev' x.2))) (by simp only [execOp, hop]) (oks_iff.2 (fill_ok _ _ _ _ hc (evParts_den hev _ _ hl).2 (hzo _))) fun _ K hK => ?_
    unfold Instr.build
    simp only [bind]
    refine hzr (run_underlying hu ?_)
    refine run_sizeOf hti ?_
    have hf := fill_den hv (fun i => some (i * ti.size, ti.size)) l zs c hc
    rw [hparts l hl, hzc]
    rw [hf]
    simp only [SC.den, dens_eq] at hK
    exact Run.pure hK
   ·simp at h
  ·simp at h
 ·simp at h
def zeroRow (zs : List SC) (n : Nat) : List SC := (List.range n).map fun i => zs.getD (i % zs.length) (.lit .nilFunc)
theorem zeroRow_den {zs : List SC} {z : Value} (hzc : z.cells = (zs.map (SC.den ρ)).toArray) (h0 : 0 < zs.length) (n : Nat) : ((Array.range n).map fun x => z.cells[x % z.cells.size]!) = ((zeroRow zs n).map (SC.den ρ)).toArray := by
 apply Array.ext_getElem?
 intro j
 rw [hzc]
 simp only [zeroRow, List.map_map, Array.getElem?_map, List.getElem?_toArray, List.getElem?_map]
 rcases Nat.lt_or_ge j n with hj | hj
 ·have hlt : j % zs.length < zs.length := Nat.mod_lt _ h0
  simp [hj, hlt]
 ·rw [Array.getElem?_eq_none (by simpa using hj), List.getElem?_eq_none (by simpa using hj)]; rfl
theorem zeroRow_ok {zs : List SC} {n m : Nat} (h : ∀ x ∈ zs, x.ok m) : ∀ x ∈ zeroRow zs n, x.ok m := by
 intro x hx
 obtain ⟨i, _, rfl⟩ := List.mem_map.1 hx
 rw [List.getD_eq_getElem?_getD]
 cases hz : zs[i % zs.length]? with
 | none => exact trivial
 | some y => exact h y (List.mem_of_getElem? hz)
def sBuildNone (P : Program) (e : TypeId) : Option Eff := match sizeT P e with
 | some _ => some (.fresh [] (.cells [] e) (.slice 0 0))
 | none => none
def sBuildSome (P : Program) (t : TypeId) (len : Nat) (parts : Option (List (Nat × SC))) : Option Eff := match P.underlying t, parts with
 | some (.slice e), some l => match sizeT P e, zeroCells P e with
  | some n, some zs => match Nat.ble 1 zs.length && Nat.ble (len * n) (2 ^ 24) && Nat.ble 1 (len * n) with
   | true => match symFill (fun i => some (i * n, n)) (zeroRow zs (len * n)) l with
    | some c => some (.fresh [] (.cells c e) (.slice len len))
    | none => none
   | false => none
  | _, _ => none
 | _, _ => none
theorem sBuildSome_good [Loud S0] {t : TypeId} {len : Nat} {parts : Array (Nat × Operand)} (hop : o.op = .buildSlice t len parts) (hv : vals ρ) (hev : EvOk ρ ev ev') (h : sBuildSome P t len (evParts ev parts.toList) = some e) : EffGood P ρ hp S0 S (execOp ev' o) e := by
 have hparts : ∀ l, evParts ev parts.toList = some l → (parts.map fun x => (x.1, ev' x.2)).toList = l.map fun x => (x.1, x.2.den ρ) := fun l hl => by
  rw [Array.toList_map]; exact (evParts_den hev _ _ hl).1
 unfold sBuildSome at h
 split at h
 ·rename_i e' l hu hl
  split at h
  ·rename_i n zs hn hz
   obtain ⟨hzo, z, hzc, hzr⟩ := zeroCells_run (S0 := S0) hv hz
   obtain ⟨ti, hti, rfl⟩ := Option.map_eq_some_iff.1 hn
   split at h
   ·rename_i hc
    simp only [Bool.and_eq_true] at hc
    have h1 := Nat.le_of_ble_eq_true hc.1.1
    have h2 := Nat.le_of_ble_eq_true hc.1.2
    have h3 := Nat.le_of_ble_eq_true hc.2
    split at h
    ·rename_i c hcc
     simp only [Option.some.injEq] at h; subst h
     refine ⟨fun _ K hK => ?_, fill_ok _ _ _ _ hcc (evParts_den hev _ _ hl).2 (zeroRow_ok (hzo _))⟩
     simp only [execOp, hop]
     refine run_value ?_
     unfold Instr.buildSlice
     simp only [bind]
     refine run_underlying hu (run_sizeOf hti ?_)
     have e1 : ¬ (len * ti.size > 2 ^ 24) := by omega
     rw [if_neg e1]
     have e2 : ¬ (len * ti.size = 0) := by omega
     rw [if_neg e2]
     refine hzr (Run.bind (Run.pure ?_))
     have hcells := zeroRow_den (ρ := ρ) hzc (by omega) (len * ti.size)
     have hf := fill_den hv (fun i => some (i * ti.size, ti.size)) l _ c hcc
     simp only [hparts l hl, hcells, hf]
     show Run P S0 ((newRow e' (c.map (SC.den ρ)).toArray).bind fun x => pure (Value.slice (some x) len len)) _ _
     exact Run.new fun r h2 h3 => Run.pure (hK r h2 h3)
    ·simp at h
   ·simp at h
  ·simp at h
 ·simp at h
def sBuildSlice (P : Program) (t : TypeId) (len : Nat) (parts : Option (List (Nat × SC))) : Option Eff := match len, parts with
 | 0, some [] => match P.underlying t with
  | some (.slice e) => sBuildNone P e
  | _ => none
 | _, _ => sBuildSome P t len parts
theorem sBuildSlice_good [Loud S0] {t : TypeId} {len : Nat} {parts : Array (Nat × Operand)} (hop : o.op = .buildSlice t len parts) (hv : vals ρ) (hev : EvOk ρ ev ev') (h : sBuildSlice P t len (evParts ev parts.toList) = some e) : EffGood P ρ hp S0 S (execOp ev' o) e := by
 unfold sBuildSlice at h
 split at h
 ·rename_i hl
  split at h
  ·rename_i e' hu
   unfold sBuildNone at h
   split at h
   ·rename_i n hn
    obtain ⟨ti, hti, rfl⟩ := Option.map_eq_some_iff.1 hn
    simp only [Option.some.injEq] at h; subst h
    have hparts : (parts.map fun x => (x.1, ev' x.2)).toList = [] := by
     have := (evParts_den hev _ _ hl).1
     rw [Array.toList_map]; simpa using this
    refine ⟨fun _ K hK => ?_, by intro x hx; cases hx⟩
    simp only [execOp, hop]
    refine run_value ?_
    unfold Instr.buildSlice
    simp only [bind]
    refine run_underlying hu (run_sizeOf hti ?_)
    rw [if_neg (by omega), if_pos (by omega)]
    refine Run.bind (Run.pure ?_)
    have e0 : ∀ f : Nat → Value, Instr.fill (fun i => some (i * ti.size, ti.size)) (Array.map f (Array.range 0)) [] = some #[] := fun f => by simp [Instr.fill]
    simp only [hparts, Nat.zero_mul, e0]
    show Run P S0 ((newRow e' #[]).bind fun x => pure (Value.slice (some x) 0 0)) _ _
    exact Run.new fun r h2 h3 => Run.pure (hK r h2 h3)
   ·simp at h
  ·simp at h
 ·exact sBuildSome_good hop hv hev h
def sMakeChan (P : Program) (t : TypeId) (n : Option SC) : Option Eff := match P.underlying t, n with
 | some (.chan _ elem), some (.int _ (.lit (.ofNat n))) => match P.info? elem with
  | some i => match Nat.ble n 1000000 && Nat.ble (i.bytes * n) 1000000000 with
   | true => some (.fresh [] (.chan n [] false (.lit 0) (.lit 0) false) .chan)
   | false => none
  | none => none
 | _, _ => none
theorem sMakeChan_good [Loud S0] {t : TypeId} {x : Operand} (hop : o.op = .makeChan t x) (hev : EvOk ρ ev ev') (h : sMakeChan P t (ev x) = some e) : EffGood P ρ hp S0 S (execOp ev' o) e := by
 unfold sMakeChan at h
 split at h
 ·rename_i dir elem kd n hu hx
  obtain ⟨_, hx'⟩ := hev x _ hx
  split at h
  ·rename_i i hi
   split at h
   ·rename_i hc
    simp only [Bool.and_eq_true] at hc
    have h1 := Nat.le_of_ble_eq_true hc.1
    have h2 := Nat.le_of_ble_eq_true hc.2
    simp only [Option.some.injEq] at h; subst h
    refine ⟨fun _ K hK => ?_, ⟨fun x hx => (by cases hx), trivial, trivial⟩⟩
    simp only [execOp, hop]
    refine run_value ?_
    unfold Instr.makeChan
    rw [hx']
    simp only [bind, SC.den, IE.den, asInt, asIntOf, pure, Sem.bind]
    refine run_underlying hu ?_
    refine run_typeInfo hi ?_
    have e1 : ¬ ((Int.ofNat n) < 0 ∨ (Int.ofNat n) > IntKind.i64.max ∨ (i.bytes : Int) * (Int.ofNat n) > 2 ^ 48 - 112) := by
     have : IntKind.i64.max = 9223372036854775807 := by decide
     have h3 : ((i.bytes * n : Nat) : Int) ≤ 1000000000 := Int.ofNat_le.2 h2
     have h4 : (i.bytes : Int) * (Int.ofNat n) = ((i.bytes * n : Nat) : Int) := (Int.natCast_mul i.bytes n).symm
     rw [this, h4]
     simp only [Int.ofNat_eq_natCast]
     omega
    rw [if_neg e1]
    exact Run.new fun r h3 h4 => Run.pure (hK r h3 h4)
   ·simp at h
  ·simp at h
 ·simp at h
def isIface (P : Program) (t : TypeId) : Option Bool := match P.underlying t with
 | some (.interface _) => some true
 | some _ => some false
 | none => none
def sMakeInterface (P : Program) (t : TypeId) (x : Option SC) : Option Eff := match isIface P t, x with
 | some false, some v => some (.val [] (.iface t v))
 | _, _ => none
theorem isIface_false {t : TypeId} (h : isIface P t = some false) : ∃ d, P.underlying t = some d ∧ ∀ ms, d ≠ .interface ms := by
 unfold isIface at h
 split at h
 ·simp at h
 ·rename_i d hne hd
  exact ⟨d, hd, fun ms e => by subst e; exact hne ms rfl⟩
 ·simp at h
theorem sMakeInterface_good {t : TypeId} {x : Operand} (hop : o.op = .makeInterface t x) (hev : EvOk ρ ev ev') (h : sMakeInterface P t (ev x) = some e) : EffGood P ρ hp S0 S (execOp ev' o) e := by
 unfold sMakeInterface at h
 split at h
 ·rename_i v hi hx
  obtain ⟨hok, hx'⟩ := hev x _ hx
  obtain ⟨d, hu, hni⟩ := isIface_false hi
  simp only [Option.some.injEq] at h; subst h
  refine good_val (s := Instr.makeInterface t (ev' x)) (by simp only [execOp, hop]) hok fun _ K hK => ?_
  rw [hx']
  unfold Instr.makeInterface
  simp only [bind]
  refine run_underlying hu ?_
  split
  ·exact absurd rfl (hni _)
  ·exact Run.pure hK
 ·simp at h
def sMakeFunc (fn : Fn) (first caps : Option (List SC)) : Option Eff := match first, caps with
 | some a, some b => some (.val [] (.fn fn a b))
 | _, _ => none
theorem sMakeFunc_good {fn : Fn} {first caps : Array Operand} (hop : o.op = .makeFunc fn first caps) (hev : EvOk ρ ev ev') (h : sMakeFunc fn (evs ev first.toList) (evs ev caps.toList) = some e) : EffGood P ρ hp S0 S (execOp ev' o) e := by
 unfold sMakeFunc at h
 split at h
 ·rename_i a b ha hb
  simp only [Option.some.injEq] at h; subst h
  obtain ⟨h1, h2⟩ := evs_den hev _ _ ha
  obtain ⟨h3, h4⟩ := evs_den hev _ _ hb
  refine good_val (s := Instr.makeFunc fn (first.map ev') (caps.map ev')) (by simp only [execOp, hop]) ⟨oks_iff.2 h2, oks_iff.2 h4⟩ fun _ K hK => ?_
  have e1 : first.map ev' = (dens ρ a).toArray := by apply Array.ext'; rw [Array.toList_map, h1, dens_eq]
  have e2 : caps.map ev' = (dens ρ b).toArray := by apply Array.ext'; rw [Array.toList_map, h3, dens_eq]
  rw [e1, e2]
  exact Run.pure hK
 ·simp at h
def sTypeAssert (P : Program) (x : Option SC) (asserted : TypeId) (commaOk : Bool) : Option Eff := match isIface P asserted, x with
 | some false, some (.iface t v) => match Nat.beq t asserted with
  | true => match commaOk with
   | true => some (.val [] (.tup [v, .bool (.lit true)]))
   | false => some (.val [] v)
  | false => match commaOk, P.info? asserted with
   | true, some i => match i.zero with
    | some z => some (.val [] (.tup [ofVal z, .bool (.lit false)]))
    | none => none
   | _, _ => none
 | some false, some (.lit .nilIface) => match commaOk, P.info? asserted with
   | true, some i => match i.zero with
    | some z => some (.val [] (.tup [ofVal z, .bool (.lit false)]))
    | none => none
   | _, _ => none
 | _, _ => none
theorem sTypeAssert_good {x : Operand} {xt asserted : TypeId} {ok : Bool} (hop : o.op = .typeAssert x xt asserted ok) (hev : EvOk ρ ev ev') (h : sTypeAssert P (ev x) asserted ok = some e) : EffGood P ρ hp S0 S (execOp ev' o) e := by
 have fails : ∀ {i : TypeInfo} {z : Value} {s : Sem Value} (K : Except Value Value → Own → Prop), P.info? asserted = some i → i.zero = some z → K (.ok ((SC.tup [ofVal z, .bool (.lit false)]).den ρ)) S → Run P S0 ((zeroValue asserted).bind fun y => Sem.pure (Value.tuple #[y, .bool false])) S K := by
  intro i z s K hi hz hK
  refine run_zeroValue hi hz ?_
  simp only [SC.den, dens, den_ofVal] at hK
  exact Run.pure hK
 unfold sTypeAssert at h
 split at h
 ·rename_i t v hi hx
  obtain ⟨hok, hx'⟩ := hev x _ hx
  obtain ⟨d, hu, hni⟩ := isIface_false hi
  split at h
  ·rename_i ht
   have ht := Nat.eq_of_beq_eq_true ht
   split at h
   ·simp only [Option.some.injEq] at h; subst h
    refine good_val (s := Instr.typeAssert (ev' x) xt asserted true) (by simp only [execOp, hop]) ⟨hok, trivial, trivial⟩ fun _ K hK => ?_
    rw [hx']
    unfold Instr.typeAssert
    simp only [bind]
    refine run_underlying hu ?_
    cases d <;> first | exact absurd rfl (hni _) | (simp only [SC.den, if_pos ht]; exact Run.pure hK)
   ·simp only [Option.some.injEq] at h; subst h
    refine good_val (s := Instr.typeAssert (ev' x) xt asserted false) (by simp only [execOp, hop]) hok fun _ K hK => ?_
    rw [hx']
    unfold Instr.typeAssert
    simp only [bind]
    refine run_underlying hu ?_
    cases d <;> first | exact absurd rfl (hni _) | (simp only [SC.den, if_pos ht]; exact Run.pure hK)
  ·rename_i ht
   split at h
   ·rename_i i hti
    split at h
    ·rename_i z hz
     simp only [Option.some.injEq] at h; subst h
     refine good_val (s := Instr.typeAssert (ev' x) xt asserted true) (by simp only [execOp, hop]) ⟨ok_ofVal _ _, trivial, trivial⟩ fun _ K hK => ?_
     rw [hx']
     unfold Instr.typeAssert
     simp only [bind]
     refine run_underlying hu ?_
     have hne : ¬ t = asserted := fun e => by subst e; simp at ht
     cases d <;> first | exact absurd rfl (hni _) | (simp only [SC.den, if_neg hne]; exact fails (s := Sem.pure (.bool true)) K hti hz hK)
    ·simp at h
   ·simp at h
 ·rename_i hi hx
  obtain ⟨hok, hx'⟩ := hev x _ hx
  obtain ⟨d, hu, hni⟩ := isIface_false hi
  split at h
  ·rename_i i hti
   split at h
   ·rename_i z hz
    simp only [Option.some.injEq] at h; subst h
    refine good_val (s := Instr.typeAssert (ev' x) xt asserted true) (by simp only [execOp, hop]) ⟨ok_ofVal _ _, trivial, trivial⟩ fun _ K hK => ?_
    rw [hx']
    unfold Instr.typeAssert
    simp only [bind]
    refine run_underlying hu ?_
    cases d <;> first | exact absurd rfl (hni _) | exact fails (s := Sem.pure (.bool true)) K hti hz hK
   ·simp at h
  ·simp at h
 ·simp at h
end
open Go Mv
section
variable {P : Program} {ρ : Env} {hp : Hp} {F S0 S : Own} {ev : Operand → Option SC} {ev' : Operand → Value} {o : Oper} {e : Eff}
def need (l : List BE) : List BE := l.filter fun c => match c with
 | .lit true => false
 | _ => true
theorem need_all {l : List BE} (h : allTrue ρ (need l)) : allTrue ρ l := by
 intro c hc
 by_cases hl : c = .lit true
 ·subst hl; rfl
 ·refine h c (List.mem_filter.2 ⟨hc, ?_⟩)
  cases c <;> first | rfl | skip
  rename_i b
  cases b
  ·rfl
  ·exact absurd rfl hl
def IE.under : IE → IE → BE
 | .lit m, .add (.lit n) (.room b s) => match Int.less n m with
  | false => .lit true
  | true => .le (.lit m) (.add (.lit n) (.room b s))
 | a, b => IE.leB a b
theorem IE.den_under (a b : IE) : (IE.under a b).den ρ = decide (a.den ρ ≤ b.den ρ) := by
 unfold IE.under
 split
 ·rename_i m n b s
  split
  ·rename_i h
   rw [Int.less_eq] at h
   have h' : ¬ n < m := of_decide_eq_false h
   have h2 := Int.natCast_nonneg ((ρ.rest b).length / s)
   show true = decide (m ≤ n + (((ρ.rest b).length / s : Nat) : Int))
   symm
   exact decide_eq_true (by omega)
  ·rfl
 ·exact IE.den_leB a b
def IE.minus (a b : IE) : IE := match a, b with
 | .lit m, .lit n => .lit (m - n)
 | a, .lit 0 => a
 | .add (.lit m) r, .lit n => .add (.lit (m - n)) r
 | a, b => .sub a b
theorem IE.den_minus (a b : IE) : (IE.minus a b).den ρ = a.den ρ - b.den ρ := by
 unfold IE.minus
 split
 ·rfl
 ·simp [IE.den]
 ·simp only [IE.den]; omega
 ·rfl
theorem IE.ok_minus {n : Nat} {a b : IE} (ha : a.ok n) (hb : b.ok n) : (IE.minus a b).ok n := by
 unfold IE.minus
 split <;> first | trivial | exact ha | exact ⟨trivial, ha.2⟩ | exact ⟨ha, hb⟩
def sLen (P : Program) (hp : Hp) (t : Option TypeId) (x : Option SC) : Option Eff := match t with
 | some t => match P.underlying t, x with
  | some (.slice _), some (.slice _ _ len _) => some (.val (need [IE.leB (.lit 0) len]) (.int .i64 len))
  | some (.slice _), some (.lit (.slice none n _)) => some (.val [] (.int .i64 (.lit n)))
  | some (.string), some (.lit (.string s)) => some (.val [] (.int .i64 (.lit s.size)))
  | some (.array n _), some _ => some (.val [] (.int .i64 (.lit n)))
  | some (.map ..), some (.lit (.map none)) => some (.val [] (.int .i64 (.lit 0)))
  | some (.map ..), some (.ref b) => match hp.get b with
   | some (.map es) => some (.val [] (.int .i64 (.lit es.length)))
   | _ => none
  | _, _ => none
 | none => none
theorem sLen_good {args : Array Operand} {ats : Array TypeId} {x : Operand} (hop : o.op = .call { callee := .builtin .len, args, argTypes := ats }) (hx0 : args[0]? = some x) (hs : Sat ρ hp F S) (hev : EvOk ρ ev ev') (h : sLen P hp ats[0]? (ev x) = some e) : EffGood P ρ hp S0 S (execOp ev' o) e := by
 have hargs : (args.map ev')[0]? = some (ev' x) := by simp [hx0]
 have hred : execOp ev' o = (do pure (.value (← Builtin.len_ ats o.type (args.map ev'))) : Sem Next) := by
  simp only [execOp, hop, resolve, invoke, builtin]
  rfl
 unfold sLen at h
 split at h
 ·rename_i t ht
  split at h <;> (try (simp at h; done))
  ·rename_i el b off len cap hu hx
   obtain ⟨hok, hx'⟩ := hev x _ hx
   simp only [Option.some.injEq] at h; subst h
   refine good_val (s := Builtin.len_ ats o.type (args.map ev')) hred hok.2.2.1 fun hn K hK => ?_
   unfold Builtin.len_
   simp only [ht, hargs, bind]
   refine run_underlying hu ?_
   rw [hx']
   have h0 : 0 ≤ len.den ρ := by
    have := need_all hn _ List.mem_cons_self
    rw [IE.den_leB] at this
    exact of_decide_eq_true this
   refine Run.of_eq ?_ (Run.pure hK)
   simp only [SC.den, goInt]
   rw [Int.toNat_of_nonneg h0]
   rfl
  ·rename_i el n c hu hx
   obtain ⟨hok, hx'⟩ := hev x _ hx
   simp only [Option.some.injEq] at h; subst h
   refine good_val (s := Builtin.len_ ats o.type (args.map ev')) hred trivial fun hn K hK => ?_
   unfold Builtin.len_
   simp only [ht, hargs, bind]
   refine run_underlying hu ?_
   rw [hx']
   exact Run.pure hK
  ·rename_i s hu hx
   obtain ⟨hok, hx'⟩ := hev x _ hx
   simp only [Option.some.injEq] at h; subst h
   refine good_val (s := Builtin.len_ ats o.type (args.map ev')) hred trivial fun hn K hK => ?_
   unfold Builtin.len_
   simp only [ht, hargs, bind]
   refine run_underlying hu ?_
   rw [hx']
   exact Run.pure hK
  ·rename_i n el v hu hx
   simp only [Option.some.injEq] at h; subst h
   refine good_val (s := Builtin.len_ ats o.type (args.map ev')) hred trivial fun hn K hK => ?_
   unfold Builtin.len_
   simp only [ht, hargs, bind]
   refine run_underlying hu ?_
   refine Run.of_eq ?_ (Run.pure hK)
   cases ev' x <;> rfl
  ·rename_i a b hu hx
   obtain ⟨hok, hx'⟩ := hev x _ hx
   simp only [Option.some.injEq] at h; subst h
   refine good_val (s := Builtin.len_ ats o.type (args.map ev')) hred trivial fun hn K hK => ?_
   unfold Builtin.len_
   simp only [ht, hargs, bind]
   refine run_underlying hu ?_
   rw [hx']
   exact Run.pure hK
  ·rename_i a b' b hu hx
   obtain ⟨hok, hx'⟩ := hev x _ hx
   split at h
   ·rename_i es hg
    obtain ⟨_, _, hget⟩ := hs.get hg
    simp only [Option.some.injEq] at h; subst h
    refine good_val (s := Builtin.len_ ats o.type (args.map ev')) hred trivial fun hn K hK => ?_
    unfold Builtin.len_
    simp only [ht, hargs, bind]
    refine run_underlying hu ?_
    rw [hx']
    refine Run.getMap hget fun es' c hp _ => ?_
    have e1 : es'.size = es.length := by
     have := hp.length_eq
     simpa [absE] using this
    refine Run.of_eq (s' := Sem.pure (goInt ((es'.size : Nat) : Int))) rfl ?_
    rw [e1]
    exact Run.pure hK
   ·simp at h
 ·simp at h
def sCap (P : Program) (t : Option TypeId) (x : Option SC) : Option Eff := match t with
 | some t => match P.underlying t, x with
  | some (.slice _), some (.slice _ _ _ cap) => some (.val (need [IE.under (.lit 0) cap]) (.int .i64 cap))
  | some (.slice _), some (.lit (.slice none _ n)) => some (.val [] (.int .i64 (.lit n)))
  | _, _ => none
 | none => none
theorem sCap_good {args : Array Operand} {ats : Array TypeId} {x : Operand} (hop : o.op = .call { callee := .builtin .cap, args, argTypes := ats }) (hx0 : args[0]? = some x) (hev : EvOk ρ ev ev') (h : sCap P ats[0]? (ev x) = some e) : EffGood P ρ hp S0 S (execOp ev' o) e := by
 have hargs : (args.map ev')[0]? = some (ev' x) := by simp [hx0]
 have hred : execOp ev' o = (do pure (.value (← Builtin.cap_ ats o.type (args.map ev'))) : Sem Next) := by
  simp only [execOp, hop, resolve, invoke, builtin]
  rfl
 unfold sCap at h
 split at h
 ·rename_i t ht
  split at h <;> (try (simp at h; done))
  ·rename_i el b off len cap hu hx
   obtain ⟨hok, hx'⟩ := hev x _ hx
   simp only [Option.some.injEq] at h; subst h
   refine good_val (s := Builtin.cap_ ats o.type (args.map ev')) hred hok.2.2.2 fun hn K hK => ?_
   unfold Builtin.cap_
   simp only [ht, hargs, bind]
   refine run_underlying hu ?_
   rw [hx']
   have h0 : 0 ≤ cap.den ρ := by
    have := need_all hn _ List.mem_cons_self
    rw [IE.den_under] at this
    exact of_decide_eq_true this
   refine Run.of_eq ?_ (Run.pure hK)
   simp only [SC.den, goInt]
   rw [Int.toNat_of_nonneg h0]
   rfl
  ·rename_i el n c hu hx
   obtain ⟨hok, hx'⟩ := hev x _ hx
   simp only [Option.some.injEq] at h; subst h
   refine good_val (s := Builtin.cap_ ats o.type (args.map ev')) hred trivial fun hn K hK => ?_
   unfold Builtin.cap_
   simp only [ht, hargs, bind]
   refine run_underlying hu ?_
   rw [hx']
   exact Run.pure hK
 ·simp at h
def IE.minS (a b : IE) : IE := match a, b with
 | .lit m, .lit n => .lit (match Int.less n m with | true => n | false => m)
 | a, b => .min a b
def IE.maxS (a b : IE) : IE := match a, b with
 | .lit m, .lit n => .lit (match Int.less m n with | true => n | false => m)
 | a, b => .max a b
theorem IE.den_minS (a b : IE) : (IE.minS a b).den ρ = (IE.min a b).den ρ := by
 unfold IE.minS
 split
 ·rename_i m n
  show (match Int.less n m with | true => n | false => m) = if n < m then n else m
  rw [Int.less_eq]
  by_cases h : n < m
  ·simp [h]
  ·simp [h]
 ·rfl
theorem IE.den_maxS (a b : IE) : (IE.maxS a b).den ρ = (IE.max a b).den ρ := by
 unfold IE.maxS
 split
 ·rename_i m n
  show (match Int.less m n with | true => n | false => m) = if n > m then n else m
  rw [Int.less_eq]
  by_cases h : m < n
  ·simp [h]
  ·simp [h]
 ·rfl
theorem IE.ok_minS {n : Nat} {a b : IE} (ha : a.ok n) (hb : b.ok n) : (IE.minS a b).ok n := by
 unfold IE.minS; split <;> first | trivial | exact ⟨ha, hb⟩
theorem IE.ok_maxS {n : Nat} {a b : IE} (ha : a.ok n) (hb : b.ok n) : (IE.maxS a b).ok n := by
 unfold IE.maxS; split <;> first | trivial | exact ⟨ha, hb⟩
def symFold (op : IE → IE → IE) (ev : Operand → Option SC) (a : IE) : List Operand → Option IE
 | [] => some a
 | x :: rest => match ev x with
  | some (.int _ b) => symFold op ev (op a b) rest
  | _ => none
def sFold (op : IE → IE → IE) (ev : Operand → Option SC) (args : List Operand) : Option Eff := match args with
 | x :: rest => match ev x with
  | some (.int k a) => match symFold op ev a rest with
   | some e => some (.val [] (.int k e))
   | none => none
  | _ => none
 | [] => none
theorem fold_min (hev : EvOk ρ ev ev') (k : IntKind) : ∀ (l : List Operand) (a e : IE), a.ok ρ.k.length → symFold IE.minS ev a l = some e → e.ok ρ.k.length ∧ (l.map ev').foldlM Builtin.min2 (.int k (a.den ρ)) = (Sem.pure (.int k (e.den ρ)) : Sem Value)
 | [], a, e, ha, h => by simp only [symFold, Option.some.injEq] at h; subst h; exact ⟨ha, rfl⟩
 | x :: l, a, e, ha, h => by
  simp only [symFold] at h
  split at h
  ·rename_i k' b hx
   obtain ⟨hok, hx'⟩ := hev _ _ hx
   obtain ⟨h1, h2⟩ := fold_min hev k l _ _ (IE.ok_minS ha hok) h
   refine ⟨h1, ?_⟩
   rw [List.map_cons, List.foldlM_cons, hx']
   rw [IE.den_minS] at h2
   exact h2
  ·simp at h
theorem fold_max (hev : EvOk ρ ev ev') (k : IntKind) : ∀ (l : List Operand) (a e : IE), a.ok ρ.k.length → symFold IE.maxS ev a l = some e → e.ok ρ.k.length ∧ (l.map ev').foldlM Builtin.max2 (.int k (a.den ρ)) = (Sem.pure (.int k (e.den ρ)) : Sem Value)
 | [], a, e, ha, h => by simp only [symFold, Option.some.injEq] at h; subst h; exact ⟨ha, rfl⟩
 | x :: l, a, e, ha, h => by
  simp only [symFold] at h
  split at h
  ·rename_i k' b hx
   obtain ⟨hok, hx'⟩ := hev _ _ hx
   obtain ⟨h1, h2⟩ := fold_max hev k l _ _ (IE.ok_maxS ha hok) h
   refine ⟨h1, ?_⟩
   rw [List.map_cons, List.foldlM_cons, hx']
   rw [IE.den_maxS] at h2
   exact h2
  ·simp at h
theorem sMin_good {args : Array Operand} {ats : Array TypeId} (hop : o.op = .call { callee := .builtin .min, args, argTypes := ats }) (hev : EvOk ρ ev ev') (h : sFold IE.minS ev args.toList = some e) : EffGood P ρ hp S0 S (execOp ev' o) e := by
 unfold sFold at h
 split at h
 ·rename_i x rest hargs
  split at h
  ·rename_i k a hx
   obtain ⟨hok, hx'⟩ := hev _ _ hx
   split at h
   ·rename_i e' he
    simp only [Option.some.injEq] at h; subst h
    obtain ⟨h1, h2⟩ := fold_min hev k rest a e' hok he
    refine good_val (s := Builtin.min_ ats o.type (args.map ev')) (by simp only [execOp, hop, resolve, invoke, builtin]; rfl) h1 fun hn K hK => ?_
    unfold Builtin.min_
    rw [Array.toList_map, hargs, List.map_cons]
    show Run P S0 ((rest.map ev').foldlM Builtin.min2 (ev' x)) _ K
    rw [hx']
    exact Run.of_eq h2 (Run.pure hK)
   ·simp at h
  ·simp at h
 ·simp at h
theorem sMax_good {args : Array Operand} {ats : Array TypeId} (hop : o.op = .call { callee := .builtin .max, args, argTypes := ats }) (hev : EvOk ρ ev ev') (h : sFold IE.maxS ev args.toList = some e) : EffGood P ρ hp S0 S (execOp ev' o) e := by
 unfold sFold at h
 split at h
 ·rename_i x rest hargs
  split at h
  ·rename_i k a hx
   obtain ⟨hok, hx'⟩ := hev _ _ hx
   split at h
   ·rename_i e' he
    simp only [Option.some.injEq] at h; subst h
    obtain ⟨h1, h2⟩ := fold_max hev k rest a e' hok he
    refine good_val (s := Builtin.max_ ats o.type (args.map ev')) (by simp only [execOp, hop, resolve, invoke, builtin]; rfl) h1 fun hn K hK => ?_
    unfold Builtin.max_
    rw [Array.toList_map, hargs, List.map_cons]
    show Run P S0 ((rest.map ev').foldlM Builtin.max2 (ev' x)) _ K
    rw [hx']
    exact Run.of_eq h2 (Run.pure hK)
   ·simp at h
  ·simp at h
 ·simp at h
def sIndexAddr (P : Program) (t : TypeId) (x i : Option SC) : Option Eff := match P.underlying t, x, i with
 | some (.slice e), some (.slice b off len _), some (.int _ j) => match sizeT P e with
  | some n => some (.val (need [IE.leB (.lit 0) off, IE.leB (.lit 0) j, IE.ltB j len]) (.ptr b (.plus off (.times j n))))
  | none => none
 | some (.array len e), some (.ptr b off), some (.int _ j) => match sizeT P e with
  | some n => some (.val (need [IE.leB (.lit 0) off, IE.leB (.lit 0) j, IE.ltB j (.lit len)]) (.ptr b (.plus off (.times j n))))
  | none => none
 | _, _, _ => none
theorem index_off {off j : IE} {n : Nat} (h1 : 0 ≤ j.den ρ) (h3 : 0 ≤ off.den ρ) : (off.den ρ).toNat + (j.den ρ).toNat * n = ((IE.plus off (.times j n)).den ρ).toNat := by
 rw [IE.den_plus, IE.den_times]
 obtain ⟨m, hm⟩ := Int.eq_ofNat_of_zero_le h1
 rw [hm]
 have : ((m : Int) * (n : Int)) = ((m * n : Nat) : Int) := by simp
 rw [this]
 simp only [Int.toNat_natCast]
 omega
theorem sIndexAddr_good {t : TypeId} {x i : Operand} (hop : o.op = .indexAddr t x i) (hev : EvOk ρ ev ev') (h : sIndexAddr P t (ev x) (ev i) = some e) : EffGood P ρ hp S0 S (execOp ev' o) e := by
 unfold sIndexAddr at h
 split at h
 ·rename_i e' b off len cap k j hu hx hi
  obtain ⟨hxo, hx'⟩ := hev x _ hx
  obtain ⟨hio, hi'⟩ := hev i _ hi
  split at h
  ·rename_i n hn
   simp only [Option.some.injEq] at h; subst h
   refine good_val (s := Instr.indexAt t (ev' x) (ev' i)) (by simp only [execOp, hop]) ⟨hxo.1, IE.ok_plus hxo.2.1 (IE.ok_times hio)⟩ fun hneeds K hK => ?_
   unfold sizeT at hn
   obtain ⟨ti, hti, hn⟩ := Option.map_eq_some_iff.1 hn
   rw [hx', hi']
   unfold Instr.indexAt
   simp only [bind, SC.den]
   show Run P S0 ((underlying t).bind _) _ K
   refine run_underlying hu ?_
   show Run P S0 ((underlying t).bind _) _ K
   refine run_underlying hu ?_
   have hall := need_all hneeds
   have h3 : 0 ≤ off.den ρ := of_decide_eq_true (by have := hall (IE.leB (.lit 0) off) (by simp); rwa [IE.den_leB] at this)
   have h1 : 0 ≤ j.den ρ := of_decide_eq_true (by have := hall (IE.leB (.lit 0) j) (by simp); rwa [IE.den_leB] at this)
   have h2 : j.den ρ < len.den ρ := of_decide_eq_true (by have := hall (IE.ltB j len) (by simp); rwa [IE.den_ltB] at this)
   have hc : 0 ≤ j.den ρ ∧ j.den ρ < ((len.den ρ).toNat : Int) := by omega
   simp only [if_pos hc]
   refine run_sizeOf hti ?_
   rw [add_off, hn, index_off h1 h3]
   exact Run.pure hK
  ·simp at h
 ·rename_i len e' b off k j hu hx hi
  obtain ⟨hxo, hx'⟩ := hev x _ hx
  obtain ⟨hio, hi'⟩ := hev i _ hi
  split at h
  ·rename_i n hn
   simp only [Option.some.injEq] at h; subst h
   refine good_val (s := Instr.indexAt t (ev' x) (ev' i)) (by simp only [execOp, hop]) ⟨hxo.1, IE.ok_plus hxo.2 (IE.ok_times hio)⟩ fun hneeds K hK => ?_
   unfold sizeT at hn
   obtain ⟨ti, hti, hn⟩ := Option.map_eq_some_iff.1 hn
   rw [hx', hi']
   unfold Instr.indexAt
   simp only [bind, SC.den]
   show Run P S0 ((underlying t).bind _) _ K
   refine run_underlying hu ?_
   show Run P S0 ((underlying t).bind _) _ K
   refine run_underlying hu ?_
   have hall := need_all hneeds
   have h3 : 0 ≤ off.den ρ := of_decide_eq_true (by have := hall (IE.leB (.lit 0) off) (by simp); rwa [IE.den_leB] at this)
   have h1 : 0 ≤ j.den ρ := of_decide_eq_true (by have := hall (IE.leB (.lit 0) j) (by simp); rwa [IE.den_leB] at this)
   have h2 : j.den ρ < (len : Int) := of_decide_eq_true (by have := hall (IE.ltB j (.lit len)) (by simp); rwa [IE.den_ltB] at this)
   simp only [if_pos (And.intro h1 h2)]
   refine run_sizeOf hti ?_
   rw [add_off, hn, index_off h1 h3]
   exact Run.pure hK
  ·simp at h
 ·simp at h
def sIndex (P : Program) (t : TypeId) (x i : Option SC) : Option Eff := match P.underlying t, x, i with
 | some (.array len e), some (.agg l), some (.int _ (.lit (.ofNat j))) => match Nat.ble (j + 1) len, sizeT P e with
  | true, some n => match symPart P e l (j * n) with
   | some v => some (.val [] v)
   | none => none
  | _, _ => none
 | some .string, some (.lit (.string s)), some (.int _ (.lit (.ofNat j))) => match s[j]? with
  | some b => some (.val [] (.int .u8 (.lit (.ofNat b.toNat))))
  | none => none
 | _, _, _ => none
theorem sIndex_good {t : TypeId} {x i : Operand} (hop : o.op = .index t x i) (hev : EvOk ρ ev ev') (h : sIndex P t (ev x) (ev i) = some e) : EffGood P ρ hp S0 S (execOp ev' o) e := by
 unfold sIndex at h
 split at h
 ·rename_i len e' l k j hu hx hi
  obtain ⟨hxo, hx'⟩ := hev x _ hx
  obtain ⟨hio, hi'⟩ := hev i _ hi
  split at h
  ·rename_i n hlt hn
   have hlt := Nat.le_of_ble_eq_true hlt
   split at h
   ·rename_i v hv
    simp only [Option.some.injEq] at h; subst h
    refine good_val (s := Instr.index t (ev' x) (ev' i)) (by simp only [execOp, hop]) (symPart_ok hv (oks_iff.1 hxo)) fun hneeds K hK => ?_
    obtain ⟨ti, hti, hn⟩ := Option.map_eq_some_iff.1 hn
    rw [hx', hi']
    unfold Instr.index
    simp only [bind, SC.den, IE.den]
    show Run P S0 ((underlying t).bind _) _ K
    refine run_underlying hu ?_
    have hc : (0 : Int) ≤ Int.ofNat j ∧ Int.ofNat j < (len : Int) := ⟨Int.natCast_nonneg j, by simp only [Int.ofNat_eq_natCast]; omega⟩
    simp only [if_pos hc]
    refine run_sizeOf hti ?_
    rw [hn]
    exact run_part hv hK
   ·simp at h
  ·simp at h
 ·rename_i s k j hu hx hi
  obtain ⟨hxo, hx'⟩ := hev x _ hx
  obtain ⟨hio, hi'⟩ := hev i _ hi
  split at h
  ·rename_i b hb
   simp only [Option.some.injEq] at h; subst h
   refine good_val (s := Instr.index t (ev' x) (ev' i)) (by simp only [execOp, hop]) trivial fun hneeds K hK => ?_
   rw [hx', hi']
   unfold Instr.index
   simp only [bind, SC.den, IE.den]
   show Run P S0 ((underlying t).bind _) _ K
   refine run_underlying hu ?_
   have hb' : (if (0 : Int) ≤ Int.ofNat j then s[(Int.ofNat j).toNat]? else none) = some b := (if_pos (Int.natCast_nonneg j)).trans hb
   simp only [hb']
   exact Run.pure hK
  ·simp at h
 ·simp at h
end
open Go Mv
section
variable {P : Program} {ρ : Env} {hp : Hp} {F S0 S : Own} {ev : Operand → Option SC} {ev' : Operand → Value} {o : Oper} {e : Eff}
def optInt (ev : Operand → Option SC) : Option Operand → Option (Option IE)
 | none => some none
 | some x => match ev x with
  | some (.int _ e) => some (some e)
  | _ => none
def OptIs (ρ : Env) (b : Option IE) (v : Option Value) : Prop := match b, v with
 | none, none => True
 | some e, some v => e.ok ρ.k.length ∧ ∃ k, v = .int k (e.den ρ)
 | _, _ => False
theorem optInt_is (hev : EvOk ρ ev ev') {x : Option Operand} {b : Option IE} (h : optInt ev x = some b) : OptIs ρ b (x.map ev') := by
 cases x with
 | none => simp only [optInt, Option.some.injEq] at h; subst h; trivial
 | some x =>
  simp only [optInt] at h
  split at h
  ·rename_i k e hx
   simp only [Option.some.injEq] at h; subst h
   obtain ⟨h1, h2⟩ := hev _ _ hx
   exact ⟨h1, k, h2⟩
  ·simp at h
theorem run_sliceBound {α : Type} {k : IntKind} {i : Int} {y : Nat} {code : BoundsCode} {g : Nat → Sem α} {K : Except Value α → Own → Prop} (h0 : 0 ≤ i) (h1 : i ≤ y) (h : Run P S0 (g i.toNat) S K) : Run P S0 ((Instr.sliceBound (.int k i) y code).bind g) S K := by
 unfold Instr.sliceBound
 show Run P S0 ((if 0 ≤ i ∧ i ≤ y then pure i.toNat else boundsPanic k i y code : Sem Nat).bind g) S K
 rw [if_pos ⟨h0, h1⟩]
 exact h
def cutAt (len cap : IE) (lo hi mx : Option IE) : Option (List BE × IE × IE × IE) :=
 match hi, mx with
 | none, some _ => none
 | _, _ =>
  let m := mx.getD cap
  let h := hi.getD len
  let l := lo.getD (.lit 0)
  some ((match mx with | some m => [IE.leB (.lit 0) m, IE.under m cap] | none => []) ++ (match hi with | some h => [IE.leB (.lit 0) h, IE.under h m] | none => []) ++ (match lo with | some l => [IE.leB (.lit 0) l, IE.leB l h] | none => []), l, h, m)
theorem cutAt_run {isSlice : Bool} {len cap : IE} {lo hi mx : Option IE} {lo' hi' mx' : Option Value} {ns : List BE} {l h m : IE} (hc : cutAt len cap lo hi mx = some (ns, l, h, m)) (h1 : OptIs ρ lo lo') (h2 : OptIs ρ hi hi') (h3 : OptIs ρ mx mx')
  (hlen : len.ok ρ.k.length) (hcap : cap.ok ρ.k.length) (hn : allTrue ρ ns) (h0 : 0 ≤ len.den ρ) (h0' : len.den ρ ≤ cap.den ρ) {α : Type} {g : Nat × Nat × Nat → Sem α} {K : Except Value α → Own → Prop}
  (hg : 0 ≤ l.den ρ → l.den ρ ≤ h.den ρ → h.den ρ ≤ m.den ρ → m.den ρ ≤ cap.den ρ → Run P S0 (g ((l.den ρ).toNat, (h.den ρ).toNat, (m.den ρ).toNat)) S K) : Run P S0 ((Instr.sliceBounds isSlice (len.den ρ).toNat (cap.den ρ).toNat lo' hi' mx').bind g) S K ∧ True := by
 refine ⟨?_, trivial⟩
 unfold cutAt at hc
 have hle : ∀ {a b : IE}, (IE.leB a b).den ρ = true → a.den ρ ≤ b.den ρ := fun h => by rw [IE.den_leB] at h; exact of_decide_eq_true h
 have hun : ∀ {a b : IE}, (IE.under a b).den ρ = true → a.den ρ ≤ b.den ρ := fun h => by rw [IE.den_under] at h; exact of_decide_eq_true h
 unfold Instr.sliceBounds
 cases mx with
 | none =>
  cases mx' with
  | some v => exact h3.elim
  | none =>
   have hm : m = cap := by cases hi <;> simp at hc <;> exact hc.2.2.2.symm
   subst hm
   cases hi with
   | none =>
    cases hi' with
    | some v => exact h2.elim
    | none =>
     simp at hc
     obtain ⟨rfl, rfl, rfl⟩ := hc
     cases lo with
     | none =>
      cases lo' with
      | some v => exact h1.elim
      | none => exact hg (by simp [IE.den]) (by simpa [IE.den] using h0) h0' (Int.le_refl _)
     | some lo =>
      cases lo' with
      | none => exact h1.elim
      | some v =>
       obtain ⟨hlo, k, rfl⟩ := h1
       have a1 := hle (hn (IE.leB (.lit 0) lo) (by simp))
       have a2 := hle (hn (IE.leB lo len) (by simp))
       show Run P S0 (((Instr.sliceBound (.int k (lo.den ρ)) (len.den ρ).toNat _).bind fun l => Sem.pure (l, (len.den ρ).toNat, (m.den ρ).toNat)).bind g) S K
       rw [Sem.bind_assoc']
       exact run_sliceBound a1 (by omega) (hg a1 a2 h0' (Int.le_refl _))
   | some hi =>
    cases hi' with
    | none => exact h2.elim
    | some v =>
     obtain ⟨hhi, k, rfl⟩ := h2
     simp at hc
     obtain ⟨rfl, rfl, rfl⟩ := hc
     have b1 := hle (hn (IE.leB (.lit 0) hi) (by simp))
     have b2 := hun (hn (IE.under hi m) (by simp))
     simp only [IE.den] at b1
     cases lo with
     | none =>
      cases lo' with
      | some v => exact h1.elim
      | none =>
       show Run P S0 (((Instr.sliceBound (.int k (hi.den ρ)) (m.den ρ).toNat _).bind fun h => Sem.pure (0, h, (m.den ρ).toNat)).bind g) S K
       rw [Sem.bind_assoc']
       exact run_sliceBound b1 (by omega) (hg (by simp [IE.den]) (by simpa [IE.den] using b1) b2 (Int.le_refl _))
     | some lo =>
      cases lo' with
      | none => exact h1.elim
      | some v =>
       obtain ⟨hlo, k', rfl⟩ := h1
       have a1 := hle (hn (IE.leB (.lit 0) lo) (by simp))
       have a2 := hle (hn (IE.leB lo hi) (by simp))
       simp only [IE.den] at a1
       show Run P S0 (((Instr.sliceBound (.int k (hi.den ρ)) (m.den ρ).toNat _).bind fun h => (Instr.sliceBound (.int k' (lo.den ρ)) h _).bind fun l => Sem.pure (l, h, (m.den ρ).toNat)).bind g) S K
       rw [Sem.bind_assoc']
       refine run_sliceBound b1 (by omega) ?_
       rw [Sem.bind_assoc']
       exact run_sliceBound a1 (by omega) (hg a1 a2 b2 (Int.le_refl _))
 | some mx =>
  cases mx' with
  | none => exact h3.elim
  | some v =>
   obtain ⟨hmx, km, rfl⟩ := h3
   cases hi with
   | none => simp at hc
   | some hi =>
    cases hi' with
    | none => exact h2.elim
    | some v =>
     obtain ⟨hhi, k, rfl⟩ := h2
     simp at hc
     obtain ⟨rfl, rfl, rfl, rfl⟩ := hc
     have c1 := hle (hn (IE.leB (.lit 0) mx) (by simp))
     have c2 := hun (hn (IE.under mx cap) (by simp))
     have b1 := hle (hn (IE.leB (.lit 0) hi) (by simp))
     have b2 := hun (hn (IE.under hi mx) (by simp))
     simp only [IE.den] at b1 c1
     cases lo with
     | none =>
      cases lo' with
      | some v => exact h1.elim
      | none =>
       show Run P S0 (((Instr.sliceBound (.int km (mx.den ρ)) (cap.den ρ).toNat _).bind fun m => (Instr.sliceBound (.int k (hi.den ρ)) m _).bind fun h => Sem.pure (0, h, m)).bind g) S K
       rw [Sem.bind_assoc']
       refine run_sliceBound c1 (by omega) ?_
       rw [Sem.bind_assoc']
       exact run_sliceBound b1 (by omega) (hg (by simp [IE.den]) (by simpa [IE.den] using b1) b2 c2)
     | some lo =>
      cases lo' with
      | none => exact h1.elim
      | some v =>
       obtain ⟨hlo, k', rfl⟩ := h1
       have a1 := hle (hn (IE.leB (.lit 0) lo) (by simp))
       have a2 := hle (hn (IE.leB lo hi) (by simp))
       simp only [IE.den] at a1
       show Run P S0 (((Instr.sliceBound (.int km (mx.den ρ)) (cap.den ρ).toNat _).bind fun m => (Instr.sliceBound (.int k (hi.den ρ)) m _).bind fun h => (Instr.sliceBound (.int k' (lo.den ρ)) h _).bind fun l => Sem.pure (l, h, m)).bind g) S K
       rw [Sem.bind_assoc']
       refine run_sliceBound c1 (by omega) ?_
       rw [Sem.bind_assoc']
       refine run_sliceBound b1 (by omega) ?_
       rw [Sem.bind_assoc']
       exact run_sliceBound a1 (by omega) (hg a1 a2 b2 c2)
theorem cutAt_ok {n : Nat} {len cap : IE} {lo hi mx : Option IE} {ns : List BE} {l h m : IE} (hc : cutAt len cap lo hi mx = some (ns, l, h, m)) (h1 : ∀ e, lo = some e → e.ok n) (h2 : ∀ e, hi = some e → e.ok n) (h3 : ∀ e, mx = some e → e.ok n) (hlen : len.ok n) (hcap : cap.ok n) : l.ok n ∧ h.ok n ∧ m.ok n := by
 have key : l = lo.getD (.lit 0) ∧ h = hi.getD len ∧ m = mx.getD cap := by
  unfold cutAt at hc
  split at hc
  ·simp at hc
  ·simp only [Option.some.injEq, Prod.mk.injEq] at hc
   exact ⟨hc.2.1.symm, hc.2.2.1.symm, hc.2.2.2.symm⟩
 obtain ⟨rfl, rfl, rfl⟩ := key
 refine ⟨?_, ?_, ?_⟩
 ·cases lo with
  | none => trivial
  | some x => exact h1 x rfl
 ·cases hi with
  | none => exact hlen
  | some x => exact h2 x rfl
 ·cases mx with
  | none => exact hcap
  | some x => exact h3 x rfl
def sameIE : IE → IE → Option Bool
 | .lit m, .lit n => some (Int.same m n)
 | .add (.lit n) (.room _ _), .lit m => match Int.less m n with
  | true => some false
  | false => none
 | _, _ => none
theorem sameIE_ok {a b : IE} {r : Bool} (h : sameIE a b = some r) : decide (a.den ρ = b.den ρ) = r := by
 unfold sameIE at h
 split at h
 ·simp only [Option.some.injEq] at h; subst h
  rw [Int.same_eq]
  rename_i m n
  show decide (m = n) = (m == n)
  by_cases hmn : m = n <;> simp [hmn]
 ·rename_i n b s m
  split at h
  ·rename_i hl
   simp only [Option.some.injEq] at h; subst h
   rw [Int.less_eq] at hl
   have := of_decide_eq_true hl
   have h2 := Int.natCast_nonneg ((ρ.rest b).length / s)
   refine decide_eq_false ?_
   show ¬ (n + (((ρ.rest b).length / s : Nat) : Int) = m)
   omega
  ·simp at h
 ·simp at h
def IE.cutOff (l : IE) (n : Nat) (r : IE) : IE := match l with
 | .lit (.ofNat 0) => .lit (.ofNat 0)
 | l => .mul (.times l n) (.min (.lit 1) r)
theorem IE.cutOff_den (ρ : Env) (l : IE) (n : Nat) (r : IE) : (IE.cutOff l n r).den ρ = (IE.mul (.times l n) (.min (.lit 1) r)).den ρ := by
 unfold IE.cutOff
 split
 ·simp [IE.den, IE.den_times]
 ·rfl
theorem IE.cutOff_ok {k : Nat} {l r : IE} {n : Nat} (hl : l.ok k) (hr : r.ok k) : (IE.cutOff l n r).ok k := by
 unfold IE.cutOff
 split
 ·trivial
 ·exact ⟨IE.ok_times hl, trivial, hr⟩
def sSlice (P : Program) (t : TypeId) (x : Option SC) (lo hi mx : Option (Option IE)) : Option Eff := match P.underlying t, x, lo, hi, mx with
 | some (.slice e), some (.slice b off len cap), some lo, some hi, some mx => match cutAt len cap lo hi mx, sizeT P e with
  | some (ns, l, h, m), some n => match sameIE m l with
   | some true => some (.val (need (IE.leB (.lit 0) off :: IE.leB (.lit 0) len :: IE.under len cap :: ns)) (.slice b off (IE.minus h l) (IE.minus m l)))
   | some false => some (.val (need (IE.leB (.lit 0) off :: IE.leB (.lit 0) len :: IE.under len cap :: ns)) (.slice b (.plus off (.times l n)) (IE.minus h l) (IE.minus m l)))
   | none => some (.val (need (IE.leB (.lit 0) off :: IE.leB (.lit 0) len :: IE.under len cap :: ns)) (.slice b (.plus off (IE.cutOff l n (IE.minus m l))) (IE.minus h l) (IE.minus m l)))
  | _, _ => none
 | some (.slice e), some (.lit (.slice none len cap)), some lo, some hi, some mx => match cutAt (.lit len) (.lit cap) lo hi mx, sizeT P e with
  | some (ns, .lit (.ofNat l), .lit (.ofNat h), .lit (.ofNat m)), some n => some (.val (need (IE.under (.lit len) (.lit cap) :: ns)) (.lit (.slice none (h - l) (m - l))))
  | _, _ => none
 | some (.array len e), some (.ptr b off), some lo, some hi, some mx => match cutAt (.lit len) (.lit len) lo hi mx, sizeT P e with
  | some (ns, l, h, m), some n => match sameIE m l with
   | some true => some (.val (need (IE.leB (.lit 0) off :: ns)) (.slice b off (IE.minus h l) (IE.minus m l)))
   | some false => some (.val (need (IE.leB (.lit 0) off :: ns)) (.slice b (.plus off (.times l n)) (IE.minus h l) (IE.minus m l)))
   | none => none
  | _, _ => none
 | _, _, _, _, _ => none
theorem OptIs.ok {b : Option IE} {v : Option Value} (h : OptIs ρ b v) : ∀ e, b = some e → e.ok ρ.k.length := by
 rintro e rfl
 cases v with
 | none => exact h.elim
 | some v => exact h.1
theorem sSlice_good {t : TypeId} {x : Operand} {lo hi mx : Option Operand} (hop : o.op = .slice t x lo hi mx) (hev : EvOk ρ ev ev') (h : sSlice P t (ev x) (optInt ev lo) (optInt ev hi) (optInt ev mx) = some e) : EffGood P ρ hp S0 S (execOp ev' o) e := by
 have hle : ∀ {a b : IE}, (IE.leB a b).den ρ = true → a.den ρ ≤ b.den ρ := fun h => by rw [IE.den_leB] at h; exact of_decide_eq_true h
 have hun : ∀ {a b : IE}, (IE.under a b).den ρ = true → a.den ρ ≤ b.den ρ := fun h => by rw [IE.den_under] at h; exact of_decide_eq_true h
 have hsame : ∀ {m l : IE} {r : Bool}, sameIE m l = some r → 0 ≤ l.den ρ → 0 ≤ m.den ρ → ((m.den ρ).toNat = (l.den ρ).toNat ↔ r = true) := fun {m l r} h h1 h2 => by
  have := sameIE_ok (ρ := ρ) h
  rw [← this]
  simp only [decide_eq_true_eq]
  omega
 have hslice : ∀ {b : Nat} {off l h m : IE} {n : Nat} {r : Bool} {K : Except Value Value → Own → Prop}, sameIE m l = some r → 0 ≤ off.den ρ → 0 ≤ l.den ρ → l.den ρ ≤ h.den ρ → h.den ρ ≤ m.den ρ →
   K (.ok ((SC.slice b (if r then off else .plus off (.times l n)) (IE.minus h l) (IE.minus m l)).den ρ)) S →
   Run P S0 (Sem.pure (Value.slice (some (if (m.den ρ).toNat = (l.den ρ).toNat then (⟨ρ.blk b, (off.den ρ).toNat, none⟩ : Addr) else Addr.add ⟨ρ.blk b, (off.den ρ).toNat, none⟩ ((l.den ρ).toNat * n))) ((h.den ρ).toNat - (l.den ρ).toNat) ((m.den ρ).toNat - (l.den ρ).toNat))) S K := by
  intro b off l h m n r K hs h0 h1 h2 h3 hK
  have hiff := hsame hs h1 (by omega)
  refine Run.of_eq ?_ (Run.pure hK)
  simp only [SC.den, IE.den_minus]
  rw [show (h.den ρ - l.den ρ).toNat = (h.den ρ).toNat - (l.den ρ).toNat by omega, show (m.den ρ - l.den ρ).toNat = (m.den ρ).toNat - (l.den ρ).toNat by omega]
  cases r with
  | true => rw [if_pos (hiff.2 rfl)]; rfl
  | false =>
   rw [if_neg (fun e => by have := hiff.1 e; cases this), add_off, index_off h1 h0]
   rfl
 have hslice2 : ∀ {b : Nat} {off l h m : IE} {n : Nat} {K : Except Value Value → Own → Prop}, 0 ≤ off.den ρ → 0 ≤ l.den ρ → l.den ρ ≤ h.den ρ → h.den ρ ≤ m.den ρ →
   K (.ok ((SC.slice b (.plus off (.mul (.times l n) (.min (.lit 1) (IE.minus m l)))) (IE.minus h l) (IE.minus m l)).den ρ)) S →
   Run P S0 (Sem.pure (Value.slice (some (if (m.den ρ).toNat = (l.den ρ).toNat then (⟨ρ.blk b, (off.den ρ).toNat, none⟩ : Addr) else Addr.add ⟨ρ.blk b, (off.den ρ).toNat, none⟩ ((l.den ρ).toNat * n))) ((h.den ρ).toNat - (l.den ρ).toNat) ((m.den ρ).toNat - (l.den ρ).toNat))) S K := by
  intro b off l h m n K h0 h1 h2 h3 hK
  refine Run.of_eq ?_ (Run.pure hK)
  simp only [SC.den, IE.den_minus]
  rw [show (h.den ρ - l.den ρ).toNat = (h.den ρ).toNat - (l.den ρ).toNat by omega, show (m.den ρ - l.den ρ).toNat = (m.den ρ).toNat - (l.den ρ).toNat by omega]
  by_cases e : (m.den ρ).toNat = (l.den ρ).toNat
  ·have e2 : m.den ρ - l.den ρ = 0 := by omega
   rw [if_pos e]
   simp only [IE.den_plus, IE.den, IE.den_minus, e2, Int.min_def]
   simp
  ·have e2 : 1 ≤ m.den ρ - l.den ρ := by omega
   have e3 : (IE.plus off (.mul (.times l n) (.min (.lit 1) (IE.minus m l)))).den ρ = (IE.plus off (.times l n)).den ρ := by
    simp only [IE.den_plus, IE.den, IE.den_minus]
    rw [if_neg (by omega), Int.mul_one]
   rw [if_neg e, e3, add_off, index_off h1 h0]
 have hred : execOp ev' o = (do pure (.value (← Instr.sliceAt t (ev' x) (lo.map ev') (hi.map ev') (mx.map ev'))) : Sem Next) := by simp only [execOp, hop]
 unfold sSlice at h
 split at h
 ·rename_i el b off len cap lo2 hi2 mx2 hu hx h1 h2 h3
  obtain ⟨hxo, hx'⟩ := hev x _ hx
  have g1 := optInt_is hev h1
  have g2 := optInt_is hev h2
  have g3 := optInt_is hev h3
  split at h
  ·rename_i ns l hh m n hc hn
   obtain ⟨ti, hti, hn⟩ := Option.map_eq_some_iff.1 hn
   obtain ⟨k1, k2, k3⟩ := cutAt_ok hc g1.ok g2.ok g3.ok hxo.2.2.1 hxo.2.2.2
   have main : ∀ (r : Bool) (K : Except Value Value → Own → Prop), sameIE m l = some r → allTrue ρ (need (IE.leB (.lit 0) off :: IE.leB (.lit 0) len :: IE.under len cap :: ns)) → K (.ok ((SC.slice b (if r then off else .plus off (.times l n)) (IE.minus hh l) (IE.minus m l)).den ρ)) S → Run P S0 (Instr.sliceAt t (ev' x) (lo.map ev') (hi.map ev') (mx.map ev')) S K := by
    intro r K hr hneeds hK
    have hall := need_all hneeds
    have f0 : 0 ≤ off.den ρ := hle (hall (IE.leB (.lit 0) off) (by simp))
    have f1 : 0 ≤ len.den ρ := hle (hall (IE.leB (.lit 0) len) (by simp))
    have f2 := hun (hall (IE.under len cap) (by simp))
    rw [hx']
    rw [← Sem.bind_pure' (Instr.sliceAt t _ _ _ _)]
    unfold Instr.sliceAt
    simp only [bind, Sem.bind_assoc']
    refine run_underlying hu ?_
    show Run P S0 ((Instr.slice t (SC.den ρ (.slice b off len cap)) (lo.map ev') (hi.map ev') (mx.map ev')).bind Sem.pure) S K
    unfold Instr.slice
    simp only [bind, Sem.bind_assoc']
    refine run_underlying hu ?_
    simp only [SC.den]
    rw [Sem.bind_pure']
    refine (cutAt_run hc g1 g2 g3 hxo.2.2.1 hxo.2.2.2 (fun c hcc => hall c (by simp [hcc])) f1 f2 fun e1 e2 e3 e4 => ?_).1
    refine run_sizeOf hti ?_
    have := hslice (K := K) (b := b) (off := off) (n := ti.size) hr f0 e1 e2 e3 (by rw [hn]; exact hK)
    revert this
    split <;> exact id
   have main2 : ∀ (K : Except Value Value → Own → Prop), allTrue ρ (need (IE.leB (.lit 0) off :: IE.leB (.lit 0) len :: IE.under len cap :: ns)) → K (.ok ((SC.slice b (.plus off (.mul (.times l n) (.min (.lit 1) (IE.minus m l)))) (IE.minus hh l) (IE.minus m l)).den ρ)) S → Run P S0 (Instr.sliceAt t (ev' x) (lo.map ev') (hi.map ev') (mx.map ev')) S K := by
    intro K hneeds hK
    have hall := need_all hneeds
    have f0 : 0 ≤ off.den ρ := hle (hall (IE.leB (.lit 0) off) (by simp))
    have f1 : 0 ≤ len.den ρ := hle (hall (IE.leB (.lit 0) len) (by simp))
    have f2 := hun (hall (IE.under len cap) (by simp))
    rw [hx']
    rw [← Sem.bind_pure' (Instr.sliceAt t _ _ _ _)]
    unfold Instr.sliceAt
    simp only [bind, Sem.bind_assoc']
    refine run_underlying hu ?_
    show Run P S0 ((Instr.slice t (SC.den ρ (.slice b off len cap)) (lo.map ev') (hi.map ev') (mx.map ev')).bind Sem.pure) S K
    unfold Instr.slice
    simp only [bind, Sem.bind_assoc']
    refine run_underlying hu ?_
    simp only [SC.den]
    rw [Sem.bind_pure']
    refine (cutAt_run hc g1 g2 g3 hxo.2.2.1 hxo.2.2.2 (fun c hcc => hall c (by simp [hcc])) f1 f2 fun e1 e2 e3 e4 => ?_).1
    refine run_sizeOf hti ?_
    have := hslice2 (K := K) (b := b) (off := off) (n := ti.size) f0 e1 e2 e3 (by rw [hn]; exact hK)
    revert this
    split <;> exact id
   split at h
   ·rename_i hr
    simp only [Option.some.injEq] at h; subst h
    exact good_val hred ⟨hxo.1, hxo.2.1, IE.ok_minus k2 k1, IE.ok_minus k3 k1⟩ fun hneeds K hK => main true K hr hneeds hK
   ·rename_i hr
    simp only [Option.some.injEq] at h; subst h
    exact good_val hred ⟨hxo.1, IE.ok_plus hxo.2.1 (IE.ok_times k1), IE.ok_minus k2 k1, IE.ok_minus k3 k1⟩ fun hneeds K hK => main false K hr hneeds hK
   ·simp only [Option.some.injEq] at h; subst h
    exact good_val hred ⟨hxo.1, IE.ok_plus hxo.2.1 (IE.cutOff_ok k1 (IE.ok_minus k3 k1)), IE.ok_minus k2 k1, IE.ok_minus k3 k1⟩ fun hneeds K hK => main2 K hneeds (by simpa only [SC.den, IE.den_plus, IE.cutOff_den] using hK)
  ·simp at h
 ·rename_i el len cap lo2 hi2 mx2 hu hx h1 h2 h3
  obtain ⟨hxo, hx'⟩ := hev x _ hx
  have g1 := optInt_is hev h1
  have g2 := optInt_is hev h2
  have g3 := optInt_is hev h3
  split at h
  ·rename_i ns l hh m n hc hn
   obtain ⟨ti, hti, hn⟩ := Option.map_eq_some_iff.1 hn
   simp only [Option.some.injEq] at h; subst h
   refine good_val hred trivial fun hneeds K hK => ?_
   have hall := need_all hneeds
   have f2 := hun (hall (IE.under (.lit len) (.lit cap)) (by simp))
   rw [hx']
   rw [← Sem.bind_pure' (Instr.sliceAt t _ _ _ _)]
   unfold Instr.sliceAt
   simp only [bind, Sem.bind_assoc']
   refine run_underlying hu ?_
   show Run P S0 ((Instr.slice t (.slice none len cap) (lo.map ev') (hi.map ev') (mx.map ev')).bind Sem.pure) S K
   unfold Instr.slice
   simp only [bind, Sem.bind_assoc']
   refine run_underlying hu ?_
   simp only []
   rw [Sem.bind_pure']
   have := (cutAt_run (P := P) (S0 := S0) (S := S) (K := K) (isSlice := true) (g := fun x => (Go.sizeOf el).bind fun size => Sem.pure (Value.slice (if x.2.2 = x.1 then none else (none : Option Addr).map (·.add (x.1 * size))) (x.2.1 - x.1) (x.2.2 - x.1))) hc g1 g2 g3 trivial trivial (fun c hcc => hall c (by simp [hcc])) (show (0 : Int) ≤ (len : Int) from Int.natCast_nonneg len) f2 fun e1 e2 e3 e4 => by
    refine run_sizeOf hti ?_
    refine Run.of_eq ?_ (Run.pure hK)
    have hnone : ∀ (c : Prop) [Decidable c] (f : Addr → Addr), (if c then (none : Option Addr) else (none : Option Addr).map f) = none := by intro c _ f; split <;> rfl
    rw [hnone]
    rfl).1
   simp only [IE.den, Int.toNat_natCast] at this
   exact this
  ·simp at h
 ·rename_i len el b off lo2 hi2 mx2 hu hx h1 h2 h3
  obtain ⟨hxo, hx'⟩ := hev x _ hx
  have g1 := optInt_is hev h1
  have g2 := optInt_is hev h2
  have g3 := optInt_is hev h3
  split at h
  ·rename_i ns l hh m n hc hn
   obtain ⟨ti, hti, hn⟩ := Option.map_eq_some_iff.1 hn
   obtain ⟨k1, k2, k3⟩ := cutAt_ok (n := ρ.k.length) hc g1.ok g2.ok g3.ok trivial trivial
   have main : ∀ (r : Bool) (K : Except Value Value → Own → Prop), sameIE m l = some r → allTrue ρ (need (IE.leB (.lit 0) off :: ns)) → K (.ok ((SC.slice b (if r then off else .plus off (.times l n)) (IE.minus hh l) (IE.minus m l)).den ρ)) S → Run P S0 (Instr.sliceAt t (ev' x) (lo.map ev') (hi.map ev') (mx.map ev')) S K := by
    intro r K hr hneeds hK
    have hall := need_all hneeds
    have f0 : 0 ≤ off.den ρ := hle (hall (IE.leB (.lit 0) off) (by simp))
    rw [hx']
    unfold Instr.sliceAt
    simp only [bind]
    refine run_underlying hu ?_
    simp only [SC.den, Instr.sureAddr]
    show Run P S0 ((Instr.sliceBounds false len len (lo.map ev') (hi.map ev') (mx.map ev')).bind _) S K
    have := (cutAt_run (P := P) (S0 := S0) (S := S) (K := K) (isSlice := false) (g := fun x => (Go.sizeOf el).bind fun size => Sem.pure (Value.slice (some (if x.2.2 = x.1 then (⟨ρ.blk b, (off.den ρ).toNat, none⟩ : Addr) else Addr.add ⟨ρ.blk b, (off.den ρ).toNat, none⟩ (x.1 * size))) (x.2.1 - x.1) (x.2.2 - x.1))) hc g1 g2 g3 trivial trivial (fun c hcc => hall c (by simp [hcc])) (show (0 : Int) ≤ (len : Int) from Int.natCast_nonneg len) (Int.le_refl _) fun e1 e2 e3 e4 => by
     refine run_sizeOf hti ?_
     exact hslice (K := K) (b := b) (off := off) (n := ti.size) hr f0 e1 e2 e3 (by rw [hn]; exact hK)).1
    simp only [IE.den, Int.toNat_natCast] at this
    exact this
   split at h
   ·rename_i hr
    simp only [Option.some.injEq] at h; subst h
    exact good_val hred ⟨hxo.1, hxo.2, IE.ok_minus k2 k1, IE.ok_minus k3 k1⟩ fun hneeds K hK => main true K hr hneeds hK
   ·rename_i hr
    simp only [Option.some.injEq] at h; subst h
    exact good_val hred ⟨hxo.1, IE.ok_plus hxo.2 (IE.ok_times k1), IE.ok_minus k2 k1, IE.ok_minus k3 k1⟩ fun hneeds K hK => main false K hr hneeds hK
   ·simp at h
  ·simp at h
 ·simp at h
end
open Go Mv
section
variable {P : Program} {ρ : Env} {hp : Hp} {F S0 S : Own} {ev : Operand → Option SC} {ev' : Operand → Value} {o : Oper} {e : Eff}
theorem run_askRoom {α : Type} {n : Nat} {g : Unit → Sem α} {K : Except Value α → Own → Prop} (h : Run P S0 (g ()) S K) : Run P S0 ((askRoom n).bind g) S K := by
 unfold askRoom
 split
 ·exact Run.noRoom h
 ·exact h
def sMakeSlice (P : Program) (t : TypeId) (l c : Option SC) : Option Eff := match P.underlying t, l, c with
 | some (.slice e), some (.int _ (.lit (.ofNat l))), some (.int _ (.lit (.ofNat c))) => match P.info? e, zeroCells P e with
  | some i, some zs => match Nat.ble l c && Nat.ble (i.bytes * c) (2 ^ 48) && Nat.ble c (2 ^ 48) && Nat.ble 1 zs.length with
   | true => some (.fresh [] (.cells (zeroRow zs (c * i.size)) e) (.slice l c))
   | false => none
  | _, _ => none
 | _, _, _ => none
theorem wrap_small {n : Nat} (h : n ≤ 2 ^ 48) : IntKind.i64.wrap (Int.ofNat n) = Int.ofNat n := by
 simp only [Int.ofNat_eq_natCast]
 unfold IntKind.wrap
 simp [IntKind.bits, IntKind.signed]
 omega
theorem sMakeSlice_good [Loud S0] {t : TypeId} {x y : Operand} (hop : o.op = .makeSlice t x y) (hv : vals ρ) (hev : EvOk ρ ev ev') (h : sMakeSlice P t (ev x) (ev y) = some e) : EffGood P ρ hp S0 S (execOp ev' o) e := by
 unfold sMakeSlice at h
 split at h
 ·rename_i el k l k' c hu hx hy
  obtain ⟨hxo, hx'⟩ := hev x _ hx
  obtain ⟨hyo, hy'⟩ := hev y _ hy
  split at h
  ·rename_i i zs hi hz
   obtain ⟨hzo, z, hzc, hzr⟩ := zeroCells_run (S0 := S0) hv hz
   split at h
   ·rename_i hc
    simp only [Bool.and_eq_true] at hc
    have h1 := Nat.le_of_ble_eq_true hc.1.1.1
    have h2 := Nat.le_of_ble_eq_true hc.1.1.2
    have h3 := Nat.le_of_ble_eq_true hc.1.2
    have h4 := Nat.le_of_ble_eq_true hc.2
    simp only [Option.some.injEq] at h; subst h
    refine ⟨fun _ K hK => ?_, zeroRow_ok (hzo _)⟩
    simp only [execOp, hop]
    refine run_value ?_
    rw [hx', hy']
    unfold Instr.makeSlice
    simp only [bind]
    refine run_underlying hu ?_
    simp only [SC.den, IE.den]
    refine Run.bind (Run.pure (S := S) ?_)
    refine Run.bind (Run.pure (S := S) ?_)
    refine run_typeInfo hi ?_
    rw [wrap_small h3, wrap_small (show l ≤ 2 ^ 48 by omega)]
    have e1 : ¬ ((decide ((Int.ofNat c) < 0) || decide ((i.bytes : Int) * Int.ofNat c > 2 ^ 48) || decide (Int.ofNat l < 0) || decide (Int.ofNat l > Int.ofNat c)) = true) := by
     have q1 : ¬ (Int.ofNat c < 0) := by simp only [Int.ofNat_eq_natCast]; omega
     have q2 : ¬ ((i.bytes : Int) * Int.ofNat c > 2 ^ 48) := by
      have : (i.bytes : Int) * Int.ofNat c = ((i.bytes * c : Nat) : Int) := by simp
      rw [this]; omega
     have q3 : ¬ (Int.ofNat l < 0) := by simp only [Int.ofNat_eq_natCast]; omega
     have q4 : ¬ (Int.ofNat l > Int.ofNat c) := by simp only [Int.ofNat_eq_natCast]; omega
     simp only [Bool.or_eq_true, decide_eq_true_eq]
     rintro (((h | h) | h) | h)
     ·exact q1 h
     ·exact q2 h
     ·exact q3 h
     ·exact q4 h
    rw [if_neg e1]
    refine run_askRoom ?_
    refine run_sizeOf hi ?_
    have hcells := zeroRow_den (ρ := ρ) hzc (by omega) (c * i.size)
    have main : ∀ zc : Array Value, ((Array.range (c * i.size)).map fun x => zc[x % zc.size]!) = ((zeroRow zs (c * i.size)).map (SC.den ρ)).toArray →
      Run P S0 ((newRow el ((Array.range ((Int.ofNat c).toNat * i.size)).map fun x => zc[x % zc.size]!)).bind fun a => Sem.pure (Value.slice (some a) (Int.ofNat l).toNat (Int.ofNat c).toNat)) S fun r S' => match r with | .ok v => K (.ok (.value v)) S' | .error v => K (.error v) S' := fun zc hzc' => by
     show Run P S0 ((newRow el ((Array.range (c * i.size)).map fun x => zc[x % zc.size]!)).bind fun a => Sem.pure (Value.slice (some a) l c)) S _
     rw [hzc']
     exact Run.new fun r h2 h3 => Run.pure (hK r h2 h3)
    by_cases hn : c * i.size = 0
    ·have hn' : (Int.ofNat c).toNat * i.size = 0 := hn
     rw [if_pos hn']
     refine Run.bind (Run.pure (S := S) ?_)
     refine main #[] ?_
     rw [hn]; simp [zeroRow]
    ·have hn' : ¬ ((Int.ofNat c).toNat * i.size = 0) := hn
     rw [if_neg hn']
     refine hzr ?_
     exact main z.cells hcells
   ·simp at h
  ·simp at h
 ·simp at h
end
end Mw
