/- A logic over the machine and a run of a program on unknown values, in the kernel. No statement of the project is proved in this text. -/
import Derived.Below
import Derived.Carry
import Derived.ChangeSlices
import Derived.Test.YtcidaiiknhfkiaaGreatDoorm5
set_option linter.unusedVariables false
set_option linter.unusedSimpArgs false
set_option linter.unusedVariables false
namespace Mw
open Go Mv
theorem rowAt_off {P : Program} {fits : TypeId → Bool} : ∀ {d : Nat} {e : TypeId} {count off n : Nat}, rowAt P fits d e count off n = true → off ≤ count * P.cellsOf e
 | 0, _, _, _, _, h => by simp [rowAt] at h
 | d + 1, e, count, off, n, h => by
  simp only [rowAt] at h
  split at h
  ·cases h
  ·rename_i hs
   have hm := Nat.div_add_mod off (P.cellsOf e)
   have hlt := Nat.mod_lt off (Nat.pos_of_ne_zero hs)
   simp only [Bool.or_eq_true, Bool.and_eq_true, beq_iff_eq, decide_eq_true_eq] at h
   rcases h with ⟨⟨h1, h2⟩, _⟩ | ⟨h1, _⟩
   ·have := Nat.mul_le_mul_right (P.cellsOf e) (show off / P.cellsOf e ≤ count by omega)
    rw [Nat.mul_comm] at hm
    omega
   ·have := Nat.mul_le_mul_right (P.cellsOf e) (show off / P.cellsOf e + 1 ≤ count by omega)
    rw [Nat.add_mul, Nat.one_mul] at this
    rw [Nat.mul_comm] at hm
    omega
theorem liesAt_off {P : Program} : ∀ {d : Nat} {e : TypeId} {count off : Nat} {u : TypeId} {n : Nat}, Go.liesAt P d e count off u n = true → off ≤ count * P.cellsOf e
 | 0, _, _, _, _, _, h => by simp [Go.liesAt] at h
 | d + 1, e, count, off, u, n, h => by
  simp only [Go.liesAt, Bool.or_eq_true] at h
  rcases h with h | h
  ·exact rowAt_off h
  ·split at h
   ·exact liesAt_off h
   ·cases h
theorem has_cells {P : Program} {W : World} {r : Reach} {base n : Nat} {a : Addr} {e : TypeId} (h : W.has P r base a e n) : a.spot = none ∧ ∃ cs ty fz, W.heap[a.block]? = some (.cells cs ty fz) ∧ a.off ≤ cs.size := by
 obtain ⟨_, h1, row, cells, h2, h3⟩ := h
 refine ⟨h1, ?_⟩
 unfold World.shape? at h2
 split at h2
 ·rename_i c elem fz hc
  simp only [Option.some.injEq, Prod.mk.injEq] at h2
  obtain ⟨rfl, rfl⟩ := h2
  exact ⟨c, elem, fz, hc, Nat.le_trans (liesAt_off h3) (Nat.div_mul_le_self _ _)⟩
 ·cases h2
theorem patch_same {cs : Array Value} {ty : TypeId} {fz : Nat × Nat} {o : Nat} {vs : List Value} (ho : o ≤ cs.size) (h : ∀ i, i < vs.length → cs[o + i]? = vs[i]?) : patch (.cells cs ty fz) o vs = .cells cs ty fz := by
 simp only [patch]
 congr 1
 have hle : o + vs.length ≤ cs.size := by
  by_cases h0 : vs.length = 0
  ·omega
  ·have := h (vs.length - 1) (by omega)
   rw [List.getElem?_eq_getElem (by omega)] at this
   have := (Array.getElem?_eq_some_iff.1 this).1
   omega
 apply Array.ext'
 apply List.ext_getElem?
 intro i
 rw [Nat.sub_eq_zero_of_le ho]
 simp only [List.replicate_zero, List.append_nil, List.append_assoc]
 have hlt : (cs.toList.take o).length = o := by simp; omega
 rcases Nat.lt_or_ge i o with h1 | h1
 ·rw [List.getElem?_append_left (by omega), List.getElem?_take_of_lt h1]
 ·rw [List.getElem?_append_right (by omega), hlt]
  rcases Nat.lt_or_ge (i - o) vs.length with h2 | h2
  ·rw [List.getElem?_append_left h2, ← h _ h2, ← Array.getElem?_toList]
   congr 1; omega
  ·rw [List.getElem?_append_right h2, List.getElem?_drop]
   congr 1; omega
theorem ints_of {H : Type} {enc : TypeId × Value → H} {P : Program} {W : World} {t e : TypeId} {v : Value} {d : DataW H} {ps : List MemPlace} {base : Nat} (ht : P.underlying t = some (.slice e)) (he : P.underlying e = some (.int .i64)) (hc : P.cellsOf e = 1)
  (hv : Value.okWide P W .any base t v) (h : DataW.Trod enc P W 0 (fun _ => true) true t v d ps) :
  (v = .slice none 0 0) ∨ ∃ (b off len cap : Nat) (cs : Array Value) (ty : TypeId) (fz : Nat × Nat) (L : List Int) (rest : List (DataW H)) (els : List (DataW H)), v = .slice (some ⟨b, off, none⟩) len cap ∧ len ≤ cap ∧ L.length = len ∧
   W.heap[b]? = some (.cells cs ty fz) ∧ patch (.cells cs ty fz) off (L.map (Value.int .i64)) = .cells cs ty fz ∧ d = .slice els rest ∧ els.length + rest.length = cap := by
 have hv' : Cell.ok P W .any base t v := by
  unfold Value.okWide at hv
  rw [ht] at hv
  simp only [Cell.okWide, ht] at hv
  exact hv
 obtain ⟨fuel, h⟩ := h
 unfold Cell.ok at hv'
 rw [ht] at hv'
 split at hv' <;> first | (exact hv'.elim) | (rename_i hx; cases hx; done) | skip
 ·exact .inl rfl
 ·rename_i a len cap hx
  obtain rfl := TypeDesc.slice.inj (Option.some.inj hx)
  obtain ⟨h1, h2, h3⟩ := hv'
  obtain ⟨k1, cs, ty, fz, k2, k3⟩ := has_cells h3
  rcases Go.ChangeShapes.open_ints ht he hc h with ⟨h4, _⟩ | ⟨a', len', cap', zs, h4, _, h5, h6, h7, h8, h9, h10⟩
  ·simp [Value.cells] at h4
  ·simp only [Value.cells, List.cons.injEq, Value.slice.injEq, Option.some.injEq, and_true] at h4
   obtain ⟨rfl, rfl, rfl⟩ := h4
   rw [if_pos rfl] at h7
   obtain ⟨b, off, spot⟩ := a
   simp only at k1 k2 k3
   subst k1
   simp only [Prod.mk.injEq] at h8
   refine .inr ⟨b, off, len, cap, cs, ty, fz, zs.take len, _, _, rfl, h1, by simp [h7, h1], k2, patch_same k3 fun i hi => ?_, h8.1, by simp [Go.ChangeShapes.lits, h7]; omega⟩
   simp only [List.length_map, List.length_take] at hi
   have := h9 i (by omega)
   have e : (Addr.add ⟨b, off, none⟩ i) = ⟨b, off + i, none⟩ := by simp [Addr.add]
   rw [e] at this
   unfold World.cell? at this
   simp only [k2, Option.isSome_none, Bool.false_eq_true, if_false] at this
   rw [this, List.getElem?_map, List.getElem?_take_of_lt (by omega), List.getElem?_eq_getElem (by omega)]
   simp [List.getD, List.getElem?_eq_getElem (show i < zs.length by omega)]
theorem trodAll_stays {H : Type} {enc : TypeId × Value → H} {P : Program} {W W' : World} {sp' : Nat → Bool} (hl : laidOutB P = true) (hb : Go.RowKit.Below W.heap.size W W') : ∀ {ts : List TypeId} {vs : List Value} {ds : List (DataW H)} {ps : List MemPlace},
  (∀ t ∈ ts, P.readableRec t = true ∧ t < P.types.size) → DataW.TrodAll enc P W 0 (fun _ => true) true ts vs ds ps → (∀ x ∈ ps, x.block < W.heap.size) → (∀ x ∈ ps, sp' x.block = true) → DataW.TrodAll enc P W' 0 sp' true ts vs ds ps
 | [], [], [], ps, _, h, _, _ => h
 | t :: ts, v :: vs, d :: ds, ps, ht, ⟨p, q, h1, h2, e⟩, hlt, hsp => by
  subst e
  obtain ⟨k1, k2⟩ := ht t List.mem_cons_self
  exact ⟨p, q, WideElems.Trod_stays hl k1 k2 h1 (fun x hx => hb.same (hlt x (List.mem_append_left _ hx))) (fun x hx => hsp x (List.mem_append_left _ hx)),
   trodAll_stays hl hb (fun t ht' => ht t (List.mem_cons_of_mem _ ht')) h2 (fun x hx => hlt x (List.mem_append_right _ hx)) (fun x hx => hsp x (List.mem_append_right _ hx)), rfl⟩
 | [], [], _ :: _, _, _, h, _, _ | [], _ :: _, _, _, _, h, _, _ | _ :: _, [], _, _, _, h, _, _ | _ :: _, _ :: _, [], _, _, h, _, _ => h.elim
theorem mid_below {S S' : Own} {W w' : World} (h : Mid S W S' w') (hS : ∀ b, S.full b = none) : Go.RowKit.Below W.heap.size W w' :=
 ⟨h.os, h.tape, h.output, h.size, fun k hk => h.kept k hk (hS k)⟩
def readsW (W : World) (bs : List Nat) : Own := { full := fun _ => none, ro := fun b => match bs.contains b with
  | true => W.heap[b]?
  | false => none }
theorem readsW_ro {W : World} {bs : List Nat} {b : Nat} (h : b ∈ bs) : (readsW W bs).ro b = W.heap[b]? := by
 simp only [readsW, List.contains_iff_mem.2 h]
theorem readsW_in {W : World} {bs : List Nat} (h : ∀ b ∈ bs, ∀ o, W.heap[b]? = some o → mapish o = false) : (readsW W bs).In W where
 lay b o hb := by cases hb
 layro b o hb := by
  simp only [readsW] at hb
  split at hb
  ·rename_i hc
   exact Lay.self hb (h b (List.contains_iff_mem.1 hc) o hb)
  ·cases hb
 disj b hb := by cases hb
theorem readsW_sat {W : World} {bs : List Nat} {ρ : Env} {l : List (Nat × SO)} (h : ∀ x ∈ l, x.1 < ρ.k.length ∧ x.2.ok ρ.k.length ∧ ρ.blk x.1 ∈ bs ∧ W.heap[ρ.blk x.1]? = some (x.2.den ρ)) : Sat ρ ⟨setsT [], setsT l, .none⟩ (readsW W bs) (readsW W bs) where
 has i u hi := by simp [setsT, Tr.nil_look] at hi
 hro i u hi := by
  obtain ⟨h1, h2, h3, h4⟩ := h (i, u) (setsT_look hi)
  exact ⟨h1, h2, by rw [readsW_ro h3]; exact h4⟩
 inj i j u u' hi := by simp [setsT, Tr.nil_look] at hi
 frm b u hb := hb
 apart i u hi := by simp [setsT, Tr.nil_look] at hi
 ro b u hb := hb
 gh := rfl
 dis b hb := by cases hb
 ghok := trivial
 lent i hi := by cases hi
 linj i hi := by cases hi
 rinj i hi := by cases hi
 lnd := List.nodup_nil
theorem yes_calls {P : Program} {Γ0 : Facts} {c : Con} {v : SC} (hc : c.Ok P true Γ0) (hrw : c.rw = []) (hout : ∀ o ∈ c.outs, o.v = .bool (.lit true)) {W : World} {bs : List Nat} {ρ : Env} (hv : vals ρ) (hΓ : Γ0.On ρ) (hl : ρ.k.length = 16 + c.m) (hp : c.pre ρ)
  (hm : ∀ b ∈ bs, ∀ o, W.heap[b]? = some o → mapish o = false) (hr : ∀ x ∈ c.ro, x.1 < ρ.k.length ∧ x.2.ok ρ.k.length ∧ ρ.blk x.1 ∈ bs ∧ W.heap[ρ.blk x.1]? = some (x.2.den ρ)) :
  Go.Calls P c.f (c.args.map (SC.den ρ)).toArray W fun e w' => e = .returned (.bool true) ∧ Go.RowKit.Below W.heap.size W w' := by
 have h1 := hc.calls (readsW W bs) ρ (readsW W bs) hv hΓ hl hp (by rw [hrw]; exact readsW_sat hr)
 refine (Calls.lone h1 (readsW_in hm)).mono ?_
 rintro e w' ⟨e', S', rfl, hmid, o, ho, ρ', _, _, rfl, _⟩
 rw [hout o ho]
 exact ⟨rfl, mid_below hmid fun _ => rfl⟩
end Mw
