/- A logic over the machine and a run of a program on unknown values, in the kernel. No statement of the project is proved in this text. -/
import Derived.Conc.WgGenN3
import Derived.KernelRfl
import Derived.Laws.Sem
import Derived.Test.YtehopimmbgoaaaaGreatDoorm1
set_option linter.unusedVariables false
set_option linter.unusedSimpArgs false
namespace Mv
open Go
open Go.Conc
open Go.ConcN (upd upd_ne upd_same)
section
variable {P : Program} {K : Grp} {N : Nat} {w0 : Option World} {StopM : Goroutine → Own → Prop} {base : Nat} {D : GD} {gs gs' : Array Goroutine} {w w' : World} {t u : Trace}
theorem GI.leave (I : GI P K N w0 StopM base D gs w t) {i : Nat} {g : Goroutine} {sl : Option (Nat × Nat)} (h0 : i ≠ 0) (hg : gs[i]? = some g) (hrun0 : g.status = .running) (ho : D.T.own i = none) :
    ∃ gs' w' ops D', runT P (crowd gs w sl) i = (.next (crowd gs' w' sl), ops) ∧ GI P K N w0 StopM base D' gs' w' (t ++ ops) ∧ Mu.Lt (D'.mu base) (D.mu base) := by
  have hpos := I.pos
  have hi : i < gs.size := (Array.getElem?_eq_some_iff.1 hg).1
  have hz : (i == 0) = false := by simp; exact h0
  have hq := I.core.quit i g ho hg
  have hrank := I.qrank i h0 hi ho
  cases hn : D.T.q i with
  | zero => rw [hn] at hq; rw [hq.1] at hrun0; cases hrun0
  | succ n =>
    rw [hn] at hq hrank
    rcases hq with ⟨hf, _⟩ | ⟨_, g', es, hm, hstp, hq'⟩
    · rw [hf] at hrun0; cases hrun0
    have hrun := runT_crowd_go (P := P) (sl := sl) (i := i) hg (by rw [hz]; exact hstp w)
    have hC := I.core.leaver (n := n) ho (g := g) (g' := g') hi hm hq' g.frame.fn g.frame.place
    obtain ⟨b', hb, _, he⟩ := woken_main (P := P) (g := g) (g' := g') (w := w) (b := D.blk) I.runs0 I.off
    have hg0 : ((gs.map (woken P g g' w)).setIfInBounds i g')[0]? = some (if b' then { D.g with status := .blocked } else D.g) := by
      rw [map_set_get _ _ _ _ _ (Ne.symm h0), I.gs0]; simp only [Option.map_some, he]
    have hold : ∀ {p j : Nat}, t.g? p = some j → (t ++ MemOp.ofEvents i g.frame.fn g.frame.place es).g? p = some j := fun h => by rw [g?_old (g?_lt h)]; exact h
    refine ⟨_, w, _, { D with T := { D.T with q := upd D.T.q i n }, f := updr D.f i (Rk.of n), tok := 1 + D.tok, blk := b' }, hrun, ?_, ?_⟩
    · refine { core := hC, size := (by simp [I.size]), pos := I.pos, own0 := I.own0, gh0 := I.gh0, gs0 := hg0, runs0 := I.runs0, goes0 := I.goes0, f0 := ?_, blk0 := fun h => I.blk0 (hb h), plen := I.plen, work := ?_, left := I.left, others := I.others,
               qrank := ?_, rel0 := I.rel0, relw := I.relw, rels := ?_, norel := ?_, d0 := I.d0, dW := I.dW, shW := I.shW, shC := I.shC, ne := I.ne, usr0 := I.usr0, usrW := I.usrW, boss := I.boss, wg := I.wg, ch := I.ch, mode := I.mode, msgs := I.msgs, bags := I.bags,
               place := ?_, quota := I.quota, quotas := I.quotas, few := I.few, token := fun _ _ => by show 1 ≤ 1 + D.tok; omega,
               calmC := I.calmC, calmW := I.calmW, lw := I.lw, lentlow := I.lentlow, asleep := fun h => I.asleep (hb h), off := fun h => I.off (hb h) }
      · show updr D.f i _ 0 = .zero
        rw [updr_ne _ _ (Ne.symm h0)]; exact I.f0
      · intro k hk hW
        obtain ⟨S, x, pc, h1, h2, h3, h4, h5, h6, h7⟩ := I.work k hk hW
        have hne : base + k ≠ i := by rintro rfl; rw [ho] at h1; cases h1
        refine ⟨S, x, pc, h1, ?_, h3, h4, h5, h6, ?_⟩
        · rw [map_set_get _ _ _ _ _ hne, h2]; simp only [Option.map_some, woken_runs h3]
        · show GoesR P _ _ (updr D.f i _ (base + k)) x S
          rw [updr_ne _ _ hne]; exact h7
      · intro j hj0 hj hjo
        show updr D.f i (Rk.of n) j = Rk.of (upd D.T.q i n j)
        by_cases hji : j = i
        · subst hji; rw [updr_same, upd_same]
        · rw [updr_ne _ _ hji, upd_ne _ _ hji]
          exact I.qrank j hj0 (by simpa using hj) hjo
      · intro j hj h
        obtain ⟨p, pc, h1, h2, h3, h4⟩ := I.rels j hj h
        have hp := lt_of_act? h2
        exact ⟨p, pc, h1, by rw [act?_old hp]; exact h2, (heard_old hp).2 h3, h4⟩
      · intro op hop a ha
        rcases Array.mem_append.1 hop with h | h
        · exact I.norel op h a ha
        · refine absurd ha ?_
          obtain ⟨e, he', rfl⟩ := mem_ofEvents h
          have hme := hm e he'
          obtain ⟨loc, wr, sy⟩ := e
          cases loc with
          | mark m => cases m <;> simp_all [Event.mute, MemAct.ofEvent]
          | obj c => cases wr <;> cases sy <;> simp [MemAct.ofEvent]
          | _ => simp [MemAct.ofEvent]
      · intro z x hx
        obtain ⟨k', h1, h2, h3⟩ := I.place z x hx
        exact ⟨k', h1, hold h2, h3⟩
    · show Prod.Lex _ _ _ _
      refine Prod.Lex.right _ (Prod.Lex.right _ ?_)
      have hlt : Rk.Lt (Rk.of n) (D.f i) := by rw [hrank]; exact Rk.of_lt n
      exact ranks_down (by rw [← I.size]; exact hi) hlt 1 D.tok hlt.pos
theorem GI.goM (I : GI P K N w0 StopM base D gs w t) {g' child : Goroutine} {S1 S2 : Own} {pc : Pact} {l1 : Nat → Prop} {r' rc : Rk} {sl : Option (Nat × Nat)} (hl1 : ∀ b, l1 b → D.lent b ∨ (D.S.full b).isSome) (hb : D.blk = false) (hph : D.ph = .op false true)
    (hst : stepG P true D.g w = .spawn g' child w #[]) (hru : Runs g') (hrc : Runs child) (h1 : Part D.S S1) (h2 : Part D.S S2) (a12 : ∀ b, (S1.full b).isSome → S2.full b = none ∧ S2.ro b = none)
    (a21 : ∀ b, (S2.full b).isSome → S1.full b = none ∧ S1.ro b = none) (hg1 : S1.gh = .main K l1 (.op false false) (D.ps ++ [pc])) (hg2 : S2.gh = .work K .work pc []) (hqs : ((D.ps ++ [pc]).map (·.quota)).sum ≤ K.cap) (hfew : D.ps.length < 1000000)
    (hGc : GoesR P ⟨false, ActW P K⟩ StopW rc child S2) (hG : GoesR P ⟨true, ActM P K⟩ StopM r' g' S1) (hr : Rk.Lt r' D.r0) :
    ∃ gs' w' ops D', runT P (crowd gs w sl) 0 = (.next (crowd gs' w' sl), ops) ∧ GI P K N w0 StopM base D' gs' w' (t ++ ops) ∧ Mu.Lt (D'.mu base) (D.mu base) := by
  have hpos := I.pos
  have hsz := I.size
  have hi : 0 < gs.size := by omega
  have hg : gs[0]? = some D.g := by have := I.gs0; rw [hb] at this; exact this
  have hrun := runT_crowd_spawn (P := P) (sl := sl) (i := 0) hg hst
  have hd0 : D.T.d 0 = 0 := by rw [I.d0, hph]; rfl
  have hC := I.core.fork (z := D.L.length) (g' := g') (child := child) I.own0 hi (by rw [I.bags]; simp) I.rel0 hd0 h1 h2 a12 a21 (fun b => b = K.W) (fun b hb => by rw [hb]; exact I.usr0)
    (y := { g := 0, fn := D.g.frame.fn, pos := D.g.frame.place, act := .go gs.size }) (y' := { g := gs.size, fn := child.frame.fn, pos := D.g.frame.place, act := .start }) rfl rfl rfl rfl
  have hops : ∀ (a b : MemOp), t ++ (((MemOp.ofEvents 0 D.g.frame.fn D.g.frame.place #[]).push a).push b) = (t ++ #[a]) ++ #[b] := by intro a b; rw [ofEvents_eq]; apply Array.ext'; simp
  generalize hy1 : ({ g := 0, fn := D.g.frame.fn, pos := D.g.frame.place, act := .go gs.size } : MemOp) = y1 at hrun hC
  generalize hy2 : ({ g := gs.size, fn := child.frame.fn, pos := D.g.frame.place, act := .start } : MemOp) = y2 at hrun hC
  have hmode := I.mode
  rw [hph] at hmode
  obtain ⟨a1, a2, a3⟩ := hmode
  have hin : ∀ (i : Nat) (x : Goroutine), i ≠ 0 → gs[i]? = some x → ((gs.setIfInBounds 0 g').push child)[i]? = some x := by
    intro i x hi0 hx
    have hlt := (Array.getElem?_eq_some_iff.1 hx).1
    rw [Array.getElem?_push, if_neg (by simp; omega), Array.getElem?_setIfInBounds_ne (Ne.symm hi0)]; exact hx
  have hold : ∀ {p j : Nat}, t.g? p = some j → ((t ++ #[y1]) ++ #[y2]).g? p = some j := fun h => by
    have hl := g?_lt h
    rw [g?_old (by simp; omega), g?_old hl]; exact h
  have hWn : ∀ k, k < D.m → upd D.W D.m .work k = D.W k := fun k hk => upd_ne _ _ (by omega)
  have hSn : ∀ k, k < D.m → upd D.sent D.m [] k = D.sent k := fun k hk => upd_ne _ _ (by omega)
  have hpn : ∀ k, k < D.m → (D.ps ++ [pc])[k]? = D.ps[k]? := fun k hk => List.getElem?_append_left (by rw [I.plen]; exact hk)
  have hpm : (D.ps ++ [pc])[D.m]? = some pc := by rw [← I.plen]; simp
  have hmm : ∀ k, k < D.m + 1 → k = D.m ∨ k < D.m := fun k hk => by omega
  have hown : ∀ i, i ≠ 0 → i ≠ gs.size → upd (upd D.T.own 0 (some S1)) gs.size (some S2) i = D.T.own i := fun i h h' => by rw [upd_ne _ _ h', upd_ne _ _ h]
  have hown0 : upd (upd D.T.own 0 (some S1)) gs.size (some S2) 0 = some S1 := by rw [upd_ne _ _ (by omega), upd_same]
  have hrm : D.T.rel (base + D.m) = none := (I.core.above _ (by omega)).2.2.1
  refine ⟨(gs.setIfInBounds 0 g').push child, w, _, { D with T := { D.T with own := upd (upd D.T.own 0 (some S1)) gs.size (some S2), d := upd D.T.d gs.size 0, usr := fun j b => D.T.usr j b ∨ (j = gs.size ∧ b = K.W) }, m := D.m + 1, W := upd D.W D.m .work, sent := upd D.sent D.m [], ps := D.ps ++ [pc], lent := l1, r0 := r', f := updr D.f (base + D.m) rc, S := S1, ph := .op false false, g := g' }, hrun, ?_, ?_⟩
  · rw [hops]
    refine { core := hC, size := (by simp; omega), pos := I.pos, own0 := hown0, gh0 := hg1, gs0 := ?_, runs0 := hru, goes0 := hG, f0 := ?_, blk0 := fun h => (by rw [hb] at h; cases h), plen := (by simp [I.plen]), work := ?_, left := ?_, others := ?_,
             qrank := ?_, rel0 := I.rel0, relw := ?_, rels := ?_, norel := ?_, d0 := ?_, dW := ?_, shW := I.shW, shC := I.shC, ne := I.ne, usr0 := .inl I.usr0, usrW := ?_, boss := I.boss, wg := I.wg, ch := I.ch, mode := ?_, msgs := ?_, bags := I.bags,
             place := ?_, quota := ?_, quotas := hqs, few := (by have := I.plen; show D.m + 1 ≤ _; omega), token := fun h _ => (by cases h),
             calmC := I.calmC, calmW := I.calmW, lw := I.lw, lentlow := fun b h => (hl1 b h).elim (I.lentlow b) (fun h => (by rw [← I.lw.1]; exact I.core.low 0 D.S I.own0 b h)), asleep := I.asleep, off := fun h => (by rw [hb] at h; cases h) }
    · show ((gs.setIfInBounds 0 g').push child)[0]? = some (if D.blk then _ else _)
      rw [hb, Array.getElem?_push, if_neg (by simp; omega), Array.getElem?_setIfInBounds_self_of_lt hi]; rfl
    · show updr D.f (base + D.m) rc 0 = .zero
      rw [updr_ne _ _ (by omega)]; exact I.f0
    · intro k hk hW
      show ∃ S g pc', upd (upd D.T.own 0 (some S1)) gs.size (some S2) (base + k) = some S ∧ ((gs.setIfInBounds 0 g').push child)[base + k]? = some g ∧ Runs g ∧ (D.ps ++ [pc])[k]? = some pc' ∧ S.gh = .work K (upd D.W D.m .work k) pc' (upd D.sent D.m [] k) ∧ (upd D.W D.m .work k ≠ .work → S = .nil S.gh) ∧ GoesR P _ _ (updr D.f (base + D.m) rc (base + k)) g S
      rcases hmm k hk with rfl | hk'
      · rw [← hsz, upd_same, upd_same, upd_same, updr_same]
        exact ⟨S2, child, pc, rfl, by rw [Array.getElem?_push, if_pos (by simp)], hrc, hpm, hg2, fun h => absurd rfl h, hGc⟩
      · have hW' : D.W k ≠ .left := by have h : upd D.W D.m .work k ≠ .left := hW; rwa [hWn k hk'] at h
        obtain ⟨S, g, pc', f1, f2, f3, f4, f5, f6, f7⟩ := I.work k hk' hW'
        rw [hown _ (by omega) (by omega), hWn k hk', hSn k hk', hpn k hk', updr_ne _ _ (by omega)]
        exact ⟨S, g, pc', f1, hin _ g (by omega) f2, f3, f4, f5, f6, f7⟩
    · intro k hk hW
      have hW' : upd D.W D.m .work k = .left := hW
      show upd (upd D.T.own 0 (some S1)) gs.size (some S2) (base + k) = none
      rcases hmm k hk with rfl | hk'
      · rw [upd_same] at hW'; cases hW'
      · rw [hWn k hk'] at hW'
        rw [hown _ (by omega) (by omega)]; exact I.left k hk' hW'
    · intro i hi0 hor
      have hor' : i < base ∨ base + (D.m + 1) ≤ i := hor
      show upd (upd D.T.own 0 (some S1)) gs.size (some S2) i = none ∧ D.T.rel i = none
      rw [hown i hi0 (by omega)]; exact I.others i hi0 (by omega)
    · intro i hi0 hlt hn
      have hlt' : i < gs.size + 1 := by simpa using hlt
      have hn' : upd (upd D.T.own 0 (some S1)) gs.size (some S2) i = none := hn
      show updr D.f (base + D.m) rc i = Rk.of (D.T.q i)
      have hne : i ≠ gs.size := by rintro rfl; rw [upd_same] at hn'; cases hn'
      rw [hown i hi0 hne] at hn'
      rw [updr_ne _ _ (by omega)]; exact I.qrank i hi0 (by omega) hn'
    · intro k hk hW
      show D.T.rel (base + k) = none
      rcases hmm k hk with rfl | hk'
      · exact hrm
      · exact I.relw k hk' (by have h : upd D.W D.m .work k = .work := hW; rwa [hWn k hk'] at h)
    · intro k hk hW
      have hW' : upd D.W D.m .work k ≠ .work := hW
      show ∃ p pc', D.T.rel (base + k) = some p ∧ _ ∧ _ ∧ (D.ps ++ [pc])[k]? = some pc' ∧ pc'.ok (upd D.sent D.m [] k)
      rcases hmm k hk with rfl | hk'
      · rw [upd_same] at hW'; exact absurd rfl hW'
      · rw [hWn k hk'] at hW'
        obtain ⟨p, pc', f1, f2, f3, f4, f5⟩ := I.rels k hk' hW'
        have hp := lt_of_act? f2
        rw [hpn k hk', hSn k hk']
        exact ⟨p, pc', f1, by rw [act?_old (by simp; omega), act?_old hp]; exact f2, (heard_old (by simp; omega)).2 ((heard_old hp).2 f3), f4, f5⟩
    · intro op hop a ha
      rcases Array.mem_append.1 hop with h | h
      · rcases Array.mem_append.1 h with h | h
        · exact I.norel op h a ha
        · have : op = y1 := by simpa using h
          rw [this, ← hy1] at ha; simp at ha
      · have : op = y2 := by simpa using h
        rw [this, ← hy2] at ha; simp at ha
    · show upd D.T.d gs.size 0 0 = _
      rw [upd_ne _ _ (by omega), hd0]; rfl
    · intro k hk hW
      have hW' : upd D.W D.m .work k ≠ .left := hW
      show upd D.T.d gs.size 0 (base + k) = (upd D.W D.m .work k).deaf
      rcases hmm k hk with rfl | hk'
      · rw [← hsz, upd_same, upd_same]; rfl
      · rw [hWn k hk'] at hW' ⊢
        rw [upd_ne _ _ (by omega)]; exact I.dW k hk' hW'
    · intro k hk
      rcases hmm k hk with rfl | hk'
      · exact .inr ⟨by omega, rfl⟩
      · exact .inl (I.usrW k hk')
    · refine ⟨fun k hk => ?_, ?_, a3⟩
      · show (upd D.W D.m .work k).isLast = false
        rcases hmm k hk with rfl | hk'
        · rw [upd_same]; rfl
        · rw [hWn k hk']; exact a1 k hk'
      · show D.st = ((nCnt (upd D.W D.m .work) (D.m + 1) + 0 : Nat) : Int) * gK
        rw [nCnt_succ, nCnt_ge (Nat.le_refl _), upd_same, a2]; rfl
    · show (D.L.map (·.1)).Perm ((List.range (D.m + 1)).map (upd D.sent D.m [])).flatten
      rw [List.range_succ]
      simp only [List.map_append, List.map_cons, List.map_nil, upd_same, List.flatten_append, List.flatten_cons, List.flatten_nil, List.append_nil]
      have e : (List.range D.m).map (upd D.sent D.m []) = (List.range D.m).map D.sent := List.map_congr_left fun a ha => hSn a (List.mem_range.1 ha)
      rw [e]; exact I.msgs
    · intro z x hx
      obtain ⟨k', f1, f2, f3⟩ := I.place z x hx
      exact ⟨k', by show k' < D.m + 1; omega, hold f2, f3⟩
    · intro k pc' hk hp
      have hp' : (D.ps ++ [pc])[k]? = some pc' := hp
      show (upd D.sent D.m [] k).length ≤ _
      rcases hmm k hk with rfl | hk'
      · rw [upd_same]; simp
      · rw [hSn k hk']; rw [hpn k hk'] at hp'; exact I.quota k pc' hk' hp'
  · show Prod.Lex _ _ _ _
    exact Prod.Lex.left _ _ hr
end
end Mv
namespace Mv
open Go
open Go.Conc
open Go.ConcN (upd upd_ne upd_same)
section
variable {P : Program} {K : Grp} {N : Nat} {w0 : Option World} {StopM : Goroutine → Own → Prop} {base : Nat} {D : GD} {gs gs' : Array Goroutine} {w w' : World} {t u : Trace}
theorem GI.actW (I : GI P K N w0 StopM base D gs w t) {k : Nat} (hk : k < D.m) {g : Goroutine} {S : Own} {pc : Pact} {Q : Goroutine → Own → Prop} {sl : Option (Nat × Nat)} (hWk : D.W k ≠ .left)
  (ho : D.T.own (base + k) = some S) (hg : gs[base + k]? = some g) (hp : D.ps[k]? = some pc) (hgh : S.gh = .work K (D.W k) pc (D.sent k)) (hnil : D.W k ≠ .work → S = .nil S.gh) (hA : ActW P K g S Q)
  (hQ : ∀ g' S', Q g' S' → ∃ r', Rk.Lt r' (D.f (base + k)) ∧ GoesR P ⟨false, ActW P K⟩ StopW r' g' S') :
  ∃ gs' w' ops D', runT P (crowd gs w sl) (base + k) = (.next (crowd gs' w' sl), ops) ∧ D'.m = D.m ∧ GI P K N w0 StopM base D' gs' w' (t ++ ops) ∧ Mu.Lt (D'.mu base) (D.mu base) := by
 by_cases hw : D.W k = .work
 ·have hin := I.core.inn _ _ ho
  have no : ∀ {p : WPh} {pc' : Pact} {ms : List Msg}, p ≠ .work → S.gh = .work K p pc' ms → False := by
   intro p pc' ms hne h
   rw [hgh, hw] at h
   exact hne (by injection h with _ e; exact e.symm)
  cases hA with
  | send h1 h2 h3 h4 h5 h6 h7 h8 h9 h10 h11 =>
   rw [hgh] at h2; injection h2 with _ e1 e2 e3
   subst e2; subst e3
   obtain ⟨hs, hev⟩ := h4 w hin
   obtain ⟨r', hr, hG⟩ := hQ _ _ h11
   exact I.sendW hk hw ho hg hp h3 hs hev h5 h6 h7 h8 h9 h10 hG hr
  | rel h1 h2 h3 h4 =>
   rw [hgh] at h2; injection h2 with _ e1 e2 e3
   subst e2; subst e3
   obtain ⟨g', hs, _, hq⟩ := h4 w hin
   obtain ⟨r', hr, hG⟩ := hQ _ _ hq
   obtain ⟨gs', ops, D', h⟩ := I.relW (sl := sl) hk hw ho hg hp h3 hs hG hr
   exact ⟨gs', w, ops, D', h⟩
  | look h1 h2 h3 =>
   obtain ⟨g', hs, _, hq⟩ := h3 w D.st D.sm hin I.wg
   obtain ⟨r', hr, hG⟩ := hQ _ _ hq
   obtain ⟨gs', ops, D', h⟩ := I.privW (sl := sl) hk hWk ho hg hp hgh hnil hs (Mid.refl hin) (by simp) hG hr
   exact ⟨gs', w, ops, D', h⟩
  | dis h1 h2 h3 => exact (no (by simp) h2).elim
  | sub h1 h2 h3 => exact (no (by simp) h2).elim
  | d2 h1 h2 h3 => exact (no (by simp) h2).elim
  | d3 h1 h2 h3 => exact (no (by simp) h2).elim
  | d4 h1 h1' h2 h3 => exact (no (by simp) h2).elim
 ·exact I.actQ hk hWk hw ho hg hp hgh (hnil hw) hA hQ
structure StandL (P : Program) (N : Nat) (w0 : Option World) (g : Goroutine) (S : Own) (gs : Array Goroutine) (w : World) (t : Trace) (Shun : Loc → Prop) (B : Nat) (q : Nat → Nat) : Prop where
 st : Stand P g S gs w t Shun B q
 gh : S.gh = .none
 low : ∀ b, (S.full b).isSome → N ≤ b
 slow : ∀ b l, inB b l → Shun l → N ≤ b
 far : Far N w0 w
theorem all_gone {W : Nat → WPh} {m : Nat} {a : Bool} {st sm : Int} (h : modeOk m W (.out a) st sm) : ∀ k, k < m → W k = .left := h.1
theorem GI.joinM (I : GI P K N w0 StopM base D gs w t) {Q : Goroutine → Own → Prop} {sl : Option (Nat × Nat)} (hb : D.blk = false) (hJ : JoinData P K D.g D.S Q) :
  ∃ gs' ops g' S' Shun q, runT P (crowd gs w sl) 0 = (.next (crowd gs' w sl), ops) ∧ Q g' S' ∧ StandL P N w0 g' S' gs' w (t ++ ops) Shun w.heap.size q := by
 obtain ⟨l, ps, hgh, hJ⟩ := hJ
 have hg0 := I.gh0
 rw [hgh] at hg0
 injection hg0 with _ el eph eps
 subst el; subst eps
 have hin := I.core.inn _ _ I.own0
 obtain ⟨g', hs, hru, hq⟩ := hJ w hin
 have hpos := I.pos
 have hi : 0 < gs.size := by rw [I.size]; omega
 have hg : gs[0]? = some D.g := by have := I.gs0; rw [hb] at this; exact this
 have hrun := runT_crowd_go (P := P) (sl := sl) (i := 0) hg hs
 obtain ⟨hh0, hk⟩ := others_m I D.g g' w
 have hmode := I.mode
 rw [← eph] at hmode
 have hleft := all_gone hmode
 have hC := I.core.cell (S' := D.S) (g := D.g) (g' := g') (w' := w) (es := #[eM (.acquire K.st)]) I.own0 hi (fun e he => by
  have : e = eM (.acquire K.st) := by simpa using he
  rw [this]; exact I.shW) (.inl I.rel0) (Calm.refl _) rfl (fun _ _ => rfl) ⟨rfl, rfl⟩ D.g.frame.fn D.g.frame.place
 have hops : MemOp.ofEvents 0 D.g.frame.fn D.g.frame.place #[eM (.acquire K.st)] = #[{ g := 0, fn := D.g.frame.fn, pos := D.g.frame.place, act := .mark (.acquire K.st) }] := by
  rw [ofEvents_eq]; simp [eM, MemAct.ofEvent]
 rw [hops] at hC hrun
 generalize hy : ({ g := 0, fn := D.g.frame.fn, pos := D.g.frame.place, act := .mark (.acquire K.st) } : MemOp) = y at hC hrun
 have yg : y.g = 0 := by rw [← hy]
 have ya : y.act = .mark (.acquire K.st) := by rw [← hy]
 have hel : (t ++ #[y])[t.size]? = some y := by simp
 have hd0 : D.T.d 0 = 0 := by rw [I.d0, ← eph]; rfl
 have hDf : Deaf t 0 = 0 := (I.core.deaf 0 (by rw [I.own0]; rfl)).trans hd0
 have hnone : ∀ j, j ≠ 0 → D.T.own j = none := by
  intro j hj
  by_cases h1 : j < base ∨ base + D.m ≤ j
  ·exact (I.others j hj h1).1
  ·obtain ⟨k, rfl⟩ : ∃ k, j = base + k := ⟨j - base, by omega⟩
   exact I.left k (by omega) (hleft k (by omega))
 have hall : ∀ j, j ≠ 0 → upd D.T.own 0 (some D.S) j = none := fun j hj => by rw [upd_ne _ _ hj]; exact hnone j hj
 have hnr : ∀ op ∈ (t ++ #[y]), ∀ a : Addr, op.act = .mark (.release a) → (D.T.sh a.block ∧ ¬ D.T.calm a.block) ∧ a.block ≠ K.W := by
  intro op hop a ha
  rcases Array.mem_append.1 hop with h | h
  ·exact I.norel op h a ha
  ·have : op = y := by simpa using h
   rw [this, ya] at ha; cases ha
 have hkn : ∀ j p, D.T.rel j = some p → Knows (t ++ #[y]) 0 p := by
  intro j p hp
  have hj0 : j ≠ 0 := by rintro rfl; rw [I.rel0] at hp; cases hp
  by_cases h1 : j < base ∨ base + D.m ≤ j
  ·rw [(I.others j hj0 h1).2] at hp; cases hp
  ·obtain ⟨k, rfl⟩ : ∃ k, j = base + k := ⟨j - base, by omega⟩
   have hkm : k < D.m := by omega
   obtain ⟨p', pc, f1, f2, f3, _⟩ := I.rels k hkm (by rw [hleft k hkm]; simp)
   rw [hp] at f1
   obtain rfl := Option.some.inj f1
   have hpl := lt_of_act? f2
   have edge : HappensBefore (t ++ #[y]) p t.size := .single (.inr ⟨.marked hpl (.inr (by rw [act?_old hpl]; exact f2)) (by rw [act?_of hel, ya]) (fun i _ _ hi => by
     unfold Trace.act? at hi
     obtain ⟨z, hz, hza⟩ := Option.map_eq_some_iff.1 hi
     exact (hnr z (mem_of_getElem? hz) _ hza).2 rfl), (heard_old hpl).2 f3, ⟨0, by simp [Trace.g?, yg], by rw [deaf_old (Nat.le_refl _)]; exact hDf⟩⟩)
   exact ⟨t.size, y, hel, yg, .inr edge⟩
 have hbagL : ∀ m ∈ D.L.map (·.1), ∃ z p, D.T.bag z = some (m.own, p) := by
  intro m hm
  obtain ⟨z, hz⟩ := List.mem_iff_getElem?.1 hm
  rw [List.getElem?_map] at hz
  obtain ⟨x, hx, rfl⟩ := Option.map_eq_some_iff.1 hz
  exact ⟨z, x.2, by rw [I.bags z, hx]; rfl⟩
 have hbf : ∀ m : Msg, m.own.full = m.2 := fun _ => rfl
 obtain ⟨S', hH, hQ⟩ := hq ((List.range D.m).map D.sent) (D.L.map (·.1)) D.ns D.nr (by simp [I.plen]) (fun k pc ms h1 h2 => by
   have hkm : k < D.m := by rw [← I.plen]; exact (List.getElem?_eq_some_iff.1 h1).1
   obtain ⟨p', pc', f1, f2, f3, f4, f5⟩ := I.rels k hkm (by rw [hleft k hkm]; simp)
   rw [h1] at f4
   obtain rfl := Option.some.inj f4
   rw [List.getElem?_map, List.getElem?_range hkm] at h2
   obtain rfl := Option.some.inj h2
   exact f5) I.msgs
  (fun m hm b hb => by
   obtain ⟨z, p, hz⟩ := hbagL m hm
   have h1 := (I.core.bapart 0 z D.S m.own p I.own0 hz b).2 hb
   refine ⟨h1.1, h1.2, fun e => ?_⟩
   have := (I.core.shbag z m.own p hz b (e ▸ I.shC)).1
   rw [hbf] at this
   rw [this] at hb; cases hb)
  (by
   rw [List.pairwise_iff_getElem]
   intro i j hi hj hij b hb
   simp only [List.length_map] at hi hj
   have hz : ∀ z (h : z < D.L.length), D.T.bag z = some (Msg.own ((D.L[z]'h).1), (D.L[z]'h).2) := by
    intro z h
    rw [I.bags z, List.getElem?_eq_getElem h]; rfl
   simp only [List.getElem_map] at hb ⊢
   exact (I.core.bbapart i j _ _ _ _ (by omega) (hz i hi) (hz j hj) b hb).1)
  (I.core.shapart 0 D.S I.own0 _ I.shC)
 have hS'in : S'.In w := by
  refine ⟨fun b o h => ?_, fun b o h => hin.layro b o (hH.ro b o h), hH.disj⟩
  rcases hH.full b o h with ⟨rfl, rfl⟩ | h | ⟨m, hm, h⟩ | ⟨_, h⟩
  ·rw [List.map_map]; exact Lay.self I.ch rfl
  ·exact hin.lay b o h
  ·obtain ⟨z, p, hz⟩ := hbagL m hm
   exact (I.core.binn z m.own p hz).lay b o h
  ·exact hin.layro b o h
 have hS'sh : ∀ b, D.T.sh b → ¬ D.T.calm b → S'.full b = none ∧ S'.ro b = none := by
  intro b hb hc
  obtain ⟨e1, e2⟩ := I.core.shapart 0 D.S I.own0 b hb
  refine ⟨?_, ?_⟩
  ·cases hf : S'.full b with
   | none => rfl
   | some o =>
    rcases hH.full b o hf with ⟨rfl, _⟩ | h | ⟨m, hm, h⟩ | ⟨_, h⟩
    ·exact absurd I.calmC hc
    ·rw [e1] at h; cases h
    ·obtain ⟨z, p, hz⟩ := hbagL m hm
     have := (I.core.shbag z m.own p hz b hb).1
     rw [hbf, h] at this; cases this
    ·rw [e2] at h; cases h
  ·cases hf : S'.ro b with
   | none => rfl
   | some o => rw [hH.ro b o hf] at e2; cases e2
 have hlow : ∀ b, (S'.full b).isSome → N ≤ b := by
  intro b hb
  obtain ⟨o, ho⟩ := Option.isSome_iff_exists.1 hb
  rw [← I.lw.1]
  rcases hH.full b o ho with ⟨rfl, _⟩ | h | ⟨m, hm, h⟩ | ⟨h, _⟩
  ·exact I.core.slow _ I.shC
  ·exact I.core.low 0 D.S I.own0 b (by simp [h])
  ·obtain ⟨z, p, hz⟩ := hbagL m hm
   exact I.core.blow z m.own p hz b (by rw [hbf, h]; rfl)
  ·rw [I.lw.1]; exact I.lentlow b h
 have hst := hC.finish hall hkn (by show upd D.T.d 0 _ 0 = 0; rw [upd_same, hd0]; rfl) (upd_same D.T.own 0 (some D.S)) hh0 hS'in hS'sh (fun op hop a ha => (hnr op hop a ha).1)
 refine ⟨_, _, g', S', _, _, hrun, hQ, hst, hH.gh, hlow, ?_, ?_⟩
 ·rintro b lo hb ⟨c, ⟨h1, _⟩, h2⟩
  obtain rfl := inB_one hb h2
  rw [← I.lw.1]; exact I.core.slow _ h1
 ·have := I.core.far; rw [I.lw.1, I.lw.2] at this; exact this
end
end Mv
namespace Mv
open Go
open Go.Conc
open Go.ConcN (upd upd_ne upd_same)
section
variable {P : Program} {K : Grp} {N : Nat} {w0 : Option World} {StopM : Goroutine → Own → Prop} {base : Nat} {D : GD} {gs gs' : Array Goroutine} {w w' : World} {t u : Trace}
theorem GI.awake (I : GI P K N w0 StopM base D gs w t) : ∀ g ∈ gs, Go.Conc.awake g := by
 intro g hg
 obtain ⟨i, hi, rfl⟩ := Array.mem_iff_getElem.1 hg
 have hx : gs[i]? = some gs[i] := Array.getElem?_eq_getElem hi
 have ofq : D.T.own i = none → Go.Conc.awake gs[i] := fun h => Go.Conc.awake_of ((I.core.quit i _ h hx).status.elim .inl fun x => .inr (.inr x))
 by_cases h0 : i = 0
 ·subst h0
  have h := I.gs0
  rw [hx] at h
  rw [Option.some.inj h]
  cases hb : D.blk with
  | true => exact Go.Conc.awake_of (.inr (.inl rfl))
  | false => exact Go.Conc.awake_of (.inl (runs_status I.runs0))
 ·by_cases h1 : i < base ∨ base + D.m ≤ i
  ·exact ofq (I.others i h0 h1).1
  ·obtain ⟨k, rfl⟩ : ∃ k, i = base + k := ⟨i - base, by omega⟩
   by_cases hl : D.W k = .left
   ·exact ofq (I.left k (by omega) hl)
   ·obtain ⟨S, g, pc, _, h2, h3, _⟩ := I.work k (by omega) hl
    rw [hx] at h2
    rw [Option.some.inj h2]
    exact Go.Conc.awake_of (.inl (runs_status h3))
theorem GI.somebody (I : GI P K N w0 StopM base D gs w t) : ∃ (i : Nat) (g : Goroutine), gs[i]? = some g ∧ g.status = .running := by
 cases hb : D.blk with
 | false => exact ⟨0, D.g, by have := I.gs0; rw [hb] at this; exact this, runs_status I.runs0⟩
 | true =>
  have hph := I.blk0 hb
  have hsm := I.asleep hb
  have hmode := I.mode
  rw [hph] at hmode
  have key : ∀ k, k < D.m → D.W k ≠ .left → ∃ (i : Nat) (g : Goroutine), gs[i]? = some g ∧ g.status = .running := by
   intro k hk hl
   obtain ⟨S, g, pc, _, h2, h3, _⟩ := I.work k hk hl
   exact ⟨_, g, h2, runs_status h3⟩
  rcases hmode with ⟨a1, a2, _⟩ | ⟨j, hj, h, _⟩ | ⟨_, _, a3⟩
  ·have hex : ∃ k, k < D.m ∧ (D.W k).cnt ≠ 0 := by
    refine Classical.byContradiction fun hno => ?_
    have hz : ∀ m, m ≤ D.m → nCnt D.W m = 0 := by
     intro m
     induction m with
     | zero => exact fun _ => rfl
     | succ m ih =>
      intro hm
      rw [nCnt_succ, ih (by omega)]
      have : (D.W m).cnt = 0 := Classical.byContradiction fun h => hno ⟨m, by omega, h⟩
      omega
    have := hz D.m (Nat.le_refl _)
    omega
   obtain ⟨k, hk, hc⟩ := hex
   exact key k hk (by intro e; rw [e] at hc; exact hc rfl)
  ·exact key j hj (by intro e; rw [e] at h; cases h)
  ·rw [hsm] at a3; cases a3
abbrev rk1 : Rk := .sup Unit fun _ => .zero
theorem rk1_below {r : Rk} (h : Rk.Lt r rk1) : r = .zero := by
 generalize he : rk1 = q at h
 cases h with
 | zero f => rfl
 | sub f i => cases he; rfl
theorem Mu.Lt.r0 {D D' : GD} (h : Mu.Lt (D'.mu base) (D.mu base)) : Rk.Lt D'.r0 D.r0 ∨ D'.r0 = D.r0 := by
 have h' : Prod.Lex Rk.Lt (Prod.Lex (· < ·) Down) (D'.r0, nAct D'.W D'.m, ranks (base + D'.m) D'.f ++ List.replicate D'.tok .zero) (D.r0, nAct D.W D.m, ranks (base + D.m) D.f ++ List.replicate D.tok .zero) := h
 rw [Prod.lex_def] at h'
 rcases h' with h | ⟨h, _⟩
 ·exact .inl h
 ·exact .inr h
theorem no_lt_zero {r : Rk} (h : Rk.Lt r .zero) : False := by cases h
theorem GI.walk_aux (hSR : ∀ g S, StopM g S → Runs g) (a : Mu) : ∀ (D : GD) (gs : Array Goroutine) (w : World) (sl : Option (Nat × Nat)) (t : Trace), D.mu base = a → (D.r0 = .zero ∨ D.r0 = rk1) → GI P K N w0 StopM base D gs w t →
  ∃ n gs' w' sl' t', runNT P n (crowd gs w sl) t = (.next (crowd gs' w' sl'), t') ∧
   ((∃ D', GI P K N w0 StopM base D' gs' w' t' ∧ D'.blk = false ∧ StopM D'.g D'.S) ∨ ∃ g' S' Shun B q, StopM g' S' ∧ StandL P N w0 g' S' gs' w' t' Shun B q) := by
 induction a using Mu.wf.induction with
 | _ a ih =>
  intro D gs w sl t hmu hr0 I
  by_cases hdone : D.blk = false ∧ StopM D.g D.S
  ·exact ⟨0, gs, w, sl, t, rfl, .inl ⟨D, I, hdone.1, hdone.2⟩⟩
  obtain ⟨i, g, d, sl1, hi, hg, hst⟩ := crowd_pick (P := P) (w := w) (sl := sl) I.awake I.somebody
  have Id := I.at d
  have cont : ∀ gs' w' ops D', runT P (crowd gs (w.at d) sl1) i = (.next (crowd gs' w' sl1), ops) → GI P K N w0 StopM base D' gs' w' (t ++ ops) → Mu.Lt (D'.mu base) (D.mu base) →
    ∃ n gs' w' sl' t', runNT P n (crowd gs w sl) t = (.next (crowd gs' w' sl'), t') ∧
     ((∃ D', GI P K N w0 StopM base D' gs' w' t' ∧ D'.blk = false ∧ StopM D'.g D'.S) ∨ ∃ g' S' Shun B q, StopM g' S' ∧ StandL P N w0 g' S' gs' w' t' Shun B q) := by
   intro gs' w' ops D' h1 h2 h3
   have hr : D'.r0 = .zero ∨ D'.r0 = rk1 := by
    rcases Mu.Lt.r0 h3 with h | h
    ·rcases hr0 with e | e
     ·rw [e] at h; exact (no_lt_zero h).elim
     ·rw [e] at h; exact .inl (rk1_below h)
    ·rw [h]; exact hr0
   obtain ⟨n, gs2, w2, sl2, t2, h4, h5⟩ := ih _ (by rw [← hmu]; exact h3) D' gs' w' sl1 (t ++ ops) rfl hr h2
   refine ⟨n + 1, gs2, w2, sl2, t2, ?_, h5⟩
   simp only [runNT, hst, h1]
   exact h4
  by_cases h0 : i = 0
  ·subst h0
   have hb : D.blk = false := by
    cases hb : D.blk with
    | false => rfl
    | true =>
     have h := I.gs0
     rw [hb, hi] at h
     rw [Option.some.inj h] at hg
     cases hg
   have hns : ¬ StopM D.g D.S := fun h => hdone ⟨hb, h⟩
   have hgo := Id.goes0
   have hr1 : D.r0 = rk1 := by
    rcases hr0 with e | e
    ·rw [e] at hgo; exact (hns hgo).elim
    ·exact e
   rw [hr1] at hgo
   rcases hgo with h | ⟨hrun, hstep⟩ | ⟨Q, hA, hQ⟩
   ·exact (hns h).elim
   ·obtain ⟨_, g', w', es, S', e1, e2, e3, e4⟩ := hstep (w.at d) (Id.core.inn _ _ Id.own0)
    have hstop : StopM g' S' := e4
    obtain ⟨gs', ops, D', f1, f2, f3⟩ := Id.privM (sl := sl1) hb e1 e2 e3 e4 (hSR _ _ hstop) (by rw [hr1]; exact .zero _)
    exact cont gs' w' ops D' f1 f2 f3
   ·have hQ' : ∀ g' S', Q g' S' → ∃ r', Rk.Lt r' D.r0 ∧ GoesR P ⟨true, ActM P K⟩ StopM r' g' S' := fun g' S' hq => ⟨.zero, by rw [hr1]; exact .zero _, let ⟨_, h⟩ := hQ g' S' hq; h⟩
    rcases Id.actM (sl := sl1) hb hA hQ' with ⟨gs', w', ops, D', f1, f2, f3⟩ | ⟨l, ps, hgh, hgo⟩ | hJ
    ·exact cont gs' w' ops D' f1 f2 f3
    ·have hg0 := Id.gh0
     rw [hgh] at hg0
     injection hg0 with _ el eph eps
     subst el; subst eps
     obtain ⟨g', child, S1, S2, pc, l1, k0, k1, k2, k3, k4, k5, k6, k7, k8, k9, k10, k11, k12, k13⟩ := hgo (w.at d) (Id.core.inn _ _ Id.own0)
     obtain ⟨rc, hrc⟩ := k12.ranked
     obtain ⟨r', hr', hG⟩ := hQ' _ _ k13
     obtain ⟨gs', w', ops, D', f1, f2, f3⟩ := Id.goM (sl := sl1) k0 hb eph.symm k1 k2 k3 k4 k5 k6 k7 k8 k9 k10 k11 hrc hG hr'
     exact cont gs' w' ops D' f1 f2 f3
    ·obtain ⟨gs', ops, g', S', Shun, q, f1, f2, f3⟩ := Id.joinM (sl := sl1) hb hJ
     refine ⟨1, gs', w.at d, sl1, t ++ ops, ?_, .inr ⟨g', S', Shun, _, q, let ⟨_, h⟩ := hQ g' S' f2; h, f3⟩⟩
     simp only [runNT, hst, f1]
  ·by_cases hown : D.T.own i = none
   ·obtain ⟨gs', w', ops, D', f1, f2, f3⟩ := Id.leave (sl := sl1) h0 hi hg hown
    exact cont gs' w' ops D' f1 f2 f3
   ·have hb : ¬ (i < base ∨ base + D.m ≤ i) := fun h => hown (I.others i h0 h).1
    obtain ⟨k, rfl⟩ : ∃ k, i = base + k := ⟨i - base, by omega⟩
    have hk : k < D.m := by omega
    have hl : D.W k ≠ .left := fun h => hown (I.left k hk h)
    obtain ⟨S, x, pc, h1, h2, h3, h4, h5, h6, h7⟩ := Id.work k hk hl
    rw [hi] at h2
    obtain rfl := Option.some.inj h2
    generalize hrk : D.f (base + k) = rk at h7
    cases rk with
    | zero => exact h7.elim
    | sup ι f =>
     rcases h7 with h | ⟨_, hstep⟩ | ⟨Q, hA, hQ⟩
     ·exact h.elim
     ·obtain ⟨j, g', w', es, S', e1, e2, e3, e4⟩ := hstep (w.at d) (Id.core.inn _ _ h1)
      obtain ⟨gs', ops, D', f1, f2, f3, f4⟩ := Id.privW (sl := sl1) hk hl h1 hi h4 h5 h6 e1 e2 e3 e4 (by rw [hrk]; exact .sub f j)
      exact cont gs' w' ops D' f1 f3 f4
     ·obtain ⟨gs', w', ops, D', f1, f2, f3, f4⟩ := Id.actW (sl := sl1) hk hl h1 hi h4 h5 h6 hA fun g' S' hq => by
       obtain ⟨j, hj⟩ := hQ g' S' hq
       exact ⟨f j, by rw [hrk]; exact .sub f j, hj⟩
      exact cont gs' w' ops D' f1 f3 f4
end
def StandT (P : Program) (N : Nat) (w0 : Option World) (g : Goroutine) (S : Own) (gs : Array Goroutine) (w : World) (t : Trace) : Prop :=
 (∃ Shun B q, StandL P N w0 g S gs w t Shun B q) ∨ ∃ K base D, GI P K N w0 (fun _ _ => True) base D gs w t ∧ D.g = g ∧ D.S = S ∧ D.blk = false
def ReachT (P : Program) (N : Nat) (w0 : Option World) (g : Goroutine) (S : Own) (Q : Goroutine → Own → Prop) : Prop :=
 ∀ gs w sl t, StandT P N w0 g S gs w t → ∃ n gs' w' sl' t' g' S', runNT P n (crowd gs w sl) t = (.next (crowd gs' w' sl'), t') ∧ Q g' S' ∧ StandT P N w0 g' S' gs' w' t'
def Co.team (P : Program) (N : Nat) (w0 : Option World) : Co := ⟨true, fun g S Q => Runs g ∧ ReachT P N w0 g S Q⟩
section
variable {P : Program} {N : Nat} {w0 : Option World}
theorem Goes.runsT {Stop : Goroutine → Own → Prop} (hst : ∀ g S, Stop g S → Runs g) {g : Goroutine} {S : Own} (h : Goes P (Co.team P N w0) Stop g S) : Runs g := by
 cases h with
 | stop h => exact hst _ _ h
 | step _ _ _ _ h => exact h
 | big Q h => exact h.1
theorem StandT.walk {K : Grp} {base : Nat} {D : GD} {gs : Array Goroutine} {w : World} {sl : Option (Nat × Nat)} {t : Trace} {StopM : Goroutine → Own → Prop} (hSR : ∀ g S, StopM g S → Runs g) (I : GI P K N w0 (fun _ _ => True) base D gs w t)
  (hG : GoesR P ⟨true, ActM P K⟩ StopM rk1 D.g D.S) : ∃ n gs' w' sl' t' g' S', runNT P n (crowd gs w sl) t = (.next (crowd gs' w' sl'), t') ∧ StopM g' S' ∧ StandT P N w0 g' S' gs' w' t' := by
 have I' : GI P K N w0 StopM base { D with r0 := rk1 } gs w t := { I with goes0 := hG }
 obtain ⟨n, gs', w', sl', t', h1, h2⟩ := GI.walk_aux hSR _ _ gs w sl t rfl (.inr rfl) I'
 rcases h2 with ⟨D', J, hb, hs⟩ | ⟨g', S', Shun, B, q, hs, hst⟩
 ·refine ⟨n, gs', w', sl', t', D'.g, D'.S, h1, hs, .inr ⟨K, base, { D' with r0 := .zero }, { J with goes0 := trivial }, rfl, rfl, hb⟩⟩
 ·exact ⟨n, gs', w', sl', t', g', S', h1, hs, .inl ⟨Shun, B, q, hst⟩⟩
theorem reach_act {K : Grp} {g : Goroutine} {S : Own} {Q : Goroutine → Own → Prop} (hgh : ∃ l ph ps, S.gh = .main K l ph ps) (hQ : ∀ g' S', Q g' S' → Runs g') (h : ActM P K g S Q) : (Co.team P N w0).rel g S Q := by
 refine ⟨h.runs, fun gs w sl t hst => ?_⟩
 obtain ⟨l, ph, ps, hgh⟩ := hgh
 rcases hst with ⟨Shun, B, q, hst⟩ | ⟨K', base, D, I, rfl, rfl, hb⟩
 ·rw [hst.gh] at hgh; cases hgh
 ·have hK := I.gh0
  rw [hgh] at hK
  injection hK with eK
  subst eK
  exact StandT.walk hQ I (.inr (.inr ⟨Q, h, fun g' S' hq => ⟨(), hq⟩⟩))
theorem reachT {Stop : Goroutine → Own → Prop} (hstop : ∀ g S, Stop g S → Runs g) {g : Goroutine} {S : Own} (h : Goes P (Co.team P N w0) Stop g S) : ReachT P N w0 g S Stop := by
 induction h with
 | stop h => exact fun gs w sl t hst => ⟨0, gs, w, sl, t, _, _, rfl, h, hst⟩
 | big Q h1 h2 ih =>
  intro gs w sl t hst
  obtain ⟨n, gs', w', sl', t', g', S', hr, hq, hs⟩ := h1.2 gs w sl t hst
  obtain ⟨n2, gs2, w2, sl2, t2, g2, S2, hr2, hq2, hs2⟩ := ih g' S' hq gs' w' sl' t' hs
  exact ⟨n + n2, gs2, w2, sl2, t2, g2, S2, by rw [runNT_app hr]; exact hr2, hq2, hs2⟩
 | @step g S g' w' es S' hs h1 h2 ih =>
  intro gs w sl t hst
  rcases hst with ⟨Shun, B, q, hst⟩ | ⟨K, base, D, I, eg, eS, hb⟩
  ·
   obtain ⟨n, gs1, sl1, t1, d, q1, hr, hin, hst1, hmid⟩ := lone_step rfl hs h1 gs w sl t Shun B q hst.st
   obtain ⟨n2, gs2, w3, sl2, t2, g2, S2, hr2, hq2, hs2⟩ := ih _ hin gs1 _ sl1 t1 (.inl ⟨Shun, _, q1, hst1, hmid.ghd.trans hst.gh, fun b hb => (hmid.dom b hb).elim (hst.low b) (Nat.le_trans hst.far.1), hst.slow, hst.far.mid hmid hst.low⟩)
   exact ⟨n + n2, gs2, w3, sl2, t2, g2, S2, by rw [runNT_app hr]; exact hr2, hq2, hs2⟩
  ·
   obtain ⟨n, gs1, w1, sl1, t1, g1, S1, hr, ⟨w2, hw2, rfl, rfl⟩, hst1⟩ := StandT.walk (sl := sl) (StopM := fun g2 S2 => ∃ w, S.In w ∧ g2 = g' w ∧ S2 = S' w)
    (fun g2 S2 ⟨w, hw, e, e'⟩ => by rw [e]; exact (h2 w hw).runsT hstop) I (by rw [eg, eS]; exact .inr (.inl ⟨hs, fun w hw => ⟨(), g' w, w' w, es w, S' w, (h1 w hw).1, (h1 w hw).2.1, (h1 w hw).2.2, w, hw, rfl, rfl⟩⟩))
   obtain ⟨n2, gs2, w3, sl2, t2, g2, S2, hr2, hq2, hs2⟩ := ih w2 hw2 gs1 w1 sl1 t1 hst1
   exact ⟨n + n2, gs2, w3, sl2, t2, g2, S2, by rw [runNT_app hr]; exact hr2, hq2, hs2⟩
end
end Mv
namespace Mv
open Go
open Go.Conc
open Go.ConcN (upd upd_ne upd_same)
section
variable {P : Program} {N : Nat} {w0 : Option World}
def Own.but (S : Own) (b : Nat) : Own := { S with full := fun x => if x = b then none else S.full x }
theorem Own.but_part (S : Own) (b : Nat) (hd : ∀ b, (S.full b).isSome → S.ro b = none) (g : Gh) : Part S ((S.but b).as g) where
 f x o h := by simp only [Own.but, Own.as] at h; split at h <;> simp_all
 r x o h := .inr h
 disj x h := hd x (by simp only [Own.but, Own.as] at h; split at h <;> simp_all)
theorem reach_begin {K : Grp} {g : Goroutine} {S : Own} {ns nr : Nat} {Q : Goroutine → Own → Prop} (hr : Runs g) (hW : S.full K.W = some (K.cells 0 0)) (hC : S.full K.C = some (.chan K.cap #[] false ns nr K.tm)) (hgh : S.gh = .none)
  (hne : K.W ≠ K.C) (hQ : Q g (((S.but K.W).but K.C).as (.main K (fun _ => False) (.op false false) []))) : (Co.team P N w0).rel g S Q := by
 refine ⟨hr, fun gs w sl t hst => ?_⟩
 refine ⟨0, gs, w, sl, t, _, _, rfl, hQ, ?_⟩
 rcases hst with ⟨Shun, B, q, hst⟩ | ⟨K', base, D, I, rfl, rfl, hb⟩
 ·right
  have C0 := Core.begin hst.st (N := N) (w0 := w0) hst.low hst.slow hst.far
  have hin := hst.st.inn
  have hpos : 0 < gs.size := (Array.getElem?_eq_some_iff.1 hst.st.h0).1
  have C1 := C0.share (i := 0) (b := K.W) (S := S) (S1 := (S.but K.W).as S.gh) (by simp [Tm.one]) (by simp [hW]) (Own.but_part S K.W hin.disj S.gh) (by simp [Own.but, Own.as]) (hin.disj _ (by simp [hW])) hpos
  have hin1 : ((S.but K.W).as S.gh).In w := C1.inn 0 _ (upd_same (Tm.one S q Shun N w0).own 0 (some ((S.but K.W).as S.gh)))
  have C2 := C1.shelve (b := K.C) (S := (S.but K.W).as S.gh) (S1 := ((S.but K.W).but K.C).as (.main K (fun _ => False) (.op false false) [])) (upd_same (Tm.one S q Shun N w0).own 0 (some ((S.but K.W).as S.gh))) (by simp [Own.but, Own.as, Ne.symm hne, hC])
   (Own.but_part ((S.but K.W).as S.gh) K.C hin1.disj _) (by simp [Own.but, Own.as]) (hin.disj _ (by simp [hC]))
  have hsh0 : ∀ b, (∃ l, inB b l ∧ Shun l) → S.full b = none := fun b hb => (C0.shapart 0 S (by simp [Tm.one]) b hb).1
  have hnW : ¬ ∃ l, inB K.W l ∧ Shun l := fun h => by rw [hsh0 _ h] at hW; cases hW
  have hnC : ¬ ∃ l, inB K.C l ∧ Shun l := fun h => by rw [hsh0 _ h] at hC; cases hC
  have hall : ∀ i, i ≠ 0 → ∀ (x : Own), upd (upd (Tm.one S q Shun N w0).own 0 (some ((S.but K.W).as S.gh))) 0 (some x) i = none := fun i hi x => by
   rw [upd_ne _ _ hi, upd_ne _ _ hi]; simp [Tm.one, hi]
  let T : Tm := { Tm.one S q Shun N w0 with own := upd (upd (Tm.one S q Shun N w0).own 0 (some ((S.but K.W).as S.gh))) 0 (some (((S.but K.W).but K.C).as (.main K (fun _ => False) (.op false false) []))), sh := fun x => ((Tm.one S q Shun N w0).sh x ∨ x = K.W) ∨ x = K.C, usr := fun j x => (Tm.one S q Shun N w0).usr j x ∨ (j = 0 ∧ x = K.W), boss := upd (upd (Tm.one S q Shun N w0).boss K.W 0) K.C 0, calm := fun x => (Tm.one S q Shun N w0).calm x ∨ x = K.C }
  refine ⟨K, gs.size, { T := T, m := 0, W := fun _ => .left, sent := fun _ => [], ps := [], lent := fun _ => False, L := [], r0 := .zero, f := fun i => if i = 0 then .zero else Rk.of (q i), tok := 0, S := ((S.but K.W).but K.C).as (.main K (fun _ => False) (.op false false) []), ph := .op false false, g := g, blk := false, st := 0, sm := 0, ns := ns, nr := nr }, ?_, rfl, rfl, rfl⟩
  exact {
   core := C2
   size := rfl
   pos := hpos
   own0 := upd_same (upd (Tm.one S q Shun N w0).own 0 (some ((S.but K.W).as S.gh))) 0 _
   gh0 := rfl
   gs0 := hst.st.h0
   runs0 := hr
   goes0 := trivial
   f0 := rfl
   blk0 := fun h => (by cases h)
   plen := rfl
   work := fun k hk => absurd hk (Nat.not_lt_zero _)
   left := fun k hk => absurd hk (Nat.not_lt_zero _)
   others := fun i hi _ => ⟨hall i hi _, rfl⟩
   qrank := fun i hi _ _ => (by show (if i = 0 then Rk.zero else Rk.of (q i)) = _; rw [if_neg hi]; rfl)
   rel0 := rfl
   relw := fun k hk => absurd hk (Nat.not_lt_zero _)
   rels := fun k hk => absurd hk (Nat.not_lt_zero _)
   norel := fun op hop a ha => by
    have h1 : ∃ l, inB a.block l ∧ Shun l := ⟨.cell a, rfl, hst.st.norel op hop a ha⟩
    refine ⟨⟨.inl (.inl h1), ?_⟩, fun e => hnW (e ▸ h1)⟩
    rintro (h | h)
    ·exact h
    ·exact hnC (h ▸ h1)
   d0 := rfl
   dW := fun k hk => absurd hk (Nat.not_lt_zero _)
   shW := .inl (.inr rfl)
   shC := .inr rfl
   ne := hne
   usr0 := .inr ⟨rfl, rfl⟩
   usrW := fun k hk => absurd hk (Nat.not_lt_zero _)
   boss := by
    show upd (upd (Tm.one S q Shun N w0).boss K.W 0) K.C 0 K.W = 0
    rw [upd_ne _ _ hne, upd_same]
   wg := hin.full _ _ hW
   ch := by simpa using hin.full _ _ hC
   mode := ⟨fun k hk => absurd hk (Nat.not_lt_zero _), (by simp [nCnt, MPh.pend]), rfl⟩
   msgs := by simp
   bags := fun z => rfl
   place := fun z x hx => (by simp at hx)
   quota := fun k pc hk => absurd hk (Nat.not_lt_zero _)
   quotas := by simp
   few := Nat.zero_le _
   token := fun h => (by cases h)
   calmC := .inr rfl
   calmW := fun h => h.elim (fun h => h) hne
   lw := ⟨rfl, rfl⟩
   lentlow := fun b h => h.elim
   asleep := fun h => (by cases h)
   off := fun h => (by cases h) }
 ·have := I.gh0
  rw [hgh] at this; cases this
theorem Calls.runT {f : FuncId} {args : Array Value} {S : Own} {Post : End → Own → Prop} {w : World} (h : Calls P (Co.team P N (some w)) f args S Post) (hin : P.inits.idxOf? f = none) (hw : S.In w) (hgh : S.gh = .none) (hlow : ∀ b, (S.full b).isSome → N ≤ b) (hN : N ≤ w.heap.size) {Good : Value → World → Prop}
  (hp : ∀ e S' w', Post e S' → FarW N w w' → S'.gh = .none ∧ ∃ v, e = .returned v ∧ Good v w') :
  ∃ M last o w' t', runNT P (M + 1) (Go.Conc.solo (G (Frame.enter P f args .normal) []) w) #[] = (.ended o w', t') ∧ runN P M (Go.Conc.solo (G (Frame.enter P f args .normal) []) w) = .next last ∧
   step P last = .ended o w' ∧ Go.Conc.Good P Good last o w' t' := by
 have hr := reachT (Stop := fun g S' => ∃ x e, g = G x [] ∧ Post e S' ∧ Leaves P f .normal e x S') (fun g S ⟨x, e, hg, _⟩ => by rw [hg]; rfl) (h (fun g S' => ∃ x e, g = G x [] ∧ Post e S' ∧ Leaves P f .normal e x S') .normal [] (by decide) fun x e S' p l => .stop ⟨x, e, rfl, p, l⟩)
 have h0 : Stand P (G (Frame.enter P f args .normal) []) S #[G (Frame.enter P f args .normal) []] w #[] (fun _ => False) 0 (fun _ => 0) :=
  ⟨rfl, Go.Conc.leavers_one _ _, Go.Conc.past_nil, hw, fun _ h => h.elim, fun _ h => h.elim, Nat.zero_le _, fun op h => (by simp at h)⟩
 obtain ⟨n, gs', w', sl', t', g', S', hrun, ⟨x, e, rfl, hpost, hf, hkd, hd, fn, hfn, hl⟩, hs⟩ := hr _ w none _ (.inl ⟨_, _, _, h0, hgh, hlow, fun _ _ _ h => h.elim, hN, fun w0 h => by cases h; exact ⟨fun _ _ => rfl, hN, rfl, rfl, rfl⟩⟩)
 obtain ⟨Shun, B, q, hs⟩ : ∃ Shun B q, StandL P N (some w) (G x []) S' gs' w' t' Shun B q := by
  rcases hs with hs | ⟨K, base, D, I, _, hS, _⟩
  ·exact hs
  ·have h1 := I.gh0
   have h2 := I.core.far
   rw [I.lw.2] at h2
   have h3 := h2.2 w rfl
   rw [I.lw.1] at h3
   rw [hS, (hp e S' w' hpost h3).1] at h1
   cases h1
 have hfar := hs.far.2 w rfl
 obtain ⟨_, v, rfl, hgood⟩ := hp e S' w' hpost hfar
 obtain ⟨hmode, hread⟩ := hl
 have hend : ∀ w1, AtRel w' w1 → Go.Conc.AtEnd P Shun (w'.heap.size) Good (G x []) w1 := by
  rintro w1 ⟨d, rfl⟩
  obtain ⟨_, v', hv, hgood'⟩ := hp _ S' (w'.at d) hpost ⟨hfar.heap, hfar.size, hfar.tape, hfar.os, hfar.output⟩
  obtain rfl := End.returned.inj hv
  obtain ⟨z, w3, es3, hr3, hev3, _, rfl, rfl⟩ := (hread _ (In.at hs.st.inn d)).sound #[]
  have e1 : (results fn x.tmps).run P (w'.at d) = .ok v (w'.at d) := by have := congrArg Prod.fst hr3; simpa [outcome] using this
  have e2 : (results fn x.tmps).events P (w'.at d) #[] = es3 := by have := congrArg Prod.snd hr3; simpa using this
  refine ⟨rfl, v, seen P f es3, ?_, fun e he => ?_, hgood'⟩
  ·simp [stepG, G, hmode, unwind, hd, hf, hfn, e1, e2, doReturn, hkd, hin, GStep.after]
  ·obtain ⟨k1, k2⟩ := hev3 e (mem_seen he)
   exact ev_evL (N := w'.heap.size) hs.st.cell hs.st.obj k1 k2
 obtain ⟨N2, last, o, w'', t'', e1, e2, e3, e4⟩ := Go.Conc.beside_ends (P := P) (Shun := Shun) (B := w'.heap.size) (D := fun _ _ _ => False) (Post := Good) (n := 0) (sl := sl') (fun _ _ _ h => h.elim) hs.st.h0 hs.st.lv (hs.st.past.mono hs.st.low) hend
 rw [Go.Conc.solo_eq_crowd]
 refine ⟨n + N2, last, o, w'', t'', ?_, ?_, e3, e4⟩
 ·rw [Nat.add_assoc, runNT_app hrun]; exact e1
 ·rw [runN_add, ← runNT_fst P _ _ #[], hrun]; exact e2
end
end Mv
namespace Mx
open Go Go.Conc Go.ConcN Go.RowKit Go.Conc.Lib Go.ConcR.Gen
open Go.ConcR (KK wgBlock WgAt stA smA rd wr mk DC0)
def Live (ty : TypeId) (Wg : Nat) (w w₁ : World) : Prop := WgLive ty Wg w → WgLive ty Wg w₁
theorem kn {ty : TypeId} {Wg : Nat} {w w₁ : World} (h : WgLive ty Wg w) (r : Live ty Wg w w₁) : WgLive ty Wg w₁ := r h
section
variable {P : Program} {co : Mv.Co} {K : Mv.Grp} {S : Mv.Own} {Stop : Goroutine → Mv.Own → Prop}
def Ahead (P : Program) (co : Mv.Co) (S : Mv.Own) (Stop : Goroutine → Mv.Own → Prop) (g : Goroutine) (_ : World) : Prop := g.status = .running ∧ Mv.Goes P co Stop g S
def Looks (P : Program) (co : Mv.Co) (K : Mv.Grp) (S : Mv.Own) : Prop :=
 ∀ (g : Goroutine) (Q : Goroutine → Mv.Own → Prop), g.status = .running → (∀ g' S', Q g' S' → g'.status = .running) → (∀ (w : World) (st sm : Int), S.In w → K.at w st sm → ∃ g', stepG P co.m g w = .go g' w #[] ∧ g'.status = .running ∧ Q g' S) → co.rel g S Q
def Walks (P : Program) (co : Mv.Co) (K : Mv.Grp) (S : Mv.Own) (Stop : Goroutine → Mv.Own → Prop) (g : Goroutine) : Prop :=
 g.status = .running ∧ ∀ w, WgLive K.ty K.W w → ∃ n, Go.Conc.Goes P co.m (Live K.ty K.W) DC0 (Ahead P co S Stop) n g w
theorem goes_run {n : Nat} {g : Goroutine} {w : World} (h : Go.Conc.Goes P co.m (Live K.ty K.W) DC0 (Ahead P co S Stop) n g w) : g.status = .running := by
 cases n with
 | zero => exact (h w id).1
 | succ n =>
  rcases h with h | h
  ·exact (h w id).1
  ·exact h.1
theorem of_walk (hl : Looks P co K S) : ∀ (n : Nat) (g : Goroutine) (w : World), WgLive K.ty K.W w → Go.Conc.Goes P co.m (Live K.ty K.W) DC0 (Ahead P co S Stop) n g w → Mv.Goes P co Stop g S := by
 intro n
 induction n with
 | zero => exact fun g w _ h => (h w id).2
 | succ n ih =>
  intro g w hw h
  rcases h with h | ⟨hs, h⟩
  ·exact (h w id).2
  ·refine .big (fun g' S' => S' = S ∧ g'.status = .running ∧ ∃ w1, WgLive K.ty K.W w1 ∧ Go.Conc.Goes P co.m (Live K.ty K.W) DC0 (Ahead P co S Stop) n g' w1) (hl g _ hs (fun g' S' h => h.2.1) fun w1 st sm _ hat => ?_) ?_
   ·have h1 := h w1 fun _ => ⟨st, sm, hat⟩
    cases hst : stepG P co.m g w1 <;> rw [hst] at h1 <;> simp only [GStep.goes] at h1 <;> try exact h1.elim
    obtain ⟨⟨rfl, rfl⟩, h2⟩ := h1
    exact ⟨_, rfl, goes_run h2, rfl, goes_run h2, _, ⟨st, sm, hat⟩, h2⟩
   ·rintro g' S' ⟨rfl, _, w1, hw1, h2⟩
    exact ih g' w1 hw1 h2
theorem Walks.goes (hl : Looks P co K S) {g : Goroutine} (h : Walks P co K S Stop g) : Mv.Goes P co Stop g S := by
 classical
 by_cases hex : ∃ w, WgLive K.ty K.W w
 ·obtain ⟨w, hw⟩ := hex
  obtain ⟨n, hn⟩ := h.2 w hw
  exact of_walk hl n g w hw hn
 ·refine .big (fun _ _ => False) (hl g _ h.1 (fun _ _ h => h.elim) fun w st sm _ hat => absurd ⟨w, st, sm, hat⟩ hex) fun _ _ h => h.elim
end
theorem reads_none {P : Program} {S : Mv.Own} {fn : Func} {tmps : Array Value} (h : fn.results = #[]) : Mv.Reads P S (results fn tmps) (.tuple #[]) := by
 unfold results
 rw [h]
 exact Mv.Reads.bind (x := #[]) (by simp only [Array.mapM_empty]; exact Mv.Reads.pure) Mv.Reads.pure
theorem quits_more {P : Program} : ∀ {n d : Nat} {g : Goroutine}, QuitsD P n d g → QuitsD P (n + 1) d g
 | 0, _, _, h => .inl h
 | n + 1, _, _, h => by
  rcases h with h | ⟨h1, g', es, h2, h3, h4⟩
  ·exact .inl h
  ·exact .inr ⟨h1, g', es, h2, h3, quits_more h4⟩
theorem quits_le {P : Program} {n m d : Nat} {g : Goroutine} (h : QuitsD P n d g) (hm : n ≤ m) : QuitsD P m d g := by
 induction hm with
 | refl => exact h
 | step _ ih => exact quits_more ih
section
variable {P : Program} {N : Nat} {w0 : Option World} {K : Mv.Grp} {S : Mv.Own} {Stop : Goroutine → Mv.Own → Prop}
def Boss (K : Mv.Grp) (_ : Nat) (_ : Option World) (S : Mv.Own) : Prop := ∃ l ph ps, S.gh = .main K l ph ps
theorem Boss.looks (hb : Boss K N w0 S) : Looks P (Mv.Co.team P N w0) K S := fun _ _ hs hq h =>
 Mv.reach_act hb hq (.look hs h)
theorem boss_act (hb : Boss K N w0 S) {g : Goroutine} {Q : Goroutine → Mv.Own → Prop} (h : Mv.ActM P K g S fun g' S' => g'.status = .running ∧ Q g' S') (hQ : ∀ g' S', g'.status = .running → Q g' S' → Mv.Goes P (Mv.Co.team P N w0) Stop g' S') (w : World) :
  Ahead P (Mv.Co.team P N w0) S Stop g w := ⟨h.runs, .big _ (Mv.reach_act hb (fun _ _ h => h.1) h) fun g' S' hq => hQ g' S' hq.1 hq.2⟩
theorem Boss.as (_hb : Boss K N w0 S) (l : Nat → Prop) (ph : Mv.MPh) (ps : List Mv.Pact) : Boss K N w0 (S.as (.main K l ph ps)) := ⟨l, ph, ps, rfl⟩
variable {l : Nat → Prop} {ps : List Mv.Pact} {g : Goroutine} {w : World}
theorem stop_dis (hb : Boss K N w0 S) (hgh : S.gh = .main K l (.op false false) ps) {g' : Goroutine} (hs : g.status = .running) (h : ∀ w, stepG P true g w = .go g' w #[mk .disable]) (hn : Walks P (Mv.Co.team P N w0) K (S.as (.main K l (.op true false) ps)) Stop g') : Ahead P (Mv.Co.team P N w0) S Stop g w :=
 boss_act (Q := fun g2 S2 => g2 = g' ∧ S2 = S.as (.main K l (.op true false) ps)) hb (.dis hs hgh fun w _ => ⟨g', h w, hn.1, hn.1, rfl, rfl⟩) (fun _ _ _ ⟨e1, e2⟩ => by subst e1; subst e2; exact hn.goes (hb.as _ _ _).looks) w
theorem stop_add (hb : Boss K N w0 S) (hgh : S.gh = .main K l (.op true false) ps) (hs : g.status = .running)
  (h : ∀ (w : World) (v : Nat), v ≤ ps.length → WgAt K.ty K.W w (v * KK) 0 → ∃ g', stepG P true g w = .go g' (w.setCell (stA K.W) (.int .u64 ((v + 1 : Nat) * KK))) #[rd (stA K.W), wr (stA K.W)] ∧ Walks P (Mv.Co.team P N w0) K (S.as (.main K l (.op true true) ps)) Stop g') : Ahead P (Mv.Co.team P N w0) S Stop g w :=
 boss_act (Q := fun g2 S2 => Walks P (Mv.Co.team P N w0) K (S.as (.main K l (.op true true) ps)) Stop g2 ∧ S2 = S.as (.main K l (.op true true) ps)) hb
  (.add hs hgh fun w v _ hv hat => by obtain ⟨g', h1, h2⟩ := h w v hv hat; exact ⟨g', h1, h2.1, h2.1, h2, rfl⟩) (fun _ _ _ ⟨e1, e2⟩ => by subst e2; exact e1.goes (hb.as _ _ _).looks) w
theorem stop_said (hb : Boss K N w0 S) {g' : Goroutine} {e : Event} (he : e = mk (.read (smA K.W)) ∨ e = mk (.write (smA K.W))) (hs : g.status = .running) (h : ∀ w, stepG P true g w = .go g' w #[e]) (hn : Walks P (Mv.Co.team P N w0) K S Stop g') : Ahead P (Mv.Co.team P N w0) S Stop g w :=
 boss_act (Q := fun g2 S2 => g2 = g' ∧ S2 = S) hb (.said hs he fun w _ => ⟨g', h w, hn.1, hn.1, rfl, rfl⟩) (fun _ _ _ ⟨e1, e2⟩ => by subst e1; subst e2; exact hn.goes hb.looks) w
theorem stop_ena (hb : Boss K N w0 S) (hgh : S.gh = .main K l (.op true true) ps) {g' : Goroutine} (hs : g.status = .running) (h : ∀ w, stepG P true g w = .go g' w #[mk .enable]) (hg' : g'.status = .running) (hn : Mv.Goes P (Mv.Co.team P N w0) Stop g' (S.as (.main K l (.op false true) ps))) : Ahead P (Mv.Co.team P N w0) S Stop g w :=
 boss_act (Q := fun g2 S2 => g2 = g' ∧ S2 = S.as (.main K l (.op false true) ps)) hb (.ena hs hgh fun w _ => ⟨g', h w, hg', hg', rfl, rfl⟩) (fun _ _ _ ⟨e1, e2⟩ => by subst e1; subst e2; exact hn) w
end
end Mx
namespace Mx
open Go Go.Conc Go.ConcN Go.RowKit Go.Conc.Lib Go.ConcR.Gen Go.ConcN.Gen
open Go.ConcR (KK wgBlock WgAt stA smA rd wr mk DC0)
variable {L : WgLink} {P : Program} {N : Nat} {w0 : Option World} {K : Mv.Grp} {S : Mv.Own} {l : Nat → Prop} {ps : List Mv.Pact}
set_option maxRecDepth 100000 in
set_option maxHeartbeats 8000000 in
theorem add_walk (H : WgLib P L) (hty : K.ty = L.tWg) (hb : Boss K N w0 S) (hgh : S.gh = .main K l (.op false false) ps) (hps : ps.length < 1000000) {Stop : Goroutine → Mv.Own → Prop} {kind : CallKind} {cs : List Frame} (hkd : (Mv.base L.add kind).kind ≠ .early)
  (hk : ∀ x e S', (e = Mv.End.returned (.tuple #[]) ∧ S' = S.as (.main K l (.op false true) ps)) → Mv.Leaves P L.add kind e x S' → Mv.Goes P (Mv.Co.team P N w0) Stop (Mv.G x cs) S') :
  Walks P (Mv.Co.team P N w0) K S Stop (G (Frame.enter P L.add #[.pointer (some ⟨K.W, 0, none⟩), .int .i64 1] kind) cs) := by
 refine ⟨rfl, fun w hK => ⟨200, ?_⟩⟩
 rw [Mv.enter_eq (cm := none) H.f_add rfl]
 show Goes _ _ _ _ _ _ (G ((Mv.base L.add kind).at ⟨_, []⟩ _) cs) w
 rw [hty] at hK ⊢
 lib_facts
 simp only [Mv.entry]
 walk_nrmf addFn
 u_c stepG_seq kn hK
 u_cond true kn hK
 u_c stepG_seq kn hK
 u_c stepG_seq kn hK
 u_reg kn hK
 u_op kn hK
 u_op kn hK
 u_c stepG_region_end kn hK
 u_cond false kn hK
 u_c stepG_skip kn hK
 u_c stepG_seq kn hK
 u_reg kn hK
 refine Goes.stop (fun w₁ _ => stop_dis hb hgh rfl (fun w => stepG_mark0 .disable (by simp) rfl rfl (by k_ne) rfl H.f_disable (x_disable_n L) (x_disable_b L) (x_disable_x L) (x_disable_f L)) ⟨rfl, fun w hK => ⟨200, ?_⟩⟩)
 rw [hty] at hK ⊢
 walk_nrm
 u_c stepG_region_end kn hK
 u_reg kn hK
 u_defer kn hK
 u_c stepG_region_end kn hK
 u_c stepG_seq kn hK
 u_reg kn hK
 u_op kn hK
 u_c stepG_region_end kn hK
 u_c stepG_seq kn hK
 u_c stepG_seq kn hK
 u_reg kn hK
 u_bub kn hK
 u_c stepG_region_end kn hK
 u_cond false kn hK
 u_c stepG_skip kn hK
 u_c stepG_seq kn hK
 u_reg kn hK
 u_op kn hK
 u_op kn hK
 u_op kn hK
 u_op kn hK
 u_op kn hK
 u_op kn hK
 u_call H.f_uAdd (nm_uAdd L) uAddFn kn hK
 u_c stepG_seq kn hK
 u_reg kn hK
 u_op kn hK
 u_c stepG_region_end kn hK
 u_c stepG_seq kn hK
 u_reg kn hK
 u_op kn hK
 u_op kn hK
 u_op kn hK
 u_op kn hK
 refine Goes.stop (fun w₁ _ => stop_add (hb.as _ _ _) rfl rfl fun w₂ v hv hw => ?_)
 rw [hty] at hw
 have fin : ∀ (x : Frame), x.fn = L.add → x.kind = kind → x.defers = [] → x.mode = .returning → Mv.Goes P (Mv.Co.team P N w0) Stop (Mv.G x cs) (S.as (.main K l (.op false true) ps)) :=
  fun x h1 h2 h3 h4 => hk x _ _ ⟨rfl, rfl⟩ ⟨h1, h2, h3, _, H.f_add, h4, reads_none rfl⟩
 rcases Nat.eq_zero_or_pos v with rfl | hvp
 ·have hw' : WgAt L.tWg K.W w₂ 0 0 := by simpa using hw
  have z : ((0 + 1 : Nat) : Int) * KK = 4294967296 := by decide
  rw [z]
  have e0 : IntKind.u64.wrap (0 + 4294967296) = 4294967296 := by decide
  refine ⟨_, (stepG_add_atomic rfl rfl (by k_ne) rfl H.f_addU64 (x_addU64_n L) (x_addU64_b L) (x_addU64_x L) .u64 (x_addU64_f L) rfl rfl hw'.cellSt (hw'.thaw 0)).trans (by rw [e0]; rfl), rfl, fun w hK => ⟨200, ?_⟩⟩
  rw [hty] at hK ⊢
  clear hw hw' e0 z
  walk_nrm
  u_op kn hK
  u_c stepG_region_end kn hK
  u_c stepG_ret' kn hK
  u_leave1 H.f_uAdd kn hK
  u_op kn hK
  u_c stepG_region_end kn hK
  u_c stepG_seq kn hK
  u_c stepG_seq kn hK
  u_reg kn hK
  u_op kn hK
  u_op kn hK
  u_op kn hK
  u_op kn hK
  u_skip kn hK
  u_skip kn hK
  u_op kn hK
  u_c stepG_region_end kn hK
  u_cond false kn hK
  u_c stepG_skip kn hK
  u_c stepG_seq kn hK
  u_reg kn hK
  u_op kn hK
  u_op kn hK
  u_op kn hK
  u_op kn hK
  u_c stepG_region_end kn hK
  u_c stepG_seq kn hK
  u_reg kn hK
  u_op kn hK
  u_op kn hK
  u_op kn hK
  u_op kn hK
  u_c stepG_region_end kn hK
  u_c stepG_seq kn hK
  u_c stepG_seq kn hK
  u_reg kn hK
  u_op kn hK
  u_op kn hK
  u_op kn hK
  u_op kn hK
  u_op kn hK
  u_op kn hK
  u_op kn hK
  u_op kn hK
  u_op kn hK
  u_op kn hK
  u_c stepG_region_end kn hK
  u_cond true kn hK
  u_reg kn hK
  u_op kn hK
  u_op kn hK
  u_op kn hK
  u_conv H.underlying_tPU32 H.room_tU32 (WgLive.cell1 hK).choose_spec kn hK
  refine Goes.stop (fun w₁ _ => stop_said (hb.as _ _ _) (.inl rfl) rfl (fun w => stepG_markAt .read (by simp) rfl rfl (by k_ne) rfl H.f_raceRead (x_raceRead_n L) (x_raceRead_b L) (x_raceRead_x L) (x_raceRead_f L) (ad := ⟨K.W, 1, none⟩) (by simp [Act.eval])) ⟨rfl, fun w hK => ⟨200, ?_⟩⟩)
  rw [hty] at hK ⊢
  walk_nrm
  u_c stepG_region_end kn hK
  u_c stepG_seq kn hK
  u_c stepG_seq kn hK
  u_reg kn hK
  u_op kn hK
  u_op kn hK
  u_c stepG_region_end kn hK
  u_cond false kn hK
  u_c stepG_skip kn hK
  u_c stepG_seq kn hK
  u_c stepG_seq kn hK
  u_reg kn hK
  u_op kn hK
  u_op kn hK
  u_op kn hK
  u_skip kn hK
  u_skip kn hK
  u_op kn hK
  u_op kn hK
  u_skip kn hK
  u_skip kn hK
  u_skip kn hK
  u_skip kn hK
  u_op kn hK
  u_c stepG_region_end kn hK
  u_cond false kn hK
  u_c stepG_skip kn hK
  u_c stepG_seq kn hK
  u_c stepG_seq kn hK
  u_reg kn hK
  u_op kn hK
  u_op kn hK
  u_op kn hK
  u_skip kn hK
  u_skip kn hK
  u_op kn hK
  u_c stepG_region_end kn hK
  u_cond true kn hK
  u_c stepG_ret' kn hK
  refine Goes.stop (fun w₁ _ => stop_ena (hb.as _ _ _) rfl rfl (fun w => stepG_unwind_entry (v := .tuple #[]) (evs := #[mk .enable]) rfl H.f_enable (x_enable_n L) (x_enable_b L) (x_enable_x L) (x_enable_f L) (by simp [Extern.Race.none_]) (by simp [mk]) (by simp [mk])) rfl (fin _ rfl rfl rfl rfl))
 ·obtain ⟨V, hV⟩ : ∃ V : Int, V = ((v + 1 : Nat) : Int) := ⟨_, rfl⟩
  obtain ⟨X, hX⟩ : ∃ X : Int, X = V * KK := ⟨_, rfl⟩
  have eS : IntKind.u64.wrap ((v : Int) * KK + 4294967296) = X := by rw [IntKind.wrap_u64, hX, hV]; simp only [KK]; omega
  rw [← hV, ← hX]
  have a1 : X / 4294967296 = V := by rw [hX]; simp only [KK]; omega
  have b1 : bits .and .u64 X 2147483648 = 0 := by rw [hX, hV]; have := st_flag (v + 1) 0 (by omega) (by omega); simpa [KK] using this
  have b2 : bits .and .u64 X 2147483647 = 0 := by rw [hX, hV]; have := st_waiters (v + 1) 0 (by omega) (by omega); simpa [KK] using this
  have c1 : IntKind.i32.wrap V = V := by rw [IntKind.wrap_i32]; omega
  have hV1 : 1 < V := by omega
  have hV2 : V < 2147483648 := by omega
  have q1 : (V == 1) = false := by simp; omega
  have q2 : decide (V = 1) = false := decide_eq_false (by omega)
  have q3 : decide (V < 0) = false := decide_eq_false (by omega)
  have q4 : decide (0 < V) = true := decide_eq_true (by omega)
  have q5 : (V == 0) = false := by simp; omega
  have q6 : decide (V = 0) = false := decide_eq_false (by omega)
  refine ⟨_, (stepG_add_atomic rfl rfl (by k_ne) rfl H.f_addU64 (x_addU64_n L) (x_addU64_b L) (x_addU64_x L) .u64 (x_addU64_f L) rfl rfl hw.cellSt (hw.thaw 0)).trans (by rw [eS]; rfl), rfl, fun w hK => ⟨200, ?_⟩⟩
  rw [hty] at hK ⊢
  clear hw hX hV eS
  walk_nrm
  u_op kn hK
  u_c stepG_region_end kn hK
  u_c stepG_ret' kn hK
  u_leave1 H.f_uAdd kn hK
  u_op kn hK
  u_c stepG_region_end kn hK
  u_c stepG_seq kn hK
  u_c stepG_seq kn hK
  u_reg kn hK
  u_op kn hK
  u_op kn hK
  u_op kn hK
  u_op kn hK
  u_skip kn hK
  u_skip kn hK
  u_op kn hK
  u_c stepG_region_end kn hK
  u_cnd false kn hK
  u_c stepG_skip kn hK
  u_c stepG_seq kn hK
  u_reg kn hK
  u_op kn hK
  u_op kn hK
  u_op kn hK
  u_op kn hK
  u_c stepG_region_end kn hK
  u_c stepG_seq kn hK
  u_reg kn hK
  u_op kn hK
  u_op kn hK
  u_op kn hK
  u_op kn hK
  u_c stepG_region_end kn hK
  u_c stepG_seq kn hK
  u_c stepG_seq kn hK
  u_reg kn hK
  u_op kn hK
  u_op kn hK
  u_op kn hK
  u_op kn hK
  u_op kn hK
  u_op kn hK
  u_op kn hK
  u_op kn hK
  u_op kn hK
  u_op kn hK
  u_c stepG_region_end kn hK
  u_cnd false kn hK
  u_c stepG_skip kn hK
  u_c stepG_seq kn hK
  u_c stepG_seq kn hK
  u_reg kn hK
  u_op kn hK
  u_op kn hK
  u_c stepG_region_end kn hK
  u_cnd false kn hK
  u_c stepG_skip kn hK
  u_c stepG_seq kn hK
  u_c stepG_seq kn hK
  u_reg kn hK
  u_op kn hK
  u_op kn hK
  u_op kn hK
  u_skip kn hK
  u_skip kn hK
  u_op kn hK
  u_op kn hK
  u_skip kn hK
  u_skip kn hK
  u_skip kn hK
  u_skip kn hK
  u_op kn hK
  u_c stepG_region_end kn hK
  u_cnd false kn hK
  u_c stepG_skip kn hK
  u_c stepG_seq kn hK
  u_c stepG_seq kn hK
  u_reg kn hK
  u_op kn hK
  u_op kn hK
  u_op kn hK
  u_skip kn hK
  u_skip kn hK
  u_op kn hK
  u_c stepG_region_end kn hK
  u_cond true kn hK
  u_c stepG_ret' kn hK
  refine Goes.stop (fun w₁ _ => stop_ena (hb.as _ _ _) rfl rfl (fun w => stepG_unwind_entry (v := .tuple #[]) (evs := #[mk .enable]) rfl H.f_enable (x_enable_n L) (x_enable_b L) (x_enable_x L) (x_enable_f L) (by simp [Extern.Race.none_]) (by simp [mk]) (by simp [mk])) rfl (fin _ rfl rfl rfl rfl))
theorem calls_add (H : WgLib P L) (hty : K.ty = L.tWg) (hb : Boss K N w0 S) (hgh : S.gh = .main K l (.op false false) ps) (hps : ps.length < 1000000) :
  Mv.Calls P (Mv.Co.team P N w0) L.add #[.pointer (some ⟨K.W, 0, none⟩), .int .i64 1] S fun e S' => e = .returned (.tuple #[]) ∧ S' = S.as (.main K l (.op false true) ps) :=
 fun _ _ _ hne hk => (add_walk H hty hb hgh hps hne hk).goes hb.looks
end Mx
namespace Mx
open Go Go.Conc Go.ConcN Go.RowKit Go.Conc.Lib Go.ConcR.Gen Go.ConcN.Gen
open Go.ConcR (KK wgBlock WgAt stA smA rd wr mk DC0)
section
variable {P : Program} {N : Nat} {w0 : Option World} {K : Mv.Grp} {S : Mv.Own} {Stop : Goroutine → Mv.Own → Prop} {l : Nat → Prop} {ps : List Mv.Pact} {g : Goroutine} {w : World}
theorem stop_load (hb : Boss K N w0 S) {n : Nat} (hn : (S.gh = .main K l (.op true false) ps ∧ n = ps.length + 1) ∨ S.gh = .main K l (.again n) ps) (hs : g.status = .running)
  (h : ∀ (w : World) (v : Nat), v < n → WgAt K.ty K.W w (v * KK) 0 → ∃ g', stepG P true g w = .go g' w #[rd (stA K.W)] ∧ (v = 0 → Walks P (Mv.Co.team P N w0) K (S.as (.main K l (.out true) ps)) Stop g') ∧ (v ≠ 0 → Walks P (Mv.Co.team P N w0) K (S.as (.main K l (.saw v) ps)) Stop g')) : Ahead P (Mv.Co.team P N w0) S Stop g w := by
 have key : ∀ (w : World) (v : Nat), v < n → K.at w (v * Mv.gK) 0 → ∃ g', stepG P true g w = .go g' w #[Mv.eR K.st] ∧ Mv.Runs g' ∧ (v = 0 → g'.status = .running ∧ (∃ ph, Walks P (Mv.Co.team P N w0) K (S.as (.main K l ph ps)) Stop g' ∧ S.as (.main K l (.out true) ps) = S.as (.main K l ph ps))) ∧ (v ≠ 0 → g'.status = .running ∧ (∃ ph, Walks P (Mv.Co.team P N w0) K (S.as (.main K l ph ps)) Stop g' ∧ S.as (.main K l (.saw v) ps) = S.as (.main K l ph ps))) := by
  intro w v hv hat
  obtain ⟨g', h1, h2, h3⟩ := h w v hv hat
  refine ⟨g', h1, ?_, fun e => ⟨(h2 e).1, _, h2 e, rfl⟩, fun e => ⟨(h3 e).1, _, h3 e, rfl⟩⟩
  by_cases e : v = 0
  ·exact (h2 e).1
  ·exact (h3 e).1
 have fin : ∀ g' S', g'.status = .running → (∃ ph, Walks P (Mv.Co.team P N w0) K (S.as (.main K l ph ps)) Stop g' ∧ S' = S.as (.main K l ph ps)) → Mv.Goes P (Mv.Co.team P N w0) Stop g' S' := by
  rintro g' S' _ ⟨ph, e1, rfl⟩
  exact e1.goes (hb.as _ _ _).looks
 rcases hn with ⟨hgh, rfl⟩ | hgh
 ·exact boss_act (Q := fun g2 S2 => ∃ ph, Walks P (Mv.Co.team P N w0) K (S.as (.main K l ph ps)) Stop g2 ∧ S2 = S.as (.main K l ph ps)) hb (.load hs hgh fun w v _ hv hat => key w v (by omega) hat) fin w
 ·exact boss_act (Q := fun g2 S2 => ∃ ph, Walks P (Mv.Co.team P N w0) K (S.as (.main K l ph ps)) Stop g2 ∧ S2 = S.as (.main K l ph ps)) hb (.load2 hs hgh fun w v _ hv hat => key w v hv hat) fin w
theorem stop_cas (hb : Boss K N w0 S) {vs : Nat} (hgh : S.gh = .main K l (.saw vs) ps) (hs : g.status = .running)
  (h : ∀ (w : World) (v : Nat), v ≤ vs → WgAt K.ty K.W w (v * KK) 0 →
   (v = vs → ∃ g', stepG P true g w = .go g' (w.setCell (stA K.W) (.int .u64 (v * KK + 1))) #[rd (stA K.W), wr (stA K.W)] ∧ Walks P (Mv.Co.team P N w0) K (S.as (.main K l .reg ps)) Stop g') ∧
   (v ≠ vs → ∃ g', stepG P true g w = .go g' w #[rd (stA K.W)] ∧ Walks P (Mv.Co.team P N w0) K (S.as (.main K l (.again vs) ps)) Stop g')) : Ahead P (Mv.Co.team P N w0) S Stop g w :=
 boss_act (Q := fun g2 S2 => ∃ ph, Walks P (Mv.Co.team P N w0) K (S.as (.main K l ph ps)) Stop g2 ∧ S2 = S.as (.main K l ph ps)) hb
  (.cas hs hgh fun w v _ hv hat => ⟨fun e => by obtain ⟨g', h1, h2⟩ := (h w v hv hat).1 e; exact ⟨g', h1, h2.1, h2.1, _, h2, rfl⟩, fun e => by obtain ⟨g', h1, h2⟩ := (h w v hv hat).2 e; exact ⟨g', h1, h2.1, h2.1, _, h2, rfl⟩⟩)
  (by rintro g' S' _ ⟨ph, e1, rfl⟩; exact e1.goes (hb.as _ _ _).looks) w
theorem stop_acq (hb : Boss K N w0 S) (hgh : S.gh = .main K l .reg ps) (hs : g.status = .running) (ho : g.offers = none)
  (h1 : ∀ (w : World) (st : Int), WgAt K.ty K.W w st 0 → stepG P true g w = .go { g with status := .blocked } w #[])
  (h : ∀ w, WgAt K.ty K.W w 0 1 → ∃ g', stepG P true g w = .go g' (w.setCell (smA K.W) (.int .u32 0)) (semEvents (smA K.W)) ∧ Walks P (Mv.Co.team P N w0) K (S.as (.main K l .got ps)) Stop g') : Ahead P (Mv.Co.team P N w0) S Stop g w :=
 boss_act (Q := fun g2 S2 => ∃ ph, Walks P (Mv.Co.team P N w0) K (S.as (.main K l ph ps)) Stop g2 ∧ S2 = S.as (.main K l ph ps)) hb
  (.acq hs ho hgh (fun w st _ hat => h1 w st hat) fun w _ hat => by obtain ⟨g', h1, h2⟩ := h w hat; exact ⟨g', h1, h2.1, h2.1, _, h2, rfl⟩)
  (by rintro g' S' _ ⟨ph, e1, rfl⟩; exact e1.goes (hb.as _ _ _).looks) w
theorem stop_got (hb : Boss K N w0 S) (hgh : S.gh = .main K l .got ps) (hs : g.status = .running)
  (h : ∀ w, WgAt K.ty K.W w 0 0 → ∃ g', stepG P true g w = .go g' w #[rd (stA K.W)] ∧ Walks P (Mv.Co.team P N w0) K (S.as (.main K l (.out true) ps)) Stop g') : Ahead P (Mv.Co.team P N w0) S Stop g w :=
 boss_act (Q := fun g2 S2 => ∃ ph, Walks P (Mv.Co.team P N w0) K (S.as (.main K l ph ps)) Stop g2 ∧ S2 = S.as (.main K l ph ps)) hb
  (.got hs hgh fun w _ hat => by obtain ⟨g', h1, h2⟩ := h w hat; exact ⟨g', h1, h2.1, h2.1, _, h2, rfl⟩)
  (by rintro g' S' _ ⟨ph, e1, rfl⟩; exact e1.goes (hb.as _ _ _).looks) w
theorem stop_ena2 (hb : Boss K N w0 S) (hgh : S.gh = .main K l (.out true) ps) {g' : Goroutine} (hs : g.status = .running) (h : ∀ w, stepG P true g w = .go g' w #[mk .enable]) (hn : Walks P (Mv.Co.team P N w0) K (S.as (.main K l (.out false) ps)) Stop g') : Ahead P (Mv.Co.team P N w0) S Stop g w :=
 boss_act (Q := fun g2 S2 => g2 = g' ∧ S2 = S.as (.main K l (.out false) ps)) hb (.ena2 hs hgh fun w _ => ⟨g', h w, hn.1, hn.1, rfl, rfl⟩) (fun _ _ _ ⟨e1, e2⟩ => by subst e1; subst e2; exact hn.goes (hb.as _ _ _).looks) w
def Homes (K : Mv.Grp) (l : Nat → Prop) (ps : List Mv.Pact) (S : Mv.Own) (Post : Mv.Own → Prop) : Prop :=
 ∀ (sents : List (List Mv.Msg)) (L : List Mv.Msg) (ns nr : Nat), sents.length = ps.length → (∀ (k : Nat) (pc : Mv.Pact) (ms : List Mv.Msg), ps[k]? = some pc → sents[k]? = some ms → pc.ok ms) → L.Perm sents.flatten →
  (∀ m ∈ L, ∀ b, (m.2 b).isSome → S.full b = none ∧ S.ro b = none ∧ b ≠ K.C) → L.Pairwise (fun m m' => ∀ b, (m.2 b).isSome → m'.2 b = none) → (S.full K.C = none ∧ S.ro K.C = none) →
  ∃ S', Mv.Home K l S L ns nr S' ∧ Post S'
theorem Homes.as {Post : Mv.Own → Prop} (h : Homes K l ps S Post) (gh : Mv.Gh) : Homes K l ps (S.as gh) Post := by
 intro sents L ns nr h1 h2 h3 h4 h5 h6
 obtain ⟨S', hH, hp⟩ := h sents L ns nr h1 h2 h3 h4 h5 h6
 exact ⟨S', ⟨hH.full, hH.ro, hH.disj, hH.gh⟩, hp⟩
def Any (_ _ : World) : Prop := True
theorem knQ {w w₁ : World} (_ : True) (_ : Any w w₁) : True := trivial
theorem of_walkQ {co : Mv.Co} : ∀ (n : Nat) (g : Goroutine) (w : World), Go.Conc.Goes P co.m Any DC0 (Ahead P co S Stop) n g w → Mv.Goes P co Stop g S := by
 intro n
 induction n with
 | zero => exact fun g w h => (h w trivial).2
 | succ n ih =>
  intro g w h
  rcases h with h | ⟨hs, h⟩
  ·exact (h w trivial).2
  ·refine .one hs fun w1 hw1 => ?_
   have h1 := h w1 trivial
   cases hst : stepG P co.m g w1 <;> rw [hst] at h1 <;> simp only [GStep.goes] at h1 <;> try exact h1.elim
   obtain ⟨⟨rfl, rfl⟩, h2⟩ := h1
   exact ⟨_, _, #[], S, rfl, Mv.Mid.refl hw1, by simp, ih _ _ h2⟩
theorem stop_join (hb : Boss K N w0 S) (hgh : S.gh = .main K l (.out false) ps) {Post : Mv.Own → Prop} (hH : Homes K l ps S Post) {g' : Goroutine} (hs : g.status = .running) (h : ∀ w, stepG P true g w = .go g' w #[mk (.acquire (stA K.W))]) (hg' : g'.status = .running)
  (hn : ∀ S', Post S' → ∃ n, Go.Conc.Goes P true Any DC0 (Ahead P (Mv.Co.team P N w0) S' Stop) n g' w) : Ahead P (Mv.Co.team P N w0) S Stop g w :=
 boss_act (Q := fun g2 S2 => g2 = g' ∧ Post S2) hb (.join hs hgh fun w _ => ⟨g', h w, hg', fun sents L ns nr h1 h2 h3 h4 h5 h6 => by
  obtain ⟨S', hh, hp⟩ := hH sents L ns nr h1 h2 h3 h4 h5 h6
  exact ⟨S', hh, hg', rfl, hp⟩⟩) (fun g2 S2 _ ⟨e1, e2⟩ => by
   subst e1
   obtain ⟨n, hn⟩ := hn S2 e2
   exact of_walkQ n _ _ hn) w
end
section
variable {L : WgLink} {P : Program} {N : Nat} {w0 : Option World} {K : Mv.Grp} {S : Mv.Own} {l : Nat → Prop} {ps : List Mv.Pact}
set_option maxRecDepth 100000 in
set_option maxHeartbeats 16000000 in
theorem wait_head (H : WgLib P L) (hty : K.ty = L.tWg) {Stop : Goroutine → Mv.Own → Prop} {kind : CallKind} {cs : List Frame} (hkd : (Mv.base L.wait kind).kind ≠ .early) {Post : Mv.Own → Prop}
  (hk : ∀ x e S', (e = Mv.End.returned (.tuple #[]) ∧ Post S') → Mv.Leaves P L.wait kind e x S' → Mv.Goes P (Mv.Co.team P N w0) Stop (Mv.G x cs) S') :
  ∀ (n : Nat) (S : Mv.Own) (T : Array Value), Boss K N w0 S → Homes K l ps S Post → ((S.gh = .main K l (.op true false) ps ∧ n = ps.length + 1) ∨ S.gh = .main K l (.again n) ps) → n < 1000002 → T.size = 84 → T[0]? = some (.pointer (some ⟨K.W, 0, none⟩)) →
   Walks P (Mv.Co.team P N w0) K S Stop (G ((Mv.base L.wait kind).at ⟨T, []⟩ [.code (L7 L), .inLoop (L7 L), .inBlock 0]) cs) := by
 intro n
 induction n using Nat.strongRecOn with
 | ind n ih =>
 intro S T hb hH hn hnb hT84 t0
 refine ⟨rfl, fun w hK => ⟨300, ?_⟩⟩
 rw [hty] at hK ⊢
 lib_facts
 obtain ⟨v0, v1, v2, v3, v4, v5, v6, v7, v8, v9, v10, v11, v12, v13, v14, v15, v16, v17, v18, v19, v20, v21, v22, v23, v24, v25, v26, v27, v28, v29, v30, v31, v32, v33, v34, v35, v36, v37, v38, v39, v40, v41, v42, v43, v44, v45, v46, v47, v48, v49, v50, v51, v52, v53, v54, v55, v56, v57, v58, v59, v60, v61, v62, v63, v64, v65, v66, v67, v68, v69, v70, v71, v72, v73, v74, v75, v76, v77, v78, v79, v80, v81, v82, v83, rfl⟩ := array84 T hT84
 simp only [List.getElem?_toArray, List.getElem?_cons_zero, Option.some.injEq] at t0
 subst t0
 simp only [L7, body_wait, waitFn, Option.getD_some]
 u_c stepG_block kn hK
 u_c stepG_seq kn hK
 u_reg kn hK
 u_op kn hK
 u_op kn hK
 u_op kn hK
 u_call H.f_uLoad (nm_uLoad L) uLoadFn kn hK
 u_c stepG_seq kn hK
 u_reg kn hK
 u_op kn hK
 u_c stepG_region_end kn hK
 u_c stepG_seq kn hK
 u_reg kn hK
 u_op kn hK
 u_op kn hK
 u_op kn hK
 refine Goes.stop (fun w₁ _ => stop_load hb hn rfl fun w₂ v hv hw => ?_)
 rw [hty] at hw
 have fin : ∀ (S' : Mv.Own), Post S' → ∀ (x : Frame), x.fn = L.wait → x.kind = kind → x.defers = [] → x.mode = .returning → Mv.Goes P (Mv.Co.team P N w0) Stop (Mv.G x cs) S' :=
  fun S' hp x h1 h2 h3 h4 => hk x _ _ ⟨rfl, hp⟩ ⟨h1, h2, h3, _, H.f_wait, h4, reads_none rfl⟩
 rcases Nat.eq_zero_or_pos v with rfl | hvp
 ·have hw' : WgAt L.tWg K.W w₂ 0 0 := by simpa using hw
  refine ⟨_, stepG_load_atomic (v := 0) rfl rfl (by k_ne) rfl H.f_loadU64 (x_loadU64_n L) (x_loadU64_b L) (x_loadU64_x L) .u64 (x_loadU64_f L) rfl hw'.cellSt, fun _ => ⟨rfl, fun w hK => ⟨200, ?_⟩⟩, fun h => absurd rfl h⟩
  rw [hty] at hK ⊢
  clear hw hw'
  walk_nrm
  u_op kn hK
  u_c stepG_region_end kn hK
  u_c stepG_ret' kn hK
  u_leave1 H.f_uLoad kn hK
  u_op kn hK
  u_c stepG_region_end kn hK
  u_c stepG_seq kn hK
  u_reg kn hK
  u_op kn hK
  u_op kn hK
  u_op kn hK
  u_op kn hK
  u_c stepG_region_end kn hK
  u_c stepG_seq kn hK
  u_reg kn hK
  u_op kn hK
  u_op kn hK
  u_op kn hK
  u_op kn hK
  u_c stepG_region_end kn hK
  u_c stepG_seq kn hK
  u_c stepG_seq kn hK
  u_reg kn hK
  u_op kn hK
  u_op kn hK
  u_c stepG_region_end kn hK
  u_cond true kn hK
  u_c stepG_seq kn hK
  u_cond true kn hK
  u_c stepG_seq kn hK
  u_reg kn hK
  refine Goes.stop (fun w₁ _ => stop_ena2 (hb.as _ _ _) rfl rfl (fun w => stepG_mark0 .enable (by simp) rfl rfl (by k_ne) rfl H.f_enable (x_enable_n L) (x_enable_b L) (x_enable_x L) (x_enable_f L)) ⟨rfl, fun w hK => ⟨200, ?_⟩⟩)
  rw [hty] at hK ⊢
  walk_nrm
  u_c stepG_region_end kn hK
  u_reg kn hK
  u_op kn hK
  u_conv H.underlying_tWgP H.room_tWg (WgLive.cell0 hK).choose_spec kn hK
  refine Goes.stop (fun w₁ _ => stop_join (hb.as _ _ _) rfl ((hH.as _).as _) rfl (fun w => stepG_markAt .acquire (by simp) rfl rfl (by k_ne) rfl H.f_acquire (x_acquire_n L) (x_acquire_b L) (x_acquire_x L) (x_acquire_f L) (by simp [Act.eval, stA])) rfl fun S' hp => ⟨200, ?_⟩)
  have hK : True := trivial
  walk_nrm
  u_c stepG_region_end knQ hK
  u_c stepG_seq knQ hK
  u_c stepG_seq knQ hK
  u_reg knQ hK
  u_op knQ hK
  u_op knQ hK
  u_op knQ hK
  u_op knQ hK
  u_op knQ hK
  u_op knQ hK
  u_op knQ hK
  u_op knQ hK
  u_skip knQ hK
  u_skip knQ hK
  u_op knQ hK
  u_c stepG_region_end knQ hK
  u_cond false knQ hK
  u_c stepG_skip knQ hK
  u_c stepG_ret' knQ hK
  exact Goes.stop fun w₁ _ => ⟨rfl, fin S' hp _ rfl rfl rfl rfl⟩
 ·obtain ⟨X, hX⟩ : ∃ X : Int, (v : Int) * KK = X := ⟨_, rfl⟩
  rw [hX] at hw
  have a1 : X / 4294967296 = (v : Int) := by rw [← hX]; simp only [KK]; omega
  have b1 : bits .and .u64 X 2147483648 = 0 := by rw [← hX]; have := st_flag v 0 (by omega) (by omega); simpa [KK] using this
  have b2 : bits .and .u64 X 2147483647 = 0 := by rw [← hX]; have := st_waiters v 0 (by omega) (by omega); simpa [KK] using this
  have c1 : IntKind.i32.wrap (v : Int) = (v : Int) := by rw [IntKind.wrap_i32]; omega
  have c2 : IntKind.u64.wrap (X + 1) = X + 1 := by rw [IntKind.wrap_u64, ← hX]; simp only [KK]; omega
  have q3 : decide ((v : Int) < 0) = false := decide_eq_false (by omega)
  have q4 : decide (0 < (v : Int)) = true := decide_eq_true (by omega)
  have q5 : ((v : Int) == 0) = false := by simp; omega
  have q6 : decide ((v : Int) = 0) = false := decide_eq_false (by omega)
  refine ⟨_, stepG_load_atomic (v := X) rfl rfl (by k_ne) rfl H.f_loadU64 (x_loadU64_n L) (x_loadU64_b L) (x_loadU64_x L) .u64 (x_loadU64_f L) rfl hw.cellSt, fun h => absurd h (by omega), fun _ => ⟨rfl, fun w hK => ⟨200, ?_⟩⟩⟩
  rw [hty] at hK ⊢
  clear hw
  walk_nrm
  u_op kn hK
  u_c stepG_region_end kn hK
  u_c stepG_ret' kn hK
  u_leave1 H.f_uLoad kn hK
  u_op kn hK
  u_c stepG_region_end kn hK
  u_c stepG_seq kn hK
  u_reg kn hK
  u_op kn hK
  u_op kn hK
  u_op kn hK
  u_op kn hK
  u_c stepG_region_end kn hK
  u_c stepG_seq kn hK
  u_reg kn hK
  u_op kn hK
  u_op kn hK
  u_op kn hK
  u_op kn hK
  u_c stepG_region_end kn hK
  u_c stepG_seq kn hK
  u_c stepG_seq kn hK
  u_reg kn hK
  u_op kn hK
  u_op kn hK
  u_c stepG_region_end kn hK
  u_cnd false kn hK
  u_c stepG_skip kn hK
  u_c stepG_seq kn hK
  u_reg kn hK
  u_op kn hK
  u_op kn hK
  u_op kn hK
  u_op kn hK
  u_op kn hK
  u_op kn hK
  u_call H.f_uCas (nm_uCas L) uCasFn kn hK
  u_c stepG_seq kn hK
  u_reg kn hK
  u_op kn hK
  u_c stepG_region_end kn hK
  u_c stepG_seq kn hK
  u_reg kn hK
  u_op kn hK
  u_op kn hK
  u_op kn hK
  u_op kn hK
  u_op kn hK
  refine Goes.stop (fun w₁ _ => stop_cas (hb.as _ _ _) rfl rfl fun w₂ v' hv' hw => ⟨fun e => ?_, fun e => ?_⟩)
  ·
   subst e
   rw [hty] at hw
   rw [hX] at hw ⊢
   refine ⟨_, stepG_cas_hit (v := X) (n := X + 1) rfl rfl (by k_ne) rfl H.f_casU64 (x_casU64_n L) (x_casU64_b L) (x_casU64_x L) .u64 (x_casU64_f L) rfl rfl (by simp [Act.eval]) hw.cellSt (hw.thaw 0), rfl, fun w hK => ⟨200, ?_⟩⟩
   rw [hty] at hK ⊢
   clear hw
   walk_nrm
   u_op kn hK
   u_c stepG_region_end kn hK
   u_c stepG_ret' kn hK
   u_leave1 H.f_uCas kn hK
   u_c stepG_region_end kn hK
   u_cond true kn hK
   u_c stepG_seq kn hK
   u_c stepG_seq kn hK
   u_reg kn hK
   u_op kn hK
   u_op kn hK
   u_op kn hK
   u_op kn hK
   u_c stepG_region_end kn hK
   u_cond true kn hK
   u_reg kn hK
   u_op kn hK
   u_op kn hK
   u_op kn hK
   u_conv H.underlying_tPU32 H.room_tU32 (WgLive.cell1 hK).choose_spec kn hK
   refine Goes.stop (fun w₁ _ => stop_said (hb.as _ _ _) (.inr rfl) rfl (fun w => stepG_markAt .write (by simp) rfl rfl (by k_ne) rfl H.f_raceWrite (x_raceWrite_n L) (x_raceWrite_b L) (x_raceWrite_x L) (x_raceWrite_f L) (ad := ⟨K.W, 1, none⟩) (by simp [Act.eval])) ⟨rfl, fun w hK => ⟨200, ?_⟩⟩)
   rw [hty] at hK ⊢
   walk_nrm
   u_c stepG_region_end kn hK
   u_c stepG_seq kn hK
   u_reg kn hK
   u_op kn hK
   u_c stepG_region_end kn hK
   u_c stepG_seq kn hK
   u_c stepG_seq kn hK
   u_reg kn hK
   u_op kn hK
   u_op kn hK
   u_op kn hK
   u_op kn hK
   u_skip kn hK
   u_op kn hK
   u_c stepG_region_end kn hK
   u_cnd false kn hK
   u_c stepG_skip kn hK
   u_c stepG_seq kn hK
   u_reg kn hK
   u_op kn hK
   u_op kn hK
   u_op kn hK
   u_op kn hK
   refine Goes.stop (fun w₁ _ => stop_acq (hb.as _ _ _) rfl rfl rfl (fun w st hw => ?_) fun w hw => ?_)
   ·rw [hty] at hw
    exact stepG_semacquire_wait rfl rfl rfl H.f_semacquire (x_semacquire_n L) (x_semacquire_b L) (x_semacquire_x L) (x_semacquire_f L) (ad := smA K.W) (by simp [Act.eval, smA]) hw.cellSm
   ·rw [hty] at hw
    refine ⟨_, stepG_semacquire rfl rfl (by k_ne) rfl H.f_semacquire (x_semacquire_n L) (x_semacquire_b L) (x_semacquire_x L) (x_semacquire_f L) (ad := smA K.W) (by simp [Act.eval, smA]) hw.cellSm (by decide) (hw.thaw 1), rfl, fun w hK => ⟨200, ?_⟩⟩
    rw [hty] at hK ⊢
    clear hw
    walk_nrm
    u_c stepG_region_end kn hK
    u_c stepG_seq kn hK
    u_reg kn hK
    u_op kn hK
    u_op kn hK
    u_op kn hK
    u_call H.f_uLoad (nm_uLoad L) uLoadFn kn hK
    u_c stepG_seq kn hK
    u_reg kn hK
    u_op kn hK
    u_c stepG_region_end kn hK
    u_c stepG_seq kn hK
    u_reg kn hK
    u_op kn hK
    u_op kn hK
    u_op kn hK
    refine Goes.stop (fun w₁ _ => stop_got (hb.as _ _ _) rfl rfl fun w hw => ?_)
    rw [hty] at hw
    refine ⟨_, stepG_load_atomic (v := 0) rfl rfl (by k_ne) rfl H.f_loadU64 (x_loadU64_n L) (x_loadU64_b L) (x_loadU64_x L) .u64 (x_loadU64_f L) rfl hw.cellSt, rfl, fun w hK => ⟨200, ?_⟩⟩
    rw [hty] at hK ⊢
    clear hw
    walk_nrm
    u_op kn hK
    u_c stepG_region_end kn hK
    u_c stepG_ret' kn hK
    u_leave1 H.f_uLoad kn hK
    u_op kn hK
    u_op kn hK
    u_c stepG_region_end kn hK
    u_c stepG_seq kn hK
    u_cond true kn hK
    u_c stepG_seq kn hK
    u_reg kn hK
    refine Goes.stop (fun w₁ _ => stop_ena2 (hb.as _ _ _) rfl rfl (fun w => stepG_mark0 .enable (by simp) rfl rfl (by k_ne) rfl H.f_enable (x_enable_n L) (x_enable_b L) (x_enable_x L) (x_enable_f L)) ⟨rfl, fun w hK => ⟨200, ?_⟩⟩)
    rw [hty] at hK ⊢
    walk_nrm
    u_c stepG_region_end kn hK
    u_reg kn hK
    u_op kn hK
    u_conv H.underlying_tWgP H.room_tWg (WgLive.cell0 hK).choose_spec kn hK
    refine Goes.stop (fun w₁ _ => stop_join (hb.as _ _ _) rfl (hH.as _) rfl (fun w => stepG_markAt .acquire (by simp) rfl rfl (by k_ne) rfl H.f_acquire (x_acquire_n L) (x_acquire_b L) (x_acquire_x L) (x_acquire_f L) (by simp [Act.eval, stA])) rfl fun S' hp => ⟨200, ?_⟩)
    have hK : True := trivial
    walk_nrm
    u_c stepG_region_end knQ hK
    u_c stepG_seq knQ hK
    u_c stepG_seq knQ hK
    u_reg knQ hK
    u_op knQ hK
    u_c stepG_region_end knQ hK
    u_cond false knQ hK
    u_c stepG_skip knQ hK
    u_c stepG_ret' knQ hK
    exact Goes.stop fun w₁ _ => ⟨rfl, fin S' hp _ rfl rfl rfl rfl⟩
  ·
   rw [hty] at hw
   refine ⟨_, stepG_cas_miss (v := (v' : Int) * KK) (old := X) (n := X + 1) rfl rfl (by k_ne) rfl H.f_casU64 (x_casU64_n L) (x_casU64_b L) (x_casU64_x L) .u64 (x_casU64_f L) rfl rfl (by simp [Act.eval]) hw.cellSt (hw.thaw 0) (by rw [← hX]; simp only [KK]; omega), rfl, fun w hK => ⟨200, ?_⟩⟩
   rw [hty] at hK ⊢
   clear hw
   walk_nrm
   u_op kn hK
   u_c stepG_region_end kn hK
   u_c stepG_ret' kn hK
   u_leave1 H.f_uCas kn hK
   u_c stepG_region_end kn hK
   u_cnd false kn hK
   u_c stepG_skip kn hK
   u_c stepG_inBlock kn hK
   u_c stepG_inLoop kn hK
   refine Goes.stop fun w₁ _ => ⟨rfl, Walks.goes (hb.as _ _ _).looks (ih v (by omega) _ _ (hb.as _ _ _) (hH.as _) (.inr rfl) (by omega) rfl rfl)⟩
set_option maxRecDepth 100000 in
set_option maxHeartbeats 8000000 in
theorem calls_wait (H : WgLib P L) (hty : K.ty = L.tWg) (hb : Boss K N w0 S) (hgh : S.gh = .main K l (.op false false) ps) (hps : ps.length < 1000000) {Post : Mv.Own → Prop} (hH : Homes K l ps S Post) :
  Mv.Calls P (Mv.Co.team P N w0) L.wait #[.pointer (some ⟨K.W, 0, none⟩)] S fun e S' => e = .returned (.tuple #[]) ∧ Post S' := by
 intro Stop kind cs hne hk
 have hkd : (Mv.base L.wait kind).kind ≠ .early := hne
 refine Walks.goes hb.looks (g := G (Frame.enter P L.wait #[.pointer (some ⟨K.W, 0, none⟩)] kind) cs) ⟨rfl, fun w hK => ⟨200, ?_⟩⟩
 rw [Mv.enter_eq (cm := none) H.f_wait rfl]
 show Goes _ _ _ _ _ _ (G ((Mv.base L.wait kind).at ⟨_, []⟩ _) cs) w
 rw [hty] at hK ⊢
 lib_facts
 simp only [Mv.entry]
 walk_nrmf waitFn
 u_c stepG_seq kn hK
 u_cond true kn hK
 u_reg kn hK
 refine Goes.stop (fun w₁ _ => stop_dis hb hgh rfl (fun w => stepG_mark0 .disable (by simp) rfl rfl (by k_ne) rfl H.f_disable (x_disable_n L) (x_disable_b L) (x_disable_x L) (x_disable_f L)) ⟨rfl, fun w hK => ⟨200, ?_⟩⟩)
 rw [hty] at hK ⊢
 walk_nrm
 u_c stepG_region_end kn hK
 u_c stepG_block kn hK
 u_c stepG_loop kn hK
 exact Goes.stop fun w₁ _ => ⟨rfl, Walks.goes (hb.as _ _ _).looks (wait_head H hty hkd hk (ps.length + 1) _ _ (hb.as _ _ _) (hH.as _) (.inl ⟨rfl, rfl⟩) (by omega) rfl rfl)⟩
end
end Mx
namespace Mx
open Go Go.Conc Go.ConcN Go.RowKit Go.Conc.Lib Go.ConcR.Gen Go.ConcN.Gen
open Go.ConcR (KK wgBlock WgAt stA smA rd wr mk DC0)
section
variable {P : Program} {K : Mv.Grp} {S : Mv.Own} {Stop : Goroutine → Mv.Own → Prop} {pc : Mv.Pact} {sent : List Mv.Msg} {g : Goroutine} {w : World}
theorem actW_gh {Q : Goroutine → Mv.Own → Prop} (h : Mv.ActW P K g S Q) : ∃ ph pc sent, S.gh = .work K ph pc sent := by
 cases h <;> exact ⟨_, _, _, by assumption⟩
theorem actW_keep {Q : Goroutine → Mv.Own → Prop} (h : Mv.ActW P K g S Q) : Mv.ActW P K g S fun g S => Q g S ∧ ∃ ph pc sent, S.gh = .work K ph pc sent := by
 cases h with
 | send h1 h2 h3 h4 h5 h6 h7 h8 h9 h10 h11 => exact .send h1 h2 h3 h4 h5 h6 h7 h8 h9 h10 ⟨h11, _, _, _, h9⟩
 | rel h1 h2 h3 h4 => exact .rel h1 h2 h3 fun w hw => by obtain ⟨g', a, b, c⟩ := h4 w hw; exact ⟨g', a, b, c, _, _, _, rfl⟩
 | dis h1 h2 h3 => exact .dis h1 h2 fun w hw => by obtain ⟨g', a, b, c⟩ := h3 w hw; exact ⟨g', a, b, c, _, _, _, rfl⟩
 | sub h1 h2 h3 => exact .sub h1 h2 fun w v wt hw h4 h5 h6 => by obtain ⟨g', a, b, c, d⟩ := h3 w v wt hw h4 h5 h6; exact ⟨g', a, b, fun e => ⟨c e, _, _, _, rfl⟩, d⟩
 | d2 h1 h2 h3 => exact .d2 h1 h2 fun w hw h4 => by obtain ⟨g', a, b, c⟩ := h3 w hw h4; exact ⟨g', a, b, c, _, _, _, rfl⟩
 | d3 h1 h2 h3 => exact .d3 h1 h2 fun w hw h4 => by obtain ⟨g', a, b, c⟩ := h3 w hw h4; exact ⟨g', a, b, c, _, _, _, rfl⟩
 | look h1 h2 h3 => exact .look h1 h2 fun w st sm hw h4 => by obtain ⟨g', a, b, c⟩ := h3 w st sm hw h4; exact ⟨g', a, b, c, _, _, _, h2⟩
 | d4 h1 h2 h3 h4 => exact .d4 h1 h2 h3 h4
abbrev Hand (P : Program) (_ : Mv.Grp) : Mv.Co := ⟨false, fun g S Q => ∃ K ph pc sent, S.gh = .work K ph pc sent ∧ Mv.ActW P K g S Q⟩
theorem hands_to {Stop : Goroutine → Mv.Own → Prop} {K0 : Mv.Grp} (h : Mv.Goes P (Hand P K0) Stop g S) (hgh : ∃ ph pc sent, S.gh = .work K ph pc sent) : Mv.Goes P ⟨false, Mv.ActW P K⟩ Stop g S := by
 induction h with
 | stop h => exact .stop h
 | step g' w' es S' hs h1 _ ih => exact .step g' w' es S' hs h1 fun w hw => ih w hw (by rw [(h1 w hw).2.1.ghd]; exact hgh)
 | big Q h1 _ ih =>
  obtain ⟨K', ph, pc, sent, hg, hA⟩ := h1
  obtain ⟨ph0, pc0, sent0, h0⟩ := hgh
  have eK : K' = K := by rw [hg] at h0; injection h0
  subst eK
  exact .big _ (actW_keep hA) fun g' S' ⟨hq, hg⟩ => ih g' S' hq hg
theorem hand_looks {ph : Mv.WPh} (hgh : S.gh = .work K ph pc sent) : Looks P (Hand P K) K S := fun _ _ hs _ h => ⟨K, ph, pc, sent, hgh, .look hs hgh h⟩
theorem hand_nil {ph : Mv.WPh} : Looks P (Hand P K) K (.nil (.work K ph pc sent)) := hand_looks rfl
theorem hand_act {Q : Goroutine → Mv.Own → Prop} (h : Mv.ActW P K g S Q) (hQ : ∀ g' S', Q g' S' → Mv.Goes P (Hand P K) Stop g' S') (w : World) : Ahead P (Hand P K) S Stop g w := ⟨h.runs, .big _ (by obtain ⟨ph, pc, sent, hg⟩ := actW_gh h; exact ⟨K, ph, pc, sent, hg, h⟩) hQ⟩
theorem stop_rel (hgh : S.gh = .work K .work pc sent) (hok : pc.ok sent) {g' : Goroutine} (hs : g.status = .running) (h : ∀ w, stepG P false g w = .go g' w #[mk (.releaseMerge (stA K.W))]) (hn : Walks P (Hand P K) K (.nil (.work K .rel pc sent)) Stop g') : Ahead P (Hand P K) S Stop g w :=
 hand_act (Q := fun g2 S2 => g2 = g' ∧ S2 = .nil (.work K .rel pc sent)) (.rel hs hgh hok fun w _ => ⟨g', h w, hn.1, rfl, rfl⟩) (fun _ _ ⟨e1, e2⟩ => by subst e1; subst e2; exact hn.goes hand_nil) w
theorem stop_disW {g' : Goroutine} (hs : g.status = .running) (h : ∀ w, stepG P false g w = .go g' w #[mk .disable]) (hn : Walks P (Hand P K) K (.nil (.work K .dis pc sent)) Stop g') : Ahead P (Hand P K) (.nil (.work K .rel pc sent)) Stop g w :=
 hand_act (Q := fun g2 S2 => g2 = g' ∧ S2 = .nil (.work K .dis pc sent)) (.dis hs rfl fun w _ => ⟨g', h w, hn.1, rfl, rfl⟩) (fun _ _ ⟨e1, e2⟩ => by subst e1; subst e2; exact hn.goes hand_nil) w
theorem stop_sub (hs : g.status = .running)
  (h : ∀ (w : World) (v wt : Nat), wt ≤ 1 → v < 2147483647 → WgAt K.ty K.W w (((v : Int) + 1) * KK + wt) 0 → ∃ g', stepG P false g w = .go g' (w.setCell (stA K.W) (.int .u64 (v * KK + wt))) #[rd (stA K.W), wr (stA K.W)] ∧ g'.status = .running ∧
   ((v = 0 ∧ wt = 1) → Walks P (Hand P K) K (.nil (.work K .d2 pc sent)) Stop g') ∧ (¬ (v = 0 ∧ wt = 1) → ∃ n, QuitsD P n 1 g')) : Ahead P (Hand P K) (.nil (.work K .dis pc sent)) Stop g w :=
 hand_act (Q := fun g2 S2 => Walks P (Hand P K) K (.nil (.work K .d2 pc sent)) Stop g2 ∧ S2 = .nil (.work K .d2 pc sent))
  (.sub hs rfl fun w v wt _ hwt hv hat => by
   obtain ⟨g', h1, h2, h3, h4⟩ := h w v wt hwt hv (by simpa [Mv.Grp.at, Mv.Grp.cells, WgAt, wgBlock, KK, Mv.gK] using hat)
   exact ⟨g', h1, h2, fun e => ⟨h3 e, rfl⟩, h4⟩) (fun _ _ ⟨e1, e2⟩ => by subst e2; exact e1.goes hand_nil) w
theorem stop_d2 (hs : g.status = .running) (h : ∀ w, WgAt K.ty K.W w 1 0 → ∃ g', stepG P false g w = .go g' w #[rd (stA K.W)] ∧ Walks P (Hand P K) K (.nil (.work K .d3 pc sent)) Stop g') : Ahead P (Hand P K) (.nil (.work K .d2 pc sent)) Stop g w :=
 hand_act (Q := fun g2 S2 => Walks P (Hand P K) K (.nil (.work K .d3 pc sent)) Stop g2 ∧ S2 = .nil (.work K .d3 pc sent)) (.d2 hs rfl fun w _ hat => by obtain ⟨g', h1, h2⟩ := h w hat; exact ⟨g', h1, h2.1, h2, rfl⟩) (fun _ _ ⟨e1, e2⟩ => by subst e2; exact e1.goes hand_nil) w
theorem stop_d3 (hs : g.status = .running) (h : ∀ w, WgAt K.ty K.W w 1 0 → ∃ g', stepG P false g w = .go g' (w.setCell (stA K.W) (.int .u64 0)) #[wr (stA K.W)] ∧ Walks P (Hand P K) K (.nil (.work K .d4 pc sent)) Stop g') : Ahead P (Hand P K) (.nil (.work K .d3 pc sent)) Stop g w :=
 hand_act (Q := fun g2 S2 => Walks P (Hand P K) K (.nil (.work K .d4 pc sent)) Stop g2 ∧ S2 = .nil (.work K .d4 pc sent)) (.d3 hs rfl fun w _ hat => by obtain ⟨g', h1, h2⟩ := h w hat; exact ⟨g', h1, h2.1, h2, rfl⟩) (fun _ _ ⟨e1, e2⟩ => by subst e2; exact e1.goes hand_nil) w
theorem stop_d4 (hs : g.status = .running) (hm : mayWake P g = true) (h : ∀ w, WgAt K.ty K.W w 0 0 → ∃ g', stepG P false g w = .go g' (w.setCell (smA K.W) (.int .u32 1)) (semEvents (smA K.W)) ∧ ∃ n, QuitsD P n 1 g') : Ahead P (Hand P K) (.nil (.work K .d4 pc sent)) Stop g w :=
 hand_act (Q := fun _ _ => False) (.d4 hs hm rfl fun w _ hat => h w hat) (fun _ _ h => h.elim) w
end
section
variable {L : WgLink} {P : Program} {K : Mv.Grp} {S : Mv.Own} {pc : Mv.Pact} {sent : List Mv.Msg}
set_option maxRecDepth 100000 in
set_option maxHeartbeats 16000000 in
theorem neg_walk (H : WgLib P L) (hty : K.ty = L.tWg) {Stop : Goroutine → Mv.Own → Prop} (hgh : S.gh = .work K .work pc sent) (hok : pc.ok sent) {b₀ : Frame} {a₀ : Act} {ops₀ : Array Oper} {i₀ : Nat} {rest₀ : List Nat} {k₀ : List Item} {cs : List Frame} {qt : Nat}
  (hT : QuitsD P qt 0 (G (b₀.at (a₀.put ((ops₀[i₀]?).bind (·.dst)) (.tuple #[])) (.inRegion ops₀ rest₀ :: k₀)) cs)) :
  Walks P (Hand P K) K S Stop (G (Frame.enter P L.add #[.pointer (some ⟨K.W, 0, none⟩), .int .i64 (-1)] .normal) (b₀.at a₀ (.inRegion ops₀ (i₀ :: rest₀) :: k₀) :: cs)) := by
 refine ⟨rfl, fun w hK => ⟨200, ?_⟩⟩
 rw [enter_at _ H.f_add rfl]
 rw [hty] at hK ⊢
 lib_facts
 walk_nrmf addFn
 u_c stepG_seq kn hK
 u_cond true kn hK
 u_c stepG_seq kn hK
 u_c stepG_seq kn hK
 u_reg kn hK
 u_op kn hK
 u_op kn hK
 u_c stepG_region_end kn hK
 u_cond true kn hK
 u_reg kn hK
 u_op kn hK
 u_conv H.underlying_tWgP H.room_tWg (WgLive.cell0 hK).choose_spec kn hK
 refine Goes.stop (fun w₁ _ => stop_rel hgh hok rfl (fun w => stepG_markAt .releaseMerge (by simp) rfl rfl (by k_ne) rfl H.f_relMerge (x_relMerge_n L) (x_relMerge_b L) (x_relMerge_x L) (x_relMerge_f L) (by simp [Act.eval, stA])) ⟨rfl, fun w hK => ⟨200, ?_⟩⟩)
 rw [hty] at hK ⊢
 walk_nrm
 u_c stepG_region_end kn hK
 u_c stepG_seq kn hK
 u_reg kn hK
 refine Goes.stop (fun w₁ _ => stop_disW rfl (fun w => stepG_mark0 .disable (by simp) rfl rfl (by k_ne) rfl H.f_disable (x_disable_n L) (x_disable_b L) (x_disable_x L) (x_disable_f L)) ⟨rfl, fun w hK => ⟨200, ?_⟩⟩)
 rw [hty] at hK ⊢
 walk_nrm
 u_c stepG_region_end kn hK
 u_reg kn hK
 u_defer kn hK
 u_c stepG_region_end kn hK
 u_c stepG_seq kn hK
 u_reg kn hK
 u_op kn hK
 u_c stepG_region_end kn hK
 u_c stepG_seq kn hK
 u_c stepG_seq kn hK
 u_reg kn hK
 u_bub kn hK
 u_c stepG_region_end kn hK
 u_cond false kn hK
 u_c stepG_skip kn hK
 u_c stepG_seq kn hK
 u_reg kn hK
 u_op kn hK
 u_op kn hK
 u_op kn hK
 u_op kn hK
 u_op kn hK
 u_op kn hK
 u_call H.f_uAdd (nm_uAdd L) uAddFn kn hK
 u_c stepG_seq kn hK
 u_reg kn hK
 u_op kn hK
 u_c stepG_region_end kn hK
 u_c stepG_seq kn hK
 u_reg kn hK
 u_op kn hK
 u_op kn hK
 u_op kn hK
 u_op kn hK
 refine Goes.stop (fun w₁ _ => stop_sub rfl fun w₂ v wt hwt hv hw => ?_)
 rw [hty] at hw
 obtain ⟨V, hV⟩ : ∃ V : Int, V = (v : Int) := ⟨_, rfl⟩
 obtain ⟨X, hX⟩ : ∃ X : Int, X = V * KK + (wt : Int) := ⟨_, rfl⟩
 have eS : IntKind.u64.wrap (((v : Int) + 1) * KK + wt + 18446744069414584320) = X := by rw [IntKind.wrap_u64, hX, hV]; simp only [KK]; omega
 rw [← hV, ← hX]
 have a1 : X / 4294967296 = V := by rw [hX]; simp only [KK]; omega
 have a2 : 0 ≤ X ∧ X < 9223372036854775808 := by rw [hX, hV]; simp only [KK]; omega
 have b1 : bits .and .u64 X 2147483648 = 0 := by rw [hX, hV]; have := st_flag v wt (by omega) (by omega); simpa [KK] using this
 have c1 : IntKind.i32.wrap V = V := by rw [IntKind.wrap_i32]; omega
 rcases Nat.eq_zero_or_pos v with hv0 | hvp <;> (obtain hwt0 | hwt1 : wt = 0 ∨ wt = 1 := by omega)
 ·
  have b2 : bits .and .u64 X 2147483647 = 0 := by rw [hX, hV]; have := st_waiters v wt (by omega) (by omega); rw [hwt0] at this ⊢; simpa [KK] using this
  have X0 : X = 0 := by rw [hX, hV, hv0, hwt0]; simp
  have V0 : V = 0 := by rw [hV, hv0]; rfl
  refine ⟨_, (stepG_add_atomic rfl rfl (by k_ne) rfl H.f_addU64 (x_addU64_n L) (x_addU64_b L) (x_addU64_x L) .u64 (x_addU64_f L) rfl rfl hw.cellSt (hw.thaw 0)).trans (by rw [eS]; rfl), rfl, fun h => by omega, fun _ => ⟨qt + 200, ?_⟩⟩
  subst X0; subst V0
  clear hw hX eS a1 a2 b1 c1 b2 hV hv0 hwt0
  walk_nrm
  q_vn (.int .u64 0)
  q_c stepG_region_end
  q_c stepG_ret'
  q_leave1 H.f_uAdd
  q_vn (.int .u64 0)
  q_c stepG_region_end
  q_c stepG_seq
  q_c stepG_seq
  q_reg
  q_vn (.int .u64 0)
  q_vn (.int .u64 0)
  q_vn (.bool false)
  q_vn (.bool false)
  q_skip
  q_skip
  q_vn (.bool false)
  q_c stepG_region_end
  q_cond false
  q_c stepG_skip
  q_c stepG_seq
  q_reg
  q_vn (.int .u64 0)
  q_vn (.int .u64 0)
  q_vn (.int .i32 0)
  q_vn (.int .i32 0)
  q_c stepG_region_end
  q_c stepG_seq
  q_reg
  q_vn (.int .u64 0)
  q_vn (.int .u64 0)
  q_vn (.int .u32 0)
  q_vn (.int .u32 0)
  q_c stepG_region_end
  q_c stepG_seq
  q_c stepG_seq
  q_reg
  q_vn (.bool true)
  q_vn (.int .i64 (-1))
  q_vn (.bool false)
  q_vn (.bool false)
  q_vn (.bool false)
  q_skip
  q_skip
  q_skip
  q_skip
  q_vn (.bool false)
  q_c stepG_region_end
  q_cond false
  q_c stepG_skip
  q_c stepG_seq
  q_c stepG_seq
  q_reg
  q_vn (.int .i32 0)
  q_vn (.bool false)
  q_c stepG_region_end
  q_cond false
  q_c stepG_skip
  q_c stepG_seq
  q_c stepG_seq
  q_reg
  q_vn (.int .u32 0)
  q_vn (.bool false)
  q_vn (.bool false)
  q_skip
  q_skip
  q_vn (.bool false)
  q_vn (.bool false)
  q_skip
  q_skip
  q_skip
  q_skip
  q_vn (.bool false)
  q_c stepG_region_end
  q_cond false
  q_c stepG_skip
  q_c stepG_seq
  q_c stepG_seq
  q_reg
  q_vn (.int .i32 0)
  q_vn (.bool false)
  q_vn (.bool false)
  q_vn (.int .u32 0)
  q_vn (.bool true)
  q_vn (.bool true)
  q_c stepG_region_end
  q_cond true
  q_c stepG_ret'
  q_enable
  q_leave0 H.f_add
  exact quits_le hT (by omega)
 ·
  have b2 : bits .and .u64 X 2147483647 = 1 := by rw [hX, hV]; have := st_waiters v wt (by omega) (by omega); rw [hwt1] at this ⊢; simpa [KK] using this
  have X1 : X = 1 := by rw [hX, hV, hv0, hwt1]; simp
  have V0 : V = 0 := by rw [hV, hv0]; rfl
  refine ⟨_, (stepG_add_atomic rfl rfl (by k_ne) rfl H.f_addU64 (x_addU64_n L) (x_addU64_b L) (x_addU64_x L) .u64 (x_addU64_f L) rfl rfl hw.cellSt (hw.thaw 0)).trans (by rw [eS]; rfl), rfl, fun _ => ⟨rfl, fun w hK => ⟨200, ?_⟩⟩, fun h => absurd ⟨hv0, hwt1⟩ h⟩
  rw [hty] at hK ⊢
  subst X1; subst V0
  clear hw hX eS a1 a2 b1 c1 b2 hV hv0 hwt1
  walk_nrm
  u_op kn hK
  u_c stepG_region_end kn hK
  u_c stepG_ret' kn hK
  u_leave1 H.f_uAdd kn hK
  u_op kn hK
  u_c stepG_region_end kn hK
  u_c stepG_seq kn hK
  u_c stepG_seq kn hK
  u_reg kn hK
  u_op kn hK
  u_op kn hK
  u_op kn hK
  u_op kn hK
  u_skip kn hK
  u_skip kn hK
  u_op kn hK
  u_c stepG_region_end kn hK
  u_cond false kn hK
  u_c stepG_skip kn hK
  u_c stepG_seq kn hK
  u_reg kn hK
  u_op kn hK
  u_op kn hK
  u_op kn hK
  u_op kn hK
  u_c stepG_region_end kn hK
  u_c stepG_seq kn hK
  u_reg kn hK
  u_op kn hK
  u_op kn hK
  u_op kn hK
  u_op kn hK
  u_c stepG_region_end kn hK
  u_c stepG_seq kn hK
  u_c stepG_seq kn hK
  u_reg kn hK
  u_op kn hK
  u_op kn hK
  u_op kn hK
  u_op kn hK
  u_op kn hK
  u_skip kn hK
  u_skip kn hK
  u_skip kn hK
  u_skip kn hK
  u_op kn hK
  u_c stepG_region_end kn hK
  u_cond false kn hK
  u_c stepG_skip kn hK
  u_c stepG_seq kn hK
  u_c stepG_seq kn hK
  u_reg kn hK
  u_op kn hK
  u_op kn hK
  u_c stepG_region_end kn hK
  u_cond false kn hK
  u_c stepG_skip kn hK
  u_c stepG_seq kn hK
  u_c stepG_seq kn hK
  u_reg kn hK
  u_op kn hK
  u_op kn hK
  u_op kn hK
  u_op kn hK
  u_op kn hK
  u_op kn hK
  u_op kn hK
  u_skip kn hK
  u_skip kn hK
  u_skip kn hK
  u_skip kn hK
  u_op kn hK
  u_c stepG_region_end kn hK
  u_cond false kn hK
  u_c stepG_skip kn hK
  u_c stepG_seq kn hK
  u_c stepG_seq kn hK
  u_reg kn hK
  u_op kn hK
  u_op kn hK
  u_op kn hK
  u_op kn hK
  u_op kn hK
  u_op kn hK
  u_c stepG_region_end kn hK
  u_cond false kn hK
  u_c stepG_skip kn hK
  u_c stepG_seq kn hK
  u_c stepG_seq kn hK
  u_reg kn hK
  u_op kn hK
  u_op kn hK
  u_op kn hK
  u_call H.f_uLoad (nm_uLoad L) uLoadFn kn hK
  u_c stepG_seq kn hK
  u_reg kn hK
  u_op kn hK
  u_c stepG_region_end kn hK
  u_c stepG_seq kn hK
  u_reg kn hK
  u_op kn hK
  u_op kn hK
  u_op kn hK
  refine Goes.stop (fun w₁ _ => stop_d2 rfl fun w hw => ?_)
  rw [hty] at hw
  refine ⟨_, stepG_load_atomic (v := 1) rfl rfl (by k_ne) rfl H.f_loadU64 (x_loadU64_n L) (x_loadU64_b L) (x_loadU64_x L) .u64 (x_loadU64_f L) rfl hw.cellSt, rfl, fun w hK => ⟨200, ?_⟩⟩
  rw [hty] at hK ⊢
  clear hw
  walk_nrm
  u_op kn hK
  u_c stepG_region_end kn hK
  u_c stepG_ret' kn hK
  u_leave1 H.f_uLoad kn hK
  u_op kn hK
  u_op kn hK
  u_c stepG_region_end kn hK
  u_cond false kn hK
  u_c stepG_skip kn hK
  u_c stepG_seq kn hK
  u_reg kn hK
  u_op kn hK
  u_op kn hK
  u_op kn hK
  u_call H.f_uStore (nm_uStore L) uStoreFn kn hK
  u_reg kn hK
  u_op kn hK
  u_op kn hK
  u_op kn hK
  u_op kn hK
  refine Goes.stop (fun w₁ _ => stop_d3 rfl fun w hw => ?_)
  rw [hty] at hw
  refine ⟨_, stepG_store_atomic (k := .u64) (v := 0) rfl rfl (by k_ne) rfl H.f_storeU64 (x_storeU64_n L) (x_storeU64_b L) (x_storeU64_x L) (x_storeU64_f L) rfl rfl hw.cellSt (hw.thaw 0), rfl, fun w hK => ⟨200, ?_⟩⟩
  rw [hty] at hK ⊢
  clear hw
  walk_nrm
  u_c stepG_region_end kn hK
  u_c stepG_end kn hK
  u_leave0 H.f_uStore kn hK
  u_c stepG_region_end kn hK
  u_c stepG_seq kn hK
  u_c stepG_seq kn hK
  u_reg kn hK
  u_op kn hK
  u_c stepG_region_end kn hK
  u_cond false kn hK
  u_c stepG_skip kn hK
  u_c stepG_block kn hK
  u_c stepG_loop kn hK
  u_c stepG_seq kn hK
  u_c stepG_seq kn hK
  u_reg kn hK
  u_op kn hK
  u_op kn hK
  u_c stepG_region_end kn hK
  u_cond true kn hK
  u_c stepG_skip kn hK
  u_c stepG_seq kn hK
  u_c stepG_block kn hK
  u_reg kn hK
  u_op kn hK
  u_op kn hK
  u_op kn hK
  refine Goes.stop (fun w₁ _ => stop_d4 rfl (mayWake_entry rfl rfl H.f_semrelease rfl) fun w hw => ?_)
  rw [hty] at hw
  refine ⟨_, (stepG_semrelease rfl rfl (by k_ne) rfl H.f_semrelease (x_semrelease_n L) (x_semrelease_b L) (x_semrelease_x L) (x_semrelease_f L) (ad := smA K.W) (by simp [Act.eval, smA]) hw.cellSm (hw.thaw 1)).trans (by rw [show IntKind.u32.wrap (0 + 1) = 1 by decide]), qt + 200, ?_⟩
  clear hw
  walk_nrm
  q_c stepG_region_end
  q_c stepG_inBlock
  q_reg
  q_vn (.int .u32 1)
  q_vn (.int .u32 0)
  q_vn (.int .u32 0)
  q_c stepG_region_end
  q_c stepG_inLoop
  q_c stepG_seq
  q_c stepG_seq
  q_reg
  q_vn (.int .u32 0)
  q_vn (.bool false)
  q_c stepG_region_end
  q_cond false
  q_exit
  q_c stepG_end
  q_enable
  q_leave0 H.f_add
  exact quits_le hT (by omega)
 ·
  have b2 : bits .and .u64 X 2147483647 = 0 := by rw [hX, hV]; have := st_waiters v wt (by omega) (by omega); rw [hwt0] at this ⊢; simpa [KK] using this
  have hV1 : 0 < V := by omega
  have hV2 : V < 2147483648 := by omega
  refine ⟨_, (stepG_add_atomic rfl rfl (by k_ne) rfl H.f_addU64 (x_addU64_n L) (x_addU64_b L) (x_addU64_x L) .u64 (x_addU64_f L) rfl rfl hw.cellSt (hw.thaw 0)).trans (by rw [eS]; rfl), rfl, fun h => by omega, fun _ => ⟨qt + 200, ?_⟩⟩
  clear hw hX hV eS
  walk_nrm
  q_vn (.int .u64 X)
  q_c stepG_region_end
  q_c stepG_ret'
  q_leave1 H.f_uAdd
  q_vn (.int .u64 X)
  q_c stepG_region_end
  q_c stepG_seq
  q_c stepG_seq
  q_reg
  q_vn (.int .u64 X)
  q_vn (.int .u64 0)
  q_vn (.bool false)
  q_vn (.bool false)
  q_skip
  q_skip
  q_vn (.bool false)
  q_c stepG_region_end
  q_cond false
  q_c stepG_skip
  q_c stepG_seq
  q_reg
  q_vn (.int .u64 X)
  q_vn (.int .u64 V)
  q_vn (.int .i32 V)
  q_vn (.int .i32 V)
  q_c stepG_region_end
  q_c stepG_seq
  q_reg
  q_vn (.int .u64 X)
  q_vn (.int .u64 0)
  q_vn (.int .u32 0)
  q_vn (.int .u32 0)
  q_c stepG_region_end
  q_c stepG_seq
  q_c stepG_seq
  q_reg
  q_vn (.bool true)
  q_vn (.int .i64 (-1))
  q_vn (.bool false)
  q_vn (.bool false)
  q_vn (.bool false)
  q_skip
  q_skip
  q_skip
  q_skip
  q_vn (.bool false)
  q_c stepG_region_end
  q_cond false
  q_c stepG_skip
  q_c stepG_seq
  q_c stepG_seq
  q_reg
  q_vn (.int .i32 V)
  q_vn (.bool false)
  q_c stepG_region_end
  q_cond false
  q_c stepG_skip
  q_c stepG_seq
  q_c stepG_seq
  q_reg
  q_vn (.int .u32 0)
  q_vn (.bool false)
  q_vn (.bool false)
  q_skip
  q_skip
  q_vn (.bool false)
  q_vn (.bool false)
  q_skip
  q_skip
  q_skip
  q_skip
  q_vn (.bool false)
  q_c stepG_region_end
  q_cond false
  q_c stepG_skip
  q_c stepG_seq
  q_c stepG_seq
  q_reg
  q_vn (.int .i32 V)
  q_vn (.bool true)
  q_vn (.bool true)
  q_skip
  q_skip
  q_vn (.bool true)
  q_c stepG_region_end
  q_cond true
  q_c stepG_ret'
  q_enable
  q_leave0 H.f_add
  exact quits_le hT (by omega)
 ·
  have b2 : bits .and .u64 X 2147483647 = 1 := by rw [hX, hV]; have := st_waiters v wt (by omega) (by omega); rw [hwt1] at this ⊢; simpa [KK] using this
  have hV1 : 0 < V := by omega
  have hV2 : V < 2147483648 := by omega
  refine ⟨_, (stepG_add_atomic rfl rfl (by k_ne) rfl H.f_addU64 (x_addU64_n L) (x_addU64_b L) (x_addU64_x L) .u64 (x_addU64_f L) rfl rfl hw.cellSt (hw.thaw 0)).trans (by rw [eS]; rfl), rfl, fun h => by omega, fun _ => ⟨qt + 200, ?_⟩⟩
  clear hw hX hV eS
  walk_nrm
  q_vn (.int .u64 X)
  q_c stepG_region_end
  q_c stepG_ret'
  q_leave1 H.f_uAdd
  q_vn (.int .u64 X)
  q_c stepG_region_end
  q_c stepG_seq
  q_c stepG_seq
  q_reg
  q_vn (.int .u64 X)
  q_vn (.int .u64 0)
  q_vn (.bool false)
  q_vn (.bool false)
  q_skip
  q_skip
  q_vn (.bool false)
  q_c stepG_region_end
  q_cond false
  q_c stepG_skip
  q_c stepG_seq
  q_reg
  q_vn (.int .u64 X)
  q_vn (.int .u64 V)
  q_vn (.int .i32 V)
  q_vn (.int .i32 V)
  q_c stepG_region_end
  q_c stepG_seq
  q_reg
  q_vn (.int .u64 X)
  q_vn (.int .u64 1)
  q_vn (.int .u32 1)
  q_vn (.int .u32 1)
  q_c stepG_region_end
  q_c stepG_seq
  q_c stepG_seq
  q_reg
  q_vn (.bool true)
  q_vn (.int .i64 (-1))
  q_vn (.bool false)
  q_vn (.bool false)
  q_vn (.bool false)
  q_skip
  q_skip
  q_skip
  q_skip
  q_vn (.bool false)
  q_c stepG_region_end
  q_cond false
  q_c stepG_skip
  q_c stepG_seq
  q_c stepG_seq
  q_reg
  q_vn (.int .i32 V)
  q_vn (.bool false)
  q_c stepG_region_end
  q_cond false
  q_c stepG_skip
  q_c stepG_seq
  q_c stepG_seq
  q_reg
  q_vn (.int .u32 1)
  q_vn (.bool true)
  q_vn (.bool true)
  q_vn (.int .i64 (-1))
  q_vn (.bool false)
  q_vn (.bool false)
  q_vn (.bool false)
  q_skip
  q_skip
  q_skip
  q_skip
  q_vn (.bool false)
  q_c stepG_region_end
  q_cond false
  q_c stepG_skip
  q_c stepG_seq
  q_c stepG_seq
  q_reg
  q_vn (.int .i32 V)
  q_vn (.bool true)
  q_vn (.bool true)
  q_skip
  q_skip
  q_vn (.bool true)
  q_c stepG_region_end
  q_cond true
  q_c stepG_ret'
  q_enable
  q_leave0 H.f_add
  exact quits_le hT (by omega)
end
end Mx
set_option linter.unusedVariables false
namespace Mw
open Go Mv
inductive Dg (π : Type) where
 | d0 (p : π)
 | d1 (p : π)
 | d2 (p : π)
 | d3 (p : π)
 | d4 (p : π)
 | d5 (p : π)
 | d6 (p : π)
 | d7 (p : π)
inductive Dz where
 | stop
 | bad
structure N8 (β : Type) where
 mk ::
 c0 : β
 c1 : β
 c2 : β
 c3 : β
 c4 : β
 c5 : β
 c6 : β
 c7 : β
namespace N8
variable {β : Type}
def nth (t : N8 β) (r : Nat) : β := match r with
 | 0 => t.c0
 | 1 => t.c1
 | 2 => t.c2
 | 3 => t.c3
 | 4 => t.c4
 | 5 => t.c5
 | 6 => t.c6
 | _ => t.c7
def upd (t : N8 β) (r : Nat) (x : β) : N8 β := match r with
 | 0 => { t with c0 := x }
 | 1 => { t with c1 := x }
 | 2 => { t with c2 := x }
 | 3 => { t with c3 := x }
 | 4 => { t with c4 := x }
 | 5 => { t with c5 := x }
 | 6 => { t with c6 := x }
 | _ => { t with c7 := x }
theorem below {r : Nat} (h : r < 8) : r = 0 ∨ r = 1 ∨ r = 2 ∨ r = 3 ∨ r = 4 ∨ r = 5 ∨ r = 6 ∨ r = 7 := by omega
theorem nth_upd_self (t : N8 β) (x : β) {r : Nat} (h : r < 8) : (t.upd r x).nth r = x := by
 rcases below h with rfl | rfl | rfl | rfl | rfl | rfl | rfl | rfl <;> rfl
theorem nth_upd_other (t : N8 β) (x : β) {r r' : Nat} (h : r < 8) (h' : r' < 8) (hne : r' ≠ r) : (t.upd r x).nth r' = t.nth r' := by
 rcases below h with rfl | rfl | rfl | rfl | rfl | rfl | rfl | rfl <;> rcases below h' with rfl | rfl | rfl | rfl | rfl | rfl | rfl | rfl <;> first | rfl | exact absurd rfl hne
end N8
namespace Dg
variable {π : Type}
def dig (r : Nat) (p : π) : Dg π := match Nat.beq r 0 with
 | true => .d0 p
 | false => match Nat.beq r 1 with
  | true => .d1 p
  | false => match Nat.beq r 2 with
   | true => .d2 p
   | false => match Nat.beq r 3 with
    | true => .d3 p
    | false => match Nat.beq r 4 with
     | true => .d4 p
     | false => match Nat.beq r 5 with
      | true => .d5 p
      | false => match Nat.beq r 6 with
       | true => .d6 p
       | false => .d7 p
def ofS (sub : Nat → π) (n : Nat) : Dg π := dig (Nat.mod n 8) (sub (Nat.div n 8))
end Dg
namespace Tr
variable {α β γ π : Type}
def ofZ (n : Nat) : Dz := match Nat.beq n 0 with
 | true => .stop
 | false => .bad
def getZ (p : Dz) (t : Option α) : Option α := match p with
 | .stop => t
 | .bad => none
def setZ (p : Dz) (v t : Option α) : Option α := match p with
 | .stop => v
 | .bad => t
def setKZ (p : Dz) (v t : Option α) (k : Option α → γ) : γ := match p with
 | .stop => k v
 | .bad => k t
def getS (sub : π → β → Option α) (p : Dg π) (t : N8 β) : Option α := match p with
 | .d0 p => sub p t.c0
 | .d1 p => sub p t.c1
 | .d2 p => sub p t.c2
 | .d3 p => sub p t.c3
 | .d4 p => sub p t.c4
 | .d5 p => sub p t.c5
 | .d6 p => sub p t.c6
 | .d7 p => sub p t.c7
def setS (sub : π → Option α → β → β) (p : Dg π) (v : Option α) (t : N8 β) : N8 β := match p with
 | .d0 p => { t with c0 := sub p v t.c0 }
 | .d1 p => { t with c1 := sub p v t.c1 }
 | .d2 p => { t with c2 := sub p v t.c2 }
 | .d3 p => { t with c3 := sub p v t.c3 }
 | .d4 p => { t with c4 := sub p v t.c4 }
 | .d5 p => { t with c5 := sub p v t.c5 }
 | .d6 p => { t with c6 := sub p v t.c6 }
 | .d7 p => { t with c7 := sub p v t.c7 }
def setKS (sub : π → Option α → β → (β → γ) → γ) (p : Dg π) (v : Option α) (t : N8 β) (k : N8 β → γ) : γ := match t with
 | ⟨c0, c1, c2, c3, c4, c5, c6, c7⟩ => match p with
  | .d0 p => sub p v c0 fun c0 => k ⟨c0, c1, c2, c3, c4, c5, c6, c7⟩
  | .d1 p => sub p v c1 fun c1 => k ⟨c0, c1, c2, c3, c4, c5, c6, c7⟩
  | .d2 p => sub p v c2 fun c2 => k ⟨c0, c1, c2, c3, c4, c5, c6, c7⟩
  | .d3 p => sub p v c3 fun c3 => k ⟨c0, c1, c2, c3, c4, c5, c6, c7⟩
  | .d4 p => sub p v c4 fun c4 => k ⟨c0, c1, c2, c3, c4, c5, c6, c7⟩
  | .d5 p => sub p v c5 fun c5 => k ⟨c0, c1, c2, c3, c4, c5, c6, c7⟩
  | .d6 p => sub p v c6 fun c6 => k ⟨c0, c1, c2, c3, c4, c5, c6, c7⟩
  | .d7 p => sub p v c7 fun c7 => k ⟨c0, c1, c2, c3, c4, c5, c6, c7⟩
structure Lens (of : Nat → π) (g : π → β → Option α) (s : π → Option α → β → β) : Prop where
 law : ∀ m n v t u, g (of m) (s (of n) v t) = some u → (m = n ∧ v = some u) ∨ (m ≠ n ∧ g (of m) t = some u)
theorem lensZ : Lens ofZ (getZ (α := α)) setZ where
 law m n v t u h := by
  unfold ofZ at h ⊢
  cases hm : Nat.beq m 0 with
  | false => simp only [hm, getZ] at h; cases h
  | true =>
   have hm' := Nat.eq_of_beq_eq_true hm
   cases hn : Nat.beq n 0 with
   | true =>
    have hn' := Nat.eq_of_beq_eq_true hn
    simp only [hm, hn, getZ, setZ] at h
    exact .inl ⟨by omega, h⟩
   | false =>
    simp only [hm, hn, getZ, setZ] at h
    exact .inr ⟨fun e => (by rw [← e, hm] at hn; cases hn), h⟩
theorem getS_dig (sub : π → β → Option α) {r : Nat} (h : r < 8) (p : π) (t : N8 β) : getS sub (Dg.dig r p) t = sub p (t.nth r) := by
 rcases N8.below h with rfl | rfl | rfl | rfl | rfl | rfl | rfl | rfl <;> rfl
theorem setS_dig (sub : π → Option α → β → β) {r : Nat} (h : r < 8) (p : π) (v : Option α) (t : N8 β) : setS sub (Dg.dig r p) v t = t.upd r (sub p v (t.nth r)) := by
 rcases N8.below h with rfl | rfl | rfl | rfl | rfl | rfl | rfl | rfl <;> rfl
theorem lensS {of : Nat → π} {g : π → β → Option α} {s : π → Option α → β → β} (L : Lens of g s) : Lens (Dg.ofS of) (getS g) (setS s) where
 law m n v t u h := by
  have hm : Nat.mod m 8 < 8 := Nat.mod_lt _ (by decide)
  have hn : Nat.mod n 8 < 8 := Nat.mod_lt _ (by decide)
  have em : 8 * (Nat.div m 8) + Nat.mod m 8 = m := Nat.div_add_mod m 8
  have en : 8 * (Nat.div n 8) + Nat.mod n 8 = n := Nat.div_add_mod n 8
  unfold Dg.ofS at h ⊢
  rw [setS_dig _ hn, getS_dig _ hm] at h
  rw [getS_dig _ hm]
  by_cases e : Nat.mod m 8 = Nat.mod n 8
  ·rw [e, N8.nth_upd_self _ _ hn] at h
   rcases L.law _ _ _ _ _ h with ⟨h1, h2⟩ | ⟨h1, h2⟩
   ·exact .inl ⟨by rw [← em, ← en, e, h1], h2⟩
   ·exact .inr ⟨fun hh => h1 (by rw [hh]), by rw [e]; exact h2⟩
  ·rw [N8.nth_upd_other _ _ hn hm e] at h
   exact .inr ⟨fun hh => e (by rw [hh]), h⟩
theorem setKS_eq {sub : π → Option α → β → (β → γ) → γ} {s : π → Option α → β → β} (h : ∀ p v t k, sub p v t k = k (s p v t)) (p : Dg π) (v : Option α) (t : N8 β) (k : N8 β → γ) : setKS sub p v t k = k (setS s p v t) := by
 cases t; cases p <;> simp only [setKS, setS, h]
end Tr
abbrev P3 := Dg (Dg (Dg Dz))
abbrev P6 := Dg (Dg (Dg P3))
abbrev T3 (α : Type) := N8 (N8 (N8 (Option α)))
abbrev T6 (α : Type) := N8 (N8 (N8 (T3 α)))
structure Tr (α : Type) where
 mk ::
 small : T3 α
 big : T6 α
inductive Ky where
 | small (p : P3)
 | big (p : P6)
namespace Tr
variable {α β : Type}
def of3 : Nat → P3 := Dg.ofS (Dg.ofS (Dg.ofS ofZ))
def of6 : Nat → P6 := Dg.ofS (Dg.ofS (Dg.ofS of3))
def get3 : P3 → T3 α → Option α := getS (getS (getS getZ))
def get6 : P6 → T6 α → Option α := getS (getS (getS get3))
def set3 : P3 → Option α → T3 α → T3 α := setS (setS (setS setZ))
def set6 : P6 → Option α → T6 α → T6 α := setS (setS (setS set3))
theorem lens3 : Lens of3 (get3 (α := α)) set3 := lensS (lensS (lensS lensZ))
theorem lens6 : Lens of6 (get6 (α := α)) set6 := lensS (lensS (lensS lens3))
def key (n : Nat) : Ky := match Nat.ble n 511 with
 | true => .small (of3 n)
 | false => .big (of6 n)
def lookKy (k : Ky) (t : Tr α) : Option α := match k with
 | .small p => get3 p t.small
 | .big p => get6 p t.big
def setKy (k : Ky) (v : Option α) (t : Tr α) : Tr α := match k with
 | .small p => { t with small := set3 p v t.small }
 | .big p => { t with big := set6 p v t.big }
def fill (x : β) : N8 β := ⟨x, x, x, x, x, x, x, x⟩
def nil3 : T3 α := fill (fill (fill none))
def nil6 : T6 α := fill (fill (fill nil3))
def nil : Tr α := ⟨nil3, nil6⟩
def look (t : Tr α) (n : Nat) : Option α := lookKy (key n) t
theorem look_setKy {n key' : Nat} {t : Tr α} {v : Option α} {u : α} (h : (setKy (key n) v t).look key' = some u) : (key' = n ∧ v = some u) ∨ (key' ≠ n ∧ t.look key' = some u) := by
 unfold look key at *
 cases hk : Nat.ble key' 511 <;> cases hn : Nat.ble n 511 <;> simp only [hk, hn, lookKy, setKy] at h ⊢
 ·exact lens6.law _ _ _ _ _ h
 ·exact .inr ⟨fun e => (by rw [e, hn] at hk; cases hk), h⟩
 ·exact .inr ⟨fun e => (by rw [e, hn] at hk; cases hk), h⟩
 ·exact lens3.law _ _ _ _ _ h
def set (t : Tr α) (n : Nat) (v : α) : Tr α := setKy (key n) (some v) t
theorem look_set {key key' : Nat} {t : Tr α} {v u : α} (h : (t.set key v).look key' = some u) : (key' = key ∧ u = v) ∨ (key' ≠ key ∧ t.look key' = some u) := by
 rcases look_setKy h with ⟨h1, h2⟩ | h
 ·exact .inl ⟨h1, (Option.some.inj h2).symm⟩
 ·exact .inr h
def del (t : Tr α) (n : Nat) : Tr α := setKy (key n) none t
theorem look_del {key key' : Nat} {t : Tr α} {u : α} (h : (t.del key).look key' = some u) : key' ≠ key ∧ t.look key' = some u := by
 rcases look_setKy h with ⟨h1, h2⟩ | h
 ·cases h2
 ·exact h
theorem getS_fill {π : Type} {g : π → β → Option α} {x : β} (h : ∀ p, g p x = none) (p : Dg π) : getS g p (fill x) = none := by
 cases p <;> exact h _
theorem nil3_get (p : P3) : get3 p (nil3 : T3 α) = none := getS_fill (getS_fill (getS_fill fun p => by cases p <;> rfl)) p
theorem nil_look (n : Nat) : (nil : Tr α).look n = none := by
 unfold look
 cases key n with
 | small p => exact nil3_get p
 | big p => exact getS_fill (getS_fill (getS_fill nil3_get)) p
def setK3 : P3 → Option α → T3 α → (T3 α → β) → β := setKS (setKS (setKS setKZ))
def setK6 : P6 → Option α → T6 α → (T6 α → β) → β := setKS (setKS (setKS setK3))
theorem setK3_eq (p : P3) (v : Option α) (t : T3 α) (k : T3 α → β) : setK3 p v t k = k (set3 p v t) :=
 setKS_eq (setKS_eq (setKS_eq fun p v t k => by cases p <;> rfl)) p v t k
theorem setK6_eq (p : P6) (v : Option α) (t : T6 α) (k : T6 α → β) : setK6 p v t k = k (set6 p v t) :=
 setKS_eq (setKS_eq (setKS_eq setK3_eq)) p v t k
def setKK (ky : Ky) (v : Option α) (t : Tr α) (k : Tr α → β) : β := match t with
 | ⟨a, b⟩ => match ky with
  | .small p => setK3 p v a fun a => k ⟨a, b⟩
  | .big p => setK6 p v b fun b => k ⟨a, b⟩
theorem setKK_eq (ky : Ky) (v : Option α) (t : Tr α) (k : Tr α → β) : setKK ky v t k = k (setKy ky v t) := by
 cases t; cases ky <;> simp only [setKK, setK3_eq, setK6_eq, setKy]
def setK (n : Nat) (v : α) (t : Tr α) (k : Tr α → β) : β := setKK (key n) (some v) t k
theorem setK_eq (n : Nat) (v : α) (t : Tr α) (k : Tr α → β) : setK n v t k = k (t.set n v) := setKK_eq _ _ _ _
end Tr
inductive IE where
 | lit (n : Int)
 | var (i : Nat)
 | add (a b : IE)
 | sub (a b : IE)
 | mul (a b : IE)
 | quo (a b : IE)
 | rem (a b : IE)
 | bits (op : BinOp) (k : IntKind) (a b : IE)
 | shl (k : IntKind) (a b : IE)
 | shr (k : IntKind) (a b : IE)
 | min (a b : IE)
 | max (a b : IE)
 | wrap (k : IntKind) (a : IE)
 | nth (l : Nat) (ix : IE)
 | len (l : Nat)
 | room (b : Nat) (size : Nat)
 deriving DecidableEq
inductive BE where
 | lit (b : Bool)
 | var (i : Nat)
 | lt (a b : IE)
 | le (a b : IE)
 | eq (a b : IE)
 | not (a : BE)
 | pick (c a b : BE)
 deriving DecidableEq
inductive SC where
 | any (i : Nat)
 | int (k : IntKind) (e : IE)
 | bool (b : BE)
 | lit (v : Value)
 | ptr (b : Nat) (off : IE)
 | slice (b : Nat) (off len cap : IE)
 | ref (b : Nat)
 | fn (f : Fn) (first caps : List SC)
 | yield (l : Nat)
 | iface (t : TypeId) (x : SC)
 | agg (l : List SC)
 | tup (l : List SC)
 | chn (b : Nat)
inductive SO where
 | cells (l : List SC) (e : TypeId)
 | row (l : List SC) (e : TypeId) (r : Nat)
 | ints (k : IntKind) (l : Nat) (e : TypeId)
 | obj (i : Nat)
 | map (es : List (SC × SC))
 | pin (es : List (SC × SC)) (sh : Nat)
 | itr (m sh n : Nat) (e : Option Nat) (r : Nat)
 | calls
 | rng (n size : Nat) (sl : Tr SC) (fn : FuncId) (params : Array Tmp) (assign body : Code) (st : LoopState) (pend : Option Code) (d : Nat)
 | chan (cap : Nat) (buf : List SC) (closed : Bool) (ns nr : IE) (tm : Bool)
structure Env where
 i : List Int := []
 b : List Bool := []
 k : List (Nat × List Value) := []
 v : List Value := []
 o : List Obj := []
 l : List (List Int) := []
 lp : List Loop := []
 g : List Gh := []
def bitsOf (op : BinOp) (k : IntKind) (x y : Int) : Int :=
 let a := BitVec.ofInt k.bits x
 let b := BitVec.ofInt k.bits y
 k.wrap (match op with
  | .and => a &&& b
  | .or => a ||| b
  | .xor => a ^^^ b
  | _ => a &&& ~~~b).toNat
namespace Env
variable (ρ : Env)
def int (i : Nat) : Int := ρ.i.getD i 0
def bool (i : Nat) : Bool := ρ.b.getD i false
def blk (i : Nat) : Nat := (ρ.k.getD i (0, [])).1
def rest (i : Nat) : List Value := (ρ.k.getD i (0, [])).2
def val (i : Nat) : Value := ρ.v.getD i .nilFunc
def list (i : Nat) : List Int := ρ.l.getD i []
def obj (i : Nat) : Obj := ρ.o.getD i (.number ⟨0, 0, none⟩ false)
def loop (i : Nat) : Loop := ρ.lp.getD i default
def grow (b : Nat) (r : List Value := []) : Env := { ρ with k := ρ.k ++ [(b, r)] }
end Env
def IE.den (ρ : Env) : IE → Int
 | .lit n => n
 | .var i => ρ.int i
 | .add a b => a.den ρ + b.den ρ
 | .sub a b => a.den ρ - b.den ρ
 | .mul a b => a.den ρ * b.den ρ
 | .quo a b => (a.den ρ).tdiv (b.den ρ)
 | .rem a b => (a.den ρ).tmod (b.den ρ)
 | .bits op k a b => bitsOf op k (a.den ρ) (b.den ρ)
 | .shl k a b => a.den ρ * 2 ^ (Nat.min (b.den ρ).toNat k.bits)
 | .shr k a b => (a.den ρ).fdiv (2 ^ (Nat.min (b.den ρ).toNat k.bits))
 | .min a b => if b.den ρ < a.den ρ then b.den ρ else a.den ρ
 | .max a b => if b.den ρ > a.den ρ then b.den ρ else a.den ρ
 | .wrap k a => k.wrap (a.den ρ)
 | .nth l ix => (ρ.list l).getD (ix.den ρ).toNat 0
 | .len l => ((ρ.list l).length : Nat)
 | .room b s => ((ρ.rest b).length / s : Nat)
def BE.den (ρ : Env) : BE → Bool
 | .lit b => b
 | .var i => ρ.bool i
 | .lt a b => decide (a.den ρ < b.den ρ)
 | .le a b => decide (a.den ρ ≤ b.den ρ)
 | .eq a b => a.den ρ == b.den ρ
 | .not a => !a.den ρ
 | .pick c a b => if c.den ρ then a.den ρ else b.den ρ
mutual
def SC.den (ρ : Env) : SC → Value
 | .any i => ρ.val i
 | .int k e => .int k (e.den ρ)
 | .bool b => .bool (b.den ρ)
 | .lit v => v
 | .ptr b off => .pointer (some ⟨ρ.blk b, (off.den ρ).toNat, none⟩)
 | .slice b off len cap => .slice (some ⟨ρ.blk b, (off.den ρ).toNat, none⟩) (len.den ρ).toNat (cap.den ρ).toNat
 | .ref b => .map (some (ρ.blk b))
 | .fn f first caps => .func f (dens ρ first).toArray (dens ρ caps).toArray
 | .yield l => .func (.yield (ρ.blk l)) #[] #[]
 | .iface t x => .iface t (SC.den ρ x)
 | .agg l => .agg (dens ρ l).toArray
 | .tup l => .tuple (dens ρ l).toArray
 | .chn b => .chan (some (ρ.blk b))
def dens (ρ : Env) : List SC → List Value
 | [] => []
 | x :: l => SC.den ρ x :: dens ρ l
end
theorem dens_eq (ρ : Env) : ∀ l : List SC, dens ρ l = l.map (SC.den ρ)
 | [] => rfl
 | x :: l => by rw [dens, List.map_cons, dens_eq ρ l]
def fill (ρ : Env) (n size : Nat) (sl : Tr SC) : Array Value := ((List.range size).map fun i => match sl.look i with
 | some v => v.den ρ
 | none => (ρ.rest n).getD i undef).toArray
def natV : Value → Nat
 | .int _ n => n.toNat
 | _ => 0
abbrev Shape := Nat × List Nat × List Nat
def shapeOf (n : Nat) (r : List Value) : Shape := ((r.map natV).headD 0, ((r.map natV).drop 1).take n, ((r.map natV).drop 1).drop n)
def shapeB (n : Nat) (s : Shape) : Bool := s.2.1.isPerm (List.range n) && decide (s.2.2.length = n) && decide (s.2.2.Pairwise (· < ·)) && s.2.2.all (· < s.1)
def Env.shape (ρ : Env) (n sh : Nat) : Shape := if shapeB n (shapeOf n (ρ.rest sh)) then shapeOf n (ρ.rest sh) else (n, List.range n, List.range n)
def pairD (ρ : Env) (x : SC × SC) : Value × Value := (x.1.den ρ, x.2.den ρ)
def absE (l : List (Value × Value)) : List MapEntry := l.map fun x => { key := x.1, val := x.2, born := 0 }
def pinE (l : List (Value × Value)) (s : Shape) : List MapEntry := (s.2.1.zip s.2.2).map fun x => match l[x.1]? with
 | some y => { key := y.1, val := y.2, born := x.2 }
 | none => { key := undef, val := undef, born := x.2 }
def stampOf (s : Shape) (e : Nat) : Nat := match (s.2.1.zip s.2.2).find? fun x => x.1 == e with
 | some x => x.2
 | none => 0
def SO.den (ρ : Env) : SO → Obj
 | .cells l e => .cells (l.map (SC.den ρ)).toArray e (0, 0)
 | .row l e r => .cells (l.map (SC.den ρ) ++ ρ.rest r).toArray e (0, 0)
 | .ints k l e => .cells ((ρ.list l).map (Value.int k)).toArray e (0, 0)
 | .obj i => ρ.obj i
 | .map es => .map (absE (es.map (pairD ρ))).toArray 0
 | .pin es sh => .map (pinE (es.map (pairD ρ)) (ρ.shape es.length sh)).toArray (ρ.shape es.length sh).1
 | .itr m sh n e r => .mapIter (some (ρ.blk m)) (ρ.shape n sh).1 (match e with | some e => (ρ.rest r).map natV ++ [stampOf (ρ.shape n sh) e] | none => []).toArray (ρ.shape n sh).1
 | .calls => .deferred (some [])
 | .rng n size sl fn params assign body st pend d => .loop { state := st, pending := pend, fn, tmps := fill ρ n size sl, params, assign, body, defers := ρ.blk d }
 | .chan cap buf closed ns nr tm => .chan cap (buf.map (SC.den ρ)).toArray closed (ns.den ρ).toNat (nr.den ρ).toNat tm
def IE.ok (n : Nat) : IE → Prop
 | .lit _ | .var _ | .len _ => True
 | .add a b | .sub a b | .mul a b | .quo a b | .rem a b | .bits _ _ a b | .shl _ a b | .shr _ a b | .min a b | .max a b => a.ok n ∧ b.ok n
 | .wrap _ a | .nth _ a => a.ok n
 | .room b _ => b < n
def BE.ok (n : Nat) : BE → Prop
 | .lit _ | .var _ => True
 | .lt a b | .le a b | .eq a b => a.ok n ∧ b.ok n
 | .not a => a.ok n
 | .pick c a b => c.ok n ∧ a.ok n ∧ b.ok n
mutual
def SC.ok (n : Nat) : SC → Prop
 | .any _ | .lit _ => True
 | .int _ e => e.ok n
 | .bool b => b.ok n
 | .ptr b off => b < n ∧ off.ok n
 | .slice b off len cap => b < n ∧ off.ok n ∧ len.ok n ∧ cap.ok n
 | .ref b => b < n
 | .fn _ first caps => SC.oks n first ∧ SC.oks n caps
 | .yield l => l < n
 | .iface _ x => SC.ok n x
 | .agg l => SC.oks n l
 | .tup l => SC.oks n l
 | .chn b => b < n
def SC.oks (n : Nat) : List SC → Prop
 | [] => True
 | x :: l => SC.ok n x ∧ SC.oks n l
end
theorem oks_iff {n : Nat} : ∀ {l : List SC}, SC.oks n l ↔ ∀ x ∈ l, x.ok n
 | [] => by simp [SC.oks]
 | x :: l => by simp [SC.oks, oks_iff (l := l)]
def SO.ok (n : Nat) : SO → Prop
 | .cells l _ => ∀ x ∈ l, x.ok n
 | .row l _ r => r < n ∧ ∀ x ∈ l, x.ok n
 | .ints .. | .obj _ | .calls => True
 | .rng m size sl _ _ _ _ _ _ d => m < n ∧ d < n ∧ ∀ i v, sl.look i = some v → v.ok n ∧ i < size
 | .map es => ∀ x ∈ es, x.1.ok n ∧ x.2.ok n
 | .pin es sh => sh < n ∧ ∀ x ∈ es, x.1.ok n ∧ x.2.ok n
 | .itr m sh _ _ r => m < n ∧ sh < n ∧ r < n
 | .chan _ buf _ ns nr _ => (∀ x ∈ buf, x.ok n) ∧ ns.ok n ∧ nr.ok n
theorem blk_grow (ρ : Env) (b : Nat) (r : List Value) {i : Nat} (h : i < ρ.k.length) : (ρ.grow b r).blk i = ρ.blk i := by
 simp [Env.blk, Env.grow, List.getElem?_append_left h]
theorem rest_grow (ρ : Env) (b : Nat) (r : List Value) {i : Nat} (h : i < ρ.k.length) : (ρ.grow b r).rest i = ρ.rest i := by
 simp [Env.rest, Env.grow, List.getElem?_append_left h]
@[simp] theorem blk_new (ρ : Env) (b : Nat) (r : List Value) : (ρ.grow b r).blk ρ.k.length = b := by simp [Env.blk, Env.grow]
@[simp] theorem rest_new (ρ : Env) (b : Nat) (r : List Value) : (ρ.grow b r).rest ρ.k.length = r := by simp [Env.rest, Env.grow]
@[simp] theorem len_grow (ρ : Env) (b : Nat) (r : List Value) : (ρ.grow b r).k.length = ρ.k.length + 1 := by simp [Env.grow]
theorem IE.den_grow {ρ : Env} {b : Nat} {r : List Value} (e : IE) (h : e.ok ρ.k.length) : e.den (ρ.grow b r) = e.den ρ := by
 induction e <;> simp_all [IE.den, IE.ok, rest_grow] <;> rfl
theorem BE.den_grow {ρ : Env} {b : Nat} {r : List Value} (e : BE) (h : e.ok ρ.k.length) : e.den (ρ.grow b r) = e.den ρ := by
 induction e with
 | lt a c => simp only [BE.den, IE.den_grow _ h.1, IE.den_grow _ h.2]
 | le a c => simp only [BE.den, IE.den_grow _ h.1, IE.den_grow _ h.2]
 | eq a c => simp only [BE.den, IE.den_grow _ h.1, IE.den_grow _ h.2]
 | not a ih => simp only [BE.den, ih h]
 | pick c x y h1 h2 h3 => simp only [BE.den, h1 h.1, h2 h.2.1, h3 h.2.2]
 | _ => rfl
mutual
theorem SC.den_grow {ρ : Env} {b : Nat} {r : List Value} : ∀ (x : SC), x.ok ρ.k.length → x.den (ρ.grow b r) = x.den ρ
 | .any _, _ | .lit _, _ => rfl
 | .int k e, h => by simp only [SC.den]; rw [IE.den_grow e h]
 | .bool e, h => by simp only [SC.den]; rw [BE.den_grow e h]
 | .ptr i off, h => by simp only [SC.den, IE.den_grow _ h.2, blk_grow ρ b r h.1]
 | .slice i off len cap, h => by simp only [SC.den, IE.den_grow _ h.2.1, IE.den_grow _ h.2.2.1, IE.den_grow _ h.2.2.2, blk_grow ρ b r h.1]
 | .ref i, h => by simp only [SC.den]; rw [blk_grow ρ b r h]
 | .fn f first caps, h => by simp only [SC.den, dens_grow first h.1, dens_grow caps h.2]
 | .yield l, h => by simp only [SC.den]; rw [blk_grow ρ b r h]
 | .iface t x, h => by simp only [SC.den]; rw [SC.den_grow x h]
 | .agg l, h => by simp only [SC.den]; rw [dens_grow l h]
 | .tup l, h => by simp only [SC.den]; rw [dens_grow l h]
 | .chn i, h => by simp only [SC.den]; rw [blk_grow ρ b r h]
theorem dens_grow {ρ : Env} {b : Nat} {r : List Value} : ∀ (l : List SC), SC.oks ρ.k.length l → dens (ρ.grow b r) l = dens ρ l
 | [], _ => rfl
 | x :: l, h => by simp only [dens]; rw [SC.den_grow x h.1, dens_grow l h.2]
end
theorem map_grow {ρ : Env} {b : Nat} {r : List Value} {l : List SC} (h : ∀ x ∈ l, x.ok ρ.k.length) : l.map (SC.den (ρ.grow b r)) = l.map (SC.den ρ) :=
 List.map_congr_left fun x hx => SC.den_grow x (h x hx)
theorem pairs_grow {ρ : Env} {b : Nat} {r : List Value} {l : List (SC × SC)} (h : ∀ x ∈ l, x.1.ok ρ.k.length ∧ x.2.ok ρ.k.length) : l.map (pairD (ρ.grow b r)) = l.map (pairD ρ) :=
 List.map_congr_left fun x hx => by simp only [pairD, SC.den_grow x.1 (h x hx).1, SC.den_grow x.2 (h x hx).2]
theorem fill_grow {ρ : Env} {b : Nat} {r : List Value} {n size : Nat} {sl : Tr SC} (hn : n < ρ.k.length) (h : ∀ i v, sl.look i = some v → v.ok ρ.k.length) : fill (ρ.grow b r) n size sl = fill ρ n size sl := by
 unfold fill
 congr 1
 apply List.map_congr_left
 intro i _
 cases hl : sl.look i with
 | none => simp only [rest_grow ρ b r hn]
 | some v => simp only [SC.den_grow v (h i v hl)]
theorem SO.den_grow {ρ : Env} {b : Nat} {r : List Value} (x : SO) (h : x.ok ρ.k.length) : x.den (ρ.grow b r) = x.den ρ := by
 cases x with
 | cells l e => simp only [SO.den, map_grow h]
 | row l e i => simp only [SO.den, map_grow h.2, rest_grow ρ b r h.1]
 | map es => simp only [SO.den, pairs_grow h]
 | pin es sh => simp only [SO.den, pairs_grow h.2, Env.shape, rest_grow ρ b r h.1]
 | itr m sh n e i => simp only [SO.den, Env.shape, blk_grow ρ b r h.1, rest_grow ρ b r h.2.1, rest_grow ρ b r h.2.2]
 | rng n size sl fn params assign body st pend d =>
  simp only [SO.den, fill_grow h.1 (fun i v hi => (h.2.2 i v hi).1), blk_grow ρ b r h.2.1]
 | chan cap buf closed ns nr tm => simp only [SO.den, map_grow h.1, IE.den_grow _ h.2.1, IE.den_grow _ h.2.2]
 | _ => rfl
theorem IE.ok_mono {n m : Nat} (hn : n ≤ m) : ∀ {e : IE}, e.ok n → e.ok m := by
 intro e
 induction e <;> simp_all [IE.ok]
 omega
theorem BE.ok_mono {n m : Nat} (hn : n ≤ m) : ∀ {e : BE}, e.ok n → e.ok m := by
 intro e
 induction e with
 | lt a c => exact fun h => ⟨IE.ok_mono hn h.1, IE.ok_mono hn h.2⟩
 | le a c => exact fun h => ⟨IE.ok_mono hn h.1, IE.ok_mono hn h.2⟩
 | eq a c => exact fun h => ⟨IE.ok_mono hn h.1, IE.ok_mono hn h.2⟩
 | not a ih => exact ih
 | pick c x y h1 h2 h3 => exact fun h => ⟨h1 h.1, h2 h.2.1, h3 h.2.2⟩
 | _ => exact fun h => h
mutual
theorem SC.ok_mono {n m : Nat} (hn : n ≤ m) : ∀ (x : SC), x.ok n → x.ok m
 | .any _, _ | .lit _, _ => trivial
 | .int k e, h => IE.ok_mono hn (e := e) h
 | .bool e, h => BE.ok_mono hn (e := e) h
 | .ptr i off, h => ⟨Nat.lt_of_lt_of_le h.1 hn, IE.ok_mono hn h.2⟩
 | .slice i off len cap, h => ⟨Nat.lt_of_lt_of_le h.1 hn, IE.ok_mono hn h.2.1, IE.ok_mono hn h.2.2.1, IE.ok_mono hn h.2.2.2⟩
 | .ref i, h => Nat.lt_of_lt_of_le h hn
 | .fn f first caps, h => ⟨oks_mono hn first h.1, oks_mono hn caps h.2⟩
 | .yield l, h => Nat.lt_of_lt_of_le h hn
 | .iface t x, h => SC.ok_mono hn x h
 | .agg l, h => oks_mono hn l h
 | .tup l, h => oks_mono hn l h
 | .chn i, h => Nat.lt_of_lt_of_le h hn
theorem oks_mono {n m : Nat} (hn : n ≤ m) : ∀ (l : List SC), SC.oks n l → SC.oks m l
 | [], _ => trivial
 | x :: l, h => ⟨SC.ok_mono hn x h.1, oks_mono hn l h.2⟩
end
theorem SO.ok_mono {n m : Nat} (hn : n ≤ m) {x : SO} (h : x.ok n) : x.ok m := by
 cases x with
 | cells l e => exact fun y hy => SC.ok_mono hn y (h y hy)
 | row l e i => exact ⟨Nat.lt_of_lt_of_le h.1 hn, fun y hy => SC.ok_mono hn y (h.2 y hy)⟩
 | map es => exact fun y hy => ⟨SC.ok_mono hn _ (h y hy).1, SC.ok_mono hn _ (h y hy).2⟩
 | pin es sh => exact ⟨Nat.lt_of_lt_of_le h.1 hn, fun y hy => ⟨SC.ok_mono hn _ (h.2 y hy).1, SC.ok_mono hn _ (h.2 y hy).2⟩⟩
 | itr m' sh k e i => exact ⟨Nat.lt_of_lt_of_le h.1 hn, Nat.lt_of_lt_of_le h.2.1 hn, Nat.lt_of_lt_of_le h.2.2 hn⟩
 | rng m' size sl fn params assign body st pend d => exact ⟨Nat.lt_of_lt_of_le h.1 hn, Nat.lt_of_lt_of_le h.2.1 hn, fun i v hi => ⟨SC.ok_mono hn v (h.2.2 i v hi).1, (h.2.2 i v hi).2⟩⟩
 | chan cap buf closed ns nr tm => exact ⟨fun y hy => SC.ok_mono hn y (h.1 y hy), IE.ok_mono hn h.2.1, IE.ok_mono hn h.2.2⟩
 | _ => trivial
structure SM where
 v : SC
 l : List (Nat × SO) := []
 a : Nat := 0
 n : Nat := 0
def Env.to (ρ : Env) (a : Nat) (t : List (Nat × List Value)) : Env := { ρ with k := ρ.k.take a ++ t }
def liesAt (ρ : Env) : List (Nat × SO) → Nat → Option Obj
 | [], _ => none
 | (i, o) :: l, b => if ρ.blk i = b then some (o.den ρ) else liesAt ρ l b
def SM.msg (ρ : Env) (x : SM) : Msg := (x.v.den ρ, liesAt ρ x.l)
def SM.ok (x : SM) : Prop := x.a ≤ x.n ∧ x.v.ok x.n ∧ ∀ y ∈ x.l, y.1 < x.n ∧ y.2.ok x.n
def SM.fine (ρ : Env) (x : SM) : Prop := ∀ y ∈ x.l, ∀ z ∈ x.l, ρ.blk y.1 = ρ.blk z.1 → y = z
def SM.says (ρ : Env) (x : SM) (m : Msg) : Prop := ∃ t, t.length = x.n - x.a ∧ m = x.msg (ρ.to x.a t) ∧ x.fine (ρ.to x.a t)
def Pw {α β : Type _} (R : α → β → Prop) : List α → List β → Prop
 | [], [] => True
 | x :: l, y :: m => R x y ∧ Pw R l m
 | _, _ => False
theorem Pw.congr {α β : Type _} {R R' : α → β → Prop} : ∀ {l : List α} {m : List β}, (∀ y ∈ m, ∀ x, R x y ↔ R' x y) → (Pw R l m ↔ Pw R' l m)
 | [], [], _ => Iff.rfl
 | _ :: _, [], _ => Iff.rfl
 | [], _ :: _, _ => Iff.rfl
 | x :: l, y :: m, h => and_congr (h y List.mem_cons_self x) (Pw.congr fun z hz => h z (List.mem_cons_of_mem _ hz))
theorem Pw.mono {α β : Type _} {R R' : α → β → Prop} : ∀ {l : List α} {m : List β}, Pw R l m → (∀ y ∈ m, ∀ x, R x y → R' x y) → Pw R' l m
 | [], [], _, _ => trivial
 | _ :: _, [], h, _ => h.elim
 | [], _ :: _, h, _ => h.elim
 | x :: l, y :: m, h, hR => ⟨hR y List.mem_cons_self x h.1, Pw.mono h.2 fun z hz => hR z (List.mem_cons_of_mem _ hz)⟩
theorem Pw.append {α β : Type _} {R : α → β → Prop} : ∀ {l l' : List α} {m m' : List β}, Pw R l m → Pw R l' m' → Pw R (l ++ l') (m ++ m')
 | [], _, [], _, _, h' => h'
 | _ :: _, _, [], _, h, _ => h.elim
 | [], _, _ :: _, _, h, _ => h.elim
 | _ :: _, _, _ :: _, _, h, h' => ⟨h.1, Pw.append h.2 h'⟩
theorem Pw.flat {α β : Type _} {R : α → β → Prop} : ∀ {l : List (List α)} {m : List (List β)}, Pw (Pw R) l m → Pw R l.flatten m.flatten
 | [], [], _ => trivial
 | _ :: _, [], h => h.elim
 | [], _ :: _, h => h.elim
 | _ :: _, _ :: _, h => Pw.append h.1 (Pw.flat h.2)
theorem Pw.perm {α β : Type _} {R : α → β → Prop} {l l' : List α} (hp : l.Perm l') : ∀ {m : List β}, Pw R l m → ∃ m', m.Perm m' ∧ Pw R l' m' := by
 induction hp with
 | nil => exact fun {m} h => ⟨m, .refl _, h⟩
 | cons x _ ih =>
  intro m h
  cases m with
  | nil => exact h.elim
  | cons y m =>
   obtain ⟨m', h1, h2⟩ := ih h.2
   exact ⟨y :: m', h1.cons _, h.1, h2⟩
 | swap x y l =>
  intro m h
  match m, h with
  | [], h => exact h.elim
  | [_], h => exact h.2.elim
  | a :: b :: m, h => exact ⟨b :: a :: m, .swap _ _ _, h.2.1, h.1, h.2.2⟩
 | trans _ _ ih1 ih2 =>
  intro m h
  obtain ⟨m1, h1, h2⟩ := ih1 h
  obtain ⟨m2, h3, h4⟩ := ih2 h2
  exact ⟨m2, h1.trans h3, h4⟩
theorem Pw.of_get {α β : Type _} {R : α → β → Prop} : ∀ {l : List α} {m : List β}, l.length = m.length → (∀ (i : Nat) (x : α) (y : β), l[i]? = some x → m[i]? = some y → R x y) → Pw R l m
 | [], [], _, _ => trivial
 | _ :: _, [], h, _ => by cases h
 | [], _ :: _, h, _ => by cases h
 | x :: l, y :: m, h, hR => ⟨hR 0 x y rfl rfl, Pw.of_get (by simpa using h) fun i a b ha hb => hR (i + 1) a b (by simpa using ha) (by simpa using hb)⟩
def pactOf (ρ : Env) (ms : List SM) : Pact := ⟨ms.length, fun l => Pw (fun m x => x.says ρ m) l ms⟩
theorem liesAt_grow {ρ : Env} {b : Nat} {r : List Value} : ∀ {l : List (Nat × SO)}, (∀ y ∈ l, y.1 < ρ.k.length ∧ y.2.ok ρ.k.length) → liesAt (ρ.grow b r) l = liesAt ρ l
 | [], _ => rfl
 | (i, o) :: l, h => by
  funext x
  have h1 := h (i, o) List.mem_cons_self
  simp only [liesAt, blk_grow ρ b r h1.1, SO.den_grow o h1.2, liesAt_grow (l := l) fun y hy => h y (List.mem_cons_of_mem _ hy)]
theorem SM.msg_grow {ρ : Env} {b : Nat} {r : List Value} {x : SM} (h : x.ok) (hn : x.n ≤ ρ.k.length) : x.msg (ρ.grow b r) = x.msg ρ := by
 unfold SM.msg
 rw [SC.den_grow _ (SC.ok_mono hn _ h.2.1), liesAt_grow fun y hy => ⟨Nat.lt_of_lt_of_le (h.2.2 y hy).1 hn, SO.ok_mono hn (h.2.2 y hy).2⟩]
theorem Env.to_grow {ρ : Env} {b a : Nat} {r : List Value} {t : List (Nat × List Value)} (h : a ≤ ρ.k.length) : (ρ.grow b r).to a t = ρ.to a t := by
 simp only [Env.to, Env.grow, List.take_append_of_le_length h]
theorem pactOf_grow {ρ : Env} {b : Nat} {r : List Value} {ms : List SM} (h : ∀ x ∈ ms, x.a ≤ ρ.k.length) : pactOf (ρ.grow b r) ms = pactOf ρ ms := by
 unfold pactOf
 congr 1
 funext l
 apply propext
 refine Pw.congr fun x hx m => ?_
 unfold SM.says
 refine exists_congr fun t => ?_
 rw [Env.to_grow (h x hx)]
inductive SGh where
 | none
 | any (i : Nat)
 | main (ty : TypeId) (iW iC cap : Nat) (tm : Bool) (lent : List Nat) (ps : List (List SM))
 | work (ty : TypeId) (iW iC cap : Nat) (tm : Bool) (ms : List SM) (n : Nat)
def loudGh (g : Gh) : Gh := match g.quiet with
 | true => .none
 | false => g
theorem loudGh_loud (g : Gh) : (loudGh g).quiet = false := by
 unfold loudGh
 split
 ·rfl
 ·assumption
def bare (v : Value) : Msg := (v, fun _ => none)
def Env.grp (ρ : Env) (ty : TypeId) (iW iC cap : Nat) (tm : Bool) : Grp := ⟨ty, ρ.blk iW, ρ.blk iC, cap, tm⟩
def SGh.den (ρ : Env) : SGh → Gh
 | .none => .none
 | .any i => loudGh (ρ.g.getD i .none)
 | .main ty iW iC cap tm lent ps => .main (ρ.grp ty iW iC cap tm) (fun b => ∃ i ∈ lent, ρ.blk i = b) (.op false false) (ps.map (pactOf ρ))
 | .work ty iW iC cap tm ms n => .work (ρ.grp ty iW iC cap tm) .work (pactOf ρ ms) ((ms.take n).map (SM.msg ρ))
def SGh.ok (ρ : Env) : SGh → Prop
 | .main _ iW iC _ _ lent ps => iW < ρ.k.length ∧ iC < ρ.k.length ∧ (∀ i ∈ lent, i < ρ.k.length) ∧ ∀ ms ∈ ps, ∀ x ∈ ms, x.a ≤ ρ.k.length ∧ x.ok
 | .work _ iW iC _ _ ms n => iW < ρ.k.length ∧ iC < ρ.k.length ∧ (∀ x ∈ ms, x.a ≤ ρ.k.length ∧ x.ok) ∧ ∀ x ∈ ms.take n, x.n ≤ ρ.k.length ∧ x.fine ρ
 | _ => True
def SGh.lents : SGh → List Nat
 | .main _ _ _ _ _ lent _ => lent
 | _ => []
theorem SGh.loud (ρ : Env) (s : SGh) : (s.den ρ).quiet = false := by
 cases s
 ·rfl
 ·exact loudGh_loud _
 ·rfl
 ·rfl
theorem SGh.lents_ok {ρ : Env} {s : SGh} (hs : s.ok ρ) : ∀ i ∈ s.lents, i < ρ.k.length := by
 cases s with
 | main ty iW iC cap tm lent m' => exact hs.2.2.1
 | _ => exact fun i hi => (by cases hi)
theorem SGh.ok_grow {ρ : Env} {b : Nat} {r : List Value} {s : SGh} (hs : s.ok ρ) : s.ok (ρ.grow b r) := by
 have hl : ρ.k.length ≤ (ρ.grow b r).k.length := by simp
 cases s with
 | main ty iW iC cap tm lent m' => exact ⟨Nat.lt_of_lt_of_le hs.1 hl, Nat.lt_of_lt_of_le hs.2.1 hl, fun i hi => Nat.lt_of_lt_of_le (hs.2.2.1 i hi) hl, fun ms hm x hx => ⟨Nat.le_trans (hs.2.2.2 ms hm x hx).1 hl, (hs.2.2.2 ms hm x hx).2⟩⟩
 | work ty iW iC cap tm ms m' =>
  refine ⟨Nat.lt_of_lt_of_le hs.1 hl, Nat.lt_of_lt_of_le hs.2.1 hl, fun x hx => ⟨Nat.le_trans (hs.2.2.1 x hx).1 hl, (hs.2.2.1 x hx).2⟩, fun x hx => ⟨Nat.le_trans (hs.2.2.2 x hx).1 hl, fun y hy z hz e => ?_⟩⟩
  have hok := (hs.2.2.1 x (List.mem_of_mem_take hx)).2
  obtain ⟨h1, h2⟩ := hs.2.2.2 x hx
  rw [blk_grow ρ b r (Nat.lt_of_lt_of_le (hok.2.2 y hy).1 h1), blk_grow ρ b r (Nat.lt_of_lt_of_le (hok.2.2 z hz).1 h1)] at e
  exact h2 y hy z hz e
 | _ => trivial
theorem SGh.den_grow {ρ : Env} {b : Nat} {r : List Value} (s : SGh) (hs : s.ok ρ) : s.den (ρ.grow b r) = s.den ρ := by
 cases s with
 | main ty iW iC cap tm lent m' =>
  have e : (fun x => ∃ i ∈ lent, (ρ.grow b r).blk i = x) = fun x => ∃ i ∈ lent, ρ.blk i = x := by
   funext x
   apply propext
   constructor
   ·rintro ⟨i, hi, h⟩; exact ⟨i, hi, by rw [← blk_grow ρ b r (hs.2.2.1 i hi)]; exact h⟩
   ·rintro ⟨i, hi, h⟩; exact ⟨i, hi, by rw [blk_grow ρ b r (hs.2.2.1 i hi)]; exact h⟩
  have e2 : m'.map (pactOf (ρ.grow b r)) = m'.map (pactOf ρ) := List.map_congr_left fun ms hm => pactOf_grow fun x hx => (hs.2.2.2 ms hm x hx).1
  simp only [SGh.den, Env.grp, e, e2, blk_grow ρ b r hs.1, blk_grow ρ b r hs.2.1]
 | work ty iW iC cap tm ms m' =>
  have e2 : (ms.take m').map (SM.msg (ρ.grow b r)) = (ms.take m').map (SM.msg ρ) := List.map_congr_left fun x hx => SM.msg_grow (hs.2.2.1 x (List.mem_of_mem_take hx)).2 (hs.2.2.2 x hx).1
  simp only [SGh.den, Env.grp, e2, pactOf_grow fun x hx => (hs.2.2.1 x hx).1, blk_grow ρ b r hs.1, blk_grow ρ b r hs.2.1]
 | _ => rfl
structure Hp where
 rw : Tr SO := .nil
 ro : Tr SO := .nil
 gh : SGh := .none
def Hp.get (hp : Hp) (i : Nat) : Option SO := match hp.rw.look i with
 | some o => some o
 | none => hp.ro.look i
def Knows (ρ : Env) (sl : Tr SC) (a : St) : Prop := ∀ d v, sl.look d = some v → v.ok ρ.k.length ∧ a.tmps[d]? = some (v.den ρ)
structure Sat (ρ : Env) (hp : Hp) (F S : Own) : Prop where
 has : ∀ i o, hp.rw.look i = some o → i < ρ.k.length ∧ o.ok ρ.k.length ∧ S.full (ρ.blk i) = some (o.den ρ)
 hro : ∀ i o, hp.ro.look i = some o → i < ρ.k.length ∧ o.ok ρ.k.length ∧ S.ro (ρ.blk i) = some (o.den ρ)
 inj : ∀ i j o o', hp.rw.look i = some o → hp.rw.look j = some o' → ρ.blk i = ρ.blk j → i = j
 frm : ∀ b o, F.full b = some o → S.full b = some o
 apart : ∀ i o, hp.rw.look i = some o → F.full (ρ.blk i) = none
 ro : ∀ b o, F.ro b = some o → S.ro b = some o
 gh : S.gh = hp.gh.den ρ
 dis : ∀ b, (S.full b).isSome → S.ro b = none
 ghok : hp.gh.ok ρ
 lent : ∀ i ∈ hp.gh.lents, F.ro (ρ.blk i) = none ∧ (S.ro (ρ.blk i)).isSome
 linj : ∀ i ∈ hp.gh.lents, ∀ j ∈ hp.gh.lents, ρ.blk i = ρ.blk j → i = j
 rinj : ∀ i ∈ hp.gh.lents, ∀ j o, hp.ro.look j = some o → ρ.blk i = ρ.blk j → i = j
 lnd : hp.gh.lents.Nodup
theorem Sat.loud {ρ : Env} {hp : Hp} {F S : Own} (h : Sat ρ hp F S) : Loud S := ⟨by rw [h.gh]; exact SGh.loud ρ _⟩
theorem Sat.get {ρ : Env} {hp : Hp} {F S : Own} (h : Sat ρ hp F S) {i : Nat} {o : SO} (hi : hp.get i = some o) : i < ρ.k.length ∧ o.ok ρ.k.length ∧ S.get (ρ.blk i) = some (o.den ρ) := by
 unfold Hp.get at hi
 split at hi
 ·rename_i o' ho
  cases hi
  obtain ⟨h1, h2, h3⟩ := h.has i o ho
  exact ⟨h1, h2, by unfold Own.get; rw [h3]; rfl⟩
 ·obtain ⟨h1, h2, h3⟩ := h.hro i o hi
  refine ⟨h1, h2, ?_⟩
  unfold Own.get
  cases hf : S.full (ρ.blk i) with
  | none => rw [h3]; rfl
  | some x => have := h.dis (ρ.blk i) (by simp [hf]); rw [h3] at this; cases this
theorem Sat.grow {ρ : Env} {hp : Hp} {F S : Own} {b : Nat} {r : List Value} (h : Sat ρ hp F S) : Sat (ρ.grow b r) hp F S where
 has i o hi := by
  obtain ⟨h1, h2, h3⟩ := h.has i o hi
  refine ⟨by simp; omega, SO.ok_mono (by simp) h2, ?_⟩
  rw [blk_grow ρ b r h1, SO.den_grow o h2]; exact h3
 hro i o hi := by
  obtain ⟨h1, h2, h3⟩ := h.hro i o hi
  refine ⟨by simp; omega, SO.ok_mono (by simp) h2, ?_⟩
  rw [blk_grow ρ b r h1, SO.den_grow o h2]; exact h3
 inj i j o o' hi hj e := by
  rw [blk_grow ρ b r (h.has i o hi).1, blk_grow ρ b r (h.has j o' hj).1] at e
  exact h.inj i j o o' hi hj e
 frm := h.frm
 apart i o hi := by rw [blk_grow ρ b r (h.has i o hi).1]; exact h.apart i o hi
 ro := h.ro
 gh := by rw [SGh.den_grow _ h.ghok]; exact h.gh
 dis := h.dis
 ghok := SGh.ok_grow h.ghok
 lent i hi := by rw [blk_grow ρ b r (SGh.lents_ok h.ghok i hi)]; exact h.lent i hi
 linj i hi j hj e := by
  rw [blk_grow ρ b r (SGh.lents_ok h.ghok i hi), blk_grow ρ b r (SGh.lents_ok h.ghok j hj)] at e
  exact h.linj i hi j hj e
 rinj i hi j o hj e := by
  rw [blk_grow ρ b r (SGh.lents_ok h.ghok i hi), blk_grow ρ b r (h.hro j o hj).1] at e
  exact h.rinj i hi j o hj e
 lnd := h.lnd
theorem Knows.grow {ρ : Env} {sl : Tr SC} {a : St} {b : Nat} {r : List Value} (h : Knows ρ sl a) : Knows (ρ.grow b r) sl a := fun d v hd => by
 obtain ⟨h1, h2⟩ := h d v hd
 exact ⟨SC.ok_mono (by simp) v h1, by rw [SC.den_grow v h1]; exact h2⟩
theorem Knows.put {ρ : Env} {sl : Tr SC} {a : St} {d : Nat} {v : SC} (h : Knows ρ sl a) (hd : d < a.tmps.size) (hv : v.ok ρ.k.length) : Knows ρ (sl.set d v) (a.put (some d) (v.den ρ)) := by
 intro x u hx
 show _ ∧ (a.tmps.setIfInBounds d (v.den ρ))[x]? = _
 rw [Array.getElem?_setIfInBounds]
 rcases Tr.look_set hx with ⟨rfl, rfl⟩ | ⟨e, hx⟩
 ·exact ⟨hv, by simp [hd]⟩
 ·rw [if_neg (Ne.symm e)]; exact h x u hx
theorem Sat.put {ρ : Env} {hp : Hp} {F S : Own} {i : Nat} {o o' : SO} (h : Sat ρ hp F S) (hi : hp.rw.look i = some o) (ho : o'.ok ρ.k.length) : Sat ρ { hp with rw := hp.rw.set i o' } F (S.set (ρ.blk i) (o'.den ρ)) where
 has j u hj := by
  rcases Tr.look_set hj with ⟨rfl, rfl⟩ | ⟨e, hj⟩
  ·exact ⟨(h.has _ _ hi).1, ho, by simp⟩
  ·obtain ⟨h1, h2, h3⟩ := h.has j u hj
   refine ⟨h1, h2, ?_⟩
   rw [Own.set_full, if_neg (fun e' => e (h.inj _ _ _ _ hj hi e'))]; exact h3
 hro j u hj := h.hro j u hj
 inj j j' u u' hj hj' e := by
  have key : ∀ {x w}, (hp.rw.set i o').look x = some w → ∃ w', hp.rw.look x = some w' := fun {x w} hx => by
   rcases Tr.look_set hx with ⟨rfl, _⟩ | ⟨_, hx⟩
   ·exact ⟨o, hi⟩
   ·exact ⟨w, hx⟩
  obtain ⟨w, hw⟩ := key hj
  obtain ⟨w', hw'⟩ := key hj'
  exact h.inj _ _ _ _ hw hw' e
 frm b ob hb := by
  rw [Own.set_full]
  split
  ·rename_i e; subst e; rw [h.apart i o hi] at hb; cases hb
  ·exact h.frm b ob hb
 apart j u hj := by
  rcases Tr.look_set hj with ⟨rfl, rfl⟩ | ⟨_, hj⟩
  ·exact h.apart _ o hi
  ·exact h.apart j u hj
 ro := h.ro
 gh := h.gh
 ghok := h.ghok
 lent := h.lent
 linj := h.linj
 rinj := h.rinj
 lnd := h.lnd
 dis b hb := by
  rw [Own.set_full] at hb
  split at hb
  ·rename_i e; subst e; exact h.dis _ (by rw [(h.has i o hi).2.2]; rfl)
  ·exact h.dis b hb
theorem Sat.lose {ρ : Env} {hp : Hp} {F S : Own} {i : Nat} {o : SO} (h : Sat ρ hp F S) (hi : hp.rw.look i = some o) (ob : Obj) : Sat ρ { hp with rw := hp.rw.del i } F (S.set (ρ.blk i) ob) where
 has j u hj := by
  obtain ⟨hji, hj⟩ := Tr.look_del hj
  obtain ⟨h1, h2, h3⟩ := h.has j u hj
  refine ⟨h1, h2, ?_⟩
  rw [Own.set_full, if_neg (fun e' => hji (h.inj _ _ _ _ hj hi e'))]; exact h3
 hro j u hj := h.hro j u hj
 inj j j' u u' hj hj' e := h.inj _ _ _ _ (Tr.look_del hj).2 (Tr.look_del hj').2 e
 frm b x hb := by
  rw [Own.set_full]
  split
  ·rename_i e; subst e; rw [h.apart i o hi] at hb; cases hb
  ·exact h.frm b x hb
 apart j u hj := h.apart j u (Tr.look_del hj).2
 ro := h.ro
 gh := h.gh
 ghok := h.ghok
 lent := h.lent
 linj := h.linj
 rinj := h.rinj
 lnd := h.lnd
 dis b hb := by
  rw [Own.set_full] at hb
  split at hb
  ·rename_i e; subst e; exact h.dis _ (by rw [(h.has i o hi).2.2]; rfl)
  ·exact h.dis b hb
theorem Sat.new {ρ : Env} {hp : Hp} {F S : Own} {b : Nat} {r : List Value} {o : SO} (h : Sat ρ hp F S) (hb : S.full b = none) (hr : S.ro b = none) (ho : o.ok (ρ.k.length + 1)) :
  Sat (ρ.grow b r) { hp with rw := hp.rw.set ρ.k.length o } F (S.set b (o.den (ρ.grow b r))) := by
 have hg := h.grow (b := b) (r := r)
 have hne : ∀ j u, hp.rw.look j = some u → (ρ.grow b r).blk j ≠ b := fun j u hj e => by
  have := (hg.has j u hj).2.2
  rw [e, hb] at this; cases this
 exact {
  has := fun j u hj => by
   rcases Tr.look_set hj with ⟨rfl, rfl⟩ | ⟨e, hj⟩
   ·exact ⟨by simp, by simpa using ho, by simp⟩
   ·obtain ⟨h1, h2, h3⟩ := hg.has j u hj
    exact ⟨h1, h2, by rw [Own.set_full, if_neg (hne j u hj)]; exact h3⟩
  hro := fun j u hj => hg.hro j u hj
  inj := fun j j' u u' hj hj' e => by
   rcases Tr.look_set hj with ⟨rfl, _⟩ | ⟨_, hj⟩ <;> rcases Tr.look_set hj' with ⟨rfl, _⟩ | ⟨_, hj'⟩
   ·rfl
   ·rw [blk_new] at e; exact absurd e.symm (hne _ _ hj')
   ·rw [blk_new] at e; exact absurd e (hne _ _ hj)
   ·exact hg.inj _ _ _ _ hj hj' e
  frm := fun x ob hx => by
   rw [Own.set_full]
   split
   ·rename_i e; subst e; rw [h.frm _ _ hx] at hb; cases hb
   ·exact h.frm x ob hx
  apart := fun j u hj => by
   rcases Tr.look_set hj with ⟨rfl, _⟩ | ⟨_, hj⟩
   ·rw [blk_new]
    cases hf : F.full b with
    | none => rfl
    | some x => rw [h.frm _ _ hf] at hb; cases hb
   ·exact hg.apart j u hj
  ro := h.ro
  gh := hg.gh
  ghok := hg.ghok
  lent := hg.lent
  linj := hg.linj
  rinj := hg.rinj
  lnd := hg.lnd
  dis := fun x hx => by
   rw [Own.set_full] at hx
   show S.ro x = none
   split at hx
   ·rename_i e; subst e; exact hr
   ·exact h.dis x hx }
theorem Sat.less {ρ : Env} {hp hp' : Hp} {F S : Own} (h : Sat ρ hp F S) (hg : hp'.gh = hp.gh) (h1 : ∀ i o, hp'.rw.look i = some o → hp.rw.look i = some o) (h2 : ∀ i o, hp'.ro.look i = some o → hp.ro.look i = some o) : Sat ρ hp' F S where
 has i o hi := h.has i o (h1 i o hi)
 hro i o hi := h.hro i o (h2 i o hi)
 inj i j o o' hi hj e := h.inj i j o o' (h1 _ _ hi) (h1 _ _ hj) e
 frm := h.frm
 apart i o hi := h.apart i o (h1 _ _ hi)
 ro := h.ro
 gh := by rw [hg]; exact h.gh
 ghok := by rw [hg]; exact h.ghok
 lent := by rw [hg]; exact h.lent
 linj := by rw [hg]; exact h.linj
 rinj i hi j o hj := h.rinj i (by rw [← hg]; exact hi) j o (h2 j o hj)
 lnd := by rw [hg]; exact h.lnd
 dis := h.dis
def ofSc : Value → SC
 | .int k n => .int k (.lit n)
 | .bool b => .bool (.lit b)
 | v => .lit v
theorem den_ofSc (ρ : Env) (v : Value) : (ofSc v).den ρ = v := by cases v <;> rfl
theorem ok_ofSc (n : Nat) (v : Value) : (ofSc v).ok n := by cases v <;> trivial
def ofVal : Value → SC
 | .agg cs => .agg (cs.toList.map ofSc)
 | v => ofSc v
theorem den_ofVal (ρ : Env) (v : Value) : (ofVal v).den ρ = v := by
 cases v with
 | agg cs =>
  have : (SC.den ρ ∘ ofSc) = id := funext fun v => den_ofSc ρ v
  show Value.agg (dens ρ (cs.toList.map ofSc)).toArray = _
  rw [dens_eq, List.map_map, this]; simp
 | _ => rfl
theorem ok_ofVal (n : Nat) (v : Value) : (ofVal v).ok n := by
 cases v with
 | agg cs =>
  refine oks_iff.2 fun x hx => ?_
  obtain ⟨y, _, rfl⟩ := List.mem_map.1 hx
  exact ok_ofSc n y
 | _ => trivial
end Mw
set_option linter.unusedVariables false
namespace Mw
open Go Mv
def Int.same : Int → Int → Bool
 | .ofNat a, .ofNat b => Nat.beq a b
 | .negSucc a, .negSucc b => Nat.beq a b
 | _, _ => false
theorem Int.same_eq (a b : Int) : Int.same a b = (a == b) := by
 cases a <;> cases b <;> simp only [Int.same]
 ·rename_i a b; rw [Bool.eq_iff_iff]; simp [Nat.beq_eq]; omega
 ·rename_i a b; rfl
 ·rename_i a b; rfl
 ·rename_i a b; rw [Bool.eq_iff_iff]; simp [Nat.beq_eq]
def Int.less : Int → Int → Bool
 | .ofNat a, .ofNat b => Nat.ble (a + 1) b
 | .negSucc _, .ofNat _ => true
 | .ofNat _, .negSucc _ => false
 | .negSucc a, .negSucc b => Nat.ble (b + 1) a
theorem Int.less_eq (a b : Int) : Int.less a b = decide (a < b) := by
 cases a <;> cases b <;> simp only [Int.less]
 ·rename_i a b; rw [Bool.eq_iff_iff]; simp [Nat.ble_eq]; omega
 ·rename_i a b; symm; simp only [decide_eq_false_iff_not]; have : (0 : Int) ≤ Int.ofNat a := Int.natCast_nonneg a; omega
 ·rename_i a b; symm; simp only [decide_eq_true_eq]; have : (0 : Int) ≤ Int.ofNat b := Int.natCast_nonneg b; omega
 ·rename_i a b; rw [Bool.eq_iff_iff]; simp only [Nat.ble_eq, decide_eq_true_eq]; omega
def IE.plusL (m : Int) (b : IE) : IE := match b with
 | .lit n => .lit (m + n)
 | b => match Int.same m 0 with
  | true => b
  | false => .add (.lit m) b
def IE.plusR (a b : IE) : IE := match b with
 | .lit n => match Int.same n 0 with
  | true => a
  | false => .add a (.lit n)
 | b => .add a b
def IE.plus (a b : IE) : IE := match a with
 | .lit m => IE.plusL m b
 | a => IE.plusR a b
theorem IE.den_plus (ρ : Env) (a b : IE) : (IE.plus a b).den ρ = a.den ρ + b.den ρ := by
 have hL : ∀ m b, (IE.plusL m b).den ρ = m + b.den ρ := by
  intro m b
  unfold IE.plusL
  split
  ·rfl
  ·split
   ·rename_i h
    rw [Int.same_eq] at h
    have : m = 0 := by simpa using h
    omega
   ·rfl
 have hR : ∀ a b, (IE.plusR a b).den ρ = a.den ρ + b.den ρ := by
  intro a b
  unfold IE.plusR
  split
  ·rename_i n
   split
   ·rename_i h
    rw [Int.same_eq] at h
    have : n = 0 := by simpa using h
    simp only [IE.den]; omega
   ·rfl
  ·rfl
 unfold IE.plus
 split
 ·exact hL _ _
 ·exact hR _ _
def IE.times (j : IE) (n : Nat) : IE := match j with
 | .lit m => .lit (m * n)
 | j => match Nat.beq n 1 with
  | true => j
  | false => .mul j (.lit n)
theorem IE.den_times (ρ : Env) (j : IE) (n : Nat) : (IE.times j n).den ρ = j.den ρ * n := by
 unfold IE.times
 split
 ·rfl
 ·split
  ·rename_i h
   have := Nat.eq_of_beq_eq_true h
   subst this; simp
  ·rfl
def IE.wrp (k : IntKind) : IE → IE
 | .lit n => .lit (k.wrap n)
 | e => .wrap k e
theorem IE.den_wrp (ρ : Env) (k : IntKind) (e : IE) : (IE.wrp k e).den ρ = k.wrap (e.den ρ) := by
 cases e <;> rfl
def notNeg : IE → List BE
 | .lit n => if 0 ≤ n then [] else [.lit false]
 | e => [.le (.lit 0) e]
def allTrue (ρ : Env) (l : List BE) : Prop := ∀ c ∈ l, c.den ρ = true
theorem notNeg_den {ρ : Env} {e : IE} (h : allTrue ρ (notNeg e)) : 0 ≤ e.den ρ := by
 unfold notNeg at h
 split at h
 ·rename_i n
  by_cases hn : 0 ≤ n
  ·exact hn
  ·rw [if_neg hn] at h; have := h (.lit false) (by simp); simp [BE.den] at this
 ·have := h _ List.mem_cons_self
  exact of_decide_eq_true this
section
variable {P : Program} {S0 S : Own}
theorem Run.of_eq {α : Type} {s s' : Sem α} {K : Except Value α → Own → Prop} (e : s = s') (h : Run P S0 s' S K) : Run P S0 s S K := e ▸ h
end
section
variable {P : Program} {S0 S : Own} {α : Type} {K : Except Value α → Own → Prop}
theorem run_underlying {t : TypeId} {d : TypeDesc} {f : TypeDesc → Sem α} (h : P.underlying t = some d) (hf : Run P S0 (f d) S K) : Run P S0 ((underlying t).bind f) S K := fun w0 w h0 hm => by
 show okRun P _ ((match P.underlying t with | some d => pure d | none => stuck "no such type" : Sem TypeDesc).bind f) w _
 rw [h]; exact hf w0 w h0 hm
theorem run_typeInfo {t : TypeId} {i : TypeInfo} {f : TypeInfo → Sem α} (h : P.info? t = some i) (hf : Run P S0 (f i) S K) : Run P S0 ((typeInfo t).bind f) S K := fun w0 w h0 hm => by
 show okRun P _ ((match P.info? t with | some i => pure i | none => stuck "no such type" : Sem TypeInfo).bind f) w _
 rw [h]; exact hf w0 w h0 hm
theorem run_sizeOf {t : TypeId} {i : TypeInfo} {f : Nat → Sem α} (h : P.info? t = some i) (hf : Run P S0 (f i.size) S K) : Run P S0 ((Go.sizeOf t).bind f) S K := fun w0 w h0 hm => by
 show okRun P _ (((match P.info? t with | some i => pure i | none => stuck "no such type" : Sem TypeInfo).bind fun i => pure i.size).bind f) w _
 rw [h]; exact hf w0 w h0 hm
theorem run_zeroValue {t : TypeId} {i : TypeInfo} {v : Value} {f : Value → Sem α} (h : P.info? t = some i) (hv : i.zero = some v) (hf : Run P S0 (f v) S K) : Run P S0 ((zeroValue t).bind f) S K := fun w0 w h0 hm => by
 show okRun P _ (((match P.info? t with | some i => pure i | none => stuck "no such type" : Sem TypeInfo).bind fun i => match i.zero with | some v => pure v | none => unsupported (.resourceLimit _)).bind f) w _
 rw [h]
 show okRun P _ ((match i.zero with | some v => pure v | none => unsupported (.resourceLimit _) : Sem Value).bind f) w _
 rw [hv]; exact hf w0 w h0 hm
def aggDesc : TypeDesc → Bool
 | .struct _ | .array _ _ => true
 | _ => false
theorem run_isAgg {t : TypeId} {d : TypeDesc} {f : Bool → Sem α} (h : P.underlying t = some d) (hf : Run P S0 (f (aggDesc d)) S K) : Run P S0 ((isAgg t).bind f) S K := fun w0 w h0 hm => by
 show okRun P _ (((match P.underlying t with | some d => pure d | none => stuck "no such type" : Sem TypeDesc).bind fun d => match d with | .struct _ | .array _ _ => pure true | _ => pure false).bind f) w _
 rw [h]
 cases d <;> exact hf w0 w h0 hm
theorem add_off (b o i : Nat) : Addr.add ⟨b, o, none⟩ i = ⟨b, o + i, none⟩ := by
 unfold Addr.add
 split
 ·rename_i h; subst h; rfl
 ·rfl
theorem run_loadCells {b o : Nat} {c : Array Value} {e : TypeId} {fz : Nat × Nat} {f : Array Value → Sem α} (hb : S.get b = some (.cells c e fz)) : ∀ (n i : Nat) (acc : Array Value), o + i + n ≤ c.size →
  Run P S0 (f (acc ++ c.extract (o + i) (o + i + n))) S K → Run P S0 ((loadCellsFrom ⟨b, o, none⟩ i n acc).bind f) S K := by
 intro n
 induction n with
 | zero =>
  intro i acc hn hf
  have : acc ++ c.extract (o + i) (o + i + 0) = acc := by apply Array.ext'; simp
  rw [this] at hf
  exact hf
 | succ n ih =>
  intro i acc hn hf
  have hlt : o + i < c.size := by omega
  show Run P S0 (.load .plain (Addr.add ⟨b, o, none⟩ i) fun v => (loadCellsFrom ⟨b, o, none⟩ (i + 1) n (acc.push v)).bind f) S K
  rw [add_off]
  refine Run.load (a := ⟨b, o + i, none⟩) hb rfl (Array.getElem?_eq_getElem hlt) (ih (i + 1) _ (by omega) ?_)
  have e1 : acc.push c[o + i] ++ c.extract (o + (i + 1)) (o + (i + 1) + n) = acc ++ c.extract (o + i) (o + i + (n + 1)) := by
   apply Array.ext'
   simp only [Array.toList_append, Array.toList_push, Array.toList_extract, List.append_assoc, List.extract_eq_take_drop]
   congr 1
   rw [show o + (i + 1) = o + i + 1 from by omega, show o + i + 1 + n - (o + i + 1) = n from by omega, show o + i + (n + 1) - (o + i) = n + 1 from by omega]
   rw [List.drop_eq_getElem_cons (l := c.toList) (i := o + i) (by simpa using hlt)]
   simp
  rw [e1]; exact hf
theorem run_load {a : Addr} {c : Array Value} {e : TypeId} {fz : Nat × Nat} {v : Value} {f : Value → Sem α} (hb : S.get a.block = some (.cells c e fz)) (hs : a.spot = none) (hv : c[a.off]? = some v) (hf : Run P S0 (f v) S K) :
  Run P S0 ((load a).bind f) S K := Run.load hb hs hv hf
theorem run_loadVar_one {b o : Nat} {c : Array Value} {e : TypeId} {fz : Nat × Nat} {t : TypeId} {d : TypeDesc} {v : Value} {f : Value → Sem α} (hb : S.get b = some (.cells c e fz)) (h : P.underlying t = some d) (ha : aggDesc d = false)
  (hv : c[o]? = some v) (hf : Run P S0 (f v) S K) : Run P S0 ((loadVar t ⟨b, o, none⟩).bind f) S K := by
 unfold loadVar
 simp only [bind]
 rw [Sem.bind_assoc']
 refine run_isAgg h ?_
 simp only [ha]
 exact run_load hb rfl hv hf
theorem run_loadVar_agg {b o : Nat} {c : Array Value} {e : TypeId} {fz : Nat × Nat} {t : TypeId} {d : TypeDesc} {i : TypeInfo} {f : Value → Sem α} (hb : S.get b = some (.cells c e fz)) (h : P.underlying t = some d) (ha : aggDesc d = true)
  (hi : P.info? t = some i) (hn : o + i.size ≤ c.size) (hf : Run P S0 (f (.agg (c.extract o (o + i.size)))) S K) : Run P S0 ((loadVar t ⟨b, o, none⟩).bind f) S K := by
 unfold loadVar
 simp only [bind]
 rw [Sem.bind_assoc']
 refine run_isAgg h ?_
 simp only [ha, if_true]
 rw [Sem.bind_assoc']
 refine run_sizeOf hi ?_
 rw [Sem.bind_assoc']
 refine run_loadCells hb _ 0 #[] (by omega) ?_
 have e : (#[] ++ c.extract (o + 0) (o + 0 + i.size)) = c.extract o (o + i.size) := by simp
 rw [e]; exact hf
theorem run_storeCells {b o : Nat} {e : TypeId} {f : Unit → Sem α} : ∀ (vs : List Value) (i : Nat) (c : Array Value) (S : Own), S.full b = some (.cells c e (0, 0)) → o + i + vs.length ≤ c.size → (∀ v ∈ vs, isOne v = true) →
  (∀ c' S', S'.full b = some (.cells c' e (0, 0)) → c'.size = c.size → (∀ j, c'[j]? = if o + i ≤ j ∧ j < o + i + vs.length then vs[j - (o + i)]? else c[j]?) → (∀ o', S.set b o' = S'.set b o') → Run P S0 (f ()) S' K) →
  Run P S0 ((storeCells ⟨b, o, none⟩ vs i).bind f) S K := by
 intro vs
 induction vs with
 | nil =>
  intro i c S hb _ _ hf
  refine hf c S hb rfl (fun j => ?_) (fun _ => rfl)
  rw [if_neg]; simp only [List.length_nil]; omega
 | cons v vs ih =>
  intro i c S hb hn h1 hf
  simp only [List.length_cons] at hn
  show Run P S0 (.store .plain (Addr.add ⟨b, o, none⟩ i) v ((storeCells ⟨b, o, none⟩ vs (i + 1)).bind f)) S K
  rw [add_off]
  refine Run.store (a := ⟨b, o + i, none⟩) hb rfl (show o + i < c.size by omega) (by simp) (h1 v List.mem_cons_self) ?_
  refine ih (i + 1) (c.setIfInBounds (o + i) v) _ (by simp [Own.set]) (by simp; omega) (fun u hu => h1 u (List.mem_cons_of_mem _ hu)) ?_
  intro c' S' hS' hsz hc' hset
  refine hf c' S' hS' (by simpa using hsz) (fun j => ?_) (fun o' => ?_)
  ·rw [hc' j]
   by_cases hj : j = o + i
   ·subst hj
    rw [if_neg (by omega), if_pos (by simp only [List.length_cons]; omega)]
    simp only [Nat.sub_self, List.getElem?_cons_zero]
    rw [Array.getElem?_setIfInBounds_self_of_lt (by omega)]
   ·by_cases hin : o + (i + 1) ≤ j ∧ j < o + (i + 1) + vs.length
    ·rw [if_pos hin, if_pos (by simp only [List.length_cons]; omega)]
     rw [show j - (o + i) = (j - (o + (i + 1))) + 1 from by omega, List.getElem?_cons_succ]
    ·rw [if_neg hin, if_neg (by simp only [List.length_cons]; omega)]
     rw [Array.getElem?_setIfInBounds_ne (by omega)]
  ·rw [← hset o']
   simp only [Own.set]
   congr 1
   funext x
   by_cases e1 : x = b <;> simp [e1]
end
def SC.single : SC → Bool
 | .lit v => isOne v
 | .agg _ | .tup _ => false
 | _ => true
structure vals (ρ : Env) : Prop where
 one : ∀ i, isOne (ρ.val i) = true
 low : ∀ i, i < 16 → i < ρ.k.length ∧ ρ.blk i = i
def env0 : Env := { k := (List.range 16).map fun i => (i, []) }
theorem vals0 : vals env0 where
 one i := rfl
 low i hi := ⟨by simpa [env0] using hi, by simp [env0, Env.blk, hi]⟩
theorem SC.isOne_den {ρ : Env} (hv : vals ρ) {x : SC} (h : x.single = true) : isOne (x.den ρ) = true := by
 cases x <;> first | rfl | exact hv.one _ | exact h | (simp [SC.single] at h)
def isAggT (P : Program) (t : TypeId) : Option Bool := (P.underlying t).map aggDesc
def sizeT (P : Program) (t : TypeId) : Option Nat := (P.info? t).map (·.size)
def symPart (P : Program) (t : TypeId) (l : List SC) (off : Nat) : Option SC :=
 match isAggT P t with
 | some false => l[off]?
 | some true => match sizeT P t with
  | some n => match Nat.ble (off + n) l.length with
   | true => some (.agg ((l.drop off).take n))
   | false => none
  | none => none
 | none => none
def cellsOf : SC → Option (List SC)
 | .agg l => some l
 | .tup _ => none
 | x => some [x]
def splice (l : List SC) (off : Nat) (new : List SC) : List SC := l.take off ++ new ++ l.drop (off + new.length)
end Mw
set_option linter.unusedVariables false
namespace Mw
open Go Mv
inductive Way where
 | ptr
 | slice (n c : Nat)
 | ref
 | chan
 | held (h z : Value)
def Way.val (r : Nat) : Way → Value
 | .ptr => .pointer (some ⟨r, 0, none⟩)
 | .slice n c => .slice (some ⟨r, 0, none⟩) n c
 | .ref => .map (some r)
 | .chan => .chan (some r)
 | .held h z => .agg #[h, .pointer (some ⟨r, 0, none⟩), z]
def Way.sc (r : Nat) : Way → SC
 | .ptr => .ptr r (.lit 0)
 | .slice n c => .slice r (.lit 0) (.lit n) (.lit c)
 | .ref => .ref r
 | .chan => .chn r
 | .held h z => .agg [.lit h, .ptr r (.lit 0), .lit z]
inductive Eff where
 | val (needs : List BE) (v : SC)
 | store (needs : List BE) (b : Nat) (o : SO)
 | both (needs : List BE) (b : Nat) (o : SO) (v : SC)
 | fresh (needs : List BE) (o : SO) (w : Way)
 | append (needs : List BE) (old : Option Nat) (l : List SC) (e : TypeId) (len size : Nat)
def Eff.ok (n : Nat) : Eff → Prop
 | .val _ v => v.ok n
 | .store _ b o => o.ok n
 | .both _ b o v => o.ok n ∧ v.ok n
 | .fresh _ o _ => o.ok n
 | .append _ _ l _ _ _ => ∀ x ∈ l, x.ok n
def EffOk (P : Program) (ρ : Env) (hp : Hp) (S0 S : Own) (s : Sem Next) : Eff → Prop
 | .val needs v => allTrue ρ needs → ∀ K : Except Value Next → Own → Prop, K (.ok (.value (v.den ρ))) S → Run P S0 s S K
 | .store needs b so => (∃ o, hp.rw.look b = some o) ∧ (allTrue ρ needs → ∀ K : Except Value Next → Own → Prop, K (.ok .skip) (S.set (ρ.blk b) (so.den ρ)) → Run P S0 s S K)
 | .both needs b so v => (∃ o, hp.rw.look b = some o) ∧ (allTrue ρ needs → ∀ K : Except Value Next → Own → Prop, K (.ok (.value (v.den ρ))) (S.set (ρ.blk b) (so.den ρ)) → Run P S0 s S K)
 | .fresh needs so w => allTrue ρ needs → ∀ K : Except Value Next → Own → Prop,
   (∀ r, S.full r = none → S.ro r = none → K (.ok (.value (w.val r))) (S.set r (so.den ρ))) → Run P S0 s S K
 | .append needs old l e len size => (∀ b, old = some b → ∃ o, hp.rw.look b = some o) ∧ (allTrue ρ needs → ∀ K : Except Value Next → Own → Prop,
   (∀ r rest, ((S.full r = none ∧ S.ro r = none) ∨ ∃ b, old = some b ∧ r = ρ.blk b) →
    K (.ok (.value (.slice (some ⟨r, 0, none⟩) len (len + rest.length / size)))) (S.set r (.cells (l.map (SC.den ρ) ++ rest).toArray e (0, 0)))) → Run P S0 s S K)
def EffGood (P : Program) (ρ : Env) (hp : Hp) (S0 S : Own) (s : Sem Next) (e : Eff) : Prop := EffOk P ρ hp S0 S s e ∧ e.ok ρ.k.length
section
variable {P : Program} {ρ : Env} {hp : Hp} {F S0 S : Own}
theorem run_value {s : Sem Value} {K : Except Value Next → Own → Prop} {S : Own} (h : Run P S0 s S fun r S' => match r with | .ok v => K (.ok (.value v)) S' | .error v => K (.error v) S') :
    Run P S0 (do pure (.value (← s)) : Sem Next) S K := Run.bind (h.mono fun r S' k => by
  cases r with
  | ok v => exact Run.pure k
  | error v => exact k)
theorem good_val {s : Sem Value} {s' : Sem Next} {needs : List BE} {v : SC} (he : s' = (do pure (.value (← s)) : Sem Next)) (hok : v.ok ρ.k.length)
  (h : allTrue ρ needs → ∀ K : Except Value Value → Own → Prop, K (.ok (v.den ρ)) S → Run P S0 s S K) : EffGood P ρ hp S0 S s' (.val needs v) :=
 ⟨fun hn K hK => by rw [he]; exact run_value (h hn _ hK), hok⟩
def rowOf : SO → Option (List SC)
 | .cells l _ | .row l _ _ => some l
 | _ => none
def rowWith (l : List SC) : SO → SO
 | .cells _ e => .cells l e
 | .row _ e r => .row l e r
 | o => o
theorem rowOf_den {o : SO} {l : List SC} (h : rowOf o = some l) : ∃ te tail, o.den ρ = .cells (l.map (SC.den ρ) ++ tail).toArray te (0, 0) ∧ ∀ l', (rowWith l' o).den ρ = .cells (l'.map (SC.den ρ) ++ tail).toArray te (0, 0) := by
 cases o <;> simp only [rowOf, Option.some.injEq, reduceCtorEq] at h
 case cells l e => subst h; exact ⟨e, [], by simp [SO.den], fun l' => by simp [SO.den, rowWith]⟩
 case row l e r => subst h; exact ⟨e, _, rfl, fun l' => rfl⟩
theorem rowOf_ok {n : Nat} {o : SO} {l : List SC} (h : rowOf o = some l) (ho : o.ok n) : ∀ x ∈ l, x.ok n := by
 cases o <;> simp only [rowOf, Option.some.injEq, reduceCtorEq] at h
 ·subst h; exact ho
 ·subst h; exact ho.2
theorem rowWith_ok {n : Nat} {o : SO} {l l' : List SC} (h : rowOf o = some l) (ho : o.ok n) (hl : ∀ x ∈ l', x.ok n) : (rowWith l' o).ok n := by
 cases o <;> simp only [rowOf, reduceCtorEq] at h
 ·exact hl
 ·exact ⟨ho.1, hl⟩
theorem map_extract {l : List SC} {tail : List Value} {off n : Nat} (h : off + n ≤ l.length) : (l.map (SC.den ρ) ++ tail).toArray.extract off (off + n) = (((l.drop off).take n).map (SC.den ρ)).toArray := by
 apply Array.ext'
 simp only [Array.toList_extract, List.extract_eq_take_drop, Nat.add_sub_cancel_left, List.map_take, List.map_drop]
 rw [List.drop_append_of_le_length (by simp; omega), List.take_append_of_le_length (by simp; omega)]
theorem run_part {t : TypeId} {l : List SC} {off : Nat} {v : SC} {K : Except Value Value → Own → Prop} {S : Own} (h : symPart P t l off = some v) (hK : K (.ok (v.den ρ)) S) :
  Run P S0 (part t (dens ρ l).toArray off) S K := by
 rw [dens_eq]
 unfold symPart isAggT sizeT at h
 cases hu : P.underlying t with
 | none => rw [hu] at h; simp at h
 | some d =>
  rw [hu] at h
  simp only [Option.map_some] at h
  unfold part
  simp only [bind]
  refine run_isAgg hu ?_
  cases ha : aggDesc d with
  | false =>
   rw [ha] at h
   have : (l.map (SC.den ρ)).toArray[off]? = some (v.den ρ) := by simp [h]
   simp only [Bool.false_eq_true, if_false, this]
   exact Run.pure hK
  | true =>
   rw [ha] at h
   cases hi : P.info? t with
   | none => rw [hi] at h; simp at h
   | some i =>
    rw [hi] at h
    simp only [Option.map_some] at h
    split at h
    ·rename_i hle
     simp only [Option.some.injEq] at h
     subst h
     simp only [if_true]
     refine run_sizeOf hi ?_
     have e1 := map_extract (ρ := ρ) (tail := []) (Nat.le_of_ble_eq_true hle)
     rw [List.append_nil] at e1
     rw [e1]
     have := hK
     simp only [SC.den, dens_eq] at this
     exact Run.pure this
    ·simp at h
theorem symPart_ok {t : TypeId} {l : List SC} {off n : Nat} {v : SC} (h : symPart P t l off = some v) (hl : ∀ x ∈ l, x.ok n) : v.ok n := by
 unfold symPart at h
 split at h
 ·exact hl _ (List.mem_of_getElem? h)
 ·split at h
  ·split at h
   ·simp only [Option.some.injEq] at h; subst h
    exact oks_iff.2 fun x hx => hl x (List.mem_of_mem_drop (List.mem_of_mem_take hx))
   ·simp at h
  ·simp at h
 ·simp at h
theorem run_loadVar {t : TypeId} {l : List SC} {tail : List Value} {te : TypeId} {b off : Nat} {v : SC} {K : Except Value Value → Own → Prop} {S : Own} (hb : S.get b = some (.cells (l.map (SC.den ρ) ++ tail).toArray te (0, 0))) (h : symPart P t l off = some v) (hK : K (.ok (v.den ρ)) S) :
  Run P S0 (loadVar t ⟨b, off, none⟩) S K := by
 unfold symPart isAggT sizeT at h
 have e0 : loadVar t ⟨b, off, none⟩ = (loadVar t ⟨b, off, none⟩).bind Sem.pure := (Sem.bind_pure' _).symm
 rw [e0]
 cases hu : P.underlying t with
 | none => rw [hu] at h; simp at h
 | some d =>
  rw [hu] at h
  simp only [Option.map_some] at h
  cases ha : aggDesc d with
  | false =>
   rw [ha] at h
   have hlt : off < l.length := (List.getElem?_eq_some_iff.1 h).1
   exact run_loadVar_one hb hu ha (v := v.den ρ) (by
    rw [List.getElem?_toArray, List.getElem?_append_left (by simpa using hlt)]
    simp [h]) (Run.pure hK)
  | true =>
   rw [ha] at h
   cases hi : P.info? t with
   | none => rw [hi] at h; simp at h
   | some i =>
    rw [hi] at h
    simp only [Option.map_some] at h
    split at h
    ·rename_i hle
     have hle := Nat.le_of_ble_eq_true hle
     simp only [Option.some.injEq] at h
     subst h
     refine run_loadVar_agg hb hu ha hi (by simp; omega) ?_
     rw [map_extract hle]
     have := hK
     simp only [SC.den, dens_eq] at this
     exact Run.pure this
    ·simp at h
theorem cellsOf_den {v : SC} {l : List SC} (h : cellsOf v = some l) (h1 : l.all SC.single = true) (hv : vals ρ) : (v.den ρ).cells = (l.map (SC.den ρ)).toArray := by
 cases v <;> simp only [cellsOf, Option.some.injEq, reduceCtorEq] at h
 case agg l' => subst h; simp only [SC.den, Value.cells, dens_eq]
 all_goals
  subst h
  simp only [List.all_cons, List.all_nil, Bool.and_true] at h1
  have := SC.isOne_den hv h1
  simp only [List.map_cons, List.map_nil]
  generalize SC.den ρ _ = x at this ⊢
  cases x <;> first | rfl | (simp [isOne] at this)
theorem cellsOf_ok {n : Nat} {v : SC} {l : List SC} (h : cellsOf v = some l) (hv : v.ok n) : ∀ x ∈ l, x.ok n := by
 cases v <;> simp only [cellsOf, Option.some.injEq, reduceCtorEq] at h
 case agg l' => subst h; exact oks_iff.1 hv
 all_goals subst h; intro x hx; simp only [List.mem_singleton] at hx; subst hx; exact hv
theorem run_storeVar {t : TypeId} {l new : List SC} {tail : List Value} {te : TypeId} {b off : Nat} {v : SC} {K : Except Value Unit → Own → Prop} (hv : vals ρ) (hb : S.full b = some (.cells (l.map (SC.den ρ) ++ tail).toArray te (0, 0))) (hc : cellsOf v = some new)
  (h1 : new.all SC.single = true) (hsz : sizeT P t = some new.length) (hle : off + new.length ≤ l.length) (hK : K (.ok ()) (S.set b (.cells ((splice l off new).map (SC.den ρ) ++ tail).toArray te (0, 0)))) :
  Run P S0 (storeVar t ⟨b, off, none⟩ (v.den ρ)) S K := by
 unfold sizeT at hsz
 cases hi : P.info? t with
 | none => rw [hi] at hsz; simp at hsz
 | some ti =>
  rw [hi] at hsz
  simp only [Option.map_some, Option.some.injEq] at hsz
  have hcl := cellsOf_den hc h1 hv
  unfold storeVar
  simp only [bind]
  refine run_sizeOf hi ?_
  have e1 : ¬ (v.den ρ).cells.size ≠ ti.size := by rw [hcl, hsz]; simp
  simp only [if_neg e1]
  have e0 : storeCells ⟨b, off, none⟩ (v.den ρ).cells.toList = (storeCells ⟨b, off, none⟩ (v.den ρ).cells.toList 0).bind Sem.pure := (Sem.bind_pure' _).symm
  show Run P S0 (storeCells ⟨b, off, none⟩ (v.den ρ).cells.toList) _ _
  rw [e0]
  refine run_storeCells (f := Sem.pure) (v.den ρ).cells.toList 0 (l.map (SC.den ρ) ++ tail).toArray _ hb (by rw [hcl]; simp; omega) ?_ ?_
  ·rw [hcl]
   intro u hu
   simp only [List.mem_map] at hu
   obtain ⟨x, hx, rfl⟩ := hu
   exact SC.isOne_den hv (List.all_eq_true.1 h1 x hx)
  ·intro c' S' hS' hsz' hc' hset
   have e2 : S' = S.set b (.cells ((splice l off new).map (SC.den ρ) ++ tail).toArray te (0, 0)) := by
    rw [hset]
    have hcc : c' = ((splice l off new).map (SC.den ρ) ++ tail).toArray := by
     apply Array.ext_getElem?
     intro j
     rw [hc' j, hcl]
     have hsl : ((splice l off new).map (SC.den ρ)).length = l.length := by simp [splice]; omega
     simp only [List.getElem?_toArray, List.length_map, Nat.add_zero]
     by_cases hjl : j < l.length
     ·rw [List.getElem?_append_left (l₁ := List.map (SC.den ρ) (splice l off new)) (by rw [hsl]; exact hjl), List.getElem?_append_left (l₁ := List.map (SC.den ρ) l) (by simpa using hjl)]
      simp only [splice, List.map_append, List.map_take, List.map_drop]
      have hlen : (List.take off (List.map (SC.den ρ) l)).length = off := by simp; omega
      by_cases hj : j < off
      ·rw [if_neg (by omega), List.append_assoc, List.getElem?_append_left (by rw [hlen]; exact hj), List.getElem?_take_of_lt hj]
      ·by_cases hj2 : j < off + new.length
       ·rw [if_pos ⟨by omega, hj2⟩, List.append_assoc, List.getElem?_append_right (by rw [hlen]; omega), hlen, List.getElem?_append_left (by simp; omega)]
       ·rw [if_neg (by omega), List.append_assoc, List.getElem?_append_right (by rw [hlen]; omega), hlen, List.getElem?_append_right (by simp; omega), List.getElem?_drop]
        congr 1
        simp; omega
     ·rw [if_neg (by omega), List.getElem?_append_right (l₁ := List.map (SC.den ρ) l) (by simp; omega), List.getElem?_append_right (l₁ := List.map (SC.den ρ) (splice l off new)) (by rw [hsl]; omega), hsl]
      simp
    have h3 : S' = S'.set b (.cells c' te (0, 0)) := by
     cases S' with
     | mk fu ro =>
      simp only [Own.set]
      congr 1
      funext x
      by_cases e : x = b
      ·subst e; rw [if_pos rfl]; exact hS'
      ·rw [if_neg e]
    rw [← hcc]
    exact h3
   rw [e2]
   exact Run.pure hK
theorem splice_ok {n : Nat} {l new : List SC} {off : Nat} (h1 : ∀ x ∈ l, x.ok n) (h2 : ∀ x ∈ new, x.ok n) : ∀ x ∈ splice l off new, x.ok n := by
 intro x hx
 simp only [splice, List.mem_append] at hx
 rcases hx with (hx | hx) | hx
 ·exact h1 x (List.mem_of_mem_take hx)
 ·exact h2 x hx
 ·exact h1 x (List.mem_of_mem_drop hx)
theorem run_newVar [Loud S0] {v : SC} {l : List SC} {t : TypeId} {α : Type} {f : Addr → Sem α} {K : Except Value α → Own → Prop} {S : Own} (hv : vals ρ) (hc : cellsOf v = some l) (h1 : l.all SC.single = true)
  (h : ∀ r, S.full r = none → S.ro r = none → Run P S0 (f ⟨r, 0, none⟩) (S.set r ((SO.cells l t).den ρ)) K) : Run P S0 ((newVar t (v.den ρ)).bind f) S K := by
 unfold newVar
 rw [cellsOf_den hc h1 hv]
 exact Run.new fun r h2 h3 => h r h2 h3
end
end Mw
set_option linter.unusedVariables false
namespace Mw
open Go Mv
section
variable {P : Program} {ρ : Env} {hp : Hp} {F S0 S : Own} {ev : Operand → Option SC} {ev' : Operand → Value} {o : Oper} {e : Eff}
def EvOk (ρ : Env) (ev : Operand → Option SC) (ev' : Operand → Value) : Prop := ∀ x v, ev x = some v → v.ok ρ.k.length ∧ ev' x = v.den ρ
theorem toNat_plus {x : Int} {n : Nat} (h : 0 ≤ x) : (x + n).toNat = x.toNat + n := by omega
theorem IE.ok_plus {n : Nat} {a b : IE} (ha : a.ok n) (hb : b.ok n) : (IE.plus a b).ok n := by
 unfold IE.plus
 split
 ·unfold IE.plusL
  split
  ·trivial
  ·split
   ·exact hb
   ·exact ⟨trivial, hb⟩
 ·unfold IE.plusR
  split
  ·split
   ·exact ha
   ·exact ⟨ha, trivial⟩
  ·exact ⟨ha, hb⟩
theorem IE.ok_times {n m : Nat} {a : IE} (ha : a.ok n) : (IE.times a m).ok n := by
 unfold IE.times
 split
 ·trivial
 ·split
  ·exact ha
  ·exact ⟨ha, trivial⟩
theorem IE.ok_wrp {n : Nat} {k : IntKind} {a : IE} (ha : a.ok n) : (IE.wrp k a).ok n := by
 cases a <;> first | trivial | exact ha
def sMove (x : Option SC) : Option Eff := match x with
 | some v => some (.val [] v)
 | none => none
theorem sMove_good {x : Operand} (hop : o.op = .move x ∨ o.op = .assign x) (hev : EvOk ρ ev ev') (h : sMove (ev x) = some e) : EffGood P ρ hp S0 S (execOp ev' o) e := by
 unfold sMove at h
 split at h
 ·rename_i v hx
  simp only [Option.some.injEq] at h; subst h
  obtain ⟨h1, h2⟩ := hev x v hx
  refine ⟨fun _ K hK => ?_, h1⟩
  rcases hop with hop | hop <;> simp only [execOp, hop, h2] <;> exact Run.pure hK
 ·simp at h
def sPick (c a b : Option SC) : Option Eff := match c with
 | some (.bool (.lit true)) => sMove a
 | some (.bool (.lit false)) => sMove b
 | some (.bool c) => match a, b with
  | some (.bool a), some (.bool b) => some (.val [] (.bool (.pick c a b)))
  | _, _ => none
 | _ => none
theorem sPick_good {c x y : Operand} (hop : o.op = .pick c x y) (hev : EvOk ρ ev ev') (h : sPick (ev c) (ev x) (ev y) = some e) : EffGood P ρ hp S0 S (execOp ev' o) e := by
 have hpick : ∀ (b : Bool) (v : SC), ev' c = .bool b → v.ok ρ.k.length → (if b then ev' x else ev' y) = v.den ρ → EffGood P ρ hp S0 S (execOp ev' o) (.val [] v) := by
  intro b v hc hok hv'
  refine ⟨fun _ K hK => ?_, hok⟩
  simp only [execOp, hop, hc]
  show Run P S0 (Sem.pure (Next.value (if b then ev' x else ev' y))) _ K
  rw [hv']
  exact Run.pure hK
 have hmove : ∀ (b : Bool) z, ev' c = .bool b → (if b then ev' x else ev' y) = ev' z → sMove (ev z) = some e → EffGood P ρ hp S0 S (execOp ev' o) e := by
  intro b z hc hz h
  unfold sMove at h
  split at h
  ·rename_i v hv
   simp only [Option.some.injEq] at h; subst h
   exact hpick b v hc (hev _ _ hv).1 (by rw [hz, (hev _ _ hv).2])
  ·simp at h
 unfold sPick at h
 split at h
 ·rename_i hc; exact hmove true x (hev _ _ hc).2 rfl h
 ·rename_i hc; exact hmove false y (hev _ _ hc).2 rfl h
 ·rename_i b _ _ hc
  split at h
  ·rename_i p q hx hy
   simp only [Option.some.injEq] at h; subst h
   refine hpick (b.den ρ) _ (hev _ _ hc).2 ⟨(hev _ _ hc).1, (hev _ _ hx).1, (hev _ _ hy).1⟩ ?_
   rw [(hev _ _ hx).2, (hev _ _ hy).2]
   simp only [SC.den, BE.den]
   cases b.den ρ <;> rfl
  ·simp at h
 ·simp at h
def sNilCheck (x : Option SC) : Option Eff := match x with
 | some (.ptr b off) => some (.val [] (.ptr b off))
 | some (.fn (.func f) l m) => some (.val [] (.fn (.func f) l m))
 | some (.fn (.via t p f b) l m) => some (.val [] (.fn (.via t p f b) l m))
 | some (.yield l) => some (.val [] (.yield l))
 | some (.lit (.pointer (some a))) => some (.val [] (.lit (.pointer (some a))))
 | some (.lit (.func (.func f) l m)) => some (.val [] (.lit (.func (.func f) l m)))
 | some (.iface t x) => some (.val [] (.iface t x))
 | _ => none
theorem sNilCheck_good {x : Operand} (hop : o.op = .nilCheck x) (hev : EvOk ρ ev ev') (h : sNilCheck (ev x) = some e) : EffGood P ρ hp S0 S (execOp ev' o) e := by
 unfold sNilCheck at h
 split at h <;> (try (simp at h; done))
 all_goals
  rename_i hx
  simp only [Option.some.injEq] at h; subst h
  obtain ⟨h1, h2⟩ := hev _ _ hx
  refine ⟨fun _ K hK => ?_, h1⟩
  simp only [execOp, hop, h2, SC.den]
  exact Run.pure hK
def sFieldAddr (P : Program) (s : TypeId) (x : Option SC) (f : Nat) : Option Eff := match P.underlying s with
 | some (.struct fields) => match x, fields[f]? with
  | some (.ptr b off), some fld => match sizeT P fld.type with
   | some (_ + 1) => some (.val (notNeg off) (.ptr b (.plus off (.lit fld.offset))))
   | _ => none
  | _, _ => none
 | _ => none
theorem sFieldAddr_good {t : TypeId} {x : Operand} {f : Nat} (hop : o.op = .fieldAddr t x f) (hev : EvOk ρ ev ev') (h : sFieldAddr P t (ev x) f = some e) : EffGood P ρ hp S0 S (execOp ev' o) e := by
 unfold sFieldAddr at h
 split at h
 ·rename_i fields hu
  split at h
  ·rename_i b off fld hx hf
   obtain ⟨hok, hx'⟩ := hev x _ hx
   split at h
   ·rename_i n hn
    simp only [Option.some.injEq] at h; subst h
    refine good_val (s := Instr.fieldAt t (ev' x) f) (by simp only [execOp, hop]) ⟨hok.1, IE.ok_plus hok.2 trivial⟩ fun hneeds K hK => ?_
    rw [hx']
    unfold Instr.fieldAt
    simp only [bind]
    refine run_underlying hu ?_
    simp only [hf, SC.den, Instr.sureAddr]
    unfold sizeT at hn
    obtain ⟨i, hi, hn⟩ := Option.map_eq_some_iff.1 hn
    show Run P S0 ((fieldPlace _ fld).bind fun x => pure (.pointer (some x))) _ K
    unfold fieldPlace
    simp only [bind]
    rw [Sem.bind_assoc']
    refine run_sizeOf hi ?_
    rw [if_neg (by omega), add_off]
    have e1 : (off.den ρ).toNat + fld.offset = ((IE.plus off (.lit fld.offset)).den ρ).toNat := by
     rw [IE.den_plus]; simp only [IE.den]; rw [toNat_plus (notNeg_den hneeds)]
    rw [e1]
    exact Run.pure hK
   ·simp at h
  ·simp at h
 ·simp at h
def sField (P : Program) (t : TypeId) (x : Option SC) (f : Nat) : Option Eff := match P.underlying t with
 | some (.struct fields) => match x, fields[f]? with
  | some (.agg l), some fld => match symPart P fld.type l fld.offset with
   | some v => some (.val [] v)
   | none => none
  | _, _ => none
 | _ => none
theorem sField_good {t : TypeId} {x : Operand} {f : Nat} (hop : o.op = .field t x f) (hev : EvOk ρ ev ev') (h : sField P t (ev x) f = some e) : EffGood P ρ hp S0 S (execOp ev' o) e := by
 unfold sField at h
 split at h
 ·rename_i fields hu
  split at h
  ·rename_i l fld hx hf
   obtain ⟨hok, hx'⟩ := hev x _ hx
   split at h
   ·rename_i v hp'
    simp only [Option.some.injEq] at h; subst h
    refine good_val (s := Instr.field t (ev' x) f) (by simp only [execOp, hop]) (symPart_ok hp' (oks_iff.1 hok)) fun _ K hK => ?_
    rw [hx']
    unfold Instr.field
    simp only [bind]
    refine run_underlying hu ?_
    simp only [hf, SC.den, asAgg]
    exact run_part hp' hK
   ·simp at h
  ·simp at h
 ·simp at h
def sLoad (P : Program) (hp : Hp) (t : TypeId) (x : Option SC) : Option Eff := match x with
 | some (.ptr b off) => match hp.get b with
  | some (.ints k l _) => match isAggT P t with
   | some false => some (.val (notNeg off ++ [.lt off (.len l)]) (.int k (.nth l off)))
   | some true => match sizeT P t with
    | some n => some (.val (notNeg off ++ [.le (.plus off (.lit n)) (.len l)]) (.agg ((List.range n).map fun (j : Nat) => SC.int k (.nth l (.plus off (.lit (j : Int)))))))
    | none => none
   | none => none
  | some o => match rowOf o, off with
   | some l, .lit (.ofNat off) => match symPart P t l off with
    | some v => some (.val [] v)
    | none => none
   | _, _ => none
  | none => none
 | _ => none
theorem sLoad_good {t : TypeId} {x : Operand} (hop : o.op = .load t x) (hs : Sat ρ hp F S) (hev : EvOk ρ ev ev') (h : sLoad P hp t (ev x) = some e) : EffGood P ρ hp S0 S (execOp ev' o) e := by
 unfold sLoad at h
 split at h
 ·rename_i b off hx
  obtain ⟨hok, hx'⟩ := hev x _ hx
  have hred : ∀ K : Except Value Value → Own → Prop, Run P S0 (loadVar t ⟨ρ.blk b, (off.den ρ).toNat, none⟩) S K → Run P S0 (Instr.loadAt t (ev' x)) S K := fun K hr => by
   rw [hx']
   show Run P S0 ((Instr.sureAddr (SC.den ρ (.ptr b off))).bind fun a => loadVar t a) _ K
   exact hr
  split at h
  ·rename_i k l te hb
   obtain ⟨_, _, hget⟩ := hs.get hb
   have hgetE : ∀ n, n < (ρ.list l).length → ((ρ.list l).map (Value.int k)).toArray[n]? = some (.int k ((ρ.list l).getD n 0)) := fun n hn => by simp [hn]
   split at h
   ·rename_i hag
    simp only [Option.some.injEq] at h; subst h
    obtain ⟨d, hu, hag⟩ := Option.map_eq_some_iff.1 hag
    refine good_val (s := Instr.loadAt t (ev' x)) (by simp only [execOp, hop]) hok.2 fun hneeds K hK => hred K ?_
    have h0 : 0 ≤ off.den ρ := notNeg_den fun c hc => hneeds c (by simp [hc])
    have h1 : off.den ρ < ((ρ.list l).length : Nat) := of_decide_eq_true (hneeds (.lt off (.len l)) (by simp))
    rw [← Sem.bind_pure' (loadVar t _)]
    exact run_loadVar_one hget hu hag (hgetE _ (by omega)) (Run.pure hK)
   ·rename_i hag
    obtain ⟨d, hu, hag⟩ := Option.map_eq_some_iff.1 hag
    split at h
    ·rename_i n hn
     simp only [Option.some.injEq] at h; subst h
     obtain ⟨i, hi, hn⟩ := Option.map_eq_some_iff.1 hn
     refine good_val (s := Instr.loadAt t (ev' x)) (by simp only [execOp, hop]) (oks_iff.2 fun y hy => ?_) fun hneeds K hK => hred K ?_
     ·obtain ⟨j, _, rfl⟩ := List.mem_map.1 hy
      exact IE.ok_plus hok.2 trivial
     have h0 : 0 ≤ off.den ρ := notNeg_den fun c hc => hneeds c (by simp [hc])
     have h1 : (IE.plus off (.lit n)).den ρ ≤ ((ρ.list l).length : Nat) := of_decide_eq_true (hneeds (.le (.plus off (.lit n)) (.len l)) (by simp))
     rw [IE.den_plus] at h1
     simp only [IE.den] at h1
     rw [← Sem.bind_pure' (loadVar t _)]
     refine run_loadVar_agg hget hu hag hi (by simp; omega) ?_
     have e1 : ((ρ.list l).map (Value.int k)).toArray.extract (off.den ρ).toNat ((off.den ρ).toNat + i.size) = (dens ρ ((List.range n).map fun (j : Nat) => SC.int k (.nth l (.plus off (.lit (j : Int)))))).toArray := by
      apply Array.ext_getElem?
      intro j
      rw [dens_eq]
      rw [Array.getElem?_extract]
      simp only [List.size_toArray, List.length_map, List.getElem?_toArray, List.getElem?_map, List.map_map]
      by_cases hj : j < n
      ·rw [if_pos (by omega)]
       rw [List.getElem?_range hj]
       simp only [Option.map_some, Function.comp, SC.den, IE.den, IE.den_plus]
       rw [toNat_plus h0]
       simp [List.getElem?_eq_getElem (show (off.den ρ).toNat + j < (ρ.list l).length by omega)]
      ·rw [if_neg (by omega)]
       rw [List.getElem?_eq_none (by simpa using hj)]
       rfl
     rw [e1]
     exact Run.pure hK
    ·simp at h
   ·simp at h
  ·rename_i so _ hb
   obtain ⟨_, hso, hget⟩ := hs.get hb
   split at h
   ·rename_i l n hr
    obtain ⟨te, tail, hden, _⟩ := rowOf_den (ρ := ρ) hr
    rw [hden] at hget
    split at h
    ·rename_i v hv
     simp only [Option.some.injEq] at h; subst h
     refine good_val (s := Instr.loadAt t (ev' x)) (by simp only [execOp, hop]) (symPart_ok hv (rowOf_ok hr hso)) fun hneeds K hK => hred K ?_
     exact run_loadVar hget hv hK
    ·simp at h
   ·simp at h
  ·simp at h
 ·simp at h
def sStore (P : Program) (hp : Hp) (t : TypeId) (x v : Option SC) : Option Eff := match x, v with
 | some (.ptr b (.lit (.ofNat off))), some v => match cellsOf v, hp.rw.look b with
  | some new, some o => match rowOf o with
   | some l => match (decide (sizeT P t = some new.length)) && new.all SC.single && Nat.ble (off + new.length) l.length with
    | true => some (.store [] b (rowWith (splice l off new) o))
    | false => none
   | none => none
  | _, _ => none
 | _, _ => none
theorem sStore_good {t : TypeId} {x y : Operand} (hop : o.op = .store t x y) (hv : vals ρ) (hs : Sat ρ hp F S) (hev : EvOk ρ ev ev') (h : sStore P hp t (ev x) (ev y) = some e) : EffGood P ρ hp S0 S (execOp ev' o) e := by
 unfold sStore at h
 split at h
 ·rename_i b off v hx hy
  obtain ⟨hokx, hx'⟩ := hev x _ hx
  obtain ⟨hoky, hy'⟩ := hev y _ hy
  split at h
  ·rename_i new so hc hb
   obtain ⟨hlt, hso, hfull⟩ := hs.has _ _ hb
   split at h
   ·rename_i l hr
    obtain ⟨te, tail, hden, hwith⟩ := rowOf_den (ρ := ρ) hr
    rw [hden] at hfull
    split at h
    ·rename_i hcond
     simp only [Bool.and_eq_true, decide_eq_true_eq] at hcond
     simp only [Option.some.injEq] at h; subst h
     refine ⟨⟨⟨_, hb⟩, fun _ K hK => ?_⟩, rowWith_ok hr hso (splice_ok (rowOf_ok hr hso) (cellsOf_ok hc hoky))⟩
     simp only [execOp, hop]
     show Run P S0 ((Instr.storeAt t (ev' x) (ev' y)).bind fun _ => Sem.pure Next.skip) _ K
     rw [hx', hy']
     refine Run.bind (Run.mono (run_storeVar (K := fun r S' => r = .ok () ∧ S' = S.set (ρ.blk b) ((rowWith (splice l off new) so).den ρ)) hv hfull hc hcond.1.2 hcond.1.1 (Nat.le_of_ble_eq_true hcond.2) ⟨rfl, by rw [hwith]; rfl⟩) ?_)
     rintro r S' ⟨rfl, rfl⟩
     exact Run.pure hK
    ·simp at h
   ·simp at h
  ·simp at h
 ·simp at h
def sBox (e : TypeId) (v : Option SC) : Option Eff := match v with
 | some v => match cellsOf v with
  | some l => match l.all SC.single with
   | true => some (.fresh [] (.cells l e) .ptr)
   | false => none
  | none => none
 | none => none
theorem sBox_good [Loud S0] {t : TypeId} {x : Operand} (hop : o.op = .box t x) (hv : vals ρ) (hev : EvOk ρ ev ev') (h : sBox t (ev x) = some e) : EffGood P ρ hp S0 S (execOp ev' o) e := by
 unfold sBox at h
 split at h
 ·rename_i v hx
  obtain ⟨hok, hx'⟩ := hev x _ hx
  split at h
  ·rename_i l hc
   split at h
   ·rename_i h1
    simp only [Option.some.injEq] at h; subst h
    refine ⟨fun _ K hK => ?_, cellsOf_ok hc hok⟩
    simp only [execOp, hop, hx']
    refine run_value ?_
    show Run P S0 ((newVar t (v.den ρ)).bind fun a => Sem.pure (Value.pointer (some a))) S _
    exact run_newVar hv hc h1 fun r h2 h3 => Run.pure (hK r h2 h3)
   ·simp at h
  ·simp at h
 ·simp at h
def sAlloc (P : Program) (e : TypeId) : Option Eff := match P.info? e with
 | some i => match i.zero with
  | some z => sBox e (some (ofVal z))
  | none => none
 | none => none
theorem sAlloc_good [Loud S0] {t : TypeId} (hop : o.op = .alloc t) (hv : vals ρ) (h : sAlloc P t = some e) : EffGood P ρ hp S0 S (execOp ev' o) e := by
 unfold sAlloc at h
 split at h
 ·rename_i i hi
  split at h
  ·rename_i z hz
   unfold sBox at h
   simp only at h
   split at h
   ·rename_i l hc
    split at h
    ·rename_i h1
     simp only [Option.some.injEq] at h; subst h
     refine ⟨fun _ K hK => ?_, cellsOf_ok hc (ok_ofVal _ z)⟩
     simp only [execOp, hop]
     refine run_value ?_
     show Run P S0 ((zeroValue t).bind fun z => (newVar t z).bind fun a => Sem.pure (Value.pointer (some a))) S _
     refine run_zeroValue hi hz ?_
     have := run_newVar (P := P) (S0 := S0) (t := t) (f := fun a => Sem.pure (Value.pointer (some a))) (K := fun r S' => match r with | .ok v => K (.ok (.value v)) S' | .error v => K (.error v) S') (S := S) hv hc h1 fun r h2 h3 => Run.pure (hK r h2 h3)
     rw [den_ofVal] at this
     exact this
    ·simp at h
   ·simp at h
  ·simp at h
 ·simp at h
def sExtract (x : Option SC) (i : Nat) : Option Eff := match x with
 | some (.tup l) => sMove l[i]?
 | _ => none
theorem sExtract_good {x : Operand} {i : Nat} (hop : o.op = .extract x i) (hev : EvOk ρ ev ev') (h : sExtract (ev x) i = some e) : EffGood P ρ hp S0 S (execOp ev' o) e := by
 unfold sExtract at h
 split at h
 ·rename_i l hx
  obtain ⟨hok, hx'⟩ := hev x _ hx
  unfold sMove at h
  split at h
  ·rename_i v hl
   simp only [Option.some.injEq] at h; subst h
   refine good_val (s := Instr.extract (ev' x) i) (by simp only [execOp, hop]) (oks_iff.1 hok _ (List.mem_of_getElem? hl)) fun _ K hK => ?_
   rw [hx']
   unfold Instr.extract
   simp only [SC.den, dens_eq]
   have : (l.map (SC.den ρ)).toArray[i]? = some (v.den ρ) := by simp [hl]
   rw [this]
   exact Run.pure hK
  ·simp at h
 ·simp at h
def sConvert (P : Program) (src dst : TypeId) (x : Option SC) : Option Eff := match P.underlying src, P.underlying dst, x with
 | some _, some (.int k), some (.int _ a) => some (.val [] (.int k (.wrp k a)))
 | _, _, _ => none
theorem sConvert_good {src dst : TypeId} {x : Operand} (hop : o.op = .convert src dst x) (hev : EvOk ρ ev ev') (h : sConvert P src dst (ev x) = some e) : EffGood P ρ hp S0 S (execOp ev' o) e := by
 unfold sConvert at h
 split at h
 ·rename_i d k k' a hs' hd hx
  obtain ⟨hok, hx'⟩ := hev x _ hx
  simp only [Option.some.injEq] at h; subst h
  refine good_val (s := Go.convert src dst (ev' x)) (by simp only [execOp, hop]) (IE.ok_wrp (a := a) hok) fun _ K hK => ?_
  rw [hx']
  unfold Go.convert
  simp only [bind]
  refine run_underlying hs' (run_underlying hd ?_)
  simp only [SC.den, IE.den_wrp] at hK
  cases d <;> exact Run.pure hK
 ·simp at h
def sUn (op : UnOp) (x : Option SC) : Option Eff := match op, x with
 | .not, some (.bool (.lit b)) => some (.val [] (.bool (.lit !b)))
 | .not, some (.bool b) => some (.val [] (.bool (.not b)))
 | .neg, some (.int k (.lit n)) => some (.val [] (.int k (.lit (k.wrap (0 - n)))))
 | .neg, some (.int k a) => some (.val [] (.int k (.wrap k (.sub (.lit 0) a))))
 | _, _ => none
theorem sUn_good {op : UnOp} {t : TypeId} {x : Operand} (hop : o.op = .unOp op t x) (hev : EvOk ρ ev ev') (h : sUn op (ev x) = some e) : EffGood P ρ hp S0 S (execOp ev' o) e := by
 unfold sUn at h
 split at h <;> (try (simp at h; done))
 ·rename_i b hx
  obtain ⟨hok, hx'⟩ := hev _ _ hx
  simp only [Option.some.injEq] at h; subst h
  refine good_val (s := Op.unary .not (ev' x)) (by simp only [execOp, hop]) trivial fun _ K hK => ?_
  rw [hx']
  exact Run.pure hK
 ·rename_i b _ hx
  obtain ⟨hok, hx'⟩ := hev _ _ hx
  simp only [Option.some.injEq] at h; subst h
  refine good_val (s := Op.unary .not (ev' x)) (by simp only [execOp, hop]) hok fun _ K hK => ?_
  rw [hx']
  exact Run.pure hK
 ·rename_i k n hx
  obtain ⟨hok, hx'⟩ := hev _ _ hx
  simp only [Option.some.injEq] at h; subst h
  refine good_val (s := Op.unary .neg (ev' x)) (by simp only [execOp, hop]) trivial fun _ K hK => ?_
  rw [hx']
  have e1 : (SC.int k (.lit (k.wrap (0 - n)))).den ρ = .int k (k.wrap (-n)) := by simp [SC.den, IE.den]
  rw [e1] at hK
  exact Run.of_eq (by simp [Op.unary, Op.intArith, SC.den, IE.den, pure]) (Run.pure hK)
 ·rename_i k a _ hx
  obtain ⟨hok, hx'⟩ := hev _ _ hx
  simp only [Option.some.injEq] at h; subst h
  refine good_val (s := Op.unary .neg (ev' x)) (by simp only [execOp, hop]) ⟨trivial, hok⟩ fun _ K hK => ?_
  rw [hx']
  have e1 : (SC.int k (.wrap k (.sub (.lit 0) a))).den ρ = .int k (k.wrap (-(a.den ρ))) := by simp [SC.den, IE.den]
  rw [e1] at hK
  exact Run.of_eq (by simp [Op.unary, Op.intArith, SC.den, pure]) (Run.pure hK)
end
end Mw
set_option linter.unusedVariables false
namespace Mw
open Go Mv
section
variable {P : Program} {ρ : Env} {hp : Hp} {F S0 S : Own} {ev : Operand → Option SC} {ev' : Operand → Value} {o : Oper} {e : Eff}
def BE.and (a b : BE) : BE := match a, b with
 | .lit true, b => b
 | .lit false, _ => .lit false
 | a, b => .pick a b (.lit false)
theorem BE.den_and (a b : BE) : (BE.and a b).den ρ = (a.den ρ && b.den ρ) := by
 unfold BE.and
 split
 ·rfl
 ·rfl
 ·simp only [BE.den]; cases a.den ρ <;> rfl
theorem BE.ok_and {n : Nat} {a b : BE} (ha : a.ok n) (hb : b.ok n) : (BE.and a b).ok n := by
 unfold BE.and
 split
 ·exact hb
 ·trivial
 ·exact ⟨ha, hb, trivial⟩
def IE.eqL (m : Int) (b : IE) : BE := match b with
 | .lit n => .lit (Int.same m n)
 | b => .eq (.lit m) b
def IE.eqB (a b : IE) : BE := match a with
 | .lit m => IE.eqL m b
 | a => .eq a b
def IE.ltL (m : Int) (b : IE) : BE := match b with
 | .lit n => .lit (Int.less m n)
 | b => .lt (.lit m) b
def IE.ltB (a b : IE) : BE := match a with
 | .lit m => IE.ltL m b
 | a => .lt a b
def IE.leL (m : Int) (b : IE) : BE := match b with
 | .lit n => .lit (!Int.less n m)
 | b => .le (.lit m) b
def IE.leB (a b : IE) : BE := match a with
 | .lit m => IE.leL m b
 | a => .le a b
def BE.neg (a : BE) : BE := match a with
 | .lit b => .lit !b
 | a => .not a
theorem IE.den_eqB (a b : IE) : (IE.eqB a b).den ρ = (a.den ρ == b.den ρ) := by
 unfold IE.eqB
 split
 ·unfold IE.eqL
  split
  ·simp only [BE.den, IE.den, Int.same_eq]
  ·rfl
 ·rfl
theorem IE.den_ltB (a b : IE) : (IE.ltB a b).den ρ = decide (a.den ρ < b.den ρ) := by
 unfold IE.ltB
 split
 ·unfold IE.ltL
  split
  ·simp only [BE.den, IE.den, Int.less_eq]; rfl
  ·rfl
 ·rfl
theorem IE.den_leB (a b : IE) : (IE.leB a b).den ρ = decide (a.den ρ ≤ b.den ρ) := by
 unfold IE.leB
 split
 ·unfold IE.leL
  split
  ·rename_i m _ n
   simp only [BE.den, IE.den, Int.less_eq]
   by_cases h : n < m
   ·have : ¬ m ≤ n := by omega
    simp [h, this]
   ·have : m ≤ n := by omega
    simp [h, this]
  ·rfl
 ·rfl
theorem BE.den_neg (a : BE) : (BE.neg a).den ρ = !a.den ρ := by
 unfold BE.neg
 split <;> rfl
theorem IE.ok_eqB {n : Nat} {a b : IE} (ha : a.ok n) (hb : b.ok n) : (IE.eqB a b).ok n := by
 unfold IE.eqB; split
 ·unfold IE.eqL; split <;> first | trivial | exact ⟨ha, hb⟩
 ·exact ⟨ha, hb⟩
theorem IE.ok_ltB {n : Nat} {a b : IE} (ha : a.ok n) (hb : b.ok n) : (IE.ltB a b).ok n := by
 unfold IE.ltB; split
 ·unfold IE.ltL; split <;> first | trivial | exact ⟨ha, hb⟩
 ·exact ⟨ha, hb⟩
theorem IE.ok_leB {n : Nat} {a b : IE} (ha : a.ok n) (hb : b.ok n) : (IE.leB a b).ok n := by
 unfold IE.leB; split
 ·unfold IE.leL; split <;> first | trivial | exact ⟨ha, hb⟩
 ·exact ⟨ha, hb⟩
theorem BE.ok_neg {n : Nat} {a : BE} (ha : a.ok n) : (BE.neg a).ok n := by
 unfold BE.neg; split <;> first | trivial | exact ha
def isRow (hp : Hp) (i : Nat) : Bool := match hp.rw.look i with
 | some (.cells (_ :: _) _) => true
 | some (.row (_ :: _) _ _) => true
 | _ => false
def litsB (a b : BE) : Option BE := match a, b with
 | .lit x, .lit y => some (.lit (x == y))
 | a, b => some (.pick a b (.not b))
def eqFields (P : Program) (eq : TypeId → SC → SC → Option BE) (xs ys : List SC) : List Field → Option BE
 | [] => some (.lit true)
 | f :: fs => match f.name == "_" with
  | true => eqFields P eq xs ys fs
  | false => match symPart P f.type xs f.offset, symPart P f.type ys f.offset with
   | some x, some y => match eq f.type x y with
    | some (.lit false) => some (.lit false)
    | some c => match eqFields P eq xs ys fs with
     | some r => some (BE.and c r)
     | none => none
    | none => none
   | _, _ => none
def eqElems (P : Program) (eq : TypeId → SC → SC → Option BE) (el : TypeId) (n : Nat) (xs ys : List SC) : List Nat → Option BE
 | [] => some (.lit true)
 | i :: is => match symPart P el xs (i * n), symPart P el ys (i * n) with
  | some x, some y => match eq el x y with
   | some (.lit false) => some (.lit false)
   | some c => match eqElems P eq el n xs ys is with
    | some r => some (BE.and c r)
    | none => none
   | none => none
  | _, _ => none
def eqS (P : Program) (hp : Hp) : Nat → TypeId → SC → SC → Option BE
 | 0, _, _, _ => none
 | d + 1, t, x, y => match P.underlying t, x, y with
  | some (.int _), .int k a, .int k' b => match decide (k = k') with
   | true => some (IE.eqB a b)
   | false => none
  | some .bool, .bool a, .bool b => litsB a b
  | some .string, .lit (.string a), .lit (.string b) => some (.lit (a == b))
  | some (.pointer _), .lit (.pointer none), .lit (.pointer none) => some (.lit true)
  | some (.pointer _), .lit (.pointer none), .ptr .. => some (.lit false)
  | some (.pointer _), .ptr .., .lit (.pointer none) => some (.lit false)
  | some (.pointer el), .ptr b (.lit (.ofNat m)), .ptr c (.lit (.ofNat n)) => match sizeT P el with
   | some (_ + 1) => match Nat.beq b c with
    | true => some (.lit (Nat.beq m n))
    | false => match isRow hp b && isRow hp c with
     | true => some (.lit false)
     | false => none
   | _ => none
  | some (.interface _), .lit .nilIface, .lit .nilIface => some (.lit true)
  | some (.interface _), .lit .nilIface, .iface .. => some (.lit false)
  | some (.interface _), .iface .., .lit .nilIface => some (.lit false)
  | some (.interface _), .iface tx vx, .iface ty vy => match Nat.beq tx ty with
   | false => some (.lit false)
   | true => match P.info? tx with
    | some i => match i.comparable with
     | true => eqS P hp d tx vx vy
     | false => none
    | none => none
  | some (.slice _), .lit (.slice none _ _), .lit (.slice none _ _) => some (.lit true)
  | some (.slice _), .lit (.slice none _ _), .slice .. => some (.lit false)
  | some (.slice _), .slice .., .lit (.slice none _ _) => some (.lit false)
  | some (.map ..), .lit (.map none), .lit (.map none) => some (.lit true)
  | some (.map ..), .lit (.map none), .ref _ => some (.lit false)
  | some (.map ..), .ref _, .lit (.map none) => some (.lit false)
  | some (.func ..), .lit .nilFunc, .lit .nilFunc => some (.lit true)
  | some (.func ..), .lit .nilFunc, .fn .. => some (.lit false)
  | some (.func ..), .fn .., .lit .nilFunc => some (.lit false)
  | some (.struct fields), .agg xs, .agg ys => match P.stoodInHeld t with
   | true => none
   | false => eqFields P (eqS P hp d) xs ys fields.toList
  | some (.array len el), .agg xs, .agg ys => match sizeT P el with
   | some n => eqElems P (eqS P hp d) el n xs ys (List.range len)
   | none => none
  | _, _, _ => none
end
end Mw
set_option linter.unusedVariables false
namespace Mw
open Go Mv
section
variable {P : Program} {ρ : Env} {hp : Hp} {F S0 S : Own}
abbrev LoopSt := Option Bool × Unit
def loopRes (b : Bool) : LoopSt := if b then (none, ()) else (some false, ())
theorem run_forIn_cons {β : Type} {x : β} {l : List β} {s : LoopSt} {body : β → LoopSt → Sem (ForInStep LoopSt)} {K : Except Value LoopSt → Own → Prop}
  (h : Run P S0 (body x s) S fun r S' => match r with
   | .ok (.done s') => K (.ok s') S'
   | .ok (.yield s') => Run P S0 (forIn l s' body) S' K
   | .error v => K (.error v) S') : Run P S0 (forIn (x :: l) s body) S K := by
 rw [List.forIn_cons]
 refine Run.bind (h.mono fun r S' k => ?_)
 cases r with
 | error v => exact k
 | ok st => cases st with
  | done s' => exact Run.pure k
  | yield s' => exact k
theorem run_fields {eq : TypeId → SC → SC → Option BE} {eqM : TypeId → Value → Value → Sem Bool} {xs ys : List SC} {n : Nat} (hxs : ∀ x ∈ xs, x.ok n) (hys : ∀ x ∈ ys, x.ok n)
    (heq : ∀ t x y r, eq t x y = some r → x.ok n → y.ok n → r.ok n ∧ ∀ (K : Except Value Bool → Own → Prop), K (.ok (r.den ρ)) S → Run P S0 (eqM t (x.den ρ) (y.den ρ)) S K) :
    ∀ (fs : List Field) (r : BE), eqFields P eq xs ys fs = some r → r.ok n ∧ ∀ (K : Except Value LoopSt → Own → Prop), K (.ok (loopRes (r.den ρ))) S →
      Run P S0 (forIn fs ((none, ()) : LoopSt) fun (f : Field) (_ : LoopSt) => if f.name ≠ "_" then (part f.type (dens ρ xs).toArray f.offset).bind fun a => (part f.type (dens ρ ys).toArray f.offset).bind fun b => (eqM f.type a b).bind fun c =>
        if (!c) = true then (pure (ForInStep.done ((some false, ()) : LoopSt)) : Sem _) else pure (ForInStep.yield (none, ())) else pure (ForInStep.yield (none, ()))) S K := by
  intro fs
  induction fs with
  | nil =>
    intro r h
    simp only [eqFields, Option.some.injEq] at h; subst h
    exact ⟨trivial, fun K hK => Run.pure hK⟩
  | cons f fs ih =>
    intro r h
    simp only [eqFields] at h
    split at h
    · rename_i hname
      have hname' : f.name = "_" := by simpa using hname
      obtain ⟨h1, h2⟩ := ih r h
      refine ⟨h1, fun K hK => run_forIn_cons ?_⟩
      rw [if_neg (by simpa using hname')]
      exact Run.pure (h2 K hK)
    · rename_i hname
      have hname' : f.name ≠ "_" := by simpa using hname
      split at h
      · rename_i x y hx hy
        have hxo := symPart_ok hx hxs
        have hyo := symPart_ok hy hys
        have step : ∀ (c : BE) (K : Except Value LoopSt → Own → Prop), eq f.type x y = some c →
            (c.den ρ = false → K (.ok (some false, ())) S) → (c.den ρ = true → Run P S0 (forIn fs ((none, ()) : LoopSt) fun (f : Field) (_ : LoopSt) => if f.name ≠ "_" then (part f.type (dens ρ xs).toArray f.offset).bind fun a => (part f.type (dens ρ ys).toArray f.offset).bind fun b => (eqM f.type a b).bind fun c =>
        if (!c) = true then (pure (ForInStep.done ((some false, ()) : LoopSt)) : Sem _) else pure (ForInStep.yield (none, ())) else pure (ForInStep.yield (none, ()))) S K) →
            Run P S0 (forIn (f :: fs) ((none, ()) : LoopSt) fun (f : Field) (_ : LoopSt) => if f.name ≠ "_" then (part f.type (dens ρ xs).toArray f.offset).bind fun a => (part f.type (dens ρ ys).toArray f.offset).bind fun b => (eqM f.type a b).bind fun c =>
        if (!c) = true then (pure (ForInStep.done ((some false, ()) : LoopSt)) : Sem _) else pure (ForInStep.yield (none, ())) else pure (ForInStep.yield (none, ()))) S K := by
          intro c K hc hf ht
          refine run_forIn_cons ?_
          rw [if_pos hname']
          refine Run.bind (run_part hx ?_)
          refine Run.bind (run_part hy ?_)
          refine Run.bind ((heq _ _ _ _ hc hxo hyo).2 _ ?_)
          cases hb : c.den ρ with
          | false => exact Run.pure (hf hb)
          | true => exact Run.pure (ht hb)
        split at h
        · rename_i hc
          simp only [Option.some.injEq] at h; subst h
          exact ⟨trivial, fun K hK => step _ K hc (fun _ => hK) (fun hb => by simp [BE.den] at hb)⟩
        · rename_i c _ hc
          split at h
          · rename_i r' hr'
            simp only [Option.some.injEq] at h; subst h
            obtain ⟨h1, h2⟩ := ih r' hr'
            refine ⟨BE.ok_and (heq _ _ _ _ hc hxo hyo).1 h1, fun K hK => step _ K hc (fun hb => ?_) fun hb => h2 K ?_⟩
            · rw [BE.den_and, hb] at hK; exact hK
            · rw [BE.den_and, hb] at hK; exact hK
          · simp at h
        · simp at h
      · simp at h
theorem run_elems {eq : TypeId → SC → SC → Option BE} {eqM : TypeId → Value → Value → Sem Bool} {xs ys : List SC} {el : TypeId} {sz n : Nat} (hxs : ∀ x ∈ xs, x.ok n) (hys : ∀ x ∈ ys, x.ok n)
  (heq : ∀ t x y r, eq t x y = some r → x.ok n → y.ok n → r.ok n ∧ ∀ (K : Except Value Bool → Own → Prop), K (.ok (r.den ρ)) S → Run P S0 (eqM t (x.den ρ) (y.den ρ)) S K) :
  ∀ (is : List Nat) (r : BE), eqElems P eq el sz xs ys is = some r → r.ok n ∧ ∀ (K : Except Value LoopSt → Own → Prop), K (.ok (loopRes (r.den ρ))) S →
   Run P S0 (forIn is ((none, ()) : LoopSt) fun (i : Nat) (_ : LoopSt) => (part el (dens ρ xs).toArray (i * sz)).bind fun a => (part el (dens ρ ys).toArray (i * sz)).bind fun b => (eqM el a b).bind fun c =>
    if (!c) = true then (pure (ForInStep.done ((some false, ()) : LoopSt)) : Sem _) else pure (ForInStep.yield (none, ()))) S K := by
 intro is
 induction is with
 | nil =>
  intro r h
  simp only [eqElems, Option.some.injEq] at h; subst h
  exact ⟨trivial, fun K hK => Run.pure hK⟩
 | cons i is ih =>
  intro r h
  simp only [eqElems] at h
  split at h
  ·rename_i x y hx hy
   have hxo := symPart_ok hx hxs
   have hyo := symPart_ok hy hys
   have step : ∀ (c : BE) (K : Except Value LoopSt → Own → Prop), eq el x y = some c →
     (c.den ρ = false → K (.ok (some false, ())) S) → (c.den ρ = true → Run P S0 (forIn is ((none, ()) : LoopSt) fun (i : Nat) (_ : LoopSt) => (part el (dens ρ xs).toArray (i * sz)).bind fun a => (part el (dens ρ ys).toArray (i * sz)).bind fun b => (eqM el a b).bind fun c =>
    if (!c) = true then (pure (ForInStep.done ((some false, ()) : LoopSt)) : Sem _) else pure (ForInStep.yield (none, ()))) S K) →
     Run P S0 (forIn (i :: is) ((none, ()) : LoopSt) fun (i : Nat) (_ : LoopSt) => (part el (dens ρ xs).toArray (i * sz)).bind fun a => (part el (dens ρ ys).toArray (i * sz)).bind fun b => (eqM el a b).bind fun c =>
    if (!c) = true then (pure (ForInStep.done ((some false, ()) : LoopSt)) : Sem _) else pure (ForInStep.yield (none, ()))) S K := by
    intro c K hc hf ht
    refine run_forIn_cons ?_
    refine Run.bind (run_part hx ?_)
    refine Run.bind (run_part hy ?_)
    refine Run.bind ((heq _ _ _ _ hc hxo hyo).2 _ ?_)
    cases hb : c.den ρ with
    | false => exact Run.pure (hf hb)
    | true => exact Run.pure (ht hb)
   split at h
   ·rename_i hc
    simp only [Option.some.injEq] at h; subst h
    exact ⟨trivial, fun K hK => step _ K hc (fun _ => hK) (fun hb => by simp [BE.den] at hb)⟩
   ·rename_i c _ hc
    split at h
    ·rename_i r' hr'
     simp only [Option.some.injEq] at h; subst h
     obtain ⟨h1, h2⟩ := ih r' hr'
     refine ⟨BE.ok_and (heq _ _ _ _ hc hxo hyo).1 h1, fun K hK => step _ K hc (fun hb => ?_) fun hb => h2 K ?_⟩
     ·rw [BE.den_and, hb] at hK; exact hK
     ·rw [BE.den_and, hb] at hK; exact hK
    ·simp at h
   ·simp at h
  ·simp at h
theorem isRow_has {i : Nat} (hs : Sat ρ hp F S) (h : isRow hp i = true) : ∃ o c e, hp.rw.look i = some o ∧ S.full (ρ.blk i) = some (.cells c e (0, 0)) ∧ 0 < c.size := by
 unfold isRow at h
 split at h
 ·rename_i x l e hl
  exact ⟨_, _, _, hl, (hs.has i _ hl).2.2, by simp⟩
 ·rename_i x l e r hl
  exact ⟨_, _, _, hl, (hs.has i _ hl).2.2, by simp⟩
 ·cases h
theorem run_frozen_row {α : Type} {b off : Nat} {c : Array Value} {te : TypeId} {g : Bool → Sem α} {K : Except Value α → Own → Prop} (hb : S.full b = some (.cells c te (0, 0))) (h : Run P S0 (g false) S K) : Run P S0 ((frozen ⟨b, off, none⟩).bind g) S K := by
 refine Run.frozen (a := ⟨b, off, none⟩) (c := c) (e := te) (lo := 0) (hi := 0) (by unfold Own.get; rw [hb]; rfl) ?_
 have : (decide (0 ≤ off) && decide (off < 0)) = false := by simp
 show Run P S0 (Sem.bind (.pure (decide (0 ≤ off) && decide (off < 0))) g) S K
 rw [this]; exact h
theorem run_shape_row {α : Type} {b : Nat} {c : Array Value} {te : TypeId} {g : Option (TypeId × Nat) → Sem α} {K : Except Value α → Own → Prop} (hb : S.full b = some (.cells c te (0, 0))) (h : Run P S0 (g (some (te, c.size))) S K) : Run P S0 ((shape b).bind g) S K :=
 Run.shape (c := c) (e := te) (f := (0, 0)) (by unfold Own.get; rw [hb]; rfl) h
theorem run_sameAddr {a b m n : Nat} {c c' : Array Value} {te te' : TypeId} (ha : S.full a = some (.cells c te (0, 0))) (hb : S.full b = some (.cells c' te' (0, 0))) (h0 : 0 < c.size) (h0' : 0 < c'.size) (hne : a ≠ b) {K : Except Value Bool → Own → Prop} (hK : K (.ok false) S) :
  Run P S0 (sameAddr ⟨a, m, none⟩ ⟨b, n, none⟩) S K := by
 rw [← Sem.bind_pure' (sameAddr _ _)]
 unfold sameAddr
 simp only [bind]
 rw [if_neg (by simpa using hne)]
 simp only [Sem.bind_assoc']
 refine run_frozen_row ha (run_frozen_row hb ?_)
 simp only [Bool.and_self, Bool.false_eq_true, if_false]
 simp only [noView, viewAt, bind, Sem.bind_assoc']
 refine run_shape_row ha ?_
 show Run P S0 ((shape b).bind _) S K
 refine run_shape_row hb ?_
 show Run P S0 ((mayBeOne ⟨a, m, none⟩ ⟨b, n, none⟩).bind fun r => (if r = true then (choose (Question.extern "sameAddr.stringBytes" 2)).bind fun x => pure (x == 1) else pure false).bind Sem.pure) S K
 unfold mayBeOne
 simp only [stringish, bind, Sem.bind_assoc']
 refine run_frozen_row ha ?_
 simp only [Bool.false_eq_true, if_false, Sem.bind_assoc']
 refine run_shape_row ha (run_frozen_row ha ?_)
 refine run_frozen_row hb ?_
 simp only [Bool.false_eq_true, if_false, Sem.bind_assoc']
 refine run_shape_row hb (run_frozen_row hb ?_)
 refine run_shape_row ha ?_
 refine run_shape_row hb ?_
 exact Run.pure hK
theorem eqS_ok (hs : Sat ρ hp F S) : ∀ (d d' : Nat) (t : TypeId) (x y : SC) (r : BE), d ≤ d' → eqS P hp d t x y = some r → x.ok ρ.k.length → y.ok ρ.k.length →
    r.ok ρ.k.length ∧ ∀ (K : Except Value Bool → Own → Prop), K (.ok (r.den ρ)) S → Run P S0 (Op.equalIn d' t (x.den ρ) (y.den ρ)) S K := by
  intro d
  induction d with
  | zero => intro d' t x y r _ h; simp [eqS] at h
  | succ d ih =>
    intro d' t x y r hd h hxo hyo
    obtain ⟨d', rfl⟩ : ∃ d'', d' = d'' + 1 := ⟨d' - 1, by omega⟩
    have open_ : ∀ (K : Except Value Bool → Own → Prop) (td : TypeDesc), P.underlying t = some td → Run P S0 ((Op.equalIn (d' + 1) t (x.den ρ) (y.den ρ)).bind Sem.pure) S K → Run P S0 (Op.equalIn (d' + 1) t (x.den ρ) (y.den ρ)) S K := fun K td _ h => by
      rwa [Sem.bind_pure'] at h
    unfold eqS at h
    split at h <;> (try (simp at h; done))
    ·
      rename_i k0 k a k' b hu
      split at h
      · rename_i hk
        have hk : k = k' := of_decide_eq_true hk
        subst hk
        simp only [Option.some.injEq] at h; subst h
        refine ⟨IE.ok_eqB hxo hyo, fun K hK => open_ K _ hu ?_⟩
        unfold Op.equalIn
        simp only [bind]
        rw [Sem.bind_assoc']
        refine run_underlying hu ?_
        rw [IE.den_eqB] at hK
        simp only [SC.den, if_true]
        exact Run.pure hK
      · simp at h
    ·
      rename_i a b hu
      unfold litsB at h
      split at h
      · simp only [Option.some.injEq] at h; subst h
        refine ⟨trivial, fun K hK => open_ K _ hu ?_⟩
        unfold Op.equalIn
        simp only [bind]
        rw [Sem.bind_assoc']
        exact run_underlying hu (Run.pure hK)
      · simp only [Option.some.injEq] at h; subst h
        refine ⟨⟨hxo, hyo, hyo⟩, fun K hK => open_ K _ hu ?_⟩
        unfold Op.equalIn
        simp only [bind]
        rw [Sem.bind_assoc']
        refine run_underlying hu (Run.pure ?_)
        simp only [BE.den] at hK
        revert hK
        cases a.den ρ <;> cases b.den ρ <;> exact id
    ·
      rename_i a b hu
      simp only [Option.some.injEq] at h; subst h
      refine ⟨trivial, fun K hK => open_ K _ hu ?_⟩
      unfold Op.equalIn
      simp only [bind]
      rw [Sem.bind_assoc']
      exact run_underlying hu (Run.pure hK)
    · rename_i hu
      simp only [Option.some.injEq] at h; subst h
      refine ⟨trivial, fun K hK => open_ K _ hu ?_⟩
      unfold Op.equalIn
      simp only [bind]
      rw [Sem.bind_assoc']
      exact run_underlying hu (Run.pure hK)
    · rename_i hu
      simp only [Option.some.injEq] at h; subst h
      refine ⟨trivial, fun K hK => open_ K _ hu ?_⟩
      unfold Op.equalIn
      simp only [bind]
      rw [Sem.bind_assoc']
      exact run_underlying hu (Run.pure hK)
    · rename_i hu
      simp only [Option.some.injEq] at h; subst h
      refine ⟨trivial, fun K hK => open_ K _ hu ?_⟩
      unfold Op.equalIn
      simp only [bind]
      rw [Sem.bind_assoc']
      exact run_underlying hu (Run.pure hK)
    ·
      rename_i el b m c n hu
      split at h
      · rename_i sz hsz
        obtain ⟨i, hi, hsz⟩ := Option.map_eq_some_iff.1 hsz
        have enter : ∀ (K : Except Value Bool → Own → Prop), Run P S0 (sameAddr ⟨ρ.blk b, m, none⟩ ⟨ρ.blk c, n, none⟩) S K → Run P S0 (Op.equalIn (d' + 1) t (.pointer (some ⟨ρ.blk b, m, none⟩)) (.pointer (some ⟨ρ.blk c, n, none⟩))) S K := by
          intro K hr
          rw [← Sem.bind_pure' (Op.equalIn (d' + 1) t _ _)]
          unfold Op.equalIn
          simp only [bind]
          rw [Sem.bind_assoc']
          refine run_underlying hu ?_
          show Run P S0 (((Go.sizeOf el).bind _).bind Sem.pure) S K
          rw [Sem.bind_assoc']
          refine run_sizeOf hi ?_
          rw [if_pos (by omega), Sem.bind_pure']
          exact hr
        split at h
        · rename_i hbc
          have hbc := Nat.eq_of_beq_eq_true hbc
          subst hbc
          simp only [Option.some.injEq] at h; subst h
          refine ⟨trivial, fun K hK => enter K ?_⟩
          unfold sameAddr
          simp only [beq_self_eq_true, if_true]
          have e1 : ((⟨ρ.blk b, m, none⟩ : Addr) == ⟨ρ.blk b, n, none⟩) = Nat.beq m n := by
            rw [Bool.eq_iff_iff]
            simp [Nat.beq_eq]
          show Run P S0 (Sem.pure _) S K
          rw [e1]
          exact Run.pure hK
        · rename_i hbc
          split at h
          · rename_i hrow
            simp only [Bool.and_eq_true] at hrow
            simp only [Option.some.injEq] at h; subst h
            obtain ⟨o1, c1, e1, hl1, hf1, hz1⟩ := isRow_has hs hrow.1
            obtain ⟨o2, c2, e2, hl2, hf2, hz2⟩ := isRow_has hs hrow.2
            refine ⟨trivial, fun K hK => enter K (run_sameAddr hf1 hf2 hz1 hz2 ?_ hK)⟩
            intro e
            have := hs.inj _ _ _ _ hl1 hl2 e
            subst this
            simp at hbc
          · simp at h
      · simp at h
    all_goals try (
      rename_i hu
      simp only [Option.some.injEq] at h; subst h
      refine ⟨trivial, fun K hK => open_ K _ hu ?_⟩
      unfold Op.equalIn
      simp only [bind]
      rw [Sem.bind_assoc']
      exact run_underlying hu (Run.pure hK)
      done)
    ·
      rename_i tx vx ty vy hu
      obtain ⟨m, enter⟩ : ∃ m : String, ∀ (K : Except Value Bool → Own → Prop), Run P S0 ((if tx ≠ ty then pure false else (typeInfo tx).bind fun info => if (!info.comparable) = true then
            (do if (← program).holdsPacked (← program).depth tx then unsupported (.noEntry m)
                runtimePanic (.error ("comparing uncomparable type " ++ (← typeStr tx)))) else Op.equalIn d' tx (vx.den ρ) (vy.den ρ) : Sem Bool)) S K → Run P S0 (Op.equalIn (d' + 1) t (.iface tx (vx.den ρ)) (.iface ty (vy.den ρ))) S K := by
        apply Exists.intro
        intro K hr
        rw [← Sem.bind_pure' (Op.equalIn (d' + 1) t _ _)]
        unfold Op.equalIn
        simp only [bind]
        rw [Sem.bind_assoc']
        refine run_underlying hu ?_
        rw [Sem.bind_pure']
        exact hr
      split at h
      · rename_i hne
        simp only [Option.some.injEq] at h; subst h
        refine ⟨trivial, fun K hK => enter K ?_⟩
        rw [if_pos (fun e => by subst e; simp at hne)]
        exact Run.pure hK
      · rename_i heq
        have heq := Nat.eq_of_beq_eq_true heq
        subst heq
        split at h
        · rename_i i hi
          split at h
          · rename_i hc
            obtain ⟨h1, h2⟩ := ih d' tx vx vy r (by omega) h hxo hyo
            refine ⟨h1, fun K hK => enter K ?_⟩
            rw [if_neg (by simp)]
            refine run_typeInfo hi ?_
            rw [if_neg (by simp [hc])]
            exact h2 K hK
          · simp at h
        · simp at h
    ·
      rename_i fields xs ys hu
      split at h
      · simp at h
      · rename_i hst
        obtain ⟨h1, h2⟩ := run_fields (P := P) (S0 := S0) (S := S) (ρ := ρ) (eqM := Op.equalIn d') (oks_iff.1 hxo) (oks_iff.1 hyo) (fun t x y r hh hx hy => ih d' t x y r (by omega) hh hx hy) _ r h
        refine ⟨h1, fun K hK => open_ K _ hu ?_⟩
        unfold Op.equalIn
        simp only [bind]
        rw [Sem.bind_assoc']
        refine run_underlying hu ?_
        rw [Sem.bind_pure']
        show Run P S0 (Sem.bind program _) S K
        refine Run.bind (Run.program (Run.pure ?_))
        simp only [hst, Bool.false_eq_true, if_false, Array.forIn_toList.symm]
        refine Run.bind (h2 _ ?_)
        cases hb : r.den ρ with
        | true => simp only [loopRes, if_true]; rw [hb] at hK; exact Run.pure hK
        | false => simp only [loopRes, Bool.false_eq_true, if_false]; rw [hb] at hK; exact Run.pure hK
    ·
      rename_i len el xs ys hu
      split at h
      · rename_i n hn
        obtain ⟨i, hi, hn⟩ := Option.map_eq_some_iff.1 hn
        obtain ⟨h1, h2⟩ := run_elems (P := P) (S0 := S0) (S := S) (ρ := ρ) (eqM := Op.equalIn d') (oks_iff.1 hxo) (oks_iff.1 hyo) (fun t x y r hh hx hy => ih d' t x y r (by omega) hh hx hy) _ r h
        refine ⟨h1, fun K hK => open_ K _ hu ?_⟩
        unfold Op.equalIn
        simp only [bind]
        rw [Sem.bind_assoc']
        refine run_underlying hu ?_
        rw [Sem.bind_pure']
        show Run P S0 ((Go.sizeOf el).bind _) S K
        refine run_sizeOf hi ?_
        rw [hn]
        simp only [Std.Legacy.Range.forIn_eq_forIn_range', Std.Legacy.Range.size, Nat.sub_zero, Nat.add_sub_cancel, Nat.div_one, ← List.range_eq_range']
        refine Run.bind (h2 _ ?_)
        cases hb : r.den ρ with
        | true => simp only [loopRes, if_true]; rw [hb] at hK; exact Run.pure hK
        | false => simp only [loopRes, Bool.false_eq_true, if_false]; rw [hb] at hK; exact Run.pure hK
      · simp at h
end
end Mw
set_option linter.unusedVariables false
namespace Mw
open Go Mv
section
variable {P : Program} {ρ : Env} {hp : Hp} {F S0 S : Own} {ev : Operand → Option SC} {ev' : Operand → Value} {o : Oper} {e : Eff}
def isConstO : Operand → Bool
 | .const _ => true
 | _ => false
def guardEq (P : Program) (t : TypeId) (x y : Operand) (a b : SC) : Bool := match a, b with
 | .lit .nilIface, .lit .nilIface => isConstO x || isConstO y
 | .agg _, .agg _ => !P.eqGuardType P.depth t
 | .any _, _ | _, .any _ => false
 | .lit (.agg _), _ | _, .lit (.agg _) => false
 | _, _ => true
def guardFree (P : Program) (op : BinOp) (t : TypeId) (x y : Operand) (a b : SC) : Bool := match op with
 | .eql | .neq => guardEq P t x y a b
 | _ => true
theorem guardEq_run {op : BinOp} (hop : op = .eql ∨ op = .neq) {t : TypeId} {x y : Operand} {a b : SC} (h : guardEq P t x y a b = true) {α : Type} {f : Unit → Sem α} {K : Except Value α → Own → Prop} (hf : Run P S0 (f ()) S K) : Run P S0 ((eqGuard op t x y (a.den ρ) (b.den ρ)).bind f) S K := by
 unfold guardEq at h
 split at h
 ·have : eqGuard op t x y .nilIface .nilIface = (Sem.pure () : Sem Unit) := by
   unfold eqGuard
   rcases hop with rfl | rfl <;> cases x <;> cases y <;> first | rfl | (simp [isConstO] at h)
  simp only [SC.den]
  rw [this]; exact hf
 ·rename_i xs ys
  simp only [SC.den]
  unfold eqGuard
  rcases hop with rfl | rfl
  all_goals
   show Run P S0 ((Sem.bind program fun p => Sem.bind program fun q => _).bind f) S K
   rw [Sem.bind_assoc']
   refine Run.bind (Run.program (Run.pure ?_))
   show Run P S0 ((Sem.bind program fun q => _).bind f) S K
   rw [Sem.bind_assoc']
   refine Run.bind (Run.program (Run.pure ?_))
   simp only [h, if_true]
   exact hf
 ·cases h
 ·cases h
 ·cases h
 ·cases h
 ·have h1 : a = .lit .nilIface → b = .lit .nilIface → False := by assumption
  have h2 : ∀ l l', a = .agg l → b = .agg l' → False := by assumption
  have h3 : ∀ i, a = .any i → False := by assumption
  have h4 : ∀ i, b = .any i → False := by assumption
  have h5 : ∀ l, a = .lit (.agg l) → False := by assumption
  have h6 : ∀ l, b = .lit (.agg l) → False := by assumption
  have e1 : ¬ (a.den ρ = .nilIface ∧ b.den ρ = .nilIface) := by
   rintro ⟨ha, hb⟩
   cases a <;> simp only [SC.den, reduceCtorEq] at ha
   ·exact h3 _ rfl
   ·cases b <;> simp only [SC.den, reduceCtorEq] at hb
    ·exact h4 _ rfl
    ·subst ha; subst hb; exact h1 rfl rfl
  have e2 : ∀ c c', ¬ (a.den ρ = .agg c ∧ b.den ρ = .agg c') := by
   rintro c c' ⟨ha, hb⟩
   cases a <;> simp only [SC.den, reduceCtorEq] at ha
   ·exact h3 _ rfl
   ·subst ha; exact h5 _ rfl
   ·cases b <;> simp only [SC.den, reduceCtorEq] at hb
    ·exact h4 _ rfl
    ·subst hb; exact h6 _ rfl
    ·exact h2 _ _ rfl rfl
  have : eqGuard op t x y (a.den ρ) (b.den ρ) = (Sem.pure () : Sem Unit) := by
   unfold eqGuard
   generalize a.den ρ = va at e1 e2 ⊢
   generalize b.den ρ = vb at e1 e2 ⊢
   rcases hop with rfl | rfl
   all_goals
    cases va <;> cases vb <;> first | rfl | exact absurd ⟨rfl, rfl⟩ e1 | exact absurd ⟨rfl, rfl⟩ (e2 _ _)
  rw [this]; exact hf
theorem guard_run {op : BinOp} {t : TypeId} {x y : Operand} {a b : SC} (h : guardFree P op t x y a b = true) {α : Type} {f : Unit → Sem α} {K : Except Value α → Own → Prop} (hf : Run P S0 (f ()) S K) : Run P S0 ((eqGuard op t x y (a.den ρ) (b.den ρ)).bind f) S K := by
 cases op <;> first | exact guardEq_run (.inl rfl) h hf | exact guardEq_run (.inr rfl) h hf | exact hf
def sAdd (k : IntKind) (a b : IE) : Option Eff := some (.val [] (.int k (.wrp k (.plus a b))))
def subI (k : IntKind) (a b : IE) : IE := match a, b with
 | .lit m, .lit n => .lit (k.wrap (m - n))
 | a, b => .wrap k (.sub a b)
def mulI (k : IntKind) (a b : IE) : IE := match a, b with
 | .lit m, .lit n => .lit (k.wrap (m * n))
 | a, b => .wrap k (.mul a b)
def sSub (k : IntKind) (a b : IE) : Option Eff := some (.val [] (.int k (subI k a b)))
def sMul (k : IntKind) (a b : IE) : Option Eff := some (.val [] (.int k (mulI k a b)))
def sQuo (k : IntKind) (a b : IE) : Option Eff := match a, b with
 | .lit m, .lit n => match Int.same n 0 with
  | true => none
  | false => some (.val [] (.int k (.lit (k.wrap (m.tdiv n)))))
 | a, b => some (.val [.not (.eq b (.lit 0))] (.int k (.wrap k (.quo a b))))
def sRem (k : IntKind) (a b : IE) : Option Eff := match a, b with
 | .lit m, .lit n => match Int.same n 0 with
  | true => none
  | false => some (.val [] (.int k (.lit (m.tmod n))))
 | a, b => some (.val [.not (.eq b (.lit 0))] (.int k (.rem a b)))
def sBits (op : BinOp) (k : IntKind) (a b : IE) : Option Eff := match a, b with
 | .lit m, .lit n => some (.val [] (.int k (.lit (bitsOf op k m n))))
 | a, b => some (.val [] (.int k (.bits op k a b)))
def sShl (k : IntKind) (a b : IE) : Option Eff := match a, b with
 | .lit m, .lit (.ofNat n) => some (.val [] (.int k (.lit (k.wrap (m * 2 ^ (Nat.min n k.bits))))))
 | _, _ => some (.val (notNeg b) (.int k (.wrap k (.shl k a b))))
def sShr (k : IntKind) (a b : IE) : Option Eff := match a, b with
 | .lit m, .lit (.ofNat n) => some (.val [] (.int k (.lit (m.fdiv (2 ^ (Nat.min n k.bits))))))
 | _, _ => some (.val (notNeg b) (.int k (.shr k a b)))
def sBool (b : BE) : Option Eff := some (.val [] (.bool b))
def sInt (op : BinOp) (k : IntKind) (a b : IE) : Option Eff := match op with
 | .add => sAdd k a b
 | .sub => sSub k a b
 | .mul => sMul k a b
 | .quo => sQuo k a b
 | .rem => sRem k a b
 | .and => sBits .and k a b
 | .or => sBits .or k a b
 | .xor => sBits .xor k a b
 | .andNot => sBits .andNot k a b
 | .shl => sShl k a b
 | .shr => sShr k a b
 | .eql => sBool (IE.eqB a b)
 | .neq => sBool (BE.neg (IE.eqB a b))
 | .lss => sBool (IE.ltB a b)
 | .leq => sBool (IE.leB a b)
 | .gtr => sBool (IE.ltB b a)
 | .geq => sBool (IE.leB b a)
def isShift : BinOp → Bool
 | .shl | .shr => true
 | _ => false
def sBin (P : Program) (hp : Hp) (op : BinOp) (t : TypeId) (x y : Operand) (a b : Option SC) : Option Eff := match a, b with
 | some (.int k a), some (.int k' b) => match isShift op || decide (k = k') with
  | true => sInt op k a b
  | false => none
 | some (.lit (.string a)), some (.lit (.string b)) => match op with
  | .eql => some (.val [] (.bool (.lit (a.toList == b.toList))))
  | .neq => some (.val [] (.bool (.lit (!(a.toList == b.toList)))))
  | _ => none
 | some a, some b => match guardFree P op t x y a b with
  | true => match op with
   | .eql => match eqS P hp 40 t a b with
    | some r => some (.val [] (.bool r))
    | none => none
   | .neq => match eqS P hp 40 t a b with
    | some r => some (.val [] (.bool (BE.neg r)))
    | none => none
   | _ => none
  | false => none
 | _, _ => none
theorem sInt_ok {op : BinOp} {k : IntKind} {a b : IE} (ha : a.ok ρ.k.length) (hb : b.ok ρ.k.length) (h : sInt op k a b = some e) : e.ok ρ.k.length := by
  cases op <;> simp only [sInt, sAdd, sSub, sMul, subI, mulI, sQuo, sRem, sBits, sShl, sShr, sBool] at h
  case quo | rem | and | or | xor | andNot | shl | shr =>
    split at h
    · first
        | (split at h
           · simp at h
           · simp only [Option.some.injEq] at h; subst h; exact trivial)
        | (simp only [Option.some.injEq] at h; subst h; exact trivial)
    · simp only [Option.some.injEq] at h; subst h
      first | exact ⟨ha, hb⟩ | exact trivial
  all_goals simp only [Option.some.injEq] at h; subst h
  case add => exact IE.ok_wrp (IE.ok_plus ha hb)
  case sub => show IE.ok _ _; split <;> first | trivial | exact ⟨ha, hb⟩
  case mul => show IE.ok _ _; split <;> first | trivial | exact ⟨ha, hb⟩
  case eql => exact IE.ok_eqB ha hb
  case neq => exact BE.ok_neg (IE.ok_eqB ha hb)
  case lss => exact IE.ok_ltB ha hb
  case leq => exact IE.ok_leB ha hb
  case gtr => exact IE.ok_ltB hb ha
  case geq => exact IE.ok_leB hb ha
theorem sInt_run {op : BinOp} {k k' : IntKind} {a b : IE} {t : TypeId} (hk : isShift op = true ∨ k = k') (h : sInt op k a b = some e) : ∃ needs v, e = .val needs v ∧ (allTrue ρ needs → ∀ K : Except Value Value → Own → Prop, K (.ok (v.den ρ)) S → Run P S0 (binOp op t (.int k (a.den ρ)) (.int k' (b.den ρ))) S K) := by
 have fin : ∀ {needs : List BE} {v : SC}, e = .val needs v → (allTrue ρ needs → binOp op t (.int k (a.den ρ)) (.int k' (b.den ρ)) = Sem.pure (v.den ρ)) → ∃ needs v, e = .val needs v ∧ (allTrue ρ needs → ∀ K : Except Value Value → Own → Prop, K (.ok (v.den ρ)) S → Run P S0 (binOp op t (.int k (a.den ρ)) (.int k' (b.den ρ))) S K) :=
  fun he hb => ⟨_, _, he, fun hn K hK => Run.of_eq (hb hn) (Run.pure hK)⟩
 cases op <;> simp only [sInt, sAdd, sSub, sMul, subI, mulI, sQuo, sRem, sBits, sShl, sShr, sBool] at h
 case shl =>
  split at h
  ·simp only [Option.some.injEq] at h; subst h
   rename_i m n
   refine fin rfl fun _ => ?_
   simp only [binOp, Op.shift, IE.den]
   rfl
  ·simp only [Option.some.injEq] at h; subst h
   refine fin rfl fun hn => ?_
   have := notNeg_den hn
   simp only [binOp, Op.shift, SC.den, IE.den, if_neg (show ¬ (b.den ρ < 0) by omega)]
   rfl
 case shr =>
  split at h
  ·simp only [Option.some.injEq] at h; subst h
   rename_i m n
   refine fin rfl fun _ => ?_
   simp only [binOp, Op.shift, IE.den]
   rfl
  ·simp only [Option.some.injEq] at h; subst h
   refine fin rfl fun hn => ?_
   have := notNeg_den hn
   simp only [binOp, Op.shift, SC.den, IE.den, if_neg (show ¬ (b.den ρ < 0) by omega)]
   rfl
 all_goals
  have hk : k = k' := by rcases hk with h | h <;> first | exact h | (simp [isShift] at h)
  subst hk
 case quo =>
  split at h
  ·rename_i m n
   split at h
   ·simp at h
   ·rename_i hne
    simp only [Option.some.injEq] at h; subst h
    have : ¬ n = 0 := fun e => by subst e; simp [Int.same_eq] at hne
    refine fin rfl fun _ => ?_
    simp [binOp, Op.intDiv, SC.den, IE.den, pure, this]
  ·simp only [Option.some.injEq] at h; subst h
   refine fin rfl fun hn => ?_
   have : ¬ b.den ρ = 0 := by
    have := hn _ List.mem_cons_self
    simpa [BE.den, IE.den] using this
   simp [binOp, Op.intDiv, SC.den, IE.den, pure, this]
 case rem =>
  split at h
  ·rename_i m n
   split at h
   ·simp at h
   ·rename_i hne
    simp only [Option.some.injEq] at h; subst h
    have : ¬ n = 0 := fun e => by subst e; simp [Int.same_eq] at hne
    refine fin rfl fun _ => ?_
    simp [binOp, Op.intDiv, SC.den, IE.den, pure, this]
  ·simp only [Option.some.injEq] at h; subst h
   refine fin rfl fun hn => ?_
   have : ¬ b.den ρ = 0 := by
    have := hn _ List.mem_cons_self
    simpa [BE.den, IE.den] using this
   simp [binOp, Op.intDiv, SC.den, IE.den, pure, this]
 case and | or | xor | andNot =>
  split at h <;> simp only [Option.some.injEq] at h <;> subst h <;> (refine fin rfl fun _ => ?_) <;> (simp only [binOp, ne_eq, not_true_eq_false, if_false, Op.intBits]; rfl)
 all_goals simp only [Option.some.injEq] at h; subst h
 case add =>
  refine fin rfl fun _ => ?_
  simp [binOp, Op.intArith, SC.den, IE.den_wrp, IE.den_plus, pure]
 case sub =>
  refine fin rfl fun _ => ?_
  simp only [SC.den]
  split <;> (simp only [binOp, ne_eq, not_true_eq_false, if_false, Op.intArith]; rfl)
 case mul =>
  refine fin rfl fun _ => ?_
  simp only [SC.den]
  split <;> (simp only [binOp, ne_eq, not_true_eq_false, if_false, Op.intArith]; rfl)
 case eql =>
  refine fin rfl fun _ => ?_
  simp only [SC.den, IE.den_eqB, binOp, ne_eq, not_true_eq_false, if_false, Op.intCmp]; rfl
 case neq =>
  refine fin rfl fun _ => ?_
  simp only [SC.den, BE.den_neg, IE.den_eqB, binOp, ne_eq, not_true_eq_false, if_false, Op.intCmp]; rfl
 case lss =>
  refine fin rfl fun _ => ?_
  simp only [SC.den, IE.den_ltB, binOp, ne_eq, not_true_eq_false, if_false, Op.intCmp]; rfl
 case leq =>
  refine fin rfl fun _ => ?_
  simp only [SC.den, IE.den_leB, binOp, ne_eq, not_true_eq_false, if_false, Op.intCmp]; rfl
 case gtr =>
  refine fin rfl fun _ => ?_
  simp only [SC.den, IE.den_ltB, binOp, ne_eq, not_true_eq_false, if_false, Op.intCmp]; rfl
 case geq =>
  refine fin rfl fun _ => ?_
  simp only [SC.den, IE.den_leB, binOp, ne_eq, not_true_eq_false, if_false, Op.intCmp]; rfl
theorem sBin_good {op : BinOp} {t yt : TypeId} {x y : Operand} (hop : o.op = .binOp op t x y yt) (hs : Sat ρ hp F S) (hev : EvOk ρ ev ev') (h : sBin P hp op t x y (ev x) (ev y) = some e) : EffGood P ρ hp S0 S (execOp ev' o) e := by
 have hred : execOp ev' o = (do pure (.value (← (do eqGuard op t x y (ev' x) (ev' y); binOp op t (ev' x) (ev' y)))) : Sem Next) := by simp only [execOp, hop]
 unfold sBin at h
 split at h
 ·rename_i k a k' b hx hy
  obtain ⟨hxo, hx'⟩ := hev x _ hx
  obtain ⟨hyo, hy'⟩ := hev y _ hy
  split at h
  ·rename_i hk
   have hk : isShift op = true ∨ k = k' := by simpa using hk
   have hok := sInt_ok (ρ := ρ) hxo hyo h
   obtain ⟨needs, v, rfl, hrun⟩ := sInt_run (P := P) (ρ := ρ) (S0 := S0) (S := S) (t := t) hk h
   refine good_val hred hok fun hn K hK => ?_
   rw [hx', hy']
   have hg : guardFree P op t x y (.int k a) (.int k' b) = true := by cases op <;> rfl
   exact guard_run hg (hrun hn K hK)
  ·simp at h
 ·rename_i a b hx hy
  obtain ⟨hxo, hx'⟩ := hev x _ hx
  obtain ⟨hyo, hy'⟩ := hev y _ hy
  split at h <;> (try (simp at h; done))
  ·simp only [Option.some.injEq] at h; subst h
   refine good_val hred trivial fun _ K hK => ?_
   rw [hx', hy']
   exact guard_run (P := P) (op := .eql) (x := x) (y := y) (a := .lit (.string a)) (b := .lit (.string b)) rfl (Run.pure hK)
  ·simp only [Option.some.injEq] at h; subst h
   refine good_val hred trivial fun _ K hK => ?_
   rw [hx', hy']
   exact guard_run (P := P) (op := .neq) (x := x) (y := y) (a := .lit (.string a)) (b := .lit (.string b)) rfl (Run.pure hK)
 ·rename_i a b _ _ hx hy
  obtain ⟨hxo, hx'⟩ := hev x _ hx
  obtain ⟨hyo, hy'⟩ := hev y _ hy
  split at h
  ·rename_i hg
   have hbin : ∀ r, eqS P hp 40 t a b = some r → ∀ K : Except Value Value → Own → Prop, (K (.ok (.bool (r.den ρ))) S → Run P S0 (binOp .eql t (a.den ρ) (b.den ρ)) S K) ∧ (K (.ok (.bool (!r.den ρ))) S → Run P S0 (binOp .neq t (a.den ρ) (b.den ρ)) S K) := by
    intro r hr K
    have hok := (eqS_ok (P := P) (S0 := S0) hs 40 Op.maxDepth t a b r (by decide) hr hxo hyo).2
    have fin : (binOp .eql t (a.den ρ) (b.den ρ) = (Op.equal t (a.den ρ) (b.den ρ)).bind fun r => Sem.pure (.bool r)) → (binOp .neq t (a.den ρ) (b.den ρ) = (Op.equal t (a.den ρ) (b.den ρ)).bind fun r => Sem.pure (.bool !r)) →
      (K (.ok (.bool (r.den ρ))) S → Run P S0 (binOp .eql t (a.den ρ) (b.den ρ)) S K) ∧ (K (.ok (.bool (!r.den ρ))) S → Run P S0 (binOp .neq t (a.den ρ) (b.den ρ)) S K) := fun h1 h2 =>
     ⟨fun hK => by rw [h1]; exact Run.bind (hok _ (Run.pure hK)), fun hK => by rw [h2]; exact Run.bind (hok _ (Run.pure hK))⟩
    have hnint : ∀ k a' k' b', a = .int k a' → b = .int k' b' → False := by assumption
    have hnstr : ∀ a' b', a = .lit (.string a') → b = .lit (.string b') → False := by assumption
    unfold eqS at hr
    split at hr <;> (try (simp at hr; done)) <;> first
     | exact fin rfl rfl
     | (exfalso; exact hnint _ _ _ _ rfl rfl)
     | (exfalso; exact hnstr _ _ rfl rfl)
   split at h
   ·split at h
    ·rename_i r hr
     simp only [Option.some.injEq] at h; subst h
     refine good_val hred (eqS_ok (P := P) (S0 := S0) hs 40 Op.maxDepth t a b r (by decide) hr hxo hyo).1 fun _ K hK => ?_
     rw [hx', hy']
     refine guard_run hg ?_
     exact (hbin r hr K).1 hK
    ·simp at h
   ·split at h
    ·rename_i r hr
     simp only [Option.some.injEq] at h; subst h
     refine good_val hred (BE.ok_neg (eqS_ok (P := P) (S0 := S0) hs 40 Op.maxDepth t a b r (by decide) hr hxo hyo).1) fun _ K hK => ?_
     rw [hx', hy']
     refine guard_run hg ?_
     simp only [SC.den, BE.den_neg] at hK
     exact (hbin r hr K).2 hK
    ·simp at h
   ·simp at h
  ·simp at h
 ·simp at h
end
end Mw
set_option linter.unusedVariables false
namespace Mw
open Go Mv
def symFill (place : Nat → Option (Nat × Nat)) (cells : List SC) : List (Nat × SC) → Option (List SC)
 | [] => some cells
 | (i, v) :: rest => match place i, cellsOf v with
  | some (off, size), some new => match Nat.beq new.length size && Nat.ble (off + size) cells.length && new.all SC.single with
   | true => symFill place (splice cells off new) rest
   | false => none
  | _, _ => none
def evParts (ev : Operand → Option SC) : List (Nat × Operand) → Option (List (Nat × SC))
 | [] => some []
 | (i, x) :: l => match ev x, evParts ev l with
  | some v, some r => some ((i, v) :: r)
  | _, _ => none
def evs (ev : Operand → Option SC) : List Operand → Option (List SC)
 | [] => some []
 | x :: l => match ev x, evs ev l with
  | some v, some r => some (v :: r)
  | _, _ => none
def placesOf (P : Program) : List Field → Option (List (Nat × Nat))
 | [] => some []
 | f :: fs => match sizeT P f.type, placesOf P fs with
  | some n, some l => some ((f.offset, n) :: l)
  | _, _ => none
section
variable {P : Program} {ρ : Env} {hp : Hp} {F S0 S : Own} {ev : Operand → Option SC} {ev' : Operand → Value} {o : Oper} {e : Eff}
theorem run_places : ∀ (fs : List Field) (l : List (Nat × Nat)) {α : Type} {g : List (Nat × Nat) → Sem α} {K : Except Value α → Own → Prop} {S : Own}, placesOf P fs = some l → Run P S0 (g l) S K →
  Run P S0 ((fs.mapM (m := Sem) fun (f : Field) => do pure (f.offset, ← Go.sizeOf f.type)).bind g) S K := by
 intro fs
 induction fs with
 | nil => intro l α g K S h hg; simp only [placesOf, Option.some.injEq] at h; subst h; exact hg
 | cons f fs ih =>
  intro l α g K S h hg
  simp only [placesOf] at h
  split at h
  ·rename_i n l' hn hl
   simp only [Option.some.injEq] at h; subst h
   obtain ⟨i, hi, rfl⟩ := Option.map_eq_some_iff.1 hn
   rw [List.mapM_cons]
   simp only [bind]
   rw [Sem.bind_assoc', Sem.bind_assoc']
   refine run_sizeOf hi ?_
   show Run P S0 (((fs.mapM (m := Sem) fun (f : Field) => do pure (f.offset, ← Go.sizeOf f.type)).bind fun y => pure ((f.offset, i.size) :: y)).bind g) S K
   rw [Sem.bind_assoc']
   exact ih l' hl hg
  ·simp at h
theorem foldl_set (off : Nat) : ∀ (new : List Value) (k : Nat) (arr : Array Value), off + k + new.length ≤ arr.size → ∀ j,
  ((new.zipIdx k).foldl (fun (cs : Array Value) (x : Value × Nat) => cs.setIfInBounds (off + x.2) x.1) arr)[j]? = if off + k ≤ j ∧ j < off + k + new.length then new[j - (off + k)]? else arr[j]? := by
 intro new
 induction new with
 | nil => intro k arr _ j; rw [if_neg (by simp only [List.length_nil]; omega)]; rfl
 | cons v new ih =>
  intro k arr h j
  simp only [List.length_cons] at h
  rw [List.zipIdx_cons, List.foldl_cons, ih (k + 1) _ (by simp; omega)]
  simp only [List.length_cons]
  by_cases hj : j = off + k
  ·subst hj
   rw [if_neg (by omega), if_pos (by omega)]
   simp only [Nat.sub_self, List.getElem?_cons_zero]
   rw [Array.getElem?_setIfInBounds_self_of_lt (by omega)]
  ·by_cases hin : off + (k + 1) ≤ j ∧ j < off + (k + 1) + new.length
   ·rw [if_pos hin, if_pos (by omega), show j - (off + k) = (j - (off + (k + 1))) + 1 by omega, List.getElem?_cons_succ]
   ·rw [if_neg hin, if_neg (by omega), Array.getElem?_setIfInBounds_ne (by omega)]
theorem foldl_splice (new : List SC) (cs : List SC) (off : Nat) (h : off + new.length ≤ cs.length) :
  ((new.map (SC.den ρ)).toArray.zipIdx.foldl (fun (cs : Array Value) (x : Value × Nat) => cs.setIfInBounds (off + x.2) x.1) (cs.map (SC.den ρ)).toArray) = ((splice cs off new).map (SC.den ρ)).toArray := by
 apply Array.ext_getElem?
 intro j
 rw [← Array.foldl_toList, Array.toList_zipIdx]
 rw [foldl_set off _ 0 _ (by simpa using h)]
 simp only [splice, List.map_append, List.map_take, List.map_drop, List.getElem?_toArray, List.length_map, Nat.add_zero]
 have hlen : (List.take off (List.map (SC.den ρ) cs)).length = off := by simp; omega
 by_cases hj : j < off
 ·rw [if_neg (by omega), List.append_assoc, List.getElem?_append_left (by rw [hlen]; exact hj), List.getElem?_take_of_lt hj]
 ·by_cases hj2 : j < off + new.length
  ·rw [if_pos ⟨by omega, hj2⟩, List.append_assoc, List.getElem?_append_right (by rw [hlen]; omega), hlen, List.getElem?_append_left (by simp; omega)]
  ·rw [if_neg (by omega), List.append_assoc, List.getElem?_append_right (by rw [hlen]; omega), hlen, List.getElem?_append_right (by simp; omega), List.getElem?_drop]
   congr 1
   simp; omega
theorem fill_den (hv : vals ρ) (place : Nat → Option (Nat × Nat)) : ∀ (l : List (Nat × SC)) (cells c : List SC), symFill place cells l = some c →
  Instr.fill place (cells.map (SC.den ρ)).toArray (l.map fun x => (x.1, x.2.den ρ)) = some (c.map (SC.den ρ)).toArray := by
 intro l
 induction l with
 | nil => intro cells c h; simp only [symFill, Option.some.injEq] at h; subst h; rfl
 | cons x l ih =>
  intro cells c h
  obtain ⟨i, v⟩ := x
  simp only [symFill] at h
  split at h
  ·rename_i off size new hp hc
   split at h
   ·rename_i hcond
    simp only [Bool.and_eq_true] at hcond
    have h0 := Nat.eq_of_beq_eq_true hcond.1.1
    have h1 := Nat.le_of_ble_eq_true hcond.1.2
    have hcl := cellsOf_den hc hcond.2 hv
    simp only [List.map_cons, Instr.fill, hp, hcl]
    have e1 : (decide ((new.map (SC.den ρ)).toArray.size ≠ size) || decide (off + (new.map (SC.den ρ)).toArray.size > (cells.map (SC.den ρ)).toArray.size)) = false := by
     simp only [List.size_toArray, List.length_map, Bool.or_eq_false_iff, decide_eq_false_iff_not, ne_eq]
     exact ⟨fun h => h h0, by omega⟩
    rw [if_neg (by rw [e1]; simp)]
    rw [foldl_splice new cells off (by rw [h0]; exact h1)]
    exact ih _ _ h
   ·simp at h
  ·simp at h
theorem fill_ok {n : Nat} (place : Nat → Option (Nat × Nat)) : ∀ (l : List (Nat × SC)) (cells c : List SC), symFill place cells l = some c → (∀ x ∈ l, x.2.ok n) → (∀ x ∈ cells, x.ok n) → ∀ x ∈ c, x.ok n := by
 intro l
 induction l with
 | nil => intro cells c h _ hc; simp only [symFill, Option.some.injEq] at h; subst h; exact hc
 | cons x l ih =>
  intro cells c h hl hc
  obtain ⟨i, v⟩ := x
  simp only [symFill] at h
  split at h
  ·rename_i off size new hp hcv
   split at h
   ·exact ih _ _ h (fun y hy => hl y (List.mem_cons_of_mem _ hy)) (splice_ok hc (cellsOf_ok hcv (hl _ List.mem_cons_self)))
   ·simp at h
  ·simp at h
theorem evParts_den (hev : EvOk ρ ev ev') : ∀ (ps : List (Nat × Operand)) (l : List (Nat × SC)), evParts ev ps = some l → (ps.map (fun x => (x.1, ev' x.2)) = l.map fun x => (x.1, x.2.den ρ)) ∧ ∀ x ∈ l, x.2.ok ρ.k.length := by
 intro ps
 induction ps with
 | nil => intro l h; simp only [evParts, Option.some.injEq] at h; subst h; exact ⟨rfl, by simp⟩
 | cons p ps ih =>
  intro l h
  obtain ⟨i, x⟩ := p
  simp only [evParts] at h
  split at h
  ·rename_i v r hx hr
   simp only [Option.some.injEq] at h; subst h
   obtain ⟨h1, h2⟩ := ih r hr
   refine ⟨by rw [List.map_cons, List.map_cons, h1, (hev x v hx).2], fun y hy => ?_⟩
   rcases List.mem_cons.1 hy with rfl | hy
   ·exact (hev x v hx).1
   ·exact h2 y hy
  ·simp at h
theorem evs_den (hev : EvOk ρ ev ev') : ∀ (ps : List Operand) (l : List SC), evs ev ps = some l → ps.map ev' = l.map (SC.den ρ) ∧ ∀ x ∈ l, x.ok ρ.k.length := by
 intro ps
 induction ps with
 | nil => intro l h; simp only [evs, Option.some.injEq] at h; subst h; exact ⟨rfl, by simp⟩
 | cons x ps ih =>
  intro l h
  simp only [evs] at h
  split at h
  ·rename_i v r hx hr
   simp only [Option.some.injEq] at h; subst h
   obtain ⟨h1, h2⟩ := ih r hr
   refine ⟨by rw [List.map_cons, List.map_cons, h1, (hev x v hx).2], fun y hy => ?_⟩
   rcases List.mem_cons.1 hy with rfl | hy
   ·exact (hev _ _ hx).1
   ·exact h2 y hy
  ·simp at h
def zeroCells (P : Program) (t : TypeId) : Option (List SC) := match P.info? t with
 | some i => match i.zero with
  | some z => match cellsOf (ofVal z) with
   | some zs => match zs.all SC.single with
    | true => some zs
    | false => none
   | none => none
  | none => none
 | none => none
theorem zeroCells_run (hv : vals ρ) {t : TypeId} {zs : List SC} (h : zeroCells P t = some zs) : (∀ n, ∀ x ∈ zs, x.ok n) ∧ ∃ z, z.cells = (zs.map (SC.den ρ)).toArray ∧ ∀ {α : Type} {g : Value → Sem α} {K : Except Value α → Own → Prop} {S : Own}, Run P S0 (g z) S K → Run P S0 ((zeroValue t).bind g) S K := by
 unfold zeroCells at h
 split at h
 ·rename_i i hi
  split at h
  ·rename_i z hz
   split at h
   ·rename_i zs' hzs
    split at h
    ·rename_i h1
     simp only [Option.some.injEq] at h; subst h
     exact ⟨fun n => cellsOf_ok hzs (ok_ofVal n z), z, by rw [← den_ofVal ρ z]; exact cellsOf_den hzs h1 hv, fun hr => run_zeroValue hi hz hr⟩
    ·simp at h
   ·simp at h
  ·simp at h
 ·simp at h
def sBuild (P : Program) (t : TypeId) (parts : Option (List (Nat × SC))) : Option Eff := match P.underlying t, parts, zeroCells P t with
 | some (.struct fields), some l, some zs => match placesOf P fields.toList with
  | some places => match symFill (places[·]?) zs l with
   | some c => some (.val [] (.agg c))
   | none => none
  | none => none
 | some (.array _ e), some l, some zs => match sizeT P e with
  | some n => match symFill (fun i => some (i * n, n)) zs l with
   | some c => some (.val [] (.agg c))
   | none => none
  | none => none
 | _, _, _ => none
theorem sBuild_good {t : TypeId} {parts : Array (Nat × Operand)} (hop : o.op = .build t parts) (hv : vals ρ) (hev : EvOk ρ ev ev') (h : sBuild P t (evParts ev parts.toList) = some e) : EffGood P ρ hp S0 S (execOp ev' o) e := by
 have hparts : ∀ l, evParts ev parts.toList = some l → (parts.map fun x => (x.1, ev' x.2)).toList = l.map fun x => (x.1, x.2.den ρ) := fun l hl => by
  rw [Array.toList_map]; exact (evParts_den hev _ _ hl).1
 unfold sBuild at h
 split at h
 ·rename_i fields l zs hu hl hz
  obtain ⟨hzo, z, hzc, hzr⟩ := zeroCells_run (S0 := S0) hv hz
  split at h
  ·rename_i places hpl
   split at h
   ·rename_i c hc
    simp only [Option.some.injEq] at h; subst h
    refine good_val (s := Instr.build t (parts.map fun x => (x.1, ev' x.2))) (by simp only [execOp, hop]) (oks_iff.2 (fill_ok _ _ _ _ hc (evParts_den hev _ _ hl).2 (hzo _))) fun _ K hK => ?_
    unfold Instr.build
    simp only [bind]
    refine hzr (run_underlying hu ?_)
    show Run P S0 ((fields.mapM (m := Sem) fun (f : Field) => do pure (f.offset, ← Go.sizeOf f.type)).bind _) _ K
    rw [Array.mapM_eq_mapM_toList]
    show Run P S0 (((fields.toList.mapM (m := Sem) fun (f : Field) => do pure (f.offset, ← Go.sizeOf f.type)).bind fun x => pure x.toArray).bind _) _ K
    rw [Sem.bind_assoc']
    refine run_places _ places hpl ?_
    have hf := fill_den hv (places[·]?) l zs c hc
    rw [hparts l hl, hzc]
    refine Run.bind (Run.pure ?_)
    have : (fun (x : Nat) => places.toArray[x]?) = fun (x : Nat) => places[x]? := by funext x; simp
    simp only [this, hf]
    simp only [SC.den, dens_eq] at hK
    exact Run.pure hK
   ·simp at h
  ·simp at h
 ·rename_i n e' l zs hu hl hz
  obtain ⟨hzo, z, hzc, hzr⟩ := zeroCells_run (S0 := S0) hv hz
  split at h
  ·rename_i sz hsz
   split at h
   ·rename_i c hc
    simp only [Option.some.injEq] at h; subst h
    obtain ⟨ti, hti, rfl⟩ := Option.map_eq_some_iff.1 hsz
    refine good_val (s := Instr.build t (parts.map fun x => (x.1, ev' x.2))) (by simp only [execOp, hop]) (oks_iff.2 (fill_ok _ _ _ _ hc (evParts_den hev _ _ hl).2 (hzo _))) fun _ K hK => ?_
    unfold Instr.build
    simp only [bind]
    refine hzr (run_underlying hu ?_)
    refine run_sizeOf hti ?_
    have hf := fill_den hv (fun i => some (i * ti.size, ti.size)) l zs c hc
    rw [hparts l hl, hzc]
    rw [hf]
    simp only [SC.den, dens_eq] at hK
    exact Run.pure hK
   ·simp at h
  ·simp at h
 ·simp at h
def zeroRow (zs : List SC) (n : Nat) : List SC := (List.range n).map fun i => zs.getD (i % zs.length) (.lit .nilFunc)
theorem zeroRow_den {zs : List SC} {z : Value} (hzc : z.cells = (zs.map (SC.den ρ)).toArray) (h0 : 0 < zs.length) (n : Nat) : ((Array.range n).map fun x => z.cells[x % z.cells.size]!) = ((zeroRow zs n).map (SC.den ρ)).toArray := by
 apply Array.ext_getElem?
 intro j
 rw [hzc]
 simp only [zeroRow, List.map_map, Array.getElem?_map, List.getElem?_toArray, List.getElem?_map]
 rcases Nat.lt_or_ge j n with hj | hj
 ·have hlt : j % zs.length < zs.length := Nat.mod_lt _ h0
  simp [hj, hlt]
 ·rw [Array.getElem?_eq_none (by simpa using hj), List.getElem?_eq_none (by simpa using hj)]; rfl
theorem zeroRow_ok {zs : List SC} {n m : Nat} (h : ∀ x ∈ zs, x.ok m) : ∀ x ∈ zeroRow zs n, x.ok m := by
 intro x hx
 obtain ⟨i, _, rfl⟩ := List.mem_map.1 hx
 rw [List.getD_eq_getElem?_getD]
 cases hz : zs[i % zs.length]? with
 | none => exact trivial
 | some y => exact h y (List.mem_of_getElem? hz)
def sBuildNone (P : Program) (e : TypeId) : Option Eff := match sizeT P e with
 | some _ => some (.fresh [] (.cells [] e) (.slice 0 0))
 | none => none
def sBuildSome (P : Program) (t : TypeId) (len : Nat) (parts : Option (List (Nat × SC))) : Option Eff := match P.underlying t, parts with
 | some (.slice e), some l => match sizeT P e, zeroCells P e with
  | some n, some zs => match Nat.ble 1 zs.length && Nat.ble (len * n) (2 ^ 24) && Nat.ble 1 (len * n) with
   | true => match symFill (fun i => some (i * n, n)) (zeroRow zs (len * n)) l with
    | some c => some (.fresh [] (.cells c e) (.slice len len))
    | none => none
   | false => none
  | _, _ => none
 | _, _ => none
theorem sBuildSome_good [Loud S0] {t : TypeId} {len : Nat} {parts : Array (Nat × Operand)} (hop : o.op = .buildSlice t len parts) (hv : vals ρ) (hev : EvOk ρ ev ev') (h : sBuildSome P t len (evParts ev parts.toList) = some e) : EffGood P ρ hp S0 S (execOp ev' o) e := by
 have hparts : ∀ l, evParts ev parts.toList = some l → (parts.map fun x => (x.1, ev' x.2)).toList = l.map fun x => (x.1, x.2.den ρ) := fun l hl => by
  rw [Array.toList_map]; exact (evParts_den hev _ _ hl).1
 unfold sBuildSome at h
 split at h
 ·rename_i e' l hu hl
  split at h
  ·rename_i n zs hn hz
   obtain ⟨hzo, z, hzc, hzr⟩ := zeroCells_run (S0 := S0) hv hz
   obtain ⟨ti, hti, rfl⟩ := Option.map_eq_some_iff.1 hn
   split at h
   ·rename_i hc
    simp only [Bool.and_eq_true] at hc
    have h1 := Nat.le_of_ble_eq_true hc.1.1
    have h2 := Nat.le_of_ble_eq_true hc.1.2
    have h3 := Nat.le_of_ble_eq_true hc.2
    split at h
    ·rename_i c hcc
     simp only [Option.some.injEq] at h; subst h
     refine ⟨fun _ K hK => ?_, fill_ok _ _ _ _ hcc (evParts_den hev _ _ hl).2 (zeroRow_ok (hzo _))⟩
     simp only [execOp, hop]
     refine run_value ?_
     unfold Instr.buildSlice
     simp only [bind]
     refine run_underlying hu (run_sizeOf hti ?_)
     have e1 : ¬ (len * ti.size > 2 ^ 24) := by omega
     rw [if_neg e1]
     have e2 : ¬ (len * ti.size = 0) := by omega
     rw [if_neg e2]
     refine hzr (Run.bind (Run.pure ?_))
     have hcells := zeroRow_den (ρ := ρ) hzc (by omega) (len * ti.size)
     have hf := fill_den hv (fun i => some (i * ti.size, ti.size)) l _ c hcc
     simp only [hparts l hl, hcells, hf]
     show Run P S0 ((newRow e' (c.map (SC.den ρ)).toArray).bind fun x => pure (Value.slice (some x) len len)) _ _
     exact Run.new fun r h2 h3 => Run.pure (hK r h2 h3)
    ·simp at h
   ·simp at h
  ·simp at h
 ·simp at h
def sBuildSlice (P : Program) (t : TypeId) (len : Nat) (parts : Option (List (Nat × SC))) : Option Eff := match len, parts with
 | 0, some [] => match P.underlying t with
  | some (.slice e) => sBuildNone P e
  | _ => none
 | _, _ => sBuildSome P t len parts
theorem sBuildSlice_good [Loud S0] {t : TypeId} {len : Nat} {parts : Array (Nat × Operand)} (hop : o.op = .buildSlice t len parts) (hv : vals ρ) (hev : EvOk ρ ev ev') (h : sBuildSlice P t len (evParts ev parts.toList) = some e) : EffGood P ρ hp S0 S (execOp ev' o) e := by
 unfold sBuildSlice at h
 split at h
 ·rename_i hl
  split at h
  ·rename_i e' hu
   unfold sBuildNone at h
   split at h
   ·rename_i n hn
    obtain ⟨ti, hti, rfl⟩ := Option.map_eq_some_iff.1 hn
    simp only [Option.some.injEq] at h; subst h
    have hparts : (parts.map fun x => (x.1, ev' x.2)).toList = [] := by
     have := (evParts_den hev _ _ hl).1
     rw [Array.toList_map]; simpa using this
    refine ⟨fun _ K hK => ?_, by intro x hx; cases hx⟩
    simp only [execOp, hop]
    refine run_value ?_
    unfold Instr.buildSlice
    simp only [bind]
    refine run_underlying hu (run_sizeOf hti ?_)
    rw [if_neg (by omega), if_pos (by omega)]
    refine Run.bind (Run.pure ?_)
    have e0 : ∀ f : Nat → Value, Instr.fill (fun i => some (i * ti.size, ti.size)) (Array.map f (Array.range 0)) [] = some #[] := fun f => by simp [Instr.fill]
    simp only [hparts, Nat.zero_mul, e0]
    show Run P S0 ((newRow e' #[]).bind fun x => pure (Value.slice (some x) 0 0)) _ _
    exact Run.new fun r h2 h3 => Run.pure (hK r h2 h3)
   ·simp at h
  ·simp at h
 ·exact sBuildSome_good hop hv hev h
def sMakeChan (P : Program) (t : TypeId) (n : Option SC) : Option Eff := match P.underlying t, n with
 | some (.chan _ elem), some (.int _ (.lit (.ofNat n))) => match P.info? elem with
  | some i => match Nat.ble n 1000000 && Nat.ble (i.bytes * n) 1000000000 with
   | true => some (.fresh [] (.chan n [] false (.lit 0) (.lit 0) false) .chan)
   | false => none
  | none => none
 | _, _ => none
theorem sMakeChan_good [Loud S0] {t : TypeId} {x : Operand} (hop : o.op = .makeChan t x) (hev : EvOk ρ ev ev') (h : sMakeChan P t (ev x) = some e) : EffGood P ρ hp S0 S (execOp ev' o) e := by
 unfold sMakeChan at h
 split at h
 ·rename_i dir elem kd n hu hx
  obtain ⟨_, hx'⟩ := hev x _ hx
  split at h
  ·rename_i i hi
   split at h
   ·rename_i hc
    simp only [Bool.and_eq_true] at hc
    have h1 := Nat.le_of_ble_eq_true hc.1
    have h2 := Nat.le_of_ble_eq_true hc.2
    simp only [Option.some.injEq] at h; subst h
    refine ⟨fun _ K hK => ?_, ⟨fun x hx => (by cases hx), trivial, trivial⟩⟩
    simp only [execOp, hop]
    refine run_value ?_
    unfold Instr.makeChan
    rw [hx']
    simp only [bind, SC.den, IE.den, asInt, asIntOf, pure, Sem.bind]
    refine run_underlying hu ?_
    refine run_typeInfo hi ?_
    have e1 : ¬ ((Int.ofNat n) < 0 ∨ (Int.ofNat n) > IntKind.i64.max ∨ (i.bytes : Int) * (Int.ofNat n) > 2 ^ 48 - 112) := by
     have : IntKind.i64.max = 9223372036854775807 := by decide
     have h3 : ((i.bytes * n : Nat) : Int) ≤ 1000000000 := Int.ofNat_le.2 h2
     have h4 : (i.bytes : Int) * (Int.ofNat n) = ((i.bytes * n : Nat) : Int) := (Int.natCast_mul i.bytes n).symm
     rw [this, h4]
     simp only [Int.ofNat_eq_natCast]
     omega
    rw [if_neg e1]
    exact Run.new fun r h3 h4 => Run.pure (hK r h3 h4)
   ·simp at h
  ·simp at h
 ·simp at h
def isIface (P : Program) (t : TypeId) : Option Bool := match P.underlying t with
 | some (.interface _) => some true
 | some _ => some false
 | none => none
def sMakeInterface (P : Program) (t : TypeId) (x : Option SC) : Option Eff := match isIface P t, x with
 | some false, some v => some (.val [] (.iface t v))
 | _, _ => none
theorem isIface_false {t : TypeId} (h : isIface P t = some false) : ∃ d, P.underlying t = some d ∧ ∀ ms, d ≠ .interface ms := by
 unfold isIface at h
 split at h
 ·simp at h
 ·rename_i d hne hd
  exact ⟨d, hd, fun ms e => by subst e; exact hne ms rfl⟩
 ·simp at h
theorem sMakeInterface_good {t : TypeId} {x : Operand} (hop : o.op = .makeInterface t x) (hev : EvOk ρ ev ev') (h : sMakeInterface P t (ev x) = some e) : EffGood P ρ hp S0 S (execOp ev' o) e := by
 unfold sMakeInterface at h
 split at h
 ·rename_i v hi hx
  obtain ⟨hok, hx'⟩ := hev x _ hx
  obtain ⟨d, hu, hni⟩ := isIface_false hi
  simp only [Option.some.injEq] at h; subst h
  refine good_val (s := Instr.makeInterface t (ev' x)) (by simp only [execOp, hop]) hok fun _ K hK => ?_
  rw [hx']
  unfold Instr.makeInterface
  simp only [bind]
  refine run_underlying hu ?_
  split
  ·exact absurd rfl (hni _)
  ·exact Run.pure hK
 ·simp at h
def sMakeFunc (fn : Fn) (first caps : Option (List SC)) : Option Eff := match first, caps with
 | some a, some b => some (.val [] (.fn fn a b))
 | _, _ => none
theorem sMakeFunc_good {fn : Fn} {first caps : Array Operand} (hop : o.op = .makeFunc fn first caps) (hev : EvOk ρ ev ev') (h : sMakeFunc fn (evs ev first.toList) (evs ev caps.toList) = some e) : EffGood P ρ hp S0 S (execOp ev' o) e := by
 unfold sMakeFunc at h
 split at h
 ·rename_i a b ha hb
  simp only [Option.some.injEq] at h; subst h
  obtain ⟨h1, h2⟩ := evs_den hev _ _ ha
  obtain ⟨h3, h4⟩ := evs_den hev _ _ hb
  refine good_val (s := Instr.makeFunc fn (first.map ev') (caps.map ev')) (by simp only [execOp, hop]) ⟨oks_iff.2 h2, oks_iff.2 h4⟩ fun _ K hK => ?_
  have e1 : first.map ev' = (dens ρ a).toArray := by apply Array.ext'; rw [Array.toList_map, h1, dens_eq]
  have e2 : caps.map ev' = (dens ρ b).toArray := by apply Array.ext'; rw [Array.toList_map, h3, dens_eq]
  rw [e1, e2]
  exact Run.pure hK
 ·simp at h
def sTypeAssert (P : Program) (x : Option SC) (asserted : TypeId) (commaOk : Bool) : Option Eff := match isIface P asserted, x with
 | some false, some (.iface t v) => match Nat.beq t asserted with
  | true => match commaOk with
   | true => some (.val [] (.tup [v, .bool (.lit true)]))
   | false => some (.val [] v)
  | false => match commaOk, P.info? asserted with
   | true, some i => match i.zero with
    | some z => some (.val [] (.tup [ofVal z, .bool (.lit false)]))
    | none => none
   | _, _ => none
 | some false, some (.lit .nilIface) => match commaOk, P.info? asserted with
   | true, some i => match i.zero with
    | some z => some (.val [] (.tup [ofVal z, .bool (.lit false)]))
    | none => none
   | _, _ => none
 | _, _ => none
theorem sTypeAssert_good {x : Operand} {xt asserted : TypeId} {ok : Bool} (hop : o.op = .typeAssert x xt asserted ok) (hev : EvOk ρ ev ev') (h : sTypeAssert P (ev x) asserted ok = some e) : EffGood P ρ hp S0 S (execOp ev' o) e := by
 have fails : ∀ {i : TypeInfo} {z : Value} {s : Sem Value} (K : Except Value Value → Own → Prop), P.info? asserted = some i → i.zero = some z → K (.ok ((SC.tup [ofVal z, .bool (.lit false)]).den ρ)) S → Run P S0 ((zeroValue asserted).bind fun y => Sem.pure (Value.tuple #[y, .bool false])) S K := by
  intro i z s K hi hz hK
  refine run_zeroValue hi hz ?_
  simp only [SC.den, dens, den_ofVal] at hK
  exact Run.pure hK
 unfold sTypeAssert at h
 split at h
 ·rename_i t v hi hx
  obtain ⟨hok, hx'⟩ := hev x _ hx
  obtain ⟨d, hu, hni⟩ := isIface_false hi
  split at h
  ·rename_i ht
   have ht := Nat.eq_of_beq_eq_true ht
   split at h
   ·simp only [Option.some.injEq] at h; subst h
    refine good_val (s := Instr.typeAssert (ev' x) xt asserted true) (by simp only [execOp, hop]) ⟨hok, trivial, trivial⟩ fun _ K hK => ?_
    rw [hx']
    unfold Instr.typeAssert
    simp only [bind]
    refine run_underlying hu ?_
    cases d <;> first | exact absurd rfl (hni _) | (simp only [SC.den, if_pos ht]; exact Run.pure hK)
   ·simp only [Option.some.injEq] at h; subst h
    refine good_val (s := Instr.typeAssert (ev' x) xt asserted false) (by simp only [execOp, hop]) hok fun _ K hK => ?_
    rw [hx']
    unfold Instr.typeAssert
    simp only [bind]
    refine run_underlying hu ?_
    cases d <;> first | exact absurd rfl (hni _) | (simp only [SC.den, if_pos ht]; exact Run.pure hK)
  ·rename_i ht
   split at h
   ·rename_i i hti
    split at h
    ·rename_i z hz
     simp only [Option.some.injEq] at h; subst h
     refine good_val (s := Instr.typeAssert (ev' x) xt asserted true) (by simp only [execOp, hop]) ⟨ok_ofVal _ _, trivial, trivial⟩ fun _ K hK => ?_
     rw [hx']
     unfold Instr.typeAssert
     simp only [bind]
     refine run_underlying hu ?_
     have hne : ¬ t = asserted := fun e => by subst e; simp at ht
     cases d <;> first | exact absurd rfl (hni _) | (simp only [SC.den, if_neg hne]; exact fails (s := Sem.pure (.bool true)) K hti hz hK)
    ·simp at h
   ·simp at h
 ·rename_i hi hx
  obtain ⟨hok, hx'⟩ := hev x _ hx
  obtain ⟨d, hu, hni⟩ := isIface_false hi
  split at h
  ·rename_i i hti
   split at h
   ·rename_i z hz
    simp only [Option.some.injEq] at h; subst h
    refine good_val (s := Instr.typeAssert (ev' x) xt asserted true) (by simp only [execOp, hop]) ⟨ok_ofVal _ _, trivial, trivial⟩ fun _ K hK => ?_
    rw [hx']
    unfold Instr.typeAssert
    simp only [bind]
    refine run_underlying hu ?_
    cases d <;> first | exact absurd rfl (hni _) | exact fails (s := Sem.pure (.bool true)) K hti hz hK
   ·simp at h
  ·simp at h
 ·simp at h
end
end Mw
set_option linter.unusedVariables false
namespace Mw
open Go Mv
section
variable {P : Program} {ρ : Env} {hp : Hp} {F S0 S : Own} {ev : Operand → Option SC} {ev' : Operand → Value} {o : Oper} {e : Eff}
def need (l : List BE) : List BE := l.filter fun c => match c with
 | .lit true => false
 | _ => true
theorem need_all {l : List BE} (h : allTrue ρ (need l)) : allTrue ρ l := by
 intro c hc
 by_cases hl : c = .lit true
 ·subst hl; rfl
 ·refine h c (List.mem_filter.2 ⟨hc, ?_⟩)
  cases c <;> first | rfl | skip
  rename_i b
  cases b
  ·rfl
  ·exact absurd rfl hl
def IE.under : IE → IE → BE
 | .lit m, .add (.lit n) (.room b s) => match Int.less n m with
  | false => .lit true
  | true => .le (.lit m) (.add (.lit n) (.room b s))
 | a, b => IE.leB a b
theorem IE.den_under (a b : IE) : (IE.under a b).den ρ = decide (a.den ρ ≤ b.den ρ) := by
 unfold IE.under
 split
 ·rename_i m n b s
  split
  ·rename_i h
   rw [Int.less_eq] at h
   have h' : ¬ n < m := of_decide_eq_false h
   have h2 := Int.natCast_nonneg ((ρ.rest b).length / s)
   show true = decide (m ≤ n + (((ρ.rest b).length / s : Nat) : Int))
   symm
   exact decide_eq_true (by omega)
  ·rfl
 ·exact IE.den_leB a b
def IE.minus (a b : IE) : IE := match a, b with
 | .lit m, .lit n => .lit (m - n)
 | a, .lit 0 => a
 | .add (.lit m) r, .lit n => .add (.lit (m - n)) r
 | a, b => .sub a b
theorem IE.den_minus (a b : IE) : (IE.minus a b).den ρ = a.den ρ - b.den ρ := by
 unfold IE.minus
 split
 ·rfl
 ·simp [IE.den]
 ·simp only [IE.den]; omega
 ·rfl
theorem IE.ok_minus {n : Nat} {a b : IE} (ha : a.ok n) (hb : b.ok n) : (IE.minus a b).ok n := by
 unfold IE.minus
 split <;> first | trivial | exact ha | exact ⟨trivial, ha.2⟩ | exact ⟨ha, hb⟩
def sLen (P : Program) (hp : Hp) (t : Option TypeId) (x : Option SC) : Option Eff := match t with
 | some t => match P.underlying t, x with
  | some (.slice _), some (.slice _ _ len _) => some (.val (need [IE.leB (.lit 0) len]) (.int .i64 len))
  | some (.slice _), some (.lit (.slice none n _)) => some (.val [] (.int .i64 (.lit n)))
  | some (.string), some (.lit (.string s)) => some (.val [] (.int .i64 (.lit s.size)))
  | some (.array n _), some _ => some (.val [] (.int .i64 (.lit n)))
  | some (.map ..), some (.lit (.map none)) => some (.val [] (.int .i64 (.lit 0)))
  | some (.map ..), some (.ref b) => match hp.get b with
   | some (.map es) => some (.val [] (.int .i64 (.lit es.length)))
   | _ => none
  | _, _ => none
 | none => none
theorem sLen_good {args : Array Operand} {ats : Array TypeId} {x : Operand} (hop : o.op = .call { callee := .builtin .len, args, argTypes := ats }) (hx0 : args[0]? = some x) (hs : Sat ρ hp F S) (hev : EvOk ρ ev ev') (h : sLen P hp ats[0]? (ev x) = some e) : EffGood P ρ hp S0 S (execOp ev' o) e := by
 have hargs : (args.map ev')[0]? = some (ev' x) := by simp [hx0]
 have hred : execOp ev' o = (do pure (.value (← Builtin.len_ ats o.type (args.map ev'))) : Sem Next) := by
  simp only [execOp, hop, resolve, invoke, builtin]
  rfl
 unfold sLen at h
 split at h
 ·rename_i t ht
  split at h <;> (try (simp at h; done))
  ·rename_i el b off len cap hu hx
   obtain ⟨hok, hx'⟩ := hev x _ hx
   simp only [Option.some.injEq] at h; subst h
   refine good_val (s := Builtin.len_ ats o.type (args.map ev')) hred hok.2.2.1 fun hn K hK => ?_
   unfold Builtin.len_
   simp only [ht, hargs, bind]
   refine run_underlying hu ?_
   rw [hx']
   have h0 : 0 ≤ len.den ρ := by
    have := need_all hn _ List.mem_cons_self
    rw [IE.den_leB] at this
    exact of_decide_eq_true this
   refine Run.of_eq ?_ (Run.pure hK)
   simp only [SC.den, goInt]
   rw [Int.toNat_of_nonneg h0]
   rfl
  ·rename_i el n c hu hx
   obtain ⟨hok, hx'⟩ := hev x _ hx
   simp only [Option.some.injEq] at h; subst h
   refine good_val (s := Builtin.len_ ats o.type (args.map ev')) hred trivial fun hn K hK => ?_
   unfold Builtin.len_
   simp only [ht, hargs, bind]
   refine run_underlying hu ?_
   rw [hx']
   exact Run.pure hK
  ·rename_i s hu hx
   obtain ⟨hok, hx'⟩ := hev x _ hx
   simp only [Option.some.injEq] at h; subst h
   refine good_val (s := Builtin.len_ ats o.type (args.map ev')) hred trivial fun hn K hK => ?_
   unfold Builtin.len_
   simp only [ht, hargs, bind]
   refine run_underlying hu ?_
   rw [hx']
   exact Run.pure hK
  ·rename_i n el v hu hx
   simp only [Option.some.injEq] at h; subst h
   refine good_val (s := Builtin.len_ ats o.type (args.map ev')) hred trivial fun hn K hK => ?_
   unfold Builtin.len_
   simp only [ht, hargs, bind]
   refine run_underlying hu ?_
   refine Run.of_eq ?_ (Run.pure hK)
   cases ev' x <;> rfl
  ·rename_i a b hu hx
   obtain ⟨hok, hx'⟩ := hev x _ hx
   simp only [Option.some.injEq] at h; subst h
   refine good_val (s := Builtin.len_ ats o.type (args.map ev')) hred trivial fun hn K hK => ?_
   unfold Builtin.len_
   simp only [ht, hargs, bind]
   refine run_underlying hu ?_
   rw [hx']
   exact Run.pure hK
  ·rename_i a b' b hu hx
   obtain ⟨hok, hx'⟩ := hev x _ hx
   split at h
   ·rename_i es hg
    obtain ⟨_, _, hget⟩ := hs.get hg
    simp only [Option.some.injEq] at h; subst h
    refine good_val (s := Builtin.len_ ats o.type (args.map ev')) hred trivial fun hn K hK => ?_
    unfold Builtin.len_
    simp only [ht, hargs, bind]
    refine run_underlying hu ?_
    rw [hx']
    refine Run.getMap hget fun es' c hp _ => ?_
    have e1 : es'.size = es.length := by
     have := hp.length_eq
     simpa [absE] using this
    refine Run.of_eq (s' := Sem.pure (goInt ((es'.size : Nat) : Int))) rfl ?_
    rw [e1]
    exact Run.pure hK
   ·simp at h
 ·simp at h
def sCap (P : Program) (t : Option TypeId) (x : Option SC) : Option Eff := match t with
 | some t => match P.underlying t, x with
  | some (.slice _), some (.slice _ _ _ cap) => some (.val (need [IE.under (.lit 0) cap]) (.int .i64 cap))
  | some (.slice _), some (.lit (.slice none _ n)) => some (.val [] (.int .i64 (.lit n)))
  | _, _ => none
 | none => none
theorem sCap_good {args : Array Operand} {ats : Array TypeId} {x : Operand} (hop : o.op = .call { callee := .builtin .cap, args, argTypes := ats }) (hx0 : args[0]? = some x) (hev : EvOk ρ ev ev') (h : sCap P ats[0]? (ev x) = some e) : EffGood P ρ hp S0 S (execOp ev' o) e := by
 have hargs : (args.map ev')[0]? = some (ev' x) := by simp [hx0]
 have hred : execOp ev' o = (do pure (.value (← Builtin.cap_ ats o.type (args.map ev'))) : Sem Next) := by
  simp only [execOp, hop, resolve, invoke, builtin]
  rfl
 unfold sCap at h
 split at h
 ·rename_i t ht
  split at h <;> (try (simp at h; done))
  ·rename_i el b off len cap hu hx
   obtain ⟨hok, hx'⟩ := hev x _ hx
   simp only [Option.some.injEq] at h; subst h
   refine good_val (s := Builtin.cap_ ats o.type (args.map ev')) hred hok.2.2.2 fun hn K hK => ?_
   unfold Builtin.cap_
   simp only [ht, hargs, bind]
   refine run_underlying hu ?_
   rw [hx']
   have h0 : 0 ≤ cap.den ρ := by
    have := need_all hn _ List.mem_cons_self
    rw [IE.den_under] at this
    exact of_decide_eq_true this
   refine Run.of_eq ?_ (Run.pure hK)
   simp only [SC.den, goInt]
   rw [Int.toNat_of_nonneg h0]
   rfl
  ·rename_i el n c hu hx
   obtain ⟨hok, hx'⟩ := hev x _ hx
   simp only [Option.some.injEq] at h; subst h
   refine good_val (s := Builtin.cap_ ats o.type (args.map ev')) hred trivial fun hn K hK => ?_
   unfold Builtin.cap_
   simp only [ht, hargs, bind]
   refine run_underlying hu ?_
   rw [hx']
   exact Run.pure hK
 ·simp at h
def IE.minS (a b : IE) : IE := match a, b with
 | .lit m, .lit n => .lit (match Int.less n m with | true => n | false => m)
 | a, b => .min a b
def IE.maxS (a b : IE) : IE := match a, b with
 | .lit m, .lit n => .lit (match Int.less m n with | true => n | false => m)
 | a, b => .max a b
theorem IE.den_minS (a b : IE) : (IE.minS a b).den ρ = (IE.min a b).den ρ := by
 unfold IE.minS
 split
 ·rename_i m n
  show (match Int.less n m with | true => n | false => m) = if n < m then n else m
  rw [Int.less_eq]
  by_cases h : n < m
  ·simp [h]
  ·simp [h]
 ·rfl
theorem IE.den_maxS (a b : IE) : (IE.maxS a b).den ρ = (IE.max a b).den ρ := by
 unfold IE.maxS
 split
 ·rename_i m n
  show (match Int.less m n with | true => n | false => m) = if n > m then n else m
  rw [Int.less_eq]
  by_cases h : m < n
  ·simp [h]
  ·simp [h]
 ·rfl
theorem IE.ok_minS {n : Nat} {a b : IE} (ha : a.ok n) (hb : b.ok n) : (IE.minS a b).ok n := by
 unfold IE.minS; split <;> first | trivial | exact ⟨ha, hb⟩
theorem IE.ok_maxS {n : Nat} {a b : IE} (ha : a.ok n) (hb : b.ok n) : (IE.maxS a b).ok n := by
 unfold IE.maxS; split <;> first | trivial | exact ⟨ha, hb⟩
def symFold (op : IE → IE → IE) (ev : Operand → Option SC) (a : IE) : List Operand → Option IE
 | [] => some a
 | x :: rest => match ev x with
  | some (.int _ b) => symFold op ev (op a b) rest
  | _ => none
def sFold (op : IE → IE → IE) (ev : Operand → Option SC) (args : List Operand) : Option Eff := match args with
 | x :: rest => match ev x with
  | some (.int k a) => match symFold op ev a rest with
   | some e => some (.val [] (.int k e))
   | none => none
  | _ => none
 | [] => none
theorem fold_min (hev : EvOk ρ ev ev') (k : IntKind) : ∀ (l : List Operand) (a e : IE), a.ok ρ.k.length → symFold IE.minS ev a l = some e → e.ok ρ.k.length ∧ (l.map ev').foldlM Builtin.min2 (.int k (a.den ρ)) = (Sem.pure (.int k (e.den ρ)) : Sem Value)
 | [], a, e, ha, h => by simp only [symFold, Option.some.injEq] at h; subst h; exact ⟨ha, rfl⟩
 | x :: l, a, e, ha, h => by
  simp only [symFold] at h
  split at h
  ·rename_i k' b hx
   obtain ⟨hok, hx'⟩ := hev _ _ hx
   obtain ⟨h1, h2⟩ := fold_min hev k l _ _ (IE.ok_minS ha hok) h
   refine ⟨h1, ?_⟩
   rw [List.map_cons, List.foldlM_cons, hx']
   rw [IE.den_minS] at h2
   exact h2
  ·simp at h
theorem fold_max (hev : EvOk ρ ev ev') (k : IntKind) : ∀ (l : List Operand) (a e : IE), a.ok ρ.k.length → symFold IE.maxS ev a l = some e → e.ok ρ.k.length ∧ (l.map ev').foldlM Builtin.max2 (.int k (a.den ρ)) = (Sem.pure (.int k (e.den ρ)) : Sem Value)
 | [], a, e, ha, h => by simp only [symFold, Option.some.injEq] at h; subst h; exact ⟨ha, rfl⟩
 | x :: l, a, e, ha, h => by
  simp only [symFold] at h
  split at h
  ·rename_i k' b hx
   obtain ⟨hok, hx'⟩ := hev _ _ hx
   obtain ⟨h1, h2⟩ := fold_max hev k l _ _ (IE.ok_maxS ha hok) h
   refine ⟨h1, ?_⟩
   rw [List.map_cons, List.foldlM_cons, hx']
   rw [IE.den_maxS] at h2
   exact h2
  ·simp at h
theorem sMin_good {args : Array Operand} {ats : Array TypeId} (hop : o.op = .call { callee := .builtin .min, args, argTypes := ats }) (hev : EvOk ρ ev ev') (h : sFold IE.minS ev args.toList = some e) : EffGood P ρ hp S0 S (execOp ev' o) e := by
 unfold sFold at h
 split at h
 ·rename_i x rest hargs
  split at h
  ·rename_i k a hx
   obtain ⟨hok, hx'⟩ := hev _ _ hx
   split at h
   ·rename_i e' he
    simp only [Option.some.injEq] at h; subst h
    obtain ⟨h1, h2⟩ := fold_min hev k rest a e' hok he
    refine good_val (s := Builtin.min_ ats o.type (args.map ev')) (by simp only [execOp, hop, resolve, invoke, builtin]; rfl) h1 fun hn K hK => ?_
    unfold Builtin.min_
    rw [Array.toList_map, hargs, List.map_cons]
    show Run P S0 ((rest.map ev').foldlM Builtin.min2 (ev' x)) _ K
    rw [hx']
    exact Run.of_eq h2 (Run.pure hK)
   ·simp at h
  ·simp at h
 ·simp at h
theorem sMax_good {args : Array Operand} {ats : Array TypeId} (hop : o.op = .call { callee := .builtin .max, args, argTypes := ats }) (hev : EvOk ρ ev ev') (h : sFold IE.maxS ev args.toList = some e) : EffGood P ρ hp S0 S (execOp ev' o) e := by
 unfold sFold at h
 split at h
 ·rename_i x rest hargs
  split at h
  ·rename_i k a hx
   obtain ⟨hok, hx'⟩ := hev _ _ hx
   split at h
   ·rename_i e' he
    simp only [Option.some.injEq] at h; subst h
    obtain ⟨h1, h2⟩ := fold_max hev k rest a e' hok he
    refine good_val (s := Builtin.max_ ats o.type (args.map ev')) (by simp only [execOp, hop, resolve, invoke, builtin]; rfl) h1 fun hn K hK => ?_
    unfold Builtin.max_
    rw [Array.toList_map, hargs, List.map_cons]
    show Run P S0 ((rest.map ev').foldlM Builtin.max2 (ev' x)) _ K
    rw [hx']
    exact Run.of_eq h2 (Run.pure hK)
   ·simp at h
  ·simp at h
 ·simp at h
def sIndexAddr (P : Program) (t : TypeId) (x i : Option SC) : Option Eff := match P.underlying t, x, i with
 | some (.slice e), some (.slice b off len _), some (.int _ j) => match sizeT P e with
  | some n => some (.val (need [IE.leB (.lit 0) off, IE.leB (.lit 0) j, IE.ltB j len]) (.ptr b (.plus off (.times j n))))
  | none => none
 | some (.array len e), some (.ptr b off), some (.int _ j) => match sizeT P e with
  | some n => some (.val (need [IE.leB (.lit 0) off, IE.leB (.lit 0) j, IE.ltB j (.lit len)]) (.ptr b (.plus off (.times j n))))
  | none => none
 | _, _, _ => none
theorem index_off {off j : IE} {n : Nat} (h1 : 0 ≤ j.den ρ) (h3 : 0 ≤ off.den ρ) : (off.den ρ).toNat + (j.den ρ).toNat * n = ((IE.plus off (.times j n)).den ρ).toNat := by
 rw [IE.den_plus, IE.den_times]
 obtain ⟨m, hm⟩ := Int.eq_ofNat_of_zero_le h1
 rw [hm]
 have : ((m : Int) * (n : Int)) = ((m * n : Nat) : Int) := by simp
 rw [this]
 simp only [Int.toNat_natCast]
 omega
theorem sIndexAddr_good {t : TypeId} {x i : Operand} (hop : o.op = .indexAddr t x i) (hev : EvOk ρ ev ev') (h : sIndexAddr P t (ev x) (ev i) = some e) : EffGood P ρ hp S0 S (execOp ev' o) e := by
 unfold sIndexAddr at h
 split at h
 ·rename_i e' b off len cap k j hu hx hi
  obtain ⟨hxo, hx'⟩ := hev x _ hx
  obtain ⟨hio, hi'⟩ := hev i _ hi
  split at h
  ·rename_i n hn
   simp only [Option.some.injEq] at h; subst h
   refine good_val (s := Instr.indexAt t (ev' x) (ev' i)) (by simp only [execOp, hop]) ⟨hxo.1, IE.ok_plus hxo.2.1 (IE.ok_times hio)⟩ fun hneeds K hK => ?_
   unfold sizeT at hn
   obtain ⟨ti, hti, hn⟩ := Option.map_eq_some_iff.1 hn
   rw [hx', hi']
   unfold Instr.indexAt
   simp only [bind, SC.den]
   show Run P S0 ((underlying t).bind _) _ K
   refine run_underlying hu ?_
   show Run P S0 ((underlying t).bind _) _ K
   refine run_underlying hu ?_
   have hall := need_all hneeds
   have h3 : 0 ≤ off.den ρ := of_decide_eq_true (by have := hall (IE.leB (.lit 0) off) (by simp); rwa [IE.den_leB] at this)
   have h1 : 0 ≤ j.den ρ := of_decide_eq_true (by have := hall (IE.leB (.lit 0) j) (by simp); rwa [IE.den_leB] at this)
   have h2 : j.den ρ < len.den ρ := of_decide_eq_true (by have := hall (IE.ltB j len) (by simp); rwa [IE.den_ltB] at this)
   have hc : 0 ≤ j.den ρ ∧ j.den ρ < ((len.den ρ).toNat : Int) := by omega
   simp only [if_pos hc]
   refine run_sizeOf hti ?_
   rw [add_off, hn, index_off h1 h3]
   exact Run.pure hK
  ·simp at h
 ·rename_i len e' b off k j hu hx hi
  obtain ⟨hxo, hx'⟩ := hev x _ hx
  obtain ⟨hio, hi'⟩ := hev i _ hi
  split at h
  ·rename_i n hn
   simp only [Option.some.injEq] at h; subst h
   refine good_val (s := Instr.indexAt t (ev' x) (ev' i)) (by simp only [execOp, hop]) ⟨hxo.1, IE.ok_plus hxo.2 (IE.ok_times hio)⟩ fun hneeds K hK => ?_
   unfold sizeT at hn
   obtain ⟨ti, hti, hn⟩ := Option.map_eq_some_iff.1 hn
   rw [hx', hi']
   unfold Instr.indexAt
   simp only [bind, SC.den]
   show Run P S0 ((underlying t).bind _) _ K
   refine run_underlying hu ?_
   show Run P S0 ((underlying t).bind _) _ K
   refine run_underlying hu ?_
   have hall := need_all hneeds
   have h3 : 0 ≤ off.den ρ := of_decide_eq_true (by have := hall (IE.leB (.lit 0) off) (by simp); rwa [IE.den_leB] at this)
   have h1 : 0 ≤ j.den ρ := of_decide_eq_true (by have := hall (IE.leB (.lit 0) j) (by simp); rwa [IE.den_leB] at this)
   have h2 : j.den ρ < (len : Int) := of_decide_eq_true (by have := hall (IE.ltB j (.lit len)) (by simp); rwa [IE.den_ltB] at this)
   simp only [if_pos (And.intro h1 h2)]
   refine run_sizeOf hti ?_
   rw [add_off, hn, index_off h1 h3]
   exact Run.pure hK
  ·simp at h
 ·simp at h
def sIndex (P : Program) (t : TypeId) (x i : Option SC) : Option Eff := match P.underlying t, x, i with
 | some (.array len e), some (.agg l), some (.int _ (.lit (.ofNat j))) => match Nat.ble (j + 1) len, sizeT P e with
  | true, some n => match symPart P e l (j * n) with
   | some v => some (.val [] v)
   | none => none
  | _, _ => none
 | some .string, some (.lit (.string s)), some (.int _ (.lit (.ofNat j))) => match s[j]? with
  | some b => some (.val [] (.int .u8 (.lit (.ofNat b.toNat))))
  | none => none
 | _, _, _ => none
theorem sIndex_good {t : TypeId} {x i : Operand} (hop : o.op = .index t x i) (hev : EvOk ρ ev ev') (h : sIndex P t (ev x) (ev i) = some e) : EffGood P ρ hp S0 S (execOp ev' o) e := by
 unfold sIndex at h
 split at h
 ·rename_i len e' l k j hu hx hi
  obtain ⟨hxo, hx'⟩ := hev x _ hx
  obtain ⟨hio, hi'⟩ := hev i _ hi
  split at h
  ·rename_i n hlt hn
   have hlt := Nat.le_of_ble_eq_true hlt
   split at h
   ·rename_i v hv
    simp only [Option.some.injEq] at h; subst h
    refine good_val (s := Instr.index t (ev' x) (ev' i)) (by simp only [execOp, hop]) (symPart_ok hv (oks_iff.1 hxo)) fun hneeds K hK => ?_
    obtain ⟨ti, hti, hn⟩ := Option.map_eq_some_iff.1 hn
    rw [hx', hi']
    unfold Instr.index
    simp only [bind, SC.den, IE.den]
    show Run P S0 ((underlying t).bind _) _ K
    refine run_underlying hu ?_
    have hc : (0 : Int) ≤ Int.ofNat j ∧ Int.ofNat j < (len : Int) := ⟨Int.natCast_nonneg j, by simp only [Int.ofNat_eq_natCast]; omega⟩
    simp only [if_pos hc]
    refine run_sizeOf hti ?_
    rw [hn]
    exact run_part hv hK
   ·simp at h
  ·simp at h
 ·rename_i s k j hu hx hi
  obtain ⟨hxo, hx'⟩ := hev x _ hx
  obtain ⟨hio, hi'⟩ := hev i _ hi
  split at h
  ·rename_i b hb
   simp only [Option.some.injEq] at h; subst h
   refine good_val (s := Instr.index t (ev' x) (ev' i)) (by simp only [execOp, hop]) trivial fun hneeds K hK => ?_
   rw [hx', hi']
   unfold Instr.index
   simp only [bind, SC.den, IE.den]
   show Run P S0 ((underlying t).bind _) _ K
   refine run_underlying hu ?_
   have hb' : (if (0 : Int) ≤ Int.ofNat j then s[(Int.ofNat j).toNat]? else none) = some b := (if_pos (Int.natCast_nonneg j)).trans hb
   simp only [hb']
   exact Run.pure hK
  ·simp at h
 ·simp at h
end
end Mw
