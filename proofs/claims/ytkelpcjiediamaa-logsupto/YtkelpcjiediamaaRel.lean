/-
  The log and the document's log say the same: plain mathematics.
-/
import Derived.Test.YtkelpcjiediamaaLooks
namespace Go.Proofs.Ytkelpcjiediamaa

structure Rel (s : LogS) (L : List Ent) : Prop where
  inv : Inv s
  es : s.es = rEnts L
  op : ∀ p t, rOpen L p t = s.isOpen p t
  nw : ∀ p t o, s.nw p = some (t, o) → ∃ e ∈ L, e.k = 0 ∧ e.p = p ∧ e.t = t
  top : ∀ e ∈ L, e.k = 0 → ∃ t o, s.nw e.p = some (t, o) ∧ e.t ≤ t
  wf : ∀ e ∈ L, I64 e.p ∧ I64 e.t

theorem rel_new : Rel ⟨[], 0, fun _ => none⟩ [] := ⟨inv_new, rfl, fun p t => rfl, fun p t o h => (by cases h), fun e h => (by simp at h), fun e h => (by simp at h)⟩

theorem Rel.can {s : LogS} {L : List Ent} (h : Rel s L) (p t : Int) : rCan L p t = s.canOpen p t := by
  cases hn : s.nw p with
  | none =>
    have hc : s.canOpen p t = true := by simp [LogS.canOpen, hn]
    rw [hc]
    refine rCan_yes (fun j x hx => ?_)
    cases hb : rBlocks L p t x
    · rfl
    · simp only [rBlocks, Bool.and_eq_true, decide_eq_true_eq] at hb
      obtain ⟨t', o, h1, _⟩ := h.top x (List.mem_of_getElem? hx) hb.1.2
      rw [hb.1.1, hn] at h1
      cases h1
  | some to =>
    obtain ⟨t', o⟩ := to
    obtain ⟨e0, he0, hk0, hp0, ht0⟩ := h.nw p t' o hn
    obtain ⟨j0, hj0, hje0⟩ := List.getElem_of_mem he0
    have hget : L[j0]? = some e0 := by rw [List.getElem?_eq_getElem hj0, hje0]
    cases o
    · by_cases hlt : t' < t
      · have hc : s.canOpen p t = true := by simp [LogS.canOpen, hn, hlt]
        rw [hc]
        refine rCan_yes (fun j x hx => ?_)
        cases hb : rBlocks L p t x
        · rfl
        · simp only [rBlocks, Bool.and_eq_true, decide_eq_true_eq, Bool.or_eq_true] at hb
          obtain ⟨⟨hp, hk⟩, hor⟩ := hb
          obtain ⟨t2, o2, h1, h2⟩ := h.top x (List.mem_of_getElem? hx) hk
          rw [hp, hn] at h1
          simp only [Option.some.injEq, Prod.mk.injEq] at h1
          obtain ⟨rfl, rfl⟩ := h1
          rcases hor with h3 | h3
          · rw [h.op, isOpen_iff, hn] at h3
            simp at h3
          · omega
      · have hc : s.canOpen p t = false := by simp [LogS.canOpen, hn, hlt]
        rw [hc]
        exact rCan_no hget (by simp [rBlocks, hp0, hk0, ht0]; omega)
    · have hc : s.canOpen p t = false := by simp [LogS.canOpen, hn]
      rw [hc]
      exact rCan_no hget (by simp [rBlocks, hp0, hk0, ht0, h.op, isOpen_iff.2 hn])

theorem cnt_ents (L : List Ent) : cnt (rEnts L) = cnt L := by
  unfold cnt rEnts
  rw [List.filter_filter]
  congr 1
  apply List.filter_congr
  intro e _
  by_cases h : e.k = 1 <;> simp [h]

theorem Rel.code {s : LogS} {L : List Ent} (h : Rel s L) (p t : Int) (x : ByteArray) : rCode L p t x = s.appendCode p t x := by
  have hd : s.d = cnt L := by rw [h.inv.d, h.es, cnt_ents]
  simp only [rCode, LogS.appendCode, h.op, hd]

theorem Rel.blocked {s : LogS} {L : List Ent} (h : Rel s L) {e : Ent} (he : e ∈ s.es) : rOpen L e.p e.t = s.blocked e := by
  rw [h.op]
  by_cases hk : e.k = 1
  · simp [LogS.blocked, hk]
  · obtain ⟨t', o, h1, h2, h3⟩ := h.inv.newest e he
    have : s.isOpen e.p e.t = false := by
      rw [isOpen_no, h1]
      rcases h3 hk with h4 | h4
      · simp; omega
      · simp [h4]
    simp [LogS.blocked, this]

theorem findIdx_congr {α : Type} {p q : α → Bool} : ∀ {l : List α}, (∀ x ∈ l, p x = q x) → l.findIdx p = l.findIdx q
  | [], _ => rfl
  | x :: r, h => by
    rw [List.findIdx_cons, List.findIdx_cons, h x (by simp), findIdx_congr (l := r) (fun y hy => h y (by simp [hy]))]

theorem Rel.stable {s : LogS} {L : List Ent} (h : Rel s L) : rStable L = s.stable := by
  unfold rStable LogS.stable
  rw [← h.es]
  exact findIdx_congr (fun e he => h.blocked he)

theorem cAny_iff {A : List Ent} {e : Ent} {i : Nat} : cAll A e i = true ↔ ∃ (m : Nat) (x : Ent), i ≤ m ∧ A[m]? = some x ∧ x.k = 2 ∧ x.p = e.p ∧ x.t = e.t := by
  unfold cAll cAny
  rw [List.take_of_length_le (Nat.le_refl _), List.any_eq_true]
  constructor
  · rintro ⟨x, hx, hc⟩
    obtain ⟨j, hj, rfl⟩ := List.getElem_of_mem hx
    simp only [cHit, Bool.and_eq_true, decide_eq_true_eq] at hc
    refine ⟨i + j, _, by omega, ?_, hc.1.1, hc.1.2, hc.2⟩
    rw [List.getElem_drop]
    exact List.getElem?_eq_getElem _
  · rintro ⟨m, x, hm, hx, h1, h2, h3⟩
    refine ⟨x, ?_, by simp [cHit, h1, h2, h3]⟩
    have : (A.drop i)[m - i]? = some x := by rw [List.getElem?_drop, show i + (m - i) = m by omega]; exact hx
    exact List.mem_of_getElem? this

theorem picks_iff {s : LogS} (h : Inv s) {i : Nat} {e : Ent} (hi : i < s.stable) (he : s.es[i]? = some e) (hk : e.k = 1) : s.picks e = cAll s.es e i := by
  obtain ⟨q, hq⟩ := settled_ok h i e hi he hk
  have h1 : s.picks e = decide (q = 2) := by simp [LogS.picks, hk, hq.fate]
  rw [h1]
  by_cases e2 : q = 2
  · subst e2
    obtain ⟨m, x, h3, h4, h5⟩ := hq.late
    have := (cAny_iff (A := s.es) (e := e) (i := i)).2 ⟨m, x, by omega, h4, hq.all x (List.mem_of_getElem? h4) h5, h5.2.1, h5.2.2⟩
    rw [this]; rfl
  · have : cAll s.es e i = false := by
      cases hc : cAll s.es e i
      · rfl
      · obtain ⟨m, x, _, h4, h5, h6, h7⟩ := cAny_iff.1 hc
        have h8 := hq.all x (List.mem_of_getElem? h4) ⟨by rw [h5]; decide, h6, h7⟩
        exact absurd (h8.symm.trans h5) e2
    rw [this]; simp [e2]

theorem rGot_eq {s : LogS} (h : Inv s) (f m : Int) : ∀ i, i ≤ s.stable → rGot s.es f m i = (s.got (LogS.start f) i).take m.toNat
  | 0, _ => by simp [rGot, LogS.got]
  | i + 1, hi => by
    have ih := rGot_eq h f m i (by omega)
    have hl : i < s.es.length := Nat.lt_of_lt_of_le hi s.stable_le
    have he := List.getElem?_eq_getElem hl
    rw [rGot_succ he, ih]
    by_cases hf : f ≤ (i : Int)
    · have ha : LogS.start f ≤ i := by simp only [LogS.start]; omega
      have hp : s.pick i = if s.picks s.es[i] then [⟨i, s.es[i].p, s.es[i].s⟩] else [] := by simp [LogS.pick, he]
      rw [s.got_succ ha, hp]
      by_cases hk : s.es[i].k = 1
      · have hpi := picks_iff h (by omega) he hk
        cases hb : s.picks s.es[i]
        · have : rTake s.es f m ((s.got (LogS.start f) i).take m.toNat) i s.es[i] = false := by simp [rTake, ← hpi, hb]
          rw [this]; simp
        · by_cases hlen : (s.got (LogS.start f) i).length < m.toNat
          · have : rTake s.es f m ((s.got (LogS.start f) i).take m.toNat) i s.es[i] = true := by
              simp only [rTake, ← hpi, hb, hk, hf, decide_true, Bool.true_and, decide_eq_true_eq, List.length_take]
              omega
            rw [this, if_pos rfl, if_pos rfl, List.take_of_length_le (by omega), List.take_of_length_le (by simp; omega)]
          · have : rTake s.es f m ((s.got (LogS.start f) i).take m.toNat) i s.es[i] = false := by
              have : ¬ (((s.got (LogS.start f) i).take m.toNat).length : Int) < m := by simp only [List.length_take]; omega
              simp only [rTake, decide_eq_false this, Bool.and_false]
            rw [this, if_pos rfl, List.take_append_of_le_length (by omega)]
            simp
      · have h2 : s.picks s.es[i] = false := by simp [LogS.picks, hk]
        have : rTake s.es f m ((s.got (LogS.start f) i).take m.toNat) i s.es[i] = false := by simp [rTake, hk]
        rw [this, h2]; simp
    · have : rTake s.es f m ((s.got (LogS.start f) i).take m.toNat) i s.es[i] = false := by simp [rTake, hf]
      rw [this]
      have hz : s.got (LogS.start f) (i + 1) = [] ∧ s.got (LogS.start f) i = [] := by
        simp only [LogS.got, LogS.start]
        rw [show i + 1 - (max f 0).toNat = 0 by omega, show i - (max f 0).toNat = 0 by omega]
        simp
      rw [hz.1, hz.2]; simp

theorem Rel.fetch {s : LogS} {L : List Ent} (h : Rel s L) (f m : Int) : rFetch L f m = s.fetch f m := by
  unfold rFetch LogS.fetch
  rw [h.stable, ← h.es]
  exact rGot_eq h.inv f m s.stable (Nat.le_refl _)

theorem Rel.opens {s : LogS} {L : List Ent} (h : Rel s L) {S : List Int} (h1 : S.Pairwise (· < ·)) (h2 : ∀ x ∈ S, I64 x) (h3 : ∀ x, I64 x → (x ∈ S ↔ ∃ t, s.nw x = some (t, true))) : Opens L S := by
  refine ⟨h1, fun x => ⟨fun hx => ?_, fun ⟨e, he, hp, ho⟩ => ?_⟩⟩
  · obtain ⟨t, ht⟩ := (h3 x (h2 x hx)).1 hx
    obtain ⟨e, he, _, hp, het⟩ := h.nw x t true ht
    exact ⟨e, he, hp, by rw [h.op, isOpen_iff, hp, het]; exact ht⟩
  · have hw := (h.wf e he).1
    rw [hp] at hw
    rw [h.op, isOpen_iff, hp] at ho
    exact (h3 x hw).2 ⟨_, ho⟩

theorem Rel.opened {s : LogS} {L : List Ent} (h : Rel s L) (p t : Int) (hp : I64 p) (ht : I64 t) : Rel (s.opened p t) (rOpened L p t) := by
  have hi := (opened_ok h.inv p t).1
  unfold rOpened
  rw [h.can p t]
  unfold LogS.opened at hi ⊢
  cases hc : s.canOpen p t
  · simpa using h
  · simp only [hc, if_true] at hi ⊢
    have hnw : ∀ t' o, s.nw p = some (t', o) → o = false ∧ t' < t := fun t' o e => by
      simp only [LogS.canOpen, e, Bool.and_eq_true, Bool.not_eq_true', decide_eq_true_eq] at hc
      exact hc
    refine ⟨hi, ?_, fun q u => ?_, fun q u o hq => ?_, fun e he hk => ?_, fun e he => ?_⟩
    · rw [rEnts_snoc]; simpa [LogS.set] using h.es
    · rw [rOpen_snoc]
      unfold rStep
      by_cases hqu : p = q ∧ t = u
      · obtain ⟨rfl, rfl⟩ := hqu
        rw [if_pos ⟨rfl, rfl⟩]
        have : (s.set p t true).isOpen p t = true := by simp [LogS.isOpen, LogS.set]
        rw [this]; rfl
      · rw [if_neg hqu, h.op]
        by_cases hq : q = p
        · subst hq
          have hut : t ≠ u := fun e => hqu ⟨rfl, e⟩
          have a : s.isOpen q u = false := by
            rw [isOpen_no]
            intro e
            have := (hnw u true e).1
            cases this
          have b : (s.set q t true).isOpen q u = false := by
            rw [isOpen_no]; simp [LogS.set, hut]
          rw [a, b]
        · simp [LogS.isOpen, LogS.set, hq]
    · by_cases e : q = p
      · subst e
        simp only [LogS.set, if_true, Option.some.injEq, Prod.mk.injEq] at hq
        exact ⟨⟨0, q, t, ⟨#[]⟩⟩, by simp, rfl, rfl, hq.1⟩
      · simp only [LogS.set, e, if_false] at hq
        obtain ⟨e0, h1, h2⟩ := h.nw q u o hq
        exact ⟨e0, by simp [h1], h2⟩
    · simp only [List.mem_append, List.mem_singleton] at he
      rcases he with he | rfl
      · obtain ⟨t', o, h1, h2⟩ := h.top e he hk
        by_cases e2 : e.p = p
        · rw [e2] at h1
          have := hnw t' o h1
          exact ⟨t, true, by simp [LogS.set, e2], by omega⟩
        · exact ⟨t', o, by simp [LogS.set, e2, h1], h2⟩
      · exact ⟨t, true, by simp [LogS.set], Int.le_refl _⟩
    · simp only [List.mem_append, List.mem_singleton] at he
      rcases he with he | rfl
      · exact h.wf e he
      · exact ⟨hp, ht⟩

theorem Rel.appended {s : LogS} {L : List Ent} (h : Rel s L) (p t : Int) (x : ByteArray) (hp : I64 p) (ht : I64 t) : Rel (s.appended p t x) (rAppended L p t x) := by
  have hi := (appended_ok h.inv p t x hp ht).1
  unfold rAppended
  rw [h.code p t x]
  unfold LogS.appended at hi ⊢
  by_cases hc : s.appendCode p t x = 0
  · simp only [hc, if_true] at hi ⊢
    refine ⟨hi, ?_, fun q u => ?_, fun q u o hq => ?_, fun e he hk => ?_, fun e he => ?_⟩
    · rw [rEnts_snoc, ← h.es]; simp [LogS.put]
    · rw [rOpen_snoc]
      unfold rStep
      by_cases hqu : p = q ∧ t = u
      · obtain ⟨rfl, rfl⟩ := hqu
        rw [if_pos ⟨rfl, rfl⟩]
        show ((1 : Int) == 0 || (rOpen L p t && (1 : Int) == 1)) = s.isOpen p t
        rw [h.op]
        cases s.isOpen p t <;> rfl
      · rw [if_neg hqu, h.op]; rfl
    · obtain ⟨e0, h1, h2⟩ := h.nw q u o hq
      exact ⟨e0, by simp [h1], h2⟩
    · simp only [List.mem_append, List.mem_singleton] at he
      rcases he with he | rfl
      · exact h.top e he hk
      · cases hk
    · simp only [List.mem_append, List.mem_singleton] at he
      rcases he with he | rfl
      · exact h.wf e he
      · exact ⟨hp, ht⟩
  · simpa [hc] using h

theorem Rel.closed {s : LogS} {L : List Ent} (h : Rel s L) (p t : Int) (c : Bool) (hp : I64 p) (ht : I64 t) : Rel (s.closed p t c) (rClosed L p t c) := by
  have hi := (closed_ok h.inv p t c hp ht).1
  unfold rClosed
  rw [h.op p t]
  unfold LogS.closed at hi ⊢
  cases hc : s.isOpen p t
  · simpa [hc] using h
  · simp only [hc, if_true] at hi ⊢
    have hn := isOpen_iff.1 hc
    have hkk : LogS.closeKind c = 2 ∨ LogS.closeKind c = 3 := by cases c <;> simp [LogS.closeKind]
    refine ⟨hi, ?_, fun q u => ?_, fun q u o hq => ?_, fun e he hk => ?_, fun e he => ?_⟩
    · rw [rEnts_snoc, ← h.es, if_pos (by rcases hkk with e | e <;> simp [e])]; rfl
    · rw [rOpen_snoc]
      unfold rStep
      by_cases hqu : p = q ∧ t = u
      · obtain ⟨rfl, rfl⟩ := hqu
        rw [if_pos ⟨rfl, rfl⟩]
        have b : ((s.put ⟨LogS.closeKind c, p, t, ⟨#[]⟩⟩).set p t false).isOpen p t = false := by rw [isOpen_no]; simp [LogS.set]
        rw [b]
        rcases hkk with e | e <;> simp [e]
      · rw [if_neg hqu, h.op]
        by_cases hq : q = p
        · subst hq
          have hut : t ≠ u := fun e => hqu ⟨rfl, e⟩
          have a : s.isOpen q u = false := by
            rw [isOpen_no, hn]; simp [hut]
          have b : ((s.put ⟨LogS.closeKind c, q, t, ⟨#[]⟩⟩).set q t false).isOpen q u = false := by rw [isOpen_no]; simp [LogS.set]
          rw [a, b]
        · simp [LogS.isOpen, LogS.set, LogS.put, hq]
    · by_cases e : q = p
      · subst e
        simp only [LogS.set, if_true, Option.some.injEq, Prod.mk.injEq] at hq
        obtain ⟨e0, h1, h2, h3, h4⟩ := h.nw q t true hn
        exact ⟨e0, by simp [h1], h2, h3, by rw [h4]; exact hq.1⟩
      · simp only [LogS.set, LogS.put, e, if_false] at hq
        obtain ⟨e0, h1, h2⟩ := h.nw q u o hq
        exact ⟨e0, by simp [h1], h2⟩
    · simp only [List.mem_append, List.mem_singleton] at he
      rcases he with he | rfl
      · obtain ⟨t', o, h1, h2⟩ := h.top e he hk
        by_cases e2 : e.p = p
        · rw [e2, hn] at h1
          simp only [Option.some.injEq, Prod.mk.injEq] at h1
          obtain ⟨rfl, rfl⟩ := h1
          exact ⟨t, false, by simp [LogS.set, e2], h2⟩
        · exact ⟨t', o, by simp [LogS.set, LogS.put, e2, h1], h2⟩
      · rcases hkk with e | e
        · rw [show LogS.closeKind c = 0 from hk] at e; cases e
        · rw [show LogS.closeKind c = 0 from hk] at e; cases e
    · simp only [List.mem_append, List.mem_singleton] at he
      rcases he with he | rfl
      · exact h.wf e he
      · exact ⟨hp, ht⟩

theorem rOpened_len (L : List Ent) (p t : Int) : (rOpened L p t).length ≤ L.length + 1 := by unfold rOpened; split <;> simp
theorem rAppended_len (L : List Ent) (p t : Int) (x : ByteArray) : (rAppended L p t x).length ≤ L.length + 1 := by unfold rAppended; split <;> simp
theorem rClosed_len (L : List Ent) (p t : Int) (c : Bool) : (rClosed L p t c).length ≤ L.length + 1 := by unfold rClosed; split <;> simp

end Go.Proofs.Ytkelpcjiediamaa
