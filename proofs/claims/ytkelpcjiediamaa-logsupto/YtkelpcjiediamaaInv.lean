/-
  What holds of every log: plain mathematics on its entries.
-/
import Derived.Test.YtkelpcjiediamaaWithin
namespace Go.Proofs.Ytkelpcjiediamaa

def I64 (n : Int) : Prop := (Lit.int .i64 n).wf = true

def cnt (es : List Ent) : Nat := (es.filter fun e => decide (e.k = 1)).length

structure Inv (s : LogS) : Prop where
  wf : s.Wf
  kinds : ∀ e ∈ s.es, e.k = 1 ∨ e.k = 2 ∨ e.k = 3
  newest : ∀ e ∈ s.es, ∃ t' o, s.nw e.p = some (t', o) ∧ e.t ≤ t' ∧ (e.k ≠ 1 → e.t < t' ∨ o = false)
  closed : ∀ (i : Nat) e, s.es[i]? = some e → e.k = 1 → s.isOpen e.p e.t = false → ∃ (m : Nat) (x : Ent), i < m ∧ s.es[m]? = some x ∧ x.ends e
  uniq : ∀ x ∈ s.es, ∀ y ∈ s.es, x.k ≠ 1 → y.k ≠ 1 → x.p = y.p → x.t = y.t → x.k = y.k
  d : s.d = cnt s.es
  most : s.d ≤ 200

theorem inv_new : Inv ⟨[], 0, fun _ => none⟩ :=
  ⟨fun e h => by simp at h, fun e h => by simp at h, fun e h => by simp at h, fun i e h => by simp at h, fun e h => by simp at h, rfl, by simp⟩

/-- s' is s with more entries; what was closed is closed still, by the same kind. -/
structure Ext (s s' : LogS) : Prop where
  es : ∃ t, s'.es = s.es ++ t
  open_ : ∀ e ∈ s.es, e.k = 1 → s.isOpen e.p e.t = false → s'.isOpen e.p e.t = false
  fate : ∀ e ∈ s.es, e.k = 1 → s.isOpen e.p e.t = false → fate s'.es e.p e.t = fate s.es e.p e.t

theorem Ext.refl (s : LogS) : Ext s s := ⟨⟨[], by simp⟩, fun _ _ _ h => h, fun _ _ _ _ => rfl⟩

theorem isOpen_iff {s : LogS} {p t : Int} : s.isOpen p t = true ↔ s.nw p = some (t, true) := by simp [LogS.isOpen]
theorem isOpen_no {s : LogS} {p t : Int} : s.isOpen p t = false ↔ s.nw p ≠ some (t, true) := by simp [LogS.isOpen]

theorem getElem?_snoc {α : Type} {l : List α} {x e : α} {i : Nat} (h : (l ++ [x])[i]? = some e) : l[i]? = some e ∨ (i = l.length ∧ e = x) := by
  by_cases hi : i < l.length
  · rw [List.getElem?_append_left hi] at h; exact .inl h
  · rw [List.getElem?_append_right (by omega)] at h
    have : i - l.length = 0 := by
      have := (List.getElem?_eq_some_iff.1 h).1
      simp at this; omega
    rw [this] at h
    simp at h
    exact .inr ⟨by omega, h.symm⟩

theorem opened_ok {s : LogS} (h : Inv s) (p t : Int) : Inv (s.opened p t) ∧ Ext s (s.opened p t) := by
  unfold LogS.opened
  split
  · rename_i hc
    have hnw : ∀ t' o, s.nw p = some (t', o) → o = false ∧ t' < t := fun t' o e => by
      simp only [LogS.canOpen, e, Bool.and_eq_true, Bool.not_eq_true', decide_eq_true_eq] at hc
      exact hc
    have hop : ∀ e ∈ s.es, (s.set p t true).isOpen e.p e.t = false ∨ e.p ≠ p := fun e he => by
      by_cases ep : e.p = p
      · left
        obtain ⟨t', o, h1, h2, _⟩ := h.newest e he
        rw [ep] at h1
        have := hnw t' o h1
        rw [isOpen_no]
        simp only [LogS.set, ep, if_true, ne_eq, Option.some.injEq, Prod.mk.injEq, and_true]
        omega
      · exact .inr ep
    have hsame : ∀ e ∈ s.es, s.isOpen e.p e.t = (s.set p t true).isOpen e.p e.t := fun e he => by
      by_cases ep : e.p = p
      · obtain ⟨t', o, h1, h2, _⟩ := h.newest e he
        have h3 := hnw t' o (by rw [← ep]; exact h1)
        have a : s.isOpen e.p e.t = false := by
          rw [isOpen_no, h1, h3.1]; simp
        rcases hop e he with h4 | h4
        · rw [a, h4]
        · exact absurd ep h4
      · simp [LogS.isOpen, LogS.set, ep]
    refine ⟨⟨h.wf, h.kinds, ?_, ?_, h.uniq, h.d, h.most⟩, ⟨⟨[], by simp [LogS.set]⟩, fun e he h1 h2 => by rw [← hsame e he]; exact h2, fun _ _ _ _ => rfl⟩⟩
    · intro e he
      obtain ⟨t', o, h1, h2, h3⟩ := h.newest e he
      by_cases ep : e.p = p
      · have h4 := hnw t' o (by rw [← ep]; exact h1)
        exact ⟨t, true, by simp [LogS.set, ep], by omega, fun _ => .inl (by omega)⟩
      · exact ⟨t', o, by simp [LogS.set, ep]; exact h1, h2, h3⟩
    · intro i e he hk ho
      exact h.closed i e he hk (by rw [hsame e (List.mem_of_getElem? he)]; exact ho)
  · exact ⟨h, Ext.refl s⟩

theorem fate_data (es : List Ent) (x : Ent) (hx : x.k = 1) (p t : Int) : fate (es ++ [x]) p t = fate es p t := by
  rw [fate_snoc, if_neg (by simp [hx])]

theorem appended_ok {s : LogS} (h : Inv s) (p t : Int) (x : ByteArray) (hp : I64 p) (ht : I64 t) : Inv (s.appended p t x) ∧ Ext s (s.appended p t x) := by
  unfold LogS.appended
  split
  · rename_i hc
    have ho : s.isOpen p t = true := by
      unfold LogS.appendCode at hc
      split at hc
      · cases hc
      · rename_i h1; simpa using h1
    have hd : s.d < 200 := by
      unfold LogS.appendCode at hc
      split at hc
      · cases hc
      · split at hc
        · cases hc
        · split at hc
          · cases hc
          · omega
    have hn := isOpen_iff.1 ho
    refine ⟨⟨?_, ?_, ?_, ?_, ?_, ?_, ?_⟩, ⟨⟨[⟨1, p, t, x⟩], rfl⟩, fun _ _ _ h => h, fun e _ _ _ => fate_data _ _ rfl _ _⟩⟩
    · intro e he
      simp only [LogS.put, List.mem_append, List.mem_singleton] at he
      rcases he with he | rfl
      · exact h.wf e he
      · exact ⟨hp, ht⟩
    · intro e he
      simp only [LogS.put, List.mem_append, List.mem_singleton] at he
      rcases he with he | rfl
      · exact h.kinds e he
      · exact .inl rfl
    · intro e he
      simp only [LogS.put, List.mem_append, List.mem_singleton] at he
      rcases he with he | rfl
      · exact h.newest e he
      · exact ⟨t, true, hn, Int.le_refl _, fun h => absurd rfl h⟩
    · intro i e he hk hop
      simp only [LogS.put] at he ⊢
      rcases getElem?_snoc he with he | ⟨_, rfl⟩
      · obtain ⟨m, y, h1, h2, h3⟩ := h.closed i e he hk hop
        exact ⟨m, y, h1, by rw [List.getElem?_append_left (List.getElem?_eq_some_iff.1 h2).1]; exact h2, h3⟩
      · exact absurd ho (by rw [show s.isOpen p t = false from hop]; simp)
    · intro a ha b hb h1 h2 h3 h4
      simp only [LogS.put, List.mem_append, List.mem_singleton] at ha hb
      rcases ha with ha | rfl
      · rcases hb with hb | rfl
        · exact h.uniq a ha b hb h1 h2 h3 h4
        · exact absurd rfl h2
      · exact absurd rfl h1
    · simp only [LogS.put, cnt, List.filter_append, List.length_append]
      have := h.d
      unfold cnt at this
      simp [this]
    · show s.d + 1 ≤ 200
      omega
  · exact ⟨h, Ext.refl s⟩

theorem closed_ok {s : LogS} (h : Inv s) (p t : Int) (c : Bool) (hp : I64 p) (ht : I64 t) : Inv (s.closed p t c) ∧ Ext s (s.closed p t c) := by
  unfold LogS.closed
  split
  · rename_i ho
    have hn := isOpen_iff.1 ho
    have hkk : LogS.closeKind c = 2 ∨ LogS.closeKind c = 3 := by cases c <;> simp [LogS.closeKind]
    have hk1 : LogS.closeKind c ≠ 1 := by rcases hkk with e | e <;> rw [e] <;> decide
    have hiff : ∀ q u : Int, ((s.put ⟨LogS.closeKind c, p, t, ⟨#[]⟩⟩).set p t false).isOpen q u = false ↔ (s.isOpen q u = false ∨ (q = p ∧ u = t)) := fun q u => by
      rw [isOpen_no, isOpen_no]
      simp only [LogS.set, LogS.put]
      by_cases e : q = p
      · subst e
        simp only [if_true, true_and, hn, ne_eq, Option.some.injEq, Prod.mk.injEq]
        by_cases e2 : u = t
        · subst e2; simp
        · simp [Ne.symm e2]
      · simp [e]
    refine ⟨⟨?_, ?_, ?_, ?_, ?_, ?_, h.most⟩, ⟨⟨[⟨LogS.closeKind c, p, t, ⟨#[]⟩⟩], rfl⟩, fun e _ _ h2 => (hiff _ _).2 (.inl h2), fun e he hk h2 => ?_⟩⟩
    · intro e he
      simp only [LogS.put, LogS.set, List.mem_append, List.mem_singleton] at he
      rcases he with he | rfl
      · exact h.wf e he
      · exact ⟨hp, ht⟩
    · intro e he
      simp only [LogS.put, LogS.set, List.mem_append, List.mem_singleton] at he
      rcases he with he | rfl
      · exact h.kinds e he
      · exact .inr hkk
    · intro e he
      simp only [LogS.put, LogS.set, List.mem_append, List.mem_singleton] at he
      rcases he with he | rfl
      · obtain ⟨t', o, h1, h2, h3⟩ := h.newest e he
        by_cases ep : e.p = p
        · rw [ep, hn] at h1
          simp only [Option.some.injEq, Prod.mk.injEq] at h1
          obtain ⟨rfl, rfl⟩ := h1
          exact ⟨t, false, by simp [LogS.set, ep], h2, fun _ => .inr rfl⟩
        · exact ⟨t', o, by simp [LogS.set, LogS.put, ep]; exact h1, h2, h3⟩
      · exact ⟨t, false, by simp [LogS.set], Int.le_refl _, fun _ => .inr rfl⟩
    · intro i e he hk hop
      simp only [LogS.put, LogS.set] at he ⊢
      rcases getElem?_snoc he with he | ⟨_, rfl⟩
      · rcases (hiff _ _).1 hop with h1 | ⟨h1, h2⟩
        · obtain ⟨m, y, h1, h2, h3⟩ := h.closed i e he hk h1
          exact ⟨m, y, h1, by rw [List.getElem?_append_left (List.getElem?_eq_some_iff.1 h2).1]; exact h2, h3⟩
        · exact ⟨s.es.length, ⟨LogS.closeKind c, p, t, ⟨#[]⟩⟩, (List.getElem?_eq_some_iff.1 he).1, by simp, ⟨hk1, h1.symm, h2.symm⟩⟩
      · exact absurd hk hk1
    · have old : ∀ a ∈ s.es, a.k ≠ 1 → a.p = p → a.t = t → False := fun a ha h1 h2 h3 => by
        obtain ⟨t', o, g1, g2, g3⟩ := h.newest a ha
        rw [h2, hn] at g1
        simp only [Option.some.injEq, Prod.mk.injEq] at g1
        obtain ⟨rfl, rfl⟩ := g1
        rcases g3 h1 with g4 | g4
        · omega
        · cases g4
      intro a ha b hb h1 h2 h3 h4
      simp only [LogS.put, LogS.set, List.mem_append, List.mem_singleton] at ha hb
      rcases ha with ha | rfl
      · rcases hb with hb | rfl
        · exact h.uniq a ha b hb h1 h2 h3 h4
        · exact (old a ha h1 h3 h4).elim
      · rcases hb with hb | rfl
        · exact (old b hb h2 h3.symm h4.symm).elim
        · rfl
    · simp only [LogS.put, LogS.set, cnt, List.filter_append, List.length_append]
      have := h.d
      unfold cnt at this
      simp [this, hk1]
    · simp only [LogS.put, LogS.set]
      rw [fate_snoc, if_neg]
      rintro ⟨_, h3, h4⟩
      rw [← h3, ← h4] at h2
      rw [ho] at h2
      cases h2
  · exact ⟨h, Ext.refl s⟩

theorem findIdx_lt {α : Type} (p : α → Bool) : ∀ (l : List α) (k : Nat) (e : α), k < l.findIdx p → l[k]? = some e → p e = false
  | [], k, e, _, h => by simp at h
  | x :: r, 0, e, hk, h => by
    simp only [List.getElem?_cons_zero, Option.some.injEq] at h
    subst h
    cases hp : p x
    · rfl
    · simp [List.findIdx_cons, hp] at hk
  | x :: r, k + 1, e, hk, h => by
    cases hp : p x
    · refine findIdx_lt p r k e ?_ (by simpa using h)
      rw [List.findIdx_cons, hp] at hk
      simp only [cond_false] at hk
      omega
    · simp [List.findIdx_cons, hp] at hk

theorem findIdx_ge {α : Type} (p : α → Bool) : ∀ (l : List α) (k : Nat), k ≤ l.length → (∀ (j : Nat) e, j < k → l[j]? = some e → p e = false) → k ≤ l.findIdx p
  | _, 0, _, _ => Nat.zero_le _
  | [], k + 1, h, _ => by simp at h
  | x :: r, k + 1, h, ha => by
    have h0 := ha 0 x (by omega) (by simp)
    have := findIdx_ge p r k (by simpa using h) (fun j e hj he => ha (j + 1) e (by omega) (by simpa using he))
    simp [List.findIdx_cons, h0, this]

theorem not_blocked {s : LogS} {i : Nat} {e : Ent} (hi : i < s.stable) (he : s.es[i]? = some e) (hk : e.k = 1) : s.isOpen e.p e.t = false := by
  have := findIdx_lt s.blocked s.es i e hi he
  simpa [LogS.blocked, hk] using this

theorem Ext.get {s s' : LogS} (E : Ext s s') {i : Nat} {e : Ent} (he : s.es[i]? = some e) : s'.es[i]? = some e := by
  obtain ⟨t, ht⟩ := E.es
  rw [ht, List.getElem?_append_left (List.getElem?_eq_some_iff.1 he).1]
  exact he

theorem Ext.length {s s' : LogS} (E : Ext s s') : s.es.length ≤ s'.es.length := by
  obtain ⟨t, ht⟩ := E.es
  rw [ht]; simp

theorem Ext.stable {s s' : LogS} (E : Ext s s') : s.stable ≤ s'.stable := by
  refine findIdx_ge s'.blocked s'.es s.stable (Nat.le_trans s.stable_le E.length) (fun j e hj he => ?_)
  have hl : j < s.es.length := Nat.lt_of_lt_of_le hj s.stable_le
  have he0 : s.es[j]? = some e := by
    have h1 := E.get (List.getElem?_eq_getElem hl)
    rw [h1] at he
    rw [List.getElem?_eq_getElem hl]; exact he
  by_cases hk : e.k = 1
  · have := E.open_ e (List.mem_of_getElem? he0) hk (not_blocked hj he0 hk)
    simp [LogS.blocked, this]
  · simp [LogS.blocked, hk]

theorem Ext.pick {s s' : LogS} (E : Ext s s') {i : Nat} (hi : i < s.stable) : s'.pick i = s.pick i := by
  have hl : i < s.es.length := Nat.lt_of_lt_of_le hi s.stable_le
  have he := List.getElem?_eq_getElem hl
  simp only [LogS.pick, he, E.get he]
  by_cases hk : s.es[i].k = 1
  · have := E.fate _ (List.mem_of_getElem? he) hk (not_blocked hi he hk)
    simp [LogS.picks, this]
  · simp [LogS.picks, hk]

theorem Ext.got_same {s s' : LogS} (E : Ext s s') : ∀ k, k ≤ s.stable → s'.got 0 k = s.got 0 k
  | 0, _ => by simp [LogS.got]
  | k + 1, h => by rw [s'.got_succ (by omega), s.got_succ (by omega), Ext.got_same E k (by omega), E.pick (by omega)]

theorem Ext.got {s s' : LogS} (E : Ext s s') : ∃ t, s'.got 0 s'.stable = s.got 0 s.stable ++ t := by
  obtain ⟨t, ht⟩ := s'.got_prefix (a := 0) (k := s.stable) (by omega) (s'.stable - s.stable)
  rw [show s.stable + (s'.stable - s.stable) = s'.stable by have := E.stable; omega] at ht
  exact ⟨t, by rw [ht, E.got_same _ (Nat.le_refl _)]⟩

theorem fold_hit (e : Ent) (q : Int) : ∀ (es : List Ent) (o : Option Int), (∀ x ∈ es, x.ends e → x.k = q) → ((∃ x ∈ es, x.ends e) ∨ o = some q) →
    es.foldl (fun o x => if x.k ≠ 1 ∧ x.p = e.p ∧ x.t = e.t then some x.k else o) o = some q
  | [], o, _, h => by
    rcases h with ⟨x, hx, _⟩ | h
    · simp at hx
    · exact h
  | x :: r, o, hall, h => by
    rw [List.foldl_cons]
    refine fold_hit e q r _ (fun y hy => hall y (by simp [hy])) ?_
    by_cases hx : x.ends e
    · right
      rw [if_pos (show x.k ≠ 1 ∧ x.p = e.p ∧ x.t = e.t from hx), hall x (by simp) hx]
    · rw [if_neg (show ¬ (x.k ≠ 1 ∧ x.p = e.p ∧ x.t = e.t) from hx)]
      rcases h with ⟨y, hy, hye⟩ | h
      · rcases List.mem_cons.1 hy with rfl | hy
        · exact absurd hye hx
        · exact .inl ⟨y, hy, hye⟩
      · exact .inr h

theorem fate_of (es : List Ent) (e : Ent) (q : Int) (hall : ∀ x ∈ es, x.ends e → x.k = q) (hex : ∃ x ∈ es, x.ends e) : fate es e.p e.t = some q :=
  fold_hit e q es none hall (.inl hex)

theorem settled_ok {s : LogS} (h : Inv s) : AllSettled s s.stable := by
  intro i e hi he hk
  obtain ⟨m, x, h1, h2, h3⟩ := h.closed i e he hk (not_blocked hi he hk)
  have hx := List.mem_of_getElem? h2
  have hall : ∀ y ∈ s.es, y.ends e → y.k = x.k := fun y hy hye => h.uniq y hy x hx hye.1 h3.1 (hye.2.1.trans h3.2.1.symm) (hye.2.2.trans h3.2.2.symm)
  refine ⟨x.k, ?_, fate_of _ _ _ hall ⟨x, hx, h3⟩, ⟨m, x, h1, h2, h3⟩, hall⟩
  rcases h.kinds x hx with e1 | e1 | e1 <;> rw [e1] <;> decide

theorem got_cnt (s : LogS) : ∀ k, k ≤ s.es.length → (s.got 0 k).length ≤ cnt (s.es.take k)
  | 0, _ => by simp [LogS.got]
  | k + 1, h => by
    have ih := got_cnt s k (by omega)
    have he := List.getElem?_eq_getElem (l := s.es) (i := k) (by omega)
    rw [s.got_succ (by omega), List.take_add_one, he]
    simp only [List.length_append, cnt, List.filter_append, Option.toList_some] at ih ⊢
    have : (s.pick k).length ≤ (List.filter (fun e => decide (e.k = 1)) [s.es[k]]).length := by
      simp only [LogS.pick, he]
      by_cases hk : s.es[k].k = 1
      · simp only [List.filter_cons, hk, decide_true, if_true, List.filter_nil, List.length_cons, List.length_nil]
        split <;> simp
      · simp [LogS.picks, hk]
    omega

theorem fetch_all {s : LogS} (h : Inv s) : s.fetch 0 1000 = s.got 0 s.stable := by
  unfold LogS.fetch
  rw [show LogS.start 0 = 0 by simp [LogS.start]]
  refine List.take_of_length_le ?_
  have h1 := got_cnt s s.stable s.stable_le
  have h2 : cnt (s.es.take s.stable) ≤ cnt s.es := by
    unfold cnt
    exact (List.Sublist.filter _ (List.take_sublist _ _)).length_le
  have := h.d
  have := h.most
  show _ ≤ (1000 : Int).toNat
  simp
  omega

end Go.Proofs.Ytkelpcjiediamaa
