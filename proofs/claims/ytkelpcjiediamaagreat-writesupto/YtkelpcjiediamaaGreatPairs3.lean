/-
  Both heralds know the same behind Add, Produce, Out, Break, Crash, Restart.
-/
import Derived.Test.YtkelpcjiediamaaGreatMPairs2
namespace Go.Proofs.YtkelpcjiediamaaGreat
open Go.RowKit Go.Maps

section
variable {N : Nat} {h h' : HS} {y y' : RS} {tl : List UInt8} {r : Rc}

theorem set_pick {α : Type} {l : List α} {k i : Nat} {v a : α} (hi : (l.set k v)[i]? = some a) : (i = k ∧ a = v) ∨ (i ≠ k ∧ l[i]? = some a) := by
  by_cases e : i = k
  · subst e
    have hl : i < (l.set i v).length := (List.getElem?_eq_some_iff.1 hi).1
    rw [List.length_set] at hl
    rw [List.getElem?_set_self hl] at hi
    exact .inl ⟨rfl, (Option.some.inj hi).symm⟩
  · rw [List.getElem?_set_ne (fun e2 => e e2.symm)] at hi
    exact .inr ⟨e, hi⟩

theorem LogsRel.set {pl : List PL} {G : List GL} {O : List Bool} (l : LogsRel pl G O N) {q : Nat} {p p' : PL} {g' : GL} (hp : pl[q]? = some p) (hr : Rel p'.s g'.L) (hl : g'.L.length ≤ N + 1) (ho : p'.out = p.out) : LogsRel (pl.set q p') (G.set q g') O (N + 1) := by
  refine ⟨by rw [List.length_set, List.length_set]; exact l.len, fun j a b ha hb => ?_, fun j a ha => ?_⟩
  · rcases set_pick ha with ⟨e1, rfl⟩ | ⟨e1, ha'⟩ <;> rcases set_pick hb with ⟨e2, rfl⟩ | ⟨e2, hb'⟩
    · exact ⟨hr, hl⟩
    · exact absurd e1 e2
    · exact absurd e2 e1
    · have := l.rel j a b ha' hb'
      exact ⟨this.1, by omega⟩
  · rcases set_pick ha with ⟨e1, rfl⟩ | ⟨e1, ha'⟩
    · rw [ho, e1]; exact l.out q p hp
    · exact l.out j a ha'

theorem Opn.set {pl : List PL} {L : List Rc} {P : Int} (o : Opn pl L P) {q : Nat} {p' : PL} (hn : ∀ i t, p'.s.nw i = some (t, true) → 0 ≤ i ∧ i < P ∧ 1 ≤ (stand L i).s ∧ (stand L i).t = t ∧ (q : Int) ∈ (stand L i).ps) : Opn (pl.set q p') L P := by
  intro j a ha i t hi
  rcases set_pick ha with ⟨e1, rfl⟩ | ⟨e1, ha'⟩
  · rw [e1]; exact hn i t hi
  · exact o j a ha' i t hi

theorem opened_nw {s : LogS} {i t0 j t : Int} (h : (s.opened i t0).nw j = some (t, true)) : s.nw j = some (t, true) ∨ (j = i ∧ t = t0) := by
  unfold LogS.opened at h
  split at h
  · unfold LogS.set at h
    simp only at h
    split at h
    · rename_i e
      simp only [Option.some.injEq, Prod.mk.injEq, and_true] at h
      exact .inr ⟨e, h.symm⟩
    · exact .inl h
  · exact .inl h

theorem appended_nw {s : LogS} {i t0 : Int} {x : ByteArray} : (s.appended i t0 x).nw = s.nw := by
  unfold LogS.appended
  split <;> rfl

theorem PRel.heard {z : St} {D : List Du} {tm hi i : Int} {x : PS} (p : PRel z D tm hi i x) : PRel z D tm tm i { x with si := 0 } :=
  ⟨p.e, p.t, p.s, p.none, p.some, p.few, p.due, fun _ => by simp only; omega⟩

/-- A producer is heard. -/
theorem UpRel.heard (u : UpRel h y) {i : Nat} {x : PS} (hx : h.ps[i]? = some x) : UpRel (h.setP i { x with si := 0 }) (y.setH i y.tm) := by
  refine ⟨u.up, u.dn, u.br, u.kp, fun j a hi ha hh => ?_, u.dr⟩
  show PRel (stand y.L j) y.D y.tm hi j a
  rcases set_pick ha with ⟨e1, rfl⟩ | ⟨e1, ha'⟩
  · subst e1
    have hl : j < (y.H.set j y.tm).length := (List.getElem?_eq_some_iff.1 hh).1
    have hl2 : j < y.H.length := by rwa [List.length_set] at hl
    have e2 : hi = y.tm := by
      have : (y.H.set j y.tm)[j]? = some hi := hh
      rw [List.getElem?_set_self hl2] at this
      exact (Option.some.inj this).symm
    subst e2
    exact (u.rel j x y.H[j] hx (List.getElem?_eq_getElem hl2)).heard
  · have : (y.H.set i y.tm)[j]? = some hi := hh
    rw [List.getElem?_set_ne (fun e => e1 e.symm)] at this
    exact u.rel j a hi ha' this

/-- The core where a log turns and a producer is heard. -/
theorem Core.log (c : Core N h y []) {q : Nat} {p p' : PL} {g' : GL} (hp : h.pl[q]? = some p) (hr : Rel p'.s g'.L) (hl : g'.L.length ≤ N + 1) (ho : p'.out = p.out) (hn : ∀ i t, p'.s.nw i = some (t, true) → 0 ≤ i ∧ i < h.P ∧ 1 ≤ (stand y.L i).s ∧ (stand y.L i).t = t ∧ (q : Int) ∈ (stand y.L i).ps) : Core (N + 1) (h.setL q p') (y.setG q g') [] := by
  have := c.tm.2
  exact ⟨c.P, c.Q, c.T, c.K, c.P1, c.Q1, c.valid, Nat.le_succ_of_le c.few, c.jb, c.t16, c.torn, c.kp, c.logs.set hp hr hl ho, c.opn.set hn, c.fl, c.fl100, c.hl, ⟨c.tm.1, by show y.tm ≤ ((N + 1 : Nat) : Int); omega⟩, c.dl⟩

theorem Core.heard {M : Nat} (c : Core M h y []) {i : Nat} {x : PS} : Core M (h.setP i x) (y.setH i y.tm) [] :=
  ⟨c.P, c.Q, c.T, c.K, c.P1, c.Q1, c.valid, c.few, c.jb, c.t16, c.torn, c.kp, c.logs, c.opn, c.fl, c.fl100, by show ((y.H.set i y.tm).length : Int) = h.P; rw [List.length_set]; exact c.hl, c.tm, c.dl⟩

/-- Add, where the transaction has the part. -/
theorem know_again (c : Core N h y []) (u : UpRel h y) {i q : Nat} {x : PS} {p : PL} {g : GL} {v' u' : Value} (hi : (i : Int) < h.P) (hx : h.ps[i]? = some x) (hp : h.pl[q]? = some p) (hg : y.G[q]? = some g) (hs : (stand y.L i).s = 1) (hin : (q : Int) ∈ (stand y.L i).ps) (hN : N ≤ 100000000) (hxt : x.t = (stand y.L i).t) :
    Know (N + 1) ((h.setL q ⟨p.lb, p.bm, v', p.s.opened i x.t, p.out⟩).setP i { x with si := 0 }) ((y.setG q ⟨g.yb, u', rOpened g.L i (stand y.L i).t⟩).setH i y.tm) := by
  have hf := c.valid.fine i
  have hfew := c.few
  have hi6 := c.P1.2
  have hrel := c.logs.rel q p g hp hg
  have hI : I64 (i : Int) := i64_of (by omega) (by omega)
  have hT : I64 (stand y.L i).t := i64_of (by have := hf.t0; omega) (by have := hf.t1; omega)
  have hc := c.log (p' := ⟨p.lb, p.bm, v', p.s.opened i x.t, p.out⟩) (g' := ⟨g.yb, u', rOpened g.L i (stand y.L i).t⟩) hp (by rw [hxt]; exact hrel.1.opened i _ hI hT) (by have := rOpened_len g.L i (stand y.L i).t; simp only; omega) rfl (fun j t hj => by
    rcases opened_nw hj with e | ⟨e1, e2⟩
    · exact c.opn q p hp j t e
    · subst e1 e2
      exact ⟨by omega, hi, by omega, hxt.symm, hin⟩)
  have u2 : UpRel (h.setL q ⟨p.lb, p.bm, v', p.s.opened i x.t, p.out⟩) (y.setG q ⟨g.yb, u', rOpened g.L i (stand y.L i).t⟩) := ⟨u.up, u.dn, u.br, u.kp, u.rel, u.dr⟩
  exact .up hc.heard (u2.heard hx)

/-- Produce, where the text is put. -/
theorem know_put (c : Core N h y []) (u : UpRel h y) {i q : Nat} {x : PS} {p : PL} {g : GL} {v' u' : Value} {ts : ByteArray} (hi : (i : Int) < h.P) (hx : h.ps[i]? = some x) (hp : h.pl[q]? = some p) (hg : y.G[q]? = some g) (hN : N ≤ 100000000) (hxt : x.t = (stand y.L i).t) :
    Know (N + 1) ((h.setL q ⟨p.lb, p.bm, v', p.s.appended i x.t ts, p.out⟩).setP i { x with si := 0 }) ((y.setG q ⟨g.yb, u', rAppended g.L i (stand y.L i).t ts⟩).setH i y.tm) := by
  have hf := c.valid.fine i
  have hfew := c.few
  have hi6 := c.P1.2
  have hrel := c.logs.rel q p g hp hg
  have hI : I64 (i : Int) := i64_of (by omega) (by omega)
  have hT : I64 (stand y.L i).t := i64_of (by have := hf.t0; omega) (by have := hf.t1; omega)
  have hc := c.log (p' := ⟨p.lb, p.bm, v', p.s.appended i x.t ts, p.out⟩) (g' := ⟨g.yb, u', rAppended g.L i (stand y.L i).t ts⟩) hp (by rw [hxt]; exact hrel.1.appended i _ ts hI hT) (by have := rAppended_len g.L i (stand y.L i).t ts; simp only; omega) rfl (fun j t hj => by
    have hj' : (p.s.appended i x.t ts).nw j = some (t, true) := hj
    rw [appended_nw] at hj'
    exact c.opn q p hp j t hj')
  have u2 : UpRel (h.setL q ⟨p.lb, p.bm, v', p.s.appended i x.t ts, p.out⟩) (y.setG q ⟨g.yb, u', rAppended g.L i (stand y.L i).t ts⟩) := ⟨u.up, u.dn, u.br, u.kp, u.rel, u.dr⟩
  exact .up hc.heard (u2.heard hx)

/-- .. and where it is not. -/
theorem know_bad (c : Core N h y []) (u : UpRel h y) {i q : Nat} {x : PS} {p : PL} {g : GL} {v' u' : Value} {ts : ByteArray} (hi : (i : Int) < h.P) (hp : h.pl[q]? = some p) (hg : y.G[q]? = some g) (hN : N ≤ 100000000) (hxt : x.t = (stand y.L i).t) :
    Know (N + 1) (h.setL q ⟨p.lb, p.bm, v', p.s.appended i x.t ts, p.out⟩) (y.setG q ⟨g.yb, u', rAppended g.L i (stand y.L i).t ts⟩) := by
  have hf := c.valid.fine i
  have hfew := c.few
  have hi6 := c.P1.2
  have hrel := c.logs.rel q p g hp hg
  have hI : I64 (i : Int) := i64_of (by omega) (by omega)
  have hT : I64 (stand y.L i).t := i64_of (by have := hf.t0; omega) (by have := hf.t1; omega)
  have hc := c.log (p' := ⟨p.lb, p.bm, v', p.s.appended i x.t ts, p.out⟩) (g' := ⟨g.yb, u', rAppended g.L i (stand y.L i).t ts⟩) hp (by rw [hxt]; exact hrel.1.appended i _ ts hI hT) (by have := rAppended_len g.L i (stand y.L i).t ts; simp only; omega) rfl (fun j t hj => by
    have hj' : (p.s.appended i x.t ts).nw j = some (t, true) := hj
    rw [appended_nw] at hj'
    exact c.opn q p hp j t hj')
  exact .up hc ⟨u.up, u.dn, u.br, u.kp, u.rel, u.dr⟩

/-- Add, where a record is written. -/
theorem know_new (c : Core N h y []) (u : UpRel h y) (h6 : h.ps.length = 6) {i q : Nat} {x : PS} {p : PL} {g : GL} {v' u' : Value} {t : Int} {h1 : HS} {y1 : RS} (hi : (i : Int) < h.P) (hx : h.ps[i]? = some x) (hp : h.pl[q]? = some p) (hg : y.G[q]? = some g) (hn : Next h.P h.Q y.L ⟨2, i, q, t⟩) (hN : N ≤ 100000000)
    (ho : WOut h ⟨2, i, q, t⟩ true h1) (hy : YOut y ⟨2, i, q, t⟩ true y1) :
    Know (N + 1) ((h1.setL q ⟨p.lb, p.bm, v', p.s.opened i t, p.out⟩).setP i { x.deed ⟨2, i, q, t⟩ with si := 0 }) ((y1.setG q ⟨g.yb, u', rOpened g.L i t⟩).setH i y.tm) := by
  have hf := c.valid.fine i
  have hfew := c.few
  have hi6 := c.P1.2
  have hrel := c.logs.rel q p g hp hg
  have hsm := hn.small c.valid c.P1.2 c.Q1.2
  have hI : I64 (i : Int) := i64_of (by omega) (by omega)
  have hT : I64 t := i64_of (by have := hsm.m0; simp only at this; omega) (by have := hsm.m1; simp only at this; omega)
  have hst : (stand (y.L ++ [⟨2, i, q, t⟩]) i).s = 1 ∧ (stand (y.L ++ [⟨2, i, q, t⟩]) i).t = t ∧ (q : Int) ∈ (stand (y.L ++ [⟨2, i, q, t⟩]) i).ps := by
    rw [stand_snoc]
    simp [St.step]
  have hk := hn.kind
  simp only at hk
  have hk2 : (0 ≤ (q : Int) ∧ (q : Int) < h.Q) ∧ ((stand y.L i).s = 0 ∨ (stand y.L i).s = 1) := by
    rcases hk with ⟨k1, _⟩ | ⟨_, k2, k3⟩ | ⟨k1, _⟩ | ⟨k1, _⟩
    · omega
    · refine ⟨k2, ?_⟩
      rcases k3 with ⟨k3, _⟩ | ⟨k3, _⟩
      · exact .inl k3
      · exact .inr k3
    · omega
    · omega
  cases ho with
  | ok jv hb =>
    cases hy with
    | ok lv hb2 =>
      have hopn := c.opn.snoc hn (fun e => by simp at e)
      have hD24 := c.dl
      have hc0 := c.wrote hn (fun e => by simp at e) jv lv (deedAll h.ps ⟨2, i, q, t⟩) y.D hD24 y.dv
      have hll := c.logs.set (p' := ⟨p.lb, p.bm, v', p.s.opened i t, p.out⟩) (g' := ⟨g.yb, u', rOpened g.L i t⟩) hp (hrel.1.opened i _ hI hT) (by have := rOpened_len g.L i t; simp only; omega) rfl
      refine .up ⟨c.P, c.Q, c.T, c.K, c.P1, c.Q1, hc0.valid, hc0.few, hc0.jb, hc0.t16, hc0.torn, c.kp, hll, ?_, c.fl, c.fl100, ?_, hc0.tm, c.dl⟩ ⟨u.up, u.dn, u.br, u.kp, fun j a hj ha hh => ?_, u.dr⟩
      · refine Opn.set hopn (fun j s hj => ?_)
        rcases opened_nw hj with e | ⟨e1, e2⟩
        · exact hopn q p hp j s e
        · subst e1 e2
          exact ⟨by omega, hi, by omega, hst.2.1, hst.2.2⟩
      · show ((y.H.set i y.tm).length : Int) = h.P
        rw [List.length_set]; exact c.hl
      · show PRel (stand (y.L ++ [⟨2, i, q, t⟩]) j) y.D y.tm hj j a
        rw [stand_snoc]
        have ha' : ((deedAll h.ps ⟨2, i, q, t⟩).set i { x.deed ⟨2, i, q, t⟩ with si := 0 })[j]? = some a := ha
        rcases set_pick ha' with ⟨e1, rfl⟩ | ⟨e1, ha2⟩
        · subst e1
          have hl : j < (y.H.set j y.tm).length := (List.getElem?_eq_some_iff.1 hh).1
          have hl2 : j < y.H.length := by rwa [List.length_set] at hl
          have e2 : hj = y.tm := by
            have : (y.H.set j y.tm)[j]? = some hj := hh
            rw [List.getElem?_set_self hl2] at this
            exact (Option.some.inj this).symm
          subst e2
          have h0 := u.rel j x y.H[j] hx (List.getElem?_eq_getElem hl2)
          have h1 : PRel (stand y.L j) y.D y.tm y.tm j { x with si := 0 } := h0.heard
          have h2 := h1.add (r := ⟨2, j, q, t⟩) rfl rfl ⟨by simp only; omega, by have := c.Q1.2; simp only; omega⟩ hk2.2 0 (by omega)
          have e3 : ({ ({ x with si := 0 } : PS).deed ⟨2, j, q, t⟩ with si := 0 } : PS) = { x.deed ⟨2, j, q, t⟩ with si := 0 } := by
            simp only [PS.deed]
            unfold PS.tie
            simp only [show ((2 : Int) = 1) = False by simp, if_false, if_true]
            split
            · rfl
            · split
              · rfl
              · split <;> rfl
          rw [e3] at h2
          exact h2
        · have h5 : (y.H.set i y.tm)[j]? = some hj := hh
          rw [List.getElem?_set_ne (fun e => e1 e.symm)] at h5
          rcases deedAll_get ha2 hn.p0 (by show (i : Int) < 6; omega) h6 with ⟨x0, h0, e, _⟩ | ⟨e, h0⟩
          · have : (i : Int) = j := e
            omega
          · exact (u.rel j a hj h0 h5).other (r := ⟨2, i, q, t⟩) e rfl

/-- Out. -/
theorem know_out (k : Know N h y) {q : Nat} {p : PL} (hp : h.pl[q]? = some p) (o : Bool) : Know N (h.setL q { p with out := o }) (y.setO q o) := by
  have key : ∀ tl, Core N h y tl → Core N (h.setL q { p with out := o }) (y.setO q o) tl := fun tl c => by
    refine ⟨c.P, c.Q, c.T, c.K, c.P1, c.Q1, c.valid, c.few, c.jb, c.t16, c.torn, c.kp, ⟨by show (h.pl.set q _).length = _; rw [List.length_set]; exact c.logs.len, fun j a b ha hb => ?_, fun j a ha => ?_⟩, fun j a ha i t hi => ?_, c.fl, c.fl100, c.hl, c.tm, c.dl⟩
    · rcases set_pick ha with ⟨e1, rfl⟩ | ⟨e1, ha'⟩
      · subst e1; exact c.logs.rel j p b hp hb
      · exact c.logs.rel j a b ha' hb
    · show (y.O.set q o)[j]? = some a.out
      rcases set_pick ha with ⟨e1, rfl⟩ | ⟨e1, ha'⟩
      · subst e1
        have := c.logs.out j p hp
        rw [List.getElem?_set_self (List.getElem?_eq_some_iff.1 this).1]
      · rw [List.getElem?_set_ne (fun e => e1 e.symm)]
        exact c.logs.out j a ha'
    · rcases set_pick ha with ⟨e1, rfl⟩ | ⟨e1, ha'⟩
      · subst e1; exact c.opn j p hp i t hi
      · exact c.opn j a ha' i t hi
  cases k with
  | up c u => exact .up (key _ c) ⟨u.up, u.dn, u.br, u.kp, u.rel, u.dr⟩
  | down tl c d => exact .down tl (key _ c) ⟨d.up, d.dn, d.ps, d.br, d.yr⟩

/-- Break. -/
theorem know_break (c : Core N h y []) (u : UpRel h y) (k : Int) : Know N (h.breaks k) (y.breaks k) :=
  .up ⟨c.P, c.Q, c.T, c.K, c.P1, c.Q1, c.valid, c.few, c.jb, c.t16, c.torn, by show 0 ≤ clamp k ∧ clamp k ≤ 16; unfold clamp; omega, c.logs, c.opn, c.fl, c.fl100, c.hl, c.tm, c.dl⟩ ⟨u.up, u.dn, rfl, fun _ => rfl, u.rel, u.dr⟩

/-- Crash. -/
theorem know_crash (c : Core N h y []) : Know N h.fallen { y with dn := true, br := false } :=
  .down [] ⟨c.P, c.Q, c.T, c.K, c.P1, c.Q1, c.valid, c.few, c.jb, c.t16, c.torn, by simp [HS.fallen], c.logs, c.opn, c.fl, c.fl100, c.hl, c.tm, c.dl⟩ ⟨rfl, rfl, rfl, rfl, rfl⟩

theorem riseDues_p (L : List Rc) (tm : Int) (Q : Nat) : ∀ k, ∀ d ∈ riseDues L tm Q k, 0 ≤ d.p ∧ d.p < (k : Int)
  | 0 => by intro d hd; simp [riseDues] at hd
  | k + 1 => by
    intro d hd
    have ih := riseDues_p L tm Q k
    rw [riseDues] at hd
    split at hd
    · rcases List.mem_append.1 hd with hd | hd
      · have := ih d (List.mem_filter.1 hd).1; omega
      · simp only [newDues, List.mem_map] at hd
        obtain ⟨q, _, rfl⟩ := hd
        simp only; omega
    · have := ih d hd; omega

theorem riseDues_filter (L : List Rc) (tm : Int) (Q : Nat) (i : Nat) : ∀ k, i < k → (riseDues L tm Q k).filter (fun d => decide (d.p = (i : Int))) = if 2 ≤ (stand L i).s then newDues i tm (stand L i).ps Q else []
  | 0, h => by omega
  | k + 1, h => by
    rw [riseDues]
    by_cases e : i = k
    · subst e
      have hnone : (riseDues L tm Q i).filter (fun d => decide (d.p = (i : Int))) = [] := by
        rw [List.filter_eq_nil_iff]
        intro d hd
        have := riseDues_p L tm Q i d hd
        simp only [decide_eq_true_eq]; omega
      by_cases h1 : 1 < (stand L i).s
      · rw [if_pos h1, if_pos (by omega), List.filter_append, filter_stays, filter_newDues, List.nil_append]
      · rw [if_neg h1, if_neg (by omega), hnone]
    · have ih := riseDues_filter L tm Q i k (by omega)
      split
      · rw [List.filter_append, filter_other _ _ _ (by omega), filter_newDues_other _ _ _ _ _ (by omega), List.append_nil]
        exact ih
      · exact ih

/-- Restart. -/
theorem know_restart (c : Core N h y tl) (d : DownRel h y) (jv dv : Value) {H : List Int} (hl : H.length = y.H.length) (hs : ∀ j, j < y.H.length → H[j]? = some y.tm) : Know N (h.rose jv y.L) (y.rising y.H.length dv H) := by
  obtain ⟨Qn, hQn⟩ := Int.eq_ofNat_of_zero_le (show 0 ≤ h.Q by have := c.Q1; omega)
  have hQt : y.Q.toNat = Qn := by rw [c.Q]; omega
  have hPl := c.hl
  have hP6 := c.P1.2
  have hup : UpRel (h.rose jv y.L) (y.rising y.H.length dv H) := by
    refine ⟨rfl, rfl, ?_, fun e => ?_, fun i x hi hx hh => ?_, fun q hq => ?_⟩
    · show h.br = y.br
      rw [d.br, d.yr]
    · have : y.br = true := e
      rw [d.yr] at this; cases this
    · show PRel (stand y.L i) (riseDues y.L y.tm y.Q.toNat y.H.length) y.tm hi i x
      have hil : i < H.length := (List.getElem?_eq_some_iff.1 hh).1
      have e : hi = y.tm := by
        have h1 : H[i]? = some hi := hh
        rw [hs i (by omega)] at h1
        exact (Option.some.inj h1).symm
      subst e
      obtain ⟨x', hx', hr⟩ := c.valid.replay c.Q1.2 i (by omega)
      have hxx : (replay y.L)[i]? = some x := hx
      rw [hx'] at hxx
      obtain rfl := Option.some.inj hxx
      have hf := c.valid.fine i
      exact hr.prel (Q := Qn) (by have := c.Q1.2; omega) hf.s0 (fun q hq => by have := hf.ps q hq; omega) (by rw [riseDues_filter _ _ _ i y.H.length (by omega), hQt])
    · have := riseDues_p y.L y.tm y.Q.toNat y.H.length q hq
      show 0 ≤ q.p ∧ q.p < h.P
      omega
  refine .up ⟨c.P, c.Q, c.T, c.K, c.P1, c.Q1, c.valid, c.few, ?_, by simp, ⟨rfl, rfl⟩, c.kp, c.logs, c.opn, c.fl, c.fl100, by show (H.length : Int) = h.P; rw [hl]; exact c.hl, c.tm, ?_⟩ hup
  · show bcs (y.L.flatMap rbytes) = bcs (y.L.flatMap rbytes ++ [])
    rw [List.append_nil]
  · exact hup.dues24 c.P1 (by show (H.length : Int) = h.P; rw [hl]; exact c.hl) (replay_len _)
end

end Go.Proofs.YtkelpcjiediamaaGreat

