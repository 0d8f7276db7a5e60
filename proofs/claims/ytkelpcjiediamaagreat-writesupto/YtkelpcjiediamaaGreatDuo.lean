/-
  What records say, what they do to what the keeper knows, and that the two go together.
-/
import Derived.Test.YtkelpcjiediamaaGreatMYPend
namespace Go.Proofs.YtkelpcjiediamaaGreat
open Go.RowKit Go.Maps

/-- The next record may be this one. -/
structure Next (P Q : Int) (L : List Rc) (r : Rc) : Prop where
  p0 : 0 ≤ r.p
  p1 : r.p < P
  kind : (r.k = 1 ∧ r.a = 0 ∧ r.m = (stand L r.p).e + 1) ∨ (r.k = 2 ∧ (0 ≤ r.a ∧ r.a < Q) ∧ (((stand L r.p).s = 0 ∧ r.m = (stand L r.p).t + 1) ∨ ((stand L r.p).s = 1 ∧ r.m = (stand L r.p).t ∧ r.a ∉ (stand L r.p).ps))) ∨
    (r.k = 3 ∧ (r.a = 0 ∨ r.a = 1) ∧ (stand L r.p).s = 1 ∧ r.m = (stand L r.p).t) ∨ (r.k = 4 ∧ r.a = 0 ∧ 2 ≤ (stand L r.p).s ∧ r.m = (stand L r.p).t)

/-- Records such as a keeper writes. -/
inductive Valid (P Q : Int) : List Rc → Prop
  | nil : Valid P Q []
  | snoc {L : List Rc} {r : Rc} : Valid P Q L → Next P Q L r → Valid P Q (L ++ [r])

/-- What records such as these say of a producer. -/
structure St.Fine (Q : Int) (n : Nat) (x : St) : Prop where
  e0 : 0 ≤ x.e
  e1 : x.e ≤ n
  t0 : 0 ≤ x.t
  t1 : x.t ≤ n
  s0 : 0 ≤ x.s
  s1 : x.s ≤ 3
  ps : ∀ q ∈ x.ps, 0 ≤ q ∧ q < Q
  nd : x.ps.Nodup

section
variable {P Q : Int} {L : List Rc} {r : Rc}

theorem St.step_other {p : Int} (x : St) (h : r.p ≠ p) : x.step p r = x := by simp [St.step, h]

theorem Valid.fine (h : Valid P Q L) : ∀ p, (stand L p).Fine Q L.length := by
  induction h with
  | nil => intro p; exact ⟨by simp [stand, st0], by simp [stand, st0], by simp [stand, st0], by simp [stand, st0], by simp [stand, st0], by simp [stand, st0], by simp [stand, st0], by simp [stand, st0]⟩
  | @snoc L r _ hn ih =>
    intro p
    rw [stand_snoc]
    have f := ih p
    by_cases hp : r.p = p
    · subst hp
      have e1 := f.e1
      have t1 := f.t1
      have e0 := f.e0
      have t0 := f.t0
      rcases hn.kind with ⟨h1, h2, h3⟩ | ⟨h1, h2, h3⟩ | ⟨h1, h2, h3, h4⟩ | ⟨h1, h2, h3, h4⟩
      · have : (stand L r.p).step r.p r = { stand L r.p with e := r.m } := by simp [St.step, h1]
        rw [this]
        exact ⟨by simp only; omega, by simp only [List.length_append, List.length_singleton]; omega, f.t0, by simp only [List.length_append, List.length_singleton]; omega, f.s0, f.s1, f.ps, f.nd⟩
      · have : (stand L r.p).step r.p r = ⟨(stand L r.p).e, r.m, 1, (if (stand L r.p).s = 0 then [] else (stand L r.p).ps) ++ [r.a]⟩ := by simp [St.step, h1]
        rw [this]
        refine ⟨f.e0, by simp only [List.length_append, List.length_singleton]; omega, ?_, ?_, by simp only; omega, by simp only; omega, ?_, ?_⟩
        · simp only; rcases h3 with ⟨_, h3⟩ | ⟨_, h3, _⟩ <;> omega
        · simp only [List.length_append, List.length_singleton]; rcases h3 with ⟨_, h3⟩ | ⟨_, h3, _⟩ <;> omega
        · intro q hq
          rcases List.mem_append.1 hq with hq | hq
          · split at hq
            · simp at hq
            · exact f.ps q hq
          · rw [List.mem_singleton.1 hq]; exact h2
        · rcases h3 with ⟨h3, _⟩ | ⟨h3, _, h4⟩
          · simp [h3]
          · simp only [h3]
            rw [if_neg (by decide)]
            rw [List.nodup_append]
            exact ⟨f.nd, by simp, fun a ha b hb => by rw [List.mem_singleton.1 hb]; intro e; subst e; exact h4 ha⟩
      · have : (stand L r.p).step r.p r = { stand L r.p with s := 3 - r.a } := by simp [St.step, h1]
        rw [this]
        exact ⟨f.e0, by simp only [List.length_append, List.length_singleton]; omega, f.t0, by simp only [List.length_append, List.length_singleton]; omega, by simp only; omega, by simp only; omega, f.ps, f.nd⟩
      · have : (stand L r.p).step r.p r = { stand L r.p with s := 0 } := by simp [St.step, h1]
        rw [this]
        exact ⟨f.e0, by simp only [List.length_append, List.length_singleton]; omega, f.t0, by simp only [List.length_append, List.length_singleton]; omega, by simp, by simp, f.ps, f.nd⟩
    · rw [St.step_other _ hp]
      have e1 := f.e1
      have t1 := f.t1
      exact ⟨f.e0, by simp only [List.length_append, List.length_singleton]; omega, f.t0, by simp only [List.length_append, List.length_singleton]; omega, f.s0, f.s1, f.ps, f.nd⟩

/-- A record's numbers are small. -/
structure Rc.Small (r : Rc) (n : Nat) : Prop where
  k0 : 1 ≤ r.k
  k1 : r.k ≤ 4
  p0 : 0 ≤ r.p
  p1 : r.p < 6
  a0 : 0 ≤ r.a
  a1 : r.a < 4
  m0 : 0 ≤ r.m
  m1 : r.m ≤ n + 1

theorem Next.small (hn : Next P Q L r) (hv : Valid P Q L) (hP : P ≤ 6) (hQ : Q ≤ 4) : r.Small L.length := by
  have f := hv.fine r.p
  have a1 := f.e0
  have a2 := f.e1
  have a3 := f.t0
  have a4 := f.t1
  have b1 := hn.p0
  have b2 := hn.p1
  rcases hn.kind with ⟨h1, h2, h3⟩ | ⟨h1, h2, h3⟩ | ⟨h1, h2, h3, h4⟩ | ⟨h1, h2, h3, h4⟩
  · exact ⟨by omega, by omega, by omega, by omega, by omega, by omega, by omega, by omega⟩
  · refine ⟨by omega, by omega, by omega, by omega, by omega, by omega, ?_, ?_⟩ <;> (rcases h3 with ⟨_, h3⟩ | ⟨_, h3, _⟩ <;> omega)
  · exact ⟨by omega, by omega, by omega, by omega, by omega, by omega, by omega, by omega⟩
  · exact ⟨by omega, by omega, by omega, by omega, by omega, by omega, by omega, by omega⟩

theorem Valid.small (hv : Valid P Q L) (hP : P ≤ 6) (hQ : Q ≤ 4) : ∀ r ∈ L, r.Small L.length := by
  induction hv with
  | nil => intro r hr; simp at hr
  | @snoc L r hv hn ih =>
    intro x hx
    have key : x.Small L.length := by
      rcases List.mem_append.1 hx with hx | hx
      · exact ih x hx
      · rw [List.mem_singleton.1 hx]; exact hn.small hv hP hQ
    have := key.m1
    exact ⟨key.k0, key.k1, key.p0, key.p1, key.a0, key.a1, key.m0, by simp only [List.length_append, List.length_singleton]; omega⟩

theorem Rc.Small.ok {n : Nat} (h : r.Small n) (hn : n < 1000000000000) : r.Ok := by
  obtain ⟨h1, h2, h3, h4, h5, h6, h7, h8⟩ := h
  exact ⟨by omega, by omega, by omega, by omega, by omega, by omega, by omega, by omega⟩
end

/-! what a record does to what the keeper knows -/
def PS.tie (x : PS) (q v : Int) : PS := if q = 0 then { x with a := v } else if q = 1 then { x with b := v } else if q = 2 then { x with c := v } else { x with d := v }
def up2 (v : Int) : Int := if 1 ≤ v then 2 else v

def PS.deed (x : PS) (r : Rc) : PS :=
  if r.k = 1 then { x with e := r.m }
  else if r.k = 2 then ({ x with s := 1, t := r.m } : PS).tie r.a 1
  else if r.k = 3 then { x with s := if r.a = 1 then 2 else 3, a := up2 x.a, b := up2 x.b, c := up2 x.c, d := up2 x.d, wa := 1, ga := 1 }
  else ⟨x.e, x.t, 0, 0, 0, 0, 0, 0, 0, 0⟩

def deedAll (ps : List PS) (r : Rc) : List PS := ps.set r.p.toNat ((ps.getD r.p.toNat zps).deed r)
def replay (L : List Rc) : List PS := L.foldl deedAll zps6

theorem replay_snoc (L : List Rc) (r : Rc) : replay (L ++ [r]) = deedAll (replay L) r := by simp [replay, List.foldl_append]

theorem replay_len (L : List Rc) : (replay L).length = 6 := by
  suffices h : ∀ (L : List Rc) (ps : List PS), ps.length = 6 → (L.foldl deedAll ps).length = 6 from h L zps6 rfl
  intro L
  induction L with
  | nil => intro ps h; exact h
  | cons r L ih => intro ps h; exact ih _ (by simp [deedAll, h])

/-- What the keeper knows of a producer is what the records say; D, tm, hi: the markers that are due, the time, when it was heard. -/
structure PRel (z : St) (D : List Du) (tm hi i : Int) (x : PS) : Prop where
  e : x.e = z.e
  t : x.t = z.t
  s : x.s = z.s
  none : x.s = 0 → x.a = 0 ∧ x.b = 0 ∧ x.c = 0 ∧ x.d = 0
  some : x.s ≠ 0 → ∀ q : Nat, q < 4 → (1 ≤ x.ties.getD q 0 ↔ (q : Int) ∈ z.ps)
  few : ∀ q : Nat, 0 ≤ x.ties.getD q 0 ∧ x.ties.getD q 0 ≤ 2 ∧ (x.s ≤ 1 → x.ties.getD q 0 ≤ 1)
  due : D.filter (fun d => decide (d.p = i)) = (tiedL x.ties 2 4).map fun q => ⟨i, q, tm + x.wa, x.ga⟩
  si : x.s = 1 → x.si = tm - hi

theorem getD4 (p : PS) (q : Nat) (hq : q < 4) : p.ties.getD q 0 = if q = 0 then p.a else if q = 1 then p.b else if q = 2 then p.c else p.d := by
  match q, hq with
  | 0, _ | 1, _ | 2, _ | 3, _ => rfl

theorem ties_of_ge (p : PS) (q : Nat) (hq : 4 ≤ q) : p.ties.getD q 0 = 0 := by
  match q, hq with
  | q + 4, _ => simp [PS.ties]

theorem tiedL_none {ts : List Int} {l : Int} (k : Nat) (h : ∀ q : Nat, ts.getD q 0 < l) : tiedL ts l k = [] := by
  unfold tiedL
  rw [List.map_eq_nil_iff, List.filter_eq_nil_iff]
  intro q _
  have := h q
  simp only [decide_eq_true_eq]
  omega

theorem tie_getD (x : PS) (q : Int) (v : Int) (h0 : 0 ≤ q) (h4 : q < 4) (j : Nat) : (x.tie q v).ties.getD j 0 = if (j : Int) = q then v else x.ties.getD j 0 := by
  by_cases hj : j < 4
  · have hq : q = 0 ∨ q = 1 ∨ q = 2 ∨ q = 3 := by omega
    have hj' : j = 0 ∨ j = 1 ∨ j = 2 ∨ j = 3 := by omega
    rcases hq with rfl | rfl | rfl | rfl <;> rcases hj' with rfl | rfl | rfl | rfl <;> rfl
  · rw [ties_of_ge _ _ (by omega), ties_of_ge _ _ (by omega), if_neg (by omega)]

theorem tie_rest (x : PS) (q v : Int) : (x.tie q v).e = x.e ∧ (x.tie q v).t = x.t ∧ (x.tie q v).s = x.s ∧ (x.tie q v).si = x.si ∧ (x.tie q v).wa = x.wa ∧ (x.tie q v).ga = x.ga := by
  unfold PS.tie
  split
  · simp
  · split
    · simp
    · split <;> simp

section
variable {z : St} {D : List Du} {tm hi i : Int} {x : PS} {r : Rc}

/-- REpoch. -/
theorem PRel.epoch (h : PRel z D tm hi i x) (hp : r.p = i) (hk : r.k = 1) : PRel (z.step i r) D tm hi i (x.deed r) := by
  have e1 : z.step i r = { z with e := r.m } := by simp [St.step, hp, hk]
  have e2 : x.deed r = { x with e := r.m } := by simp [PS.deed, hk]
  rw [e1, e2]
  exact ⟨rfl, h.t, h.s, h.none, h.some, h.few, h.due, h.si⟩

theorem filter_none (h : x.s ≤ 1) (hp : PRel z D tm hi i x) : D.filter (fun d => decide (d.p = i)) = [] := by
  rw [hp.due, tiedL_none 4 (fun q => by have := (hp.few q).2.2 h; omega)]
  rfl

/-- RAdd. -/
theorem PRel.add (h : PRel z D tm hi i x) (hp : r.p = i) (hk : r.k = 2) (ha : 0 ≤ r.a ∧ r.a < 4) (hs : z.s = 0 ∨ z.s = 1) (si' : Int) (hsi : si' = tm - hi) : PRel (z.step i r) D tm hi i { x.deed r with si := si' } := by
  have e1 : z.step i r = ⟨z.e, r.m, 1, (if z.s = 0 then [] else z.ps) ++ [r.a]⟩ := by simp [St.step, hp, hk]
  have e2 : x.deed r = ({ x with s := 1, t := r.m } : PS).tie r.a 1 := by simp [PS.deed, hk]
  have key : ∀ j : Nat, (({ x.deed r with si := si' } : PS).ties.getD j 0) = if (j : Int) = r.a then 1 else x.ties.getD j 0 := fun j => by
    rw [e2]; exact tie_getD _ r.a 1 ha.1 ha.2 j
  obtain ⟨r1, r2, r3, r4, r5, r6⟩ := tie_rest ({ x with s := 1, t := r.m } : PS) r.a 1
  rw [← e2] at r1 r2 r3 r4 r5 r6
  have hxs : x.s ≤ 1 := by have := h.s; omega
  rw [e1]
  refine ⟨r1.trans h.e, r2, r3, fun e => ?_, fun _ q hq => ?_, fun q => ?_, ?_, fun _ => hsi⟩
  · have : (x.deed r).s = 1 := r3
    simp only at e
    omega
  · rw [key q]
    simp only [List.mem_append, List.mem_singleton]
    by_cases hqa : (q : Int) = r.a
    · rw [if_pos hqa]; simp [hqa]
    · rw [if_neg hqa]
      rcases hs with hs | hs
      · have hz := h.none (h.s.trans hs)
        rw [if_pos hs]
        have : x.ties.getD q 0 = 0 := by
          rw [getD4 x q hq]
          simp only [hz]
          split <;> (try split) <;> (try split) <;> rfl
        rw [this]
        simp [hqa]
      · rw [if_neg (by omega), h.some (by have := h.s; omega) q hq]
        simp [hqa]
  · rw [key q]
    have f1 := (h.few q).1
    have f2 := (h.few q).2.2 hxs
    split <;> refine ⟨by omega, by omega, fun _ => by omega⟩
  · rw [filter_none hxs h, tiedL_none 4 (fun q => by rw [key q]; have f2 := (h.few q).2.2 hxs; split <;> omega)]
    rfl

theorem deed_end_getD (hk : r.k = 3) (j : Nat) : (x.deed r).ties.getD j 0 = up2 (x.ties.getD j 0) := by
  have e2 : x.deed r = { x with s := if r.a = 1 then 2 else 3, a := up2 x.a, b := up2 x.b, c := up2 x.c, d := up2 x.d, wa := 1, ga := 1 } := by simp [PS.deed, hk]
  by_cases hj : j < 4
  · have hj' : j = 0 ∨ j = 1 ∨ j = 2 ∨ j = 3 := by omega
    rw [e2]
    rcases hj' with rfl | rfl | rfl | rfl <;> rfl
  · rw [ties_of_ge _ _ (by omega), ties_of_ge _ _ (by omega)]; rfl

theorem filter_stays (D : List Du) (i : Int) : (D.filter (Du.stays i (-1))).filter (fun d => decide (d.p = i)) = [] := by
  rw [List.filter_eq_nil_iff]
  intro d hd
  have := (List.mem_filter.1 hd).2
  simp [Du.stays] at this
  simpa using this

theorem filter_newDues (p t : Int) (ps : List Int) (k : Nat) : (newDues p t ps k).filter (fun d => decide (d.p = p)) = newDues p t ps k := by
  rw [List.filter_eq_self]
  intro d hd
  simp only [newDues, List.mem_map] at hd
  obtain ⟨q, _, rfl⟩ := hd
  simp

/-- The dues of a producer all of whose parts are pending. -/
theorem newDues_tied {ps : List Int} {ts : List Int} {k : Nat} (hk : k ≤ 4) (hq : ∀ q ∈ ps, 0 ≤ q ∧ q < (k : Int)) (h : ∀ q : Nat, q < 4 → (2 ≤ ts.getD q 0 ↔ (q : Int) ∈ ps)) (p t : Int) :
    newDues p t ps k = (tiedL ts 2 4).map fun q => ⟨p, q, t + 1, 1⟩ := by
  have e1 : tiedL ts 2 4 = ((List.range k).filter fun i => decide (2 ≤ ts.getD i 0)).map Int.ofNat := by
    unfold tiedL
    congr 1
    have : List.range 4 = List.range k ++ (List.range (4 - k)).map (k + ·) := by
      rw [← List.range_add]; congr 1; omega
    rw [this, List.filter_append]
    have h2 : ((List.range (4 - k)).map (k + ·)).filter (fun i => decide (2 ≤ ts.getD i 0)) = [] := by
      rw [List.filter_eq_nil_iff]
      intro q hq2
      simp only [List.mem_map, List.mem_range] at hq2
      obtain ⟨j, hj, rfl⟩ := hq2
      simp only [decide_eq_true_eq]
      rw [h (k + j) (by omega)]
      intro hm
      have := (hq _ hm).2
      omega
    rw [h2, List.append_nil]
  rw [e1]
  unfold newDues
  rw [List.map_map]
  have e2 : (List.range k).filter (fun (i : Nat) => decide ((i : Int) ∈ ps)) = (List.range k).filter fun i => decide (2 ≤ ts.getD i 0) := by
    apply List.filter_congr
    intro q hq2
    have := h q (by have := List.mem_range.1 hq2; omega)
    simp only [decide_eq_decide]
    exact this.symm
  rw [e2]
  rfl

/-- REnd. -/
theorem PRel.end_ (h : PRel z D tm hi i x) (hp : r.p = i) (hk : r.k = 3) (ha : r.a = 0 ∨ r.a = 1) (hs : z.s = 1) {Q : Nat} (hQ : Q ≤ 4) (hps : ∀ q ∈ z.ps, 0 ≤ q ∧ q < (Q : Int)) :
    PRel (z.step i r) (D.filter (Du.stays i (-1)) ++ newDues i tm (z.step i r).ps Q) tm hi i (x.deed r) := by
  have e1 : z.step i r = { z with s := 3 - r.a } := by simp [St.step, hp, hk]
  have e2 : x.deed r = { x with s := if r.a = 1 then 2 else 3, a := up2 x.a, b := up2 x.b, c := up2 x.c, d := up2 x.d, wa := 1, ga := 1 } := by simp [PS.deed, hk]
  have hs3 : (x.deed r).s = 3 - r.a := by
    rw [e2]
    rcases ha with ha | ha <;> simp [ha]
  have hwa : (x.deed r).wa = 1 ∧ (x.deed r).ga = 1 := by rw [e2]; exact ⟨rfl, rfl⟩
  have hx1 : x.s ≠ 0 := by have := h.s; omega
  have hge : ∀ q : Nat, (2 ≤ (x.deed r).ties.getD q 0 ↔ 1 ≤ x.ties.getD q 0) := fun q => by
    rw [deed_end_getD hk]
    unfold up2
    have f2 := (h.few q).2.2 (by have := h.s; omega)
    split <;> omega
  rw [e1]
  refine ⟨by rw [e2]; exact h.e, by rw [e2]; exact h.t, hs3, fun e => by omega, fun _ q hq => ?_, fun q => ?_, ?_, fun e => by omega⟩
  · rw [← h.some hx1 q hq, ← hge q, deed_end_getD hk]
    unfold up2
    split <;> omega
  · rw [deed_end_getD hk]
    have f1 := (h.few q).1
    have f2 := (h.few q).2.1
    unfold up2
    refine ⟨by split <;> omega, by split <;> omega, fun e => by omega⟩
  · rw [List.filter_append, filter_stays, filter_newDues, List.nil_append, newDues_tied hQ hps (fun q hq => (hge q).trans (h.some hx1 q hq)), hwa.1, hwa.2]

/-- RDone. -/
theorem PRel.done {D' : List Du} (h : PRel z D tm hi i x) (hp : r.p = i) (hk : r.k = 4) (hD : D'.filter (fun d => decide (d.p = i)) = []) : PRel (z.step i r) D' tm hi i (x.deed r) := by
  have e1 : z.step i r = { z with s := 0 } := by simp [St.step, hp, hk]
  have e2 : x.deed r = ⟨x.e, x.t, 0, 0, 0, 0, 0, 0, 0, 0⟩ := by simp [PS.deed, hk]
  have hz : ∀ q : Nat, (⟨x.e, x.t, 0, 0, 0, 0, 0, 0, 0, 0⟩ : PS).ties.getD q 0 = 0 := fun q => by
    match q with
    | 0 | 1 | 2 | 3 => rfl
    | q + 4 => simp [PS.ties]
  rw [e1, e2]
  refine ⟨h.e, h.t, rfl, fun _ => ⟨rfl, rfl, rfl, rfl⟩, fun e => absurd rfl e, fun q => by rw [hz q]; exact ⟨by omega, by omega, fun _ => by omega⟩, ?_, fun e => by simp at e⟩
  rw [hD, tiedL_none 4 (fun q => by rw [hz q]; omega)]
  rfl

/-- Another producer's. -/
theorem PRel.other {D' : List Du} (h : PRel z D tm hi i x) (hp : r.p ≠ i) (hD : D'.filter (fun d => decide (d.p = i)) = D.filter (fun d => decide (d.p = i))) : PRel (z.step i r) D' tm hi i x := by
  rw [St.step_other _ hp]
  exact ⟨h.e, h.t, h.s, h.none, h.some, h.few, hD.trans h.due, h.si⟩
end

/-! taken up anew -/
/-- What replaying leaves of a producer. -/
structure RRel (z : St) (x : PS) : Prop where
  e : x.e = z.e
  t : x.t = z.t
  s : x.s = z.s
  none : x.s = 0 → x.a = 0 ∧ x.b = 0 ∧ x.c = 0 ∧ x.d = 0
  one : x.s = 1 → ∀ q : Nat, q < 4 → x.ties.getD q 0 = if (q : Int) ∈ z.ps then 1 else 0
  two : 2 ≤ x.s → (∀ q : Nat, q < 4 → x.ties.getD q 0 = if (q : Int) ∈ z.ps then 2 else 0) ∧ x.wa = 1 ∧ x.ga = 1
  si : x.si = 0

theorem RRel.step {P Q : Int} {L : List Rc} {r : Rc} {x : PS} (hn : Next P Q L r) (hQ : Q ≤ 4) (h : RRel (stand L r.p) x) : RRel (stand (L ++ [r]) r.p) (x.deed r) := by
  rw [stand_snoc]
  have hnk := hn.kind
  generalize stand L r.p = z at h hnk ⊢
  rcases hnk with ⟨h1, h2, h3⟩ | ⟨h1, h2, h3⟩ | ⟨h1, h2, h3, h4⟩ | ⟨h1, h2, h3, h4⟩
  · have e1 : z.step r.p r = { z with e := r.m } := by simp [St.step, h1]
    have e2 : x.deed r = { x with e := r.m } := by simp [PS.deed, h1]
    rw [e1, e2]
    exact ⟨rfl, h.t, h.s, h.none, h.one, h.two, h.si⟩
  · have e1 : z.step r.p r = ⟨z.e, r.m, 1, (if z.s = 0 then [] else z.ps) ++ [r.a]⟩ := by simp [St.step, h1]
    have e2 : x.deed r = ({ x with s := 1, t := r.m } : PS).tie r.a 1 := by simp [PS.deed, h1]
    have key : ∀ j : Nat, (x.deed r).ties.getD j 0 = if (j : Int) = r.a then 1 else x.ties.getD j 0 := fun j => by
      rw [e2]; exact tie_getD _ r.a 1 h2.1 (by omega) j
    obtain ⟨r1, r2, r3, r4, r5, r6⟩ := tie_rest ({ x with s := 1, t := r.m } : PS) r.a 1
    rw [← e2] at r1 r2 r3 r4 r5 r6
    rw [e1]
    refine ⟨r1.trans h.e, r2, r3, fun e => by rw [r3] at e; simp at e, fun _ q hq => ?_, fun e => by rw [r3] at e; simp at e, r4.trans h.si⟩
    rw [key q]
    simp only [List.mem_append, List.mem_singleton]
    by_cases hqa : (q : Int) = r.a
    · rw [if_pos hqa, if_pos (.inr hqa)]
    · rw [if_neg hqa]
      rcases h3 with ⟨h3, _⟩ | ⟨h3, _, _⟩
      · have hz := h.none (h.s.trans h3)
        rw [if_pos h3, if_neg (by simp [hqa]), getD4 x q hq]
        simp only [hz]
        split <;> (try split) <;> (try split) <;> rfl
      · rw [h.one (h.s.trans h3) q hq, if_neg (show ¬ z.s = 0 by omega)]
        simp [hqa]
  · have e1 : z.step r.p r = { z with s := 3 - r.a } := by simp [St.step, h1]
    have e2 : x.deed r = { x with s := if r.a = 1 then 2 else 3, a := up2 x.a, b := up2 x.b, c := up2 x.c, d := up2 x.d, wa := 1, ga := 1 } := by simp [PS.deed, h1]
    have hs3 : (x.deed r).s = 3 - r.a := by
      rw [e2]
      rcases h2 with h2 | h2 <;> simp [h2]
    rw [e1]
    refine ⟨by rw [e2]; exact h.e, by rw [e2]; exact h.t, hs3, fun e => by omega, fun e => by omega, fun _ => ⟨fun q hq => ?_, by rw [e2], by rw [e2]⟩, by rw [e2]; exact h.si⟩
    rw [deed_end_getD h1, h.one (h.s.trans h3) q hq]
    unfold up2
    split <;> rfl
  · have e1 : z.step r.p r = { z with s := 0 } := by simp [St.step, h1]
    have e2 : x.deed r = ⟨x.e, x.t, 0, 0, 0, 0, 0, 0, 0, 0⟩ := by simp [PS.deed, h1]
    rw [e1, e2]
    exact ⟨h.e, h.t, rfl, fun _ => ⟨rfl, rfl, rfl, rfl⟩, fun e => by simp at e, fun e => by simp at e, rfl⟩

theorem Valid.replay {P Q : Int} {L : List Rc} (hv : Valid P Q L) (hQ : Q ≤ 4) : ∀ i : Nat, i < 6 → ∃ x, (replay L)[i]? = some x ∧ RRel (stand L i) x := by
  induction hv with
  | nil =>
    intro i hi
    have hz : RRel st0 zps := ⟨rfl, rfl, rfl, fun _ => ⟨rfl, rfl, rfl, rfl⟩, fun e => by simp [zps] at e, fun e => by simp [zps] at e, rfl⟩
    match i, hi with
    | 0, _ | 1, _ | 2, _ | 3, _ | 4, _ | 5, _ => exact ⟨zps, rfl, hz⟩
  | @snoc L r hv hn ih =>
    intro i hi
    rw [replay_snoc]
    have hp0 := hn.p0
    have hp1 := hn.p1
    by_cases e : r.p = i
    · obtain ⟨x, hx, hr⟩ := ih i hi
      have en : r.p.toNat = i := by omega
      refine ⟨x.deed r, ?_, ?_⟩
      · unfold deedAll
        rw [en, List.getElem?_set_self (by rw [replay_len]; exact hi)]
        simp [List.getD, hx]
      · rw [← e] at hr ⊢
        exact hr.step hn hQ
    · obtain ⟨x, hx, hr⟩ := ih i hi
      refine ⟨x, ?_, ?_⟩
      · unfold deedAll
        rw [List.getElem?_set_ne (by omega)]
        exact hx
      · rw [stand_snoc, St.step_other _ e]
        exact hr

theorem getD_ite (x : PS) (l : List Int) (v : Int) (h : ∀ q : Nat, q < 4 → x.ties.getD q 0 = if (q : Int) ∈ l then v else 0) (q : Nat) : x.ties.getD q 0 = 0 ∨ x.ties.getD q 0 = v := by
  by_cases hq : q < 4
  · rw [h q hq]; split
    · exact .inr rfl
    · exact .inl rfl
  · exact .inl (ties_of_ge _ _ (by omega))

/-- Behind a restart the two know the same again. -/
theorem RRel.prel {z : St} {x : PS} {D : List Du} {tm i : Int} (h : RRel z x) {Q : Nat} (hQ : Q ≤ 4) (hs : 0 ≤ z.s) (hps : ∀ q ∈ z.ps, 0 ≤ q ∧ q < (Q : Int)) (hD : D.filter (fun d => decide (d.p = i)) = if 2 ≤ z.s then newDues i tm z.ps Q else []) : PRel z D tm tm i x := by
  have hx := h.s
  refine ⟨h.e, h.t, h.s, h.none, fun e q hq => ?_, fun q => ?_, ?_, fun _ => by rw [h.si]; omega⟩
  · rcases (show x.s = 1 ∨ 2 ≤ x.s by omega) with e1 | e1
    · rw [h.one e1 q hq]; split <;> simp [*]
    · rw [(h.two e1).1 q hq]; split <;> simp [*]
  · rcases (show x.s = 0 ∨ x.s = 1 ∨ 2 ≤ x.s by omega) with e1 | e1 | e1
    · have hz := h.none e1
      have : x.ties.getD q 0 = 0 := by
        by_cases hq : q < 4
        · rw [getD4 x q hq]; simp only [hz]; split <;> (try split) <;> (try split) <;> rfl
        · exact ties_of_ge _ _ (by omega)
      rw [this]; exact ⟨by omega, by omega, fun _ => by omega⟩
    · rcases getD_ite x z.ps 1 (h.one e1) q with e2 | e2 <;> (rw [e2]; exact ⟨by omega, by omega, fun _ => by omega⟩)
    · rcases getD_ite x z.ps 2 (h.two e1).1 q with e2 | e2 <;> (rw [e2]; exact ⟨by omega, by omega, fun _ => by omega⟩)
  · rw [hD]
    rcases (show x.s = 0 ∨ x.s = 1 ∨ 2 ≤ x.s by omega) with e1 | e1 | e1
    · have hz := h.none e1
      rw [if_neg (by omega), tiedL_none 4 (fun q => ?_)]
      · rfl
      · by_cases hq : q < 4
        · rw [getD4 x q hq]; simp only [hz]; split <;> (try split) <;> (try split) <;> omega
        · rw [ties_of_ge _ _ (by omega)]; omega
    · rw [if_neg (by omega), tiedL_none 4 (fun q => ?_)]
      · rfl
      · rcases getD_ite x z.ps 1 (h.one e1) q with e2 | e2 <;> omega
    · rw [if_pos (by omega), newDues_tied hQ hps (fun q hq => ?_), (h.two e1).2.1, (h.two e1).2.2]
      rw [(h.two e1).1 q hq]; split <;> simp [*]

end Go.Proofs.YtkelpcjiediamaaGreat

