/-
  The program's Restart, Out, Journal in every state.
-/
import Derived.Test.YtkelpcjiediamaaGreatRise2
import Derived.Test.YtkelpcjiediamaaGreatMYProd
import Derived.Test.YtkelpcjiediamaaGreatYProdr
import Derived.Test.YtkelpcjiediamaaGreatMJWhole
namespace Go.Proofs.YtkelpcjiediamaaGreat
open Go.RowKit Go.Maps

section
variable {w w' : World} {B xb n : Nat} {h : HS}

theorem restart_any (hh : HAt w B xb n h) (hu : h.up = false) (hz : h.ps = zps6) {L : List Rc} {tl : List UInt8} (hJ : Jour h L tl) :
    Calls Tryz.prog 29 #[.pointer (some ⟨xb, 0, none⟩)] w fun r w' => r = .returned (.int .i64 0) ∧ ∃ jv, Moved w w' B xb n h n (h.rose jv L) := by
  have HC : Hid (Calls Tryz.prog 68 #[.pointer (some ⟨xb, 4, none⟩)] w fun r w' => r = .returned (.tuple #[]) ∧ ∃ jv, HAt w' B xb n (h.rose jv L) ∧ Fr (fun k => k = xb) w w' ∧ jv.ownBlock = h.jv.ownBlock) := rise_any hh hz hJ
  have c5 := hh.cU
  rw [hu] at c5
  clear hh hJ hz
  go_enter Tryz.func29, Tryz.ntmps29
  go_wp2_with (go_at_call 68; refine HC.out.mono ?_; rintro e w1 ⟨rfl, jv, h1, h2, h3⟩; have H1 : Hid (HAt w1 B xb n (h.rose jv L) ∧ Fr (fun k => k = xb) w w1 ∧ jv.ownBlock = h.jv.ownBlock) := ⟨h1, h2, h3⟩; clear h1 h2 h3)
  go_ret
  refine ⟨rfl, jv, Moved.own H1.out.2.1 H1.out.1 (fun k hk => ?_)⟩
  rcases hk with e | e | e
  · exact .inl e
  · exact .inr (.inl (by rw [← H1.out.2.2]; exact e))
  · exact .inr (.inr e)

/-! Journal -/
theorem bytes_push (l : List UInt8) : ∀ s : ByteArray, ((l.map fun b => (b.toNat : Int)).foldl (fun r n => r.push (UInt8.ofNat n.toNat)) s).data.toList = s.data.toList ++ l := by
  induction l with
  | nil => intro s; simp
  | cons b l ih =>
    intro s
    simp only [List.map_cons, List.foldl_cons]
    rw [ih]
    simp [ByteArray.push]

theorem conv_bytes {v : Value} {bs : List UInt8} (hr : w.ownsRow B 5 1 v (bcs bs).length (bcs bs)) : ∃ s, Txt s bs ∧ (convert 99 9 v).run Tryz.prog w = .ok (.string s) w := by
  rcases hr.2 with ⟨rfl, h0⟩ | ⟨g, cap, cur, rfl, _⟩
  · have : bs = [] := by rw [bcs_len] at h0; exact List.length_eq_zero_iff.1 h0
    subst this
    exact ⟨⟨#[]⟩, ⟨rfl, rfl⟩, conv_nil w⟩
  · have hc := hr.cells (g := g) rfl
    have hl := run_loadCells_list (P := Tryz.prog) (w := w) ⟨g, 0, none⟩ (bcs bs) hc
    have e1 : bcs bs = (bs.map fun b => (b.toNat : Int)).map (Value.int .u8) := by simp [bcs]
    refine ⟨(bs.map fun b => (b.toNat : Int)).foldl (fun r n => r.push (UInt8.ofNat n.toNat)) ByteArray.empty, ?_, ?_⟩
    · have h1 := bytes_push bs ByteArray.empty
      have h2 : ((bs.map fun b => (b.toNat : Int)).foldl (fun r n => r.push (UInt8.ofNat n.toNat)) ByteArray.empty).data.toList = bs := by rw [h1]; simp
      refine ⟨h2, ?_⟩
      have h3 := congrArg List.length h2
      simpa using h3
    · rw [run_convert_bytes_string w 99 9 5 _ _ _ Tryz.underlying99 Tryz.underlying5 Tryz.underlying9]
      exact run_bytesToString w ⟨g, 0, none⟩ _ cap (bs.map fun b => (b.toNat : Int)) (by rw [← e1]; exact hl)

set_option maxRecDepth 100000 in
theorem journal_any (hh : HAt w B xb n h) {bs : List UInt8} (hj : h.jb = bcs bs) :
    Calls Tryz.prog 26 #[.pointer (some ⟨xb, 0, none⟩)] w fun r w' => (∃ s, Txt s bs ∧ r = .returned (.string s)) ∧ Fr (fun _ => False) w w' := by
  have c4 := hh.cJ
  have hr := hh.jour
  rw [hj] at hr
  obtain ⟨s, hs, hcv⟩ := conv_bytes hr
  obtain ⟨ja, jc, hv, _⟩ := anyRow_len hr
  rw [hv] at c4 hcv
  have HS : Hid (Txt s bs) := hs
  clear hh hj hr hs
  go_enter Tryz.func26, Tryz.ntmps26
  go_wp2
  go_ret
  exact ⟨⟨s, HS.out, rfl⟩, Fr.refl _ _⟩

/-! Out -/
theorem plCells_setOut : ∀ (l : List PL) (k : Nat) (p : PL) (o : Bool), l[k]? = some p → plCells (l.set k { p with out := o }) = (plCells l).set (k * 2 + 1) (.bool o)
  | [], k, p, o, h => by simp at h
  | x :: r, 0, p, o, h => by
    simp only [List.getElem?_cons_zero, Option.some.injEq] at h
    subst h
    simp [plCells, PL.cs]
  | x :: r, k + 1, p, o, h => by
    simp only [List.getElem?_cons_succ] at h
    have := plCells_setOut r k p o h
    simp only [plCells, List.set_cons_succ, List.flatMap_cons] at this ⊢
    rw [this, List.set_append_right _ _ (by simp [PL.cs]; omega)]
    congr 2
    simp [PL.cs]; omega

theorem PlApart.out {pl : List PL} (h : PlApart pl) {k : Nat} {p : PL} (hk : pl[k]? = some p) (o : Bool) : PlApart (pl.set k { p with out := o }) := by
  have hkl := (List.getElem?_eq_some_iff.1 hk).1
  have pick : ∀ {i : Nat} {a : PL}, (pl.set k { p with out := o })[i]? = some a → ∃ a', pl[i]? = some a' ∧ a'.lb = a.lb ∧ a'.bm = a.bm ∧ a'.v = a.v := fun {i a} hi => by
    by_cases e : i = k
    · subst e
      rw [List.getElem?_set_self hkl] at hi
      obtain rfl := (Option.some.inj hi)
      exact ⟨p, hk, rfl, rfl, rfl⟩
    · rw [List.getElem?_set_ne (fun e2 => e e2.symm)] at hi
      exact ⟨a, hi, rfl, rfl, rfl⟩
  intro i j a b hij hi hj x h1 h2
  obtain ⟨a', ha, e1, e2, e3⟩ := pick hi
  obtain ⟨b', hb, f1, f2, f3⟩ := pick hj
  exact h i j a' b' hij ha hb x (by rw [e1, e2, e3]; exact h1) (by rw [f1, f2, f3]; exact h2)

theorem out_none (hh : HAt w B xb n h) {m : Int} (hm : ¬ (0 ≤ m ∧ m < h.pl.length)) (o : Bool) :
    Calls Tryz.prog 52 #[.pointer (some ⟨xb, 0, none⟩), .int .i64 m, .bool o] w fun r w' => r = .returned (.int .i64 3) ∧ w = w' := by
  have HH : Hid (HAt w B xb n h) := hh
  have HM : Hid (decide (0 ≤ m ∧ m < h.pl.length) = false) := decide_eq_false hm
  clear hh hm
  go_enter Tryz.func52, Tryz.ntmps52
  go_wp2_with (go_at_call 50; refine (hasPart_any HH.out m).mono ?_; rw [HM.out]; rintro e w1 ⟨rfl, rfl⟩)
  go_ret
  exact ⟨rfl, rfl⟩

set_option maxRecDepth 100000 in
theorem out_ok (hh : HAt w B xb n h) {q : Nat} {p : PL} (hp : h.pl[q]? = some p) (o : Bool) :
    Calls Tryz.prog 52 #[.pointer (some ⟨xb, 0, none⟩), .int .i64 q, .bool o] w fun r w' => r = .returned (.int .i64 0) ∧ Moved w w' B xb n h n (h.setL q { p with out := o }) := by
  have HH : Hid (HAt w B xb n h) := hh
  have hq := (List.getElem?_eq_some_iff.1 hp).1
  have HM : Hid (decide (0 ≤ (q : Int) ∧ (q : Int) < h.pl.length) = true) := decide_eq_true ⟨by omega, by omega⟩
  have HP : Hid (h.pl[q]? = some p) := hp
  obtain ⟨g, cap, hpv, hg, hcap, c0, c1⟩ := hh.place hp
  have HPV : Hid (h.pv = .slice (some ⟨g, 0, none⟩) h.pl.length cap) := hpv
  have cV := hh.cV
  rw [hpv] at cV
  have gf : ∀ o, w.frozen? ⟨g, o, none⟩ = false := by
    have hr := hh.places
    rw [hpv] at hr
    exact fun o => hr.frozenAt o
  have hq0 : (0 : Int) ≤ (q : Int) := by omega
  have hq1 : (q : Int) < h.pl.length := by omega
  clear hh hp hpv
  go_enter Tryz.func52, Tryz.ntmps52
  go_wp2_with (go_at_call 50; refine (hasPart_any HH.out q).mono ?_; rw [HM.out]; rintro e w1 ⟨rfl, rfl⟩)
  go_ret
  have hr := HH.out.places
  rw [HPV.out] at hr
  have hs := ownsRow_set hr (j := q * 2 + 1) (by omega) (.bool o)
  have fs : Fr (fun k => h.pv.ownBlock = some k) w (w.setCell ⟨g, q * 2 + 1, none⟩ (.bool o)) := (Fr.refl (fun k => h.pv.ownBlock = some k) w).setCell (p := ⟨g, q * 2 + 1, none⟩) (.inl (by rw [HPV.out]; rfl)) _
  have hh := HH.out
  have row : ∀ {ty : TypeId} {wd : Nat} {v : Value} {k : Nat} {xs : List Value}, w.ownsRow B ty wd v k xs → ty ≠ 98 → (w.setCell ⟨g, q * 2 + 1, none⟩ (.bool o)).ownsRow B ty wd v k xs := fun ho h5 => fs.ownsRow ho (fun q hq e => by
    have t0 := tag_row ho hq
    rw [tag_row hh.places e] at t0
    exact h5 t0.symm)
  have hat : HAt (w.setCell ⟨g, q * 2 + 1, none⟩ (.bool o)) B xb n (h.setL q { p with out := o }) := by
    refine ⟨(fs.block xb (lt_of_block hh.blk) hh.ne_p).trans hh.blk, row hh.jour (by decide), ?_, row hh.flight (by decide), fun a ha => ?_, hh.hx, hh.hP, ?_, hh.h6⟩
    · show (w.setCell ⟨g, q * 2 + 1, none⟩ (.bool o)).ownsRow B 98 2 h.pv (h.pl.set q { p with out := o }).length (plCells (h.pl.set q { p with out := o }))
      rw [List.length_set, plCells_setOut h.pl q p o HP.out, HPV.out]
      exact hs
    · have hm : ∃ a' ∈ h.pl, a'.lb = a.lb ∧ a'.bm = a.bm ∧ a'.v = a.v ∧ a'.s = a.s := by
        rcases List.mem_or_eq_of_mem_set ha with e | e
        · exact ⟨a, e, rfl, rfl, rfl, rfl⟩
        · exact ⟨p, List.mem_of_getElem? HP.out, by rw [e], by rw [e], by rw [e], by rw [e]⟩
      obtain ⟨a', h1, h2, h3, h4, h5⟩ := hm
      rw [← h2, ← h3, ← h4, ← h5]
      refine (hh.logs a' h1).stay fs (fun k e hf => ?_)
      have t0 := tag_row hh.places e
      rcases (hh.logs a' h1).tags hf with t1 | t1 | t1 <;> rw [t0] at t1 <;> cases t1
    · show h.Q = ((h.pl.set q _).length : Int) ∧ _
      rw [List.length_set]
      exact hh.hQ
  refine ⟨rfl, hat, fs.mono (fun k e => .inl (.inr (.inr (.inl e)))), fun k hk => ?_⟩
  rcases hk with e | e | e | e | ⟨a, ha, hf⟩
  · exact .inl (.inl e)
  · exact .inl (.inr (.inl e))
  · exact .inl (.inr (.inr (.inl e)))
  · exact .inl (.inr (.inr (.inr (.inl e))))
  · rcases List.mem_or_eq_of_mem_set ha with e | e
    · exact .inl (.inr (.inr (.inr (.inr ⟨a, e, hf⟩))))
    · subst e
      exact .inl (.inr (.inr (.inr (.inr ⟨p, List.mem_of_getElem? HP.out, hf⟩))))
end

end Go.Proofs.YtkelpcjiediamaaGreat

/-
  The two heralds know the same: what is held of both, and what each step does to it.
-/
namespace Go.Proofs.YtkelpcjiediamaaGreat
open Go.RowKit Go.Maps

/-- Whose transactions are open in the logs. -/
def Opn (pl : List PL) (L : List Rc) (P : Int) : Prop :=
  ∀ (q : Nat) (p : PL), pl[q]? = some p → ∀ i t, p.s.nw i = some (t, true) → 0 ≤ i ∧ i < P ∧ 1 ≤ (stand L i).s ∧ (stand L i).t = t ∧ (q : Int) ∈ (stand L i).ps

/-- The logs of both. -/
structure LogsRel (pl : List PL) (G : List GL) (O : List Bool) (N : Nat) : Prop where
  len : pl.length = G.length
  rel : ∀ (q : Nat) (p : PL) (g : GL), pl[q]? = some p → G[q]? = some g → Rel p.s g.L ∧ g.L.length ≤ N
  out : ∀ (q : Nat) (p : PL), pl[q]? = some p → O[q]? = some p.out

/-- What holds of both, up or down; tl: the torn bytes. -/
structure Core (N : Nat) (h : HS) (y : RS) (tl : List UInt8) : Prop where
  P : y.P = h.P
  Q : y.Q = h.Q
  T : y.T = h.T
  K : y.K = h.K
  P1 : 1 ≤ h.P ∧ h.P ≤ 6
  Q1 : 1 ≤ h.Q ∧ h.Q ≤ 4
  valid : Valid h.P h.Q y.L
  few : y.L.length ≤ N
  jb : h.jb = bcs (y.L.flatMap rbytes ++ tl)
  t16 : tl.length < 16
  torn : Txt y.torn tl
  kp : 0 ≤ h.kp ∧ h.kp ≤ 16
  logs : LogsRel h.pl y.G y.O N
  opn : Opn h.pl y.L h.P
  fl : h.fl = y.N
  fl100 : y.N.length ≤ 100
  hl : (y.H.length : Int) = h.P
  tm : 0 ≤ y.tm ∧ y.tm ≤ N
  dl : y.D.length ≤ 24

/-- What holds besides while the keeper is up. -/
structure UpRel (h : HS) (y : RS) : Prop where
  up : h.up = true
  dn : y.dn = false
  br : h.br = y.br
  kp : y.br = true → h.kp = clamp y.kp
  rel : ∀ (i : Nat) (x : PS) (hi : Int), h.ps[i]? = some x → y.H[i]? = some hi → PRel (stand y.L i) y.D y.tm hi i x
  dr : ∀ d ∈ y.D, 0 ≤ d.p ∧ d.p < h.P

/-- .. and while it is down. -/
structure DownRel (h : HS) (y : RS) : Prop where
  up : h.up = false
  dn : y.dn = true
  ps : h.ps = zps6
  br : h.br = false
  yr : y.br = false

inductive Know (N : Nat) (h : HS) (y : RS) : Prop
  | up (c : Core N h y []) (u : UpRel h y) : Know N h y
  | down (tl : List UInt8) (c : Core N h y tl) (d : DownRel h y) : Know N h y

theorem Know.core {N : Nat} {h : HS} {y : RS} (k : Know N h y) : ∃ tl, Core N h y tl := by
  cases k with
  | up c u => exact ⟨[], c⟩
  | down tl c d => exact ⟨tl, c⟩

theorem LogsRel.mono {pl : List PL} {G : List GL} {O : List Bool} {N M : Nat} (h : LogsRel pl G O N) (hM : N ≤ M) : LogsRel pl G O M :=
  ⟨h.len, fun q p g hp hg => ⟨(h.rel q p g hp hg).1, Nat.le_trans (h.rel q p g hp hg).2 hM⟩, h.out⟩

theorem Core.mono {N M : Nat} {h : HS} {y : RS} {tl : List UInt8} (c : Core N h y tl) (hM : N ≤ M) : Core M h y tl :=
  ⟨c.P, c.Q, c.T, c.K, c.P1, c.Q1, c.valid, Nat.le_trans c.few hM, c.jb, c.t16, c.torn, c.kp, c.logs.mono hM, c.opn, c.fl, c.fl100, c.hl, ⟨c.tm.1, by have := c.tm.2; omega⟩, c.dl⟩

theorem Know.mono {N M : Nat} {h : HS} {y : RS} (k : Know N h y) (hM : N ≤ M) : Know M h y := by
  cases k with
  | up c u => exact .up (c.mono hM) u
  | down tl c d => exact .down tl (c.mono hM) d

section
variable {N : Nat} {h : HS} {y : RS} {tl : List UInt8}

theorem Valid.end_ {P Q : Int} {L : List Rc} (hv : Valid P Q L) : ∀ r ∈ L, r.k = 3 → r.a = 0 ∨ r.a = 1 := by
  induction hv with
  | nil => intro r hr; simp at hr
  | @snoc L r hv hn ih =>
    intro x hx hk
    rcases List.mem_append.1 hx with hx | hx
    · exact ih x hx hk
    · rw [List.mem_singleton.1 hx] at hk ⊢
      rcases hn.kind with ⟨h1, _⟩ | ⟨h1, _⟩ | ⟨_, h2, _⟩ | ⟨h1, _⟩
      · omega
      · omega
      · exact h2
      · omega

theorem Valid.args {P Q : Int} {L : List Rc} (hv : Valid P Q L) (hQ : Q ≤ 4) : ∀ r ∈ L, 0 ≤ r.a ∧ r.a ≤ 4 := by
  induction hv with
  | nil => intro r hr; simp at hr
  | @snoc L r hv hn ih =>
    intro x hx
    rcases List.mem_append.1 hx with hx | hx
    · exact ih x hx
    · rw [List.mem_singleton.1 hx]
      rcases hn.kind with ⟨h1, h2, _⟩ | ⟨h1, h2, _⟩ | ⟨_, h2, _⟩ | ⟨h1, h2, _⟩ <;> omega

/-- The document's records and clock are as they should. -/
theorem Core.fine (c : Core N h y tl) (hN : N ≤ 100000000) : y.Fine := by
  have hs := c.valid.small c.P1.2 c.Q1.2
  have hf := c.few
  refine ⟨fun r hr => (hs r hr).ok (by omega), c.valid.args c.Q1.2, by omega, by have := c.dl; omega, by have := c.tm; omega⟩

/-- A record that may be next may be written. -/
theorem Core.may (c : Core N h y []) (hN : N ≤ 100000000) {r : Rc} (hn : Next h.P h.Q y.L r) : May h r := by
  have hs := hn.small c.valid c.P1.2 c.Q1.2
  have hf := c.few
  refine ⟨⟨y.L.length, by omega, hs⟩, c.kp, ?_, fun hk => ?_⟩
  · rw [c.jb, bcs_len, List.append_nil, flat_len]; omega
  · rcases hn.kind with ⟨h1, _⟩ | ⟨h1, _⟩ | ⟨_, h2, _⟩ | ⟨h1, _⟩
    · omega
    · omega
    · exact h2
    · omega

theorem Core.ok (c : Core N h y tl) (hN : N ≤ 100000000) {r : Rc} (hn : Next h.P h.Q y.L r) : r.Ok := by
  have hs := hn.small c.valid c.P1.2 c.Q1.2
  have hf := c.few
  exact hs.ok (by omega)

theorem Core.jour (c : Core N h y tl) (hN : N ≤ 100000000) : Jour h y.L tl := by
  have hs := c.valid.small c.P1.2 c.Q1.2
  have hf := c.few
  exact ⟨c.jb, c.t16, ⟨y.L.length, by omega, hs⟩, c.valid.end_, by omega⟩

/-- Which transactions are open, behind one more record. -/
theorem Opn.snoc {pl : List PL} {L : List Rc} {P Q : Int} {r : Rc} (ho : Opn pl L P) (hn : Next P Q L r) (h4 : r.k = 4 → ∀ (q : Nat) (p : PL), pl[q]? = some p → ∀ t, p.s.nw r.p ≠ some (t, true)) : Opn pl (L ++ [r]) P := by
  intro q p hp i t hi
  obtain ⟨h0, h1, h2, h3, h5⟩ := ho q p hp i t hi
  rw [stand_snoc]
  by_cases e : r.p = i
  · subst e
    rcases hn.kind with ⟨k1, k2, k3⟩ | ⟨k1, k2, k3⟩ | ⟨k1, k2, k3, k4⟩ | ⟨k1, k2, k3, k4⟩
    · rw [show (stand L r.p).step r.p r = { stand L r.p with e := r.m } by simp [St.step, k1]]
      exact ⟨h0, h1, h2, h3, h5⟩
    · rw [show (stand L r.p).step r.p r = ⟨(stand L r.p).e, r.m, 1, (if (stand L r.p).s = 0 then [] else (stand L r.p).ps) ++ [r.a]⟩ by simp [St.step, k1]]
      rcases k3 with ⟨k3, k4⟩ | ⟨k3, k4, k5⟩
      · omega
      · refine ⟨h0, h1, by simp, by simp only; omega, ?_⟩
        simp only [k3]
        rw [if_neg (by decide)]
        exact List.mem_append_left _ h5
    · rw [show (stand L r.p).step r.p r = { stand L r.p with s := 3 - r.a } by simp [St.step, k1]]
      exact ⟨h0, h1, by simp only; omega, h3, h5⟩
    · exact absurd hi (h4 k1 q p hp t)
  · rw [St.step_other _ e]
    exact ⟨h0, h1, h2, h3, h5⟩

theorem Next.valid {P Q : Int} {L : List Rc} {r : Rc} (hn : Next P Q L r) (hv : Valid P Q L) : Valid P Q (L ++ [r]) := .snoc hv hn

theorem flat_snoc (L : List Rc) (r : Rc) : (L ++ [r]).flatMap rbytes = L.flatMap rbytes ++ rbytes r := by simp

/-- The dues of one producer are few; so all are. -/
theorem dues_len (P : Nat) (D : List Du) (hr : ∀ d ∈ D, 0 ≤ d.p ∧ d.p < (P : Int)) (hf : ∀ i : Nat, i < P → (D.filter fun d => decide (d.p = (i : Int))).length ≤ 4) : D.length ≤ 4 * P := by
  induction P generalizing D with
  | zero =>
    cases D with
    | nil => simp
    | cons d D => have := hr d (by simp); omega
  | succ P ih =>
    have key : D.length = (D.filter fun d => decide (d.p = (P : Int))).length + (D.filter fun d => !decide (d.p = (P : Int))).length := by
      rw [← List.countP_eq_length_filter, ← List.countP_eq_length_filter]
      rw [List.length_eq_countP_add_countP (fun d : Du => decide (d.p = (P : Int)))]
      congr 1
      apply List.countP_congr
      intro d _
      simp
    have h1 := hf P (by omega)
    have h2 := ih (D.filter fun d => !decide (d.p = (P : Int))) (fun d hd => by
      obtain ⟨hd1, hd2⟩ := List.mem_filter.1 hd
      have := hr d hd1
      simp at hd2
      omega) (fun i hi => by
      rw [List.filter_filter]
      refine Nat.le_trans (Nat.le_of_eq ?_) (hf i (by omega))
      congr 1
      apply List.filter_congr
      intro d _
      by_cases e : d.p = (i : Int)
      · simp [e]; omega
      · simp [e])
    omega

theorem tied_len (ts : List Int) (l : Int) : (tiedL ts l 4).length ≤ 4 := tiedL_len ts l 4
end

end Go.Proofs.YtkelpcjiediamaaGreat

/-
  Both heralds know the same behind a record that was written, or broke.
-/
namespace Go.Proofs.YtkelpcjiediamaaGreat
open Go.RowKit Go.Maps

section
variable {N : Nat} {h h' : HS} {y y' : RS} {tl : List UInt8} {r : Rc}

/-- The core behind one more record. -/
theorem Core.wrote (c : Core N h y []) (hn : Next h.P h.Q y.L r) (h4 : r.k = 4 → ∀ (q : Nat) (p : PL), h.pl[q]? = some p → ∀ t, p.s.nw r.p ≠ some (t, true)) (jv lv : Value) (ps : List PS) (D : List Du) (hD : D.length ≤ 24) (dv : Value) :
    Core (N + 1) { h.jot jv (bcs (rbytes r)) with ps := ps } ((y.wrote r lv).dues dv D) [] := by
  refine ⟨c.P, c.Q, c.T, c.K, c.P1, c.Q1, hn.valid c.valid, ?_, ?_, by simp, c.torn, c.kp, c.logs.mono (by omega), c.opn.snoc hn h4, c.fl, c.fl100, c.hl, ⟨c.tm.1, by have := c.tm.2; show y.tm ≤ ((N + 1 : Nat) : Int); omega⟩, hD⟩
  · show (y.L ++ [r]).length ≤ N + 1
    have := c.few
    simp; omega
  · show h.jb ++ bcs (rbytes r) = bcs ((y.L ++ [r]).flatMap rbytes ++ [])
    rw [c.jb, List.append_nil, List.append_nil, flat_snoc, bcs_app]

theorem deedAll_get {ps : List PS} {i : Nat} {x : PS} (hx : (deedAll ps r)[i]? = some x) (hp : 0 ≤ r.p) (h6 : r.p < 6) (hl : ps.length = 6) : (∃ x0, ps[i]? = some x0 ∧ r.p = i ∧ x = x0.deed r) ∨ (r.p ≠ i ∧ ps[i]? = some x) := by
  obtain ⟨k, hk⟩ := Int.eq_ofNat_of_zero_le hp
  have e : r.p.toNat = k := by omega
  unfold deedAll at hx
  rw [e] at hx
  have hkl : k < ps.length := by omega
  by_cases h1 : k = i
  · subst h1
    rw [List.getElem?_set_self hkl] at hx
    refine .inl ⟨ps[k], List.getElem?_eq_getElem hkl, hk, ?_⟩
    have := Option.some.inj hx
    rw [← this]
    simp [List.getD, List.getElem?_eq_getElem hkl]
  · rw [List.getElem?_set_ne h1] at hx
    exact .inr ⟨by omega, hx⟩

/-- Behind REpoch. -/
theorem know_epoch (c : Core N h y []) (u : UpRel h y) (h6 : h.ps.length = 6) (hn : Next h.P h.Q y.L r) (hk : r.k = 1) (ho : WOut h r true h') (hy : YOut y r true y') : Know (N + 1) h' y' := by
  cases ho with
  | ok jv hb =>
    cases hy with
    | ok lv hb2 =>
      have hc := c.wrote hn (fun e => by omega) jv lv (deedAll h.ps r) y.D c.dl y.dv
      refine .up hc ⟨u.up, u.dn, u.br, u.kp, fun i x hi hx hh => ?_, u.dr⟩
      have hp1 := hn.p1
      have := c.P1.2
      rcases deedAll_get hx hn.p0 (by omega) h6 with ⟨x0, h0, e, rfl⟩ | ⟨e, h0⟩
      · have := (u.rel i x0 hi h0 hh).epoch e hk
        show PRel (stand (y.L ++ [r]) i) y.D y.tm hi i (x0.deed r)
        rw [stand_snoc]
        exact this
      · have := (u.rel i x hi h0 hh).other (r := r) (D' := y.D) e rfl
        show PRel (stand (y.L ++ [r]) i) y.D y.tm hi i x
        rw [stand_snoc]
        exact this

/-- Where the keeper breaks in the writing. -/
theorem know_broke (c : Core N h y []) (u : UpRel h y) (hn : Next h.P h.Q y.L r) (h4 : r.k = 4 → ∀ (q : Nat) (p : PL), h.pl[q]? = some p → ∀ t, p.s.nw r.p ≠ some (t, true)) (ho : WOut h r false h') (hy : YOut y r false y') : Know (N + 1) h' y' := by
  cases ho with
  | broke jv hb =>
    have hb2 : y.br = true := by rw [← u.br]; exact hb
    have hkp := u.kp hb2
    cases hy with
    | whole lv hbr hk =>
      have e1 : h.kp.toNat = 16 := by rw [hkp]; unfold clamp; omega
      have hc := c.wrote hn h4 jv lv h.ps y.D c.dl y.dv
      refine .down [] ?_ ⟨rfl, rfl, rfl, rfl, rfl⟩
      refine ⟨c.P, c.Q, c.T, c.K, c.P1, c.Q1, hc.valid, hc.few, ?_, by simp, c.torn, by simp [HS.fallen], hc.logs, hc.opn, c.fl, c.fl100, c.hl, hc.tm, c.dl⟩
      show h.jb ++ bcs ((rbytes r).take h.kp.toNat) = bcs ((y.L ++ [r]).flatMap rbytes ++ [])
      rw [e1, List.take_of_length_le (by rw [rbytes_len]; omega)]
      exact hc.jb
    | torn s hbr k1 k2 ht =>
      have e1 : h.kp.toNat = y.kp.toNat := by rw [hkp]; unfold clamp; omega
      have hl : ((rbytes r).take y.kp.toNat).length < 16 := by rw [List.length_take, rbytes_len]; omega
      refine .down ((rbytes r).take y.kp.toNat) ⟨c.P, c.Q, c.T, c.K, c.P1, c.Q1, c.valid, Nat.le_succ_of_le c.few, ?_, hl, ht, by simp [HS.fallen], c.logs.mono (by omega), c.opn, c.fl, c.fl100, c.hl, ⟨c.tm.1, by have := c.tm.2; show y.tm ≤ ((N + 1 : Nat) : Int); omega⟩, c.dl⟩ ⟨rfl, rfl, rfl, rfl, rfl⟩
      show h.jb ++ bcs ((rbytes r).take h.kp.toNat) = bcs (y.L.flatMap rbytes ++ (rbytes r).take y.kp.toNat)
      rw [e1, c.jb, List.append_nil, bcs_app]
    | none hbr k1 =>
      have e1 : h.kp.toNat = 0 := by rw [hkp]; unfold clamp; omega
      refine .down [] ⟨c.P, c.Q, c.T, c.K, c.P1, c.Q1, c.valid, Nat.le_succ_of_le c.few, ?_, by simp, c.torn, by simp [HS.fallen], c.logs.mono (by omega), c.opn, c.fl, c.fl100, c.hl, ⟨c.tm.1, by have := c.tm.2; show y.tm ≤ ((N + 1 : Nat) : Int); omega⟩, c.dl⟩ ⟨rfl, rfl, rfl, rfl, rfl⟩
      show h.jb ++ bcs ((rbytes r).take h.kp.toNat) = bcs (y.L.flatMap rbytes ++ [])
      rw [e1, c.jb, List.take_zero]
      simp [bcs]

theorem filter_other (D : List Du) (i j : Int) (hij : i ≠ j) : (D.filter (Du.stays i (-1))).filter (fun d => decide (d.p = j)) = D.filter (fun d => decide (d.p = j)) := by
  rw [List.filter_filter]
  apply List.filter_congr
  intro d _
  by_cases e : d.p = j
  · simp [Du.stays, e]; omega
  · simp [e]

theorem filter_newDues_other (p t j : Int) (ps : List Int) (k : Nat) (hj : p ≠ j) : (newDues p t ps k).filter (fun d => decide (d.p = j)) = [] := by
  rw [List.filter_eq_nil_iff]
  intro d hd
  simp only [newDues, List.mem_map] at hd
  obtain ⟨q, _, rfl⟩ := hd
  simpa using hj

/-- The dues of each producer are few. -/
theorem UpRel.dues24 (u : UpRel h y) (P1 : 1 ≤ h.P ∧ h.P ≤ 6) (hl : (y.H.length : Int) = h.P) (h6 : h.ps.length = 6) : y.D.length ≤ 24 := by
  obtain ⟨p, hp⟩ := Int.eq_ofNat_of_zero_le (show 0 ≤ h.P by omega)
  have := dues_len p y.D (fun d hd => by have := u.dr d hd; omega) (fun i hi => by
    have hx : i < h.ps.length := by omega
    have hh : i < y.H.length := by omega
    rw [(u.rel i h.ps[i] y.H[i] (List.getElem?_eq_getElem hx) (List.getElem?_eq_getElem hh)).due, List.length_map]
    exact tied_len _ _)
  omega

/-- Behind REnd. -/
theorem know_end (c : Core N h y []) (u : UpRel h y) (h6 : h.ps.length = 6) {p : Int} {cm : Bool} (hn : Next h.P h.Q y.L (endRec y p cm)) (ho : WOut h (endRec y p cm) true h') (hy : DOut y p cm true y') : Know (N + 1) h' y' := by
  obtain ⟨Qn, hQn⟩ := Int.eq_ofNat_of_zero_le (show 0 ≤ h.Q by have := c.Q1; omega)
  have hQt : y.Q.toNat = Qn := by rw [c.Q]; omega
  have hp0 : 0 ≤ p := hn.p0
  have hp1 : p < h.P := hn.p1
  have hP6 := c.P1.2
  have hkind : (endRec y p cm).a = 0 ∨ (endRec y p cm).a = 1 := by cases cm <;> simp [endRec]
  have hs1 : (stand y.L p).s = 1 := by
    rcases hn.kind with ⟨k1, _⟩ | ⟨k1, _⟩ | ⟨_, _, k3, _⟩ | ⟨k1, _⟩
    · simp [endRec] at k1
    · simp [endRec] at k1
    · exact k3
    · simp [endRec] at k1
  have hfine := c.valid.fine p
  have hsps : (stand (y.L ++ [endRec y p cm]) p).ps = (stand y.L p).ps := by
    rw [stand_snoc]; simp [St.step, endRec]
  cases ho with
  | ok jv hb =>
    cases hy with
    | ok lv dv hb2 =>
      have hdr : ∀ d ∈ y.pended p cm, 0 ≤ d.p ∧ d.p < h.P := fun d hd => by
        rcases List.mem_append.1 hd with hd | hd
        · exact u.dr d (List.mem_filter.1 hd).1
        · simp only [newDues, List.mem_map] at hd
          obtain ⟨q, _, rfl⟩ := hd
          exact ⟨hp0, hp1⟩
      have hrel : ∀ (i : Nat) (x : PS) (hi : Int), (deedAll h.ps (endRec y p cm))[i]? = some x → y.H[i]? = some hi → PRel (stand (y.L ++ [endRec y p cm]) i) (y.pended p cm) y.tm hi i x := fun i x hi hx hh => by
        rw [stand_snoc]
        rcases deedAll_get hx hn.p0 (by show p < 6; omega) h6 with ⟨x0, h0, e, rfl⟩ | ⟨e, h0⟩
        · have e' : p = i := e
          subst e'
          have := (u.rel i x0 hi h0 hh).end_ (r := endRec y i cm) rfl rfl hkind hs1 (Q := Qn) (by have := c.Q1.2; omega) (fun q hq => by have := hfine.ps q hq; omega)
          rw [show (stand y.L i).step i (endRec y i cm) = stand (y.L ++ [endRec y i cm]) i from (stand_snoc _ _ _).symm] at this ⊢
          unfold RS.pended
          rw [hQt]
          exact this
        · have e' : p ≠ i := e
          refine (u.rel i x hi h0 hh).other (r := endRec y p cm) e ?_
          unfold RS.pended
          rw [List.filter_append, filter_other _ _ _ e', filter_newDues_other _ _ _ _ _ e', List.append_nil]
      have hup : UpRel { h.jot jv (bcs (rbytes (endRec y p cm))) with ps := deedAll h.ps (endRec y p cm) } ((y.wrote (endRec y p cm) lv).dues dv (y.pended p cm)) :=
        ⟨u.up, u.dn, u.br, u.kp, hrel, hdr⟩
      have hd24 := hup.dues24 c.P1 c.hl (by show (deedAll h.ps _).length = 6; simp [deedAll, h6])
      exact .up (c.wrote hn (fun e => by simp [endRec] at e) jv lv (deedAll h.ps (endRec y p cm)) (y.pended p cm) hd24 dv) hup
end

end Go.Proofs.YtkelpcjiediamaaGreat
