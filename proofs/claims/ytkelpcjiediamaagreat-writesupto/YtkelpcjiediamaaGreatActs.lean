/-
  Both heralds in memory; one call on each of them.
-/
import Derived.Test.YtkelpcjiediamaaGreatPairs3
import Derived.Test.YtkelpcjiediamaaGreatMNews
namespace Go.Proofs.YtkelpcjiediamaaGreat
open Go.RowKit Go.Maps

/-- Both heralds in memory, knowing the same. -/
structure Both (w : World) (B xb yb N : Nat) (h : HS) (y : RS) : Prop where
  xa : HAt w B xb N h
  ya : YAt w B yb y
  ax : PlApart h.pl
  ay : GApart y.G
  an : ∀ k, h.fv.ownBlock = some k → y.nv.ownBlock = some k → False
  know : Know N h y

/-- They have become others. -/
structure BothTo (w w' : World) (B xb yb : Nat) (h : HS) (y : RS) (N : Nat) (h' : HS) (y' : RS) : Prop where
  to : Both w' B xb yb N h' y'
  fr : Fr (fun k => h.foot xb k ∨ y.foot yb k) w w'
  sub : ∀ k, h'.foot xb k ∨ y'.foot yb k → (h.foot xb k ∨ y.foot yb k) ∨ w.heap.size ≤ k
  net : y'.N = y.N

section
variable {w w' w2 w3 : World} {B xb yb wb N : Nat} {h h' : HS} {y y' : RS}

theorem Both.apart (b : Both w B xb yb N h y) {k : Nat} (h1 : h.foot xb k) (h2 : y.foot yb k) : False := duo_apart b.xa b.ya b.an h1 h2

theorem Both.keep (b : Both w B xb yb N h y) (f : Fr (fun k => ¬ (h.foot xb k ∨ y.foot yb k)) w w') : Both w' B xb yb N h y :=
  ⟨b.xa.stay f (fun _ e hf => e (.inl hf)), b.ya.stay f (fun _ e hf => e (.inr hf)), b.ax, b.ay, b.an, b.know⟩

theorem Both.mono (b : Both w B xb yb N h y) {M : Nat} (hM : N ≤ M) : Both w B xb yb M h y := ⟨b.xa.mono hM, b.ya, b.ax, b.ay, b.an, b.know.mono hM⟩

/-- The document's herald is as it was while the program's moves. -/
theorem Both.ystill (b : Both w B xb yb N h y) {n' : Nat} (m : Moved w w2 B xb N h n' h') : YAt w2 B yb y := b.ya.stay m.fr (fun _ e hf => b.apart e hf)

theorem Both.join (b : Both w B xb yb N h y) {n' : Nat} (m : Moved w w2 B xb N h n' h') (ym : YMoved w2 w3 B yb y y') (hx : PlApart h'.pl) (hy : GApart y'.G) (hfv : h'.fv = h.fv) (hnv : y'.nv = y.nv) (hnn : y'.N = y.N) {M : Nat} (hM : n' ≤ M) (hk : Know M h' y') : BothTo w w3 B xb yb h y M h' y' := by
  have hlt : ∀ k, y.foot yb k → k < w.heap.size := fun k hk => (b.ya.foot_lt hk).1
  refine ⟨⟨(m.at_.stay ym.fr (fun k e hf => ?_)).mono hM, ym.at_, hx, hy, fun k h1 h2 => b.an k (by rw [← hfv]; exact h1) (by rw [← hnv]; exact h2), hk⟩, ?_, fun k hk => ?_, hnn⟩
  · rcases m.sub k hf with a | a
    · exact b.apart a e
    · have := hlt k e; omega
  · exact (m.fr.mono (fun k e => .inl (.inl e))).trans ym.fr (fun k e => .inl (.inr e))
  · rcases hk with hk | hk
    · rcases m.sub k hk with a | a
      · exact .inl (.inl a)
      · exact .inr a
    · rcases ym.sub k hk with a | a
      · exact .inl (.inr a)
      · exact .inr (Nat.le_trans m.fr.size a)

/-- Neither has turned. -/
theorem Both.still (b : Both w B xb yb N h y) (f : Fr (fun _ => False) w w') : BothTo w w' B xb yb h y N h y :=
  ⟨b.keep (f.mono (fun _ h => h.elim)), f.mono (fun _ h => h.elim), fun _ hk => .inl hk, rfl⟩

theorem BothTo.mono (t : BothTo w w' B xb yb h y N h' y') {M : Nat} (hM : N ≤ M) : BothTo w w' B xb yb h y M h' y' := ⟨t.to.mono hM, t.fr, t.sub, t.net⟩

/-- One call on each of the two, with arguments; the world that it comes to. -/
def TwoC (f g : Nat) (ax ay : Array Value) (xb yb : Nat) (h : HS) (y : RS) (w : World) (post : Value → Value → World → Prop) : Prop :=
  Calls Tryz.prog f ax w fun e w2 => ∃ r, e = .returned r ∧ Fr (fun k => h.foot xb k ∨ y.foot yb k) w w2 ∧ ∀ W, Fr (fun _ => False) w2 W → Calls Tryz.prog g ay W fun e w3 => ∃ r2, e = .returned r2 ∧ post r r2 w3

/-- The two answer the same error. -/
def SameE (B xb yb : Nat) (h : HS) (y : RS) (N : Nat) (w : World) (r r2 : Value) (w' : World) : Prop :=
  (∃ a : Int, r = .int .i64 a ∧ r2 = .int .i64 a) ∧ ∃ h' y', BothTo w w' B xb yb h y N h' y'

/-- The two answer the same number and error. -/
def SameN (B xb yb : Nat) (h : HS) (y : RS) (N : Nat) (w : World) (r r2 : Value) (w' : World) : Prop :=
  (∃ a c : Int, r = .tuple #[.int .i64 a, .int .i64 c] ∧ r2 = .tuple #[.int .i64 a, .int .i64 c]) ∧ ∃ h' y', BothTo w w' B xb yb h y N h' y'

/-- A call that turns nothing, on either side. -/
theorem Both.twoE (b : Both w B xb yb N h y) {f g : Nat} {ax ay : Array Value} {a : Int} (hx : Calls Tryz.prog f ax w fun e w' => e = .returned (.int .i64 a) ∧ Fr (fun _ => False) w w') (hy : ∀ w2, YAt w2 B yb y → Calls Tryz.prog g ay w2 fun e w' => e = .returned (.int .i64 a) ∧ Fr (fun _ => False) w2 w') : TwoC f g ax ay xb yb h y w (SameE B xb yb h y (N + 1) w) :=
  hx.mono fun _ w2 ⟨h1, h2⟩ => ⟨_, h1, h2.mono (fun _ h => h.elim), fun W fW => (hy W (b.ya.after (h2.trans fW (fun _ h => h.elim)))).mono fun _ w3 ⟨k1, k2⟩ => ⟨_, k1, ⟨_, rfl, rfl⟩, h, y, (b.still ((h2.trans fW (fun _ h => h.elim)).trans k2 (fun _ h => h.elim))).mono (by omega)⟩⟩

theorem Both.twoN (b : Both w B xb yb N h y) {f g : Nat} {ax ay : Array Value} {a c : Int} (hx : Calls Tryz.prog f ax w fun e w' => e = .returned (.tuple #[.int .i64 a, .int .i64 c]) ∧ Fr (fun _ => False) w w') (hy : ∀ w2, YAt w2 B yb y → Calls Tryz.prog g ay w2 fun e w' => e = .returned (.tuple #[.int .i64 a, .int .i64 c]) ∧ Fr (fun _ => False) w2 w') : TwoC f g ax ay xb yb h y w (SameN B xb yb h y (N + 1) w) :=
  hx.mono fun _ w2 ⟨h1, h2⟩ => ⟨_, h1, h2.mono (fun _ h => h.elim), fun W fW => (hy W (b.ya.after (h2.trans fW (fun _ h => h.elim)))).mono fun _ w3 ⟨k1, k2⟩ => ⟨_, k1, ⟨_, _, rfl, rfl⟩, h, y, (b.still ((h2.trans fW (fun _ h => h.elim)).trans k2 (fun _ h => h.elim))).mono (by omega)⟩⟩

theorem same_fr {f : Nat} {ax : Array Value} {v : Value} (hx : Calls Tryz.prog f ax w fun e w' => e = .returned v ∧ w = w') : Calls Tryz.prog f ax w fun e w' => e = .returned v ∧ Fr (fun _ => False) w w' :=
  hx.mono fun _ w2 ⟨h1, h2⟩ => ⟨h1, by rw [h2]; exact Fr.refl _ _⟩

theorem WOut.same {r : Rc} {ok : Bool} (ho : WOut h r ok h') : h'.pl = h.pl ∧ h'.fv = h.fv := by cases ho <;> exact ⟨rfl, rfl⟩

theorem WOut.agree {r r2 : Rc} {ok ok2 : Bool} (ho : WOut h r ok h') (hy : YOut y r2 ok2 y') (hb : h.br = y.br) : ok = ok2 := by
  cases ho with
  | ok jv h1 =>
    cases hy with
    | ok lv h2 => rfl
    | whole lv h2 _ => rw [hb, h2] at h1; cases h1
    | torn s h2 _ _ _ => rw [hb, h2] at h1; cases h1
    | none h2 _ => rw [hb, h2] at h1; cases h1
  | broke jv h1 =>
    cases hy with
    | ok lv h2 => rw [hb, h2] at h1; cases h1
    | whole lv h2 _ => rfl
    | torn s h2 _ _ _ => rfl
    | none h2 _ => rfl

theorem WOut.agreeD {r : Rc} {p : Int} {cm : Bool} {ok ok2 : Bool} (ho : WOut h r ok h') (hy : DOut y p cm ok2 y') (hb : h.br = y.br) : ok = ok2 := by
  cases hy with
  | ok lv dv h2 =>
    cases ho with
    | ok jv h1 => rfl
    | broke jv h1 => rw [hb, h2] at h1; cases h1
  | broke h2 => exact ho.agree h2 hb

theorem YOut.net {r : Rc} {ok : Bool} (hy : YOut y r ok y') : y'.N = y.N := by cases hy <;> rfl

theorem DOut.net {p : Int} {cm : Bool} {ok : Bool} (hy : DOut y p cm ok y') : y'.N = y.N := by
  cases hy with
  | ok lv dv h2 => rfl
  | broke h2 => exact h2.net

theorem DOut.rest {p : Int} {cm : Bool} {ok : Bool} (hy : DOut y p cm ok y') : y'.nv = y.nv ∧ y'.G = y.G := by
  cases hy with
  | ok lv dv h2 => exact ⟨rfl, rfl⟩
  | broke h2 => exact ⟨h2.rest.2.2.2.2.1, h2.rest.2.2.2.2.2⟩

/-- A record was written on both sides, or broke on both. -/
theorem Both.joinW (b : Both w B xb yb N h y) (c : Core N h y []) (u : UpRel h y) {r : Rc} (hn : Next h.P h.Q y.L r) (h4 : r.k = 4 → ∀ (q : Nat) (p : PL), h.pl[q]? = some p → ∀ t, p.s.nw r.p ≠ some (t, true)) {ok : Bool} (ho : WOut h r ok h') (hmv : Moved w w2 B xb N h N h') (hyo : YOut y r ok y') (hym : YMoved w2 w3 B yb y y') (hk : ok = true → Know (N + 1) h' y') : BothTo w w3 B xb yb h y (N + 1) h' y' := by
  refine b.join hmv hym (by rw [ho.same.1]; exact b.ax) (by rw [hyo.rest.2.2.2.2.2]; exact b.ay) ho.same.2 hyo.rest.2.2.2.2.1 hyo.net (by omega) ?_
  cases ok
  · exact know_broke c u hn h4 ho hyo
  · exact hk rfl

/-- A decision was written on both sides, or broke on both. -/
theorem Both.joinD (b : Both w B xb yb N h y) (c : Core N h y []) (u : UpRel h y) {p : Int} {cm : Bool} (hn : Next h.P h.Q y.L (endRec y p cm)) {ok : Bool} (ho : WOut h (endRec y p cm) ok h') (hmv : Moved w w2 B xb N h N h') (hyo : DOut y p cm ok y') (hym : YMoved w2 w3 B yb y y') : BothTo w w3 B xb yb h y (N + 1) h' y' := by
  refine b.join hmv hym (by rw [ho.same.1]; exact b.ax) (by rw [hyo.rest.2]; exact b.ay) ho.same.2 hyo.rest.1 hyo.net (by omega) ?_
  cases ok
  · cases hyo with
    | broke h2 => exact know_broke c u hn (fun e => by simp [endRec] at e) ho h2
  · exact know_end c u b.xa.h6 hn ho hyo

/-- What is known of a producer, on both sides. -/
theorem Both.prod (b : Both w B xb yb N h y) (c : Core N h y []) (u : UpRel h y) {i : Nat} (hi : (i : Int) < h.P) : ∃ x hi, h.ps[i]? = some x ∧ y.H[i]? = some hi ∧ PRel (stand y.L i) y.D y.tm hi i x := by
  have h6 := b.xa.h6
  have hP := c.P1.2
  have hl := c.hl
  have h1 : i < h.ps.length := by omega
  have h2 : i < y.H.length := by omega
  exact ⟨_, _, List.getElem?_eq_getElem h1, List.getElem?_eq_getElem h2, u.rel i _ _ (List.getElem?_eq_getElem h1) (List.getElem?_eq_getElem h2)⟩

theorem endRec_eq {i : Nat} {x : PS} (cm : Bool) (ht : x.t = (stand y.L i).t) : (⟨3, i, if cm then 1 else 0, x.t⟩ : Rc) = endRec y i cm := by rw [ht]; rfl

theorem Core.nextEnd (_c : Core N h y []) {i : Nat} (hi : (i : Int) < h.P) (hs : (stand y.L i).s = 1) (cm : Bool) : Next h.P h.Q y.L (endRec y i cm) :=
  ⟨by show 0 ≤ (i : Int); omega, hi, .inr (.inr (.inl ⟨rfl, by cases cm <;> simp [endRec], hs, rfl⟩))⟩

/-! Init -/
theorem Both.init (b : Both w B xb yb N h y) (hN : N ≤ 10000000) (m : Int) : TwoC 74 75 #[ptr xb, .int .i64 m] #[ptr yb, .int .i64 m] xb yb h y w (SameN B xb yb h y (N + 1) w) := by
  obtain ⟨tl, c0⟩ := b.know.core
  by_cases hm : 0 ≤ m ∧ m < h.P
  · obtain ⟨i, rfl⟩ := Int.eq_ofNat_of_zero_le hm.1
    have hmy : 0 ≤ (i : Int) ∧ (i : Int) ≤ y.P - 1 := by rw [c0.P]; omega
    rcases b.know with ⟨c, u⟩ | ⟨tl, c, d⟩
    · obtain ⟨x, hi, hx, hh, hr⟩ := b.prod c u hm.2
      have hf := c.valid.fine i
      have hs0 := hf.s0
      have hs3 := hf.s1
      have hfi := c.fine (by omega)
      have hxs := hr.s
      rcases (show (stand y.L i).s = 0 ∨ (stand y.L i).s = 1 ∨ (stand y.L i).s = 2 ∨ (stand y.L i).s = 3 by omega) with e | e | e
      · have hn : Next h.P h.Q y.L ⟨1, i, 0, x.e + 1⟩ := ⟨by simp only; omega, hm.2, .inl ⟨rfl, rfl, by simp only; rw [hr.e]⟩⟩
        have hn2 : Next h.P h.Q y.L ⟨1, i, 0, (stand y.L i).e + 1⟩ := by rw [← hr.e]; exact hn
        refine (init_idle b.xa hm.2 u.up hx (by omega) (c.may (by omega) hn)).mono fun e2 w2 hp => ?_
        have key : ∀ {ok : Bool} {h' : HS} {W : World}, WOut h ⟨1, i, 0, x.e + 1⟩ ok h' → Moved w W B xb N h N h' → Calls Tryz.prog 75 #[ptr yb, .int .i64 i] W fun e w3 => ∃ r2, e = .returned r2 ∧ ((∃ a c : Int, (if ok then .tuple #[.int .i64 (x.e + 1), .int .i64 0] else .tuple #[.int .i64 0, .int .i64 5]) = Value.tuple #[.int .i64 a, .int .i64 c] ∧ r2 = .tuple #[.int .i64 a, .int .i64 c]) ∧ ∃ h' y', BothTo w w3 B xb yb h y (N + 1) h' y') := fun {ok h' W} ho hmv => by
          refine (yinit_idle (b.ystill hmv) hfi hmy u.dn e (c.ok (by omega) hn2)).mono fun e3 w3 hq => ?_
          rw [← hr.e] at hq
          cases hq with
          | @ok y' _ hyo hym =>
            obtain rfl := ho.agree hyo u.br
            exact ⟨_, rfl, ⟨_, _, rfl, rfl⟩, h', y', b.joinW c u hn (fun e => by simp at e) ho hmv hyo hym (fun _ => know_epoch c u b.xa.h6 hn rfl ho hyo)⟩
          | @broke y' _ hyo hym =>
            obtain rfl := ho.agree hyo u.br
            exact ⟨_, rfl, ⟨_, _, rfl, rfl⟩, h', y', b.joinW c u hn (fun e => by simp at e) ho hmv hyo hym (fun e => by cases e)⟩
        cases hp with
        | @ok h' _ ho hmv => exact ⟨_, rfl, hmv.fr.mono (fun k e => .inl (.inl e)), fun W fW => key ho (hmv.after fW)⟩
        | @broke h' _ ho hmv => exact ⟨_, rfl, hmv.fr.mono (fun k e => .inl (.inl e)), fun W fW => key ho (hmv.after fW)⟩
      · have hn := c.nextEnd hm.2 e false
        have hrec := endRec_eq (y := y) (i := i) (x := x) false hr.t
        simp only [Bool.false_eq_true, ↓reduceIte] at hrec
        have hb := init_busy b.xa hm.2 u.up hx (by omega) (by rw [hrec]; exact c.may (by omega) hn)
        rw [hrec] at hb
        refine hb.mono fun e2 w2 hp => ?_
        cases hp with
        | @mk ok h' _ ho hmv =>
          refine ⟨_, rfl, hmv.fr.mono (fun k e => .inl (.inl e)), fun W fW => ?_⟩
          replace hmv := hmv.after fW
          refine (yinit_busy (b.ystill hmv) hfi hmy u.dn e (c.ok (by omega) hn)).mono fun e3 w3 hq => ?_
          cases hq with
          | @mk ok2 y' _ hyo hym =>
            obtain rfl := ho.agreeD hyo u.br
            exact ⟨_, rfl, ⟨_, _, rfl, rfl⟩, h', y', b.joinD c u hn ho hmv hyo hym⟩
      · refine b.twoN (same_fr (init_ending b.xa hm.2 u.up hx (by omega))) (fun w2 hy => yinit_ending hy hfi hmy u.dn (by omega) (by omega))
    · exact b.twoN (same_fr (init_down b.xa hm d.up)) (fun w2 hy => same_fr (yinit_down hy hmy d.dn))
  · have hmy : ¬ (0 ≤ m ∧ m ≤ y.P - 1) := by rw [c0.P]; omega
    exact b.twoN (same_fr (init_none b.xa hm)) (fun w2 hy => same_fr (yinit_none hy hmy))

/-! End -/
theorem bars_speaks (u : UpRel h y) {i : Nat} {x : PS} (he : x.e = (stand y.L i).e) (ep : Int) : h.bars x ep = speaks y.dn (stand y.L i).e ep := by
  unfold HS.bars speaks
  rw [u.up, u.dn, he]
  simp only [Bool.true_eq_false, ↓reduceIte, Bool.false_eq_true]
  by_cases h0 : ep = 0
  · simp [h0]
  · by_cases h1 : (stand y.L i).e = ep
    · simp [h0, h1]
    · have h2 : ep ≠ (stand y.L i).e := fun e => h1 e.symm
      simp [h1, h2]

theorem Both.end_ (b : Both w B xb yb N h y) (hN : N ≤ 10000000) (m ep : Int) (cm : Bool) : TwoC 28 79 #[ptr xb, .int .i64 m, .int .i64 ep, .bool cm] #[ptr yb, .int .i64 m, .int .i64 ep, .bool cm] xb yb h y w (SameE B xb yb h y (N + 1) w) := by
  obtain ⟨tl, c0⟩ := b.know.core
  by_cases hm : 0 ≤ m ∧ m < h.P
  · obtain ⟨i, rfl⟩ := Int.eq_ofNat_of_zero_le hm.1
    have hmy : 0 ≤ (i : Int) ∧ (i : Int) ≤ y.P - 1 := by rw [c0.P]; omega
    have hfi := c0.fine (by omega)
    rcases b.know with ⟨c, u⟩ | ⟨tl, c, d⟩
    · obtain ⟨x, hi, hx, hh, hr⟩ := b.prod c u hm.2
      have hf := c.valid.fine i
      have hs0 := hf.s0
      have hs3 := hf.s1
      have hxs := hr.s
      have hbs := bars_speaks u hr.e ep
      by_cases hbar : h.bars x ep = 0
      · have hsp : speaks y.dn (stand y.L i).e ep = 0 := by rw [← hbs]; exact hbar
        rcases (show (stand y.L i).s = 0 ∨ (stand y.L i).s = 1 ∨ (stand y.L i).s = 2 ∨ (stand y.L i).s = 3 by omega) with e | e | e
        · have ht : turned y i ep = 8 := by unfold turned; rw [if_neg (by omega), if_pos e]
          refine b.twoE (same_fr (end_idle b.xa hm.2 hx hbar (by omega) cm)) (fun w2 hy => ?_)
          have := yend_away hy hfi hmy (ep := ep) (by rw [ht]; decide) cm
          rw [ht] at this
          exact this
        · have hn := c.nextEnd hm.2 e cm
          have hrec := endRec_eq (y := y) (i := i) (x := x) cm hr.t
          have hb := end_going b.xa hm.2 hx hbar (by omega) cm (by rw [hrec]; exact c.may (by omega) hn)
          rw [hrec] at hb
          refine hb.mono fun e2 w2 hp => ?_
          have key : ∀ {ok : Bool} {h' : HS} {W : World}, WOut h (endRec y i cm) ok h' → Moved w W B xb N h N h' → Calls Tryz.prog 79 #[ptr yb, .int .i64 i, .int .i64 ep, .bool cm] W fun e w3 => ∃ r2, e = .returned r2 ∧ ((∃ a : Int, (if ok then Value.int .i64 0 else .int .i64 5) = .int .i64 a ∧ r2 = .int .i64 a) ∧ ∃ h' y', BothTo w w3 B xb yb h y (N + 1) h' y') := fun {ok h' W} ho hmv => by
            refine (yend_going (b.ystill hmv) hfi hmy hsp e cm (c.ok (by omega) hn)).mono fun e3 w3 hq => ?_
            cases hq with
            | @ok y' _ hyo hym =>
              obtain rfl := ho.agreeD hyo u.br
              exact ⟨_, rfl, ⟨_, rfl, rfl⟩, h', y', b.joinD c u hn ho hmv hyo hym⟩
            | @broke y' _ hyo hym =>
              obtain rfl := ho.agreeD hyo u.br
              exact ⟨_, rfl, ⟨_, rfl, rfl⟩, h', y', b.joinD c u hn ho hmv hyo hym⟩
          cases hp with
          | @ok h' _ ho hmv => exact ⟨_, rfl, hmv.fr.mono (fun k e => .inl (.inl e)), fun W fW => key ho (hmv.after fW)⟩
          | @broke h' _ ho hmv => exact ⟨_, rfl, hmv.fr.mono (fun k e => .inl (.inl e)), fun W fW => key ho (hmv.after fW)⟩
        · have ht : turned y i ep = 9 := by unfold turned; rw [if_neg (by omega), if_neg (by omega), if_pos (by omega)]
          refine b.twoE (same_fr (end_busy b.xa hm.2 hx hbar (by omega) cm)) (fun w2 hy => ?_)
          have := yend_away hy hfi hmy (ep := ep) (by rw [ht]; decide) cm
          rw [ht] at this
          exact this
      · have ht : turned y i ep = h.bars x ep := by unfold turned; rw [← hbs, if_pos hbar]
        refine b.twoE (same_fr (end_barred b.xa hm.2 hx hbar cm)) (fun w2 hy => ?_)
        have := yend_away hy hfi hmy (ep := ep) (by rw [ht]; exact hbar) cm
        rw [ht] at this
        exact this
    · have h6 := b.xa.h6
      have hP6 := c.P1.2
      have hx : h.ps[i]? = some h.ps[i] := List.getElem?_eq_getElem (by omega)
      have hbar : h.bars h.ps[i] ep = 5 := by unfold HS.bars; rw [if_pos d.up]
      have ht : turned y i ep = 5 := by unfold turned speaks; rw [d.dn]; simp
      have hb := end_barred b.xa hm.2 hx (ep := ep) (by rw [hbar]; decide) cm
      rw [hbar] at hb
      refine b.twoE (same_fr hb) (fun w2 hy => ?_)
      have := yend_away hy hfi hmy (ep := ep) (by rw [ht]; decide) cm
      rw [ht] at this
      exact this
  · have hmy : ¬ (0 ≤ m ∧ m ≤ y.P - 1) := by rw [c0.P]; omega
    exact b.twoE (same_fr (end_none b.xa hm ep cm)) (fun w2 hy => same_fr (yend_none hy hmy ep cm))
end

end Go.Proofs.YtkelpcjiediamaaGreat

