/-
  What the calls of a herald leave of its memory; the keeper's write as one; raise, add, end, admit, isEnding.
-/
import Derived.Test.YtkelpcjiediamaaGreatMYMove
import Derived.Test.YtkelpcjiediamaaGreatWrite
namespace Go.Proofs.YtkelpcjiediamaaGreat
open Go.RowKit Go.Maps

/-- A herald that knows h has become one that knows h'; of memory only its own has turned. -/
structure Moved (w w' : World) (B xb n : Nat) (h : HS) (n' : Nat) (h' : HS) : Prop where
  at_ : HAt w' B xb n' h'
  fr : Fr (h.foot xb) w w'
  sub : ∀ k, h'.foot xb k → h.foot xb k ∨ w.heap.size ≤ k

section
variable {w w1 w2 w' : World} {B xb n n1 n2 : Nat} {h h1 h2 : HS}

theorem Moved.refl (hh : HAt w B xb n h) : Moved w w B xb n h n h := ⟨hh, Fr.refl _ _, fun _ => .inl⟩

theorem Moved.trans (a : Moved w w1 B xb n h n1 h1) (b : Moved w1 w2 B xb n1 h1 n2 h2) : Moved w w2 B xb n h n2 h2 :=
  ⟨b.at_, a.fr.trans b.fr (fun k hk => a.sub k hk), fun k hk => by
    rcases b.sub k hk with e | e
    · exact a.sub k e
    · exact .inr (Nat.le_trans a.fr.size e)⟩

/-- Behind it nothing old turned. -/
theorem Moved.after (a : Moved w w1 B xb n h n1 h1) (f : Fr (fun _ => False) w1 w2) : Moved w w2 B xb n h n1 h1 :=
  ⟨a.at_.after f, a.fr.trans f (fun _ h => h.elim), a.sub⟩

/-- Ahead of it nothing old turned. -/
theorem Moved.behind (f : Fr (fun _ => False) w w1) (a : Moved w1 w2 B xb n h n1 h1) : Moved w w2 B xb n h n1 h1 :=
  ⟨a.at_, (f.mono (fun _ h => h.elim)).trans a.fr (fun _ => .inl), fun k hk => by
    rcases a.sub k hk with e | e
    · exact .inl e
    · exact .inr (Nat.le_trans f.size e)⟩

/-- Only the herald's own block was written. -/
theorem Moved.own (f : Fr (fun k => k = xb) w w') {h' : HS} (hh : HAt w' B xb n1 h') (hs : ∀ k, h'.foot xb k → h.foot xb k) : Moved w w' B xb n h n1 h' :=
  ⟨hh, f.mono (fun _ e => .inl (.inl e)), fun k hk => .inl (hs k hk)⟩

theorem Moved.jour {jv : Value} {h' : HS} (f : Fr (fun k => k = xb ∨ h.jv.ownBlock = some k) w w') (hh : HAt w' B xb n h') (hj : h'.jv = jv) (hl : ∀ k, jv.ownBlock = some k → h.jv.ownBlock = some k ∨ w.heap.size ≤ k) (hpv : h'.pv = h.pv) (hfv : h'.fv = h.fv) (hpl : h'.pl = h.pl) : Moved w w' B xb n h n h' := by
  refine ⟨hh, f.mono (fun k e => .inl ?_), fun k hk => ?_⟩
  · rcases e with e | e
    · exact .inl e
    · exact .inr (.inl e)
  · rcases hk with e | e | e | e | e
    · exact .inl (.inl e)
    · rw [hj] at e
      rcases hl k e with a | a
      · exact .inl (.inr (.inl a))
      · exact .inr a
    · rw [hpv] at e; exact .inl (.inr (.inr (.inl e)))
    · rw [hfv] at e; exact .inl (.inr (.inr (.inr (.inl e))))
    · rw [hpl] at e; exact .inl (.inr (.inr (.inr (.inr e))))

/-- What comes of writing a record. -/
inductive WOut (h : HS) (r : Rc) : Bool → HS → Prop
  | ok (jv : Value) (hb : h.br = false) : WOut h r true { h.jot jv (bcs (rbytes r)) with ps := deedAll h.ps r }
  | broke (jv : Value) (hb : h.br = true) : WOut h r false (h.jot jv (bcs ((rbytes r).take h.kp.toNat))).fallen

/-- The keeper may write a record. -/
structure May (h : HS) (r : Rc) : Prop where
  small : ∃ m, m < 1000000000000 ∧ r.Small m
  kp : 0 ≤ h.kp ∧ h.kp ≤ 16
  room : h.jb.length + 16 ≤ 140737488355328
  end_ : r.k = 3 → r.a = 0 ∨ r.a = 1

theorem write_any (hh : HAt w B xb n h) {r : Rc} (hm : May h r) :
    Calls Tryz.prog 118 #[.pointer (some ⟨xb, 4, none⟩), recV r] w fun e w' => ∃ ok h', e = .returned (.bool ok) ∧ WOut h r ok h' ∧ Moved w w' B xb n h n h' := by
  obtain ⟨⟨m, hm1, hs⟩, hkp, hroom, hend⟩ := hm
  cases hbr : h.br
  · have key : Calls Tryz.prog 118 #[.pointer (some ⟨xb, 4, none⟩), recV r] w fun e w' => e = .returned (.bool true) ∧ ∃ jv, Wrote w w' B xb n h r jv := by
      have k0 := hs.k0
      have k1 := hs.k1
      rcases (show r.k = 1 ∨ r.k = 2 ∨ r.k = 3 ∨ r.k = 4 by omega) with e | e | e | e
      · exact write1 hh hbr hs hm1 e hroom
      · exact write2 hh hbr hs hm1 e hroom
      · rcases hend e with a | a
        · exact write3 hh hbr hs hm1 e (c := false) (by simpa using a) hroom
        · exact write3 hh hbr hs hm1 e (c := true) (by simpa using a) hroom
      · exact write4 hh hbr hs hm1 e hroom
    refine key.mono fun _ w2 ⟨h1, jv, h2⟩ => ⟨true, _, h1, .ok jv hbr, ?_⟩
    exact Moved.jour h2.fr h2.at_ rfl h2.lies rfl rfl rfl
  · obtain ⟨kk, hkk⟩ := Int.eq_ofNat_of_zero_le hkp.1
    have key : Calls Tryz.prog 118 #[.pointer (some ⟨xb, 4, none⟩), recV r] w fun e w' => e = .returned (.bool false) ∧ ∃ jv, Broke w w' B xb n h r kk jv := by
      rcases Nat.eq_zero_or_pos kk with e | e
      · subst e
        exact write_broke0 hh hbr hkk hs hm1
      · exact write_broke hh hbr hkk (by omega) e hs hm1 hroom
    refine key.mono fun _ w2 ⟨h1, jv, h2⟩ => ⟨false, _, h1, .broke jv hbr, ?_⟩
    have e : h.kp.toNat = kk := by omega
    rw [e]
    exact Moved.jour h2.fr h2.at_ rfl h2.lies rfl rfl rfl

set_option maxRecDepth 100000 in
set_option maxHeartbeats 1600000 in
theorem raise_any (hh : HAt w B xb n h) {i : Nat} {x : PS} (hx : h.ps[i]? = some x) (hm : May h ⟨1, i, 0, x.e + 1⟩) :
    Calls Tryz.prog 129 #[.pointer (some ⟨xb, 4, none⟩), .int .i64 i] w fun e w' => ∃ ok h', e = .returned (.bool ok) ∧ WOut h ⟨1, i, 0, x.e + 1⟩ ok h' ∧ Moved w w' B xb n h n h' := by
  have HC : Hid (∀ W, HAt W B xb n h → Calls Tryz.prog 118 #[.pointer (some ⟨xb, 4, none⟩), .agg #[.int .i64 1, .int .i64 i, .int .i64 0, .int .i64 (x.e + 1)]] W fun e w' => ∃ ok h', e = .returned (.bool ok) ∧ WOut h ⟨1, i, 0, x.e + 1⟩ ok h' ∧ Moved W w' B xb n h n h') := fun W hW => write_any hW hm
  have HH : Hid (HAt w B xb n h) := hh
  obtain ⟨⟨e0, e1, e2⟩, ef⟩ := hh.cellP hx
  obtain ⟨m, hm1, hs⟩ := hm.small
  have hx0 : 0 ≤ x.e + 1 := hs.m0
  have hx1 : x.e + 1 ≤ m + 1 := hs.m1
  have hi1 : (i : Int) < 6 := hs.p1
  have hi0 : (0 : Int) ≤ (i : Int) := by omega
  have hxl := lt_of_block hh.blk
  clear hh hx hm hs e1 e2
  go_enter Tryz.func129, Tryz.ntmps129
  go_wp2_with (first
    | (go_at_call 118; refine (HC.out _ (by exact HH.out)).mono ?_; rintro e w1 ⟨ok, h', rfl, ho, hmv⟩
       have R1 : Hid (WOut h ⟨1, i, 0, x.e + 1⟩ ok h' ∧ Moved w w1 B xb n h n h') := ⟨ho, hmv⟩
       clear ho hmv))
  go_ret
  exact ⟨ok, h', rfl, R1.out⟩
end

end Go.Proofs.YtkelpcjiediamaaGreat

/-
  The keeper's add, end, admit; isEnding; find.
-/
namespace Go.Proofs.YtkelpcjiediamaaGreat
open Go.RowKit Go.Maps

section
variable {w w' : World} {B xb n : Nat} {h : HS}

/-- What a call that writes a record leaves. -/
inductive WPost (h : HS) (r : Rc) (w : World) (B xb n : Nat) : Ending → World → Prop
  | mk {ok : Bool} {h' : HS} {w' : World} (ho : WOut h r ok h') (hm : Moved w w' B xb n h n h') : WPost h r w B xb n (.returned (.bool ok)) w'

/-- The number of the transaction that an Add speaks of. -/
def PS.next (x : PS) : Int := if x.s = 0 then x.t + 1 else x.t

set_option maxRecDepth 100000 in
set_option maxHeartbeats 1600000 in
theorem kadd_any (hh : HAt w B xb n h) {i : Nat} {x : PS} (hx : h.ps[i]? = some x) {q : Int} (hm : May h ⟨2, i, q, x.next⟩) :
    Calls Tryz.prog 125 #[.pointer (some ⟨xb, 4, none⟩), .int .i64 i, .int .i64 q] w fun e w' => ∃ ok h', e = .returned (.bool ok) ∧ WOut h ⟨2, i, q, x.next⟩ ok h' ∧ Moved w w' B xb n h n h' := by
  have HH : Hid (HAt w B xb n h) := hh
  have HM : Hid (May h ⟨2, i, q, x.next⟩) := hm
  obtain ⟨⟨e0, e1, e2⟩, ef⟩ := hh.cellP hx
  obtain ⟨m, hm1, hs⟩ := hm.small
  have hx0 : 0 ≤ x.next := hs.m0
  have hx1 : x.next ≤ m + 1 := hs.m1
  have hi1 : (i : Int) < 6 := hs.p1
  have hi0 : (0 : Int) ≤ (i : Int) := by omega
  have hxl := lt_of_block hh.blk
  clear hh hx hm hs e0
  by_cases h0 : x.s = 0
  · have hn : x.next = x.t + 1 := by simp [PS.next, h0]
    have HC : Hid (∀ W, HAt W B xb n h → Calls Tryz.prog 118 #[.pointer (some ⟨xb, 4, none⟩), .agg #[.int .i64 2, .int .i64 i, .int .i64 q, .int .i64 (x.t + 1)]] W fun e w' => ∃ ok h', e = .returned (.bool ok) ∧ WOut h ⟨2, i, q, x.next⟩ ok h' ∧ Moved W w' B xb n h n h') := fun W hW => by
      have := write_any hW HM.out
      unfold recV at this
      simp only [hn] at this ⊢
      exact this
    rw [h0] at e2
    rw [hn] at hx0 hx1
    clear hn h0
    go_enter Tryz.func125, Tryz.ntmps125
    go_wp2_with (first
      | (go_at_call 118; refine (HC.out _ (by exact HH.out)).mono ?_; rintro e w1 ⟨ok, h', rfl, ho, hmv⟩
         have R1 : Hid (WOut h ⟨2, i, q, x.next⟩ ok h' ∧ Moved w w1 B xb n h n h') := ⟨ho, hmv⟩
         clear ho hmv))
    go_ret
    exact ⟨ok, h', rfl, R1.out⟩
  · have hn : x.next = x.t := by simp [PS.next, h0]
    have HC : Hid (∀ W, HAt W B xb n h → Calls Tryz.prog 118 #[.pointer (some ⟨xb, 4, none⟩), .agg #[.int .i64 2, .int .i64 i, .int .i64 q, .int .i64 x.t]] W fun e w' => ∃ ok h', e = .returned (.bool ok) ∧ WOut h ⟨2, i, q, x.next⟩ ok h' ∧ Moved W w' B xb n h n h') := fun W hW => by
      have := write_any hW HM.out
      unfold recV at this
      simp only [hn] at this ⊢
      exact this
    have hsb : (x.s == 0) = false := by simpa using h0
    clear hn h0
    go_enter Tryz.func125, Tryz.ntmps125
    go_wp2_with (first
      | (go_at_call 118; refine (HC.out _ (by exact HH.out)).mono ?_; rintro e w1 ⟨ok, h', rfl, ho, hmv⟩
         have R1 : Hid (WOut h ⟨2, i, q, x.next⟩ ok h' ∧ Moved w w1 B xb n h n h') := ⟨ho, hmv⟩
         clear ho hmv))
    go_ret
    exact ⟨ok, h', rfl, R1.out⟩

set_option maxRecDepth 100000 in
set_option maxHeartbeats 1600000 in
theorem kend_any (hh : HAt w B xb n h) {i : Nat} {x : PS} (hx : h.ps[i]? = some x) (c : Bool) (hm : May h ⟨3, i, if c then 1 else 0, x.t⟩) :
    Calls Tryz.prog 67 #[.pointer (some ⟨xb, 4, none⟩), .int .i64 i, .bool c] w (WPost h ⟨3, i, if c then 1 else 0, x.t⟩ w B xb n) := by
  have HH : Hid (HAt w B xb n h) := hh
  have HM : Hid (May h ⟨3, i, if c then 1 else 0, x.t⟩) := hm
  obtain ⟨⟨e0, e1, e2⟩, ef⟩ := hh.cellP hx
  obtain ⟨m, hm1, hs⟩ := hm.small
  have hi1 : (i : Int) < 6 := hs.p1
  have hi0 : (0 : Int) ≤ (i : Int) := by omega
  have hxl := lt_of_block hh.blk
  clear hh hx hm hs e0
  cases c
  · have HC : Hid (∀ W, HAt W B xb n h → Calls Tryz.prog 118 #[.pointer (some ⟨xb, 4, none⟩), .agg #[.int .i64 3, .int .i64 i, .int .i64 0, .int .i64 x.t]] W fun e w' => ∃ ok h', e = .returned (.bool ok) ∧ WOut h ⟨3, i, 0, x.t⟩ ok h' ∧ Moved W w' B xb n h n h') := fun W hW => write_any hW HM.out
    go_enter Tryz.func67, Tryz.ntmps67
    go_wp2_with (first
      | (go_at_call 118; refine (HC.out _ (by exact HH.out.after (nofr _))).mono ?_; rintro e w1 ⟨ok, h', rfl, ho, hmv⟩
         have R1 : Hid (WOut h ⟨3, i, 0, x.t⟩ ok h' ∧ Moved w w1 B xb n h n h') := ⟨ho, hmv.behind (nofr _)⟩
         clear ho hmv))
    go_ret
    exact .mk R1.out.1 R1.out.2
  · have HC : Hid (∀ W, HAt W B xb n h → Calls Tryz.prog 118 #[.pointer (some ⟨xb, 4, none⟩), .agg #[.int .i64 3, .int .i64 i, .int .i64 1, .int .i64 x.t]] W fun e w' => ∃ ok h', e = .returned (.bool ok) ∧ WOut h ⟨3, i, 1, x.t⟩ ok h' ∧ Moved W w' B xb n h n h') := fun W hW => write_any hW HM.out
    go_enter Tryz.func67, Tryz.ntmps67
    go_wp2_with (first
      | (go_at_call 118; refine (HC.out _ (by exact HH.out.after (nofr _))).mono ?_; rintro e w1 ⟨ok, h', rfl, ho, hmv⟩
         have R1 : Hid (WOut h ⟨3, i, 1, x.t⟩ ok h' ∧ Moved w w1 B xb n h n h') := ⟨ho, hmv.behind (nofr _)⟩
         clear ho hmv))
    go_ret
    exact .mk R1.out.1 R1.out.2

/-- What bars a producer of this epoch. -/
def HS.bars (h : HS) (x : PS) (e : Int) : Int := if h.up = false then 5 else if e = 0 ∨ e ≠ x.e then 7 else 0

set_option maxRecDepth 100000 in
theorem admit_any (hh : HAt w B xb n h) {i : Nat} (hi : i < 6) {x : PS} (hx : h.ps[i]? = some x) (ep : Int) :
    Calls Tryz.prog 65 #[.pointer (some ⟨xb, 4, none⟩), .int .i64 i, .int .i64 ep] w fun e w' => e = .returned (.int .i64 (h.bars x ep)) ∧ w = w' := by
  obtain ⟨⟨e0, e1, e2⟩, ef⟩ := hh.cellP hx
  have c5 := hh.cU
  have hi1 : (i : Int) < 6 := by omega
  have hi0 : (0 : Int) ≤ (i : Int) := by omega
  clear hh hx e1 e2
  cases hu : h.up
  · rw [hu] at c5
    go_enter Tryz.func65, Tryz.ntmps65
    go_wp2
    go_ret
    exact ⟨by simp [HS.bars, hu], rfl⟩
  · rw [hu] at c5
    by_cases h1 : ep = 0
    · subst h1
      go_enter Tryz.func65, Tryz.ntmps65
      go_wp2
      go_ret
      exact ⟨by simp [HS.bars, hu], rfl⟩
    · have b1 : (ep == 0) = false := by simpa using h1
      by_cases h2 : ep = x.e
      · subst h2
        go_enter Tryz.func65, Tryz.ntmps65
        go_wp2
        go_ret
        exact ⟨by simp [HS.bars, hu, h1], rfl⟩
      · have b2 : (ep == x.e) = false := by simpa using h2
        go_enter Tryz.func65, Tryz.ntmps65
        go_wp2
        go_ret
        exact ⟨by simp [HS.bars, hu, h2], rfl⟩

set_option maxRecDepth 100000 in
theorem isEnding_any {o : Nat} (s : Int) (e2 : w.cell? ⟨xb, o + 2, none⟩ = some (.int .i64 s)) :
    Calls Tryz.prog 66 #[.pointer (some ⟨xb, o, none⟩)] w fun e w' => e = .returned (.bool (decide (s = 2 ∨ s = 3))) ∧ w = w' := by
  by_cases h1 : s = 2
  · subst h1
    go_enter Tryz.func66, Tryz.ntmps66
    go_wp2
    go_ret
    exact ⟨rfl, rfl⟩
  · have b1 : (s == 2) = false := by simpa using h1
    by_cases h2 : s = 3
    · subst h2
      go_enter Tryz.func66, Tryz.ntmps66
      go_wp2
      go_ret
      exact ⟨rfl, rfl⟩
    · have b2 : (s == 3) = false := by simpa using h2
      go_enter Tryz.func66, Tryz.ntmps66
      go_wp2
      go_ret
      exact ⟨by simp [h1, h2], rfl⟩

/-- Which of the two there is not. -/
def HS.lacks (h : HS) (p q : Int) : Int := if 0 ≤ p ∧ p < h.P then (if 0 ≤ q ∧ q < h.pl.length then 0 else 3) else 2

set_option maxRecDepth 100000 in
theorem find_any (hh : HAt w B xb n h) (p q : Int) :
    Calls Tryz.prog 124 #[.pointer (some ⟨xb, 0, none⟩), .int .i64 p, .int .i64 q] w fun e w' => e = .returned (.int .i64 (h.lacks p q)) ∧ w = w' := by
  have HH : Hid (HAt w B xb n h) := hh
  by_cases h1 : 0 ≤ p ∧ p < h.P
  · have HP : Hid (decide (0 ≤ p ∧ p < h.P) = true) := decide_eq_true h1
    by_cases h2 : 0 ≤ q ∧ q < h.pl.length
    · have HQ : Hid (decide (0 ≤ q ∧ q < h.pl.length) = true) := decide_eq_true h2
      have HL : Hid (h.lacks p q = 0) := by show h.lacks p q = 0; simp [HS.lacks, h1, h2]
      clear hh h1 h2
      go_enter Tryz.func124, Tryz.ntmps124
      go_wp2_with (first
        | (go_at_call 64; refine (hasProducer_any HH.out p).mono ?_; rw [HP.out]; rintro e w1 ⟨rfl, rfl⟩)
        | (go_at_call 50; refine (hasPart_any HH.out q).mono ?_; rw [HQ.out]; rintro e w2 ⟨rfl, rfl⟩))
      go_ret
      exact ⟨by rw [HL.out] <;> rfl, rfl⟩
    · have HQ : Hid (decide (0 ≤ q ∧ q < h.pl.length) = false) := decide_eq_false h2
      have HL : Hid (h.lacks p q = 3) := by show h.lacks p q = 3; simp only [HS.lacks, if_pos h1, if_neg h2]
      clear hh h1 h2
      go_enter Tryz.func124, Tryz.ntmps124
      go_wp2_with (first
        | (go_at_call 64; refine (hasProducer_any HH.out p).mono ?_; rw [HP.out]; rintro e w1 ⟨rfl, rfl⟩)
        | (go_at_call 50; refine (hasPart_any HH.out q).mono ?_; rw [HQ.out]; rintro e w2 ⟨rfl, rfl⟩))
      go_ret
      exact ⟨by rw [HL.out] <;> rfl, rfl⟩
  · have HP : Hid (decide (0 ≤ p ∧ p < h.P) = false) := decide_eq_false h1
    have HL : Hid (h.lacks p q = 2) := by show h.lacks p q = 2; simp only [HS.lacks, if_neg h1]
    clear hh h1
    go_enter Tryz.func124, Tryz.ntmps124
    go_wp2_with (first
      | (go_at_call 64; refine (hasProducer_any HH.out p).mono ?_; rw [HP.out]; rintro e w1 ⟨rfl, rfl⟩))
    go_ret
    exact ⟨by rw [HL.out] <;> rfl, rfl⟩
end

end Go.Proofs.YtkelpcjiediamaaGreat

/-
  The program's Init and End.
-/
namespace Go.Proofs.YtkelpcjiediamaaGreat
open Go.RowKit Go.Maps

section
variable {w w' : World} {B xb n : Nat} {h : HS}

theorem raise_post (hh : HAt w B xb n h) {i : Nat} {x : PS} (hx : h.ps[i]? = some x) (hm : May h ⟨1, i, 0, x.e + 1⟩) : Calls Tryz.prog 129 #[.pointer (some ⟨xb, 4, none⟩), .int .i64 i] w (WPost h ⟨1, i, 0, x.e + 1⟩ w B xb n) :=
  (raise_any hh hx hm).mono fun _ _ ⟨ok, h', h1, h2, h3⟩ => by rw [h1]; exact .mk h2 h3

theorem kadd_post (hh : HAt w B xb n h) {i : Nat} {x : PS} (hx : h.ps[i]? = some x) {q : Int} (hm : May h ⟨2, i, q, x.next⟩) : Calls Tryz.prog 125 #[.pointer (some ⟨xb, 4, none⟩), .int .i64 i, .int .i64 q] w (WPost h ⟨2, i, q, x.next⟩ w B xb n) :=
  (kadd_any hh hx hm).mono fun _ _ ⟨ok, h', h1, h2, h3⟩ => by rw [h1]; exact .mk h2 h3

set_option maxRecDepth 100000 in
theorem init_none (hh : HAt w B xb n h) {m : Int} (hm : ¬ (0 ≤ m ∧ m < h.P)) :
    Calls Tryz.prog 74 #[.pointer (some ⟨xb, 0, none⟩), .int .i64 m] w fun e w' => e = .returned (.tuple #[.int .i64 0, .int .i64 2]) ∧ w = w' := by
  have HH : Hid (HAt w B xb n h) := hh
  have HP : Hid (decide (0 ≤ m ∧ m < h.P) = false) := decide_eq_false hm
  clear hh hm
  go_enter Tryz.func74, Tryz.ntmps74
  go_wp2_with (go_at_call 64; refine (hasProducer_any HH.out m).mono ?_; rw [HP.out]; rintro e w1 ⟨rfl, rfl⟩)
  go_ret2
  exact ⟨rfl, rfl⟩

set_option maxRecDepth 100000 in
theorem init_down (hh : HAt w B xb n h) {m : Int} (hm : 0 ≤ m ∧ m < h.P) (hu : h.up = false) :
    Calls Tryz.prog 74 #[.pointer (some ⟨xb, 0, none⟩), .int .i64 m] w fun e w' => e = .returned (.tuple #[.int .i64 0, .int .i64 5]) ∧ w = w' := by
  have HH : Hid (HAt w B xb n h) := hh
  have HP : Hid (decide (0 ≤ m ∧ m < h.P) = true) := decide_eq_true hm
  have c5 := hh.cU
  rw [hu] at c5
  clear hh hm
  go_enter Tryz.func74, Tryz.ntmps74
  go_wp2_with (go_at_call 64; refine (hasProducer_any HH.out m).mono ?_; rw [HP.out]; rintro e w1 ⟨rfl, rfl⟩)
  go_ret2
  exact ⟨rfl, rfl⟩

/-- What Init leaves where it aborts what is ongoing. -/
inductive IBusy (h : HS) (r : Rc) (w : World) (B xb n : Nat) : Ending → World → Prop
  | mk {ok : Bool} {h' : HS} {w' : World} (ho : WOut h r ok h') (hm : Moved w w' B xb n h n h') : IBusy h r w B xb n (.returned (.tuple #[.int .i64 0, .int .i64 9])) w'

set_option maxRecDepth 100000 in
set_option maxHeartbeats 800000 in
theorem init_busy (hh : HAt w B xb n h) {i : Nat} (hm : (i : Int) < h.P) (hu : h.up = true) {x : PS} (hx : h.ps[i]? = some x) (hs : x.s = 1) (hy : May h ⟨3, i, 0, x.t⟩) :
    Calls Tryz.prog 74 #[.pointer (some ⟨xb, 0, none⟩), .int .i64 i] w (IBusy h ⟨3, i, 0, x.t⟩ w B xb n) := by
  have HH : Hid (HAt w B xb n h) := hh
  have HP : Hid (decide (0 ≤ (i : Int) ∧ (i : Int) < h.P) = true) := decide_eq_true ⟨by omega, hm⟩
  have HC : Hid (Calls Tryz.prog 67 #[.pointer (some ⟨xb, 4, none⟩), .int .i64 i, .bool false] w (WPost h ⟨3, i, 0, x.t⟩ w B xb n)) := kend_any hh hx false hy
  have c5 := hh.cU
  rw [hu] at c5
  obtain ⟨⟨e0, e1, e2⟩, ef⟩ := hh.cellP hx
  rw [hs] at e2
  have hi1 : (i : Int) < 6 := by have := hh.hP.2; omega
  have hi0 : (0 : Int) ≤ (i : Int) := by omega
  clear hh hm hx hy
  go_enter Tryz.func74, Tryz.ntmps74
  go_wp2_with (first
    | (go_at_call 64; refine (hasProducer_any HH.out i).mono ?_; rw [HP.out]; rintro e w1 ⟨rfl, rfl⟩)
    | (go_at_call 67; refine HC.out.mono ?_; rintro e w2 ⟨ho, hmv⟩
       rename_i ok h'
       have R2 : Hid (WOut h ⟨3, i, 0, x.t⟩ ok h' ∧ Moved w w2 B xb n h n h') := ⟨ho, hmv⟩
       clear ho hmv))
  go_ret2
  exact .mk R2.out.1 R2.out.2

set_option maxRecDepth 100000 in
set_option maxHeartbeats 800000 in
theorem init_ending (hh : HAt w B xb n h) {i : Nat} (hm : (i : Int) < h.P) (hu : h.up = true) {x : PS} (hx : h.ps[i]? = some x) (hs : x.s = 2 ∨ x.s = 3) :
    Calls Tryz.prog 74 #[.pointer (some ⟨xb, 0, none⟩), .int .i64 i] w fun e w' => e = .returned (.tuple #[.int .i64 0, .int .i64 9]) ∧ w = w' := by
  have HH : Hid (HAt w B xb n h) := hh
  have HP : Hid (decide (0 ≤ (i : Int) ∧ (i : Int) < h.P) = true) := decide_eq_true ⟨by omega, hm⟩
  have HE : Hid (decide (x.s = 2 ∨ x.s = 3) = true) := decide_eq_true hs
  have c5 := hh.cU
  rw [hu] at c5
  obtain ⟨⟨e0, e1, e2⟩, ef⟩ := hh.cellP hx
  have hs1 : (x.s == 1) = false := by simp; omega
  have hi1 : (i : Int) < 6 := by have := hh.hP.2; omega
  have hi0 : (0 : Int) ≤ (i : Int) := by omega
  have HE2 : Hid (w.cell? ⟨xb, 6 + i * 10 + 2, none⟩ = some (.int .i64 x.s)) := e2
  clear hh hm hx hs
  go_enter Tryz.func74, Tryz.ntmps74
  go_wp2_with (first
    | (go_at_call 64; refine (hasProducer_any HH.out i).mono ?_; rw [HP.out]; rintro e w1 ⟨rfl, rfl⟩)
    | (go_at_call 66; refine (isEnding_any x.s HE2.out).mono ?_; rw [HE.out]; rintro e w1 ⟨rfl, rfl⟩))
  go_ret2
  exact ⟨rfl, rfl⟩

/-- What Init leaves where there is nothing to abort. -/
inductive IIdle (h : HS) (r : Rc) (w : World) (B xb n : Nat) : Ending → World → Prop
  | ok {h' : HS} {w' : World} (ho : WOut h r true h') (hm : Moved w w' B xb n h n h') : IIdle h r w B xb n (.returned (.tuple #[.int .i64 r.m, .int .i64 0])) w'
  | broke {h' : HS} {w' : World} (ho : WOut h r false h') (hm : Moved w w' B xb n h n h') : IIdle h r w B xb n (.returned (.tuple #[.int .i64 0, .int .i64 5])) w'

theorem deed_get {h h' : HS} {i : Nat} {x : PS} {r : Rc} (hx : h.ps[i]? = some x) (hr : r.p = i) (ho : WOut h r true h') : h'.ps[i]? = some (x.deed r) := by
  cases ho with
  | ok jv hb =>
    have hi : i < h.ps.length := (List.getElem?_eq_some_iff.1 hx).1
    have e : r.p.toNat = i := by omega
    show (deedAll h.ps r)[i]? = _
    unfold deedAll
    rw [e, List.getElem?_set_self hi]
    simp [List.getD, hx]

set_option maxRecDepth 100000 in
set_option maxHeartbeats 1600000 in
theorem init_idle (hh : HAt w B xb n h) {i : Nat} (hm : (i : Int) < h.P) (hu : h.up = true) {x : PS} (hx : h.ps[i]? = some x) (hs : x.s = 0) (hy : May h ⟨1, i, 0, x.e + 1⟩) :
    Calls Tryz.prog 74 #[.pointer (some ⟨xb, 0, none⟩), .int .i64 i] w (IIdle h ⟨1, i, 0, x.e + 1⟩ w B xb n) := by
  have HH : Hid (HAt w B xb n h) := hh
  have HX : Hid (h.ps[i]? = some x) := hx
  have HP : Hid (decide (0 ≤ (i : Int) ∧ (i : Int) < h.P) = true) := decide_eq_true ⟨by omega, hm⟩
  have HC : Hid (Calls Tryz.prog 129 #[.pointer (some ⟨xb, 4, none⟩), .int .i64 i] w (WPost h ⟨1, i, 0, x.e + 1⟩ w B xb n)) := raise_post hh hx hy
  have c5 := hh.cU
  rw [hu] at c5
  obtain ⟨⟨e0, e1, e2⟩, ef⟩ := hh.cellP hx
  rw [hs] at e2
  have HE2 : Hid (w.cell? ⟨xb, 6 + i * 10 + 2, none⟩ = some (.int .i64 0)) := e2
  have hi1 : (i : Int) < 6 := by have := hh.hP.2; omega
  have hi0 : (0 : Int) ≤ (i : Int) := by omega
  clear hh hm hx hy
  go_enter Tryz.func74, Tryz.ntmps74
  go_wp2_with (first
    | (go_at_call 64; refine (hasProducer_any HH.out i).mono ?_; rw [HP.out]; rintro e w1 ⟨rfl, rfl⟩)
    | (go_at_call 66; refine (isEnding_any 0 HE2.out).mono ?_; rintro e w1 ⟨rfl, rfl⟩)
    | (go_at_call 129; fail))
  refine HC.out.mono ?_
  rintro e w2 ⟨ho, hmv⟩
  rename_i ok h'
  cases ok
  · have R2 : Hid (WOut h ⟨1, i, 0, x.e + 1⟩ false h' ∧ Moved w w2 B xb n h n h') := ⟨ho, hmv⟩
    clear ho hmv
    go_wp2_with fail
    go_ret2
    exact .broke R2.out.1 R2.out.2
  · have R2 : Hid (WOut h ⟨1, i, 0, x.e + 1⟩ true h' ∧ Moved w w2 B xb n h n h') := ⟨ho, hmv⟩
    have d0 : w2.cell? ⟨xb, 6 + i * 10, none⟩ = some (.int .i64 (x.e + 1)) := by
      have := (hmv.at_.cellP (deed_get HX.out rfl ho)).1.1
      simpa [PS.deed] using this
    clear ho hmv e0
    go_wp2_with fail
    go_ret2
    exact .ok R2.out.1 R2.out.2

/-! End -/
set_option maxRecDepth 100000 in
theorem end_none (hh : HAt w B xb n h) {m : Int} (hm : ¬ (0 ≤ m ∧ m < h.P)) (ep : Int) (c : Bool) :
    Calls Tryz.prog 28 #[.pointer (some ⟨xb, 0, none⟩), .int .i64 m, .int .i64 ep, .bool c] w fun e w' => e = .returned (.int .i64 2) ∧ w = w' := by
  have HH : Hid (HAt w B xb n h) := hh
  have HP : Hid (decide (0 ≤ m ∧ m < h.P) = false) := decide_eq_false hm
  clear hh hm
  go_enter Tryz.func28, Tryz.ntmps28
  go_wp2_with (go_at_call 64; refine (hasProducer_any HH.out m).mono ?_; rw [HP.out]; rintro e w1 ⟨rfl, rfl⟩)
  go_ret
  exact ⟨rfl, rfl⟩

set_option maxRecDepth 100000 in
theorem end_barred (hh : HAt w B xb n h) {i : Nat} (hm : (i : Int) < h.P) {x : PS} (hx : h.ps[i]? = some x) {ep : Int} (hb : h.bars x ep ≠ 0) (c : Bool) :
    Calls Tryz.prog 28 #[.pointer (some ⟨xb, 0, none⟩), .int .i64 i, .int .i64 ep, .bool c] w fun e w' => e = .returned (.int .i64 (h.bars x ep)) ∧ w = w' := by
  have HH : Hid (HAt w B xb n h) := hh
  have HX : Hid (h.ps[i]? = some x) := hx
  have HP : Hid (decide (0 ≤ (i : Int) ∧ (i : Int) < h.P) = true) := decide_eq_true ⟨by omega, hm⟩
  have hi6 : i < 6 := by have := hh.hP.2; omega
  obtain ⟨b, hbe⟩ : ∃ b, h.bars x ep = b := ⟨_, rfl⟩
  have HB : Hid (h.bars x ep = b) := hbe
  rw [hbe] at hb ⊢
  have hb0 : (b == 0) = false := by simpa using hb
  clear hh hm hx hbe
  go_enter Tryz.func28, Tryz.ntmps28
  go_wp2_with (first
    | (go_at_call 64; refine (hasProducer_any HH.out i).mono ?_; rw [HP.out]; rintro e w1 ⟨rfl, rfl⟩)
    | (go_at_call 65; refine (admit_any HH.out hi6 HX.out ep).mono ?_; rw [HB.out]; rintro e w1 ⟨rfl, rfl⟩))
  go_ret
  exact ⟨rfl, rfl⟩

set_option maxRecDepth 100000 in
theorem end_idle (hh : HAt w B xb n h) {i : Nat} (hm : (i : Int) < h.P) {x : PS} (hx : h.ps[i]? = some x) {ep : Int} (hb : h.bars x ep = 0) (hs : x.s = 0) (c : Bool) :
    Calls Tryz.prog 28 #[.pointer (some ⟨xb, 0, none⟩), .int .i64 i, .int .i64 ep, .bool c] w fun e w' => e = .returned (.int .i64 8) ∧ w = w' := by
  have HH : Hid (HAt w B xb n h) := hh
  have HX : Hid (h.ps[i]? = some x) := hx
  have HP : Hid (decide (0 ≤ (i : Int) ∧ (i : Int) < h.P) = true) := decide_eq_true ⟨by omega, hm⟩
  have hi6 : i < 6 := by have := hh.hP.2; omega
  have HB : Hid (h.bars x ep = 0) := hb
  obtain ⟨⟨e0, e1, e2⟩, ef⟩ := hh.cellP hx
  rw [hs] at e2
  have hi1 : (i : Int) < 6 := by omega
  have hi0 : (0 : Int) ≤ (i : Int) := by omega
  clear hh hm hx hb
  go_enter Tryz.func28, Tryz.ntmps28
  go_wp2_with (first
    | (go_at_call 64; refine (hasProducer_any HH.out i).mono ?_; rw [HP.out]; rintro e w1 ⟨rfl, rfl⟩)
    | (go_at_call 65; refine (admit_any HH.out hi6 HX.out ep).mono ?_; rw [HB.out]; rintro e w1 ⟨rfl, rfl⟩))
  go_ret
  exact ⟨rfl, rfl⟩

set_option maxRecDepth 100000 in
theorem end_busy (hh : HAt w B xb n h) {i : Nat} (hm : (i : Int) < h.P) {x : PS} (hx : h.ps[i]? = some x) {ep : Int} (hb : h.bars x ep = 0) (hs : x.s = 2 ∨ x.s = 3) (c : Bool) :
    Calls Tryz.prog 28 #[.pointer (some ⟨xb, 0, none⟩), .int .i64 i, .int .i64 ep, .bool c] w fun e w' => e = .returned (.int .i64 9) ∧ w = w' := by
  have HH : Hid (HAt w B xb n h) := hh
  have HX : Hid (h.ps[i]? = some x) := hx
  have HP : Hid (decide (0 ≤ (i : Int) ∧ (i : Int) < h.P) = true) := decide_eq_true ⟨by omega, hm⟩
  have hi6 : i < 6 := by have := hh.hP.2; omega
  have HB : Hid (h.bars x ep = 0) := hb
  have HE : Hid (decide (x.s = 2 ∨ x.s = 3) = true) := decide_eq_true hs
  obtain ⟨⟨e0, e1, e2⟩, ef⟩ := hh.cellP hx
  have hs1 : (x.s == 0) = false := by simp; omega
  have HE2 : Hid (w.cell? ⟨xb, 6 + i * 10 + 2, none⟩ = some (.int .i64 x.s)) := e2
  have hi1 : (i : Int) < 6 := by omega
  have hi0 : (0 : Int) ≤ (i : Int) := by omega
  clear hh hm hx hb hs
  go_enter Tryz.func28, Tryz.ntmps28
  go_wp2_with (first
    | (go_at_call 64; refine (hasProducer_any HH.out i).mono ?_; rw [HP.out]; rintro e w1 ⟨rfl, rfl⟩)
    | (go_at_call 65; refine (admit_any HH.out hi6 HX.out ep).mono ?_; rw [HB.out]; rintro e w1 ⟨rfl, rfl⟩)
    | (go_at_call 66; refine (isEnding_any x.s HE2.out).mono ?_; rw [HE.out]; rintro e w1 ⟨rfl, rfl⟩))
  go_ret
  exact ⟨rfl, rfl⟩

/-- What a decision leaves. -/
inductive EOut (h : HS) (r : Rc) (w : World) (B xb n : Nat) : Ending → World → Prop
  | ok {h' : HS} {w' : World} (ho : WOut h r true h') (hm : Moved w w' B xb n h n h') : EOut h r w B xb n (.returned (.int .i64 0)) w'
  | broke {h' : HS} {w' : World} (ho : WOut h r false h') (hm : Moved w w' B xb n h n h') : EOut h r w B xb n (.returned (.int .i64 5)) w'

set_option maxRecDepth 100000 in
set_option maxHeartbeats 1600000 in
theorem end_going (hh : HAt w B xb n h) {i : Nat} (hm : (i : Int) < h.P) {x : PS} (hx : h.ps[i]? = some x) {ep : Int} (hb : h.bars x ep = 0) (hs : x.s = 1) (c : Bool) (hy : May h ⟨3, i, if c then 1 else 0, x.t⟩) :
    Calls Tryz.prog 28 #[.pointer (some ⟨xb, 0, none⟩), .int .i64 i, .int .i64 ep, .bool c] w (EOut h ⟨3, i, if c then 1 else 0, x.t⟩ w B xb n) := by
  have HH : Hid (HAt w B xb n h) := hh
  have HX : Hid (h.ps[i]? = some x) := hx
  have HP : Hid (decide (0 ≤ (i : Int) ∧ (i : Int) < h.P) = true) := decide_eq_true ⟨by omega, hm⟩
  have hi6 : i < 6 := by have := hh.hP.2; omega
  have HB : Hid (h.bars x ep = 0) := hb
  obtain ⟨r, hr⟩ : ∃ r : Rc, (⟨3, i, if c then 1 else 0, x.t⟩ : Rc) = r := ⟨_, rfl⟩
  have HC : Hid (Calls Tryz.prog 67 #[.pointer (some ⟨xb, 4, none⟩), .int .i64 i, .bool c] w (WPost h r w B xb n)) := by have := kend_any hh hx c hy; rw [hr] at this; exact this
  rw [hr]
  obtain ⟨⟨e0, e1, e2⟩, ef⟩ := hh.cellP hx
  rw [hs] at e2
  have HE2 : Hid (w.cell? ⟨xb, 6 + i * 10 + 2, none⟩ = some (.int .i64 1)) := e2
  have hi1 : (i : Int) < 6 := by omega
  have hi0 : (0 : Int) ≤ (i : Int) := by omega
  clear hh hm hx hb hy hr
  go_enter Tryz.func28, Tryz.ntmps28
  go_wp2_with (first
    | (go_at_call 64; refine (hasProducer_any HH.out i).mono ?_; rw [HP.out]; rintro e w1 ⟨rfl, rfl⟩)
    | (go_at_call 65; refine (admit_any HH.out hi6 HX.out ep).mono ?_; rw [HB.out]; rintro e w1 ⟨rfl, rfl⟩)
    | (go_at_call 66; refine (isEnding_any 1 HE2.out).mono ?_; rintro e w1 ⟨rfl, rfl⟩)
    | (go_at_call 67; fail))
  refine HC.out.mono ?_
  rintro e w2 ⟨ho, hmv⟩
  rename_i ok h'
  cases ok
  · have R2 : Hid (WOut h r false h' ∧ Moved w w2 B xb n h n h') := ⟨ho, hmv⟩
    clear ho hmv
    go_wp2_with fail
    go_ret
    exact .broke R2.out.1 R2.out.2
  · have R2 : Hid (WOut h r true h' ∧ Moved w w2 B xb n h n h') := ⟨ho, hmv⟩
    clear ho hmv
    go_wp2_with fail
    go_ret
    exact .ok R2.out.1 R2.out.2
end

end Go.Proofs.YtkelpcjiediamaaGreat
