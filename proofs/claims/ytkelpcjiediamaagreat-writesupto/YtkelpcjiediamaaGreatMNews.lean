/-
  All that can be asked in the end; the same behind a crash and a restart.
-/
import Derived.Test.YtkelpcjiediamaaGreatMAll
import Derived.Test.YtkelpcjiediamaaGreatMYMove
namespace Go.Proofs.YtkelpcjiediamaaGreat
open Go.RowKit Go.Maps

/-- The heralds have turned, nothing else has. -/
structure Turned (F F' : Nat → Prop) (wb : Nat) (w w' : World) : Prop where
  fr : Fr (fun k => F k ∧ k ≠ wb) w w'
  sub : ∀ k, F' k → F k ∨ w.heap.size ≤ k
  hw : F' wb
  lt : ∀ k, F' k → k < w'.heap.size

section
variable {w : World} {B : Nat} {F : Nat → Prop} {wb xb yb bb n : Nat} {o : BookS}

theorem Scn.turn {w' : World} {F' : Nat → Prop} (h : Scn w B F wb xb yb bb n o) (t : Turned F F' wb w w') : Scn w' B F' wb xb yb bb n o :=
  ⟨(t.fr.block wb (lt_of_block h.blk) (fun e => e.2 rfl)).trans h.blk, t.hw,
   h.book.stay t.fr (fun k a b => h.ap k a.1 (.inl b)) (fun q hq k hk a => h.ap k a.1 (.inr ⟨q, hq, hk⟩)),
   fun k hf ha => by
     rcases t.sub k hf with a | a
     · exact h.ap k a ha
     · have := (h.book.all_lt ha).1; omega,
   t.lt, fun k hf => by
     rcases t.sub k hf with a | a
     · exact h.fB k a
     · have := h.base; omega, h.ci, h.ce, h.cr, h.mks⟩

theorem Turned.far {w' : World} {F' : Nat → Prop} (h : Scn w B F wb xb yb bb n o) (t : Turned F F' wb w w') : Fr (fun k => B ≤ k) w w' := t.fr.mono (fun k hk => .inl (h.fB k hk.1))

/-- One call on each of the two. -/
def TwoCalls (f g : Nat) (x y : Value) (F : Nat → Prop) (wb : Nat) (w : World) (post : Value → Value → World → Prop) : Prop :=
  Calls Tryz.prog f #[x] w fun e w2 => ∃ r, e = .returned r ∧ Fr (fun k => F k ∧ k ≠ wb) w w2 ∧ Calls Tryz.prog g #[y] w2 fun e w3 => ∃ r2, e = .returned r2 ∧ post r r2 w3

/-- Two heralds of which one was taken up anew. -/
def Up (x y : Value) (F : Nat → Prop) (wb : Nat) (w : World) (r r2 : Value) (w' : World) : Prop :=
  (∃ er : Int, r = .int .i64 er ∧ r2 = .int .i64 er) ∧ ∃ F', Turned F F' wb w w' ∧ Ask w' F' x y

/-- Two heralds that were taken down. -/
def Down (x y : Value) (F : Nat → Prop) (wb : Nat) (w w' : World) : Prop :=
  ∃ F', Turned F F' wb w w' ∧ Ask w' F' x y ∧ ∀ w4, Keep F' w' w4 → TwoCalls 29 46 x y F' wb w4 (Up x y F' wb w4)

set_option maxRecDepth 100000 in
set_option maxHeartbeats 3200000 in
theorem last_any (h : Scn w B F wb xb yb bb n o) (ha : Ask w F (ptr xb) (ptr yb)) (hn : n ≤ 7000000)
    (hc : ∀ w1, Keep F w w1 → TwoCalls 44 45 (ptr xb) (ptr yb) F wb w1 fun _ _ w3 => Down (ptr xb) (ptr yb) F wb w1 w3) :
    Calls Tryz.prog 14 #[ptr wb] w fun e w' => e = .returned (.bool true) ∧ Fr (fun k => B ≤ k) w w' := by
  have HA : Hid (Ask w F (ptr xb) (ptr yb)) := ha
  have HS : Hid (Scn w B F wb xb yb bb n o) := h
  have HN : Hid (n ≤ 7000000) := hn
  have HC : Hid (∀ w1, Keep F w w1 → TwoCalls 44 45 (ptr xb) (ptr yb) F wb w1 fun _ _ w3 => Down (ptr xb) (ptr yb) F wb w1 w3) := hc
  clear h ha hn hc
  show Calls Tryz.prog 14 #[.pointer (some ⟨wb, 0, none⟩)] w _
  go_enter Tryz.func14, Tryz.ntmps14
  go_wp2_with (fail)
  refine (all_any HS.out HA.out (by have := HN.out; omega)).mono ?_
  rintro e w1 ⟨rfl, h1⟩
  obtain ⟨o1, s1⟩ := h1.scn
  have HF1 : Hid (Asked w w1 B F wb xb yb bb (n + 34)) := h1
  have HS1 : Hid (Scn w1 B F wb xb yb bb (n + 34) o1) := s1
  obtain ⟨c0, c1, c2⟩ := s1.cells
  have hw1 := lt_of_block s1.blk
  clear h1 s1 c2
  unfold ptr at c0 c1
  go_wp2_with (fail)
  refine (show TwoCalls _ _ _ _ _ _ _ _ from HC.out w1 HF1.out.keep).mono ?_
  rintro e w2 ⟨r, rfl, hf2, hcall⟩
  have d1 : w2.cell? ⟨wb, 1, none⟩ = some (.pointer (some ⟨yb, 0, none⟩)) := (hf2.cell (p := ⟨wb, 1, none⟩) hw1 (fun e => e.2 rfl)).trans c1
  have HCALL : Hid (Calls Tryz.prog 45 #[ptr yb] w2 fun e w3 => ∃ r2, e = .returned r2 ∧ Down (ptr xb) (ptr yb) F wb w1 w3) := hcall
  clear hcall hf2 c0 c1
  go_wp2_with (fail)
  refine HCALL.out.mono ?_
  rintro e w3 ⟨r2, rfl, F', t3, a3, hup⟩
  have S3 : Hid (Scn w3 B F' wb xb yb bb (n + 34) o1) := HS1.out.turn t3
  have A3 : Hid (Ask w3 F' (ptr xb) (ptr yb)) := a3
  have UP : Hid (∀ w4, Keep F' w3 w4 → TwoCalls 29 46 (ptr xb) (ptr yb) F' wb w4 (Up (ptr xb) (ptr yb) F' wb w4)) := hup
  have FR3 : Hid (Fr (fun k => B ≤ k) w w3) := HF1.out.far.trans (t3.far HS1.out) (fun _ => .inl)
  clear t3 a3 hup HCALL d1
  go_wp2_with (fail)
  refine (all_any S3.out A3.out (by have := HN.out; omega)).mono ?_
  rintro e w4 ⟨rfl, h4⟩
  obtain ⟨o4, s4⟩ := h4.scn
  have HF4 : Hid (Asked w3 w4 B F' wb xb yb bb (n + 68)) := h4
  have HS4 : Hid (Scn w4 B F' wb xb yb bb (n + 68) o4) := s4
  obtain ⟨c0, c1, c2⟩ := s4.cells
  have hw4 := lt_of_block s4.blk
  clear h4 s4 c2
  unfold ptr at c0 c1
  go_wp2_with (fail)
  refine (show TwoCalls _ _ _ _ _ _ _ _ from UP.out w4 HF4.out.keep).mono ?_
  rintro e w5 ⟨r5, rfl, hf5, hcall⟩
  have d1 : w5.cell? ⟨wb, 1, none⟩ = some (.pointer (some ⟨yb, 0, none⟩)) := (hf5.cell (p := ⟨wb, 1, none⟩) hw4 (fun e => e.2 rfl)).trans c1
  have HCALL : Hid (Calls Tryz.prog 46 #[ptr yb] w5 fun e w6 => ∃ r2, e = .returned r2 ∧ Up (ptr xb) (ptr yb) F' wb w4 r5 r2 w6) := hcall
  clear hcall hf5 c0 c1
  go_wp2_with (fail)
  refine HCALL.out.mono ?_
  rintro e w6 ⟨r6, rfl, ⟨er, rfl, rfl⟩, F'', t6, a6⟩
  have S6 : Hid (Scn w6 B F'' wb xb yb bb (n + 68) o4) := HS4.out.turn t6
  have A6 : Hid (Ask w6 F'' (ptr xb) (ptr yb)) := a6
  have FR6 : Hid (Fr (fun k => B ≤ k) w w6) := (FR3.out.trans HF4.out.far (fun _ => .inl)).trans (t6.far HS4.out) (fun _ => .inl)
  clear t6 a6 HCALL d1
  go_wp2_with (fail)
  refine (all_any S6.out A6.out (by have := HN.out; omega)).mono ?_
  rintro e w7 ⟨rfl, h7⟩
  obtain ⟨o7, s7⟩ := h7.scn
  have HF7 : Hid (Asked w6 w7 B F'' wb xb yb bb (n + 102)) := h7
  have HS7 : Hid (Scn w7 B F'' wb xb yb bb (n + 102) o7) := s7
  obtain ⟨c0, c1, c2⟩ := s7.cells
  clear h7 s7 c0 c1
  unfold ptr at c2
  go_wp2_with (fail)
  refine (show Calls Tryz.prog 13 #[ptr bb] w7 _ from HS7.out.looks (by have := HN.out; omega)).mono ?_
  rintro e w8 ⟨rfl, h8⟩
  have HF8 : Hid (Fr (fun _ => False) w7 w8) := h8
  clear h8
  go_wp2_with (fail)
  go_ret
  exact ⟨by simp, (FR6.out.trans HF7.out.far (fun _ => .inl)).trans HF8.out (fun _ h => h.elim)⟩
end

end Go.Proofs.YtkelpcjiediamaaGreat

/-
  Two new heralds through a crash and a restart.
-/
namespace Go.Proofs.YtkelpcjiediamaaGreat
open Go.RowKit Go.Maps

section
variable {w w' : World} {B xb yb wb : Nat} {h : HS} {y : RS}

/-- Both have turned into others of which the same holds. -/
structure FreshTo (w w' : World) (B xb yb wb : Nat) (h : HS) (y : RS) (up : Bool) (h' : HS) (y' : RS) : Prop where
  to : Fresh w' B xb yb h' y' up
  sx : ∀ k, h'.foot xb k → h.foot xb k
  sy : ∀ k, y'.foot yb k → y.foot yb k
  fr : Fr (fun k => duoF wb xb yb h y k ∧ k ≠ wb) w w'

theorem FreshTo.turned {up : Bool} {h' : HS} {y' : RS} (f : FreshTo w w' B xb yb wb h y up h' y') (hwl : wb < w.heap.size) : Turned (duoF wb xb yb h y) (duoF wb xb yb h' y') wb w w' :=
  ⟨f.fr, fun k hk => .inl (by
    rcases hk with hk | hk | hk
    · exact .inl hk
    · exact .inr (.inl (f.sx k hk))
    · exact .inr (.inr (f.sy k hk))), .inl rfl, fun k hk => by
    rcases hk with rfl | hk | hk
    · exact Nat.lt_of_lt_of_le hwl f.fr.size
    · exact (f.to.fx.foot_lt hk).1
    · exact (f.to.fy.foot_lt hk).1⟩

theorem Fresh.crash (f : Fresh w B xb yb h y true) (hw1 : ¬ h.foot xb wb) (hw2 : ¬ y.foot yb wb) :
    TwoCalls 44 45 (ptr xb) (ptr yb) (duoF wb xb yb h y) wb w fun _ _ w3 => ∃ h' y', FreshTo w w3 B xb yb wb h y false h' y' := by
  refine (crash_any f.fx).mono fun e w2 ⟨h1, h2, h3⟩ => ⟨_, h1, ?_, ?_⟩
  · exact h3.mono (fun k hk => .inl ⟨.inr (.inl (.inl hk)), fun e => hw1 (.inl (by rw [← e]; exact hk))⟩)
  · have y2 : YAt w2 B yb y := f.fy.stay h3 (fun k e hf => duo_apart f.fx f.fy f.ap (.inl e) hf)
    rw [if_pos f.fu] at h2
    refine (ycrash_any y2).mono fun e w3 ⟨k1, k2, k3⟩ => ⟨_, k1, h.fallen, y.crashed, ?_⟩
    have ec : y.crashed = { y with dn := true, br := false } := by simp [RS.crashed, f.fd]
    rw [ec] at k2 ⊢
    refine ⟨⟨h2.stay k3 (fun k e hf => duo_apart h2 y2 f.ap hf (.inl e)), k2, f.fP, f.fQ, rfl, rfl, f.fj, rfl, f.fl, f.fL, f.ft, f.fN, f.fG, f.fO, f.fv, f.fe⟩, fun k hk => hk, fun k hk => hk, ?_⟩
    · have g1 : Fr (fun k => duoF wb xb yb h y k ∧ k ≠ wb) w w2 := h3.mono (fun k hk => .inl ⟨.inr (.inl (.inl hk)), fun e => hw1 (.inl (by rw [← e]; exact hk))⟩)
      exact g1.trans k3 (fun k hk => .inl ⟨.inr (.inr (.inl hk)), fun e => hw2 (.inl (by rw [← e]; exact hk))⟩)

theorem Fresh.restart (f : Fresh w B xb yb h y false) (hw1 : ¬ h.foot xb wb) (hw2 : ¬ y.foot yb wb) :
    TwoCalls 29 46 (ptr xb) (ptr yb) (duoF wb xb yb h y) wb w fun r r2 w3 => (r = .int .i64 0 ∧ r2 = .int .i64 0) ∧ ∃ h' y', FreshTo w w3 B xb yb wb h y true h' y' := by
  refine (restart_nil f.fx f.fu f.fj).mono fun e w2 ⟨h1, h2, h3⟩ => ⟨_, h1, ?_, ?_⟩
  · exact h3.mono (fun k hk => .inl ⟨.inr (.inl (.inl hk)), fun e => hw1 (.inl (by rw [← e]; exact hk))⟩)
  · have y2 : YAt w2 B yb y := f.fy.stay h3 (fun k e hf => duo_apart f.fx f.fy f.ap (.inl e) hf)
    refine (yrestart_nil y2 f.fd f.fL).mono fun e w3 ⟨k1, ⟨H', k2⟩, k3⟩ => ⟨_, k1, ⟨rfl, rfl⟩, h.risen, y.risen H', ?_⟩
    have hk3 : ∀ k, (k = yb ∨ y.hv.ownBlock = some k) → y.foot yb k := fun k hk => by
      rcases hk with hk | hk
      · exact .inl hk
      · exact .inr (.inr (.inr (.inl hk)))
    refine ⟨⟨h2.stay k3 (fun k e hf => duo_apart h2 y2 f.ap hf (hk3 k e)), k2, f.fP, f.fQ, rfl, rfl, f.fj, f.fz, f.fl, f.fL, rfl, f.fN, f.fG, f.fO, f.fv, f.fe⟩, fun k hk => hk, fun k hk => ?_, ?_⟩
    · rcases hk with hk | hk | hk | hk | hk | hk | hk | hk
      · exact .inl hk
      · exact .inr (.inl hk)
      · simp [RS.risen, Value.ownBlock] at hk
      · exact .inr (.inr (.inr (.inl hk)))
      · exact .inr (.inr (.inr (.inr (.inl hk))))
      · exact .inr (.inr (.inr (.inr (.inr (.inl hk)))))
      · exact .inr (.inr (.inr (.inr (.inr (.inr (.inl hk))))))
      · exact .inr (.inr (.inr (.inr (.inr (.inr (.inr hk))))))
    · have g1 : Fr (fun k => duoF wb xb yb h y k ∧ k ≠ wb) w w2 := h3.mono (fun k hk => .inl ⟨.inr (.inl (.inl hk)), fun e => hw1 (.inl (by rw [← e]; exact hk))⟩)
      exact g1.trans k3 (fun k hk => .inl ⟨.inr (.inr (hk3 k hk)), fun e => hw2 (by rw [← e]; exact hk3 k hk)⟩)

/-- What 'last' asks of two new heralds. -/
theorem Fresh.last (f : Fresh w B xb yb h y true) (hw1 : ¬ h.foot xb wb) (hw2 : ¬ y.foot yb wb) (hwl : wb < w.heap.size) :
    ∀ w1, Keep (duoF wb xb yb h y) w w1 → TwoCalls 44 45 (ptr xb) (ptr yb) (duoF wb xb yb h y) wb w1 fun _ _ w3 => Down (ptr xb) (ptr yb) (duoF wb xb yb h y) wb w1 w3 := by
  intro w1 k1
  refine ((f.keep k1).crash hw1 hw2).mono fun e w2 ⟨r, e1, e2, e3⟩ => ⟨r, e1, e2, e3.mono fun e w3 ⟨r2, e4, h', y', t⟩ => ⟨r2, e4, ?_⟩⟩
  have hwl1 : wb < w1.heap.size := Nat.lt_of_lt_of_le hwl k1.size
  refine ⟨duoF wb xb yb h' y', t.turned hwl1, t.to.ask, fun w4 k4 => ?_⟩
  have hw1' : ¬ h'.foot xb wb := fun hf => hw1 (t.sx _ hf)
  have hw2' : ¬ y'.foot yb wb := fun hf => hw2 (t.sy _ hf)
  have hwl4 : wb < w4.heap.size := Nat.lt_of_lt_of_le hwl1 (Nat.le_trans t.fr.size k4.size)
  refine ((t.to.keep k4).restart hw1' hw2').mono fun e w5 ⟨r5, d1, d2, d3⟩ => ⟨r5, d1, d2, d3.mono fun e w6 ⟨r6, d4, d5, h'', y'', t2⟩ => ⟨r6, d4, ⟨0, d5⟩, duoF wb xb yb h'' y'', t2.turned hwl4, t2.to.ask⟩⟩
end

end Go.Proofs.YtkelpcjiediamaaGreat

/-
  The walk of News: every New, and what can be asked of a new herald.
-/
namespace Go.Proofs.YtkelpcjiediamaaGreat
open Go.RowKit Go.Maps

theorem HAt.base {w : World} {B B' xb n : Nat} {h : HS} (hh : HAt w B xb n h) (hB : B' ≤ B) : HAt w B' xb n h :=
  ⟨hh.blk, ownsRow_base hh.jour hB, ownsRow_base hh.places hB, ownsRow_base hh.flight hB, fun p hp => (hh.logs p hp).base hB, Nat.le_trans hB hh.hx, hh.hP, hh.hQ, hh.h6⟩

theorem RefAt.base {w : World} {B B' yb : Nat} {u : Value} {L : List Ent} (h : RefAt w B yb u L) (hB : B' ≤ B) : RefAt w B' yb u L :=
  ⟨h.blk, ownsRow_base h.row hB, Nat.le_trans hB h.hy⟩

theorem YAt.base {w : World} {B B' yb : Nat} {y : RS} (h : YAt w B yb y) (hB : B' ≤ B) : YAt w B' yb y :=
  ⟨h.blk, ownsRow_base h.recs hB, ownsRow_base h.dues hB, ownsRow_base h.heard hB, ownsRow_base h.logs hB, ownsRow_base h.outs hB, ownsRow_base h.net hB, fun g hg => (h.refs g hg).base hB, Nat.le_trans hB h.hy, h.hP, h.hQ⟩

set_option maxRecDepth 100000 in
set_option maxHeartbeats 1600000 in
theorem made_bad (w : World) {P Q T K : Int} (h : ¬ Good P Q T K) : Calls Tryz.prog 11 #[conf P Q T K] w fun r w' => r = .returned (.tuple #[.pointer none, .bool true]) ∧ Fr (fun _ => False) w w' := by
  have HG : Hid (¬ Good P Q T K) := h
  clear h
  unfold conf
  go_enter Tryz.func11, Tryz.ntmps11
  go_wp2_with (first
    | (go_at_call 31; refine (show Calls Tryz.prog 31 #[conf P Q T K] _ _ from new_bad _ HG.out).mono ?_; rintro e w1 ⟨rfl, hf1⟩
       have F1 : Hid (Fr (fun _ => False) w w1) := (nofr _).trans hf1 (fun _ h => h.elim)
       have k0 : w1.cell? ⟨w.heap.size, 0, none⟩ = some (.int .i64 P) := Fr.box (S := fun _ => False) hf1 id 0
       have k1 : w1.cell? ⟨w.heap.size, 1, none⟩ = some (.int .i64 Q) := Fr.box (S := fun _ => False) hf1 id 1
       have k2 : w1.cell? ⟨w.heap.size, 2, none⟩ = some (.int .i64 T) := Fr.box (S := fun _ => False) hf1 id 2
       have k3 : w1.cell? ⟨w.heap.size, 3, none⟩ = some (.int .i64 K) := Fr.box (S := fun _ => False) hf1 id 3
       clear hf1)
    | (go_at_call 32; refine (show Calls Tryz.prog 32 #[conf P Q T K] _ _ from ynew_bad _ HG.out).mono ?_; rintro e w2 ⟨rfl, hf2⟩
       have F2 : Hid (Fr (fun _ => False) w w2) := F1.out.trans hf2 (fun _ h => h.elim)
       clear hf2))
  go_ret2
  exact ⟨rfl, F2.out⟩

/-- Two new heralds and an empty book. -/
structure Begun (w w' : World) (wb xb yb bb : Nat) (h : HS) (y : RS) (o : BookS) : Prop where
  fresh : Fresh w' w.heap.size xb yb h y true
  scn : Scn w' w.heap.size (duoF wb xb yb h y) wb xb yb bb 0 o
  hw1 : ¬ h.foot xb wb
  hw2 : ¬ y.foot yb wb
  fr : Fr (fun _ => False) w w'
  apx : PlApart h.pl
  apy : GApart y.G
  free : h.br = false ∧ h.kp = 0 ∧ y.br = false ∧ y.D = [] ∧ y.tm = 0 ∧ h.T = y.T ∧ h.K = y.K ∧ h.jb = []
  heard : ∀ x ∈ y.H, x = 0

def book0 : BookS := ⟨.slice none 0 0, .slice none 0 0, .slice none 0 0, [], [], []⟩

theorem begun {w w1 w2 : World} {p q : Nat} {T K : Int} {xb yb : Nat} {pv hv ov gv : Value} {pl : List PL} {G : List GL}
    (h1 : HAt w1 (w.alloc (.cells #[.int .i64 p, .int .i64 q, .int .i64 T, .int .i64 K] 23)).heap.size xb 0 (freshH p q T K pv pl).risen) (n1 : ∀ x ∈ pl, x.s = emptyLog ∧ x.out = false) (f1 : Fr (fun _ => False) (w.alloc (.cells #[.int .i64 p, .int .i64 q, .int .i64 T, .int .i64 K] 23)) w1)
    (h2 : YAt w2 w1.heap.size yb (freshY p q T K (List.replicate p 0) (List.replicate q false) hv ov gv G)) (n2 : ∀ g ∈ G, g.L = []) (f2 : Fr (fun _ => False) w1 w2) (a1 : PlApart pl) (a2 : GApart G) :
    Begun w ((w2.alloc (.cells #[.slice none 0 0, .slice none 0 0, .slice none 0 0] 84)).alloc (.cells #[ptr xb, ptr yb, ptr w2.heap.size] 37)) (w2.heap.size + 1) xb yb w2.heap.size (freshH p q T K pv pl).risen (freshY p q T K (List.replicate p 0) (List.replicate q false) hv ov gv G) book0 := by
  have z1 : w.heap.size ≤ (w.alloc (.cells #[.int .i64 p, .int .i64 q, .int .i64 T, .int .i64 K] 23)).heap.size := (nofr _).size
  have z2 := f1.size
  have z3 := f2.size
  have FF : Fr (fun _ => False) w2 ((w2.alloc (.cells #[.slice none 0 0, .slice none 0 0, .slice none 0 0] 84)).alloc (.cells #[ptr xb, ptr yb, ptr w2.heap.size] 37)) := (nofr _).alloc _
  have hx2 : HAt w2 w.heap.size xb 0 (freshH p q T K pv pl).risen := (h1.after f2).base z1
  have hy2 : YAt w2 w.heap.size yb (freshY p q T K (List.replicate p 0) (List.replicate q false) hv ov gv G) := h2.base (by omega)
  have hF : ∀ k, (freshH p q T K pv pl).risen.foot xb k ∨ (freshY p q T K (List.replicate p 0) (List.replicate q false) hv ov gv G).foot yb k → k < w2.heap.size ∧ w.heap.size ≤ k := fun k hk => by
    rcases hk with hk | hk
    · exact hx2.foot_lt hk
    · exact hy2.foot_lt hk
  have fresh : Fresh ((w2.alloc (.cells #[.slice none 0 0, .slice none 0 0, .slice none 0 0] 84)).alloc (.cells #[ptr xb, ptr yb, ptr w2.heap.size] 37)) w.heap.size xb yb (freshH p q T K pv pl).risen (freshY p q T K (List.replicate p 0) (List.replicate q false) hv ov gv G) true :=
    ⟨hx2.after FF, hy2.after FF, rfl, rfl, rfl, rfl, rfl, rfl, n1, rfl, rfl, rfl, n2, fun o ho => List.eq_of_mem_replicate ho, rfl, rfl⟩
  refine ⟨fresh, ⟨alloc_at _ (by simp), .inl rfl, ⟨((nofr _).block _ (by simp) id).trans (heap_alloc_new _ _), ⟨World.ownsRow_nil _ _ _ _, fun o ho => by simp [book0] at ho⟩, ⟨World.ownsRow_nil _ _ _ _, fun o ho => by simp [book0] at ho⟩, ⟨World.ownsRow_nil _ _ _ _, fun o ho => by simp [book0] at ho⟩, by omega⟩, ?_, ?_, ?_, by simp [book0], by simp [book0], by simp [book0], fun q hq => by simp [book0] at hq⟩, ?_, ?_, ?_, a1, a2, ⟨rfl, rfl, rfl, rfl, rfl, rfl, rfl, rfl⟩, fun x hx => List.eq_of_mem_replicate hx⟩
  · intro k hk ha
    have hk2 : k = w2.heap.size := by
      rcases ha with (ha | ha | ha | ha) | ⟨q, hq, _⟩
      · exact ha
      · simp [book0, Value.ownBlock] at ha
      · simp [book0, Value.ownBlock] at ha
      · simp [book0, Value.ownBlock] at ha
      · simp [book0] at hq
    rcases hk with hk | hk
    · omega
    · have := (hF k hk).1; omega
  · intro k hk
    rcases hk with hk | hk
    · simp; omega
    · have := (hF k hk).1; simp; omega
  · intro k hk
    rcases hk with hk | hk
    · omega
    · exact (hF k hk).2
  · intro hk
    have := (hF _ (.inl hk)).1; omega
  · intro hk
    have := (hF _ (.inr hk)).1; omega
  · exact (((nofr _).trans f1 (fun _ h => h.elim)).trans f2 (fun _ h => h.elim)).trans FF (fun _ h => h.elim)

set_option maxRecDepth 100000 in
set_option maxHeartbeats 1600000 in
theorem made_good (w : World) {p q : Nat} {T K : Int} (h : Good p q T K) : Calls Tryz.prog 11 #[conf p q T K] w fun r w' => ∃ wb xb yb bb hs y o, r = .returned (.tuple #[ptr wb, .bool true]) ∧ Begun w w' wb xb yb bb hs y o := by
  have HG : Hid (Good p q T K) := h
  clear h
  unfold conf
  go_enter Tryz.func11, Tryz.ntmps11
  go_wp2_with (first
    | (go_at_call 31; refine (show Calls Tryz.prog 31 #[conf p q T K] _ _ from new_good _ HG.out).mono ?_; rintro e w1 ⟨xb, pv, pl, rfl, hx1, hn1, ha1, hf1⟩
       have k0 : w1.cell? ⟨w.heap.size, 0, none⟩ = some (.int .i64 p) := Fr.box (S := fun _ => False) hf1 id 0
       have k1 : w1.cell? ⟨w.heap.size, 1, none⟩ = some (.int .i64 q) := Fr.box (S := fun _ => False) hf1 id 1
       have k2 : w1.cell? ⟨w.heap.size, 2, none⟩ = some (.int .i64 T) := Fr.box (S := fun _ => False) hf1 id 2
       have k3 : w1.cell? ⟨w.heap.size, 3, none⟩ = some (.int .i64 K) := Fr.box (S := fun _ => False) hf1 id 3
       have F1 : Hid (Fr (fun _ => False) (w.alloc (.cells #[.int .i64 p, .int .i64 q, .int .i64 T, .int .i64 K] 23)) w1) := hf1
       have X1 : Hid (HAt w1 (w.alloc (.cells #[.int .i64 p, .int .i64 q, .int .i64 T, .int .i64 K] 23)).heap.size xb 0 (freshH p q T K pv pl).risen) := hx1
       have N1 : Hid (∀ x ∈ pl, x.s = emptyLog ∧ x.out = false) := hn1
       have A1 : Hid (PlApart pl) := ha1
       clear hf1 hx1 hn1 ha1; unfold ptr)
    | (go_at_call 32; refine (show Calls Tryz.prog 32 #[conf p q T K] _ _ from ynew_good _ HG.out).mono ?_; rintro e w2 ⟨yb, hv, ov, gv, G, rfl, hy2, hn2, ha2, hf2⟩
       have F2 : Hid (Fr (fun _ => False) w1 w2) := hf2
       have Y2 : Hid (YAt w2 w1.heap.size yb (freshY p q T K (List.replicate p 0) (List.replicate q false) hv ov gv G)) := hy2
       have N2 : Hid (∀ g ∈ G, g.L = []) := hn2
       have A2 : Hid (GApart G) := ha2
       clear hf2 hy2 hn2 ha2; unfold ptr))
  go_ret2
  exact ⟨_, _, _, _, _, _, _, rfl, begun X1.out N1.out F1.out Y2.out N2.out F2.out A1.out A2.out⟩

set_option maxRecDepth 100000 in
set_option maxHeartbeats 1600000 in
theorem plays_nil (w : World) (P Q T K : Int) : Calls Tryz.prog 10 #[conf P Q T K, .slice none 0 0] w fun r w' => r = .returned (.bool true) ∧ Fr (fun k => w.heap.size ≤ k) w w' := by
  by_cases h : Good P Q T K
  · obtain ⟨p, rfl⟩ := Int.eq_ofNat_of_zero_le (show 0 ≤ P by have := h.1.1; omega)
    obtain ⟨q, rfl⟩ := Int.eq_ofNat_of_zero_le (show 0 ≤ Q by have := h.2.1.1; omega)
    have HG : Hid (Good p q T K) := h
    clear h
    unfold conf
    go_enter Tryz.func10, Tryz.ntmps10
    go_wp2_with (fail)
    refine (show Calls Tryz.prog 11 #[conf p q T K] _ _ from made_good _ HG.out).mono ?_
    rintro e w1 ⟨wb, xb, yb, bb, hs, y, o, rfl, hb⟩
    have HB : Hid (Begun (w.alloc (.cells #[.int .i64 p, .int .i64 q, .int .i64 T, .int .i64 K] 23)) w1 wb xb yb bb hs y o) := hb
    clear hb
    unfold ptr
    go_wp2_with (fail)
    go_loopw [7] (fun i w' => i = .int .i64 0 ∧ w' = w1) (fun _ _ => 0)
    case atStart => exact ⟨rfl, rfl⟩
    case round =>
      obtain ⟨rfl, rfl⟩ := hrel
      go_wp2_with (fail)
      have hl := last_any HB.out.scn HB.out.fresh.ask (by omega) (HB.out.fresh.last HB.out.hw1 HB.out.hw2 (lt_of_block HB.out.scn.blk))
      refine (show Calls Tryz.prog 14 #[ptr wb] wr _ from hl).mono ?_
      rintro e w2 ⟨rfl, hf2⟩
      have F2 : Hid (Fr (fun k => (w.alloc (.cells #[.int .i64 p, .int .i64 q, .int .i64 T, .int .i64 K] 23)).heap.size ≤ k) wr w2) := hf2
      clear hf2 hl
      go_wp2_with (fail)
      go_ret
      refine ⟨rfl, ?_⟩
      have z : w.heap.size ≤ (w.alloc (.cells #[.int .i64 p, .int .i64 q, .int .i64 T, .int .i64 K] 23)).heap.size := (nofr _).size
      exact (((nofr _).trans HB.out.fr (fun _ h => h.elim)).mono (fun _ h => h.elim) : Fr (fun k => w.heap.size ≤ k) w wr).trans F2.out (fun k hk => .inl (Nat.le_trans z hk))
  · have HG : Hid (¬ Good P Q T K) := h
    clear h
    unfold conf
    go_enter Tryz.func10, Tryz.ntmps10
    go_wp2_with (go_at_call 11; refine (show Calls Tryz.prog 11 #[conf P Q T K] _ _ from made_bad _ HG.out).mono ?_; rintro e w1 ⟨rfl, hf1⟩; have F1 : Hid (Fr (fun _ => False) w w1) := (nofr _).trans hf1 (fun _ h => h.elim); clear hf1)
    go_ret
    exact ⟨rfl, F1.out.mono (fun _ h => h.elim)⟩

set_option maxRecDepth 100000 in
theorem news_any (w : World) (P Q T K : Int) : Calls Tryz.prog 3 #[conf P Q T K] w fun r w' => r = .returned (.bool true) ∧ Below w.heap.size w w' := by
  unfold conf
  go_enter Tryz.func3, Tryz.ntmps3
  go_wp2_with (fail)
  refine (show Calls Tryz.prog 10 #[conf P Q T K, .slice none 0 0] _ _ from plays_nil _ P Q T K).mono ?_
  rintro e w1 ⟨rfl, hf1⟩
  have F1 : Hid (Fr (fun k => w.heap.size ≤ k) w w1) := ((nofr _).mono (fun _ h => h.elim) : Fr (fun k => w.heap.size ≤ k) w _).trans hf1 (fun k hk => .inl (Nat.le_trans (nofr _).size hk))
  clear hf1
  go_wp2_with (fail)
  go_ret
  exact ⟨rfl, F1.out.below (Nat.le_refl _) (fun _ h => h)⟩

end Go.Proofs.YtkelpcjiediamaaGreat
