/-
  All that can be asked in the end; the same behind a crash and a restart.
-/
import Derived.Test.YtkelpcjiediamaaGreatAll
namespace Go.Proofs.YtkelpcjiediamaaGreat
open Go.RowKit Go.Maps

/-- The heralds have turned, nothing else has. -/
structure Turned (F F' : Nat → Prop) (wb : Nat) (w w' : World) : Prop where
  fr : Fr (fun k => F k ∧ k ≠ wb) w w'
  sub : ∀ k, F' k → F k ∨ w.heap.size ≤ k
  hw : F' wb
  lt : ∀ k, F' k → k < w'.heap.size

section
variable {w : World} {B : Nat} {F : Nat → Prop} {wb xb yb bb n : Nat} {o : BookS}

theorem Scn.turn {w' : World} {F' : Nat → Prop} (h : Scn w B F wb xb yb bb n o) (t : Turned F F' wb w w') : Scn w' B F' wb xb yb bb n o :=
  ⟨(t.fr.block wb (lt_of_block h.blk) (fun e => e.2 rfl)).trans h.blk, t.hw,
   h.book.stay t.fr (fun k a b => h.ap k a.1 (.inl b)) (fun q hq k hk a => h.ap k a.1 (.inr ⟨q, hq, hk⟩)),
   fun k hf ha => by
     rcases t.sub k hf with a | a
     · exact h.ap k a ha
     · have := (h.book.all_lt ha).1; omega,
   t.lt, fun k hf => by
     rcases t.sub k hf with a | a
     · exact h.fB k a
     · have := h.base; omega, h.ci, h.ce, h.cr, h.mks⟩

theorem Turned.far {w' : World} {F' : Nat → Prop} (h : Scn w B F wb xb yb bb n o) (t : Turned F F' wb w w') : Fr (fun k => B ≤ k) w w' := t.fr.mono (fun k hk => .inl (h.fB k hk.1))

/-- One call on each of the two. -/
def TwoCalls (f g : Nat) (x y : Value) (F : Nat → Prop) (wb : Nat) (w : World) (post : Value → Value → World → Prop) : Prop :=
  Calls Tryz.prog f #[x] w fun e w2 => ∃ r, e = .returned r ∧ Fr (fun k => F k ∧ k ≠ wb) w w2 ∧ Calls Tryz.prog g #[y] w2 fun e w3 => ∃ r2, e = .returned r2 ∧ post r r2 w3

/-- Two heralds of which one was taken up anew. -/
def Up (x y : Value) (F : Nat → Prop) (wb : Nat) (w : World) (r r2 : Value) (w' : World) : Prop :=
  (∃ er : Int, r = .int .i64 er ∧ r2 = .int .i64 er) ∧ ∃ F', Turned F F' wb w w' ∧ Ask w' F' x y

/-- Two heralds that were taken down. -/
def Down (x y : Value) (F : Nat → Prop) (wb : Nat) (w w' : World) : Prop :=
  ∃ F', Turned F F' wb w w' ∧ Ask w' F' x y ∧ ∀ w4, Keep F' w' w4 → TwoCalls 29 46 x y F' wb w4 (Up x y F' wb w4)

set_option maxRecDepth 100000 in
set_option maxHeartbeats 3200000 in
theorem last_any (h : Scn w B F wb xb yb bb n o) (ha : Ask w F (ptr xb) (ptr yb)) (hn : n ≤ 7000000)
    (hc : ∀ w1, Keep F w w1 → TwoCalls 44 45 (ptr xb) (ptr yb) F wb w1 fun _ _ w3 => Down (ptr xb) (ptr yb) F wb w1 w3) :
    Calls Tryz.prog 14 #[ptr wb] w fun e w' => e = .returned (.bool true) ∧ Fr (fun k => B ≤ k) w w' := by
  have HA : Hid (Ask w F (ptr xb) (ptr yb)) := ha
  have HS : Hid (Scn w B F wb xb yb bb n o) := h
  have HN : Hid (n ≤ 7000000) := hn
  have HC : Hid (∀ w1, Keep F w w1 → TwoCalls 44 45 (ptr xb) (ptr yb) F wb w1 fun _ _ w3 => Down (ptr xb) (ptr yb) F wb w1 w3) := hc
  clear h ha hn hc
  show Calls Tryz.prog 14 #[.pointer (some ⟨wb, 0, none⟩)] w _
  go_enter Tryz.func14, Tryz.ntmps14
  go_wp2_with (fail)
  refine (all_any HS.out HA.out (by have := HN.out; omega)).mono ?_
  rintro e w1 ⟨rfl, h1⟩
  obtain ⟨o1, s1⟩ := h1.scn
  have HF1 : Hid (Asked w w1 B F wb xb yb bb (n + 34)) := h1
  have HS1 : Hid (Scn w1 B F wb xb yb bb (n + 34) o1) := s1
  obtain ⟨c0, c1, c2⟩ := s1.cells
  have hw1 := lt_of_block s1.blk
  clear h1 s1 c2
  unfold ptr at c0 c1
  go_wp2_with (fail)
  refine (show TwoCalls _ _ _ _ _ _ _ _ from HC.out w1 HF1.out.keep).mono ?_
  rintro e w2 ⟨r, rfl, hf2, hcall⟩
  have d1 : w2.cell? ⟨wb, 1, none⟩ = some (.pointer (some ⟨yb, 0, none⟩)) := (hf2.cell (p := ⟨wb, 1, none⟩) hw1 (fun e => e.2 rfl)).trans c1
  have HCALL : Hid (Calls Tryz.prog 45 #[ptr yb] w2 fun e w3 => ∃ r2, e = .returned r2 ∧ Down (ptr xb) (ptr yb) F wb w1 w3) := hcall
  clear hcall hf2 c0 c1
  go_wp2_with (fail)
  refine HCALL.out.mono ?_
  rintro e w3 ⟨r2, rfl, F', t3, a3, hup⟩
  have S3 : Hid (Scn w3 B F' wb xb yb bb (n + 34) o1) := HS1.out.turn t3
  have A3 : Hid (Ask w3 F' (ptr xb) (ptr yb)) := a3
  have UP : Hid (∀ w4, Keep F' w3 w4 → TwoCalls 29 46 (ptr xb) (ptr yb) F' wb w4 (Up (ptr xb) (ptr yb) F' wb w4)) := hup
  have FR3 : Hid (Fr (fun k => B ≤ k) w w3) := HF1.out.far.trans (t3.far HS1.out) (fun _ => .inl)
  clear t3 a3 hup HCALL d1
  go_wp2_with (fail)
  refine (all_any S3.out A3.out (by have := HN.out; omega)).mono ?_
  rintro e w4 ⟨rfl, h4⟩
  obtain ⟨o4, s4⟩ := h4.scn
  have HF4 : Hid (Asked w3 w4 B F' wb xb yb bb (n + 68)) := h4
  have HS4 : Hid (Scn w4 B F' wb xb yb bb (n + 68) o4) := s4
  obtain ⟨c0, c1, c2⟩ := s4.cells
  have hw4 := lt_of_block s4.blk
  clear h4 s4 c2
  unfold ptr at c0 c1
  go_wp2_with (fail)
  refine (show TwoCalls _ _ _ _ _ _ _ _ from UP.out w4 HF4.out.keep).mono ?_
  rintro e w5 ⟨r5, rfl, hf5, hcall⟩
  have d1 : w5.cell? ⟨wb, 1, none⟩ = some (.pointer (some ⟨yb, 0, none⟩)) := (hf5.cell (p := ⟨wb, 1, none⟩) hw4 (fun e => e.2 rfl)).trans c1
  have HCALL : Hid (Calls Tryz.prog 46 #[ptr yb] w5 fun e w6 => ∃ r2, e = .returned r2 ∧ Up (ptr xb) (ptr yb) F' wb w4 r5 r2 w6) := hcall
  clear hcall hf5 c0 c1
  go_wp2_with (fail)
  refine HCALL.out.mono ?_
  rintro e w6 ⟨r6, rfl, ⟨er, rfl, rfl⟩, F'', t6, a6⟩
  have S6 : Hid (Scn w6 B F'' wb xb yb bb (n + 68) o4) := HS4.out.turn t6
  have A6 : Hid (Ask w6 F'' (ptr xb) (ptr yb)) := a6
  have FR6 : Hid (Fr (fun k => B ≤ k) w w6) := (FR3.out.trans HF4.out.far (fun _ => .inl)).trans (t6.far HS4.out) (fun _ => .inl)
  clear t6 a6 HCALL d1
  go_wp2_with (fail)
  refine (all_any S6.out A6.out (by have := HN.out; omega)).mono ?_
  rintro e w7 ⟨rfl, h7⟩
  obtain ⟨o7, s7⟩ := h7.scn
  have HF7 : Hid (Asked w6 w7 B F'' wb xb yb bb (n + 102)) := h7
  have HS7 : Hid (Scn w7 B F'' wb xb yb bb (n + 102) o7) := s7
  obtain ⟨c0, c1, c2⟩ := s7.cells
  clear h7 s7 c0 c1
  unfold ptr at c2
  go_wp2_with (fail)
  refine (show Calls Tryz.prog 13 #[ptr bb] w7 _ from HS7.out.looks (by have := HN.out; omega)).mono ?_
  rintro e w8 ⟨rfl, h8⟩
  have HF8 : Hid (Fr (fun _ => False) w7 w8) := h8
  clear h8
  go_wp2_with (fail)
  go_ret
  exact ⟨by simp, (FR6.out.trans HF7.out.far (fun _ => .inl)).trans HF8.out (fun _ h => h.elim)⟩
end

end Go.Proofs.YtkelpcjiediamaaGreat
