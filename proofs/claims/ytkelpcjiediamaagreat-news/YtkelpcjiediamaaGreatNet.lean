/-
  The law's question for a message, on both sides.
-/
import Derived.Test.YtkelpcjiediamaaGreatAskQ
namespace Go.Proofs.YtkelpcjiediamaaGreat
open Go.RowKit Go.Maps

theorem eql103 (w : World) (a b c d : Int) (f : Bool) : (binOp .eql 119 (.agg #[.int .i64 a, .int .i64 b, .int .i64 c, .int .i64 d, .bool f]) (.agg #[.int .i64 a, .int .i64 b, .int .i64 c, .int .i64 d, .bool f])).run Tryz.prog w = .ok (.bool true) w := by
  go_simp

def spoken (c : Int) (n : Nat) : Int := if c < 0 then c else c % ((n : Int) + 1)

theorem spoken_any (w : World) (c : Int) (n : Nat) (hn : n ≤ 100) : Calls Tryz.prog 80 #[.int .i64 c, .int .i64 n] w fun e w' => e = .returned (.int .i64 (spoken c n)) ∧ w = w' := by
  by_cases h : c < 0
  · have H : Hid (spoken c n = c) := by show spoken c n = c; simp [spoken, h]
    go_enter Tryz.func80, Tryz.ntmps80
    go_wp2
    go_ret
    exact ⟨by rw [H.out] <;> rfl, rfl⟩
  · have H : Hid (spoken c n = c % ((n : Int) + 1)) := by show spoken c n = c % ((n : Int) + 1); simp [spoken, h]
    have hp : (n : Int) + 1 ≠ 0 := by omega
    go_enter Tryz.func80, Tryz.ntmps80
    go_wp2
    go_ret
    exact ⟨by rw [H.out] <;> rfl, rfl⟩

theorem i64_of {c : Int} (h1 : -9223372036854775808 ≤ c) (h2 : c ≤ 9223372036854775807) : I64 c := by
  simpa [I64, Lit.wf, IntKind.min, IntKind.max, IntKind.signed, IntKind.bits] using And.intro h1 h2

theorem spoken_wf {c : Int} {n : Nat} (hn : n ≤ 100) (hc : I64 c) : I64 (spoken c n) := by
  unfold spoken
  split
  · exact hc
  · have h1 := Int.emod_nonneg c (b := (n : Int) + 1) (by omega)
    have h2 := Int.emod_lt_of_pos c (b := (n : Int) + 1) (by omega)
    exact i64_of (by omega) (by omega)

section
variable {w : World} {B : Nat} {F : Nat → Prop} {wb xb yb bb n : Nat} {o : BookS}

set_option maxRecDepth 100000 in
set_option maxHeartbeats 3200000 in
theorem net_mess (h : Scn w B F wb xb yb bb n o) (ha : Ask w F (ptr xb) (ptr yb)) (p q m : Int) (hm : I64 m) (ts : ByteArray) (fl : Bool) :
    Calls Tryz.prog 34 #[ptr wb, .agg #[.int .i64 16, .int .i64 p, .int .i64 q, .int .i64 m, .string ts, .bool fl]] w fun e w' => e = .returned (.bool true) ∧ Fr (fun _ => False) w w' := by
  obtain ⟨nf, hnf, hnum⟩ := ha.num
  obtain ⟨m1, m2, m3, m4, er, mf, hmess⟩ := ha.mess (spoken m nf) (spoken_wf hnf hm)
  have HM : Hid (∀ w1, Keep F w w1 → AskM (ptr xb) (ptr yb) (spoken m nf) w1 m1 m2 m3 m4 er mf) := hmess
  have HN : Hid (∀ w1, Keep F w w1 → AskN (ptr xb) (ptr yb) w1 nf) := hnum
  have HS : Hid (Scn w B F wb xb yb bb n o) := h
  have HNF : Hid (nf ≤ 100) := hnf
  obtain ⟨c0, c1, c2⟩ := h.cells
  have hwlt := lt_of_block h.blk
  have hlaw := eql103
  clear h ha hmess hnum hnf hm c2
  unfold ptr at c0 c1 HM HN ⊢
  go_enter Tryz.func34, Tryz.ntmps34
  go_wp2_with fail
  go_region_held3 (fun w' => w'.cell? ⟨wb, 1, none⟩ = some (.pointer (some ⟨yb, 0, none⟩)) ∧ w'.cell? ⟨w.heap.size, 3, none⟩ = some (.int .i64 m))
    (first | go_keep | exact ⟨c1a, c1b⟩)
    (first
      | (go_at_call 37; refine (HN.out _ (by exact ((nofr _).drew).keep)).b.mono ?_; rintro e w1 ⟨rfl, hf1⟩
         have F1 : Hid (Fr (fun _ => False) w w1) := ((nofr _).drew).trans hf1 (fun _ h => h.elim)
         have c1a : w1.cell? ⟨wb, 1, none⟩ = some (.pointer (some ⟨yb, 0, none⟩)) := (F1.out.cell (p := ⟨wb, 1, none⟩) hwlt id).trans c1
         have c1b : w1.cell? ⟨w.heap.size, 3, none⟩ = some (.int .i64 m) := (hf1.cell (p := ⟨w.heap.size, 3, none⟩) (by simp) id).trans (by simp)
         have c1c : w1.cell? ⟨w.heap.size, 0, none⟩ = some (.int .i64 16) := (hf1.cell (p := ⟨w.heap.size, 0, none⟩) (by simp) id).trans (by simp)
         have c1d : w1.cell? ⟨wb, 0, none⟩ = some (.pointer (some ⟨xb, 0, none⟩)) := (F1.out.cell (p := ⟨wb, 0, none⟩) hwlt id).trans c0
         have hw1 : wb < w1.heap.size := Nat.lt_of_lt_of_le hwlt F1.out.size
         clear hf1)
      | (go_at_call 80; refine (spoken_any _ _ _ HNF.out).mono ?_; rintro e w2 ⟨rfl, rfl⟩))
  go_wp2_with (first
    | (go_at_call 87; refine (HM.out _ (by exact F1.out.keep)).a.mono ?_; rintro e w3 ⟨rfl, hf3⟩
       have F3 : Hid (Fr (fun _ => False) w w3) := F1.out.trans hf3 (fun _ h => h.elim)
       have c3 : w3.cell? ⟨wb, 1, none⟩ = some (.pointer (some ⟨yb, 0, none⟩)) := (hf3.cell (p := ⟨wb, 1, none⟩) hw1 id).trans c1a
       have hw3 : wb < w3.heap.size := Nat.lt_of_lt_of_le hw1 hf3.size
       clear hf3)
    | (go_at_call 88; refine (HM.out _ (by exact (F3.out.alloc _).keep)).b.mono ?_; rintro e w4 ⟨rfl, hf4⟩
       have F4 : Hid (Fr (fun _ => False) w w4) := (F3.out.alloc _).trans hf4 (fun _ h => h.elim)
       have k0 : w4.cell? ⟨w3.heap.size, 0, none⟩ = some (.int .i64 m1) := Fr.box (S := fun _ => False) hf4 id 0
       have k1 : w4.cell? ⟨w3.heap.size, 1, none⟩ = some (.int .i64 m2) := Fr.box (S := fun _ => False) hf4 id 1
       have k2 : w4.cell? ⟨w3.heap.size, 2, none⟩ = some (.int .i64 m3) := Fr.box (S := fun _ => False) hf4 id 2
       have k3 : w4.cell? ⟨w3.heap.size, 3, none⟩ = some (.int .i64 m4) := Fr.box (S := fun _ => False) hf4 id 3
       have k4 : w4.cell? ⟨w3.heap.size, 4, none⟩ = some (.bool mf) := Fr.box (S := fun _ => False) hf4 id 4
       have hw4 : w3.heap.size < w4.heap.size := Nat.lt_of_lt_of_le (by simp) hf4.size
       clear hf4))
  go_ret
  exact ⟨by simp, F4.out.alloc _⟩
end

end Go.Proofs.YtkelpcjiediamaaGreat
