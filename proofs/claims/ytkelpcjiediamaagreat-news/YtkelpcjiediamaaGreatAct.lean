/-
  Acts that ask: a message, the journal, how many are in flight.
-/
import Derived.Test.YtkelpcjiediamaaGreatNet
namespace Go.Proofs.YtkelpcjiediamaaGreat
open Go.RowKit Go.Maps

section
variable {w : World} {B : Nat} {F : Nat → Prop} {wb xb yb bb n : Nat} {o : BookS}

theorem Asked.of_fr {w' : World} (h : Scn w B F wb xb yb bb n o) (f : Fr (fun _ => False) w w') : Asked w w' B F wb xb yb bb n :=
  ⟨⟨o, h.after f⟩, f.keep, f.mono (fun _ h => h.elim)⟩

theorem Asked.trans {w1 w2 : World} {n1 n2 : Nat} (h : Asked w w1 B F wb xb yb bb n1) (h2 : Asked w1 w2 B F wb xb yb bb n2) : Asked w w2 B F wb xb yb bb n2 :=
  ⟨h2.scn, h.keep.trans h2.keep, h.far.trans h2.far (fun _ => .inl)⟩

set_option maxRecDepth 100000 in
set_option maxHeartbeats 3200000 in
theorem act_mess (h : Scn w B F wb xb yb bb n o) (ha : Ask w F (ptr xb) (ptr yb)) (p q m : Int) (hm : I64 m) (ts : ByteArray) (fl : Bool) :
    Calls Tryz.prog 12 #[ptr wb, .agg #[.int .i64 16, .int .i64 p, .int .i64 q, .int .i64 m, .string ts, .bool fl]] w fun e w' => e = .returned (.bool true) ∧ Fr (fun _ => False) w w' := by
  have HA : Hid (Ask w F (ptr xb) (ptr yb)) := ha
  have HS : Hid (Scn w B F wb xb yb bb n o) := h
  have HI : Hid (I64 m) := hm
  clear h ha hm
  go_enter Tryz.func12, Tryz.ntmps12
  go_wp2_with (first
    | (go_at_call 34; refine (net_mess (by exact HS.out.after (nofr _)) (by exact HA.out.keep (nofr _).keep) p q m HI.out ts fl).mono ?_; rintro e w1 ⟨rfl, hf1⟩
       have F1 : Hid (Fr (fun _ => False) w w1) := (nofr _).trans hf1 (fun _ h => h.elim)
       clear hf1))
  go_ret
  exact ⟨rfl, F1.out⟩

set_option maxRecDepth 100000 in
set_option maxHeartbeats 3200000 in
theorem act_jour (h : Scn w B F wb xb yb bb n o) (ha : Ask w F (ptr xb) (ptr yb)) (p q m : Int) (ts : ByteArray) (fl : Bool) :
    Calls Tryz.prog 12 #[ptr wb, .agg #[.int .i64 21, .int .i64 p, .int .i64 q, .int .i64 m, .string ts, .bool fl]] w fun e w' => e = .returned (.bool true) ∧ Fr (fun _ => False) w w' := by
  obtain ⟨s, hj⟩ := ha.jour
  have HJ : Hid (∀ w1, Keep F w w1 → AskJ (ptr xb) (ptr yb) w1 s) := hj
  obtain ⟨c0, c1, c2⟩ := h.cells
  have hwlt := lt_of_block h.blk
  clear h ha hj c2
  unfold ptr at c0 c1 HJ ⊢
  go_enter Tryz.func12, Tryz.ntmps12
  go_wp2_with (first
    | (go_at_call 26; refine (HJ.out _ (by exact (nofr _).keep)).a.mono ?_; rintro e w1 ⟨rfl, hf1⟩
       have F1 : Hid (Fr (fun _ => False) w w1) := (nofr _).trans hf1 (fun _ h => h.elim)
       have d1 : w1.cell? ⟨wb, 1, none⟩ = some (.pointer (some ⟨yb, 0, none⟩)) := (F1.out.cell (p := ⟨wb, 1, none⟩) hwlt id).trans c1
       clear hf1)
    | (go_at_call 42; refine (HJ.out _ (by exact F1.out.keep)).b.mono ?_; rintro e w2 ⟨rfl, hf2⟩
       have F2 : Hid (Fr (fun _ => False) w w2) := F1.out.trans hf2 (fun _ h => h.elim)
       clear hf2))
  go_ret
  exact ⟨by simp, F2.out⟩

set_option maxRecDepth 100000 in
set_option maxHeartbeats 3200000 in
theorem act_num (h : Scn w B F wb xb yb bb n o) (ha : Ask w F (ptr xb) (ptr yb)) (p q m : Int) (ts : ByteArray) (fl : Bool) :
    Calls Tryz.prog 12 #[ptr wb, .agg #[.int .i64 15, .int .i64 p, .int .i64 q, .int .i64 m, .string ts, .bool fl]] w fun e w' => e = .returned (.bool true) ∧ Fr (fun _ => False) w w' := by
  obtain ⟨s, hs, hj⟩ := ha.num
  have HJ : Hid (∀ w1, Keep F w w1 → AskN (ptr xb) (ptr yb) w1 s) := hj
  obtain ⟨c0, c1, c2⟩ := h.cells
  have hwlt := lt_of_block h.blk
  clear h ha hj c2
  unfold ptr at c0 c1 HJ ⊢
  go_enter Tryz.func12, Tryz.ntmps12
  go_wp2_with (first
    | (go_at_call 36; refine (HJ.out _ (by exact (nofr _).keep)).a.mono ?_; rintro e w1 ⟨rfl, hf1⟩
       have F1 : Hid (Fr (fun _ => False) w w1) := (nofr _).trans hf1 (fun _ h => h.elim)
       have d1 : w1.cell? ⟨wb, 1, none⟩ = some (.pointer (some ⟨yb, 0, none⟩)) := (F1.out.cell (p := ⟨wb, 1, none⟩) hwlt id).trans c1
       clear hf1)
    | (go_at_call 37; refine (HJ.out _ (by exact F1.out.keep)).b.mono ?_; rintro e w2 ⟨rfl, hf2⟩
       have F2 : Hid (Fr (fun _ => False) w w2) := F1.out.trans hf2 (fun _ h => h.elim)
       clear hf2))
  go_ret
  exact ⟨by simp, F2.out⟩
end

end Go.Proofs.YtkelpcjiediamaaGreat
