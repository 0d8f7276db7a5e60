/-
  The law's question for a message, on both sides.
-/
import Derived.Test.YtkelpcjiediamaaGreatMAskQ
namespace Go.Proofs.YtkelpcjiediamaaGreat
open Go.RowKit Go.Maps

theorem eql103 (w : World) (a b c d : Int) (f : Bool) : (binOp .eql 119 (.agg #[.int .i64 a, .int .i64 b, .int .i64 c, .int .i64 d, .bool f]) (.agg #[.int .i64 a, .int .i64 b, .int .i64 c, .int .i64 d, .bool f])).run Tryz.prog w = .ok (.bool true) w := by
  go_simp

def spoken (c : Int) (n : Nat) : Int := if c < 0 then c else c % ((n : Int) + 1)

theorem spoken_any (w : World) (c : Int) (n : Nat) (hn : n ≤ 100) : Calls Tryz.prog 80 #[.int .i64 c, .int .i64 n] w fun e w' => e = .returned (.int .i64 (spoken c n)) ∧ w = w' := by
  by_cases h : c < 0
  · have H : Hid (spoken c n = c) := by show spoken c n = c; simp [spoken, h]
    go_enter Tryz.func80, Tryz.ntmps80
    go_wp2
    go_ret
    exact ⟨by rw [H.out] <;> rfl, rfl⟩
  · have H : Hid (spoken c n = c % ((n : Int) + 1)) := by show spoken c n = c % ((n : Int) + 1); simp [spoken, h]
    have hp : (n : Int) + 1 ≠ 0 := by omega
    go_enter Tryz.func80, Tryz.ntmps80
    go_wp2
    go_ret
    exact ⟨by rw [H.out] <;> rfl, rfl⟩

theorem i64_of {c : Int} (h1 : -9223372036854775808 ≤ c) (h2 : c ≤ 9223372036854775807) : I64 c := by
  simpa [I64, Lit.wf, IntKind.min, IntKind.max, IntKind.signed, IntKind.bits] using And.intro h1 h2

theorem spoken_wf {c : Int} {n : Nat} (hn : n ≤ 100) (hc : I64 c) : I64 (spoken c n) := by
  unfold spoken
  split
  · exact hc
  · have h1 := Int.emod_nonneg c (b := (n : Int) + 1) (by omega)
    have h2 := Int.emod_lt_of_pos c (b := (n : Int) + 1) (by omega)
    exact i64_of (by omega) (by omega)

section
variable {w : World} {B : Nat} {F : Nat → Prop} {wb xb yb bb n : Nat} {o : BookS}

set_option maxRecDepth 100000 in
set_option maxHeartbeats 3200000 in
theorem net_mess (h : Scn w B F wb xb yb bb n o) (ha : Ask w F (ptr xb) (ptr yb)) (p q m : Int) (hm : I64 m) (ts : ByteArray) (fl : Bool) :
    Calls Tryz.prog 34 #[ptr wb, .agg #[.int .i64 16, .int .i64 p, .int .i64 q, .int .i64 m, .string ts, .bool fl]] w fun e w' => e = .returned (.bool true) ∧ Fr (fun _ => False) w w' := by
  obtain ⟨nf, hnf, hnum⟩ := ha.num
  obtain ⟨m1, m2, m3, m4, er, mf, hmess⟩ := ha.mess (spoken m nf) (spoken_wf hnf hm)
  have HM : Hid (∀ w1, Keep F w w1 → AskM (ptr xb) (ptr yb) (spoken m nf) w1 m1 m2 m3 m4 er mf) := hmess
  have HN : Hid (∀ w1, Keep F w w1 → AskN (ptr xb) (ptr yb) w1 nf) := hnum
  have HS : Hid (Scn w B F wb xb yb bb n o) := h
  have HNF : Hid (nf ≤ 100) := hnf
  obtain ⟨c0, c1, c2⟩ := h.cells
  have hwlt := lt_of_block h.blk
  have hlaw := eql103
  clear h ha hmess hnum hnf hm c2
  unfold ptr at c0 c1 HM HN ⊢
  go_enter Tryz.func34, Tryz.ntmps34
  go_wp2_with fail
  go_region_held3 (fun w' => w'.cell? ⟨wb, 1, none⟩ = some (.pointer (some ⟨yb, 0, none⟩)) ∧ w'.cell? ⟨w.heap.size, 3, none⟩ = some (.int .i64 m))
    (first | go_keep | exact ⟨c1a, c1b⟩)
    (first
      | (go_at_call 37; refine (HN.out _ (by exact ((nofr _).drew).keep)).b.mono ?_; rintro e w1 ⟨rfl, hf1⟩
         have F1 : Hid (Fr (fun _ => False) w w1) := ((nofr _).drew).trans hf1 (fun _ h => h.elim)
         have c1a : w1.cell? ⟨wb, 1, none⟩ = some (.pointer (some ⟨yb, 0, none⟩)) := (F1.out.cell (p := ⟨wb, 1, none⟩) hwlt id).trans c1
         have c1b : w1.cell? ⟨w.heap.size, 3, none⟩ = some (.int .i64 m) := (hf1.cell (p := ⟨w.heap.size, 3, none⟩) (by simp) id).trans (by simp)
         have c1c : w1.cell? ⟨w.heap.size, 0, none⟩ = some (.int .i64 16) := (hf1.cell (p := ⟨w.heap.size, 0, none⟩) (by simp) id).trans (by simp)
         have c1d : w1.cell? ⟨wb, 0, none⟩ = some (.pointer (some ⟨xb, 0, none⟩)) := (F1.out.cell (p := ⟨wb, 0, none⟩) hwlt id).trans c0
         have hw1 : wb < w1.heap.size := Nat.lt_of_lt_of_le hwlt F1.out.size
         clear hf1)
      | (go_at_call 80; refine (spoken_any _ _ _ HNF.out).mono ?_; rintro e w2 ⟨rfl, rfl⟩))
  go_wp2_with (first
    | (go_at_call 87; refine (HM.out _ (by exact F1.out.keep)).a.mono ?_; rintro e w3 ⟨rfl, hf3⟩
       have F3 : Hid (Fr (fun _ => False) w w3) := F1.out.trans hf3 (fun _ h => h.elim)
       have c3 : w3.cell? ⟨wb, 1, none⟩ = some (.pointer (some ⟨yb, 0, none⟩)) := (hf3.cell (p := ⟨wb, 1, none⟩) hw1 id).trans c1a
       have hw3 : wb < w3.heap.size := Nat.lt_of_lt_of_le hw1 hf3.size
       clear hf3)
    | (go_at_call 88; refine (HM.out _ (by exact (F3.out.alloc _).keep)).b.mono ?_; rintro e w4 ⟨rfl, hf4⟩
       have F4 : Hid (Fr (fun _ => False) w w4) := (F3.out.alloc _).trans hf4 (fun _ h => h.elim)
       have k0 : w4.cell? ⟨w3.heap.size, 0, none⟩ = some (.int .i64 m1) := Fr.box (S := fun _ => False) hf4 id 0
       have k1 : w4.cell? ⟨w3.heap.size, 1, none⟩ = some (.int .i64 m2) := Fr.box (S := fun _ => False) hf4 id 1
       have k2 : w4.cell? ⟨w3.heap.size, 2, none⟩ = some (.int .i64 m3) := Fr.box (S := fun _ => False) hf4 id 2
       have k3 : w4.cell? ⟨w3.heap.size, 3, none⟩ = some (.int .i64 m4) := Fr.box (S := fun _ => False) hf4 id 3
       have k4 : w4.cell? ⟨w3.heap.size, 4, none⟩ = some (.bool mf) := Fr.box (S := fun _ => False) hf4 id 4
       have hw4 : w3.heap.size < w4.heap.size := Nat.lt_of_lt_of_le (by simp) hf4.size
       clear hf4))
  go_ret
  exact ⟨by simp, F4.out.alloc _⟩
end

end Go.Proofs.YtkelpcjiediamaaGreat

/-
  Acts that ask: a message, the journal, how many are in flight.
-/
namespace Go.Proofs.YtkelpcjiediamaaGreat
open Go.RowKit Go.Maps

section
variable {w : World} {B : Nat} {F : Nat → Prop} {wb xb yb bb n : Nat} {o : BookS}

theorem Asked.of_fr {w' : World} (h : Scn w B F wb xb yb bb n o) (f : Fr (fun _ => False) w w') : Asked w w' B F wb xb yb bb n :=
  ⟨⟨o, h.after f⟩, f.keep, f.mono (fun _ h => h.elim)⟩

theorem Asked.trans {w1 w2 : World} {n1 n2 : Nat} (h : Asked w w1 B F wb xb yb bb n1) (h2 : Asked w1 w2 B F wb xb yb bb n2) : Asked w w2 B F wb xb yb bb n2 :=
  ⟨h2.scn, h.keep.trans h2.keep, h.far.trans h2.far (fun _ => .inl)⟩

set_option maxRecDepth 100000 in
set_option maxHeartbeats 3200000 in
theorem act_mess (h : Scn w B F wb xb yb bb n o) (ha : Ask w F (ptr xb) (ptr yb)) (p q m : Int) (hm : I64 m) (ts : ByteArray) (fl : Bool) :
    Calls Tryz.prog 12 #[ptr wb, .agg #[.int .i64 16, .int .i64 p, .int .i64 q, .int .i64 m, .string ts, .bool fl]] w fun e w' => e = .returned (.bool true) ∧ Fr (fun _ => False) w w' := by
  have HA : Hid (Ask w F (ptr xb) (ptr yb)) := ha
  have HS : Hid (Scn w B F wb xb yb bb n o) := h
  have HI : Hid (I64 m) := hm
  clear h ha hm
  go_enter Tryz.func12, Tryz.ntmps12
  go_wp2_with (first
    | (go_at_call 34; refine (net_mess (by exact HS.out.after (nofr _)) (by exact HA.out.keep (nofr _).keep) p q m HI.out ts fl).mono ?_; rintro e w1 ⟨rfl, hf1⟩
       have F1 : Hid (Fr (fun _ => False) w w1) := (nofr _).trans hf1 (fun _ h => h.elim)
       clear hf1))
  go_ret
  exact ⟨rfl, F1.out⟩

set_option maxRecDepth 100000 in
set_option maxHeartbeats 3200000 in
theorem act_jour (h : Scn w B F wb xb yb bb n o) (ha : Ask w F (ptr xb) (ptr yb)) (p q m : Int) (ts : ByteArray) (fl : Bool) :
    Calls Tryz.prog 12 #[ptr wb, .agg #[.int .i64 21, .int .i64 p, .int .i64 q, .int .i64 m, .string ts, .bool fl]] w fun e w' => e = .returned (.bool true) ∧ Fr (fun _ => False) w w' := by
  obtain ⟨s, hj⟩ := ha.jour
  have HJ : Hid (∀ w1, Keep F w w1 → AskJ (ptr xb) (ptr yb) w1 s) := hj
  obtain ⟨c0, c1, c2⟩ := h.cells
  have hwlt := lt_of_block h.blk
  clear h ha hj c2
  unfold ptr at c0 c1 HJ ⊢
  go_enter Tryz.func12, Tryz.ntmps12
  go_wp2_with (first
    | (go_at_call 26; refine (HJ.out _ (by exact (nofr _).keep)).a.mono ?_; rintro e w1 ⟨rfl, hf1⟩
       have F1 : Hid (Fr (fun _ => False) w w1) := (nofr _).trans hf1 (fun _ h => h.elim)
       have d1 : w1.cell? ⟨wb, 1, none⟩ = some (.pointer (some ⟨yb, 0, none⟩)) := (F1.out.cell (p := ⟨wb, 1, none⟩) hwlt id).trans c1
       clear hf1)
    | (go_at_call 42; refine (HJ.out _ (by exact F1.out.keep)).b.mono ?_; rintro e w2 ⟨rfl, hf2⟩
       have F2 : Hid (Fr (fun _ => False) w w2) := F1.out.trans hf2 (fun _ h => h.elim)
       clear hf2))
  go_ret
  exact ⟨by simp, F2.out⟩

set_option maxRecDepth 100000 in
set_option maxHeartbeats 3200000 in
theorem act_num (h : Scn w B F wb xb yb bb n o) (ha : Ask w F (ptr xb) (ptr yb)) (p q m : Int) (ts : ByteArray) (fl : Bool) :
    Calls Tryz.prog 12 #[ptr wb, .agg #[.int .i64 15, .int .i64 p, .int .i64 q, .int .i64 m, .string ts, .bool fl]] w fun e w' => e = .returned (.bool true) ∧ Fr (fun _ => False) w w' := by
  obtain ⟨s, hs, hj⟩ := ha.num
  have HJ : Hid (∀ w1, Keep F w w1 → AskN (ptr xb) (ptr yb) w1 s) := hj
  obtain ⟨c0, c1, c2⟩ := h.cells
  have hwlt := lt_of_block h.blk
  clear h ha hj c2
  unfold ptr at c0 c1 HJ ⊢
  go_enter Tryz.func12, Tryz.ntmps12
  go_wp2_with (first
    | (go_at_call 36; refine (HJ.out _ (by exact (nofr _).keep)).a.mono ?_; rintro e w1 ⟨rfl, hf1⟩
       have F1 : Hid (Fr (fun _ => False) w w1) := (nofr _).trans hf1 (fun _ h => h.elim)
       have d1 : w1.cell? ⟨wb, 1, none⟩ = some (.pointer (some ⟨yb, 0, none⟩)) := (F1.out.cell (p := ⟨wb, 1, none⟩) hwlt id).trans c1
       clear hf1)
    | (go_at_call 37; refine (HJ.out _ (by exact F1.out.keep)).b.mono ?_; rintro e w2 ⟨rfl, hf2⟩
       have F2 : Hid (Fr (fun _ => False) w w2) := F1.out.trans hf2 (fun _ h => h.elim)
       clear hf2))
  go_ret
  exact ⟨by simp, F2.out⟩
end

end Go.Proofs.YtkelpcjiediamaaGreat

/-
  All that can be asked.
-/
namespace Go.Proofs.YtkelpcjiediamaaGreat
open Go.RowKit Go.Maps

section
variable {w : World} {B : Nat} {F : Nat → Prop} {wb xb yb bb n : Nat} {o : BookS}

set_option maxRecDepth 100000 in
set_option maxHeartbeats 6400000 in
theorem all_any (h : Scn w B F wb xb yb bb n o) (ha : Ask w F (ptr xb) (ptr yb)) (hn : n ≤ 8000000) :
    Calls Tryz.prog 43 #[ptr wb] w fun e w' => e = .returned (.bool true) ∧ Asked w w' B F wb xb yb bb (n + 34) := by
  obtain ⟨nf, hnf, hnum⟩ := ha.num
  have HNUM : Hid (∀ w1, Keep F w w1 → AskN (ptr xb) (ptr yb) w1 nf) := hnum
  have HA : Hid (Ask w F (ptr xb) (ptr yb)) := ha
  have HS : Hid (Scn w B F wb xb yb bb n o) := h
  have HN : Hid (n ≤ 8000000) := hn
  obtain ⟨c0, c1, c2⟩ := h.cells
  have hwlt := lt_of_block h.blk
  clear h ha hnum hn c2
  unfold ptr at c0 c1 HNUM ⊢
  go_enter Tryz.func43, Tryz.ntmps43
  go_wp2_with fail
  go_loopw [3] (fun i w' => ∃ k : Nat, k ≤ nf + 2 ∧ i = .int .i64 ((k : Int) - 1) ∧ Fr (fun _ => False) w w') (fun i _ => nf + 3 - (intOf i + 1).toNat)
  case atStart => exact ⟨0, by omega, rfl, Fr.refl _ _⟩
  case round =>
    obtain ⟨k, hk, rfl, hfr⟩ := hrel
    have HF : Hid (Fr (fun _ => False) w wr) := hfr
    have d1 : wr.cell? ⟨wb, 1, none⟩ = some (.pointer (some ⟨yb, 0, none⟩)) := (hfr.cell (p := ⟨wb, 1, none⟩) hwlt id).trans c1
    clear hfr
    by_cases hlt : (k : Int) - 1 ≤ nf
    · have hki : I64 ((k : Int) - 1) := i64_of (by omega) (by omega)
      have HKI : Hid (I64 ((k : Int) - 1)) := hki
      clear hki
      go_wp2_with (first
        | (go_at_call 37; refine (HNUM.out _ (by exact HF.out.keep)).b.mono ?_; rintro e w1 ⟨rfl, hf1⟩
           have HF1 : Hid (Fr (fun _ => False) w w1) := HF.out.trans hf1 (fun _ h => h.elim)
           clear hf1)
        | (go_at_call 12; refine (act_mess (by exact HS.out.after HF1.out) (by exact HA.out.keep HF1.out.keep) 0 0 _ HKI.out ⟨#[]⟩ false).mono ?_; rintro e w2 ⟨rfl, hf2⟩
           have HF2 : Hid (Fr (fun _ => False) w w2) := HF1.out.trans hf2 (fun _ h => h.elim)
           clear hf2))
      go_roundw
      case rel => exact ⟨k + 1, by omega, by go_num, HF2.out⟩
      case measure => simp [intOf]; omega
    · go_wp2_with (first
        | (go_at_call 37; refine (HNUM.out _ (by exact HF.out.keep)).b.mono ?_; rintro e w1 ⟨rfl, hf1⟩
           have HF1 : Hid (Fr (fun _ => False) w w1) := HF.out.trans hf1 (fun _ h => h.elim)
           clear hf1))
      go_loopw [5] (fun i w' => ∃ k : Nat, k ≤ 8 ∧ i = .int .i64 ((k : Int) - 1) ∧ Asked w w' B F wb xb yb bb (n + 2 * k)) (fun i _ => 9 - (intOf i + 1).toNat)
      case atStart => exact ⟨0, by omega, rfl, Asked.of_fr HS.out HF1.out⟩
      case round =>
        clear HF HF1 d1 hlt hk
        obtain ⟨k, hk, rfl, hfr⟩ := hrel
        have HF : Hid (Asked w wr B F wb xb yb bb (n + 2 * k)) := hfr
        clear hfr
        by_cases hlt : (k : Int) - 1 ≤ 6
        · have hki : I64 ((k : Int) - 1) := i64_of (by omega) (by omega)
          have HKI : Hid (I64 ((k : Int) - 1)) := hki
          have HKN : Hid (n + 2 * k ≤ 9000000) := by have := HN.out; show n + 2 * k ≤ 9000000; omega
          clear hki
          obtain ⟨ok, hok⟩ := HF.out.scn
          have HOK : Hid (Scn wr B F wb xb yb bb (n + 2 * k) ok) := hok
          clear hok
          go_wp2_with (first
            | (go_at_call 38; refine (producer_any HOK.out (by exact HA.out.keep HF.out.keep) HKN.out _ HKI.out).mono ?_; rintro e w2 ⟨rfl, hf2⟩
               have HF2 : Hid (Asked w w2 B F wb xb yb bb (n + 2 * (k + 1))) := HF.out.trans hf2
               clear hf2))
          go_roundw
          case rel => exact ⟨k + 1, by omega, by go_num, HF2.out⟩
          case measure => simp [intOf]; omega
        · have hk8 : k = 8 := by omega
          subst hk8
          go_wp2_with fail
          go_loopw [7] (fun i w' => ∃ k : Nat, k ≤ 6 ∧ i = .int .i64 ((k : Int) - 1) ∧ Asked w w' B F wb xb yb bb (n + 16 + 3 * k)) (fun i _ => 7 - (intOf i + 1).toNat)
          case atStart => exact ⟨0, by omega, rfl, HF.out⟩
          case round =>
            clear HF hlt hk
            obtain ⟨k, hk, rfl, hfr⟩ := hrel
            have HF : Hid (Asked w wr B F wb xb yb bb (n + 16 + 3 * k)) := hfr
            clear hfr
            by_cases hlt : (k : Int) - 1 ≤ 4
            · have hki : I64 ((k : Int) - 1) := i64_of (by omega) (by omega)
              have HKI : Hid (I64 ((k : Int) - 1)) := hki
              have HKN : Hid (n + 16 + 3 * k + 3 ≤ 9000000) := by have := HN.out; show n + 16 + 3 * k + 3 ≤ 9000000; omega
              clear hki
              obtain ⟨ok, hok⟩ := HF.out.scn
              have HOK : Hid (Scn wr B F wb xb yb bb (n + 16 + 3 * k) ok) := hok
              clear hok
              go_wp2_with (first
                | (go_at_call 39; refine (part_any HOK.out (by exact HA.out.keep HF.out.keep) (by have := HKN.out; omega) _ HKI.out).mono ?_; rintro e w2 ⟨rfl, hf2⟩
                   have HF2 : Hid (Asked w w2 B F wb xb yb bb (n + 16 + 3 * k + 1)) := HF.out.trans hf2
                   obtain ⟨o2, ho2⟩ := hf2.scn
                   have HO2 : Hid (Scn w2 B F wb xb yb bb (n + 16 + 3 * k + 1) o2) := ho2
                   clear hf2 ho2)
                | (go_at_call 40; refine (fetch_both HO2.out (by exact HA.out.keep HF2.out.keep) (by have := HKN.out; omega) _ 0 1000 HKI.out).mono ?_; rintro e w3 ⟨rfl, hf3⟩
                   have HF3 : Hid (Asked w w3 B F wb xb yb bb (n + 16 + 3 * k + 2)) := HF2.out.trans hf3
                   obtain ⟨o3, ho3⟩ := hf3.scn
                   have HO3 : Hid (Scn w3 B F wb xb yb bb (n + 16 + 3 * k + 2) o3) := ho3
                   clear hf3 ho3)
                | (go_at_call 41; refine (entries_both HO3.out (by exact HA.out.keep HF3.out.keep) (by have := HKN.out; omega) _ HKI.out).mono ?_; rintro e w4 ⟨rfl, hf4⟩
                   have HF4 : Hid (Asked w w4 B F wb xb yb bb (n + 16 + 3 * (k + 1))) := HF3.out.trans hf4
                   clear hf4))
              go_roundw
              case rel => exact ⟨k + 1, by omega, by go_num, HF4.out⟩
              case measure => simp [intOf]; omega
            · have hk6 : k = 6 := by omega
              subst hk6
              obtain ⟨ok, hok⟩ := HF.out.scn
              have HOK : Hid (Scn wr B F wb xb yb bb (n + 34) ok) := hok
              clear hok
              go_wp2_with (fail)
              refine (act_jour HOK.out (by exact HA.out.keep HF.out.keep) 0 0 0 ⟨#[]⟩ false).mono ?_
              rintro e w2 ⟨rfl, hf2⟩
              have HF2 : Hid (Asked w w2 B F wb xb yb bb (n + 34)) := HF.out.trans (Asked.of_fr HOK.out hf2)
              obtain ⟨o2, ho2⟩ := HF2.out.scn
              have HO2 : Hid (Scn w2 B F wb xb yb bb (n + 34) o2) := ho2
              clear hf2 ho2
              go_wp2_with (fail)
              refine (act_num HO2.out (by exact HA.out.keep HF2.out.keep) 0 0 0 ⟨#[]⟩ false).mono ?_
              rintro e w3 ⟨rfl, hf3⟩
              have HF3 : Hid (Asked w w3 B F wb xb yb bb (n + 34)) := HF2.out.trans (Asked.of_fr HO2.out hf3)
              clear hf3
              go_wp2_with (fail)
              go_ret
              exact ⟨rfl, HF3.out⟩
end

end Go.Proofs.YtkelpcjiediamaaGreat
