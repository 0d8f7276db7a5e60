/-
  What befalls the keeper and the parts, on both heralds.
-/
import Derived.Test.YtkelpcjiediamaaGreatLaw2
namespace Go.Proofs.YtkelpcjiediamaaGreat
open Go.RowKit Go.Maps

section
variable {w w' : World} {B wb xb yb bb N n : Nat} {h h' : HS} {y y' : RS} {o : BookS}

set_option maxRecDepth 100000 in
set_option maxHeartbeats 3200000 in
theorem keeps_out (g : Game w B wb xb yb bb N n h y o) (hN : N ≤ 10000000) (p q m : Int) {ts : ByteArray} (fl : Bool) :
    Calls Tryz.prog 35 #[ptr wb, actV 10 p q m ts fl] w (Acted w B xb yb h y (N + 1)) := by
  have G : Hid (Game w B wb xb yb bb N n h y o) := g
  have HN : Hid (N ≤ 10000000) := hN
  obtain ⟨c0, c1, c2⟩ := g.scn.cells
  have hwlt := g.lt
  unfold ptr at c0 c1 ⊢
  unfold actV
  clear g c2 hN
  have ZW : Hid (∃ w1 : World, w1 = w.alloc (.cells #[.int .i64 10, .int .i64 p, .int .i64 q, .int .i64 m, .string ts, .bool fl] 28 (0, 0))) := ⟨_, rfl⟩
  go_enter Tryz.func35, Tryz.ntmps35
  go_wp2_with fail
  obtain ⟨w1, e1⟩ := ZW.out
  rw [← e1]
  have F1 : Hid (Fr (fun _ => False) w w1) := by subst e1; exact nofr _
  have BX : Hid (w1.heap[w.heap.size]? = some (.cells #[.int .i64 10, .int .i64 p, .int .i64 q, .int .i64 m, .string ts, .bool fl] 28 (0, 0))) := by subst e1; exact heap_alloc_new _ _
  have d0 := (F1.out.cell (p := ⟨wb, 0, none⟩) hwlt id).trans c0
  have d1 := (F1.out.cell (p := ⟨wb, 1, none⟩) hwlt id).trans c1
  have hw1 : wb < w1.heap.size := Nat.lt_of_lt_of_le hwlt F1.out.size
  clear ZW e1
  have HTW : Hid (TwoC 52 90 #[.pointer (some ⟨xb, 0, none⟩), .int .i64 q, .bool fl] #[.pointer (some ⟨yb, 0, none⟩), .int .i64 q, .bool fl] xb yb h y w1.drew (SameE B xb yb h y (N + 1) w1.drew)) := (G.out.after F1.out.drew).both.out q fl
  go_region_held3 (fun w' => w'.cell? ⟨wb, 0, none⟩ = some (.pointer (some ⟨xb, 0, none⟩)) ∧ w'.cell? ⟨w.heap.size, 2, none⟩ = some (.int .i64 q) ∧ w'.cell? ⟨w.heap.size, 5, none⟩ = some (.bool fl))
    (first | with_reducible exact C2 | exact ⟨d0, cell_of_cells BX.out 2, cell_of_cells BX.out 5⟩ | go_keep)
    ((go_at_call 52; refine (show TwoC _ _ _ _ _ _ _ _ _ _ from HTW.out).mono ?_; rintro e w2 ⟨r, rfl, hf2, hcall2⟩
      obtain ⟨ra, rfl⟩ := shapeE (g := 90) hcall2
      have HC2 : Hid (∀ W, Fr (fun _ => False) w2 W → Calls Tryz.prog 90 #[.pointer (some ⟨yb, 0, none⟩), .int .i64 q, .bool fl] W fun e w3 => ∃ r2, e = .returned r2 ∧ SameE B xb yb h y (N + 1) w1.drew (.int .i64 ra) r2 w3) := hcall2
      have b2 := G.out.boxed (Nat.le_refl _) (W := w1.drew) BX.out hf2
      have BX2 : Hid (w2.heap[w.heap.size]? = some (.cells #[.int .i64 10, .int .i64 p, .int .i64 q, .int .i64 m, .string ts, .bool fl] 28 (0, 0))) := b2
      have e1 := G.out.wcell (W := w1.drew) hw1 d1 hf2
      have C2 : w2.cell? ⟨wb, 0, none⟩ = some (.pointer (some ⟨xb, 0, none⟩)) ∧ w2.cell? ⟨w.heap.size, 2, none⟩ = some (.int .i64 q) ∧ w2.cell? ⟨w.heap.size, 5, none⟩ = some (.bool fl) := ⟨(G.out.wcell (W := w1.drew) hw1 d0 hf2), cell_of_cells b2 2, cell_of_cells b2 5⟩
      clear hcall2 hf2 b2))
  go_wp2_with fail
  go_region_held3 (fun w' => w'.cell? ⟨wb, 1, none⟩ = some (.pointer (some ⟨yb, 0, none⟩)) ∧ w'.cell? ⟨w.heap.size, 2, none⟩ = some (.int .i64 q) ∧ w'.cell? ⟨w.heap.size, 5, none⟩ = some (.bool fl))
    (first | with_reducible exact C3 | exact ⟨e1, cell_of_cells BX2.out 2, cell_of_cells BX2.out 5⟩ | go_keep)
    ((go_at_call 90; refine (HC2.out w2.drew ((Fr.refl _ _).drew)).mono ?_; rintro e w3 ⟨r2, rfl, hpost⟩
      obtain ⟨⟨ra2, hr1, rfl⟩, h', y', hto⟩ := hpost
      simp only [Value.int.injEq, true_and] at hr1
      subst hr1
      have T3 : Hid (BothTo w w3 B xb yb h y (N + 1) h' y') := hto.behind F1.out.drew
      have b3 := G.out.boxed (Nat.le_refl _) (W := w1.drew) BX.out hto.fr
      have C3 : w3.cell? ⟨wb, 1, none⟩ = some (.pointer (some ⟨yb, 0, none⟩)) ∧ w3.cell? ⟨w.heap.size, 2, none⟩ = some (.int .i64 q) ∧ w3.cell? ⟨w.heap.size, 5, none⟩ = some (.bool fl) := ⟨(G.out.wcell (W := w1.drew) hw1 d1 hto.fr), cell_of_cells b3 2, cell_of_cells b3 5⟩
      clear hto b3))
  all_goals
    go_wp2_with fail
    go_ret
    exact ⟨by simp, h', y', T3.out⟩

set_option maxRecDepth 100000 in
set_option maxHeartbeats 3200000 in
theorem keeps_break (g : Game w B wb xb yb bb N n h y o) (hN : N ≤ 10000000) (p q m : Int) {ts : ByteArray} (fl : Bool) :
    Calls Tryz.prog 35 #[ptr wb, actV 12 p q m ts fl] w (Acted w B xb yb h y (N + 1)) := by
  have G : Hid (Game w B wb xb yb bb N n h y o) := g
  have HN : Hid (N ≤ 10000000) := hN
  obtain ⟨c0, c1, c2⟩ := g.scn.cells
  have hwlt := g.lt
  unfold ptr at c0 c1 ⊢
  unfold actV
  clear g c2 hN
  have ZW : Hid (∃ w1 : World, w1 = w.alloc (.cells #[.int .i64 12, .int .i64 p, .int .i64 q, .int .i64 m, .string ts, .bool fl] 28 (0, 0))) := ⟨_, rfl⟩
  go_enter Tryz.func35, Tryz.ntmps35
  go_wp2_with fail
  obtain ⟨w1, e1⟩ := ZW.out
  rw [← e1]
  have F1 : Hid (Fr (fun _ => False) w w1) := by subst e1; exact nofr _
  have BX : Hid (w1.heap[w.heap.size]? = some (.cells #[.int .i64 12, .int .i64 p, .int .i64 q, .int .i64 m, .string ts, .bool fl] 28 (0, 0))) := by subst e1; exact heap_alloc_new _ _
  have d0 := (F1.out.cell (p := ⟨wb, 0, none⟩) hwlt id).trans c0
  have d1 := (F1.out.cell (p := ⟨wb, 1, none⟩) hwlt id).trans c1
  have hw1 : wb < w1.heap.size := Nat.lt_of_lt_of_le hwlt F1.out.size
  clear ZW e1
  have HTW : Hid (TwoC 27 92 #[.pointer (some ⟨xb, 0, none⟩), .int .i64 m] #[.pointer (some ⟨yb, 0, none⟩), .int .i64 m] xb yb h y w1.drew (SameE B xb yb h y (N + 1) w1.drew)) := (G.out.after F1.out.drew).both.break_ m
  go_region_held3 (fun w' => w'.cell? ⟨wb, 0, none⟩ = some (.pointer (some ⟨xb, 0, none⟩)) ∧ w'.cell? ⟨w.heap.size, 3, none⟩ = some (.int .i64 m))
    (first | with_reducible exact C2 | exact ⟨d0, cell_of_cells BX.out 3⟩ | go_keep)
    ((go_at_call 27; refine (show TwoC _ _ _ _ _ _ _ _ _ _ from HTW.out).mono ?_; rintro e w2 ⟨r, rfl, hf2, hcall2⟩
      obtain ⟨ra, rfl⟩ := shapeE (g := 92) hcall2
      have HC2 : Hid (∀ W, Fr (fun _ => False) w2 W → Calls Tryz.prog 92 #[.pointer (some ⟨yb, 0, none⟩), .int .i64 m] W fun e w3 => ∃ r2, e = .returned r2 ∧ SameE B xb yb h y (N + 1) w1.drew (.int .i64 ra) r2 w3) := hcall2
      have b2 := G.out.boxed (Nat.le_refl _) (W := w1.drew) BX.out hf2
      have BX2 : Hid (w2.heap[w.heap.size]? = some (.cells #[.int .i64 12, .int .i64 p, .int .i64 q, .int .i64 m, .string ts, .bool fl] 28 (0, 0))) := b2
      have e1 := G.out.wcell (W := w1.drew) hw1 d1 hf2
      have C2 : w2.cell? ⟨wb, 0, none⟩ = some (.pointer (some ⟨xb, 0, none⟩)) ∧ w2.cell? ⟨w.heap.size, 3, none⟩ = some (.int .i64 m) := ⟨(G.out.wcell (W := w1.drew) hw1 d0 hf2), cell_of_cells b2 3⟩
      clear hcall2 hf2 b2))
  go_wp2_with fail
  go_region_held3 (fun w' => w'.cell? ⟨wb, 1, none⟩ = some (.pointer (some ⟨yb, 0, none⟩)) ∧ w'.cell? ⟨w.heap.size, 3, none⟩ = some (.int .i64 m))
    (first | with_reducible exact C3 | exact ⟨e1, cell_of_cells BX2.out 3⟩ | go_keep)
    ((go_at_call 92; refine (HC2.out w2.drew ((Fr.refl _ _).drew)).mono ?_; rintro e w3 ⟨r2, rfl, hpost⟩
      obtain ⟨⟨ra2, hr1, rfl⟩, h', y', hto⟩ := hpost
      simp only [Value.int.injEq, true_and] at hr1
      subst hr1
      have T3 : Hid (BothTo w w3 B xb yb h y (N + 1) h' y') := hto.behind F1.out.drew
      have b3 := G.out.boxed (Nat.le_refl _) (W := w1.drew) BX.out hto.fr
      have C3 : w3.cell? ⟨wb, 1, none⟩ = some (.pointer (some ⟨yb, 0, none⟩)) ∧ w3.cell? ⟨w.heap.size, 3, none⟩ = some (.int .i64 m) := ⟨(G.out.wcell (W := w1.drew) hw1 d1 hto.fr), cell_of_cells b3 3⟩
      clear hto b3))
  all_goals
    go_wp2_with fail
    go_ret
    exact ⟨by simp, h', y', T3.out⟩

set_option maxRecDepth 100000 in
set_option maxHeartbeats 3200000 in
theorem keeps_crash (g : Game w B wb xb yb bb N n h y o) (hN : N ≤ 10000000) (p q m : Int) {ts : ByteArray} (fl : Bool) :
    Calls Tryz.prog 35 #[ptr wb, actV 13 p q m ts fl] w (Acted w B xb yb h y (N + 1)) := by
  have G : Hid (Game w B wb xb yb bb N n h y o) := g
  have HN : Hid (N ≤ 10000000) := hN
  obtain ⟨c0, c1, c2⟩ := g.scn.cells
  have hwlt := g.lt
  unfold ptr at c0 c1 ⊢
  unfold actV
  clear g c2 hN
  go_enter Tryz.func35, Tryz.ntmps35
  go_wp2_with (first
    | (go_at_call 44; refine (show TwoC 44 45 #[ptr xb] #[ptr yb] xb yb h y _ (SameE B xb yb h y N _) from (G.out.after (nofr _)).both.crash).mono ?_; rintro e w2 ⟨r, rfl, hf2, hcall2⟩
       obtain ⟨ra, rfl⟩ := shapeE (g := 45) hcall2
       have HC2 : Hid (∀ W, Fr (fun _ => False) w2 W → Calls Tryz.prog 45 #[ptr yb] W fun e w3 => ∃ r2, e = .returned r2 ∧ SameE B xb yb h y N (w.alloc (.cells #[.int .i64 13, .int .i64 p, .int .i64 q, .int .i64 m, .string ts, .bool fl] 28 (0, 0))) (.int .i64 ra) r2 w3) := hcall2
       have e1 := G.out.wcell (W := (w.alloc (.cells #[.int .i64 13, .int .i64 p, .int .i64 q, .int .i64 m, .string ts, .bool fl] 28 (0, 0)))) (j := 1) (by simp <;> omega) (((nofr _).cell (p := ⟨wb, 1, none⟩) hwlt id).trans c1) hf2
       clear hcall2 hf2)
    | (go_at_call 45; refine (HC2.out w2 (Fr.refl _ _)).mono ?_; rintro e w3 ⟨r2, rfl, hpost⟩
       obtain ⟨⟨ra2, hr1, rfl⟩, h', y', hto⟩ := hpost
       simp only [Value.int.injEq, true_and] at hr1
       subst hr1
       have T3 : Hid (BothTo w w3 B xb yb h y (N + 1) h' y') := (hto.mono (Nat.le_succ N)).behind (nofr _)
       clear hto))
  go_ret
  exact ⟨by simp, h', y', T3.out⟩

set_option maxRecDepth 100000 in
set_option maxHeartbeats 3200000 in
theorem keeps_restart (g : Game w B wb xb yb bb N n h y o) (hN : N ≤ 10000000) (p q m : Int) {ts : ByteArray} (fl : Bool) :
    Calls Tryz.prog 35 #[ptr wb, actV 14 p q m ts fl] w (Acted w B xb yb h y (N + 1)) := by
  have G : Hid (Game w B wb xb yb bb N n h y o) := g
  have HN : Hid (N ≤ 10000000) := hN
  obtain ⟨c0, c1, c2⟩ := g.scn.cells
  have hwlt := g.lt
  unfold ptr at c0 c1 ⊢
  unfold actV
  clear g c2 hN
  go_enter Tryz.func35, Tryz.ntmps35
  go_wp2_with (first
    | (go_at_call 29; refine (show TwoC 29 46 #[ptr xb] #[ptr yb] xb yb h y _ (SameE B xb yb h y N _) from (G.out.after (nofr _)).both.restart HN.out).mono ?_; rintro e w2 ⟨r, rfl, hf2, hcall2⟩
       obtain ⟨ra, rfl⟩ := shapeE (g := 46) hcall2
       have HC2 : Hid (∀ W, Fr (fun _ => False) w2 W → Calls Tryz.prog 46 #[ptr yb] W fun e w3 => ∃ r2, e = .returned r2 ∧ SameE B xb yb h y N (w.alloc (.cells #[.int .i64 14, .int .i64 p, .int .i64 q, .int .i64 m, .string ts, .bool fl] 28 (0, 0))) (.int .i64 ra) r2 w3) := hcall2
       have e1 := G.out.wcell (W := (w.alloc (.cells #[.int .i64 14, .int .i64 p, .int .i64 q, .int .i64 m, .string ts, .bool fl] 28 (0, 0)))) (j := 1) (by simp <;> omega) (((nofr _).cell (p := ⟨wb, 1, none⟩) hwlt id).trans c1) hf2
       clear hcall2 hf2)
    | (go_at_call 46; refine (HC2.out w2 (Fr.refl _ _)).mono ?_; rintro e w3 ⟨r2, rfl, hpost⟩
       obtain ⟨⟨ra2, hr1, rfl⟩, h', y', hto⟩ := hpost
       simp only [Value.int.injEq, true_and] at hr1
       subst hr1
       have T3 : Hid (BothTo w w3 B xb yb h y (N + 1) h' y') := (hto.mono (Nat.le_succ N)).behind (nofr _)
       clear hto))
  go_ret
  exact ⟨by simp, h', y', T3.out⟩
end

end Go.Proofs.YtkelpcjiediamaaGreat

/-
  What the network does where nothing is in flight.
-/
namespace Go.Proofs.YtkelpcjiediamaaGreat
open Go.RowKit Go.Maps

set_option maxRecDepth 100000 in
theorem pick20_any (c : Int) (hc : I64 c) (w : World) : Calls Tryz.prog 49 #[.int .i64 c, .int .i64 20] w fun e w' => ∃ k : Nat, k < 20 ∧ e = .returned (.int .i64 k) ∧ w = w' := by
  have hx : -9223372036854775808 ≤ c ∧ c ≤ 9223372036854775807 := by simpa [I64, Lit.wf, IntKind.min, IntKind.max, IntKind.signed, IntKind.bits] using hc
  obtain ⟨h1, h2⟩ := hx
  clear hc
  by_cases hneg : c < 0
  · go_enter Tryz.func49, Tryz.ntmps49
    go_wp2
    go_ret
    refine ⟨((-(c + 1)) % 20).toNat, by omega, ?_, rfl⟩
    show Ending.returned (Value.int .i64 (-((c + 1).tmod 20))) = _
    refine ret_int ?_
    have h0 : 0 ≤ -(c + 1) := by omega
    have h3 : (c + 1).tmod 20 = -((-(c + 1)) % 20) := by
      rw [← Int.tmod_eq_emod_of_nonneg h0, Int.neg_tmod, Int.neg_neg]
    rw [h3]
    omega
  · go_enter Tryz.func49, Tryz.ntmps49
    go_wp2
    go_ret
    refine ⟨(c % 20).toNat, by omega, ?_, rfl⟩
    show Ending.returned (Value.int .i64 (c % 20)) = _
    exact ret_int (by omega)

section
variable {w w' : World} {B wb xb yb bb N n : Nat} {h h' : HS} {y y' : RS} {o : BookS}

set_option maxRecDepth 100000 in
set_option maxHeartbeats 1600000 in
theorem deliver_none (hh : HAt w B xb n h) {m : Int} (hm : ¬ (0 ≤ m ∧ m < h.fl.length)) :
    Calls Tryz.prog 81 #[.pointer (some ⟨xb, 0, none⟩), .int .i64 m] w fun r w' => r = .returned (.int .i64 8) ∧ Fr (fun _ => False) w w' := by
  have HH : Hid (HAt w B xb n h) := hh
  have HM : Hid (decide (0 ≤ m ∧ m < h.fl.length) = false) := decide_eq_false hm
  clear hh hm
  go_enter Tryz.func81, Tryz.ntmps81
  go_wp2_with (go_at_call 139; refine (has_any2 (by first | exact HH.out | exact HH.out.after (nofr _)) m).mono ?_; rw [HM.out]; rintro e w1 ⟨rfl, rfl⟩)
  go_ret
  exact ⟨rfl, by first | exact Fr.refl _ _ | exact nofr _⟩

set_option maxRecDepth 100000 in
set_option maxHeartbeats 1600000 in
theorem ydeliver_nil (h : YAt w B yb y) (hN : y.N = []) (m : Int) :
    Calls Tryz.prog 82 #[.pointer (some ⟨yb, 0, none⟩), .int .i64 m] w fun r w' => r = .returned (.int .i64 8) ∧ Fr (fun _ => False) w w' := by
  have HM : Hid (decide (0 ≤ m ∧ m ≤ -1) = false) := decide_eq_false (by omega)
  have c14 : w.cell? ⟨yb, 14, none⟩ = some y.nv := h.c 14
  obtain ⟨a, c, e⟩ := nil_row (by have := h.net; rw [hN] at this; exact this)
  rw [e] at c14
  have hlt := lt_of_block h.blk
  clear h
  go_enter Tryz.func82, Tryz.ntmps82
  go_wp2_with (go_at_call 72; refine (in_any _ _ _ _).mono ?_; rw [HM.out]; rintro e w1 ⟨rfl, rfl⟩)
  go_ret
  exact ⟨rfl, by first | exact Fr.refl _ _ | exact nofr _⟩

set_option maxRecDepth 100000 in
set_option maxHeartbeats 1600000 in
theorem drop_none (hh : HAt w B xb n h) {m : Int} (hm : ¬ (0 ≤ m ∧ m < h.fl.length)) :
    Calls Tryz.prog 83 #[.pointer (some ⟨xb, 0, none⟩), .int .i64 m] w fun r w' => r = .returned (.int .i64 8) ∧ Fr (fun _ => False) w w' := by
  have HH : Hid (HAt w B xb n h) := hh
  have HM : Hid (decide (0 ≤ m ∧ m < h.fl.length) = false) := decide_eq_false hm
  clear hh hm
  go_enter Tryz.func83, Tryz.ntmps83
  go_wp2_with (go_at_call 139; refine (has_any2 (by first | exact HH.out | exact HH.out.after (nofr _)) m).mono ?_; rw [HM.out]; rintro e w1 ⟨rfl, rfl⟩)
  go_ret
  exact ⟨rfl, by first | exact Fr.refl _ _ | exact nofr _⟩

set_option maxRecDepth 100000 in
set_option maxHeartbeats 1600000 in
theorem ydrop_nil (h : YAt w B yb y) (hN : y.N = []) (m : Int) :
    Calls Tryz.prog 84 #[.pointer (some ⟨yb, 0, none⟩), .int .i64 m] w fun r w' => r = .returned (.int .i64 8) ∧ Fr (fun _ => False) w w' := by
  have HM : Hid (decide (0 ≤ m ∧ m ≤ -1) = false) := decide_eq_false (by omega)
  have c14 : w.cell? ⟨yb, 14, none⟩ = some y.nv := h.c 14
  obtain ⟨a, c, e⟩ := nil_row (by have := h.net; rw [hN] at this; exact this)
  rw [e] at c14
  have hlt := lt_of_block h.blk
  clear h
  go_enter Tryz.func84, Tryz.ntmps84
  go_wp2_with (go_at_call 72; refine (in_any _ _ _ _).mono ?_; rw [HM.out]; rintro e w1 ⟨rfl, rfl⟩)
  go_ret
  exact ⟨rfl, by first | exact Fr.refl _ _ | exact nofr _⟩

set_option maxRecDepth 100000 in
set_option maxHeartbeats 1600000 in
theorem copy_none (hh : HAt w B xb n h) {m : Int} (hm : ¬ (0 ≤ m ∧ m < h.fl.length)) :
    Calls Tryz.prog 85 #[.pointer (some ⟨xb, 0, none⟩), .int .i64 m] w fun r w' => r = .returned (.int .i64 8) ∧ Fr (fun _ => False) w w' := by
  have HH : Hid (HAt w B xb n h) := hh
  have HM : Hid (decide (0 ≤ m ∧ m < h.fl.length) = false) := decide_eq_false hm
  clear hh hm
  go_enter Tryz.func85, Tryz.ntmps85
  go_wp2_with (go_at_call 139; refine (has_any2 (by first | exact HH.out | exact HH.out.after (nofr _)) m).mono ?_; rw [HM.out]; rintro e w1 ⟨rfl, rfl⟩)
  go_ret
  exact ⟨rfl, by first | exact Fr.refl _ _ | exact nofr _⟩

set_option maxRecDepth 100000 in
set_option maxHeartbeats 1600000 in
theorem ycopy_nil (h : YAt w B yb y) (hN : y.N = []) (m : Int) :
    Calls Tryz.prog 86 #[.pointer (some ⟨yb, 0, none⟩), .int .i64 m] w fun r w' => r = .returned (.int .i64 8) ∧ Fr (fun _ => False) w w' := by
  have HM : Hid (decide (0 ≤ m ∧ m ≤ -1) = false) := decide_eq_false (by omega)
  have c14 : w.cell? ⟨yb, 14, none⟩ = some y.nv := h.c 14
  obtain ⟨a, c, e⟩ := nil_row (by have := h.net; rw [hN] at this; exact this)
  rw [e] at c14
  have hlt := lt_of_block h.blk
  clear h
  go_enter Tryz.func86, Tryz.ntmps86
  go_wp2_with (go_at_call 72; refine (in_any _ _ _ _).mono ?_; rw [HM.out]; rintro e w1 ⟨rfl, rfl⟩)
  go_ret
  exact ⟨rfl, by first | exact Fr.refl _ _ | exact nofr _⟩

theorem Both.nox (b : Both w B xb yb N h y) (hnil : y.N = []) (m : Int) : ¬ (0 ≤ m ∧ m < h.fl.length) := by
  obtain ⟨tl, c⟩ := b.know.core
  rw [c.fl, hnil]
  simp

set_option maxRecDepth 100000 in
set_option maxHeartbeats 3200000 in
theorem net_deliver (g : Game w B wb xb yb bb N n h y o) (hnil : y.N = []) (p q m : Int) {ts : ByteArray} (fl : Bool) :
    Calls Tryz.prog 34 #[ptr wb, actV 6 p q m ts fl] w fun e w' => e = .returned (.bool true) ∧ Fr (fun _ => False) w w' := by
  have G : Hid (Game w B wb xb yb bb N n h y o) := g
  have HNIL : Hid (y.N = []) := hnil
  have HF : Hid (∀ w1, Fr (fun _ => False) w w1 → Calls Tryz.prog 37 #[ptr yb] w1 fun r w' => r = .returned (.int .i64 ((0 : Nat) : Int)) ∧ Fr (fun _ => False) w1 w') := by
    show ∀ w1, _
    intro w1 f
    have := yflight_any (g.after f).both.ya
    rw [hnil] at this
    exact this
  obtain ⟨c0, c1, c2⟩ := g.scn.cells
  have hwlt := g.lt
  unfold ptr at c0 c1 HF ⊢
  unfold actV
  clear g c2 hnil
  go_enter Tryz.func34, Tryz.ntmps34
  go_wp2_with fail
  go_region_held3 (fun w' => w'.cell? ⟨wb, 1, none⟩ = some (.pointer (some ⟨yb, 0, none⟩)) ∧ w'.cell? ⟨w.heap.size, 3, none⟩ = some (.int .i64 m))
    (first | go_keep | exact ⟨c1a, c1b⟩)
    (first
      | (go_at_call 37; refine (HF.out _ ((nofr _).drew)).mono ?_; rintro e w1 ⟨rfl, hf1⟩
         have F1 : Hid (Fr (fun _ => False) w w1) := ((nofr _).drew).trans hf1 (fun _ h => h.elim)
         have c1a : w1.cell? ⟨wb, 1, none⟩ = some (.pointer (some ⟨yb, 0, none⟩)) := (F1.out.cell (p := ⟨wb, 1, none⟩) hwlt id).trans c1
         have c1b : w1.cell? ⟨w.heap.size, 3, none⟩ = some (.int .i64 m) := (hf1.cell (p := ⟨w.heap.size, 3, none⟩) (by simp) id).trans (by simp)
         have c1c : w1.cell? ⟨w.heap.size, 0, none⟩ = some (.int .i64 6) := (hf1.cell (p := ⟨w.heap.size, 0, none⟩) (by simp) id).trans (by simp)
         have c1d : w1.cell? ⟨wb, 0, none⟩ = some (.pointer (some ⟨xb, 0, none⟩)) := (F1.out.cell (p := ⟨wb, 0, none⟩) hwlt id).trans c0
         have hw1 : wb < w1.heap.size := Nat.lt_of_lt_of_le hwlt F1.out.size
         clear hf1)
      | (go_at_call 80; refine (spoken_any _ _ _ (Nat.zero_le _)).mono ?_; rintro e w2 ⟨rfl, rfl⟩))
  go_wp2_with (first
    | (go_at_call 81; refine (deliver_none (G.out.after F1.out).both.xa (G.out.both.nox HNIL.out _)).mono ?_; rintro e w3 ⟨rfl, hf3⟩
       have F3 : Hid (Fr (fun _ => False) w w3) := F1.out.trans hf3 (fun _ h => h.elim)
       have c3 : w3.cell? ⟨wb, 1, none⟩ = some (.pointer (some ⟨yb, 0, none⟩)) := (hf3.cell (p := ⟨wb, 1, none⟩) hw1 id).trans c1a
       clear hf3)
    | (go_at_call 82; refine (ydeliver_nil (G.out.after F3.out).both.ya HNIL.out _).mono ?_; rintro e w4 ⟨rfl, hf4⟩
       have F4 : Hid (Fr (fun _ => False) w w4) := F3.out.trans hf4 (fun _ h => h.elim)
       clear hf4))
  go_ret
  exact ⟨by simp, F4.out⟩

set_option maxRecDepth 100000 in
set_option maxHeartbeats 3200000 in
theorem net_drop (g : Game w B wb xb yb bb N n h y o) (hnil : y.N = []) (p q m : Int) {ts : ByteArray} (fl : Bool) :
    Calls Tryz.prog 34 #[ptr wb, actV 7 p q m ts fl] w fun e w' => e = .returned (.bool true) ∧ Fr (fun _ => False) w w' := by
  have G : Hid (Game w B wb xb yb bb N n h y o) := g
  have HNIL : Hid (y.N = []) := hnil
  have HF : Hid (∀ w1, Fr (fun _ => False) w w1 → Calls Tryz.prog 37 #[ptr yb] w1 fun r w' => r = .returned (.int .i64 ((0 : Nat) : Int)) ∧ Fr (fun _ => False) w1 w') := by
    show ∀ w1, _
    intro w1 f
    have := yflight_any (g.after f).both.ya
    rw [hnil] at this
    exact this
  obtain ⟨c0, c1, c2⟩ := g.scn.cells
  have hwlt := g.lt
  unfold ptr at c0 c1 HF ⊢
  unfold actV
  clear g c2 hnil
  go_enter Tryz.func34, Tryz.ntmps34
  go_wp2_with fail
  go_region_held3 (fun w' => w'.cell? ⟨wb, 1, none⟩ = some (.pointer (some ⟨yb, 0, none⟩)) ∧ w'.cell? ⟨w.heap.size, 3, none⟩ = some (.int .i64 m))
    (first | go_keep | exact ⟨c1a, c1b⟩)
    (first
      | (go_at_call 37; refine (HF.out _ ((nofr _).drew)).mono ?_; rintro e w1 ⟨rfl, hf1⟩
         have F1 : Hid (Fr (fun _ => False) w w1) := ((nofr _).drew).trans hf1 (fun _ h => h.elim)
         have c1a : w1.cell? ⟨wb, 1, none⟩ = some (.pointer (some ⟨yb, 0, none⟩)) := (F1.out.cell (p := ⟨wb, 1, none⟩) hwlt id).trans c1
         have c1b : w1.cell? ⟨w.heap.size, 3, none⟩ = some (.int .i64 m) := (hf1.cell (p := ⟨w.heap.size, 3, none⟩) (by simp) id).trans (by simp)
         have c1c : w1.cell? ⟨w.heap.size, 0, none⟩ = some (.int .i64 7) := (hf1.cell (p := ⟨w.heap.size, 0, none⟩) (by simp) id).trans (by simp)
         have c1d : w1.cell? ⟨wb, 0, none⟩ = some (.pointer (some ⟨xb, 0, none⟩)) := (F1.out.cell (p := ⟨wb, 0, none⟩) hwlt id).trans c0
         have hw1 : wb < w1.heap.size := Nat.lt_of_lt_of_le hwlt F1.out.size
         clear hf1)
      | (go_at_call 80; refine (spoken_any _ _ _ (Nat.zero_le _)).mono ?_; rintro e w2 ⟨rfl, rfl⟩))
  go_wp2_with (first
    | (go_at_call 83; refine (drop_none (G.out.after F1.out).both.xa (G.out.both.nox HNIL.out _)).mono ?_; rintro e w3 ⟨rfl, hf3⟩
       have F3 : Hid (Fr (fun _ => False) w w3) := F1.out.trans hf3 (fun _ h => h.elim)
       have c3 : w3.cell? ⟨wb, 1, none⟩ = some (.pointer (some ⟨yb, 0, none⟩)) := (hf3.cell (p := ⟨wb, 1, none⟩) hw1 id).trans c1a
       clear hf3)
    | (go_at_call 84; refine (ydrop_nil (G.out.after F3.out).both.ya HNIL.out _).mono ?_; rintro e w4 ⟨rfl, hf4⟩
       have F4 : Hid (Fr (fun _ => False) w w4) := F3.out.trans hf4 (fun _ h => h.elim)
       clear hf4))
  go_ret
  exact ⟨by simp, F4.out⟩

set_option maxRecDepth 100000 in
set_option maxHeartbeats 3200000 in
theorem net_copy (g : Game w B wb xb yb bb N n h y o) (hnil : y.N = []) (p q m : Int) {ts : ByteArray} (fl : Bool) :
    Calls Tryz.prog 34 #[ptr wb, actV 8 p q m ts fl] w fun e w' => e = .returned (.bool true) ∧ Fr (fun _ => False) w w' := by
  have G : Hid (Game w B wb xb yb bb N n h y o) := g
  have HNIL : Hid (y.N = []) := hnil
  have HF : Hid (∀ w1, Fr (fun _ => False) w w1 → Calls Tryz.prog 37 #[ptr yb] w1 fun r w' => r = .returned (.int .i64 ((0 : Nat) : Int)) ∧ Fr (fun _ => False) w1 w') := by
    show ∀ w1, _
    intro w1 f
    have := yflight_any (g.after f).both.ya
    rw [hnil] at this
    exact this
  obtain ⟨c0, c1, c2⟩ := g.scn.cells
  have hwlt := g.lt
  unfold ptr at c0 c1 HF ⊢
  unfold actV
  clear g c2 hnil
  go_enter Tryz.func34, Tryz.ntmps34
  go_wp2_with fail
  go_region_held3 (fun w' => w'.cell? ⟨wb, 1, none⟩ = some (.pointer (some ⟨yb, 0, none⟩)) ∧ w'.cell? ⟨w.heap.size, 3, none⟩ = some (.int .i64 m))
    (first | go_keep | exact ⟨c1a, c1b⟩)
    (first
      | (go_at_call 37; refine (HF.out _ ((nofr _).drew)).mono ?_; rintro e w1 ⟨rfl, hf1⟩
         have F1 : Hid (Fr (fun _ => False) w w1) := ((nofr _).drew).trans hf1 (fun _ h => h.elim)
         have c1a : w1.cell? ⟨wb, 1, none⟩ = some (.pointer (some ⟨yb, 0, none⟩)) := (F1.out.cell (p := ⟨wb, 1, none⟩) hwlt id).trans c1
         have c1b : w1.cell? ⟨w.heap.size, 3, none⟩ = some (.int .i64 m) := (hf1.cell (p := ⟨w.heap.size, 3, none⟩) (by simp) id).trans (by simp)
         have c1c : w1.cell? ⟨w.heap.size, 0, none⟩ = some (.int .i64 8) := (hf1.cell (p := ⟨w.heap.size, 0, none⟩) (by simp) id).trans (by simp)
         have c1d : w1.cell? ⟨wb, 0, none⟩ = some (.pointer (some ⟨xb, 0, none⟩)) := (F1.out.cell (p := ⟨wb, 0, none⟩) hwlt id).trans c0
         have hw1 : wb < w1.heap.size := Nat.lt_of_lt_of_le hwlt F1.out.size
         clear hf1)
      | (go_at_call 80; refine (spoken_any _ _ _ (Nat.zero_le _)).mono ?_; rintro e w2 ⟨rfl, rfl⟩))
  go_wp2_with (first
    | (go_at_call 85; refine (copy_none (G.out.after F1.out).both.xa (G.out.both.nox HNIL.out _)).mono ?_; rintro e w3 ⟨rfl, hf3⟩
       have F3 : Hid (Fr (fun _ => False) w w3) := F1.out.trans hf3 (fun _ h => h.elim)
       have c3 : w3.cell? ⟨wb, 1, none⟩ = some (.pointer (some ⟨yb, 0, none⟩)) := (hf3.cell (p := ⟨wb, 1, none⟩) hw1 id).trans c1a
       clear hf3)
    | (go_at_call 86; refine (ycopy_nil (G.out.after F3.out).both.ya HNIL.out _).mono ?_; rintro e w4 ⟨rfl, hf4⟩
       have F4 : Hid (Fr (fun _ => False) w w4) := F3.out.trans hf4 (fun _ h => h.elim)
       clear hf4))
  go_ret
  exact ⟨by simp, F4.out⟩

set_option maxRecDepth 100000 in
set_option maxHeartbeats 3200000 in
theorem net_arrive (g : Game w B wb xb yb bb N n h y o) (hnil : y.N = []) (p q m : Int) (hm : I64 m) {ts : ByteArray} (fl : Bool) :
    Calls Tryz.prog 34 #[ptr wb, actV 9 p q m ts fl] w fun e w' => e = .returned (.bool true) ∧ Fr (fun _ => False) w w' := by
  have HI : Hid (I64 m) := hm
  clear hm
  have G : Hid (Game w B wb xb yb bb N n h y o) := g
  have HNIL : Hid (y.N = []) := hnil
  have HF : Hid (∀ w1, Fr (fun _ => False) w w1 → Calls Tryz.prog 37 #[ptr yb] w1 fun r w' => r = .returned (.int .i64 ((0 : Nat) : Int)) ∧ Fr (fun _ => False) w1 w') := by
    show ∀ w1, _
    intro w1 f
    have := yflight_any (g.after f).both.ya
    rw [hnil] at this
    exact this
  obtain ⟨c0, c1, c2⟩ := g.scn.cells
  have hwlt := g.lt
  unfold ptr at c0 c1 HF ⊢
  unfold actV
  clear g c2 hnil
  go_enter Tryz.func34, Tryz.ntmps34
  go_wp2_with fail
  go_region_held3 (fun w' => w'.cell? ⟨wb, 1, none⟩ = some (.pointer (some ⟨yb, 0, none⟩)) ∧ w'.cell? ⟨w.heap.size, 3, none⟩ = some (.int .i64 m))
    (first | go_keep | exact ⟨c1a, c1b⟩)
    (first
      | (go_at_call 37; refine (HF.out _ ((nofr _).drew)).mono ?_; rintro e w1 ⟨rfl, hf1⟩
         have F1 : Hid (Fr (fun _ => False) w w1) := ((nofr _).drew).trans hf1 (fun _ h => h.elim)
         have c1a : w1.cell? ⟨wb, 1, none⟩ = some (.pointer (some ⟨yb, 0, none⟩)) := (F1.out.cell (p := ⟨wb, 1, none⟩) hwlt id).trans c1
         have c1b : w1.cell? ⟨w.heap.size, 3, none⟩ = some (.int .i64 m) := (hf1.cell (p := ⟨w.heap.size, 3, none⟩) (by simp) id).trans (by simp)
         have c1c : w1.cell? ⟨w.heap.size, 0, none⟩ = some (.int .i64 9) := (hf1.cell (p := ⟨w.heap.size, 0, none⟩) (by simp) id).trans (by simp)
         have c1d : w1.cell? ⟨wb, 0, none⟩ = some (.pointer (some ⟨xb, 0, none⟩)) := (F1.out.cell (p := ⟨wb, 0, none⟩) hwlt id).trans c0
         have hw1 : wb < w1.heap.size := Nat.lt_of_lt_of_le hwlt F1.out.size
         clear hf1)
      | (go_at_call 80; refine (spoken_any _ _ _ (Nat.zero_le _)).mono ?_; rintro e w2 ⟨rfl, rfl⟩))
  go_wp2_with fail
  go_loopw [6, 7, 12] (fun a b i w' => a = .int .i64 0 ∧ b = .int .i64 0 ∧ i = .int .i64 0 ∧ w' = w1) (fun _ _ _ _ => 0)
  case atStart => exact ⟨rfl, rfl, rfl, rfl⟩
  case round =>
    obtain ⟨rfl, rfl, rfl, rfl⟩ := hrel
    go_wp2_with (first
      | (go_at_call 49; refine (pick20_any m HI.out _).mono ?_; rintro e w5 ⟨k, hk, rfl, rfl⟩)
      | (go_at_call 37; refine (HF.out _ (by first | exact F1.out | exact F1.out.drew)).mono ?_; rintro e w3 ⟨rfl, hf3⟩
         have F3 : Hid (Fr (fun _ => False) w w3) := (by first | exact F1.out | exact F1.out.drew : Fr (fun _ => False) w _).trans hf3 (fun _ h => h.elim)
         clear hf3))
    all_goals
      go_ret
      exact ⟨by simp, F3.out⟩
end

end Go.Proofs.YtkelpcjiediamaaGreat
