/-
  What producers do, on both heralds.
-/
import Derived.Test.YtkelpcjiediamaaGreatMLaw1
namespace Go.Proofs.YtkelpcjiediamaaGreat
open Go.RowKit Go.Maps

section
variable {w w' : World} {B wb xb yb bb N n : Nat} {h h' : HS} {y y' : RS} {o : BookS}

theorem shapeE {g : Nat} {ay : Array Value} {M : Nat} {W0 w2 : World} {r : Value} (hc : ∀ W, Fr (fun _ => False) w2 W → Calls Tryz.prog g ay W fun e w3 => ∃ r2, e = .returned r2 ∧ SameE B xb yb h y M W0 r r2 w3) : ∃ a : Int, r = .int .i64 a := by
  obtain ⟨_, _, _, ⟨r2, _, ⟨⟨a, h1, _⟩, _⟩⟩, _⟩ := hc w2 (Fr.refl _ _) []
  exact ⟨a, h1⟩

theorem shapeN {g : Nat} {ay : Array Value} {M : Nat} {W0 w2 : World} {r : Value} (hc : ∀ W, Fr (fun _ => False) w2 W → Calls Tryz.prog g ay W fun e w3 => ∃ r2, e = .returned r2 ∧ SameN B xb yb h y M W0 r r2 w3) : ∃ a c : Int, r = .tuple #[.int .i64 a, .int .i64 c] := by
  obtain ⟨_, _, _, ⟨r2, _, ⟨⟨a, c, h1, _⟩, _⟩⟩, _⟩ := hc w2 (Fr.refl _ _) []
  exact ⟨a, c, h1⟩

/-- The act's box lies behind both heralds, and apart from the law's world. -/
theorem Game.boxed (g : Game w B wb xb yb bb N n h y o) {W w2 : World} {ob : Obj} {b : Nat} (hb : w.heap.size ≤ b) (hbox : W.heap[b]? = some ob) (f : Fr (fun k => h.foot xb k ∨ y.foot yb k) W w2) : w2.heap[b]? = some ob :=
  (f.block b (lt_of_block hbox) (fun e => by have := g.apart e; omega)).trans hbox

theorem Game.wcell (g : Game w B wb xb yb bb N n h y o) {W w2 : World} (hW : wb < W.heap.size) {j : Nat} {v : Value} (hc : W.cell? ⟨wb, j, none⟩ = some v) (f : Fr (fun k => h.foot xb k ∨ y.foot yb k) W w2) : w2.cell? ⟨wb, j, none⟩ = some v :=
  (f.cell (p := ⟨wb, j, none⟩) hW (fun e => by
    rcases e with e | e
    · exact g.hw1 e
    · exact g.hw2 e)).trans hc

set_option maxRecDepth 100000 in
set_option maxHeartbeats 3200000 in
theorem writes_init (g : Game w B wb xb yb bb N n h y o) (hN : N ≤ 10000000) (p q m : Int) {ts : ByteArray} (fl : Bool) :
    Calls Tryz.prog 33 #[ptr wb, actV 1 p q m ts fl] w (Acted w B xb yb h y (N + 1)) := by
  have G : Hid (Game w B wb xb yb bb N n h y o) := g
  have HN : Hid (N ≤ 10000000) := hN
  obtain ⟨c0, c1, c2⟩ := g.scn.cells
  have hwlt := g.lt
  unfold ptr at c0 c1 ⊢
  unfold actV
  clear g c2
  go_enter Tryz.func33, Tryz.ntmps33
  go_wp2_with (first
    | (go_at_call 73; refine (show Calls Tryz.prog 73 #[ptr wb, actV 1 p q m ts fl] _ _ from epoch_any (G.out.after (nofr _)) HN.out 1 p q m ts fl).mono ?_; rintro e w1 ⟨⟨ep, rfl⟩, hf1⟩
       have F1 : Hid (Fr (fun _ => False) w w1) := (nofr _).trans hf1 (fun _ h => h.elim)
       have BX : Hid (w1.heap[w.heap.size]? = some (.cells #[.int .i64 1, .int .i64 p, .int .i64 q, .int .i64 m, .string ts, .bool fl] 28 (0, 0))) := (hf1.block _ (by simp) id).trans (heap_alloc_new _ _)
       have k0 : w1.cell? ⟨w.heap.size, 0, none⟩ = some (.int .i64 1) := cell_of_cells BX.out 0
       have d0 := (F1.out.cell (p := ⟨wb, 0, none⟩) hwlt id).trans c0
       have d1 := (F1.out.cell (p := ⟨wb, 1, none⟩) hwlt id).trans c1
       clear hf1))
  have G1 : Hid (Game w1.drew B wb xb yb bb N n h y o) := G.out.after F1.out.drew
  have hw1 : wb < w1.heap.size := Nat.lt_of_lt_of_le hwlt F1.out.size
  have HTW : Hid (TwoC 74 75 #[.pointer (some ⟨xb, 0, none⟩), .int .i64 p] #[.pointer (some ⟨yb, 0, none⟩), .int .i64 p] xb yb h y w1.drew (SameN B xb yb h y (N + 1) w1.drew)) := G1.out.both.init HN.out p
  go_region_held3 (fun w' => w'.cell? ⟨wb, 0, none⟩ = some (.pointer (some ⟨xb, 0, none⟩)) ∧ w'.cell? ⟨w.heap.size, 1, none⟩ = some (.int .i64 p))
    (first | with_reducible exact C2 | exact ⟨d0, cell_of_cells BX.out 1⟩ | go_keep)
    ((go_at_call 74; refine (show TwoC _ _ _ _ _ _ _ _ _ _ from HTW.out).mono ?_; rintro e w2 ⟨r, rfl, hf2, hcall2⟩
      obtain ⟨ra, rc, rfl⟩ := shapeN (g := 75) hcall2
      have HC2 : Hid (∀ W, Fr (fun _ => False) w2 W → Calls Tryz.prog 75 #[.pointer (some ⟨yb, 0, none⟩), .int .i64 p] W fun e w3 => ∃ r2, e = .returned r2 ∧ SameN B xb yb h y (N + 1) w1.drew (.tuple #[.int .i64 ra, .int .i64 rc]) r2 w3) := hcall2
      have b2 := G.out.boxed (Nat.le_refl _) (W := w1.drew) BX.out hf2
      have BX2 : Hid (w2.heap[w.heap.size]? = some (.cells #[.int .i64 1, .int .i64 p, .int .i64 q, .int .i64 m, .string ts, .bool fl] 28 (0, 0))) := b2
      have e1 := G.out.wcell (W := w1.drew) hw1 d1 hf2
      have C2 : w2.cell? ⟨wb, 0, none⟩ = some (.pointer (some ⟨xb, 0, none⟩)) ∧ w2.cell? ⟨w.heap.size, 1, none⟩ = some (.int .i64 p) := ⟨(G.out.wcell (W := w1.drew) hw1 d0 hf2), cell_of_cells b2 1⟩
      clear hcall2 hf2 b2))
  go_wp2_with fail
  go_region_held3 (fun w' => w'.cell? ⟨wb, 1, none⟩ = some (.pointer (some ⟨yb, 0, none⟩)) ∧ w'.cell? ⟨w.heap.size, 1, none⟩ = some (.int .i64 p))
    (first | with_reducible exact C3 | exact ⟨e1, cell_of_cells BX2.out 1⟩ | go_keep)
    ((go_at_call 75; refine (HC2.out w2.drew ((Fr.refl _ _).drew)).mono ?_; rintro e w3 ⟨r2, rfl, hpost⟩
      obtain ⟨⟨ra2, rc2, hr1, rfl⟩, h', y', hto⟩ := hpost
      simp only [Value.tuple.injEq, Array.mk.injEq, List.cons.injEq, Value.int.injEq, true_and, and_true] at hr1
      obtain ⟨rfl, rfl⟩ := hr1
      have T3 : Hid (BothTo w w3 B xb yb h y (N + 1) h' y') := hto.behind F1.out.drew
      have b3 := G.out.boxed (Nat.le_refl _) (W := w1.drew) BX.out hto.fr
      have C3 : w3.cell? ⟨wb, 1, none⟩ = some (.pointer (some ⟨yb, 0, none⟩)) ∧ w3.cell? ⟨w.heap.size, 1, none⟩ = some (.int .i64 p) := ⟨(G.out.wcell (W := w1.drew) hw1 d1 hto.fr), cell_of_cells b3 1⟩
      clear hto b3))
  all_goals
    go_wp2_with fail
    go_ret
    exact ⟨by simp, h', y', T3.out⟩

set_option maxRecDepth 100000 in
set_option maxHeartbeats 3200000 in
theorem writes_add (g : Game w B wb xb yb bb N n h y o) (hN : N ≤ 10000000) (p q m : Int) {ts : ByteArray} (fl : Bool) :
    Calls Tryz.prog 33 #[ptr wb, actV 2 p q m ts fl] w (Acted w B xb yb h y (N + 1)) := by
  have G : Hid (Game w B wb xb yb bb N n h y o) := g
  have HN : Hid (N ≤ 10000000) := hN
  obtain ⟨c0, c1, c2⟩ := g.scn.cells
  have hwlt := g.lt
  unfold ptr at c0 c1 ⊢
  unfold actV
  clear g c2
  go_enter Tryz.func33, Tryz.ntmps33
  go_wp2_with (first
    | (go_at_call 73; refine (show Calls Tryz.prog 73 #[ptr wb, actV 2 p q m ts fl] _ _ from epoch_any (G.out.after (nofr _)) HN.out 2 p q m ts fl).mono ?_; rintro e w1 ⟨⟨ep, rfl⟩, hf1⟩
       have F1 : Hid (Fr (fun _ => False) w w1) := (nofr _).trans hf1 (fun _ h => h.elim)
       have BX : Hid (w1.heap[w.heap.size]? = some (.cells #[.int .i64 2, .int .i64 p, .int .i64 q, .int .i64 m, .string ts, .bool fl] 28 (0, 0))) := (hf1.block _ (by simp) id).trans (heap_alloc_new _ _)
       have k0 : w1.cell? ⟨w.heap.size, 0, none⟩ = some (.int .i64 2) := cell_of_cells BX.out 0
       have d0 := (F1.out.cell (p := ⟨wb, 0, none⟩) hwlt id).trans c0
       have d1 := (F1.out.cell (p := ⟨wb, 1, none⟩) hwlt id).trans c1
       clear hf1))
  have G1 : Hid (Game w1.drew B wb xb yb bb N n h y o) := G.out.after F1.out.drew
  have hw1 : wb < w1.heap.size := Nat.lt_of_lt_of_le hwlt F1.out.size
  have HTW : Hid (TwoC 63 76 #[.pointer (some ⟨xb, 0, none⟩), .int .i64 p, .int .i64 ep, .int .i64 q] #[.pointer (some ⟨yb, 0, none⟩), .int .i64 p, .int .i64 ep, .int .i64 q] xb yb h y w1.drew (SameE B xb yb h y (N + 1) w1.drew)) := G1.out.both.add HN.out p ep q
  go_region_held3 (fun w' => w'.cell? ⟨wb, 0, none⟩ = some (.pointer (some ⟨xb, 0, none⟩)) ∧ w'.cell? ⟨w.heap.size, 1, none⟩ = some (.int .i64 p) ∧ w'.cell? ⟨w.heap.size, 2, none⟩ = some (.int .i64 q))
    (first | with_reducible exact C2 | exact ⟨d0, cell_of_cells BX.out 1, cell_of_cells BX.out 2⟩ | go_keep)
    ((go_at_call 63; refine (show TwoC _ _ _ _ _ _ _ _ _ _ from HTW.out).mono ?_; rintro e w2 ⟨r, rfl, hf2, hcall2⟩
      obtain ⟨ra, rfl⟩ := shapeE (g := 76) hcall2
      have HC2 : Hid (∀ W, Fr (fun _ => False) w2 W → Calls Tryz.prog 76 #[.pointer (some ⟨yb, 0, none⟩), .int .i64 p, .int .i64 ep, .int .i64 q] W fun e w3 => ∃ r2, e = .returned r2 ∧ SameE B xb yb h y (N + 1) w1.drew (.int .i64 ra) r2 w3) := hcall2
      have b2 := G.out.boxed (Nat.le_refl _) (W := w1.drew) BX.out hf2
      have BX2 : Hid (w2.heap[w.heap.size]? = some (.cells #[.int .i64 2, .int .i64 p, .int .i64 q, .int .i64 m, .string ts, .bool fl] 28 (0, 0))) := b2
      have e1 := G.out.wcell (W := w1.drew) hw1 d1 hf2
      have C2 : w2.cell? ⟨wb, 0, none⟩ = some (.pointer (some ⟨xb, 0, none⟩)) ∧ w2.cell? ⟨w.heap.size, 1, none⟩ = some (.int .i64 p) ∧ w2.cell? ⟨w.heap.size, 2, none⟩ = some (.int .i64 q) := ⟨(G.out.wcell (W := w1.drew) hw1 d0 hf2), cell_of_cells b2 1, cell_of_cells b2 2⟩
      clear hcall2 hf2 b2))
  go_wp2_with fail
  go_region_held3 (fun w' => w'.cell? ⟨wb, 1, none⟩ = some (.pointer (some ⟨yb, 0, none⟩)) ∧ w'.cell? ⟨w.heap.size, 1, none⟩ = some (.int .i64 p) ∧ w'.cell? ⟨w.heap.size, 2, none⟩ = some (.int .i64 q))
    (first | with_reducible exact C3 | exact ⟨e1, cell_of_cells BX2.out 1, cell_of_cells BX2.out 2⟩ | go_keep)
    ((go_at_call 76; refine (HC2.out w2.drew ((Fr.refl _ _).drew)).mono ?_; rintro e w3 ⟨r2, rfl, hpost⟩
      obtain ⟨⟨ra2, hr1, rfl⟩, h', y', hto⟩ := hpost
      simp only [Value.int.injEq, true_and] at hr1
      subst hr1
      have T3 : Hid (BothTo w w3 B xb yb h y (N + 1) h' y') := hto.behind F1.out.drew
      have b3 := G.out.boxed (Nat.le_refl _) (W := w1.drew) BX.out hto.fr
      have C3 : w3.cell? ⟨wb, 1, none⟩ = some (.pointer (some ⟨yb, 0, none⟩)) ∧ w3.cell? ⟨w.heap.size, 1, none⟩ = some (.int .i64 p) ∧ w3.cell? ⟨w.heap.size, 2, none⟩ = some (.int .i64 q) := ⟨(G.out.wcell (W := w1.drew) hw1 d1 hto.fr), cell_of_cells b3 1, cell_of_cells b3 2⟩
      clear hto b3))
  all_goals
    go_wp2_with fail
    go_ret
    exact ⟨by simp, h', y', T3.out⟩

set_option maxRecDepth 100000 in
set_option maxHeartbeats 3200000 in
theorem writes_produce (g : Game w B wb xb yb bb N n h y o) (hN : N ≤ 10000000) (p q m : Int) {ts : ByteArray} (hts : ts.size ≤ 140737488355328) (fl : Bool) :
    Calls Tryz.prog 33 #[ptr wb, actV 3 p q m ts fl] w (Acted w B xb yb h y (N + 1)) := by
  have G : Hid (Game w B wb xb yb bb N n h y o) := g
  have HN : Hid (N ≤ 10000000) := hN
  have HTS : Hid (ts.size ≤ 140737488355328) := hts
  obtain ⟨c0, c1, c2⟩ := g.scn.cells
  have hwlt := g.lt
  unfold ptr at c0 c1 ⊢
  unfold actV
  clear g c2
  go_enter Tryz.func33, Tryz.ntmps33
  go_wp2_with (first
    | (go_at_call 73; refine (show Calls Tryz.prog 73 #[ptr wb, actV 3 p q m ts fl] _ _ from epoch_any (G.out.after (nofr _)) HN.out 3 p q m ts fl).mono ?_; rintro e w1 ⟨⟨ep, rfl⟩, hf1⟩
       have F1 : Hid (Fr (fun _ => False) w w1) := (nofr _).trans hf1 (fun _ h => h.elim)
       have BX : Hid (w1.heap[w.heap.size]? = some (.cells #[.int .i64 3, .int .i64 p, .int .i64 q, .int .i64 m, .string ts, .bool fl] 28 (0, 0))) := (hf1.block _ (by simp) id).trans (heap_alloc_new _ _)
       have k0 : w1.cell? ⟨w.heap.size, 0, none⟩ = some (.int .i64 3) := cell_of_cells BX.out 0
       have d0 := (F1.out.cell (p := ⟨wb, 0, none⟩) hwlt id).trans c0
       have d1 := (F1.out.cell (p := ⟨wb, 1, none⟩) hwlt id).trans c1
       clear hf1))
  have G1 : Hid (Game w1.drew B wb xb yb bb N n h y o) := G.out.after F1.out.drew
  have hw1 : wb < w1.heap.size := Nat.lt_of_lt_of_le hwlt F1.out.size
  have HTW : Hid (TwoC 77 78 #[.pointer (some ⟨xb, 0, none⟩), .int .i64 p, .int .i64 ep, .int .i64 q, .string ts] #[.pointer (some ⟨yb, 0, none⟩), .int .i64 p, .int .i64 ep, .int .i64 q, .string ts] xb yb h y w1.drew (SameE B xb yb h y (N + 1) w1.drew)) := G1.out.both.produce HN.out p ep q HTS.out
  go_region_held3 (fun w' => w'.cell? ⟨wb, 0, none⟩ = some (.pointer (some ⟨xb, 0, none⟩)) ∧ w'.cell? ⟨w.heap.size, 1, none⟩ = some (.int .i64 p) ∧ w'.cell? ⟨w.heap.size, 2, none⟩ = some (.int .i64 q) ∧ w'.cell? ⟨w.heap.size, 4, none⟩ = some (.string ts))
    (first | with_reducible exact C2 | exact ⟨d0, cell_of_cells BX.out 1, cell_of_cells BX.out 2, cell_of_cells BX.out 4⟩ | go_keep)
    ((go_at_call 77; refine (show TwoC _ _ _ _ _ _ _ _ _ _ from HTW.out).mono ?_; rintro e w2 ⟨r, rfl, hf2, hcall2⟩
      obtain ⟨ra, rfl⟩ := shapeE (g := 78) hcall2
      have HC2 : Hid (∀ W, Fr (fun _ => False) w2 W → Calls Tryz.prog 78 #[.pointer (some ⟨yb, 0, none⟩), .int .i64 p, .int .i64 ep, .int .i64 q, .string ts] W fun e w3 => ∃ r2, e = .returned r2 ∧ SameE B xb yb h y (N + 1) w1.drew (.int .i64 ra) r2 w3) := hcall2
      have b2 := G.out.boxed (Nat.le_refl _) (W := w1.drew) BX.out hf2
      have BX2 : Hid (w2.heap[w.heap.size]? = some (.cells #[.int .i64 3, .int .i64 p, .int .i64 q, .int .i64 m, .string ts, .bool fl] 28 (0, 0))) := b2
      have e1 := G.out.wcell (W := w1.drew) hw1 d1 hf2
      have C2 : w2.cell? ⟨wb, 0, none⟩ = some (.pointer (some ⟨xb, 0, none⟩)) ∧ w2.cell? ⟨w.heap.size, 1, none⟩ = some (.int .i64 p) ∧ w2.cell? ⟨w.heap.size, 2, none⟩ = some (.int .i64 q) ∧ w2.cell? ⟨w.heap.size, 4, none⟩ = some (.string ts) := ⟨(G.out.wcell (W := w1.drew) hw1 d0 hf2), cell_of_cells b2 1, cell_of_cells b2 2, cell_of_cells b2 4⟩
      clear hcall2 hf2 b2))
  go_wp2_with fail
  go_region_held3 (fun w' => w'.cell? ⟨wb, 1, none⟩ = some (.pointer (some ⟨yb, 0, none⟩)) ∧ w'.cell? ⟨w.heap.size, 1, none⟩ = some (.int .i64 p) ∧ w'.cell? ⟨w.heap.size, 2, none⟩ = some (.int .i64 q) ∧ w'.cell? ⟨w.heap.size, 4, none⟩ = some (.string ts))
    (first | with_reducible exact C3 | exact ⟨e1, cell_of_cells BX2.out 1, cell_of_cells BX2.out 2, cell_of_cells BX2.out 4⟩ | go_keep)
    ((go_at_call 78; refine (HC2.out w2.drew ((Fr.refl _ _).drew)).mono ?_; rintro e w3 ⟨r2, rfl, hpost⟩
      obtain ⟨⟨ra2, hr1, rfl⟩, h', y', hto⟩ := hpost
      simp only [Value.int.injEq, true_and] at hr1
      subst hr1
      have T3 : Hid (BothTo w w3 B xb yb h y (N + 1) h' y') := hto.behind F1.out.drew
      have b3 := G.out.boxed (Nat.le_refl _) (W := w1.drew) BX.out hto.fr
      have C3 : w3.cell? ⟨wb, 1, none⟩ = some (.pointer (some ⟨yb, 0, none⟩)) ∧ w3.cell? ⟨w.heap.size, 1, none⟩ = some (.int .i64 p) ∧ w3.cell? ⟨w.heap.size, 2, none⟩ = some (.int .i64 q) ∧ w3.cell? ⟨w.heap.size, 4, none⟩ = some (.string ts) := ⟨(G.out.wcell (W := w1.drew) hw1 d1 hto.fr), cell_of_cells b3 1, cell_of_cells b3 2, cell_of_cells b3 4⟩
      clear hto b3))
  all_goals
    go_wp2_with fail
    go_ret
    exact ⟨by simp, h', y', T3.out⟩

set_option maxRecDepth 100000 in
set_option maxHeartbeats 3200000 in
theorem writes_end (g : Game w B wb xb yb bb N n h y o) (hN : N ≤ 10000000) (p q m : Int) {ts : ByteArray} (fl : Bool) :
    Calls Tryz.prog 33 #[ptr wb, actV 4 p q m ts fl] w (Acted w B xb yb h y (N + 1)) := by
  have G : Hid (Game w B wb xb yb bb N n h y o) := g
  have HN : Hid (N ≤ 10000000) := hN
  obtain ⟨c0, c1, c2⟩ := g.scn.cells
  have hwlt := g.lt
  unfold ptr at c0 c1 ⊢
  unfold actV
  clear g c2
  go_enter Tryz.func33, Tryz.ntmps33
  go_wp2_with (first
    | (go_at_call 73; refine (show Calls Tryz.prog 73 #[ptr wb, actV 4 p q m ts fl] _ _ from epoch_any (G.out.after (nofr _)) HN.out 4 p q m ts fl).mono ?_; rintro e w1 ⟨⟨ep, rfl⟩, hf1⟩
       have F1 : Hid (Fr (fun _ => False) w w1) := (nofr _).trans hf1 (fun _ h => h.elim)
       have BX : Hid (w1.heap[w.heap.size]? = some (.cells #[.int .i64 4, .int .i64 p, .int .i64 q, .int .i64 m, .string ts, .bool fl] 28 (0, 0))) := (hf1.block _ (by simp) id).trans (heap_alloc_new _ _)
       have k0 : w1.cell? ⟨w.heap.size, 0, none⟩ = some (.int .i64 4) := cell_of_cells BX.out 0
       have d0 := (F1.out.cell (p := ⟨wb, 0, none⟩) hwlt id).trans c0
       have d1 := (F1.out.cell (p := ⟨wb, 1, none⟩) hwlt id).trans c1
       clear hf1))
  have G1 : Hid (Game w1.drew B wb xb yb bb N n h y o) := G.out.after F1.out.drew
  have hw1 : wb < w1.heap.size := Nat.lt_of_lt_of_le hwlt F1.out.size
  have HTW : Hid (TwoC 28 79 #[.pointer (some ⟨xb, 0, none⟩), .int .i64 p, .int .i64 ep, .bool fl] #[.pointer (some ⟨yb, 0, none⟩), .int .i64 p, .int .i64 ep, .bool fl] xb yb h y w1.drew (SameE B xb yb h y (N + 1) w1.drew)) := G1.out.both.end_ HN.out p ep fl
  go_region_held3 (fun w' => w'.cell? ⟨wb, 0, none⟩ = some (.pointer (some ⟨xb, 0, none⟩)) ∧ w'.cell? ⟨w.heap.size, 1, none⟩ = some (.int .i64 p) ∧ w'.cell? ⟨w.heap.size, 5, none⟩ = some (.bool fl))
    (first | with_reducible exact C2 | exact ⟨d0, cell_of_cells BX.out 1, cell_of_cells BX.out 5⟩ | go_keep)
    ((go_at_call 28; refine (show TwoC _ _ _ _ _ _ _ _ _ _ from HTW.out).mono ?_; rintro e w2 ⟨r, rfl, hf2, hcall2⟩
      obtain ⟨ra, rfl⟩ := shapeE (g := 79) hcall2
      have HC2 : Hid (∀ W, Fr (fun _ => False) w2 W → Calls Tryz.prog 79 #[.pointer (some ⟨yb, 0, none⟩), .int .i64 p, .int .i64 ep, .bool fl] W fun e w3 => ∃ r2, e = .returned r2 ∧ SameE B xb yb h y (N + 1) w1.drew (.int .i64 ra) r2 w3) := hcall2
      have b2 := G.out.boxed (Nat.le_refl _) (W := w1.drew) BX.out hf2
      have BX2 : Hid (w2.heap[w.heap.size]? = some (.cells #[.int .i64 4, .int .i64 p, .int .i64 q, .int .i64 m, .string ts, .bool fl] 28 (0, 0))) := b2
      have e1 := G.out.wcell (W := w1.drew) hw1 d1 hf2
      have C2 : w2.cell? ⟨wb, 0, none⟩ = some (.pointer (some ⟨xb, 0, none⟩)) ∧ w2.cell? ⟨w.heap.size, 1, none⟩ = some (.int .i64 p) ∧ w2.cell? ⟨w.heap.size, 5, none⟩ = some (.bool fl) := ⟨(G.out.wcell (W := w1.drew) hw1 d0 hf2), cell_of_cells b2 1, cell_of_cells b2 5⟩
      clear hcall2 hf2 b2))
  go_wp2_with fail
  go_region_held3 (fun w' => w'.cell? ⟨wb, 1, none⟩ = some (.pointer (some ⟨yb, 0, none⟩)) ∧ w'.cell? ⟨w.heap.size, 1, none⟩ = some (.int .i64 p) ∧ w'.cell? ⟨w.heap.size, 5, none⟩ = some (.bool fl))
    (first | with_reducible exact C3 | exact ⟨e1, cell_of_cells BX2.out 1, cell_of_cells BX2.out 5⟩ | go_keep)
    ((go_at_call 79; refine (HC2.out w2.drew ((Fr.refl _ _).drew)).mono ?_; rintro e w3 ⟨r2, rfl, hpost⟩
      obtain ⟨⟨ra2, hr1, rfl⟩, h', y', hto⟩ := hpost
      simp only [Value.int.injEq, true_and] at hr1
      subst hr1
      have T3 : Hid (BothTo w w3 B xb yb h y (N + 1) h' y') := hto.behind F1.out.drew
      have b3 := G.out.boxed (Nat.le_refl _) (W := w1.drew) BX.out hto.fr
      have C3 : w3.cell? ⟨wb, 1, none⟩ = some (.pointer (some ⟨yb, 0, none⟩)) ∧ w3.cell? ⟨w.heap.size, 1, none⟩ = some (.int .i64 p) ∧ w3.cell? ⟨w.heap.size, 5, none⟩ = some (.bool fl) := ⟨(G.out.wcell (W := w1.drew) hw1 d1 hto.fr), cell_of_cells b3 1, cell_of_cells b3 5⟩
      clear hto b3))
  all_goals
    go_wp2_with fail
    go_ret
    exact ⟨by simp, h', y', T3.out⟩
end

end Go.Proofs.YtkelpcjiediamaaGreat

