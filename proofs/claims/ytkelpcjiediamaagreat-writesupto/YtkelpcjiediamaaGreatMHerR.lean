/-
  The program's Part, Fetch, Entries, Message and Flight.
-/
import Derived.Test.YtkelpcjiediamaaGreatMHerP
namespace Go.Proofs.YtkelpcjiediamaaGreat
open Go.RowKit Go.Maps

theorem plCells_get : ∀ (l : List PL) (k : Nat) (e : PL) (j : Nat), l[k]? = some e → j < 2 → (plCells l)[k * 2 + j]? = e.cs[j]?
  | [], k, e, j, h, _ => by simp at h
  | x :: r, 0, e, j, h, hj => by
    simp only [List.getElem?_cons_zero, Option.some.injEq] at h
    subst h
    simp only [plCells, List.flatMap_cons]
    rw [List.getElem?_append_left (by simp [PL.cs]; omega)]
    simp
  | x :: r, k + 1, e, j, h, hj => by
    simp only [List.getElem?_cons_succ] at h
    have := plCells_get r k e j h hj
    simp only [plCells, List.flatMap_cons] at this ⊢
    rw [List.getElem?_append_right (by simp [PL.cs]; omega), ← this]
    congr 1
    simp [PL.cs]; omega

theorem rowP_cells {w : World} {B g n cap : Nat} {l : List PL} (h : w.ownsRow B 98 2 (.slice (some ⟨g, 0, none⟩) n cap) l.length (plCells l)) {k : Nat} {e : PL} (hk : l[k]? = some e) :
    w.cell? ⟨g, k * 2, none⟩ = some (.pointer (some ⟨e.lb, 0, none⟩)) ∧ w.cell? ⟨g, k * 2 + 1, none⟩ = some (.bool e.out) := by
  have hc := h.cells (g := g) rfl
  have key : ∀ j u, j < 2 → e.cs[j]? = some u → w.cell? ⟨g, k * 2 + j, none⟩ = some u := fun j u hj hu => by
    have := hc (k * 2 + j) u ((plCells_get l k e j hk hj).trans hu)
    rw [Addr.add_lit] at this
    simpa using this
  exact ⟨key 0 _ (by omega) rfl, key 1 _ (by omega) rfl⟩

theorem info114 : (Tryz.prog.info? 62).map (·.size) = some 4 := by kernel_rfl

section
variable {w : World} {B xb n : Nat} {h : HS}

/-- Where the k-th place lies. -/
theorem HAt.place (hh : HAt w B xb n h) {k : Nat} {p : PL} (hk : h.pl[k]? = some p) : ∃ g cap, h.pv = .slice (some ⟨g, 0, none⟩) h.pl.length cap ∧ g < w.heap.size ∧ h.pl.length ≤ cap ∧
    w.cell? ⟨g, k * 2, none⟩ = some (.pointer (some ⟨p.lb, 0, none⟩)) ∧ w.cell? ⟨g, k * 2 + 1, none⟩ = some (.bool p.out) := by
  have hlt := (List.getElem?_eq_some_iff.1 hk).1
  rcases hh.places.2 with ⟨hv, h0⟩ | ⟨g, cap, cur, hv, hb, hg, h1, h2, _⟩
  · omega
  · have := hh.places
    rw [hv] at this
    exact ⟨g, cap, hv, lt_of_block hg, h1, rowP_cells this hk⟩

set_option maxRecDepth 100000 in
set_option maxHeartbeats 1600000 in
theorem part_none (hh : HAt w B xb n h) {m : Int} (hm : ¬ (0 ≤ m ∧ m < h.pl.length)) :
    Calls Tryz.prog 23 #[.pointer (some ⟨xb, 0, none⟩), .int .i64 m] w fun r w' => r = .returned (.tuple #[.agg #[.bool false, .int .i64 0, .int .i64 0, .slice none 0 0], .int .i64 3]) ∧ Fr (fun _ => False) w w' := by
  have HH : Hid (HAt w B xb n h) := hh
  have HM : Hid (decide (0 ≤ m ∧ m < h.pl.length) = false) := decide_eq_false hm
  clear hh hm
  go_enter Tryz.func23, Tryz.ntmps23
  go_wp2_with (go_at_call 50; refine (hasPart_any (by exact HH.out.after (nofr _)) m).mono ?_; rw [HM.out]; rintro e w1 ⟨rfl, rfl⟩)
  refine bodyPost_ret (results_two rfl _ _ _ 62 _ (0, 0) _ rfl (heap_alloc_new _ _) Tryz.underlying62 rfl info114) rfl ?_
  exact ⟨rfl, nofr _⟩

theorem fetch_none (hh : HAt w B xb n h) {m : Int} (f1 f2 : Int) (hm : ¬ (0 ≤ m ∧ m < h.pl.length)) :
    Calls Tryz.prog 57 #[.pointer (some ⟨xb, 0, none⟩), .int .i64 m, .int .i64 f1, .int .i64 f2] w fun r w' => r = .returned (.tuple #[.slice none 0 0, .int .i64 3]) ∧ Fr (fun _ => False) w w' := by
  have HH : Hid (HAt w B xb n h) := hh
  have HM : Hid (decide (0 ≤ m ∧ m < h.pl.length) = false) := decide_eq_false hm
  clear hh hm
  go_enter Tryz.func57, Tryz.ntmps57
  go_wp2_with (go_at_call 50; refine (hasPart_any HH.out m).mono ?_; rw [HM.out]; rintro e w1 ⟨rfl, rfl⟩)
  go_ret2
  exact ⟨rfl, Fr.refl _ _⟩

theorem ents_none (hh : HAt w B xb n h) {m : Int} (hm : ¬ (0 ≤ m ∧ m < h.pl.length)) :
    Calls Tryz.prog 17 #[.pointer (some ⟨xb, 0, none⟩), .int .i64 m] w fun r w' => r = .returned (.tuple #[.slice none 0 0, .int .i64 3]) ∧ Fr (fun _ => False) w w' := by
  have HH : Hid (HAt w B xb n h) := hh
  have HM : Hid (decide (0 ≤ m ∧ m < h.pl.length) = false) := decide_eq_false hm
  clear hh hm
  go_enter Tryz.func17, Tryz.ntmps17
  go_wp2_with (go_at_call 50; refine (hasPart_any HH.out m).mono ?_; rw [HM.out]; rintro e w1 ⟨rfl, rfl⟩)
  go_ret2
  exact ⟨rfl, Fr.refl _ _⟩

set_option maxRecDepth 100000 in
set_option maxHeartbeats 1600000 in
theorem fetch_ok (hh : HAt w B xb n h) {k : Nat} {p : PL} (hk : h.pl[k]? = some p) (f1 f2 : Int) (hi : Inv p.s) (hb : p.s.es.length * 40 ≤ 140737488355328) :
    Calls Tryz.prog 57 #[.pointer (some ⟨xb, 0, none⟩), .int .i64 k, .int .i64 f1, .int .i64 f2] w fun r w' => ∃ va, r = .returned (.tuple #[va, .int .i64 0]) ∧ w'.ownsRow w.heap.size 94 3 va (p.s.fetch f1 f2).length (recCells (p.s.fetch f1 f2)) ∧ Fr (fun _ => False) w w' := by
  have hkl := (List.getElem?_eq_some_iff.1 hk).1
  have HH : Hid (HAt w B xb n h) := hh
  have HM : Hid (decide (0 ≤ (k : Int) ∧ (k : Int) < h.pl.length) = true) := decide_eq_true ⟨by omega, by omega⟩
  obtain ⟨g, cap, hv, hg, hcap, p0, p1⟩ := hh.place hk
  have HLOG : Hid (LogAt w B p.lb p.bm p.v n p.s) := hh.logs p (List.mem_of_getElem? hk)
  have HI : Hid (Inv p.s) := hi
  have HB : Hid (p.s.es.length * 40 ≤ 140737488355328) := hb
  have c5 := hh.cV
  rw [hv] at c5
  have hk0 : (0 : Int) ≤ (k : Int) := by omega
  have hk1 : (k : Int) < (h.pl.length : Int) := by omega
  clear hh hk hi hb
  go_enter Tryz.func57, Tryz.ntmps57
  go_wp2_with (first
    | (go_at_call 50; refine (hasPart_any HH.out k).mono ?_; rw [HM.out]; rintro e w1 ⟨rfl, rfl⟩)
    | (go_at_call 121; refine (fetch_any HLOG.out HI.out.wf HB.out f1 f2).mono ?_; rintro e w1 ⟨va, rfl, hv1, hf1⟩
       have V1 : Hid (w1.ownsRow w.heap.size 94 3 va (p.s.fetch f1 f2).length (recCells (p.s.fetch f1 f2))) := hv1
       have F1 : Hid (Fr (fun _ => False) w w1) := hf1
       clear hv1 hf1))
  go_ret2
  exact ⟨_, rfl, V1.out, F1.out⟩

set_option maxRecDepth 100000 in
set_option maxHeartbeats 1600000 in
theorem ents_ok (hh : HAt w B xb n h) {k : Nat} {p : PL} (hk : h.pl[k]? = some p) (hb : p.s.es.length * 40 ≤ 140737488355328) :
    Calls Tryz.prog 17 #[.pointer (some ⟨xb, 0, none⟩), .int .i64 k] w fun r w' => ∃ va, r = .returned (.tuple #[va, .int .i64 0]) ∧ w'.ownsRow w.heap.size 55 4 va p.s.es.length (entCells p.s.es) ∧ Fr (fun _ => False) w w' := by
  have hkl := (List.getElem?_eq_some_iff.1 hk).1
  have HH : Hid (HAt w B xb n h) := hh
  have HM : Hid (decide (0 ≤ (k : Int) ∧ (k : Int) < h.pl.length) = true) := decide_eq_true ⟨by omega, by omega⟩
  obtain ⟨g, cap, hv, hg, hcap, p0, p1⟩ := hh.place hk
  have HLOG : Hid (LogAt w B p.lb p.bm p.v n p.s) := hh.logs p (List.mem_of_getElem? hk)
  have HB : Hid (p.s.es.length * 40 ≤ 140737488355328) := hb
  have c5 := hh.cV
  rw [hv] at c5
  have hk0 : (0 : Int) ≤ (k : Int) := by omega
  have hk1 : (k : Int) < (h.pl.length : Int) := by omega
  clear hh hk hb
  go_enter Tryz.func17, Tryz.ntmps17
  go_wp2_with (first
    | (go_at_call 50; refine (hasPart_any HH.out k).mono ?_; rw [HM.out]; rintro e w1 ⟨rfl, rfl⟩)
    | (go_at_call 51; refine (entries_any HLOG.out HB.out).mono ?_; rintro e w1 ⟨va, rfl, hv1, hf1⟩
       have V1 : Hid (w1.ownsRow w.heap.size 55 4 va p.s.es.length (entCells p.s.es)) := hv1
       have F1 : Hid (Fr (fun _ => False) w w1) := hf1
       clear hv1 hf1))
  go_ret2
  exact ⟨_, rfl, V1.out, F1.out⟩

theorem has_any2 (hh : HAt w B xb n h) (m : Int) :
    Calls Tryz.prog 139 #[.pointer (some ⟨xb, 69, none⟩), .int .i64 m] w fun e w' => e = .returned (.bool (decide (0 ≤ m ∧ m < h.fl.length))) ∧ w = w' := by
  have c0 := hh.cF
  obtain ⟨pa, pc, hp, _⟩ := anyRow_len hh.flight
  rw [hp] at c0
  clear hh
  by_cases h1 : 0 ≤ m
  · by_cases h2 : m < h.fl.length
    · go_enter Tryz.func139, Tryz.ntmps139
      go_wp2
      go_ret
      exact ⟨by simp [h1, h2], rfl⟩
    · go_enter Tryz.func139, Tryz.ntmps139
      go_wp2
      go_ret
      exact ⟨by simp [h2], rfl⟩
  · go_enter Tryz.func139, Tryz.ntmps139
    go_wp2
    go_ret
    exact ⟨by rw [not_in (by omega)] <;> rfl, rfl⟩

set_option maxRecDepth 100000 in
set_option maxHeartbeats 1600000 in
theorem message_none (hh : HAt w B xb n h) {m : Int} (hm : ¬ (0 ≤ m ∧ m < h.fl.length)) :
    Calls Tryz.prog 87 #[.pointer (some ⟨xb, 0, none⟩), .int .i64 m] w fun r w' => r = .returned (.tuple #[.agg #[.int .i64 0, .int .i64 0, .int .i64 0, .int .i64 0, .bool false], .int .i64 8]) ∧ Fr (fun _ => False) w w' := by
  have HH : Hid (HAt w B xb n h) := hh
  have HM : Hid (decide (0 ≤ m ∧ m < h.fl.length) = false) := decide_eq_false hm
  clear hh hm
  go_enter Tryz.func87, Tryz.ntmps87
  go_wp2_with (go_at_call 139; refine (has_any2 (by exact HH.out.after (nofr _)) m).mono ?_; rw [HM.out]; rintro e w1 ⟨rfl, rfl⟩)
  refine bodyPost_ret (results_two rfl _ _ _ 119 _ (0, 0) _ rfl (heap_alloc_new _ _) Tryz.underlying119 rfl (by kernel_rfl)) rfl ?_
  exact ⟨rfl, nofr _⟩

theorem flight_any (hh : HAt w B xb n h) : Calls Tryz.prog 36 #[.pointer (some ⟨xb, 0, none⟩)] w fun r w' => r = .returned (.int .i64 h.fl.length) ∧ Fr (fun _ => False) w w' := by
  have c0 := hh.cF
  obtain ⟨pa, pc, hp, _⟩ := anyRow_len hh.flight
  rw [hp] at c0
  clear hh
  go_enter Tryz.func36, Tryz.ntmps36
  go_wp2
  go_ret
  exact ⟨rfl, Fr.refl _ _⟩
end

end Go.Proofs.YtkelpcjiediamaaGreat

/-
  The program's Part of a part that there is; Crash; Restart and Journal where nothing was written.
-/
namespace Go.Proofs.YtkelpcjiediamaaGreat
open Go.RowKit Go.Maps

/-- The producers whose transactions are open in a log. -/
def IsOpened (n : Nat) (s : LogS) (S : List Int) : Prop := S.Pairwise (· < ·) ∧ S.length ≤ n ∧ (∀ x ∈ S, I64 x) ∧ ∀ x, I64 x → (x ∈ S ↔ ∃ t, s.nw x = some (t, true))

section
variable {w : World} {B xb n : Nat} {h : HS}

set_option maxRecDepth 100000 in
set_option maxHeartbeats 3200000 in
theorem part_ok (hh : HAt w B xb n h) {k : Nat} {p : PL} (hk : h.pl[k]? = some p) (hi : Inv p.s) (hb : p.s.es.length * 40 ≤ 140737488355328) (hn : (n + 1) * 8 ≤ 140737488355328) :
    Calls Tryz.prog 23 #[.pointer (some ⟨xb, 0, none⟩), .int .i64 k] w fun r w' => ∃ va S, r = .returned (.tuple #[.agg #[.bool p.out, .int .i64 p.s.es.length, .int .i64 p.s.stable, va], .int .i64 0]) ∧ IsOpened n p.s S ∧ NewInts w w' va S ∧ Fr (fun _ => False) w w' := by
  have hkl := (List.getElem?_eq_some_iff.1 hk).1
  have HH : Hid (HAt w B xb n h) := hh
  have HM : Hid (decide (0 ≤ (k : Int) ∧ (k : Int) < h.pl.length) = true) := decide_eq_true ⟨by omega, by omega⟩
  obtain ⟨g, cap, hv, hg, hcap, p0, p1⟩ := hh.place hk
  have HLOG : Hid (LogAt w B p.lb p.bm p.v n p.s) := hh.logs p (List.mem_of_getElem? hk)
  have HI : Hid (Inv p.s) := hi
  have HB : Hid (p.s.es.length * 40 ≤ 140737488355328) := hb
  have HN : Hid ((n + 1) * 8 ≤ 140737488355328) := hn
  have c5 := hh.cV
  rw [hv] at c5
  have hk0 : (0 : Int) ≤ (k : Int) := by omega
  have hk1 : (k : Int) < (h.pl.length : Int) := by omega
  have hlt := lt_of_block hh.blk
  have bx : g ≠ w.heap.size := by omega
  clear hh hk hi hb hn
  go_enter Tryz.func23, Tryz.ntmps23
  go_wp2_with (go_at_call 50; refine (hasPart_any (by exact HH.out.after (nofr _)) k).mono ?_; rw [HM.out]; rintro e w1 ⟨rfl, rfl⟩)
  go_region_held3 (fun w' => w'.cell? ⟨g, k * 2, none⟩ = some (.pointer (some ⟨p.lb, 0, none⟩)) ∧ w'.cell? ⟨g, k * 2 + 1, none⟩ = some (.bool p.out))
    (first | with_reducible exact ⟨i0, i1⟩ | with_reducible exact ⟨h0, h1⟩ | with_reducible exact ⟨f0, f1⟩ | go_keep | (simp only [cell_set_ne _ _ bx]; with_reducible exact ⟨i0, i1⟩))
    (first
      | (go_at_call 51; refine (entries_any (by exact ((nofr _).drew).logAt HLOG.out id id (fun _ _ => id)) HB.out).mono ?_; rintro e w1 ⟨va, rfl, hv1, hf1⟩
         obtain ⟨ea, ec, rfl, _⟩ := anyRow_len hv1
         have F1 : Hid (Fr (fun _ => False) w w1) := ((nofr _).drew).trans hf1 (fun _ h => h.elim)
         have f0 : w1.cell? ⟨g, k * 2, none⟩ = some (.pointer (some ⟨p.lb, 0, none⟩)) := (F1.out.cell (p := ⟨g, k * 2, none⟩) hg id).trans p0
         have f1 : w1.cell? ⟨g, k * 2 + 1, none⟩ = some (.bool p.out) := (F1.out.cell (p := ⟨g, k * 2 + 1, none⟩) hg id).trans p1
         have B1 : Hid (w1.heap[w.heap.size]? = some (.cells #[.bool false, .int .i64 0, .int .i64 0, .slice none 0 0] 62 (0, 0))) := (hf1.block _ (by simp) id).trans (by show (w.alloc _).heap[w.heap.size]? = _; exact heap_alloc_new _ _)
         clear hf1 hv1)
      | (go_at_call 59; refine (stable_any (by exact F1.out.logAt HLOG.out id id (fun _ _ => id)) HI.out.wf).mono ?_; rintro e w2 ⟨rfl, hf2⟩
         have F2 : Hid (Fr (fun _ => False) w w2) := F1.out.trans hf2 (fun _ h => h.elim)
         have h0 : w2.cell? ⟨g, k * 2, none⟩ = some (.pointer (some ⟨p.lb, 0, none⟩)) := (F2.out.cell (p := ⟨g, k * 2, none⟩) hg id).trans p0
         have h1 : w2.cell? ⟨g, k * 2 + 1, none⟩ = some (.bool p.out) := (F2.out.cell (p := ⟨g, k * 2 + 1, none⟩) hg id).trans p1
         have B2 : Hid (w2.heap[w.heap.size]? = some (.cells #[.bool false, .int .i64 0, .int .i64 0, .slice none 0 0] 62 (0, 0))) := (hf2.block _ (lt_of_block B1.out) id).trans B1.out
         clear hf2)
      | (go_at_call 60; refine (opened_ask (by exact F2.out.logAt HLOG.out id id (fun _ _ => id)) HN.out).mono ?_; rintro e w3 ⟨vb, S, rfl, hv3, hf3, hs⟩
         obtain ⟨ba, bc, rfl, _⟩ := intRow_len hv3
         have F3 : Hid (Fr (fun _ => False) w w3) := F2.out.trans hf3 (fun _ h => h.elim)
         have HSS : Hid (IsOpened n p.s S) := hs
         have V3 : Hid (w3.ownsRow w2.heap.size 3 1 (.slice ba S.length bc) S.length (intCells S)) := hv3
         have i0 : w3.cell? ⟨g, k * 2, none⟩ = some (.pointer (some ⟨p.lb, 0, none⟩)) := (F3.out.cell (p := ⟨g, k * 2, none⟩) hg id).trans p0
         have i1 : w3.cell? ⟨g, k * 2 + 1, none⟩ = some (.bool p.out) := (F3.out.cell (p := ⟨g, k * 2 + 1, none⟩) hg id).trans p1
         have B3 : Hid (w3.heap[w.heap.size]? = some (.cells #[.bool false, .int .i64 0, .int .i64 0, .slice none 0 0] 62 (0, 0))) := (hf3.block _ (lt_of_block B2.out) id).trans B2.out
         have b0 : w3.cell? ⟨w.heap.size, 0, none⟩ = some (.bool false) := by rw [cell_of_cells B3.out]; rfl
         have b1 : w3.cell? ⟨w.heap.size, 1, none⟩ = some (.int .i64 0) := by rw [cell_of_cells B3.out]; rfl
         have b2 : w3.cell? ⟨w.heap.size, 2, none⟩ = some (.int .i64 0) := by rw [cell_of_cells B3.out]; rfl
         have b3 : w3.cell? ⟨w.heap.size, 3, none⟩ = some (.slice none 0 0) := by rw [cell_of_cells B3.out]; rfl
         have bf : ∀ o, w3.frozen? ⟨w.heap.size, o, none⟩ = false := frozen_of_cells B3.out
         clear hf3 hv3 hs))
  go_wp2
  have hb := setCell_cells (setCell_cells (setCell_cells (setCell_cells B3.out 0 (.bool p.out)) 1 (.int .i64 p.s.es.length)) 2 (.int .i64 p.s.stable)) 3 (.slice ba S.length bc)
  have fs := ((((Fr.refl (fun x => x = w.heap.size) w3).setCell (p := ⟨w.heap.size, 0, none⟩) (.inl rfl) (.bool p.out)).setCell (p := ⟨w.heap.size, 1, none⟩) (.inl rfl) (.int .i64 p.s.es.length)).setCell (p := ⟨w.heap.size, 2, none⟩) (.inl rfl) (.int .i64 p.s.stable)).setCell (p := ⟨w.heap.size, 3, none⟩) (.inl rfl) (.slice ba S.length bc)
  have hz : w.heap.size < w2.heap.size := lt_of_block B2.out
  refine bodyPost_ret (results_two rfl _ _ _ 62 _ (0, 0) _ rfl hb Tryz.underlying62 rfl info114) rfl ?_
  refine ⟨_, S, rfl, HSS.out, ?_, F3.out.trans fs (fun x hx => .inr (by omega))⟩
  exact ownsRow_base (fs.ownsRow V3.out (fun x hx e => by have := (V3.out.lt x hx).1; omega)) (by omega)

theorem crash_any (hh : HAt w B xb n h) :
    Calls Tryz.prog 44 #[.pointer (some ⟨xb, 0, none⟩)] w fun r w' => r = .returned (.int .i64 (if h.up then 0 else 5)) ∧ HAt w' B xb n (if h.up then h.fallen else h) ∧ Fr (fun k => k = xb) w w' := by
  have HH : Hid (HAt w B xb n h) := hh
  have c5 := hh.cU
  clear hh
  cases hu : h.up
  · rw [hu] at c5
    go_enter Tryz.func44, Tryz.ntmps44
    go_wp2
    go_ret
    exact ⟨rfl, HH.out, Fr.refl _ _⟩
  · rw [hu] at c5
    go_enter Tryz.func44, Tryz.ntmps44
    go_wp2_with (go_at_call 104; refine (fall_any HH.out).mono ?_; rintro e w1 ⟨rfl, hf1⟩; have H1 : Hid (HAt w1 B xb n h.fallen ∧ Fr (fun k => k = xb) w w1) := hf1; clear hf1)
    go_ret
    exact ⟨rfl, H1.out⟩
end

end Go.Proofs.YtkelpcjiediamaaGreat
