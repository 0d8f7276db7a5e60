/-
  The document's Part, Fetch, Entries; Flight, Message and Journal where there is nothing; Crash.
-/
import Derived.Test.YtkelpcjiediamaaGreatMYer
namespace Go.Proofs.YtkelpcjiediamaaGreat
open Go.RowKit Go.Maps

section
variable {w w' : World} {B yb : Nat} {y : RS}

theorem rowG_cell {g n cap : Nat} {l : List GL} (h : w.ownsRow B 139 1 (.slice (some ⟨g, 0, none⟩) n cap) l.length (l.map fun g => ptr g.yb)) {k : Nat} {e : GL} (hk : l[k]? = some e) : w.cell? ⟨g, k, none⟩ = some (.pointer (some ⟨e.yb, 0, none⟩)) := by
  have := h.cells (g := g) rfl k (ptr e.yb) (by rw [List.getElem?_map, hk]; rfl)
  rw [Addr.add_lit] at this
  simpa [ptr] using this

theorem rowO_cell {g n cap : Nat} {l : List Bool} (h : w.ownsRow B 4 1 (.slice (some ⟨g, 0, none⟩) n cap) l.length (l.map Value.bool)) {k : Nat} {e : Bool} (hk : l[k]? = some e) : w.cell? ⟨g, k, none⟩ = some (.bool e) := by
  have := h.cells (g := g) rfl k (.bool e) (by rw [List.getElem?_map, hk]; rfl)
  rw [Addr.add_lit] at this
  simpa using this

theorem YAt.glog (h : YAt w B yb y) {k : Nat} {e : GL} (hk : y.G[k]? = some e) : ∃ g cap, y.gv = .slice (some ⟨g, 0, none⟩) y.G.length cap ∧ g < w.heap.size ∧ y.G.length ≤ cap ∧ w.cell? ⟨g, k, none⟩ = some (.pointer (some ⟨e.yb, 0, none⟩)) := by
  have hlt := (List.getElem?_eq_some_iff.1 hk).1
  rcases h.logs.2 with ⟨hv, h0⟩ | ⟨g, cap, cur, hv, hb, hg, h1, h2, _⟩
  · omega
  · have := h.logs
    rw [hv] at this
    exact ⟨g, cap, hv, lt_of_block hg, h1, rowG_cell this hk⟩

theorem YAt.gout (h : YAt w B yb y) {k : Nat} {e : Bool} (hk : y.O[k]? = some e) : ∃ g cap, y.ov = .slice (some ⟨g, 0, none⟩) y.O.length cap ∧ g < w.heap.size ∧ y.O.length ≤ cap ∧ w.cell? ⟨g, k, none⟩ = some (.bool e) := by
  have hlt := (List.getElem?_eq_some_iff.1 hk).1
  rcases h.outs.2 with ⟨hv, h0⟩ | ⟨g, cap, cur, hv, hb, hg, h1, h2, _⟩
  · omega
  · have := h.outs
    rw [hv] at this
    exact ⟨g, cap, hv, lt_of_block hg, h1, rowO_cell this hk⟩

set_option maxRecDepth 100000 in
set_option maxHeartbeats 1600000 in
theorem ypart_none (h : YAt w B yb y) {m : Int} (hm : ¬ (0 ≤ m ∧ m ≤ y.Q - 1)) :
    Calls Tryz.prog 96 #[.pointer (some ⟨yb, 0, none⟩), .int .i64 m] w fun r w' => r = .returned (.tuple #[.agg #[.bool false, .int .i64 0, .int .i64 0, .slice none 0 0], .int .i64 3]) ∧ Fr (fun _ => False) w w' := by
  have HM : Hid (decide (0 ≤ m ∧ m ≤ y.Q - 1) = false) := decide_eq_false hm
  have c1 : w.cell? ⟨yb, 1, none⟩ = some (.int .i64 y.Q) := h.c 1
  have hlt := lt_of_block h.blk
  have hq1 := h.hQ.2.2.1
  have hq2 := h.hQ.2.2.2
  clear h hm
  go_enter Tryz.func96, Tryz.ntmps96
  go_wp2_with (go_at_call 72; refine (in_any _ _ _ _).mono ?_; rw [HM.out]; rintro e w1 ⟨rfl, rfl⟩)
  refine bodyPost_ret (results_two rfl _ _ _ 62 _ (0, 0) _ rfl (heap_alloc_new _ _) Tryz.underlying62 rfl info114) rfl ?_
  exact ⟨rfl, nofr _⟩

set_option maxRecDepth 100000 in
theorem yfetch_none (h : YAt w B yb y) {m : Int} (f1 f2 : Int) (hm : ¬ (0 ≤ m ∧ m ≤ y.Q - 1)) :
    Calls Tryz.prog 97 #[.pointer (some ⟨yb, 0, none⟩), .int .i64 m, .int .i64 f1, .int .i64 f2] w fun r w' => r = .returned (.tuple #[.slice none 0 0, .int .i64 3]) ∧ Fr (fun _ => False) w w' := by
  have HM : Hid (decide (0 ≤ m ∧ m ≤ y.Q - 1) = false) := decide_eq_false hm
  have c1 : w.cell? ⟨yb, 1, none⟩ = some (.int .i64 y.Q) := h.c 1
  have hq1 := h.hQ.2.2.1
  have hq2 := h.hQ.2.2.2
  clear h hm
  go_enter Tryz.func97, Tryz.ntmps97
  go_wp2_with (go_at_call 72; refine (in_any _ _ _ _).mono ?_; rw [HM.out]; rintro e w1 ⟨rfl, rfl⟩)
  go_ret2
  exact ⟨rfl, Fr.refl _ _⟩

set_option maxRecDepth 100000 in
theorem yents_none (h : YAt w B yb y) {m : Int} (hm : ¬ (0 ≤ m ∧ m ≤ y.Q - 1)) :
    Calls Tryz.prog 100 #[.pointer (some ⟨yb, 0, none⟩), .int .i64 m] w fun r w' => r = .returned (.tuple #[.slice none 0 0, .int .i64 3]) ∧ Fr (fun _ => False) w w' := by
  have HM : Hid (decide (0 ≤ m ∧ m ≤ y.Q - 1) = false) := decide_eq_false hm
  have c1 : w.cell? ⟨yb, 1, none⟩ = some (.int .i64 y.Q) := h.c 1
  have hq1 := h.hQ.2.2.1
  have hq2 := h.hQ.2.2.2
  clear h hm
  go_enter Tryz.func100, Tryz.ntmps100
  go_wp2_with (go_at_call 72; refine (in_any _ _ _ _).mono ?_; rw [HM.out]; rintro e w1 ⟨rfl, rfl⟩)
  go_ret2
  exact ⟨rfl, Fr.refl _ _⟩

set_option maxRecDepth 100000 in
set_option maxHeartbeats 1600000 in
theorem yfetch_ok (h : YAt w B yb y) {k : Nat} {e : GL} (hk : y.G[k]? = some e) {s : LogS} (hr : Rel s e.L) (f1 f2 : Int) (hb : e.L.length * 40 ≤ 140737488355328) :
    Calls Tryz.prog 97 #[.pointer (some ⟨yb, 0, none⟩), .int .i64 k, .int .i64 f1, .int .i64 f2] w fun r w' => ∃ va, r = .returned (.tuple #[va, .int .i64 0]) ∧ w'.ownsRow w.heap.size 94 3 va (s.fetch f1 f2).length (recCells (s.fetch f1 f2)) ∧ Fr (fun _ => False) w w' := by
  have hkl := (List.getElem?_eq_some_iff.1 hk).1
  have hq0 := h.hQ.1
  have hq1 := h.hQ.2.2.1
  have hq2 := h.hQ.2.2.2
  have HM : Hid (decide (0 ≤ (k : Int) ∧ (k : Int) ≤ y.Q - 1) = true) := decide_eq_true ⟨by omega, by omega⟩
  obtain ⟨g, cap, hv, hg, hcap, p0⟩ := h.glog hk
  have HREF : Hid (RefAt w B e.yb e.u e.L) := h.refs e (List.mem_of_getElem? hk)
  have HR : Hid (Rel s e.L) := hr
  have HB : Hid (e.L.length * 40 ≤ 140737488355328) := hb
  have c1 : w.cell? ⟨yb, 1, none⟩ = some (.int .i64 y.Q) := h.c 1
  have c12 : w.cell? ⟨yb, 12, none⟩ = some y.gv := h.c 12
  rw [hv] at c12
  have hk0 : (0 : Int) ≤ (k : Int) := by omega
  have hk1 : (k : Int) < (y.G.length : Int) := by omega
  clear h hk hr hb hq0
  go_enter Tryz.func97, Tryz.ntmps97
  go_wp2_with (first
    | (go_at_call 72; refine (in_any _ _ _ _).mono ?_; rw [HM.out]; rintro e w1 ⟨rfl, rfl⟩)
    | (go_at_call 149; refine (rFetch_any HREF.out HB.out f1 f2).mono ?_; rintro e w1 ⟨va, rfl, hv1, hf1⟩
       have V1 : Hid (w1.ownsRow w.heap.size 94 3 va (s.fetch f1 f2).length (recCells (s.fetch f1 f2))) := by rw [HR.out.fetch] at hv1; exact hv1
       have F1 : Hid (Fr (fun _ => False) w w1) := hf1
       clear hv1 hf1))
  go_ret2
  exact ⟨_, rfl, V1.out, F1.out⟩

set_option maxRecDepth 100000 in
set_option maxHeartbeats 1600000 in
theorem yents_ok (h : YAt w B yb y) {k : Nat} {e : GL} (hk : y.G[k]? = some e) {s : LogS} (hr : Rel s e.L) (hb : e.L.length * 40 ≤ 140737488355328) :
    Calls Tryz.prog 100 #[.pointer (some ⟨yb, 0, none⟩), .int .i64 k] w fun r w' => ∃ va, r = .returned (.tuple #[va, .int .i64 0]) ∧ w'.ownsRow w.heap.size 55 4 va s.es.length (entCells s.es) ∧ Fr (fun _ => False) w w' := by
  have hkl := (List.getElem?_eq_some_iff.1 hk).1
  have hq0 := h.hQ.1
  have hq1 := h.hQ.2.2.1
  have hq2 := h.hQ.2.2.2
  have HM : Hid (decide (0 ≤ (k : Int) ∧ (k : Int) ≤ y.Q - 1) = true) := decide_eq_true ⟨by omega, by omega⟩
  obtain ⟨g, cap, hv, hg, hcap, p0⟩ := h.glog hk
  have HREF : Hid (RefAt w B e.yb e.u e.L) := h.refs e (List.mem_of_getElem? hk)
  have HR : Hid (Rel s e.L) := hr
  have HB : Hid (e.L.length * 40 ≤ 140737488355328) := hb
  have c1 : w.cell? ⟨yb, 1, none⟩ = some (.int .i64 y.Q) := h.c 1
  have c12 : w.cell? ⟨yb, 12, none⟩ = some y.gv := h.c 12
  rw [hv] at c12
  have hk0 : (0 : Int) ≤ (k : Int) := by omega
  have hk1 : (k : Int) < (y.G.length : Int) := by omega
  clear h hk hr hb hq0
  go_enter Tryz.func100, Tryz.ntmps100
  go_wp2_with (first
    | (go_at_call 72; refine (in_any _ _ _ _).mono ?_; rw [HM.out]; rintro e w1 ⟨rfl, rfl⟩)
    | (go_at_call 146; refine (rEntries_any HREF.out HB.out).mono ?_; rintro e w1 ⟨va, rfl, hv1, hf1⟩
       have V1 : Hid (w1.ownsRow w.heap.size 55 4 va s.es.length (entCells s.es)) := by rw [HR.out.es]; exact hv1
       have F1 : Hid (Fr (fun _ => False) w w1) := hf1
       clear hv1 hf1))
  go_ret2
  exact ⟨_, rfl, V1.out, F1.out⟩

theorem yflight_any (h : YAt w B yb y) : Calls Tryz.prog 37 #[.pointer (some ⟨yb, 0, none⟩)] w fun r w' => r = .returned (.int .i64 y.N.length) ∧ Fr (fun _ => False) w w' := by
  have c14 : w.cell? ⟨yb, 14, none⟩ = some y.nv := h.c 14
  obtain ⟨a, c, e, _⟩ := anyRow_len h.net
  rw [e] at c14
  clear h
  go_enter Tryz.func37, Tryz.ntmps37
  go_wp2
  go_ret
  exact ⟨rfl, Fr.refl _ _⟩

set_option maxRecDepth 100000 in
theorem ymessage_nil (h : YAt w B yb y) (hN : y.N = []) (m : Int) :
    Calls Tryz.prog 88 #[.pointer (some ⟨yb, 0, none⟩), .int .i64 m] w fun r w' => r = .returned (.tuple #[.agg #[.int .i64 0, .int .i64 0, .int .i64 0, .int .i64 0, .bool false], .int .i64 8]) ∧ Fr (fun _ => False) w w' := by
  have HM : Hid (decide (0 ≤ m ∧ m ≤ -1) = false) := decide_eq_false (by omega)
  have c14 : w.cell? ⟨yb, 14, none⟩ = some y.nv := h.c 14
  obtain ⟨a, c, e⟩ := nil_row (by have := h.net; rw [hN] at this; exact this)
  rw [e] at c14
  have hlt := lt_of_block h.blk
  clear h
  go_enter Tryz.func88, Tryz.ntmps88
  go_wp2_with (go_at_call 72; refine (in_any _ _ _ _).mono ?_; rw [HM.out]; rintro e w1 ⟨rfl, rfl⟩)
  refine bodyPost_ret (results_two rfl _ _ _ 119 _ (0, 0) _ rfl (heap_alloc_new _ _) Tryz.underlying119 rfl (by kernel_rfl)) rfl ?_
  exact ⟨rfl, nofr _⟩

set_option maxRecDepth 100000 in
theorem yjournal_nil (h : YAt w B yb y) (hL : y.L = []) (ht : y.torn = ⟨#[]⟩) :
    Calls Tryz.prog 42 #[.pointer (some ⟨yb, 0, none⟩)] w fun r w' => r = .returned (.string ⟨#[]⟩) ∧ Fr (fun _ => False) w w' := by
  have c8 : w.cell? ⟨yb, 8, none⟩ = some y.lv := h.c 8
  have c9 : w.cell? ⟨yb, 9, none⟩ = some (.string y.torn) := h.c 9
  obtain ⟨la, lc, hl⟩ := nil_row (by have := h.recs; rw [hL] at this; exact this)
  rw [hl] at c8
  rw [ht] at c9
  clear h
  go_enter Tryz.func42, Tryz.ntmps42
  go_wp2_with fail
  go_loopw [3, 4] (fun s i w' => s = .string ⟨#[]⟩ ∧ i = .int .i64 0 ∧ w' = w) (fun _ _ _ => 0)
  case atStart => exact ⟨rfl, rfl, rfl⟩
  case round =>
    obtain ⟨rfl, rfl, rfl⟩ := hrel
    go_wp2
    go_ret
    exact ⟨rfl, Fr.refl _ _⟩
end

end Go.Proofs.YtkelpcjiediamaaGreat

/-
  The document's Part of a part that there is; Crash; Restart where nothing was written.
-/
namespace Go.Proofs.YtkelpcjiediamaaGreat
open Go.RowKit Go.Maps

section
variable {w w' : World} {B yb : Nat} {y : RS}

set_option maxRecDepth 100000 in
set_option maxHeartbeats 3200000 in
theorem ypart_ok (h : YAt w B yb y) {k : Nat} {e : GL} (hk : y.G[k]? = some e) {ob : Bool} (ho : y.O[k]? = some ob) {s : LogS} (hr : Rel s e.L) {n : Nat} {S : List Int} (hS : IsOpened n s S) (hb : e.L.length * 40 ≤ 140737488355328) (hn : (n + 1) * 8 ≤ 140737488355328) :
    Calls Tryz.prog 96 #[.pointer (some ⟨yb, 0, none⟩), .int .i64 k] w fun r w' => ∃ va, r = .returned (.tuple #[.agg #[.bool ob, .int .i64 s.es.length, .int .i64 s.stable, va], .int .i64 0]) ∧ NewInts w w' va S ∧ Fr (fun _ => False) w w' := by
  have hkl := (List.getElem?_eq_some_iff.1 hk).1
  have hkl2 := (List.getElem?_eq_some_iff.1 ho).1
  have hq0 := h.hQ.1
  have hq1 := h.hQ.2.2.1
  have hq2 := h.hQ.2.2.2
  have HM : Hid (decide (0 ≤ (k : Int) ∧ (k : Int) ≤ y.Q - 1) = true) := decide_eq_true ⟨by omega, by omega⟩
  obtain ⟨g, cap, hv, hg, hcap, p0⟩ := h.glog hk
  obtain ⟨go, capo, hvo, hgo, hcapo, q0⟩ := h.gout ho
  have HREF : Hid (RefAt w B e.yb e.u e.L) := h.refs e (List.mem_of_getElem? hk)
  have HR : Hid (Rel s e.L) := hr
  have HB : Hid (e.L.length * 40 ≤ 140737488355328) := hb
  have HO : Hid (Opens e.L S) := hr.opens hS.1 hS.2.2.1 hS.2.2.2
  have HSL : Hid ((S.length + 1) * 8 ≤ 140737488355328) := by have := hS.2.1; show (S.length + 1) * 8 ≤ 140737488355328; omega
  have c1 : w.cell? ⟨yb, 1, none⟩ = some (.int .i64 y.Q) := h.c 1
  have c12 : w.cell? ⟨yb, 12, none⟩ = some y.gv := h.c 12
  have c13 : w.cell? ⟨yb, 13, none⟩ = some y.ov := h.c 13
  rw [hv] at c12
  rw [hvo] at c13
  have hk0 : (0 : Int) ≤ (k : Int) := by omega
  have hk1 : (k : Int) < (y.G.length : Int) := by omega
  have hk2 : (k : Int) < (y.O.length : Int) := by omega
  have hlt := lt_of_block h.blk
  have bx : go ≠ w.heap.size := by omega
  have by' : yb ≠ w.heap.size := by omega
  clear h hk hr hb hn hS ho hq0
  go_enter Tryz.func96, Tryz.ntmps96
  go_wp2_with (go_at_call 72; refine (in_any _ _ _ _).mono ?_; rw [HM.out]; rintro e w1 ⟨rfl, rfl⟩)
  go_region_held3 (fun w' => w'.cell? ⟨yb, 13, none⟩ = some (.slice (some ⟨go, 0, none⟩) y.O.length capo) ∧ w'.cell? ⟨go, k, none⟩ = some (.bool ob))
    (first | with_reducible exact ⟨i0, i1⟩ | with_reducible exact ⟨h0, h1⟩ | with_reducible exact ⟨f0, f1⟩ | go_keep | (simp only [cell_set_ne _ _ bx, cell_set_ne _ _ by']; with_reducible exact ⟨i0, i1⟩))
    (first
      | (go_at_call 146; refine (rEntries_any (by exact ((nofr _).drew).refAt HREF.out id (fun _ _ => id)) HB.out).mono ?_; rw [← HR.out.es]; rintro e w1 ⟨va, rfl, hv1, hf1⟩
         obtain ⟨ea, ec, rfl, _⟩ := anyRow_len hv1
         have F1 : Hid (Fr (fun _ => False) w w1) := ((nofr _).drew).trans hf1 (fun _ h => h.elim)
         have f0 : w1.cell? ⟨yb, 13, none⟩ = some (.slice (some ⟨go, 0, none⟩) y.O.length capo) := (F1.out.cell (p := ⟨yb, 13, none⟩) hlt id).trans c13
         have f1 : w1.cell? ⟨go, k, none⟩ = some (.bool ob) := (F1.out.cell (p := ⟨go, k, none⟩) hgo id).trans q0
         have B1 : Hid (w1.heap[w.heap.size]? = some (.cells #[.bool false, .int .i64 0, .int .i64 0, .slice none 0 0] 62 (0, 0))) := (hf1.block _ (by simp) id).trans (by show (w.alloc _).heap[w.heap.size]? = _; exact heap_alloc_new _ _)
         clear hf1 hv1)
      | (go_at_call 147; refine (rStable_any (by exact F1.out.refAt HREF.out id (fun _ _ => id)) HB.out).mono ?_; rw [HR.out.stable]; rintro e w2 ⟨rfl, hf2⟩
         have F2 : Hid (Fr (fun _ => False) w w2) := F1.out.trans hf2 (fun _ h => h.elim)
         have h0 : w2.cell? ⟨yb, 13, none⟩ = some (.slice (some ⟨go, 0, none⟩) y.O.length capo) := (F2.out.cell (p := ⟨yb, 13, none⟩) hlt id).trans c13
         have h1 : w2.cell? ⟨go, k, none⟩ = some (.bool ob) := (F2.out.cell (p := ⟨go, k, none⟩) hgo id).trans q0
         have B2 : Hid (w2.heap[w.heap.size]? = some (.cells #[.bool false, .int .i64 0, .int .i64 0, .slice none 0 0] 62 (0, 0))) := (hf2.block _ (lt_of_block B1.out) id).trans B1.out
         clear hf2)
      | (go_at_call 148; refine (rOpened_any (by exact F2.out.refAt HREF.out id (fun _ _ => id)) HO.out HSL.out).mono ?_; rintro e w3 ⟨vb, rfl, hv3, hf3⟩
         obtain ⟨ba, bc, rfl, _⟩ := intRow_len hv3
         have F3 : Hid (Fr (fun _ => False) w w3) := F2.out.trans hf3 (fun _ h => h.elim)
         have V3 : Hid (w3.ownsRow w2.heap.size 3 1 (.slice ba S.length bc) S.length (intCells S)) := hv3
         have i0 : w3.cell? ⟨yb, 13, none⟩ = some (.slice (some ⟨go, 0, none⟩) y.O.length capo) := (F3.out.cell (p := ⟨yb, 13, none⟩) hlt id).trans c13
         have i1 : w3.cell? ⟨go, k, none⟩ = some (.bool ob) := (F3.out.cell (p := ⟨go, k, none⟩) hgo id).trans q0
         have B3 : Hid (w3.heap[w.heap.size]? = some (.cells #[.bool false, .int .i64 0, .int .i64 0, .slice none 0 0] 62 (0, 0))) := (hf3.block _ (lt_of_block B2.out) id).trans B2.out
         have b0 : w3.cell? ⟨w.heap.size, 0, none⟩ = some (.bool false) := by rw [cell_of_cells B3.out]; rfl
         have b1 : w3.cell? ⟨w.heap.size, 1, none⟩ = some (.int .i64 0) := by rw [cell_of_cells B3.out]; rfl
         have b2 : w3.cell? ⟨w.heap.size, 2, none⟩ = some (.int .i64 0) := by rw [cell_of_cells B3.out]; rfl
         have b3 : w3.cell? ⟨w.heap.size, 3, none⟩ = some (.slice none 0 0) := by rw [cell_of_cells B3.out]; rfl
         have bf : ∀ o, w3.frozen? ⟨w.heap.size, o, none⟩ = false := frozen_of_cells B3.out
         clear hf3 hv3))
  go_wp2
  have hb := setCell_cells (setCell_cells (setCell_cells (setCell_cells B3.out 0 (.bool ob)) 1 (.int .i64 s.es.length)) 2 (.int .i64 s.stable)) 3 (.slice ba S.length bc)
  have fs := ((((Fr.refl (fun x => x = w.heap.size) w3).setCell (p := ⟨w.heap.size, 0, none⟩) (.inl rfl) (.bool ob)).setCell (p := ⟨w.heap.size, 1, none⟩) (.inl rfl) (.int .i64 s.es.length)).setCell (p := ⟨w.heap.size, 2, none⟩) (.inl rfl) (.int .i64 s.stable)).setCell (p := ⟨w.heap.size, 3, none⟩) (.inl rfl) (.slice ba S.length bc)
  have hz : w.heap.size < w2.heap.size := lt_of_block B2.out
  refine bodyPost_ret (results_two rfl _ _ _ 62 _ (0, 0) _ rfl hb Tryz.underlying62 rfl info114) rfl ?_
  refine ⟨_, rfl, ?_, F3.out.trans fs (fun x hx => .inr (by omega))⟩
  exact ownsRow_base (fs.ownsRow V3.out (fun x hx e => by have := (V3.out.lt x hx).1; omega)) (by omega)
end

end Go.Proofs.YtkelpcjiediamaaGreat
