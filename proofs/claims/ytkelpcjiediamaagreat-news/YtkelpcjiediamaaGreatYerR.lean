/-
  The document's Part of a part that there is; Crash; Restart where nothing was written.
-/
import Derived.Test.YtkelpcjiediamaaGreatYerQ
namespace Go.Proofs.YtkelpcjiediamaaGreat
open Go.RowKit Go.Maps

section
variable {w w' : World} {B yb : Nat} {y : RS}

set_option maxRecDepth 100000 in
set_option maxHeartbeats 3200000 in
theorem ypart_ok (h : YAt w B yb y) {k : Nat} {e : GL} (hk : y.G[k]? = some e) {ob : Bool} (ho : y.O[k]? = some ob) {s : LogS} (hr : Rel s e.L) {n : Nat} {S : List Int} (hS : IsOpened n s S) (hb : e.L.length * 40 ≤ 140737488355328) (hn : (n + 1) * 8 ≤ 140737488355328) :
    Calls Tryz.prog 96 #[.pointer (some ⟨yb, 0, none⟩), .int .i64 k] w fun r w' => ∃ va, r = .returned (.tuple #[.agg #[.bool ob, .int .i64 s.es.length, .int .i64 s.stable, va], .int .i64 0]) ∧ NewInts w w' va S ∧ Fr (fun _ => False) w w' := by
  have hkl := (List.getElem?_eq_some_iff.1 hk).1
  have hkl2 := (List.getElem?_eq_some_iff.1 ho).1
  have hq0 := h.hQ.1
  have hq1 := h.hQ.2.2.1
  have hq2 := h.hQ.2.2.2
  have HM : Hid (decide (0 ≤ (k : Int) ∧ (k : Int) ≤ y.Q - 1) = true) := decide_eq_true ⟨by omega, by omega⟩
  obtain ⟨g, cap, hv, hg, hcap, p0⟩ := h.glog hk
  obtain ⟨go, capo, hvo, hgo, hcapo, q0⟩ := h.gout ho
  have HREF : Hid (RefAt w B e.yb e.u e.L) := h.refs e (List.mem_of_getElem? hk)
  have HR : Hid (Rel s e.L) := hr
  have HB : Hid (e.L.length * 40 ≤ 140737488355328) := hb
  have HO : Hid (Opens e.L S) := hr.opens hS.1 hS.2.2.1 hS.2.2.2
  have HSL : Hid ((S.length + 1) * 8 ≤ 140737488355328) := by have := hS.2.1; show (S.length + 1) * 8 ≤ 140737488355328; omega
  have c1 : w.cell? ⟨yb, 1, none⟩ = some (.int .i64 y.Q) := h.c 1
  have c12 : w.cell? ⟨yb, 12, none⟩ = some y.gv := h.c 12
  have c13 : w.cell? ⟨yb, 13, none⟩ = some y.ov := h.c 13
  rw [hv] at c12
  rw [hvo] at c13
  have hk0 : (0 : Int) ≤ (k : Int) := by omega
  have hk1 : (k : Int) < (y.G.length : Int) := by omega
  have hk2 : (k : Int) < (y.O.length : Int) := by omega
  have hlt := lt_of_block h.blk
  have bx : go ≠ w.heap.size := by omega
  have by' : yb ≠ w.heap.size := by omega
  clear h hk hr hb hn hS ho hq0
  go_enter Tryz.func96, Tryz.ntmps96
  go_wp2_with (go_at_call 72; refine (in_any _ _ _ _).mono ?_; rw [HM.out]; rintro e w1 ⟨rfl, rfl⟩)
  go_region_held3 (fun w' => w'.cell? ⟨yb, 13, none⟩ = some (.slice (some ⟨go, 0, none⟩) y.O.length capo) ∧ w'.cell? ⟨go, k, none⟩ = some (.bool ob))
    (first | with_reducible exact ⟨i0, i1⟩ | with_reducible exact ⟨h0, h1⟩ | with_reducible exact ⟨f0, f1⟩ | go_keep | (simp only [cell_set_ne _ _ bx, cell_set_ne _ _ by']; with_reducible exact ⟨i0, i1⟩))
    (first
      | (go_at_call 146; refine (rEntries_any (by exact ((nofr _).drew).refAt HREF.out id (fun _ _ => id)) HB.out).mono ?_; rw [← HR.out.es]; rintro e w1 ⟨va, rfl, hv1, hf1⟩
         obtain ⟨ea, ec, rfl, _⟩ := anyRow_len hv1
         have F1 : Hid (Fr (fun _ => False) w w1) := ((nofr _).drew).trans hf1 (fun _ h => h.elim)
         have f0 : w1.cell? ⟨yb, 13, none⟩ = some (.slice (some ⟨go, 0, none⟩) y.O.length capo) := (F1.out.cell (p := ⟨yb, 13, none⟩) hlt id).trans c13
         have f1 : w1.cell? ⟨go, k, none⟩ = some (.bool ob) := (F1.out.cell (p := ⟨go, k, none⟩) hgo id).trans q0
         have B1 : Hid (w1.heap[w.heap.size]? = some (.cells #[.bool false, .int .i64 0, .int .i64 0, .slice none 0 0] 62 (0, 0))) := (hf1.block _ (by simp) id).trans (by show (w.alloc _).heap[w.heap.size]? = _; exact heap_alloc_new _ _)
         clear hf1 hv1)
      | (go_at_call 147; refine (rStable_any (by exact F1.out.refAt HREF.out id (fun _ _ => id)) HB.out).mono ?_; rw [HR.out.stable]; rintro e w2 ⟨rfl, hf2⟩
         have F2 : Hid (Fr (fun _ => False) w w2) := F1.out.trans hf2 (fun _ h => h.elim)
         have h0 : w2.cell? ⟨yb, 13, none⟩ = some (.slice (some ⟨go, 0, none⟩) y.O.length capo) := (F2.out.cell (p := ⟨yb, 13, none⟩) hlt id).trans c13
         have h1 : w2.cell? ⟨go, k, none⟩ = some (.bool ob) := (F2.out.cell (p := ⟨go, k, none⟩) hgo id).trans q0
         have B2 : Hid (w2.heap[w.heap.size]? = some (.cells #[.bool false, .int .i64 0, .int .i64 0, .slice none 0 0] 62 (0, 0))) := (hf2.block _ (lt_of_block B1.out) id).trans B1.out
         clear hf2)
      | (go_at_call 148; refine (rOpened_any (by exact F2.out.refAt HREF.out id (fun _ _ => id)) HO.out HSL.out).mono ?_; rintro e w3 ⟨vb, rfl, hv3, hf3⟩
         obtain ⟨ba, bc, rfl, _⟩ := intRow_len hv3
         have F3 : Hid (Fr (fun _ => False) w w3) := F2.out.trans hf3 (fun _ h => h.elim)
         have V3 : Hid (w3.ownsRow w2.heap.size 3 1 (.slice ba S.length bc) S.length (intCells S)) := hv3
         have i0 : w3.cell? ⟨yb, 13, none⟩ = some (.slice (some ⟨go, 0, none⟩) y.O.length capo) := (F3.out.cell (p := ⟨yb, 13, none⟩) hlt id).trans c13
         have i1 : w3.cell? ⟨go, k, none⟩ = some (.bool ob) := (F3.out.cell (p := ⟨go, k, none⟩) hgo id).trans q0
         have B3 : Hid (w3.heap[w.heap.size]? = some (.cells #[.bool false, .int .i64 0, .int .i64 0, .slice none 0 0] 62 (0, 0))) := (hf3.block _ (lt_of_block B2.out) id).trans B2.out
         have b0 : w3.cell? ⟨w.heap.size, 0, none⟩ = some (.bool false) := by rw [cell_of_cells B3.out]; rfl
         have b1 : w3.cell? ⟨w.heap.size, 1, none⟩ = some (.int .i64 0) := by rw [cell_of_cells B3.out]; rfl
         have b2 : w3.cell? ⟨w.heap.size, 2, none⟩ = some (.int .i64 0) := by rw [cell_of_cells B3.out]; rfl
         have b3 : w3.cell? ⟨w.heap.size, 3, none⟩ = some (.slice none 0 0) := by rw [cell_of_cells B3.out]; rfl
         have bf : ∀ o, w3.frozen? ⟨w.heap.size, o, none⟩ = false := frozen_of_cells B3.out
         clear hf3 hv3))
  go_wp2
  have hb := setCell_cells (setCell_cells (setCell_cells (setCell_cells B3.out 0 (.bool ob)) 1 (.int .i64 s.es.length)) 2 (.int .i64 s.stable)) 3 (.slice ba S.length bc)
  have fs := ((((Fr.refl (fun x => x = w.heap.size) w3).setCell (p := ⟨w.heap.size, 0, none⟩) (.inl rfl) (.bool ob)).setCell (p := ⟨w.heap.size, 1, none⟩) (.inl rfl) (.int .i64 s.es.length)).setCell (p := ⟨w.heap.size, 2, none⟩) (.inl rfl) (.int .i64 s.stable)).setCell (p := ⟨w.heap.size, 3, none⟩) (.inl rfl) (.slice ba S.length bc)
  have hz : w.heap.size < w2.heap.size := lt_of_block B2.out
  refine bodyPost_ret (results_two rfl _ _ _ 62 _ (0, 0) _ rfl hb Tryz.underlying62 rfl info114) rfl ?_
  refine ⟨_, rfl, ?_, F3.out.trans fs (fun x hx => .inr (by omega))⟩
  exact ownsRow_base (fs.ownsRow V3.out (fun x hx e => by have := (V3.out.lt x hx).1; omega)) (by omega)
end

end Go.Proofs.YtkelpcjiediamaaGreat
