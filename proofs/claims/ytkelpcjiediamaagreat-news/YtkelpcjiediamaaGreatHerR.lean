/-
  The program's Part of a part that there is; Crash; Restart and Journal where nothing was written.
-/
import Derived.Test.YtkelpcjiediamaaGreatHerQ
namespace Go.Proofs.YtkelpcjiediamaaGreat
open Go.RowKit Go.Maps

/-- The producers whose transactions are open in a log. -/
def IsOpened (n : Nat) (s : LogS) (S : List Int) : Prop := S.Pairwise (· < ·) ∧ S.length ≤ n ∧ (∀ x ∈ S, I64 x) ∧ ∀ x, I64 x → (x ∈ S ↔ ∃ t, s.nw x = some (t, true))

section
variable {w : World} {B xb n : Nat} {h : HS}

set_option maxRecDepth 100000 in
set_option maxHeartbeats 3200000 in
theorem part_ok (hh : HAt w B xb n h) {k : Nat} {p : PL} (hk : h.pl[k]? = some p) (hi : Inv p.s) (hb : p.s.es.length * 40 ≤ 140737488355328) (hn : (n + 1) * 8 ≤ 140737488355328) :
    Calls Tryz.prog 23 #[.pointer (some ⟨xb, 0, none⟩), .int .i64 k] w fun r w' => ∃ va S, r = .returned (.tuple #[.agg #[.bool p.out, .int .i64 p.s.es.length, .int .i64 p.s.stable, va], .int .i64 0]) ∧ IsOpened n p.s S ∧ NewInts w w' va S ∧ Fr (fun _ => False) w w' := by
  have hkl := (List.getElem?_eq_some_iff.1 hk).1
  have HH : Hid (HAt w B xb n h) := hh
  have HM : Hid (decide (0 ≤ (k : Int) ∧ (k : Int) < h.pl.length) = true) := decide_eq_true ⟨by omega, by omega⟩
  obtain ⟨g, cap, hv, hg, hcap, p0, p1⟩ := hh.place hk
  have HLOG : Hid (LogAt w B p.lb p.bm p.v n p.s) := hh.logs p (List.mem_of_getElem? hk)
  have HI : Hid (Inv p.s) := hi
  have HB : Hid (p.s.es.length * 40 ≤ 140737488355328) := hb
  have HN : Hid ((n + 1) * 8 ≤ 140737488355328) := hn
  have c5 := hh.cV
  rw [hv] at c5
  have hk0 : (0 : Int) ≤ (k : Int) := by omega
  have hk1 : (k : Int) < (h.pl.length : Int) := by omega
  have hlt := lt_of_block hh.blk
  have bx : g ≠ w.heap.size := by omega
  clear hh hk hi hb hn
  go_enter Tryz.func23, Tryz.ntmps23
  go_wp2_with (go_at_call 50; refine (hasPart_any (by exact HH.out.after (nofr _)) k).mono ?_; rw [HM.out]; rintro e w1 ⟨rfl, rfl⟩)
  go_region_held3 (fun w' => w'.cell? ⟨g, k * 2, none⟩ = some (.pointer (some ⟨p.lb, 0, none⟩)) ∧ w'.cell? ⟨g, k * 2 + 1, none⟩ = some (.bool p.out))
    (first | with_reducible exact ⟨i0, i1⟩ | with_reducible exact ⟨h0, h1⟩ | with_reducible exact ⟨f0, f1⟩ | go_keep | (simp only [cell_set_ne _ _ bx]; with_reducible exact ⟨i0, i1⟩))
    (first
      | (go_at_call 51; refine (entries_any (by exact ((nofr _).drew).logAt HLOG.out id id (fun _ _ => id)) HB.out).mono ?_; rintro e w1 ⟨va, rfl, hv1, hf1⟩
         obtain ⟨ea, ec, rfl, _⟩ := anyRow_len hv1
         have F1 : Hid (Fr (fun _ => False) w w1) := ((nofr _).drew).trans hf1 (fun _ h => h.elim)
         have f0 : w1.cell? ⟨g, k * 2, none⟩ = some (.pointer (some ⟨p.lb, 0, none⟩)) := (F1.out.cell (p := ⟨g, k * 2, none⟩) hg id).trans p0
         have f1 : w1.cell? ⟨g, k * 2 + 1, none⟩ = some (.bool p.out) := (F1.out.cell (p := ⟨g, k * 2 + 1, none⟩) hg id).trans p1
         have B1 : Hid (w1.heap[w.heap.size]? = some (.cells #[.bool false, .int .i64 0, .int .i64 0, .slice none 0 0] 62 (0, 0))) := (hf1.block _ (by simp) id).trans (by show (w.alloc _).heap[w.heap.size]? = _; exact heap_alloc_new _ _)
         clear hf1 hv1)
      | (go_at_call 59; refine (stable_any (by exact F1.out.logAt HLOG.out id id (fun _ _ => id)) HI.out.wf).mono ?_; rintro e w2 ⟨rfl, hf2⟩
         have F2 : Hid (Fr (fun _ => False) w w2) := F1.out.trans hf2 (fun _ h => h.elim)
         have h0 : w2.cell? ⟨g, k * 2, none⟩ = some (.pointer (some ⟨p.lb, 0, none⟩)) := (F2.out.cell (p := ⟨g, k * 2, none⟩) hg id).trans p0
         have h1 : w2.cell? ⟨g, k * 2 + 1, none⟩ = some (.bool p.out) := (F2.out.cell (p := ⟨g, k * 2 + 1, none⟩) hg id).trans p1
         have B2 : Hid (w2.heap[w.heap.size]? = some (.cells #[.bool false, .int .i64 0, .int .i64 0, .slice none 0 0] 62 (0, 0))) := (hf2.block _ (lt_of_block B1.out) id).trans B1.out
         clear hf2)
      | (go_at_call 60; refine (opened_ask (by exact F2.out.logAt HLOG.out id id (fun _ _ => id)) HN.out).mono ?_; rintro e w3 ⟨vb, S, rfl, hv3, hf3, hs⟩
         obtain ⟨ba, bc, rfl, _⟩ := intRow_len hv3
         have F3 : Hid (Fr (fun _ => False) w w3) := F2.out.trans hf3 (fun _ h => h.elim)
         have HSS : Hid (IsOpened n p.s S) := hs
         have V3 : Hid (w3.ownsRow w2.heap.size 3 1 (.slice ba S.length bc) S.length (intCells S)) := hv3
         have i0 : w3.cell? ⟨g, k * 2, none⟩ = some (.pointer (some ⟨p.lb, 0, none⟩)) := (F3.out.cell (p := ⟨g, k * 2, none⟩) hg id).trans p0
         have i1 : w3.cell? ⟨g, k * 2 + 1, none⟩ = some (.bool p.out) := (F3.out.cell (p := ⟨g, k * 2 + 1, none⟩) hg id).trans p1
         have B3 : Hid (w3.heap[w.heap.size]? = some (.cells #[.bool false, .int .i64 0, .int .i64 0, .slice none 0 0] 62 (0, 0))) := (hf3.block _ (lt_of_block B2.out) id).trans B2.out
         have b0 : w3.cell? ⟨w.heap.size, 0, none⟩ = some (.bool false) := by rw [cell_of_cells B3.out]; rfl
         have b1 : w3.cell? ⟨w.heap.size, 1, none⟩ = some (.int .i64 0) := by rw [cell_of_cells B3.out]; rfl
         have b2 : w3.cell? ⟨w.heap.size, 2, none⟩ = some (.int .i64 0) := by rw [cell_of_cells B3.out]; rfl
         have b3 : w3.cell? ⟨w.heap.size, 3, none⟩ = some (.slice none 0 0) := by rw [cell_of_cells B3.out]; rfl
         have bf : ∀ o, w3.frozen? ⟨w.heap.size, o, none⟩ = false := frozen_of_cells B3.out
         clear hf3 hv3 hs))
  go_wp2
  have hb := setCell_cells (setCell_cells (setCell_cells (setCell_cells B3.out 0 (.bool p.out)) 1 (.int .i64 p.s.es.length)) 2 (.int .i64 p.s.stable)) 3 (.slice ba S.length bc)
  have fs := ((((Fr.refl (fun x => x = w.heap.size) w3).setCell (p := ⟨w.heap.size, 0, none⟩) (.inl rfl) (.bool p.out)).setCell (p := ⟨w.heap.size, 1, none⟩) (.inl rfl) (.int .i64 p.s.es.length)).setCell (p := ⟨w.heap.size, 2, none⟩) (.inl rfl) (.int .i64 p.s.stable)).setCell (p := ⟨w.heap.size, 3, none⟩) (.inl rfl) (.slice ba S.length bc)
  have hz : w.heap.size < w2.heap.size := lt_of_block B2.out
  refine bodyPost_ret (results_two rfl _ _ _ 62 _ (0, 0) _ rfl hb Tryz.underlying62 rfl info114) rfl ?_
  refine ⟨_, S, rfl, HSS.out, ?_, F3.out.trans fs (fun x hx => .inr (by omega))⟩
  exact ownsRow_base (fs.ownsRow V3.out (fun x hx e => by have := (V3.out.lt x hx).1; omega)) (by omega)

theorem crash_any (hh : HAt w B xb n h) :
    Calls Tryz.prog 44 #[.pointer (some ⟨xb, 0, none⟩)] w fun r w' => r = .returned (.int .i64 (if h.up then 0 else 5)) ∧ HAt w' B xb n (if h.up then h.fallen else h) ∧ Fr (fun k => k = xb) w w' := by
  have HH : Hid (HAt w B xb n h) := hh
  have c5 := hh.cU
  clear hh
  cases hu : h.up
  · rw [hu] at c5
    go_enter Tryz.func44, Tryz.ntmps44
    go_wp2
    go_ret
    exact ⟨rfl, HH.out, Fr.refl _ _⟩
  · rw [hu] at c5
    go_enter Tryz.func44, Tryz.ntmps44
    go_wp2_with (go_at_call 104; refine (fall_any HH.out).mono ?_; rintro e w1 ⟨rfl, hf1⟩; have H1 : Hid (HAt w1 B xb n h.fallen ∧ Fr (fun k => k = xb) w w1) := hf1; clear hf1)
    go_ret
    exact ⟨rfl, H1.out⟩
end

end Go.Proofs.YtkelpcjiediamaaGreat
