/-
  The program's Producer.
-/
import Derived.Test.YtkelpcjiediamaaGreatHerAsk
import Derived.Laws.ResultCell
namespace Go.Proofs.YtkelpcjiediamaaGreat
open Go.RowKit Go.Maps

/-- A struct in a block of its own, and a number, come back. -/
theorem results_two {fn : Func} {p u : Tmp} {ty : TypeId} (h : fn.results = #[.cell p ty, .tmp u]) (tmps : Array Value) (w : World) (g : Nat) (t : TypeId) (cs : Array Value) (fr : Nat × Nat) (d : TypeDesc)
    (hp : tmps.getD p undef = .pointer (some ⟨g, 0, none⟩)) (hg : w.heap[g]? = some (.cells cs t fr))
    (hu : Tryz.prog.underlying ty = some d) (hd : d.isRow = true) (hi : (Tryz.prog.info? ty).map (·.size) = some cs.size) :
    (results fn tmps).run Tryz.prog w = .ok (.tuple #[.agg cs, tmps.getD u undef]) w := by
  have := run_loadVar_mid w g 0 ty cs.toList d (fun j v hv => by rw [cell_of_cells hg]; simpa using hv) hu hd (by simpa using hi)
  rw [results_cell_tmp h, hp]
  simp [asAddr, Result.andThen, this]

theorem cell_set_ne (w : World) {b b' o o' : Nat} (u : Value) (h : b ≠ b') : (w.setCell ⟨b', o', none⟩ u).cell? ⟨b, o, none⟩ = w.cell? ⟨b, o, none⟩ :=
  World.cell?_of_block (Below.heap_setCell w ⟨b', o', none⟩ u b h)

theorem info108 : (Tryz.prog.info? 58).map (·.size) = some 5 := by kernel_rfl

section
variable {w : World} {B xb n : Nat} {h : HS}

theorem psCells_get : ∀ (l : List PS) (k : Nat) (e : PS) (j : Nat), l[k]? = some e → j < 10 → (l.flatMap PS.cs)[k * 10 + j]? = e.cs[j]?
  | [], k, e, j, h, _ => by simp at h
  | x :: r, 0, e, j, h, hj => by
    simp only [List.getElem?_cons_zero, Option.some.injEq] at h
    subst h
    simp only [List.flatMap_cons]
    rw [List.getElem?_append_left (by simp [PS.cs]; omega)]
    simp
  | x :: r, k + 1, e, j, h, hj => by
    simp only [List.getElem?_cons_succ] at h
    have := psCells_get r k e j h hj
    simp only [List.flatMap_cons] at this ⊢
    rw [List.getElem?_append_right (by simp [PS.cs]; omega), ← this]
    congr 1
    simp [PS.cs]; omega

theorem HS.cell_ps {h : HS} {k : Nat} {p : PS} (hp : h.ps[k]? = some p) (j : Nat) (v : Value) (hv : p.cs[j]? = some v) : h.cells.toArray[6 + k * 10 + j]? = some v := by
  have hj : j < 10 := (List.getElem?_eq_some_iff.1 hv).1
  have hk := (List.getElem?_eq_some_iff.1 hp).1
  rw [List.getElem?_toArray, ← hv, ← psCells_get h.ps k p j hp hj]
  unfold HS.cells
  rw [List.getElem?_append_right (by simp; omega), List.getElem?_append_left (by rw [psCells_len]; simp only [List.length_cons, List.length_nil]; omega)]
  congr 1
  simp; omega

theorem HAt.cps (hh : HAt w B xb n h) {k : Nat} {p : PS} (hp : h.ps[k]? = some p) (j : Nat) (v : Value) (hv : p.cs[j]? = some v) : w.cell? ⟨xb, 6 + k * 10 + j, none⟩ = some v := by
  rw [cell_of_cells hh.blk]; exact HS.cell_ps hp j v hv

theorem range_keep {w2 : World} {b o : Nat} {l : List Value} (f : Fr (fun _ => False) w w2) (hb : b < w.heap.size) (hr : ∀ j v, l[j]? = some v → w.cell? ⟨b, o + j, none⟩ = some v) : ∀ j v, l[j]? = some v → w2.cell? ⟨b, o + j, none⟩ = some v :=
  fun j v hv => (f.cell (p := ⟨b, o + j, none⟩) hb id).trans (hr j v hv)

set_option maxRecDepth 100000 in
set_option maxHeartbeats 1600000 in
theorem producer_none (hh : HAt w B xb n h) {m : Int} (hm : ¬ (0 ≤ m ∧ m < h.P)) :
    Calls Tryz.prog 30 #[.pointer (some ⟨xb, 0, none⟩), .int .i64 m] w fun r w' => r = .returned (.tuple #[.agg #[.int .i64 0, .int .i64 0, .int .i64 0, .slice none 0 0, .slice none 0 0], .int .i64 2]) ∧ Fr (fun _ => False) w w' := by
  have HH : Hid (HAt w B xb n h) := hh
  have HM : Hid (decide (0 ≤ m ∧ m < h.P) = false) := decide_eq_false hm
  clear hh hm
  go_enter Tryz.func30, Tryz.ntmps30
  go_wp2_with (go_at_call 64; refine (hasProducer_any (by exact HH.out.after (nofr _)) m).mono ?_; rw [HM.out]; rintro e w1 ⟨rfl, rfl⟩)
  refine bodyPost_ret (results_two rfl _ _ _ 58 _ (0, 0) _ rfl (heap_alloc_new _ _) Tryz.underlying58 rfl info108) rfl ?_
  exact ⟨rfl, nofr _⟩

set_option maxRecDepth 100000 in
set_option maxHeartbeats 1600000 in
theorem producer_down (hh : HAt w B xb n h) {m : Int} (hm : 0 ≤ m ∧ m < h.P) (hu : h.up = false) :
    Calls Tryz.prog 30 #[.pointer (some ⟨xb, 0, none⟩), .int .i64 m] w fun r w' => r = .returned (.tuple #[.agg #[.int .i64 0, .int .i64 0, .int .i64 0, .slice none 0 0, .slice none 0 0], .int .i64 5]) ∧ Fr (fun _ => False) w w' := by
  have HH : Hid (HAt w B xb n h) := hh
  have HM : Hid (decide (0 ≤ m ∧ m < h.P) = true) := decide_eq_true hm
  have c5 := hh.cU
  rw [hu] at c5
  have hlt := lt_of_block hh.blk
  clear hh hm hu
  go_enter Tryz.func30, Tryz.ntmps30
  go_wp2_with (go_at_call 64; refine (hasProducer_any (by exact HH.out.after (nofr _)) m).mono ?_; rw [HM.out]; rintro e w1 ⟨rfl, rfl⟩)
  refine bodyPost_ret (results_two rfl _ _ _ 58 _ (0, 0) _ rfl (heap_alloc_new _ _) Tryz.underlying58 rfl info108) rfl ?_
  exact ⟨rfl, nofr _⟩

set_option maxRecDepth 100000 in
set_option maxHeartbeats 3200000 in
theorem producer_up (hh : HAt w B xb n h) {k : Nat} (hm : (k : Int) < h.P) (hu : h.up = true) {p : PS} (hp : h.ps[k]? = some p) :
    Calls Tryz.prog 30 #[.pointer (some ⟨xb, 0, none⟩), .int .i64 k] w fun r w' => ∃ va vb, r = .returned (.tuple #[.agg #[.int .i64 p.e, .int .i64 p.t, .int .i64 p.s, va, vb], .int .i64 0]) ∧ NewInts w w' va (tiedL p.ties 1 4) ∧ NewInts w w' vb (tiedL p.ties 2 4) ∧ (∀ k, va.ownBlock = some k → vb.ownBlock ≠ some k) ∧ Fr (fun _ => False) w w' := by
  have HH : Hid (HAt w B xb n h) := hh
  have hk6 : k < 6 := by have := hh.hP.2; omega
  have HM : Hid (decide (0 ≤ (k : Int) ∧ (k : Int) < h.P) = true) := decide_eq_true ⟨by omega, hm⟩
  have HR : Hid (∀ j v, p.cs[j]? = some v → w.cell? ⟨xb, 6 + k * 10 + j, none⟩ = some v) := fun j v hv => hh.cps hp j v hv
  have c5 := hh.cU
  rw [hu] at c5
  have hlt := lt_of_block hh.blk
  have hk60 : (0 : Int) ≤ (k : Int) := by omega
  have hk61 : (k : Int) < 6 := by omega
  have e0 : w.cell? ⟨xb, 6 + k * 10, none⟩ = some (.int .i64 p.e) := HR.out 0 _ rfl
  have e1 : w.cell? ⟨xb, 6 + k * 10 + 1, none⟩ = some (.int .i64 p.t) := HR.out 1 _ rfl
  have e2 : w.cell? ⟨xb, 6 + k * 10 + 2, none⟩ = some (.int .i64 p.s) := HR.out 2 _ rfl
  clear hh hm hu hp
  go_enter Tryz.func30, Tryz.ntmps30
  go_wp2_with (go_at_call 64; refine (hasProducer_any (by exact HH.out.after (nofr _)) k).mono ?_; rw [HM.out]; rintro e w1 ⟨rfl, rfl⟩)
  have g0 : (w.alloc (.cells #[.int .i64 0, .int .i64 0, .int .i64 0, .slice none 0 0, .slice none 0 0] 58)).cell? ⟨xb, 6 + k * 10, none⟩ = some (.int .i64 p.e) := (World.cell?_alloc_past _ _ _ hlt).trans e0
  go_region_held3 (fun w' => w'.cell? ⟨xb, 6 + k * 10, none⟩ = some (.int .i64 p.e) ∧ w'.cell? ⟨xb, 6 + k * 10 + 1, none⟩ = some (.int .i64 p.t) ∧ w'.cell? ⟨xb, 6 + k * 10 + 2, none⟩ = some (.int .i64 p.s))
    (first | with_reducible exact ⟨h0, h1, h2⟩ | with_reducible exact ⟨f0, f1, f2⟩ | go_keep | (simp only [cell_set_ne _ _ bx]; with_reducible exact ⟨h0, h1, h2⟩))
    (first
      | (go_at_call 69; have _ := F1.out; refine (tied_any (p := p) (by exact range_keep F1.out hlt HR.out) 2).mono ?_; rintro e w2 ⟨vb, rfl, hv2, hf2⟩
         obtain ⟨ba, bc, rfl, _⟩ := intRow_len hv2
         have F2 : Hid (Fr (fun _ => False) w w2) := F1.out.trans hf2 (fun _ h => h.elim)
         have V2 : Hid (w2.ownsRow w1.heap.size 3 1 (.slice ba (tiedL p.ties 2 4).length bc) (tiedL p.ties 2 4).length (intCells (tiedL p.ties 2 4))) := hv2
         have U2 : Hid (w2.ownsRow (w.heap.size + 1) 3 1 (.slice aa (tiedL p.ties 1 4).length ac) (tiedL p.ties 1 4).length (intCells (tiedL p.ties 1 4))) := hf2.ownsRow V1.out (fun _ _ => id)
         have h0 : w2.cell? ⟨xb, 6 + k * 10, none⟩ = some (.int .i64 p.e) := (F2.out.cell (p := ⟨xb, 6 + k * 10, none⟩) hlt id).trans e0
         have h1 : w2.cell? ⟨xb, 6 + k * 10 + 1, none⟩ = some (.int .i64 p.t) := (F2.out.cell (p := ⟨xb, 6 + k * 10 + 1, none⟩) hlt id).trans e1
         have h2 : w2.cell? ⟨xb, 6 + k * 10 + 2, none⟩ = some (.int .i64 p.s) := (F2.out.cell (p := ⟨xb, 6 + k * 10 + 2, none⟩) hlt id).trans e2
         have B2 : Hid (w2.heap[w.heap.size]? = some (.cells #[.int .i64 0, .int .i64 0, .int .i64 0, .slice none 0 0, .slice none 0 0] 58 (0, 0))) := (hf2.block _ (lt_of_block B1.out) id).trans B1.out
         have b0 : w2.cell? ⟨w.heap.size, 0, none⟩ = some (.int .i64 0) := by rw [cell_of_cells B2.out]; rfl
         have b1 : w2.cell? ⟨w.heap.size, 1, none⟩ = some (.int .i64 0) := by rw [cell_of_cells B2.out]; rfl
         have b2 : w2.cell? ⟨w.heap.size, 2, none⟩ = some (.int .i64 0) := by rw [cell_of_cells B2.out]; rfl
         have b3 : w2.cell? ⟨w.heap.size, 3, none⟩ = some (.slice none 0 0) := by rw [cell_of_cells B2.out]; rfl
         have b4 : w2.cell? ⟨w.heap.size, 4, none⟩ = some (.slice none 0 0) := by rw [cell_of_cells B2.out]; rfl
         have bf : ∀ o, w2.frozen? ⟨w.heap.size, o, none⟩ = false := frozen_of_cells B2.out
         have bx : xb ≠ w.heap.size := by omega
         clear hf2 hv2)
      | (go_at_call 69; refine (tied_any (p := p) (by exact range_keep ((nofr _).drew) hlt HR.out) 1).mono ?_; rintro e w1 ⟨va, rfl, hv1, hf1⟩
         obtain ⟨aa, ac, rfl, _⟩ := intRow_len hv1
         have F1 : Hid (Fr (fun _ => False) w w1) := ((nofr _).drew).trans hf1 (fun _ h => h.elim)
         have V1 : Hid (w1.ownsRow (w.heap.size + 1) 3 1 (.slice aa (tiedL p.ties 1 4).length ac) (tiedL p.ties 1 4).length (intCells (tiedL p.ties 1 4))) := ownsRow_base hv1 (by simp)
         have f0 : w1.cell? ⟨xb, 6 + k * 10, none⟩ = some (.int .i64 p.e) := (F1.out.cell (p := ⟨xb, 6 + k * 10, none⟩) hlt id).trans e0
         have f1 : w1.cell? ⟨xb, 6 + k * 10 + 1, none⟩ = some (.int .i64 p.t) := (F1.out.cell (p := ⟨xb, 6 + k * 10 + 1, none⟩) hlt id).trans e1
         have f2 : w1.cell? ⟨xb, 6 + k * 10 + 2, none⟩ = some (.int .i64 p.s) := (F1.out.cell (p := ⟨xb, 6 + k * 10 + 2, none⟩) hlt id).trans e2
         have B1 : Hid (w1.heap[w.heap.size]? = some (.cells #[.int .i64 0, .int .i64 0, .int .i64 0, .slice none 0 0, .slice none 0 0] 58 (0, 0))) := (hf1.block _ (by simp) id).trans (by show (w.alloc _).heap[w.heap.size]? = _; exact heap_alloc_new _ _)
         clear hf1 hv1))
  go_wp2
  have hb := setCell_cells (setCell_cells (setCell_cells (setCell_cells (setCell_cells B2.out 0 (.int .i64 p.e)) 1 (.int .i64 p.t)) 2 (.int .i64 p.s)) 3 (.slice aa (tiedL p.ties 1 4).length ac)) 4 (.slice ba (tiedL p.ties 2 4).length bc)
  have fs := (((((Fr.refl (fun x => x = w.heap.size) w2).setCell (p := ⟨w.heap.size, 0, none⟩) (.inl rfl) (.int .i64 p.e)).setCell (p := ⟨w.heap.size, 1, none⟩) (.inl rfl) (.int .i64 p.t)).setCell (p := ⟨w.heap.size, 2, none⟩) (.inl rfl) (.int .i64 p.s)).setCell (p := ⟨w.heap.size, 3, none⟩) (.inl rfl) (.slice aa (tiedL p.ties 1 4).length ac)).setCell (p := ⟨w.heap.size, 4, none⟩) (.inl rfl) (.slice ba (tiedL p.ties 2 4).length bc)
  have hz : w.heap.size < w1.heap.size := lt_of_block B1.out
  refine bodyPost_ret (results_two rfl _ _ _ 58 _ (0, 0) _ rfl hb Tryz.underlying58 rfl info108) rfl ?_
  refine ⟨_, _, rfl, ?_, ?_, fun x hx hy => ?_, F2.out.trans fs (fun x hx => .inr (by omega))⟩
  · exact ownsRow_base (fs.ownsRow U2.out (fun x hx e => by have := (U2.out.lt x hx).1; omega)) (by omega)
  · exact ownsRow_base (fs.ownsRow V2.out (fun x hx e => by have := (V2.out.lt x hx).1; omega)) (by omega)
  · have h3 := (V1.out.lt x hx).2
    have h4 := (V2.out.lt x hy).1
    omega
end

end Go.Proofs.YtkelpcjiediamaaGreat
