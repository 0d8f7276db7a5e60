/-
  The document's herald in memory, and what is asked of it where nothing was written.
-/
import Derived.Test.YtkelpcjiediamaaGreatRise
namespace Go.Proofs.YtkelpcjiediamaaGreat
open Go.RowKit Go.Maps

/-- A record; a marker that is due. -/
structure Rc where
  k : Int
  p : Int
  a : Int
  m : Int
structure Du where
  p : Int
  q : Int
  t : Int
  g : Int
/-- A part's log. -/
structure GL where
  yb : Nat
  u : Value
  L : List Ent

def Rc.cs (r : Rc) : List Value := [.int .i64 r.k, .int .i64 r.p, .int .i64 r.a, .int .i64 r.m]
def Du.cs (r : Du) : List Value := [.int .i64 r.p, .int .i64 r.q, .int .i64 r.t, .int .i64 r.g]

structure RS where
  P : Int
  Q : Int
  T : Int
  K : Int
  dn : Bool
  br : Bool
  kp : Int
  tm : Int
  lv : Value
  L : List Rc
  torn : ByteArray
  dv : Value
  D : List Du
  hv : Value
  H : List Int
  gv : Value
  G : List GL
  ov : Value
  O : List Bool
  nv : Value
  N : List Ms

def RS.cells (y : RS) : Array Value := #[.int .i64 y.P, .int .i64 y.Q, .int .i64 y.T, .int .i64 y.K, .bool y.dn, .bool y.br, .int .i64 y.kp, .int .i64 y.tm, y.lv, .string y.torn, y.dv, y.hv, y.gv, y.ov, y.nv]

structure YAt (w : World) (B yb : Nat) (y : RS) : Prop where
  blk : w.heap[yb]? = some (.cells y.cells 138 (0, 0))
  recs : w.ownsRow B 155 4 y.lv y.L.length (y.L.flatMap Rc.cs)
  dues : w.ownsRow B 204 4 y.dv y.D.length (y.D.flatMap Du.cs)
  heard : w.ownsRow B 3 1 y.hv y.H.length (intCells y.H)
  logs : w.ownsRow B 139 1 y.gv y.G.length (y.G.map fun g => ptr g.yb)
  outs : w.ownsRow B 4 1 y.ov y.O.length (y.O.map Value.bool)
  net : w.ownsRow B 119 5 y.nv y.N.length (y.N.flatMap Ms.cs)
  refs : ∀ g ∈ y.G, RefAt w B g.yb g.u g.L
  hy : B ≤ yb
  hP : y.P = y.H.length ∧ 1 ≤ y.P ∧ y.P ≤ 6
  hQ : y.Q = y.G.length ∧ y.Q = y.O.length ∧ 1 ≤ y.Q ∧ y.Q ≤ 4

section
variable {w w' : World} {B yb : Nat} {y : RS}

theorem YAt.after (h : YAt w B yb y) (f : Fr (fun _ => False) w w') : YAt w' B yb y :=
  ⟨(f.block yb (lt_of_block h.blk) id).trans h.blk, f.ownsRow h.recs (fun _ _ => id), f.ownsRow h.dues (fun _ _ => id), f.ownsRow h.heard (fun _ _ => id), f.ownsRow h.logs (fun _ _ => id), f.ownsRow h.outs (fun _ _ => id), f.ownsRow h.net (fun _ _ => id), fun g hg => f.refAt (h.refs g hg) id (fun _ _ => id), h.hy, h.hP, h.hQ⟩

theorem YAt.c (h : YAt w B yb y) (o : Nat) : w.cell? ⟨yb, o, none⟩ = y.cells[o]? := cell_of_cells h.blk o

theorem in_any (w : World) (m a b : Int) : Calls Tryz.prog 72 #[.int .i64 m, .int .i64 a, .int .i64 b] w fun e w' => e = .returned (.bool (decide (a ≤ m ∧ m ≤ b))) ∧ w = w' := by
  by_cases h1 : a ≤ m
  · by_cases h2 : m ≤ b
    · go_enter Tryz.func72, Tryz.ntmps72
      go_wp2
      go_ret
      exact ⟨by simp [h1, h2], rfl⟩
    · go_enter Tryz.func72, Tryz.ntmps72
      go_wp2
      go_ret
      exact ⟨by simp [h2], rfl⟩
  · go_enter Tryz.func72, Tryz.ntmps72
    go_wp2
    go_ret
    have : decide (a ≤ m) = false := decide_eq_false (by omega)
    exact ⟨by rw [this] <;> rfl, rfl⟩

theorem info128 : (Tryz.prog.info? 157).map (·.size) = some 4 := by kernel_rfl

theorem nil_row {B : Nat} {ty : TypeId} {wd : Nat} {v : Value} {xs : List Value} (h : w.ownsRow B ty wd v 0 xs) : ∃ a cap, v = .slice a 0 cap := by
  obtain ⟨a, cap, e, _⟩ := anyRow_len h
  exact ⟨a, cap, e⟩

set_option maxRecDepth 100000 in
set_option maxHeartbeats 1600000 in
theorem stand_nil (h : YAt w B yb y) (hL : y.L = []) (m : Int) :
    Calls Tryz.prog 105 #[.pointer (some ⟨yb, 0, none⟩), .int .i64 m] w fun r w' => r = .returned (.agg #[.int .i64 0, .int .i64 0, .int .i64 0, .slice none 0 0]) ∧ Fr (fun _ => False) w w' := by
  have c8 : w.cell? ⟨yb, 8, none⟩ = some y.lv := h.c 8
  obtain ⟨la, lc, hl⟩ := nil_row (by have := h.recs; rw [hL] at this; exact this)
  rw [hl] at c8
  have hlt := lt_of_block h.blk
  clear h
  go_enter Tryz.func105, Tryz.ntmps105
  go_wp2_with fail
  go_loopw [6] (fun i w' => i = .int .i64 0 ∧ Fr (fun _ => False) w w' ∧ w'.heap[w.heap.size]? = some (.cells #[.int .i64 0, .int .i64 0, .int .i64 0, .slice none 0 0] 157 (0, 0)) ∧ w'.heap[w.heap.size + 1]? = some (.cells #[.int .i64 0, .int .i64 0, .int .i64 0, .slice none 0 0] 157 (0, 0))) (fun _ _ => 0)
  case atStart => exact ⟨rfl, ((Fr.refl _ _).alloc _).alloc _, ((nofr _).block _ (by simp) id).trans (heap_alloc_new _ _), by have := heap_alloc_new (w.alloc (.cells #[.int .i64 0, .int .i64 0, .int .i64 0, .slice none 0 0] 157)) (.cells #[.int .i64 0, .int .i64 0, .int .i64 0, .slice none 0 0] 157); simpa using this⟩
  case round =>
    obtain ⟨rfl, hf, hb1, hb2⟩ := hrel
    have HF : Hid (Fr (fun _ => False) w wr) := hf
    have B1 : Hid (wr.heap[w.heap.size]? = some (.cells #[.int .i64 0, .int .i64 0, .int .i64 0, .slice none 0 0] 157 (0, 0))) := hb1
    have d8 : wr.cell? ⟨yb, 8, none⟩ = some (.slice la 0 lc) := (hf.cell (p := ⟨yb, 8, none⟩) hlt id).trans c8
    have b0 : wr.cell? ⟨w.heap.size + 1, 0, none⟩ = some (.int .i64 0) := by rw [cell_of_cells hb2]; rfl
    have b1 : wr.cell? ⟨w.heap.size + 1, 1, none⟩ = some (.int .i64 0) := by rw [cell_of_cells hb2]; rfl
    have b2 : wr.cell? ⟨w.heap.size + 1, 2, none⟩ = some (.int .i64 0) := by rw [cell_of_cells hb2]; rfl
    have b3 : wr.cell? ⟨w.heap.size + 1, 3, none⟩ = some (.slice none 0 0) := by rw [cell_of_cells hb2]; rfl
    have a0 : wr.cell? ⟨w.heap.size, 0, none⟩ = some (.int .i64 0) := by rw [cell_of_cells hb1]; rfl
    have a1 : wr.cell? ⟨w.heap.size, 1, none⟩ = some (.int .i64 0) := by rw [cell_of_cells hb1]; rfl
    have a2 : wr.cell? ⟨w.heap.size, 2, none⟩ = some (.int .i64 0) := by rw [cell_of_cells hb1]; rfl
    have a3 : wr.cell? ⟨w.heap.size, 3, none⟩ = some (.slice none 0 0) := by rw [cell_of_cells hb1]; rfl
    have af : ∀ o, wr.frozen? ⟨w.heap.size, o, none⟩ = false := frozen_of_cells hb1
    clear hf hb1 hb2
    go_wp2
    have hb := setCell_cells (setCell_cells (setCell_cells (setCell_cells B1.out 0 (.int .i64 0)) 1 (.int .i64 0)) 2 (.int .i64 0)) 3 (.slice none 0 0)
    refine bodyPost_ret (results_one rfl _ _ _ 157 _ (0, 0) _ rfl hb Tryz.underlying157 rfl info128) rfl ?_
    exact ⟨rfl, (((HF.out.setCell (.inr (Nat.le_refl _)) _).setCell (.inr (Nat.le_refl _)) _).setCell (.inr (Nat.le_refl _)) _).setCell (.inr (Nat.le_refl _)) _⟩

set_option maxRecDepth 100000 in
set_option maxHeartbeats 1600000 in
theorem yproducer_none (h : YAt w B yb y) {m : Int} (hm : ¬ (0 ≤ m ∧ m ≤ y.P - 1)) :
    Calls Tryz.prog 93 #[.pointer (some ⟨yb, 0, none⟩), .int .i64 m] w fun r w' => r = .returned (.tuple #[.agg #[.int .i64 0, .int .i64 0, .int .i64 0, .slice none 0 0, .slice none 0 0], .int .i64 2]) ∧ Fr (fun _ => False) w w' := by
  have HM : Hid (decide (0 ≤ m ∧ m ≤ y.P - 1) = false) := decide_eq_false hm
  have c0 : w.cell? ⟨yb, 0, none⟩ = some (.int .i64 y.P) := h.c 0
  have hlt := lt_of_block h.blk
  have hp1 := h.hP.2.1
  have hp2 := h.hP.2.2
  clear h hm
  go_enter Tryz.func93, Tryz.ntmps93
  go_wp2_with (go_at_call 72; refine (in_any _ _ _ _).mono ?_; rw [HM.out]; rintro e w1 ⟨rfl, rfl⟩)
  refine bodyPost_ret (results_two rfl _ _ _ 58 _ (0, 0) _ rfl (heap_alloc_new _ _) Tryz.underlying58 rfl info108) rfl ?_
  exact ⟨rfl, nofr _⟩

set_option maxRecDepth 100000 in
set_option maxHeartbeats 1600000 in
theorem yproducer_down (h : YAt w B yb y) {m : Int} (hm : 0 ≤ m ∧ m ≤ y.P - 1) (hd : y.dn = true) :
    Calls Tryz.prog 93 #[.pointer (some ⟨yb, 0, none⟩), .int .i64 m] w fun r w' => r = .returned (.tuple #[.agg #[.int .i64 0, .int .i64 0, .int .i64 0, .slice none 0 0, .slice none 0 0], .int .i64 5]) ∧ Fr (fun _ => False) w w' := by
  have HM : Hid (decide (0 ≤ m ∧ m ≤ y.P - 1) = true) := decide_eq_true hm
  have c0 : w.cell? ⟨yb, 0, none⟩ = some (.int .i64 y.P) := h.c 0
  have c4 : w.cell? ⟨yb, 4, none⟩ = some (.bool y.dn) := h.c 4
  rw [hd] at c4
  have hlt := lt_of_block h.blk
  have hp1 := h.hP.2.1
  have hp2 := h.hP.2.2
  clear h hm hd
  go_enter Tryz.func93, Tryz.ntmps93
  go_wp2_with (go_at_call 72; refine (in_any _ _ _ _).mono ?_; rw [HM.out]; rintro e w1 ⟨rfl, rfl⟩)
  refine bodyPost_ret (results_two rfl _ _ _ 58 _ (0, 0) _ rfl (heap_alloc_new _ _) Tryz.underlying58 rfl info108) rfl ?_
  exact ⟨rfl, nofr _⟩

set_option maxRecDepth 100000 in
set_option maxHeartbeats 1600000 in
theorem yproducer_nil (h : YAt w B yb y) {m : Int} (hm : 0 ≤ m ∧ m ≤ y.P - 1) (hd : y.dn = false) (hL : y.L = []) :
    Calls Tryz.prog 93 #[.pointer (some ⟨yb, 0, none⟩), .int .i64 m] w fun r w' => r = .returned (.tuple #[.agg #[.int .i64 0, .int .i64 0, .int .i64 0, .slice none 0 0, .slice none 0 0], .int .i64 0]) ∧ Fr (fun _ => False) w w' := by
  have HM : Hid (decide (0 ≤ m ∧ m ≤ y.P - 1) = true) := decide_eq_true hm
  have H : Hid (YAt w B yb y) := h
  have HL : Hid (y.L = []) := hL
  have c0 : w.cell? ⟨yb, 0, none⟩ = some (.int .i64 y.P) := h.c 0
  have c1 : w.cell? ⟨yb, 1, none⟩ = some (.int .i64 y.Q) := h.c 1
  have c4 : w.cell? ⟨yb, 4, none⟩ = some (.bool y.dn) := h.c 4
  rw [hd] at c4
  have hlt := lt_of_block h.blk
  have hp1 := h.hP.2.1
  have hp2 := h.hP.2.2
  have hq1 := h.hQ.2.2.1
  clear h hm hd hL
  go_enter Tryz.func93, Tryz.ntmps93
  go_wp2_with (first
    | (go_at_call 72; refine (in_any _ _ _ _).mono ?_; rw [HM.out]; rintro e w1 ⟨rfl, rfl⟩)
    | (go_at_call 105; refine (stand_nil (by exact H.out.after (nofr _)) HL.out m).mono ?_; rintro e w2 ⟨rfl, hf2⟩
       have F2 : Hid (Fr (fun _ => False) w w2) := (nofr _).trans hf2 (fun _ h => h.elim)
       have B2 : Hid (w2.heap[w.heap.size]? = some (.cells #[.int .i64 0, .int .i64 0, .int .i64 0, .slice none 0 0, .slice none 0 0] 58 (0, 0))) := (hf2.block _ (by simp) id).trans (heap_alloc_new _ _)
       clear hf2))
  go_loopw [8] (fun i w' => i = .int .i64 0 ∧ Fr (fun _ => False) w2 w' ∧ w'.heap[w2.heap.size]? = some (.cells #[.int .i64 0, .int .i64 0, .int .i64 0, .slice none 0 0] 157 (0, 0)) ∧ w'.heap[w2.heap.size + 1]? = some (.cells #[.int .i64 0, .int .i64 0, .int .i64 0, .slice none 0 0, .slice none 0 0] 58 (0, 0))) (fun _ _ => 0)
  case atStart => exact ⟨rfl, ((Fr.refl _ _).alloc _).alloc _, ((nofr _).block _ (by simp) id).trans (heap_alloc_new _ _), by have := heap_alloc_new (w2.alloc (.cells #[.int .i64 0, .int .i64 0, .int .i64 0, .slice none 0 0] 157)) (.cells #[.int .i64 0, .int .i64 0, .int .i64 0, .slice none 0 0, .slice none 0 0] 58); simpa using this⟩
  case round =>
    obtain ⟨rfl, hf, hb1, hb2⟩ := hrel
    have HF : Hid (Fr (fun _ => False) w wr) := F2.out.trans hf (fun _ h => h.elim)
    have B3 : Hid (wr.heap[w.heap.size]? = some (.cells #[.int .i64 0, .int .i64 0, .int .i64 0, .slice none 0 0, .slice none 0 0] 58 (0, 0))) := (hf.block _ (lt_of_block B2.out) id).trans B2.out
    have d1 : wr.cell? ⟨yb, 1, none⟩ = some (.int .i64 y.Q) := (HF.out.cell (p := ⟨yb, 1, none⟩) hlt id).trans c1
    have s2 : wr.cell? ⟨w2.heap.size, 2, none⟩ = some (.int .i64 0) := by rw [cell_of_cells hb1]; rfl
    have b0 : wr.cell? ⟨w2.heap.size + 1, 0, none⟩ = some (.int .i64 0) := by rw [cell_of_cells hb2]; rfl
    have b1 : wr.cell? ⟨w2.heap.size + 1, 1, none⟩ = some (.int .i64 0) := by rw [cell_of_cells hb2]; rfl
    have b2 : wr.cell? ⟨w2.heap.size + 1, 2, none⟩ = some (.int .i64 0) := by rw [cell_of_cells hb2]; rfl
    have b3 : wr.cell? ⟨w2.heap.size + 1, 3, none⟩ = some (.slice none 0 0) := by rw [cell_of_cells hb2]; rfl
    have b4 : wr.cell? ⟨w2.heap.size + 1, 4, none⟩ = some (.slice none 0 0) := by rw [cell_of_cells hb2]; rfl
    have a0 : wr.cell? ⟨w.heap.size, 0, none⟩ = some (.int .i64 0) := by rw [cell_of_cells B3.out]; rfl
    have a1 : wr.cell? ⟨w.heap.size, 1, none⟩ = some (.int .i64 0) := by rw [cell_of_cells B3.out]; rfl
    have a2 : wr.cell? ⟨w.heap.size, 2, none⟩ = some (.int .i64 0) := by rw [cell_of_cells B3.out]; rfl
    have a3 : wr.cell? ⟨w.heap.size, 3, none⟩ = some (.slice none 0 0) := by rw [cell_of_cells B3.out]; rfl
    have a4 : wr.cell? ⟨w.heap.size, 4, none⟩ = some (.slice none 0 0) := by rw [cell_of_cells B3.out]; rfl
    have af : ∀ o, wr.frozen? ⟨w.heap.size, o, none⟩ = false := frozen_of_cells B3.out
    clear hf hb1 hb2
    go_wp2
    have hb := setCell_cells (setCell_cells (setCell_cells (setCell_cells (setCell_cells B3.out 0 (.int .i64 0)) 1 (.int .i64 0)) 2 (.int .i64 0)) 3 (.slice none 0 0)) 4 (.slice none 0 0)
    refine bodyPost_ret (results_two rfl _ _ _ 58 _ (0, 0) _ rfl hb Tryz.underlying58 rfl info108) rfl ?_
    exact ⟨rfl, ((((HF.out.setCell (.inr (Nat.le_refl _)) _).setCell (.inr (Nat.le_refl _)) _).setCell (.inr (Nat.le_refl _)) _).setCell (.inr (Nat.le_refl _)) _).setCell (.inr (Nat.le_refl _)) _⟩
end

end Go.Proofs.YtkelpcjiediamaaGreat
