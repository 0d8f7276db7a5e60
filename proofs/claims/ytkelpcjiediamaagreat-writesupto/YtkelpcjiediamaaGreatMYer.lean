/-
  The table of deeds; Whole, rise, Restart and Journal where nothing was written.
-/
import Derived.Test.YtkelpcjiediamaaGreatMHerR
namespace Go.Proofs.YtkelpcjiediamaaGreat
open Go.RowKit Go.Maps

/-- The table of deeds, over the keeper whose address stands in block b. -/
def dTab (b : Nat) : Array Value := #[.nilFunc, .func (.func 179) #[] #[.pointer (some ⟨b, 0, none⟩)], .func (.func 180) #[] #[.pointer (some ⟨b, 0, none⟩)], .func (.func 181) #[] #[.pointer (some ⟨b, 0, none⟩)], .func (.func 182) #[] #[.pointer (some ⟨b, 0, none⟩)]]

theorem info138 : (Tryz.prog.info? 193).map (·.size) = some 5 := by kernel_rfl

/-- A struct or an array in a block of its own comes back. -/
theorem results_one {fn : Func} {p : Tmp} {ty : TypeId} (h : fn.results = #[.cell p ty]) (tmps : Array Value) (w : World) (g : Nat) (t : TypeId) (cs : Array Value) (fr : Nat × Nat) (d : TypeDesc)
    (hp : tmps.getD p undef = .pointer (some ⟨g, 0, none⟩)) (hg : w.heap[g]? = some (.cells cs t fr))
    (hu : Tryz.prog.underlying ty = some d) (hd : d.isRow = true) (hi : (Tryz.prog.info? ty).map (·.size) = some cs.size) :
    (results fn tmps).run Tryz.prog w = .ok (.agg cs) w := by
  have := run_loadVar_mid w g 0 ty cs.toList d (fun j v hv => by rw [cell_of_cells hg]; simpa using hv) hu hd (by simpa using hi)
  have hp' : tmps[p]?.getD undef = .pointer (some ⟨g, 0, none⟩) := by simpa using hp
  simp [results, h, hp', asAddr, this]

section
variable {w : World} {B xb n : Nat} {h : HS}

set_option maxRecDepth 100000 in
theorem deeds_any (kv : Option Addr) : Calls Tryz.prog 128 #[.pointer kv] w fun r w' => r = .returned (.agg (dTab w.heap.size)) ∧ w'.heap[w.heap.size]? = some (.cells #[.pointer kv] 181 (0, 0)) ∧ Fr (fun _ => False) w w' := by
  have hb : ((w.alloc (.cells #[.pointer kv] 181)).alloc (.cells #[.nilFunc, .nilFunc, .nilFunc, .nilFunc, .nilFunc] 193)).heap[w.heap.size + 1]? = some (.cells #[.nilFunc, .nilFunc, .nilFunc, .nilFunc, .nilFunc] 193 (0, 0)) := by
    have := heap_alloc_new (w.alloc (.cells #[.pointer kv] 181)) (.cells #[.nilFunc, .nilFunc, .nilFunc, .nilFunc, .nilFunc] 193)
    simpa using this
  have hth := there_of_block hb (o := 0) (n := 5) (by simp)
  have HB : Hid (((w.alloc (.cells #[.pointer kv] 181)).alloc (.cells #[.nilFunc, .nilFunc, .nilFunc, .nilFunc, .nilFunc] 193)).heap[w.heap.size + 1]? = some (.cells #[.nilFunc, .nilFunc, .nilFunc, .nilFunc, .nilFunc] 193 (0, 0))) := hb
  have HT : Hid (((w.alloc (.cells #[.pointer kv] 181)).alloc (.cells #[.nilFunc, .nilFunc, .nilFunc, .nilFunc, .nilFunc] 193)).there (w.heap.size + 1) 0 5) := hth
  clear hb hth
  go_enter Tryz.func128, Tryz.ntmps128
  go_wp2_with (refine wpList_store_mid rfl 193 _ _ rfl (w.heap.size + 1) 0 (dTab w.heap.size) rfl rfl HT.out info138 (by simp [dTab, Value.oneCell']) ?_)
  have hb := setCells_block (dTab w.heap.size).toList 0 HB.out
  have fs : Fr (fun _ => False) w _ := Fr.setCells (S := fun _ => False) (b := w.heap.size + 1) (.inr (by omega)) (dTab w.heap.size).toList 0 (((Fr.refl (fun _ => False) w).alloc (.cells #[.pointer kv] 181)).alloc (.cells #[.nilFunc, .nilFunc, .nilFunc, .nilFunc, .nilFunc] 193))
  have f1 : Fr (fun k => k = w.heap.size + 1) (w.alloc (.cells #[.pointer kv] 181)) _ := Fr.setCells (S := fun k => k = w.heap.size + 1) (b := w.heap.size + 1) (.inl rfl) (dTab w.heap.size).toList 0 ((Fr.refl (fun k => k = w.heap.size + 1) _).alloc (.cells #[.nilFunc, .nilFunc, .nilFunc, .nilFunc, .nilFunc] 193))
  refine bodyPost_ret (results_one rfl _ _ _ 193 (dTab w.heap.size) (0, 0) _ rfl hb Tryz.underlying193 rfl info138) rfl ?_
  exact ⟨rfl, (f1.block _ (by simp) (by omega)).trans (heap_alloc_new _ _), fs⟩

theorem isWhole_nil (w : World) : Calls Tryz.prog 177 #[.slice none 0 0] w fun r w' => r = .returned (.bool false) ∧ Fr (fun _ => False) w w' := by
  go_enter Tryz.func177, Tryz.ntmps177
  go_wp2_with fail
  go_quiet (fail)
  go_wp2
  go_ret
  exact ⟨rfl, (Fr.refl _ _).drewN _⟩

set_option maxRecDepth 100000 in
theorem whole_nil (w : World) : Calls Tryz.prog 127 #[.slice none 0 0] w fun r w' => r = .returned (.slice none 0 0) ∧ Fr (fun _ => False) w w' := by
  go_enter Tryz.func127, Tryz.ntmps127
  go_wp2_with fail
  go_loopw [0, 3] (fun a b w' => a = .slice none 0 0 ∧ b = .slice none 0 0 ∧ w' = w) (fun _ _ _ => 0)
  case atStart => exact ⟨rfl, rfl, rfl⟩
  case round =>
    obtain ⟨rfl, rfl, rfl⟩ := hrel
    go_wp2_with (go_at_call 177; refine (isWhole_nil _).mono ?_; rintro e w1 ⟨rfl, hf⟩; have HF : Hid (Fr (fun _ => False) wr w1) := hf; clear hf)
    go_ret
    exact ⟨rfl, HF.out⟩

def HS.risen (h : HS) : HS := { h with up := true }

theorem HS.set_up (h : HS) : h.cells.toArray.setIfInBounds 5 (.bool true) = h.risen.cells.toArray := by
  obtain ⟨P, Q, T, K, jv, jb, up, ps, br, kp, pv, pl, fv, fl⟩ := h
  simp [HS.cells, HS.risen]

theorem HS.set_j (h : HS) : h.cells.toArray.setIfInBounds 4 h.jv = h.cells.toArray := by
  obtain ⟨P, Q, T, K, jv, jb, up, ps, br, kp, pv, pl, fv, fl⟩ := h
  simp [HS.cells]

theorem slice_nil (w : World) : (Instr.slice 99 (.slice none 0 0) none (some (.int .i64 0)) none).run Tryz.prog w = .ok (.slice none 0 0) w := by kernel_rfl

set_option maxRecDepth 100000 in
set_option maxHeartbeats 1600000 in
theorem rise_nil (hh : HAt w B xb n h) (hj : h.jv = .slice none 0 0) :
    Calls Tryz.prog 68 #[.pointer (some ⟨xb, 4, none⟩)] w fun r w' => r = .returned (.tuple #[]) ∧ HAt w' B xb n h.risen ∧ Fr (fun k => k = xb) w w' := by
  have HH : Hid (HAt w B xb n h) := hh
  have HJ : Hid (h.jv = .slice none 0 0) := hj
  have c4 := hh.cJ
  rw [hj] at c4
  have c5 := hh.cU
  have hlt := lt_of_block hh.blk
  have hsl := slice_nil
  clear hh hj
  go_enter Tryz.func68, Tryz.ntmps68
  go_wp2_with (first
    | (go_at_call 127; refine (whole_nil w).mono ?_; rintro e w1 ⟨rfl, hf1⟩
       have F1 : Hid (Fr (fun _ => False) w w1) := hf1
       have B1 : Hid (w1.heap[xb]? = some (.cells h.cells.toArray 111 (0, 0))) := (hf1.block xb hlt id).trans HH.out.blk
       have d4 : w1.cell? ⟨xb, 4, none⟩ = some (.slice none 0 0) := (hf1.cell (p := ⟨xb, 4, none⟩) hlt id).trans c4
       have d5 : w1.cell? ⟨xb, 5, none⟩ = some (.bool h.up) := (hf1.cell (p := ⟨xb, 5, none⟩) hlt id).trans c5
       have df : ∀ o, w1.frozen? ⟨xb, o, none⟩ = false := frozen_of_cells B1.out
       have hz1 : xb < w1.heap.size := Nat.lt_of_lt_of_le hlt hf1.size
       clear hf1)
    | (go_at_call 128; refine (deeds_any _).mono ?_; rintro e w2 ⟨rfl, hb2, hf2⟩
       have S2 : Hid (Fr (fun _ => False) (w1.setCell ⟨xb, 4, none⟩ (.slice none 0 0)) w2) := hf2
       have T2 : Hid ((w2.alloc (.cells #[.nilFunc, .nilFunc, .nilFunc, .nilFunc, .nilFunc] 193)).there w2.heap.size 0 5) := there_of_block (heap_alloc_new _ _) (by simp)
       clear hb2 hf2)
    | (refine wpList_store_mid rfl 193 _ _ rfl w2.heap.size 0 (dTab w1.heap.size) rfl rfl T2.out info138 (by simp [dTab, Value.oneCell']) ?_
       have hW : Fr (fun _ => False) w2 _ := Fr.setCells (S := fun _ => False) (b := w2.heap.size) (.inr (Nat.le_refl _)) (dTab w1.heap.size).toList 0 ((Fr.refl (fun _ => False) w2).alloc (.cells #[.nilFunc, .nilFunc, .nilFunc, .nilFunc, .nilFunc] 193))
       generalize ((w2.alloc (.cells #[.nilFunc, .nilFunc, .nilFunc, .nilFunc, .nilFunc] 193)).setCells w2.heap.size 0 (dTab w1.heap.size).toList) = w3 at hW ⊢
       have S3 : Hid (Fr (fun _ => False) (w1.setCell ⟨xb, 4, none⟩ (.slice none 0 0)) w3) := S2.out.trans hW (fun _ h => h.elim)
       have B3 : Hid (w3.heap[xb]? = some (.cells h.cells.toArray 111 (0, 0))) := by
         refine (S3.out.block xb (by simpa using hz1) id).trans ((setCell_cells B1.out 4 (.slice none 0 0)).trans ?_)
         have := h.set_j
         rw [HJ.out] at this
         rw [this]
       have m5 : w3.cell? ⟨xb, 5, none⟩ = some (.bool h.up) := by rw [cell_of_cells B3.out]; rfl
       have mf : ∀ o, w3.frozen? ⟨xb, o, none⟩ = false := frozen_of_cells B3.out
       clear hW))
  go_loopw [26] (fun i w' => i = .int .i64 0 ∧ w' = w3) (fun _ _ => 0)
  case atStart => exact ⟨rfl, rfl⟩
  case round =>
    obtain ⟨rfl, rfl⟩ := hrel
    go_wp2
    go_end0
    have f1 : Fr (fun k => k = xb) w (w1.setCell ⟨xb, 4, none⟩ (.slice none 0 0)) := (F1.out.mono (fun _ h => h.elim) : Fr (fun k => k = xb) w w1).setCell (p := ⟨xb, 4, none⟩) (.inl rfl) _
    have f2 : Fr (fun k => k = xb) w (wr.setCell ⟨xb, 5, none⟩ (.bool true)) := (f1.trans S3.out (fun _ h => h.elim)).setCell (p := ⟨xb, 5, none⟩) (.inl rfl) _
    refine ⟨rfl, HH.out.put f2 ?_ rfl rfl rfl rfl rfl rfl rfl rfl HH.out.h6, f2⟩
    rw [setCell_cells B3.out, h.set_up]

theorem restart_up (hh : HAt w B xb n h) (hu : h.up = true) :
    Calls Tryz.prog 29 #[.pointer (some ⟨xb, 0, none⟩)] w fun r w' => r = .returned (.int .i64 6) ∧ w = w' := by
  have c5 := hh.cU
  rw [hu] at c5
  clear hh
  go_enter Tryz.func29, Tryz.ntmps29
  go_wp2
  go_ret
  exact ⟨rfl, rfl⟩

theorem restart_nil (hh : HAt w B xb n h) (hu : h.up = false) (hj : h.jv = .slice none 0 0) :
    Calls Tryz.prog 29 #[.pointer (some ⟨xb, 0, none⟩)] w fun r w' => r = .returned (.int .i64 0) ∧ HAt w' B xb n h.risen ∧ Fr (fun k => k = xb) w w' := by
  have HH : Hid (HAt w B xb n h) := hh
  have HJ : Hid (h.jv = .slice none 0 0) := hj
  have c5 := hh.cU
  rw [hu] at c5
  clear hh hj
  go_enter Tryz.func29, Tryz.ntmps29
  go_wp2_with (go_at_call 68; refine (rise_nil HH.out HJ.out).mono ?_; rintro e w1 ⟨rfl, hf1⟩; have H1 : Hid (HAt w1 B xb n h.risen ∧ Fr (fun k => k = xb) w w1) := hf1; clear hf1)
  go_ret
  exact ⟨rfl, H1.out⟩

theorem conv_nil (w : World) : (convert 99 9 (.slice none 0 0)).run Tryz.prog w = .ok (.string ⟨#[]⟩) w := by kernel_rfl

set_option maxRecDepth 100000 in
theorem journal_nil (hh : HAt w B xb n h) (hj : h.jv = .slice none 0 0) :
    Calls Tryz.prog 26 #[.pointer (some ⟨xb, 0, none⟩)] w fun r w' => r = .returned (.string ⟨#[]⟩) ∧ Fr (fun _ => False) w w' := by
  have c4 := hh.cJ
  rw [hj] at c4
  have hcv := conv_nil
  clear hh
  go_enter Tryz.func26, Tryz.ntmps26
  go_wp2
  go_ret
  exact ⟨rfl, Fr.refl _ _⟩
end

end Go.Proofs.YtkelpcjiediamaaGreat

/-
  The document's herald in memory, and what is asked of it where nothing was written.
-/
namespace Go.Proofs.YtkelpcjiediamaaGreat
open Go.RowKit Go.Maps

/-- A record; a marker that is due. -/
structure Rc where
  k : Int
  p : Int
  a : Int
  m : Int
structure Du where
  p : Int
  q : Int
  t : Int
  g : Int
/-- A part's log. -/
structure GL where
  yb : Nat
  u : Value
  L : List Ent

def Rc.cs (r : Rc) : List Value := [.int .i64 r.k, .int .i64 r.p, .int .i64 r.a, .int .i64 r.m]
def Du.cs (r : Du) : List Value := [.int .i64 r.p, .int .i64 r.q, .int .i64 r.t, .int .i64 r.g]

structure RS where
  P : Int
  Q : Int
  T : Int
  K : Int
  dn : Bool
  br : Bool
  kp : Int
  tm : Int
  lv : Value
  L : List Rc
  torn : ByteArray
  dv : Value
  D : List Du
  hv : Value
  H : List Int
  gv : Value
  G : List GL
  ov : Value
  O : List Bool
  nv : Value
  N : List Ms

def RS.cells (y : RS) : Array Value := #[.int .i64 y.P, .int .i64 y.Q, .int .i64 y.T, .int .i64 y.K, .bool y.dn, .bool y.br, .int .i64 y.kp, .int .i64 y.tm, y.lv, .string y.torn, y.dv, y.hv, y.gv, y.ov, y.nv]

structure YAt (w : World) (B yb : Nat) (y : RS) : Prop where
  blk : w.heap[yb]? = some (.cells y.cells 138 (0, 0))
  recs : w.ownsRow B 155 4 y.lv y.L.length (y.L.flatMap Rc.cs)
  dues : w.ownsRow B 204 4 y.dv y.D.length (y.D.flatMap Du.cs)
  heard : w.ownsRow B 3 1 y.hv y.H.length (intCells y.H)
  logs : w.ownsRow B 139 1 y.gv y.G.length (y.G.map fun g => ptr g.yb)
  outs : w.ownsRow B 4 1 y.ov y.O.length (y.O.map Value.bool)
  net : w.ownsRow B 119 5 y.nv y.N.length (y.N.flatMap Ms.cs)
  refs : ∀ g ∈ y.G, RefAt w B g.yb g.u g.L
  hy : B ≤ yb
  hP : y.P = y.H.length ∧ 1 ≤ y.P ∧ y.P ≤ 6
  hQ : y.Q = y.G.length ∧ y.Q = y.O.length ∧ 1 ≤ y.Q ∧ y.Q ≤ 4

section
variable {w w' : World} {B yb : Nat} {y : RS}

theorem YAt.after (h : YAt w B yb y) (f : Fr (fun _ => False) w w') : YAt w' B yb y :=
  ⟨(f.block yb (lt_of_block h.blk) id).trans h.blk, f.ownsRow h.recs (fun _ _ => id), f.ownsRow h.dues (fun _ _ => id), f.ownsRow h.heard (fun _ _ => id), f.ownsRow h.logs (fun _ _ => id), f.ownsRow h.outs (fun _ _ => id), f.ownsRow h.net (fun _ _ => id), fun g hg => f.refAt (h.refs g hg) id (fun _ _ => id), h.hy, h.hP, h.hQ⟩

theorem YAt.c (h : YAt w B yb y) (o : Nat) : w.cell? ⟨yb, o, none⟩ = y.cells[o]? := cell_of_cells h.blk o

theorem in_any (w : World) (m a b : Int) : Calls Tryz.prog 72 #[.int .i64 m, .int .i64 a, .int .i64 b] w fun e w' => e = .returned (.bool (decide (a ≤ m ∧ m ≤ b))) ∧ w = w' := by
  by_cases h1 : a ≤ m
  · by_cases h2 : m ≤ b
    · go_enter Tryz.func72, Tryz.ntmps72
      go_wp2
      go_ret
      exact ⟨by simp [h1, h2], rfl⟩
    · go_enter Tryz.func72, Tryz.ntmps72
      go_wp2
      go_ret
      exact ⟨by simp [h2], rfl⟩
  · go_enter Tryz.func72, Tryz.ntmps72
    go_wp2
    go_ret
    have : decide (a ≤ m) = false := decide_eq_false (by omega)
    exact ⟨by rw [this] <;> rfl, rfl⟩

theorem info128 : (Tryz.prog.info? 157).map (·.size) = some 4 := by kernel_rfl

theorem nil_row {B : Nat} {ty : TypeId} {wd : Nat} {v : Value} {xs : List Value} (h : w.ownsRow B ty wd v 0 xs) : ∃ a cap, v = .slice a 0 cap := by
  obtain ⟨a, cap, e, _⟩ := anyRow_len h
  exact ⟨a, cap, e⟩

set_option maxRecDepth 100000 in
set_option maxHeartbeats 1600000 in
theorem stand_nil (h : YAt w B yb y) (hL : y.L = []) (m : Int) :
    Calls Tryz.prog 105 #[.pointer (some ⟨yb, 0, none⟩), .int .i64 m] w fun r w' => r = .returned (.agg #[.int .i64 0, .int .i64 0, .int .i64 0, .slice none 0 0]) ∧ Fr (fun _ => False) w w' := by
  have c8 : w.cell? ⟨yb, 8, none⟩ = some y.lv := h.c 8
  obtain ⟨la, lc, hl⟩ := nil_row (by have := h.recs; rw [hL] at this; exact this)
  rw [hl] at c8
  have hlt := lt_of_block h.blk
  clear h
  go_enter Tryz.func105, Tryz.ntmps105
  go_wp2_with fail
  go_loopw [6] (fun i w' => i = .int .i64 0 ∧ Fr (fun _ => False) w w' ∧ w'.heap[w.heap.size]? = some (.cells #[.int .i64 0, .int .i64 0, .int .i64 0, .slice none 0 0] 157 (0, 0)) ∧ w'.heap[w.heap.size + 1]? = some (.cells #[.int .i64 0, .int .i64 0, .int .i64 0, .slice none 0 0] 157 (0, 0))) (fun _ _ => 0)
  case atStart => exact ⟨rfl, ((Fr.refl _ _).alloc _).alloc _, ((nofr _).block _ (by simp) id).trans (heap_alloc_new _ _), by have := heap_alloc_new (w.alloc (.cells #[.int .i64 0, .int .i64 0, .int .i64 0, .slice none 0 0] 157)) (.cells #[.int .i64 0, .int .i64 0, .int .i64 0, .slice none 0 0] 157); simpa using this⟩
  case round =>
    obtain ⟨rfl, hf, hb1, hb2⟩ := hrel
    have HF : Hid (Fr (fun _ => False) w wr) := hf
    have B1 : Hid (wr.heap[w.heap.size]? = some (.cells #[.int .i64 0, .int .i64 0, .int .i64 0, .slice none 0 0] 157 (0, 0))) := hb1
    have d8 : wr.cell? ⟨yb, 8, none⟩ = some (.slice la 0 lc) := (hf.cell (p := ⟨yb, 8, none⟩) hlt id).trans c8
    have b0 : wr.cell? ⟨w.heap.size + 1, 0, none⟩ = some (.int .i64 0) := by rw [cell_of_cells hb2]; rfl
    have b1 : wr.cell? ⟨w.heap.size + 1, 1, none⟩ = some (.int .i64 0) := by rw [cell_of_cells hb2]; rfl
    have b2 : wr.cell? ⟨w.heap.size + 1, 2, none⟩ = some (.int .i64 0) := by rw [cell_of_cells hb2]; rfl
    have b3 : wr.cell? ⟨w.heap.size + 1, 3, none⟩ = some (.slice none 0 0) := by rw [cell_of_cells hb2]; rfl
    have a0 : wr.cell? ⟨w.heap.size, 0, none⟩ = some (.int .i64 0) := by rw [cell_of_cells hb1]; rfl
    have a1 : wr.cell? ⟨w.heap.size, 1, none⟩ = some (.int .i64 0) := by rw [cell_of_cells hb1]; rfl
    have a2 : wr.cell? ⟨w.heap.size, 2, none⟩ = some (.int .i64 0) := by rw [cell_of_cells hb1]; rfl
    have a3 : wr.cell? ⟨w.heap.size, 3, none⟩ = some (.slice none 0 0) := by rw [cell_of_cells hb1]; rfl
    have af : ∀ o, wr.frozen? ⟨w.heap.size, o, none⟩ = false := frozen_of_cells hb1
    clear hf hb1 hb2
    go_wp2
    have hb := setCell_cells (setCell_cells (setCell_cells (setCell_cells B1.out 0 (.int .i64 0)) 1 (.int .i64 0)) 2 (.int .i64 0)) 3 (.slice none 0 0)
    refine bodyPost_ret (results_one rfl _ _ _ 157 _ (0, 0) _ rfl hb Tryz.underlying157 rfl info128) rfl ?_
    exact ⟨rfl, (((HF.out.setCell (.inr (Nat.le_refl _)) _).setCell (.inr (Nat.le_refl _)) _).setCell (.inr (Nat.le_refl _)) _).setCell (.inr (Nat.le_refl _)) _⟩

set_option maxRecDepth 100000 in
set_option maxHeartbeats 1600000 in
theorem yproducer_none (h : YAt w B yb y) {m : Int} (hm : ¬ (0 ≤ m ∧ m ≤ y.P - 1)) :
    Calls Tryz.prog 93 #[.pointer (some ⟨yb, 0, none⟩), .int .i64 m] w fun r w' => r = .returned (.tuple #[.agg #[.int .i64 0, .int .i64 0, .int .i64 0, .slice none 0 0, .slice none 0 0], .int .i64 2]) ∧ Fr (fun _ => False) w w' := by
  have HM : Hid (decide (0 ≤ m ∧ m ≤ y.P - 1) = false) := decide_eq_false hm
  have c0 : w.cell? ⟨yb, 0, none⟩ = some (.int .i64 y.P) := h.c 0
  have hlt := lt_of_block h.blk
  have hp1 := h.hP.2.1
  have hp2 := h.hP.2.2
  clear h hm
  go_enter Tryz.func93, Tryz.ntmps93
  go_wp2_with (go_at_call 72; refine (in_any _ _ _ _).mono ?_; rw [HM.out]; rintro e w1 ⟨rfl, rfl⟩)
  refine bodyPost_ret (results_two rfl _ _ _ 58 _ (0, 0) _ rfl (heap_alloc_new _ _) Tryz.underlying58 rfl info108) rfl ?_
  exact ⟨rfl, nofr _⟩

set_option maxRecDepth 100000 in
set_option maxHeartbeats 1600000 in
theorem yproducer_down (h : YAt w B yb y) {m : Int} (hm : 0 ≤ m ∧ m ≤ y.P - 1) (hd : y.dn = true) :
    Calls Tryz.prog 93 #[.pointer (some ⟨yb, 0, none⟩), .int .i64 m] w fun r w' => r = .returned (.tuple #[.agg #[.int .i64 0, .int .i64 0, .int .i64 0, .slice none 0 0, .slice none 0 0], .int .i64 5]) ∧ Fr (fun _ => False) w w' := by
  have HM : Hid (decide (0 ≤ m ∧ m ≤ y.P - 1) = true) := decide_eq_true hm
  have c0 : w.cell? ⟨yb, 0, none⟩ = some (.int .i64 y.P) := h.c 0
  have c4 : w.cell? ⟨yb, 4, none⟩ = some (.bool y.dn) := h.c 4
  rw [hd] at c4
  have hlt := lt_of_block h.blk
  have hp1 := h.hP.2.1
  have hp2 := h.hP.2.2
  clear h hm hd
  go_enter Tryz.func93, Tryz.ntmps93
  go_wp2_with (go_at_call 72; refine (in_any _ _ _ _).mono ?_; rw [HM.out]; rintro e w1 ⟨rfl, rfl⟩)
  refine bodyPost_ret (results_two rfl _ _ _ 58 _ (0, 0) _ rfl (heap_alloc_new _ _) Tryz.underlying58 rfl info108) rfl ?_
  exact ⟨rfl, nofr _⟩

set_option maxRecDepth 100000 in
set_option maxHeartbeats 1600000 in
theorem yproducer_nil (h : YAt w B yb y) {m : Int} (hm : 0 ≤ m ∧ m ≤ y.P - 1) (hd : y.dn = false) (hL : y.L = []) :
    Calls Tryz.prog 93 #[.pointer (some ⟨yb, 0, none⟩), .int .i64 m] w fun r w' => r = .returned (.tuple #[.agg #[.int .i64 0, .int .i64 0, .int .i64 0, .slice none 0 0, .slice none 0 0], .int .i64 0]) ∧ Fr (fun _ => False) w w' := by
  have HM : Hid (decide (0 ≤ m ∧ m ≤ y.P - 1) = true) := decide_eq_true hm
  have H : Hid (YAt w B yb y) := h
  have HL : Hid (y.L = []) := hL
  have c0 : w.cell? ⟨yb, 0, none⟩ = some (.int .i64 y.P) := h.c 0
  have c1 : w.cell? ⟨yb, 1, none⟩ = some (.int .i64 y.Q) := h.c 1
  have c4 : w.cell? ⟨yb, 4, none⟩ = some (.bool y.dn) := h.c 4
  rw [hd] at c4
  have hlt := lt_of_block h.blk
  have hp1 := h.hP.2.1
  have hp2 := h.hP.2.2
  have hq1 := h.hQ.2.2.1
  clear h hm hd hL
  go_enter Tryz.func93, Tryz.ntmps93
  go_wp2_with (first
    | (go_at_call 72; refine (in_any _ _ _ _).mono ?_; rw [HM.out]; rintro e w1 ⟨rfl, rfl⟩)
    | (go_at_call 105; refine (stand_nil (by exact H.out.after (nofr _)) HL.out m).mono ?_; rintro e w2 ⟨rfl, hf2⟩
       have F2 : Hid (Fr (fun _ => False) w w2) := (nofr _).trans hf2 (fun _ h => h.elim)
       have B2 : Hid (w2.heap[w.heap.size]? = some (.cells #[.int .i64 0, .int .i64 0, .int .i64 0, .slice none 0 0, .slice none 0 0] 58 (0, 0))) := (hf2.block _ (by simp) id).trans (heap_alloc_new _ _)
       clear hf2))
  go_loopw [8] (fun i w' => i = .int .i64 0 ∧ Fr (fun _ => False) w2 w' ∧ w'.heap[w2.heap.size]? = some (.cells #[.int .i64 0, .int .i64 0, .int .i64 0, .slice none 0 0] 157 (0, 0)) ∧ w'.heap[w2.heap.size + 1]? = some (.cells #[.int .i64 0, .int .i64 0, .int .i64 0, .slice none 0 0, .slice none 0 0] 58 (0, 0))) (fun _ _ => 0)
  case atStart => exact ⟨rfl, ((Fr.refl _ _).alloc _).alloc _, ((nofr _).block _ (by simp) id).trans (heap_alloc_new _ _), by have := heap_alloc_new (w2.alloc (.cells #[.int .i64 0, .int .i64 0, .int .i64 0, .slice none 0 0] 157)) (.cells #[.int .i64 0, .int .i64 0, .int .i64 0, .slice none 0 0, .slice none 0 0] 58); simpa using this⟩
  case round =>
    obtain ⟨rfl, hf, hb1, hb2⟩ := hrel
    have HF : Hid (Fr (fun _ => False) w wr) := F2.out.trans hf (fun _ h => h.elim)
    have B3 : Hid (wr.heap[w.heap.size]? = some (.cells #[.int .i64 0, .int .i64 0, .int .i64 0, .slice none 0 0, .slice none 0 0] 58 (0, 0))) := (hf.block _ (lt_of_block B2.out) id).trans B2.out
    have d1 : wr.cell? ⟨yb, 1, none⟩ = some (.int .i64 y.Q) := (HF.out.cell (p := ⟨yb, 1, none⟩) hlt id).trans c1
    have s2 : wr.cell? ⟨w2.heap.size, 2, none⟩ = some (.int .i64 0) := by rw [cell_of_cells hb1]; rfl
    have b0 : wr.cell? ⟨w2.heap.size + 1, 0, none⟩ = some (.int .i64 0) := by rw [cell_of_cells hb2]; rfl
    have b1 : wr.cell? ⟨w2.heap.size + 1, 1, none⟩ = some (.int .i64 0) := by rw [cell_of_cells hb2]; rfl
    have b2 : wr.cell? ⟨w2.heap.size + 1, 2, none⟩ = some (.int .i64 0) := by rw [cell_of_cells hb2]; rfl
    have b3 : wr.cell? ⟨w2.heap.size + 1, 3, none⟩ = some (.slice none 0 0) := by rw [cell_of_cells hb2]; rfl
    have b4 : wr.cell? ⟨w2.heap.size + 1, 4, none⟩ = some (.slice none 0 0) := by rw [cell_of_cells hb2]; rfl
    have a0 : wr.cell? ⟨w.heap.size, 0, none⟩ = some (.int .i64 0) := by rw [cell_of_cells B3.out]; rfl
    have a1 : wr.cell? ⟨w.heap.size, 1, none⟩ = some (.int .i64 0) := by rw [cell_of_cells B3.out]; rfl
    have a2 : wr.cell? ⟨w.heap.size, 2, none⟩ = some (.int .i64 0) := by rw [cell_of_cells B3.out]; rfl
    have a3 : wr.cell? ⟨w.heap.size, 3, none⟩ = some (.slice none 0 0) := by rw [cell_of_cells B3.out]; rfl
    have a4 : wr.cell? ⟨w.heap.size, 4, none⟩ = some (.slice none 0 0) := by rw [cell_of_cells B3.out]; rfl
    have af : ∀ o, wr.frozen? ⟨w.heap.size, o, none⟩ = false := frozen_of_cells B3.out
    clear hf hb1 hb2
    go_wp2
    have hb := setCell_cells (setCell_cells (setCell_cells (setCell_cells (setCell_cells B3.out 0 (.int .i64 0)) 1 (.int .i64 0)) 2 (.int .i64 0)) 3 (.slice none 0 0)) 4 (.slice none 0 0)
    refine bodyPost_ret (results_two rfl _ _ _ 58 _ (0, 0) _ rfl hb Tryz.underlying58 rfl info108) rfl ?_
    exact ⟨rfl, ((((HF.out.setCell (.inr (Nat.le_refl _)) _).setCell (.inr (Nat.le_refl _)) _).setCell (.inr (Nat.le_refl _)) _).setCell (.inr (Nat.le_refl _)) _).setCell (.inr (Nat.le_refl _)) _⟩
end

end Go.Proofs.YtkelpcjiediamaaGreat
