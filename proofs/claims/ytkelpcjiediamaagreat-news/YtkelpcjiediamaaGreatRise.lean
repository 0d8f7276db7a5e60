/-
  The table of deeds; Whole, rise, Restart and Journal where nothing was written.
-/
import Derived.Test.YtkelpcjiediamaaGreatHerR
namespace Go.Proofs.YtkelpcjiediamaaGreat
open Go.RowKit Go.Maps

/-- The table of deeds, over the keeper whose address stands in block b. -/
def dTab (b : Nat) : Array Value := #[.nilFunc, .func (.func 179) #[] #[.pointer (some ⟨b, 0, none⟩)], .func (.func 180) #[] #[.pointer (some ⟨b, 0, none⟩)], .func (.func 181) #[] #[.pointer (some ⟨b, 0, none⟩)], .func (.func 182) #[] #[.pointer (some ⟨b, 0, none⟩)]]

theorem info138 : (Tryz.prog.info? 193).map (·.size) = some 5 := by kernel_rfl

/-- A struct or an array in a block of its own comes back. -/
theorem results_one {fn : Func} {p : Tmp} {ty : TypeId} (h : fn.results = #[.cell p ty]) (tmps : Array Value) (w : World) (g : Nat) (t : TypeId) (cs : Array Value) (fr : Nat × Nat) (d : TypeDesc)
    (hp : tmps.getD p undef = .pointer (some ⟨g, 0, none⟩)) (hg : w.heap[g]? = some (.cells cs t fr))
    (hu : Tryz.prog.underlying ty = some d) (hd : d.isRow = true) (hi : (Tryz.prog.info? ty).map (·.size) = some cs.size) :
    (results fn tmps).run Tryz.prog w = .ok (.agg cs) w := by
  have := run_loadVar_mid w g 0 ty cs.toList d (fun j v hv => by rw [cell_of_cells hg]; simpa using hv) hu hd (by simpa using hi)
  have hp' : tmps[p]?.getD undef = .pointer (some ⟨g, 0, none⟩) := by simpa using hp
  simp [results, h, hp', asAddr, this]

section
variable {w : World} {B xb n : Nat} {h : HS}

set_option maxRecDepth 100000 in
theorem deeds_any (kv : Option Addr) : Calls Tryz.prog 128 #[.pointer kv] w fun r w' => r = .returned (.agg (dTab w.heap.size)) ∧ w'.heap[w.heap.size]? = some (.cells #[.pointer kv] 181 (0, 0)) ∧ Fr (fun _ => False) w w' := by
  have hb : ((w.alloc (.cells #[.pointer kv] 181)).alloc (.cells #[.nilFunc, .nilFunc, .nilFunc, .nilFunc, .nilFunc] 193)).heap[w.heap.size + 1]? = some (.cells #[.nilFunc, .nilFunc, .nilFunc, .nilFunc, .nilFunc] 193 (0, 0)) := by
    have := heap_alloc_new (w.alloc (.cells #[.pointer kv] 181)) (.cells #[.nilFunc, .nilFunc, .nilFunc, .nilFunc, .nilFunc] 193)
    simpa using this
  have hth := there_of_block hb (o := 0) (n := 5) (by simp)
  have HB : Hid (((w.alloc (.cells #[.pointer kv] 181)).alloc (.cells #[.nilFunc, .nilFunc, .nilFunc, .nilFunc, .nilFunc] 193)).heap[w.heap.size + 1]? = some (.cells #[.nilFunc, .nilFunc, .nilFunc, .nilFunc, .nilFunc] 193 (0, 0))) := hb
  have HT : Hid (((w.alloc (.cells #[.pointer kv] 181)).alloc (.cells #[.nilFunc, .nilFunc, .nilFunc, .nilFunc, .nilFunc] 193)).there (w.heap.size + 1) 0 5) := hth
  clear hb hth
  go_enter Tryz.func128, Tryz.ntmps128
  go_wp2_with (refine wpList_store_mid rfl 193 _ _ rfl (w.heap.size + 1) 0 (dTab w.heap.size) rfl rfl HT.out info138 (by simp [dTab, Value.oneCell']) ?_)
  have hb := setCells_block (dTab w.heap.size).toList 0 HB.out
  have fs : Fr (fun _ => False) w _ := Fr.setCells (S := fun _ => False) (b := w.heap.size + 1) (.inr (by omega)) (dTab w.heap.size).toList 0 (((Fr.refl (fun _ => False) w).alloc (.cells #[.pointer kv] 181)).alloc (.cells #[.nilFunc, .nilFunc, .nilFunc, .nilFunc, .nilFunc] 193))
  have f1 : Fr (fun k => k = w.heap.size + 1) (w.alloc (.cells #[.pointer kv] 181)) _ := Fr.setCells (S := fun k => k = w.heap.size + 1) (b := w.heap.size + 1) (.inl rfl) (dTab w.heap.size).toList 0 ((Fr.refl (fun k => k = w.heap.size + 1) _).alloc (.cells #[.nilFunc, .nilFunc, .nilFunc, .nilFunc, .nilFunc] 193))
  refine bodyPost_ret (results_one rfl _ _ _ 193 (dTab w.heap.size) (0, 0) _ rfl hb Tryz.underlying193 rfl info138) rfl ?_
  exact ⟨rfl, (f1.block _ (by simp) (by omega)).trans (heap_alloc_new _ _), fs⟩

theorem isWhole_nil (w : World) : Calls Tryz.prog 177 #[.slice none 0 0] w fun r w' => r = .returned (.bool false) ∧ Fr (fun _ => False) w w' := by
  go_enter Tryz.func177, Tryz.ntmps177
  go_wp2_with fail
  go_quiet (fail)
  go_wp2
  go_ret
  exact ⟨rfl, (Fr.refl _ _).drewN _⟩

set_option maxRecDepth 100000 in
theorem whole_nil (w : World) : Calls Tryz.prog 127 #[.slice none 0 0] w fun r w' => r = .returned (.slice none 0 0) ∧ Fr (fun _ => False) w w' := by
  go_enter Tryz.func127, Tryz.ntmps127
  go_wp2_with fail
  go_loopw [0, 3] (fun a b w' => a = .slice none 0 0 ∧ b = .slice none 0 0 ∧ w' = w) (fun _ _ _ => 0)
  case atStart => exact ⟨rfl, rfl, rfl⟩
  case round =>
    obtain ⟨rfl, rfl, rfl⟩ := hrel
    go_wp2_with (go_at_call 177; refine (isWhole_nil _).mono ?_; rintro e w1 ⟨rfl, hf⟩; have HF : Hid (Fr (fun _ => False) wr w1) := hf; clear hf)
    go_ret
    exact ⟨rfl, HF.out⟩

def HS.risen (h : HS) : HS := { h with up := true }

theorem HS.set_up (h : HS) : h.cells.toArray.setIfInBounds 5 (.bool true) = h.risen.cells.toArray := by
  obtain ⟨P, Q, T, K, jv, jb, up, ps, br, kp, pv, pl, fv, fl⟩ := h
  simp [HS.cells, HS.risen]

theorem HS.set_j (h : HS) : h.cells.toArray.setIfInBounds 4 h.jv = h.cells.toArray := by
  obtain ⟨P, Q, T, K, jv, jb, up, ps, br, kp, pv, pl, fv, fl⟩ := h
  simp [HS.cells]

theorem slice_nil (w : World) : (Instr.slice 99 (.slice none 0 0) none (some (.int .i64 0)) none).run Tryz.prog w = .ok (.slice none 0 0) w := by kernel_rfl

set_option maxRecDepth 100000 in
set_option maxHeartbeats 1600000 in
theorem rise_nil (hh : HAt w B xb n h) (hj : h.jv = .slice none 0 0) :
    Calls Tryz.prog 68 #[.pointer (some ⟨xb, 4, none⟩)] w fun r w' => r = .returned (.tuple #[]) ∧ HAt w' B xb n h.risen ∧ Fr (fun k => k = xb) w w' := by
  have HH : Hid (HAt w B xb n h) := hh
  have HJ : Hid (h.jv = .slice none 0 0) := hj
  have c4 := hh.cJ
  rw [hj] at c4
  have c5 := hh.cU
  have hlt := lt_of_block hh.blk
  have hsl := slice_nil
  clear hh hj
  go_enter Tryz.func68, Tryz.ntmps68
  go_wp2_with (first
    | (go_at_call 127; refine (whole_nil w).mono ?_; rintro e w1 ⟨rfl, hf1⟩
       have F1 : Hid (Fr (fun _ => False) w w1) := hf1
       have B1 : Hid (w1.heap[xb]? = some (.cells h.cells.toArray 111 (0, 0))) := (hf1.block xb hlt id).trans HH.out.blk
       have d4 : w1.cell? ⟨xb, 4, none⟩ = some (.slice none 0 0) := (hf1.cell (p := ⟨xb, 4, none⟩) hlt id).trans c4
       have d5 : w1.cell? ⟨xb, 5, none⟩ = some (.bool h.up) := (hf1.cell (p := ⟨xb, 5, none⟩) hlt id).trans c5
       have df : ∀ o, w1.frozen? ⟨xb, o, none⟩ = false := frozen_of_cells B1.out
       have hz1 : xb < w1.heap.size := Nat.lt_of_lt_of_le hlt hf1.size
       clear hf1)
    | (go_at_call 128; refine (deeds_any _).mono ?_; rintro e w2 ⟨rfl, hb2, hf2⟩
       have S2 : Hid (Fr (fun _ => False) (w1.setCell ⟨xb, 4, none⟩ (.slice none 0 0)) w2) := hf2
       have T2 : Hid ((w2.alloc (.cells #[.nilFunc, .nilFunc, .nilFunc, .nilFunc, .nilFunc] 193)).there w2.heap.size 0 5) := there_of_block (heap_alloc_new _ _) (by simp)
       clear hb2 hf2)
    | (refine wpList_store_mid rfl 193 _ _ rfl w2.heap.size 0 (dTab w1.heap.size) rfl rfl T2.out info138 (by simp [dTab, Value.oneCell']) ?_
       have hW : Fr (fun _ => False) w2 _ := Fr.setCells (S := fun _ => False) (b := w2.heap.size) (.inr (Nat.le_refl _)) (dTab w1.heap.size).toList 0 ((Fr.refl (fun _ => False) w2).alloc (.cells #[.nilFunc, .nilFunc, .nilFunc, .nilFunc, .nilFunc] 193))
       generalize ((w2.alloc (.cells #[.nilFunc, .nilFunc, .nilFunc, .nilFunc, .nilFunc] 193)).setCells w2.heap.size 0 (dTab w1.heap.size).toList) = w3 at hW ⊢
       have S3 : Hid (Fr (fun _ => False) (w1.setCell ⟨xb, 4, none⟩ (.slice none 0 0)) w3) := S2.out.trans hW (fun _ h => h.elim)
       have B3 : Hid (w3.heap[xb]? = some (.cells h.cells.toArray 111 (0, 0))) := by
         refine (S3.out.block xb (by simpa using hz1) id).trans ((setCell_cells B1.out 4 (.slice none 0 0)).trans ?_)
         have := h.set_j
         rw [HJ.out] at this
         rw [this]
       have m5 : w3.cell? ⟨xb, 5, none⟩ = some (.bool h.up) := by rw [cell_of_cells B3.out]; rfl
       have mf : ∀ o, w3.frozen? ⟨xb, o, none⟩ = false := frozen_of_cells B3.out
       clear hW))
  go_loopw [26] (fun i w' => i = .int .i64 0 ∧ w' = w3) (fun _ _ => 0)
  case atStart => exact ⟨rfl, rfl⟩
  case round =>
    obtain ⟨rfl, rfl⟩ := hrel
    go_wp2
    go_end0
    have f1 : Fr (fun k => k = xb) w (w1.setCell ⟨xb, 4, none⟩ (.slice none 0 0)) := (F1.out.mono (fun _ h => h.elim) : Fr (fun k => k = xb) w w1).setCell (p := ⟨xb, 4, none⟩) (.inl rfl) _
    have f2 : Fr (fun k => k = xb) w (wr.setCell ⟨xb, 5, none⟩ (.bool true)) := (f1.trans S3.out (fun _ h => h.elim)).setCell (p := ⟨xb, 5, none⟩) (.inl rfl) _
    refine ⟨rfl, HH.out.put f2 ?_ rfl rfl rfl rfl rfl rfl rfl rfl HH.out.h6, f2⟩
    rw [setCell_cells B3.out, h.set_up]

theorem restart_up (hh : HAt w B xb n h) (hu : h.up = true) :
    Calls Tryz.prog 29 #[.pointer (some ⟨xb, 0, none⟩)] w fun r w' => r = .returned (.int .i64 6) ∧ w = w' := by
  have c5 := hh.cU
  rw [hu] at c5
  clear hh
  go_enter Tryz.func29, Tryz.ntmps29
  go_wp2
  go_ret
  exact ⟨rfl, rfl⟩

theorem restart_nil (hh : HAt w B xb n h) (hu : h.up = false) (hj : h.jv = .slice none 0 0) :
    Calls Tryz.prog 29 #[.pointer (some ⟨xb, 0, none⟩)] w fun r w' => r = .returned (.int .i64 0) ∧ HAt w' B xb n h.risen ∧ Fr (fun k => k = xb) w w' := by
  have HH : Hid (HAt w B xb n h) := hh
  have HJ : Hid (h.jv = .slice none 0 0) := hj
  have c5 := hh.cU
  rw [hu] at c5
  clear hh hj
  go_enter Tryz.func29, Tryz.ntmps29
  go_wp2_with (go_at_call 68; refine (rise_nil HH.out HJ.out).mono ?_; rintro e w1 ⟨rfl, hf1⟩; have H1 : Hid (HAt w1 B xb n h.risen ∧ Fr (fun k => k = xb) w w1) := hf1; clear hf1)
  go_ret
  exact ⟨rfl, H1.out⟩

theorem conv_nil (w : World) : (convert 99 9 (.slice none 0 0)).run Tryz.prog w = .ok (.string ⟨#[]⟩) w := by kernel_rfl

set_option maxRecDepth 100000 in
theorem journal_nil (hh : HAt w B xb n h) (hj : h.jv = .slice none 0 0) :
    Calls Tryz.prog 26 #[.pointer (some ⟨xb, 0, none⟩)] w fun r w' => r = .returned (.string ⟨#[]⟩) ∧ Fr (fun _ => False) w w' := by
  have c4 := hh.cJ
  rw [hj] at c4
  have hcv := conv_nil
  clear hh
  go_enter Tryz.func26, Tryz.ntmps26
  go_wp2
  go_ret
  exact ⟨rfl, Fr.refl _ _⟩
end

end Go.Proofs.YtkelpcjiediamaaGreat
