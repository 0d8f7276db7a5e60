/-
  The document's Crash, and its Restart where nothing was written.
-/
import Derived.Test.YtkelpcjiediamaaGreatYerR
import Derived.Test.YtkelpcjiediamaaGreatAskP
namespace Go.Proofs.YtkelpcjiediamaaGreat
open Go.RowKit Go.Maps

section
variable {w w' : World} {B yb : Nat} {y : RS}

theorem row_ne_blk {ty : TypeId} {wd : Nat} {v : Value} {n : Nat} {xs : List Value} {b : Nat} {cs : Array Value} {t : TypeId} {fr : Nat × Nat} (h : w.ownsRow B ty wd v n xs) (hb : w.heap[b]? = some (.cells cs t fr)) (hne : ty ≠ t) : v.ownBlock ≠ some b := fun e => by
  have h1 := tag_row h e
  rw [tag_cells hb] at h1
  exact hne h1.symm

theorem YAt.ne_ref (h : YAt w B yb y) {g : GL} (hg : g ∈ y.G) : ¬ refFoot g.yb g.u yb := fun e => by
  have h0 := tag_cells h.blk
  rcases (h.refs g hg).tags e with h1 | h1 <;> rw [h0] at h1 <;> cases h1

/-- The herald's own block is written, nothing else. -/
theorem YAt.put {y' : RS} (h : YAt w B yb y) (f : Fr (fun k => k = yb) w w') (hb : w'.heap[yb]? = some (.cells y'.cells 138 (0, 0))) (h1 : y'.lv = y.lv) (h2 : y'.L = y.L) (h3 : w'.ownsRow B 204 4 y'.dv y'.D.length (y'.D.flatMap Du.cs)) (h5 : y'.hv = y.hv) (h6 : y'.H = y.H) (h7 : y'.gv = y.gv) (h8 : y'.G = y.G) (h9 : y'.ov = y.ov) (h10 : y'.O = y.O) (h11 : y'.nv = y.nv) (h12 : y'.N = y.N) (h13 : y'.P = y.P) (h14 : y'.Q = y.Q) : YAt w' B yb y' :=
  ⟨hb, by rw [h1, h2]; exact f.ownsRow h.recs (fun k hk e => row_ne_blk h.recs h.blk (by decide) (by subst e; exact hk)), h3, by rw [h5, h6]; exact f.ownsRow h.heard (fun k hk e => row_ne_blk h.heard h.blk (by decide) (by subst e; exact hk)), by rw [h7, h8]; exact f.ownsRow h.logs (fun k hk e => row_ne_blk h.logs h.blk (by decide) (by subst e; exact hk)),
   by rw [h9, h10]; exact f.ownsRow h.outs (fun k hk e => row_ne_blk h.outs h.blk (by decide) (by subst e; exact hk)), by rw [h11, h12]; exact f.ownsRow h.net (fun k hk e => row_ne_blk h.net h.blk (by decide) (by subst e; exact hk)),
   fun g hg => by rw [h8] at hg; exact (h.refs g hg).stay f (fun k e hf => h.ne_ref hg (by subst e; exact hf)), h.hy, by rw [h13, h6]; exact h.hP, by rw [h14, h8, h10]; exact h.hQ⟩

def RS.crashed (y : RS) : RS := if y.dn then y else { y with dn := true, br := false }

set_option maxRecDepth 100000 in
theorem ycrash_any (h : YAt w B yb y) : Calls Tryz.prog 45 #[.pointer (some ⟨yb, 0, none⟩)] w fun r w' => r = .returned (.int .i64 (if y.dn then 5 else 0)) ∧ YAt w' B yb y.crashed ∧ Fr (fun k => k = yb) w w' := by
  have H : Hid (YAt w B yb y) := h
  have c4 : w.cell? ⟨yb, 4, none⟩ = some (.bool y.dn) := h.c 4
  have c5 : w.cell? ⟨yb, 5, none⟩ = some (.bool y.br) := h.c 5
  have hf : ∀ o, w.frozen? ⟨yb, o, none⟩ = false := frozen_of_cells h.blk
  clear h
  cases hd : y.dn
  · rw [hd] at c4
    go_enter Tryz.func45, Tryz.ntmps45
    go_wp2
    go_ret
    have fr : Fr (fun k => k = yb) w ((w.setCell ⟨yb, 4, none⟩ (.bool true)).setCell ⟨yb, 5, none⟩ (.bool false)) := ((Fr.refl (fun k => k = yb) w).setCell (p := ⟨yb, 4, none⟩) (.inl rfl) _).setCell (p := ⟨yb, 5, none⟩) (.inl rfl) _
    have e : y.crashed = { y with dn := true, br := false } := by simp [RS.crashed, hd]
    rw [e]
    refine ⟨rfl, H.out.put fr (setCell_cells (setCell_cells H.out.blk 4 (.bool true)) 5 (.bool false)) rfl rfl ?_ rfl rfl rfl rfl rfl rfl rfl rfl rfl rfl, fr⟩
    exact fr.ownsRow H.out.dues (fun k hk e => row_ne_blk H.out.dues H.out.blk (by decide) (by subst e; exact hk))
  · rw [hd] at c4
    go_enter Tryz.func45, Tryz.ntmps45
    go_wp2
    go_ret
    have e : y.crashed = y := by simp [RS.crashed, hd]
    rw [e]
    exact ⟨rfl, H.out, Fr.refl _ _⟩

theorem yrestart_up (h : YAt w B yb y) (hd : y.dn = false) : Calls Tryz.prog 46 #[.pointer (some ⟨yb, 0, none⟩)] w fun r w' => r = .returned (.int .i64 6) ∧ w = w' := by
  have c4 : w.cell? ⟨yb, 4, none⟩ = some (.bool y.dn) := h.c 4
  rw [hd] at c4
  clear h
  go_enter Tryz.func46, Tryz.ntmps46
  go_wp2
  go_ret
  exact ⟨rfl, rfl⟩

/-- .. taken up, where there is no record. -/
def RS.risen (y : RS) (H : List Int) : RS := { y with dn := false, torn := ⟨#[]⟩, dv := .slice none 0 0, D := [], H := H }

set_option maxRecDepth 100000 in
set_option maxHeartbeats 1600000 in
theorem yrestart_nil (h : YAt w B yb y) (hd : y.dn = true) (hL : y.L = []) :
    Calls Tryz.prog 46 #[.pointer (some ⟨yb, 0, none⟩)] w fun r w' => r = .returned (.int .i64 0) ∧ (∃ H', YAt w' B yb (y.risen H')) ∧ Fr (fun k => k = yb ∨ y.hv.ownBlock = some k) w w' := by
  have H : Hid (YAt w B yb y) := h
  have HL : Hid (y.L = []) := hL
  have c4 : w.cell? ⟨yb, 4, none⟩ = some (.bool y.dn) := h.c 4
  have c9 : w.cell? ⟨yb, 9, none⟩ = some (.string y.torn) := h.c 9
  have c10 : w.cell? ⟨yb, 10, none⟩ = some y.dv := h.c 10
  have hf : ∀ o, w.frozen? ⟨yb, o, none⟩ = false := frozen_of_cells h.blk
  rw [hd] at c4
  have hp1 := h.hP.2.1
  have hp2 := h.hP.2.2
  clear h hd hL
  go_enter Tryz.func46, Tryz.ntmps46
  go_wp2_with fail
  go_loopw [3] (fun i w' => ∃ k : Nat, (k : Int) ≤ y.P ∧ i = .int .i64 k ∧ (∃ H', YAt w' B yb (y.risen H')) ∧ Fr (fun k => k = yb ∨ y.hv.ownBlock = some k) w w') (fun i _ => (y.P - intOf i).toNat)
  case atStart =>
    have fr : Fr (fun k => k = yb) w (((w.setCell ⟨yb, 4, none⟩ (.bool false)).setCell ⟨yb, 9, none⟩ (.string ⟨#[]⟩)).setCell ⟨yb, 10, none⟩ (.slice none 0 0)) := (((Fr.refl (fun k => k = yb) w).setCell (p := ⟨yb, 4, none⟩) (.inl rfl) _).setCell (p := ⟨yb, 9, none⟩) (.inl rfl) _).setCell (p := ⟨yb, 10, none⟩) (.inl rfl) _
    refine ⟨0, by omega, rfl, ⟨y.H, H.out.put fr (setCell_cells (setCell_cells (setCell_cells H.out.blk 4 (.bool false)) 9 (.string ⟨#[]⟩)) 10 (.slice none 0 0)) rfl rfl (World.ownsRow_nil _ _ _ _) rfl rfl rfl rfl rfl rfl rfl rfl rfl rfl⟩, fr.mono (fun k hk => .inl (.inl hk))⟩
  case round =>
    obtain ⟨k, hk, rfl, ⟨H', hy⟩, hfr⟩ := hrel
    have HY : Hid (YAt wr B yb (y.risen H')) := hy
    have HF : Hid (Fr (fun k => k = yb ∨ y.hv.ownBlock = some k) w wr) := hfr
    have d0 : wr.cell? ⟨yb, 0, none⟩ = some (.int .i64 y.P) := hy.c 0
    have d7 : wr.cell? ⟨yb, 7, none⟩ = some (.int .i64 y.tm) := hy.c 7
    have d11 : wr.cell? ⟨yb, 11, none⟩ = some y.hv := hy.c 11
    have hPH : y.P = H'.length := hy.hP.1
    have hz := lt_of_block hy.blk
    clear hfr
    by_cases hlt : (k : Int) < y.P
    · have hk2 : k < H'.length := by omega
      rcases hy.heard.2 with ⟨hv, h0⟩ | ⟨g, cap, cur, hv, hb, hg, h1, h2, _⟩
      · have : H'.length = 0 := h0
        omega
      · have hv' : y.hv = .slice (some ⟨g, 0, none⟩) H'.length cap := hv
        have HV : Hid (y.hv = .slice (some ⟨g, 0, none⟩) H'.length cap) := hv'
        rw [hv'] at d11
        have hgy : g ≠ yb := fun e => row_ne_blk hy.heard hy.blk (by decide) (by rw [hv, e]; rfl)
        have hgl := lt_of_block hg
        have hrow := hy.heard
        rw [hv] at hrow
        have HROW : Hid (wr.ownsRow B 3 1 (.slice (some ⟨g, 0, none⟩) H'.length cap) H'.length (intCells H')) := hrow
        obtain ⟨x, hx⟩ : ∃ x, H'[k]? = some x := ⟨_, List.getElem?_eq_getElem hk2⟩
        have dk : wr.cell? ⟨g, k, none⟩ = some (.int .i64 x) := by
          have := hrow.cells (g := g) rfl k (.int .i64 x) (by unfold intCells; rw [List.getElem?_map]; show Option.map _ (H'[k]?) = _; rw [hx]; rfl)
          rw [Addr.add_lit] at this
          simpa using this
        have fk : ∀ o, wr.frozen? ⟨g, o, none⟩ = false := frozen_of_cells hg
        have HG : Hid (wr.heap[g]? = some (.cells cur 3 (0, 0))) := hg
        have hki : (k : Int) < (H'.length : Int) := by omega
        have hk0 : (0 : Int) ≤ (k : Int) := by omega
        clear hy hrow hv hv' h1 h2 hx hPH hb hg
        go_wp2_with fail
        go_region_held3 (fun w' => w'.cell? ⟨yb, 7, none⟩ = some (.int .i64 y.tm) ∧ w'.cell? ⟨yb, 11, none⟩ = some (.slice (some ⟨g, 0, none⟩) H'.length cap))
          (first | go_keep | (simp only [cell_set_ne _ _ (Ne.symm hgy), World.cell?_drew]; with_reducible exact ⟨d7, d11⟩))
          (fail)
        have hrow2 := ownsRow_set HROW.out (j := k) (by simpa using hk2) (.int .i64 y.tm)
        have fg : Fr (fun q => q = g) wr (wr.setCell ⟨g, k, none⟩ (.int .i64 y.tm)).drew := ((Fr.refl (fun q => q = g) wr).setCell (p := ⟨g, k, none⟩) (.inl rfl) _).drew
        have HY2 : Hid (YAt (wr.setCell ⟨g, k, none⟩ (.int .i64 y.tm)).drew B yb (y.risen (H'.set k y.tm))) := by
          have hy := HY.out
          refine ⟨(fg.block yb hz (fun e => hgy e.symm)).trans hy.blk, fg.ownsRow hy.recs (fun q hq e => row_ne_blk hy.recs HG.out (by decide) (by subst e; exact hq)), World.ownsRow_nil _ _ _ _, ?_, fg.ownsRow hy.logs (fun q hq e => row_ne_blk hy.logs HG.out (by decide) (by subst e; exact hq)), fg.ownsRow hy.outs (fun q hq e => row_ne_blk hy.outs HG.out (by decide) (by subst e; exact hq)), fg.ownsRow hy.net (fun q hq e => row_ne_blk hy.net HG.out (by decide) (by subst e; exact hq)), fun r hr => (hy.refs r hr).stay fg (fun q e hf => ?_), hy.hy, ?_, hy.hQ⟩
          · show (wr.setCell ⟨g, k, none⟩ (.int .i64 y.tm)).drew.ownsRow B 3 1 y.hv (H'.set k y.tm).length (intCells (H'.set k y.tm))
            rw [HV.out, List.length_set, show intCells (H'.set k y.tm) = (intCells H').set k (.int .i64 y.tm) from List.map_set]
            exact (Fr.dr _).ownsRow hrow2 (fun _ _ => id)
          · have h0 := tag_cells HG.out
            subst e
            rcases (hy.refs r hr).tags hf with h1 | h1 <;> rw [h0] at h1 <;> cases h1
          · show y.P = ((H'.set k y.tm).length : Int) ∧ _
            rw [List.length_set]
            exact hy.hP
        have HF2 : Hid (Fr (fun k => k = yb ∨ y.hv.ownBlock = some k) w (wr.setCell ⟨g, k, none⟩ (.int .i64 y.tm)).drew) := HF.out.trans fg (fun q hq => .inl (.inr (by rw [HV.out, hq]; rfl)))
        clear hrow2 fg
        go_wp2_with (go_at_call 105; refine (stand_nil (y := y.risen (H'.set k y.tm)) (by exact HY2.out) HL.out _).mono ?_; rintro e w2 ⟨rfl, hf2⟩; have HF3 : Hid (Fr (fun _ => False) (wr.setCell ⟨g, k, none⟩ (.int .i64 y.tm)).drew w2) := hf2; clear hf2)
        go_roundw
        case rel => exact ⟨k + 1, by omega, by go_num, ⟨_, HY2.out.after (HF3.out.alloc _)⟩, HF2.out.trans (HF3.out.alloc _) (fun _ h => h.elim)⟩
        case measure => simp [intOf]; omega
    · clear hy
      go_wp2
      go_ret
      exact ⟨rfl, ⟨_, HY.out⟩, HF.out⟩
end

end Go.Proofs.YtkelpcjiediamaaGreat
