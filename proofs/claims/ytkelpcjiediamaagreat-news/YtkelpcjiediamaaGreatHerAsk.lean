/-
  The program's herald: what is asked of it.
-/
import Derived.Test.YtkelpcjiediamaaGreatHer
namespace Go.Proofs.YtkelpcjiediamaaGreat
open Go.RowKit Go.Maps

section
variable {w : World} {B xb n : Nat} {h : HS}

theorem HAt.cP (hh : HAt w B xb n h) : w.cell? ⟨xb, 0, none⟩ = some (.int .i64 h.P) := by rw [cell_of_cells hh.blk]; rfl
theorem HAt.cJ (hh : HAt w B xb n h) : w.cell? ⟨xb, 4, none⟩ = some h.jv := by rw [cell_of_cells hh.blk]; rfl
theorem HAt.cU (hh : HAt w B xb n h) : w.cell? ⟨xb, 5, none⟩ = some (.bool h.up) := by rw [cell_of_cells hh.blk]; rfl
theorem HS.c4 {h : HS} (h6 : h.ps.length = 6) : h.cells.toArray[66]? = some (.bool h.br) ∧ h.cells.toArray[67]? = some (.int .i64 h.kp) ∧ h.cells.toArray[68]? = some h.pv ∧ h.cells.toArray[69]? = some h.fv := by
  obtain ⟨P, Q, T, K, jv, jb, up, ps, br, kp, pv, pl, fv, fl⟩ := h
  obtain ⟨p0, p1, p2, p3, p4, p5, rfl⟩ := six h6
  exact ⟨rfl, rfl, rfl, rfl⟩
theorem HAt.cB (hh : HAt w B xb n h) : w.cell? ⟨xb, 66, none⟩ = some (.bool h.br) := by rw [cell_of_cells hh.blk]; exact (HS.c4 hh.h6).1
theorem HAt.cK (hh : HAt w B xb n h) : w.cell? ⟨xb, 67, none⟩ = some (.int .i64 h.kp) := by rw [cell_of_cells hh.blk]; exact (HS.c4 hh.h6).2.1
theorem HAt.cV (hh : HAt w B xb n h) : w.cell? ⟨xb, 68, none⟩ = some h.pv := by rw [cell_of_cells hh.blk]; exact (HS.c4 hh.h6).2.2.1
theorem HAt.cF (hh : HAt w B xb n h) : w.cell? ⟨xb, 69, none⟩ = some h.fv := by rw [cell_of_cells hh.blk]; exact (HS.c4 hh.h6).2.2.2

theorem not_in {m : Int} (h : ¬ 0 ≤ m) : decide (0 ≤ m) = false := decide_eq_false h

theorem hasProducer_any (hh : HAt w B xb n h) (m : Int) :
    Calls Tryz.prog 64 #[.pointer (some ⟨xb, 0, none⟩), .int .i64 m] w fun e w' => e = .returned (.bool (decide (0 ≤ m ∧ m < h.P))) ∧ w = w' := by
  have c0 := hh.cP
  clear hh
  by_cases h1 : 0 ≤ m
  · by_cases h2 : m < h.P
    · go_enter Tryz.func64, Tryz.ntmps64
      go_wp2
      go_ret
      exact ⟨by simp [h1, h2], rfl⟩
    · go_enter Tryz.func64, Tryz.ntmps64
      go_wp2
      go_ret
      exact ⟨by simp [h2], rfl⟩
  · go_enter Tryz.func64, Tryz.ntmps64
    go_wp2
    go_ret
    exact ⟨by rw [not_in (by omega)] <;> rfl, rfl⟩

theorem hasPart_any (hh : HAt w B xb n h) (m : Int) :
    Calls Tryz.prog 50 #[.pointer (some ⟨xb, 0, none⟩), .int .i64 m] w fun e w' => e = .returned (.bool (decide (0 ≤ m ∧ m < h.pl.length))) ∧ w = w' := by
  have c0 := hh.cV
  obtain ⟨pa, pc, hp, _⟩ := anyRow_len hh.places
  rw [hp] at c0
  clear hh
  by_cases h1 : 0 ≤ m
  · by_cases h2 : m < h.pl.length
    · go_enter Tryz.func50, Tryz.ntmps50
      go_wp2
      go_ret
      exact ⟨by simp [h1, h2], rfl⟩
    · go_enter Tryz.func50, Tryz.ntmps50
      go_wp2
      go_ret
      exact ⟨by simp [h2], rfl⟩
  · go_enter Tryz.func50, Tryz.ntmps50
    go_wp2
    go_ret
    exact ⟨by rw [not_in (by omega)] <;> rfl, rfl⟩

/-- The parts whose tie is at least l. -/
def PS.ties (p : PS) : List Int := [p.a, p.b, p.c, p.d]
def tiedL (ts : List Int) (l : Int) (k : Nat) : List Int := ((List.range k).filter fun i => decide (l ≤ ts.getD i 0)).map Int.ofNat

theorem tiedL_succ (ts : List Int) (l : Int) (k : Nat) : tiedL ts l (k + 1) = tiedL ts l k ++ (if l ≤ ts.getD k 0 then [(k : Int)] else []) := by
  unfold tiedL
  rw [List.range_succ, List.filter_append, List.map_append]
  congr 1
  by_cases hl : l ≤ ts.getD k 0
  · rw [if_pos hl, List.filter_cons_of_pos (by simpa using hl)]; rfl
  · rw [if_neg hl, List.filter_cons_of_neg (by simpa using hl)]; rfl

theorem tiedL_len (ts : List Int) (l : Int) (k : Nat) : (tiedL ts l k).length ≤ k := by
  unfold tiedL
  rw [List.length_map]
  exact Nat.le_trans (List.length_filter_le _ _) (by simp)

theorem index70_0 (w : World) (a b c d : Int) : (Instr.index 100 (.agg #[.int .i64 a, .int .i64 b, .int .i64 c, .int .i64 d]) (.int .i64 0)).run Tryz.prog w = .ok (.int .i64 a) w := by kernel_rfl
theorem index70_1 (w : World) (a b c d : Int) : (Instr.index 100 (.agg #[.int .i64 a, .int .i64 b, .int .i64 c, .int .i64 d]) (.int .i64 1)).run Tryz.prog w = .ok (.int .i64 b) w := by kernel_rfl
theorem index70_2 (w : World) (a b c d : Int) : (Instr.index 100 (.agg #[.int .i64 a, .int .i64 b, .int .i64 c, .int .i64 d]) (.int .i64 2)).run Tryz.prog w = .ok (.int .i64 c) w := by kernel_rfl
theorem index70_3 (w : World) (a b c d : Int) : (Instr.index 100 (.agg #[.int .i64 a, .int .i64 b, .int .i64 c, .int .i64 d]) (.int .i64 3)).run Tryz.prog w = .ok (.int .i64 d) w := by kernel_rfl

theorem index70 (w : World) (p : PS) {k : Nat} (hk : k < 4) : (Instr.index 100 (.agg #[.int .i64 p.a, .int .i64 p.b, .int .i64 p.c, .int .i64 p.d]) (.int .i64 k)).run Tryz.prog w = .ok (.int .i64 (p.ties.getD k 0)) w := by
  match k, hk with
  | 0, _ => exact index70_0 w _ _ _ _
  | 1, _ => exact index70_1 w _ _ _ _
  | 2, _ => exact index70_2 w _ _ _ _
  | 3, _ => exact index70_3 w _ _ _ _

theorem info70 : (Tryz.prog.info? 100).map (·.size) = some 4 := by kernel_rfl

set_option maxRecDepth 100000 in
set_option maxHeartbeats 1600000 in
theorem tied_any {b o : Nat} {p : PS} (hr : ∀ j v, p.cs[j]? = some v → w.cell? ⟨b, o + j, none⟩ = some v) (l : Int) :
    Calls Tryz.prog 69 #[.pointer (some ⟨b, o, none⟩), .int .i64 l] w fun e w' => ∃ v, e = .returned v ∧ NewInts w w' v (tiedL p.ties l 4) ∧ Fr (fun _ => False) w w' := by
  obtain ⟨i0, hi0, hz0, hz1, hz2⟩ := info_parts info3
  have k3 : w.cell? ⟨b, o + 3, none⟩ = some (.int .i64 p.a) := hr 3 _ rfl
  have k4 : w.cell? ⟨b, o + 3 + 1, none⟩ = some (.int .i64 p.b) := hr 4 _ rfl
  have k5 : w.cell? ⟨b, o + 3 + 2, none⟩ = some (.int .i64 p.c) := hr 5 _ rfl
  have k6 : w.cell? ⟨b, o + 3 + 3, none⟩ = some (.int .i64 p.d) := hr 6 _ rfl
  clear hr
  go_enter Tryz.func69, Tryz.ntmps69
  go_wp2_with fail
  go_loopw [5, 12] (fun v i w' => ∃ k : Nat, k ≤ 4 ∧ i = .int .i64 k ∧ NewInts w w' v (tiedL p.ties l k) ∧ Fr (fun _ => False) w w') (fun _ i _ => (4 - intOf i).toNat)
  case atStart => exact ⟨0, by omega, rfl, World.ownsRow_nil _ _ _ _, Fr.refl _ _⟩
  case round =>
    obtain ⟨k, hk, rfl, hv, hfr⟩ := hrel
    have HF : Hid (Fr (fun _ => False) w wr) := hfr
    obtain ⟨va, vc, rfl, hvl⟩ := intRow_len hv
    have HV : Hid (wr.ownsRow w.heap.size 3 1 (.slice va (tiedL p.ties l k).length vc) (tiedL p.ties l k).length (intCells (tiedL p.ties l k))) := hv
    have HL : Hid ((tiedL p.ties l k).length ≤ k) := tiedL_len _ _ _
    have HT : Hid (tiedL p.ties l (k + 1) = tiedL p.ties l k ++ (if l ≤ p.ties.getD k 0 then [(k : Int)] else [])) := tiedL_succ _ _ _
    have hsz := hfr.size
    clear hfr hv hvl
    by_cases hlt : k < 4
    · have hidx := index70 wr p hlt
      generalize p.ties.getD k 0 = x at hidx HT
      have hki : (k : Int) < 4 := by omega
      by_cases hle : l ≤ x
      · have HT2 : Hid (tiedL p.ties l (k + 1) = tiedL p.ties l k ++ [(k : Int)]) := by have := HT.out; rw [if_pos hle] at this; exact this
        clear HT
        go_wp2_with (at_builtin; refine wpList_append_lies _ rfl _ _ 43 rfl w.heap.size 3 i0 _ 1 8 Tryz.underlying43 hi0 hz0 hz1 hz2 rfl (by decide) _ _ (intCells (tiedL p.ties l k)) rfl (by exact HV.out.alloc _) ⟨wr.heap.size, 0, none⟩ 1 1 [.int .i64 k] rfl rfl (World.news_of_block (cs := #[.int .i64 k]) (t := 3) (fr := (0, 0)) (heap_alloc_new _ _)) (by simp [Value.oneCell']) (by decide) (by have := HL.out; simp only [maxLen]; omega) (by have := HL.out; omega) (by simp; omega) (wr.heap.size + 1) (by simp) ?_; intro gg gcap w3 hown3 hgrow3 hat3 hlt3)
        go_roundw
        case rel =>
          have hfr3 : Fr (fun x => Value.ownBlock (.slice va (tiedL p.ties l k).length vc) = some x) wr w3 := ((Fr.refl _ _).alloc _).grown hgrow3 (fun x ex => .inl ex)
          refine ⟨k + 1, by omega, by go_num, ?_, HF.out.trans hfr3 (fun x hx => .inr (HV.out.lt x hx).1)⟩
          show w3.ownsRow _ _ _ _ _ _
          rw [HT2.out]
          simpa [intCells] using hown3
        case measure => simp [intOf]; omega
      · have HT2 : Hid (tiedL p.ties l (k + 1) = tiedL p.ties l k) := by have := HT.out; rw [if_neg hle, List.append_nil] at this; exact this
        clear HT
        go_wp2_with fail
        go_roundw
        case rel => exact ⟨k + 1, by omega, by go_num, by rw [HT2.out]; exact HV.out, HF.out⟩
        case measure => simp [intOf]; omega
    · have hk4 : k = 4 := by omega
      subst hk4
      go_wp2
      go_ret
      exact ⟨_, rfl, HV.out, HF.out⟩
end

end Go.Proofs.YtkelpcjiediamaaGreat
