/-
  What Entries tells of a log in memory.
-/
import Derived.Test.YtkelpcjiediamaaStable
namespace Go.Proofs.Ytkelpcjiediamaa
open Go.RowKit Go.Maps

theorem entCells_one (l : List Ent) : ∀ u ∈ entCells l, u.oneCell' = true := by
  intro u hu
  simp only [entCells, List.mem_flatMap] at hu
  obtain ⟨e, _, he⟩ := hu
  simp only [Ent.cs, List.mem_cons, List.not_mem_nil, or_false] at he
  rcases he with rfl | rfl | rfl | rfl <;> rfl

set_option maxRecDepth 100000 in
set_option maxHeartbeats 800000 in
theorem clone_any {w : World} {B : Nat} {v : Value} {es : List Ent} (h : w.ownsRow B 69 4 v es.length (entCells es)) (hb : es.length * 40 ≤ 140737488355328) :
    Calls Try.prog 33 #[v] w fun e w' => ∃ v', e = .returned v' ∧ w'.ownsRow w.heap.size 69 4 v' es.length (entCells es) ∧ Fr (fun _ => False) w w' := by
  obtain ⟨i0, hi0, hz0, hz1, hz2⟩ := info_parts info69
  have hnil : ∀ (wx : World) (a : Option Addr) (n c : Nat), (binOp .eql 49 (.slice a n c) (.slice none 0 0)).run Try.prog wx = .ok (.bool a.isNone) wx := fun wx a n c => Lib.run_eql_slice_nil wx 49 69 a n c 0 0 Try.underlying49
  rcases row_form h with ⟨rfl, he⟩ | ⟨g, cap, rfl, hlc, hcm, hBg, hg⟩
  · subst he
    clear h hb
    go_enter Try.func33, Try.ntmps33
    go_wp2
    go_ret
    exact ⟨_, rfl, World.ownsRow_nil _ _ _ _, Fr.refl _ _⟩
  · have H : Hid (w.ownsRow B 69 4 (.slice (some ⟨g, 0, none⟩) es.length cap) es.length (entCells es)) := h
    have HB : Hid (es.length * 40 ≤ 140737488355328) := hb
    have HM : Hid (es.length ≤ maxLen) := Nat.le_trans hlc hcm
    clear h hb hcm
    go_enter Try.func33, Try.ntmps33
    go_wp2_with (at_builtin; refine wpList_append_own_at _ rfl _ _ 49 rfl w.heap.size 69 i0 _ 4 40 Try.underlying49 hi0 hz0 hz1 hz2 rfl (by decide) _ 0 [] rfl (by exact World.ownsRow_made w #[] 0 (Nat.le_refl _) (Nat.zero_le _) rfl) ⟨g, 0, none⟩ es.length cap (entCells es) rfl (by rw [length_entCells, Nat.mul_comm]) (by exact (H.out.alloc _).cells rfl) (entCells_one es) (by simpa using HM.out) (by simpa using HB.out) (by simp) ?_; intro v' w1 hown1 hgrow1 hnil1 hlies1)
    go_ret
    simp only [Nat.zero_add, List.nil_append] at hown1
    exact ⟨_, rfl, hown1, (nofr _).grown hgrow1 (fun k e => by cases e; exact .inr (Nat.le_refl _))⟩

set_option maxRecDepth 100000 in
set_option maxHeartbeats 800000 in
theorem entries_any {w : World} {B lb bm n : Nat} {v : Value} {s : LogS} (h : LogAt w B lb bm v n s) (hb : s.es.length * 40 ≤ 140737488355328) :
    Calls Try.prog 13 #[.pointer (some ⟨lb, 0, none⟩)] w fun e w' => ∃ v', e = .returned v' ∧ w'.ownsRow w.heap.size 69 4 v' s.es.length (entCells s.es) ∧ Fr (fun _ => False) w w' := by
  have c0 : w.cell? ⟨lb, 0, none⟩ = some v := by rw [cell_of_cells h.blk]; rfl
  have H : Hid (LogAt w B lb bm v n s) := h
  have HB : Hid (s.es.length * 40 ≤ 140737488355328) := hb
  clear h hb
  go_enter Try.func13, Try.ntmps13
  go_wp2_with (go_at_call 33; refine (clone_any H.out.row HB.out).mono ?_; rintro e w1 ⟨v', rfl, ho1, hf1⟩)
  go_ret
  exact ⟨_, rfl, ho1, hf1⟩

end Go.Proofs.Ytkelpcjiediamaa
