/-
  What put does to a log in memory: one entry more.
-/
import Derived.Test.YtkelpcjiediamaaOpen
import Derived.Deep.RegionLaw
namespace Go.Proofs.Ytkelpcjiediamaa
open Go.RowKit Go.Maps
attribute [local go_sem ↓] Go.wp_at_zero Go.wp_at_succ

theorem info69 : (Try.prog.info? 69).map (fun i => (i.zero, i.size, i.bytes)) = some (some (.agg #[.int .i64 0, .int .i64 0, .int .i64 0, .string ⟨#[]⟩]), 4, 40) := by kernel_rfl

def LogS.put (s : LogS) (x : Ent) : LogS := { s with es := s.es ++ [x] }

theorem heap_alloc_new2 (w : World) (o o' : Obj) : ((w.alloc o).alloc o').drew.heap[w.heap.size + 1]? = some o' := by
  have := heap_alloc_new (w.alloc o) o'
  rw [show (w.alloc o).heap.size = w.heap.size + 1 by simp] at this
  exact this

theorem frozen_alloc {w : World} {a : Addr} (h : a.block < w.heap.size) (o : Obj) : (w.alloc o).frozen? a = w.frozen? a := World.frozen?_of_block (w := w) (Below.heap_alloc w o a.block h)

theorem Fr.drewEq {S : Nat → Prop} {a w : World} (h : Fr S a w.drew) : Fr S a w := ⟨h.os, h.tape, h.output, h.size, h.block⟩

theorem entCells_snoc (l : List Ent) (x : Ent) : entCells (l ++ [x]) = entCells l ++ x.cs := by simp [entCells]

theorem LogAt.putDone {w W w1 : World} {B lb bm n : Nat} {v v' : Value} {s : LogS} {x : Ent} (h : LogAt w B lb bm v n s) (hW : Fr (fun _ => False) w W) (hg : W.grownBy w1 v.ownBlock)
    (hown : w1.ownsRow B 69 4 v' (s.es.length + 1) (entCells s.es ++ x.cs)) (hat : ∀ k, v'.ownBlock = some k → v.ownBlock = some k ∨ w.heap.size ≤ k) :
    LogAt (w1.setCell ⟨lb, 0, none⟩ v') B lb bm v' n (s.put x) ∧ Fr (fun k => k = lb ∨ v.ownBlock = some k) w (w1.setCell ⟨lb, 0, none⟩ v') := by
  have f1 : Fr (fun k => v.ownBlock = some k) w w1 := (hW.mono (fun _ h => h.elim)).grown hg (fun k e => .inl e)
  have f2 : Fr (fun k => k = lb ∨ v.ownBlock = some k) w (w1.setCell ⟨lb, 0, none⟩ v') := (f1.mono (fun k h => .inl (.inr h))).setCell (.inl (.inl rfl)) _
  have b1 : w1.heap[lb]? = some (.cells #[v, .int .i64 s.d, .map (some bm)] 56 (0, 0)) := (f1.block lb h.lt h.ne_row).trans h.blk
  refine ⟨⟨?_, ?_, ?_, h.hl, h.hm⟩, f2⟩
  · rw [setCell_cells b1]; rfl
  · have hr : Fr (fun k => k = lb) w1 (w1.setCell ⟨lb, 0, none⟩ v') := (Fr.refl (fun k => k = lb) w1).setCell (p := ⟨lb, 0, none⟩) (.inl rfl) _
    have := hr.ownsRow hown (fun k hk e => by
      subst e
      rcases hat _ hk with h1 | h1
      · exact h.ne_row h1
      · have := h.lt; omega)
    simpa [LogS.put, entCells_snoc] using this
  · exact f2.mapFn h.map (fun e => by
      rcases e with e | e
      · exact h.ne e.symm
      · exact h.ne_row_map e)

set_option maxRecDepth 100000 in
set_option maxHeartbeats 1600000 in
theorem put_any {w : World} {B lb bm n : Nat} {v : Value} {s : LogS} (h : LogAt w B lb bm v n s) (x : Ent) (hb : (s.es.length + 1) * 40 ≤ 140737488355328) :
    Calls Try.prog 32 #[.pointer (some ⟨lb, 0, none⟩), .agg #[.int .i64 x.k, .int .i64 x.p, .int .i64 x.t, .string x.s]] w fun e w' => e = .returned (.tuple #[]) ∧
      ∃ v', LogAt w' B lb bm v' n (s.put x) ∧ Fr (fun k => k = lb ∨ v.ownBlock = some k) w w' ∧ (∀ k, v'.ownBlock = some k → v.ownBlock = some k ∨ w.heap.size ≤ k) := by
  obtain ⟨xk, xp, xt, xs⟩ := x
  obtain ⟨i0, hi0, hz0, hz1, hz2⟩ := info_parts info69
  have c0 : w.cell? ⟨lb, 0, none⟩ = some v := by rw [cell_of_cells h.blk]; rfl
  have f0 : w.frozen? ⟨lb, 0, none⟩ = false := frozen_of_cells h.blk 0
  have hlt := h.lt
  have hnl := h.ne_row
  have nb := World.new_ne w ⟨lb, 0, none⟩ c0
  have f1 : ∀ o, (w.alloc o).frozen? ⟨lb, 0, none⟩ = false := fun o => (frozen_alloc hlt o).trans f0
  have f2 : ∀ o o', ((w.alloc o).alloc o').frozen? ⟨lb, 0, none⟩ = false := fun o o' => (frozen_alloc (by simp; omega) o').trans (f1 o)
  have H : Hid (LogAt w B lb bm v n s) := h
  have HB : Hid ((s.es.length + 1) * 40 ≤ 140737488355328) := hb
  clear h hb
  go_enter Try.func32, Try.ntmps32
  go_wp2_with fail
  go_region_law
    ((refine step_append_lies _ (by rfl) _ _ _ (by rfl) B 69 i0 _ 4 40 Try.underlying49 hi0 hz0 hz1 hz2 rfl (by omega) v s.es.length (entCells s.es) (by rfl) (((H.out.row.alloc _).alloc _).drew)
        ⟨w.heap.size + 1, 0, none⟩ 1 1 [.int .i64 xk, .int .i64 xp, .int .i64 xt, .string xs] (by rfl) (by rfl) (World.news_of_block (cs := #[.int .i64 xk, .int .i64 xp, .int .i64 xt, .string xs]) (t := 69) (fr := (0, 0)) (heap_alloc_new2 _ _ _)) (by simp [Value.oneCell'])
        (by omega) (by have := HB.out; simp only [maxLen]; omega) HB.out (by have := H.out.hl; simp; omega) (w.heap.size + 2) (by simp) ?_; intro gg cap w1 hown1 hgrow hat hlt; have k0 := (hgrow.cell_far ⟨lb, 0, none⟩ (by simp; omega) (Ne.symm hnl)); have k1 := (hgrow.frozen_far ⟨lb, 0, none⟩ (by simp; omega) (Ne.symm hnl)); simp only [World.cell?_drew, World.frozen?_drew, f2] at k0 k1))
  all_goals
    go_end0
    obtain ⟨r1, r2⟩ := H.out.putDone (x := ⟨xk, xp, xt, xs⟩) (((nofr _).alloc _).drew) hgrow hown1 (fun k hk => by
      simp only [Value.ownBlock, Option.some.injEq] at hk
      subst hk
      rcases hat with h1 | h1
      · exact .inl h1
      · exact .inr (by omega))
    refine ⟨rfl, _, r1, r2, fun k hk => ?_⟩
    simp only [Value.ownBlock, Option.some.injEq] at hk
    subst hk
    rcases hat with h1 | h1
    · exact .inl h1
    · exact .inr (by omega)

end Go.Proofs.Ytkelpcjiediamaa
