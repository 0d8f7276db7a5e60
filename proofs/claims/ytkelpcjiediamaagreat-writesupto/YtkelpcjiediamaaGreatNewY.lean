/-
  The document's New.
-/
import Derived.Test.YtkelpcjiediamaaGreatNewX
import Derived.Deep.OwnRows
namespace Go.Proofs.YtkelpcjiediamaaGreat
open Go.RowKit Go.Maps

set_option maxRecDepth 100000 in
set_option maxHeartbeats 1600000 in
theorem ynew_bad (w : World) {P Q T K : Int} (h : ¬ Good P Q T K) : Calls Tryz.prog 32 #[conf P Q T K] w fun r w' => r = .returned (.tuple #[.pointer none, .int .i64 1]) ∧ Fr (fun _ => False) w w' := by
  unfold conf
  by_cases hP : 1 ≤ P ∧ P ≤ 6
  · have HP : Hid (decide (1 ≤ P ∧ P ≤ 6) = true) := decide_eq_true hP
    by_cases hQ : 1 ≤ Q ∧ Q ≤ 4
    · have HQ : Hid (decide (1 ≤ Q ∧ Q ≤ 4) = true) := decide_eq_true hQ
      by_cases hT : 1 ≤ T ∧ T ≤ 50
      · have HT : Hid (decide (1 ≤ T ∧ T ≤ 50) = true) := decide_eq_true hT
        have HK : Hid (decide (1 ≤ K ∧ K ≤ 16) = false) := decide_eq_false (fun e => h ⟨hP, hQ, hT, e⟩)
        clear h hP hQ hT
        go_enter Tryz.func32, Tryz.ntmps32
        go_wp2_with (go_at_call 72; refine (in_any _ _ _ _).mono ?_; (first | rw [HP.out] | rw [HQ.out] | rw [HT.out] | rw [HK.out]); rintro e w1 ⟨rfl, rfl⟩)
        go_ret2
        exact ⟨rfl, nofr _⟩
      · have HT : Hid (decide (1 ≤ T ∧ T ≤ 50) = false) := decide_eq_false hT
        clear h hP hQ hT
        go_enter Tryz.func32, Tryz.ntmps32
        go_wp2_with (go_at_call 72; refine (in_any _ _ _ _).mono ?_; (first | rw [HP.out] | rw [HQ.out] | rw [HT.out]); rintro e w1 ⟨rfl, rfl⟩)
        go_ret2
        exact ⟨rfl, nofr _⟩
    · have HQ : Hid (decide (1 ≤ Q ∧ Q ≤ 4) = false) := decide_eq_false hQ
      clear h hP hQ
      go_enter Tryz.func32, Tryz.ntmps32
      go_wp2_with (go_at_call 72; refine (in_any _ _ _ _).mono ?_; (first | rw [HP.out] | rw [HQ.out]); rintro e w1 ⟨rfl, rfl⟩)
      go_ret2
      exact ⟨rfl, nofr _⟩
  · have HP : Hid (decide (1 ≤ P ∧ P ≤ 6) = false) := decide_eq_false hP
    clear h hP
    go_enter Tryz.func32, Tryz.ntmps32
    go_wp2_with (go_at_call 72; refine (in_any _ _ _ _).mono ?_; rw [HP.out]; rintro e w1 ⟨rfl, rfl⟩)
    go_ret2
    exact ⟨rfl, nofr _⟩

/-- The document's new herald. -/
def freshY (P Q T K : Int) (H : List Int) (O : List Bool) (hv ov gv : Value) (G : List GL) : RS :=
  ⟨P, Q, T, K, false, false, 0, 0, .slice none 0 0, [], ⟨#[]⟩, .slice none 0 0, [], hv, H, gv, G, ov, O, .slice none 0 0, []⟩

theorem freshY_set (P Q T K : Int) (H : List Int) (O : List Bool) (hv ov gv gv' : Value) (G G' : List GL) : (freshY P Q T K H O hv ov gv G).cells.setIfInBounds 12 gv' = (freshY P Q T K H O hv ov gv' G').cells := by kernel_rfl

/-- The document's logs lie apart. -/
def GApart (G : List GL) : Prop := ∀ (i j : Nat) (p q : GL), i ≠ j → G[i]? = some p → G[j]? = some q → ∀ k, refFoot p.yb p.u k → refFoot q.yb q.u k → False

/-- While the parts are made. -/
structure MakingY (w w' : World) (P Q T K : Int) (H : List Int) (O : List Bool) (k : Nat) (hv ov gv : Value) (G : List GL) : Prop where
  blk : w'.heap[w.heap.size + 1 + 1 + 1]? = some (.cells (freshY P Q T K H O hv ov gv G).cells 138 (0, 0))
  conf : w'.heap[w.heap.size]? = some (.cells #[.int .i64 P, .int .i64 Q, .int .i64 T, .int .i64 K] 23 (0, 0))
  len : G.length = k
  heard : w'.ownsRow w.heap.size 3 1 hv H.length (intCells H)
  outs : w'.ownsRow w.heap.size 4 1 ov O.length (O.map Value.bool)
  logs : w'.ownsRow w.heap.size 139 1 gv G.length (G.map fun g => ptr g.yb)
  refs : ∀ g ∈ G, RefAt w' w.heap.size g.yb g.u g.L
  new : ∀ g ∈ G, g.L = []
  fr : Fr (fun _ => False) w w'
  ap : GApart G

theorem MakingY.step {w wr W w3 : World} {P Q T K : Int} {H : List Int} {O : List Bool} {k : Nat} {hv ov gv gv' : Value} {G : List GL} (h : MakingY w wr P Q T K H O k hv ov gv G) (hb : W.heap[wr.heap.size]? = some (.cells #[.slice none 0 0] 142 (0, 0)))
    (fW : Fr (fun _ => False) wr W) (hg : W.grownBy w3 gv.ownBlock) (hown : w3.ownsRow w.heap.size 139 1 gv' (k + 1) ((G.map fun g => ptr g.yb) ++ [ptr wr.heap.size])) (hat : ∀ q, gv'.ownBlock = some q → gv.ownBlock = some q ∨ wr.heap.size ≤ q) :
    MakingY w (w3.setCell ⟨w.heap.size + 1 + 1 + 1, 12, none⟩ gv') P Q T K H O (k + 1) hv ov gv' (G ++ [⟨wr.heap.size, .slice none 0 0, []⟩]) := by
  have hx := lt_of_block h.blk
  have hc := lt_of_block h.conf
  have f3 : Fr (fun q => gv.ownBlock = some q) wr w3 := (fW.mono (fun _ h => h.elim)).grown hg (fun q e => .inl e)
  have hpx : gv.ownBlock ≠ some (w.heap.size + 1 + 1 + 1) := row_ne_blk h.logs h.blk (by decide)
  have b3 := (f3.block _ hx hpx).trans h.blk
  have fs : Fr (fun q => q = w.heap.size + 1 + 1 + 1) w3 (w3.setCell ⟨w.heap.size + 1 + 1 + 1, 12, none⟩ gv') := (Fr.refl (fun q => q = w.heap.size + 1 + 1 + 1) w3).setCell (p := ⟨w.heap.size + 1 + 1 + 1, 12, none⟩) (.inl rfl) _
  have f4 : Fr (fun q => gv.ownBlock = some q ∨ q = w.heap.size + 1 + 1 + 1) wr (w3.setCell ⟨w.heap.size + 1 + 1 + 1, 12, none⟩ gv') := (f3.mono (fun q e => .inl (.inl e))).trans fs (fun q e => .inl (.inr e))
  have key : ∀ {ty : TypeId} {wd : Nat} {v : Value} {n : Nat} {xs : List Value}, wr.ownsRow w.heap.size ty wd v n xs → ty ≠ 139 → ty ≠ 138 → ∀ q, v.ownBlock = some q → ¬ (gv.ownBlock = some q ∨ q = w.heap.size + 1 + 1 + 1) := fun {ty wd v n xs} hr h1 h2 q hq e => by
    have ht := tag_row hr hq
    rcases e with e | e
    · have := tag_row h.logs e; rw [ht] at this; exact h1 this
    · subst e; rw [tag_cells h.blk] at ht; exact h2 ht.symm
  refine ⟨?_, ?_, by simp [h.len], f4.ownsRow h.heard (key h.heard (by decide) (by decide)), f4.ownsRow h.outs (key h.outs (by decide) (by decide)), ?_, ?_, ?_, ?_, ?_⟩
  · rw [setCell_cells b3, freshY_set]
  · refine (f4.block _ hc (fun e => ?_)).trans h.conf
    rcases e with e | e
    · exact row_ne_blk h.logs h.conf (by decide) e
    · omega
  · have e1 : ((G ++ [(⟨wr.heap.size, .slice none 0 0, []⟩ : GL)]).map fun g => ptr g.yb) = (G.map fun g => ptr g.yb) ++ [ptr wr.heap.size] := by simp
    rw [e1, List.length_append, h.len]
    refine fs.ownsRow hown (fun q hq e => ?_)
    subst e
    rcases hat _ hq with a | a
    · exact hpx a
    · omega
  · intro g hgm
    rcases List.mem_append.1 hgm with hp | hp
    · refine (h.refs g hp).stay f4 (fun q hq hf => ?_)
      rcases hq with hq | hq
      · have h0 := tag_row h.logs hq
        rcases (h.refs g hp).tags hf with h1 | h1 <;> rw [h0] at h1 <;> cases h1
      · have h0 := tag_cells h.blk
        subst hq
        rcases (h.refs g hp).tags hf with h1 | h1 <;> rw [h0] at h1 <;> cases h1
    · simp only [List.mem_singleton] at hp
      subst hp
      have g3 : Fr (fun q => gv.ownBlock = some q) W w3 := (Fr.refl _ W).grown hg (fun q e => .inl e)
      have hWl := lt_of_block hb
      have hne : gv.ownBlock ≠ some wr.heap.size := fun e => by have := (h.logs.lt _ e).2; omega
      refine ⟨(fs.block _ (Nat.lt_of_lt_of_le hWl g3.size) (by omega)).trans ((g3.block _ hWl hne).trans hb), World.ownsRow_nil _ _ _ _, ?_⟩
      have := h.fr.size; simp only; omega
  · intro g hgm
    rcases List.mem_append.1 hgm with hp | hp
    · exact h.new g hp
    · simp only [List.mem_singleton] at hp
      subst hp
      rfl
  · exact h.fr.trans f4 (fun q hq => .inr (by
      rcases hq with hq | hq
      · exact (h.logs.lt q hq).1
      · omega))
  · have old : ∀ p ∈ G, ∀ k, refFoot p.yb p.u k → k < wr.heap.size := fun p hp k hk => by
      have hl := h.refs p hp
      rcases hk with rfl | hk
      · exact hl.lt
      · exact (hl.row.lt k hk).2
    have neu : ∀ k, refFoot wr.heap.size (.slice none 0 0) k → wr.heap.size ≤ k := fun k hk => by
      rcases hk with rfl | hk
      · exact Nat.le_refl _
      · simp [Value.ownBlock] at hk
    intro i j p q hij hp hq k h1 h2
    rcases snoc_cases hp with ⟨_, hp'⟩ | ⟨hi, rfl⟩ <;> rcases snoc_cases hq with ⟨_, hq'⟩ | ⟨hj, rfl⟩
    · exact h.ap i j p q hij hp' hq' k h1 h2
    · have := old p (List.mem_of_getElem? hp') k h1
      have := neu k h2
      omega
    · have := old q (List.mem_of_getElem? hq') k h2
      have := neu k h1
      omega
    · omega

theorem madeI (w : World) (p : Nat) (hp : p ≤ 6) : (Instr.makeSlice 43 (.int .i64 (p : Int)) (.int .i64 (p : Int))).run Tryz.prog w = .ok (.slice (some ⟨w.heap.size, 0, none⟩) p p) (w.alloc (.cells (madeCells #[.int .i64 0] p) 3)) :=
  run_make_row' 43 3 (.int .i64 0) 8 Tryz.underlying43 info3 rfl .i64 .i64 p (by omega) (by omega) w
theorem info4 : (Tryz.prog.info? 4).map (fun i => (i.zero, i.size, i.bytes)) = some (some (.bool false), 1, 1) := by kernel_rfl
theorem madeB (w : World) (p : Nat) (hp : p ≤ 6) : (Instr.makeSlice 133 (.int .i64 (p : Int)) (.int .i64 (p : Int))).run Tryz.prog w = .ok (.slice (some ⟨w.heap.size, 0, none⟩) p p) (w.alloc (.cells (madeCells #[.bool false] p) 4)) :=
  run_make_row' 133 4 (.bool false) 1 Tryz.underlying133 info4 rfl .i64 .i64 p (by omega) (by omega) w

theorem rowI (w : World) {B p : Nat} (hB : B ≤ w.heap.size) (hp : p ≤ 6) : (w.alloc (.cells (madeCells #[.int .i64 0] p) 3)).ownsRow B 3 1 (.slice (some ⟨w.heap.size, 0, none⟩) p p) (List.replicate p (0 : Int)).length (intCells (List.replicate p 0)) := by
  have := World.ownsRow_lit w (base := B) (e := 3) (size := 1) (madeCells #[.int .i64 0] p) p hB (by simp only [maxLen]; omega) (by simp [size_madeCells])
  rw [toList_madeCells_one] at this
  simpa [intCells] using this

theorem rowB (w : World) {B p : Nat} (hB : B ≤ w.heap.size) (hp : p ≤ 6) : (w.alloc (.cells (madeCells #[.bool false] p) 4)).ownsRow B 4 1 (.slice (some ⟨w.heap.size, 0, none⟩) p p) (List.replicate p false).length ((List.replicate p false).map Value.bool) := by
  have := World.ownsRow_lit w (base := B) (e := 4) (size := 1) (madeCells #[.bool false] p) p hB (by simp only [maxLen]; omega) (by simp [size_madeCells])
  rw [toList_madeCells_one] at this
  simpa using this

theorem makingY_A (w : World) (p q : Nat) (T K : Int) (hp : p ≤ 6) (hq : q ≤ 6) :
    MakingY w (((((w.alloc (.cells #[.int .i64 p, .int .i64 q, .int .i64 T, .int .i64 K] 23)).alloc (.cells (madeCells #[.int .i64 0] p) 3)).alloc (.cells (madeCells #[.bool false] q) 4)).alloc (.cells (freshY p q T K (List.replicate p 0) (List.replicate q false) (.slice (some ⟨w.heap.size + 1, 0, none⟩) p p) (.slice (some ⟨w.heap.size + 1 + 1, 0, none⟩) q q) (.slice none 0 0) []).cells 138)).drew)
      p q T K (List.replicate p 0) (List.replicate q false) 0 (.slice (some ⟨w.heap.size + 1, 0, none⟩) p p) (.slice (some ⟨w.heap.size + 1 + 1, 0, none⟩) q q) (.slice none 0 0) [] := by
  refine ⟨alloc_at _ (by simp), ?_, rfl, ?_, ?_, World.ownsRow_nil _ _ _ _, fun g hg => by simp at hg, fun g hg => by simp at hg, ((((nofr _).alloc _).alloc _).alloc _).drew, fun i j p q _ hp => by simp at hp⟩
  · exact ((((nofr _).alloc _).alloc _).drew.block _ (by simp) id).trans (heap_alloc_new _ _)
  · have := rowI (w.alloc (.cells #[.int .i64 p, .int .i64 q, .int .i64 T, .int .i64 K] 23)) (B := w.heap.size) (by simp) hp
    exact (((nofr _).alloc _).drew).ownsRow (by simpa using this) (fun _ _ => id)
  · have := rowB ((w.alloc (.cells #[.int .i64 p, .int .i64 q, .int .i64 T, .int .i64 K] 23)).alloc (.cells (madeCells #[.int .i64 0] p) 3)) (B := w.heap.size) (by simp; omega) hq
    exact ((nofr _).drew).ownsRow (by simpa using this) (fun _ _ => id)

theorem makingY_B (w : World) (p q : Nat) (T K : Int) (hp : p ≤ 6) (hq : q ≤ 6) :
    MakingY w (((((w.alloc (.cells #[.int .i64 p, .int .i64 q, .int .i64 T, .int .i64 K] 23)).alloc (.cells (madeCells #[.bool false] q) 4)).alloc (.cells (madeCells #[.int .i64 0] p) 3)).alloc (.cells (freshY p q T K (List.replicate p 0) (List.replicate q false) (.slice (some ⟨w.heap.size + 1 + 1, 0, none⟩) p p) (.slice (some ⟨w.heap.size + 1, 0, none⟩) q q) (.slice none 0 0) []).cells 138)).drew)
      p q T K (List.replicate p 0) (List.replicate q false) 0 (.slice (some ⟨w.heap.size + 1 + 1, 0, none⟩) p p) (.slice (some ⟨w.heap.size + 1, 0, none⟩) q q) (.slice none 0 0) [] := by
  refine ⟨alloc_at _ (by simp), ?_, rfl, ?_, ?_, World.ownsRow_nil _ _ _ _, fun g hg => by simp at hg, fun g hg => by simp at hg, ((((nofr _).alloc _).alloc _).alloc _).drew, fun i j p q _ hp => by simp at hp⟩
  · exact ((((nofr _).alloc _).alloc _).drew.block _ (by simp) id).trans (heap_alloc_new _ _)
  · have := rowI ((w.alloc (.cells #[.int .i64 p, .int .i64 q, .int .i64 T, .int .i64 K] 23)).alloc (.cells (madeCells #[.bool false] q) 4)) (B := w.heap.size) (by simp; omega) hp
    exact ((nofr _).drew).ownsRow (by simpa using this) (fun _ _ => id)
  · have := rowB (w.alloc (.cells #[.int .i64 p, .int .i64 q, .int .i64 T, .int .i64 K] 23)) (B := w.heap.size) (by simp) hq
    exact (((nofr _).alloc _).drew).ownsRow (by simpa using this) (fun _ _ => id)

set_option maxRecDepth 100000 in
set_option maxHeartbeats 3200000 in
theorem ynew_good (w : World) {p q : Nat} {T K : Int} (h : Good p q T K) : Calls Tryz.prog 32 #[conf p q T K] w fun r w' => ∃ yb hv ov gv G, r = .returned (.tuple #[ptr yb, .int .i64 0]) ∧ YAt w' w.heap.size yb (freshY p q T K (List.replicate p 0) (List.replicate q false) hv ov gv G) ∧ (∀ g ∈ G, g.L = []) ∧ GApart G ∧ Fr (fun _ => False) w w' := by
  unfold conf
  have HG : Hid (Good p q T K) := h
  have HP : Hid (decide (1 ≤ (p : Int) ∧ (p : Int) ≤ 6) = true) := decide_eq_true h.1
  have HQ : Hid (decide (1 ≤ (q : Int) ∧ (q : Int) ≤ 4) = true) := decide_eq_true h.2.1
  have HT : Hid (decide (1 ≤ T ∧ T ≤ 50) = true) := decide_eq_true h.2.2.1
  have HK : Hid (decide (1 ≤ K ∧ K ≤ 16) = true) := decide_eq_true h.2.2.2
  have hm1 := fun w => madeI w p (by have := h.1.2; omega)
  have hm2 := fun w => madeB w q (by have := h.2.1.2; omega)
  have hq2 := h.2.1.2
  clear h
  go_enter Tryz.func32, Tryz.ntmps32
  go_wp2_with (go_at_call 72; refine (in_any _ _ _ _).mono ?_; (first | rw [HP.out] | rw [HQ.out] | rw [HT.out] | rw [HK.out]); rintro e w1 ⟨rfl, rfl⟩)
  obtain ⟨i0, hi0, hz0, hz1, hz2⟩ := info_parts (show (Tryz.prog.info? 139).map (fun i => (i.zero, i.size, i.bytes)) = some (some (.pointer none), 1, 8) by kernel_rfl)
  have HA : Hid (p ≤ 6 ∧ q ≤ 6) := ⟨by have := HG.out.1.2; omega, by omega⟩
  go_region
  all_goals
    go_wp2_with fail
    go_loopw [5] (fun i w' => ∃ k : Nat, k ≤ q ∧ i = .int .i64 k ∧ ∃ hv ov gv G, MakingY w w' p q T K (List.replicate p 0) (List.replicate q false) k hv ov gv G) (fun i _ => (q - intOf i).toNat)
    case atStart => first | exact ⟨0, by omega, rfl, _, _, _, _, makingY_A w p q T K HA.out.1 HA.out.2⟩ | exact ⟨0, by omega, rfl, _, _, _, _, makingY_B w p q T K HA.out.1 HA.out.2⟩
    case round =>
      obtain ⟨k, hk, rfl, hv, ov, gv, G, hm⟩ := hrel
      have HM : Hid (MakingY w wr p q T K (List.replicate p 0) (List.replicate q false) k hv ov gv G) := hm
      have c12 : wr.cell? ⟨w.heap.size + 1 + 1 + 1, 12, none⟩ = some gv := by rw [cell_of_cells hm.blk]; rfl
      have cq : wr.cell? ⟨w.heap.size, 1, none⟩ = some (.int .i64 q) := by rw [cell_of_cells hm.conf]; rfl
      have cf : ∀ o, wr.frozen? ⟨w.heap.size + 1 + 1 + 1, o, none⟩ = false := frozen_of_cells hm.blk
      have hx := lt_of_block hm.blk
      have hlen := hm.len
      obtain ⟨pa, pc, rfl, _⟩ := anyRow_len hm.logs
      subst hlen
      have hpx : Value.ownBlock (.slice pa G.length pc) ≠ some (w.heap.size + 1 + 1 + 1) := row_ne_blk hm.logs hm.blk (by decide)
      have hwz := hm.fr.size
      clear hm
      by_cases hlt : G.length < q
      · have hli : (G.length : Int) < (q : Int) := by omega
        go_wp2_with (at_builtin; refine wpList_append_lies _ rfl _ _ 136 rfl w.heap.size 139 i0 _ 1 8 Tryz.underlying136 hi0 hz0 hz1 hz2 rfl (by decide) _ G.length (G.map fun g => ptr g.yb) rfl (by exact (((nofr _).alloc _)).ownsRow HM.out.logs (fun _ _ => id)) ⟨wr.heap.size + 1, 0, none⟩ 1 1 [.pointer (some ⟨wr.heap.size, 0, none⟩)] rfl rfl (World.news_of_block (cs := #[.pointer (some ⟨wr.heap.size, 0, none⟩)]) (t := 139) (fr := (0, 0)) (alloc_at _ (by simp))) (by simp [Value.oneCell']) (by decide) (by simp only [maxLen]; omega) (by omega) (by simp; omega) (wr.heap.size + 1 + 1) (by simp) ?_; intro gg gcap w3 hown3 hgrow3 hat3 hlt3; have r12 := (hgrow3.cell_far ⟨w.heap.size + 1 + 1 + 1, 12, none⟩ (by simp; omega) (Ne.symm hpx)); have rf := (hgrow3.frozen_far ⟨w.heap.size + 1 + 1 + 1, 12, none⟩ (by simp; omega) (Ne.symm hpx)); rw [((nofr _).alloc _).cell (p := ⟨w.heap.size + 1 + 1 + 1, 12, none⟩) hx id, c12] at r12; rw [frozen_alloc (by simp; omega), frozen_alloc hx, cf] at rf)
        go_roundw
        case rel =>
          refine ⟨G.length + 1, by omega, by go_num, _, _, _, _, HM.out.step (W := (wr.alloc (.cells #[.slice none 0 0] 142)).alloc (.cells #[.pointer (some ⟨wr.heap.size, 0, none⟩)] 139)) ?_ ((nofr _).alloc _) hgrow3 hown3 ?_⟩
          · exact ((nofr _).block _ (by simp) id).trans (heap_alloc_new _ _)
          · intro x hx2
            simp only [Value.ownBlock, Option.some.injEq] at hx2
            subst hx2
            rcases hat3 with a | a
            · exact .inl a
            · exact .inr (by omega)
        case measure => simp [intOf]; omega
      · have hlq : G.length = q := by omega
        go_wp2
        go_ret2
        refine ⟨_, hv, ov, _, G, rfl, ⟨HM.out.blk, World.ownsRow_nil _ _ _ _, World.ownsRow_nil _ _ _ _, HM.out.heard, HM.out.logs, HM.out.outs, World.ownsRow_nil _ _ _ _, HM.out.refs, by omega, ?_, ?_⟩, HM.out.new, HM.out.ap, HM.out.fr⟩
        · exact ⟨by simp [freshY], HG.out.1⟩
        · exact ⟨by simp [freshY, hlq], by simp [freshY], HG.out.2.1⟩

end Go.Proofs.YtkelpcjiediamaaGreat
