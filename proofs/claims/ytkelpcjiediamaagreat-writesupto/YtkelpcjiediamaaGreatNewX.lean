/-
  The program's New.
-/
import Derived.Test.YtkelpcjiediamaaGreatMYerS
namespace Go.Proofs.YtkelpcjiediamaaGreat
open Go.RowKit Go.Maps

theorem from1_any (w : World) (m b : Int) : Calls Tryz.prog 70 #[.int .i64 m, .int .i64 b] w fun e w' => e = .returned (.bool (decide (1 ≤ m ∧ m ≤ b))) ∧ w = w' := by
  by_cases h1 : 1 ≤ m
  · by_cases h2 : m ≤ b
    · go_enter Tryz.func70, Tryz.ntmps70
      go_wp2
      go_ret
      exact ⟨by simp [h1, h2], rfl⟩
    · go_enter Tryz.func70, Tryz.ntmps70
      go_wp2
      go_ret
      exact ⟨by simp [h2], rfl⟩
  · go_enter Tryz.func70, Tryz.ntmps70
    go_wp2
    go_ret
    have : decide (1 ≤ m) = false := decide_eq_false (by omega)
    exact ⟨by rw [this] <;> rfl, rfl⟩

/-- Settings. -/
def conf (P Q T K : Int) : Value := .agg #[.int .i64 P, .int .i64 Q, .int .i64 T, .int .i64 K]
def Good (P Q T K : Int) : Prop := (1 ≤ P ∧ P ≤ 6) ∧ (1 ≤ Q ∧ Q ≤ 4) ∧ (1 ≤ T ∧ T ≤ 50) ∧ (1 ≤ K ∧ K ≤ 16)

set_option maxRecDepth 100000 in
set_option maxHeartbeats 1600000 in
theorem new_bad (w : World) {P Q T K : Int} (h : ¬ Good P Q T K) : Calls Tryz.prog 31 #[conf P Q T K] w fun r w' => r = .returned (.tuple #[.pointer none, .int .i64 1]) ∧ Fr (fun _ => False) w w' := by
  unfold conf
  by_cases hP : 1 ≤ P ∧ P ≤ 6
  · have HP : Hid (decide (1 ≤ P ∧ P ≤ 6) = true) := decide_eq_true hP
    by_cases hQ : 1 ≤ Q ∧ Q ≤ 4
    · have HQ : Hid (decide (1 ≤ Q ∧ Q ≤ 4) = true) := decide_eq_true hQ
      by_cases hT : 1 ≤ T ∧ T ≤ 50
      · have HT : Hid (decide (1 ≤ T ∧ T ≤ 50) = true) := decide_eq_true hT
        have HK : Hid (decide (1 ≤ K ∧ K ≤ 16) = false) := decide_eq_false (fun e => h ⟨hP, hQ, hT, e⟩)
        clear h hP hQ hT
        go_enter Tryz.func31, Tryz.ntmps31
        go_wp2_with (go_at_call 70; refine (from1_any _ _ _).mono ?_; (first | rw [HP.out] | rw [HQ.out] | rw [HT.out] | rw [HK.out]); rintro e w1 ⟨rfl, rfl⟩)
        go_ret2
        exact ⟨rfl, nofr _⟩
      · have HT : Hid (decide (1 ≤ T ∧ T ≤ 50) = false) := decide_eq_false hT
        clear h hP hQ hT
        go_enter Tryz.func31, Tryz.ntmps31
        go_wp2_with (go_at_call 70; refine (from1_any _ _ _).mono ?_; (first | rw [HP.out] | rw [HQ.out] | rw [HT.out]); rintro e w1 ⟨rfl, rfl⟩)
        go_ret2
        exact ⟨rfl, nofr _⟩
    · have HQ : Hid (decide (1 ≤ Q ∧ Q ≤ 4) = false) := decide_eq_false hQ
      clear h hP hQ
      go_enter Tryz.func31, Tryz.ntmps31
      go_wp2_with (go_at_call 70; refine (from1_any _ _ _).mono ?_; (first | rw [HP.out] | rw [HQ.out]); rintro e w1 ⟨rfl, rfl⟩)
      go_ret2
      exact ⟨rfl, nofr _⟩
  · have HP : Hid (decide (1 ≤ P ∧ P ≤ 6) = false) := decide_eq_false hP
    clear h hP
    go_enter Tryz.func31, Tryz.ntmps31
    go_wp2_with (go_at_call 70; refine (from1_any _ _ _).mono ?_; rw [HP.out]; rintro e w1 ⟨rfl, rfl⟩)
    go_ret2
    exact ⟨rfl, nofr _⟩

def emptyLog : LogS := ⟨[], 0, fun _ => none⟩

/-- A new herald that is down still. -/
def freshH (P Q T K : Int) (pv : Value) (pl : List PL) : HS := ⟨P, Q, T, K, .slice none 0 0, [], false, zps6, false, 0, pv, pl, .slice none 0 0, []⟩

theorem freshH_set (P Q T K : Int) (pv pv' : Value) (pl pl' : List PL) : (freshH P Q T K pv pl).cells.toArray.setIfInBounds 68 pv' = (freshH P Q T K pv' pl').cells.toArray := by kernel_rfl

theorem alloc_at {w : World} (o : Obj) {k : Nat} (hk : k = w.heap.size) : (w.alloc o).heap[k]? = some o := by subst hk; exact heap_alloc_new w o

/-- The logs lie apart. -/
def PlApart (pl : List PL) : Prop := ∀ (i j : Nat) (p q : PL), i ≠ j → pl[i]? = some p → pl[j]? = some q → ∀ k, logFoot p.lb p.bm p.v k → logFoot q.lb q.bm q.v k → False

theorem snoc_cases {α : Type} {l : List α} {x e : α} {i : Nat} (h : (l ++ [x])[i]? = some e) : (i < l.length ∧ l[i]? = some e) ∨ (i = l.length ∧ e = x) := by
  rcases Nat.lt_or_ge i l.length with hi | hi
  · rw [List.getElem?_append_left hi] at h; exact .inl ⟨hi, h⟩
  · rw [List.getElem?_append_right hi] at h
    rcases Nat.eq_or_lt_of_le hi with e2 | e2
    · subst e2; simp at h; exact .inr ⟨rfl, h.symm⟩
    · have : 1 ≤ i - l.length := by omega
      rw [List.getElem?_eq_none (by simpa using this)] at h; cases h

/-- While the parts are made. -/
structure Making (w w' : World) (P Q T K : Int) (k : Nat) (pv : Value) (pl : List PL) : Prop where
  blk : w'.heap[w.heap.size + 1]? = some (.cells (freshH P Q T K pv pl).cells.toArray 111 (0, 0))
  len : pl.length = k
  places : w'.ownsRow w.heap.size 98 2 pv pl.length (plCells pl)
  logs : ∀ p ∈ pl, LogAt w' w.heap.size p.lb p.bm p.v 0 p.s
  new : ∀ p ∈ pl, p.s = emptyLog ∧ p.out = false
  fr : Fr (fun _ => False) w w'
  ap : PlApart pl

theorem LogAt.base {w : World} {B B' lb bm n : Nat} {v : Value} {s : LogS} (h : LogAt w B lb bm v n s) (hB : B' ≤ B) : LogAt w B' lb bm v n s :=
  ⟨h.blk, ownsRow_base h.row hB, h.map, Nat.le_trans hB h.hl, Nat.le_trans hB h.hm⟩

theorem Making.step {w wr X w1 W w3 : World} {P Q T K : Int} {k : Nat} {pv pv' : Value} {pl : List PL} (h : Making w wr P Q T K k pv pl) (fX : Fr (fun _ => False) wr X) (hl : LogAt w1 X.heap.size (X.heap.size + 1) X.heap.size (.slice none 0 0) 0 emptyLog) (f1 : Fr (fun _ => False) X w1)
    (fW : Fr (fun _ => False) w1 W) (hg : W.grownBy w3 pv.ownBlock) (hown : w3.ownsRow w.heap.size 98 2 pv' (k + 1) (plCells pl ++ [ptr (X.heap.size + 1), .bool false])) (hat : ∀ q, pv'.ownBlock = some q → pv.ownBlock = some q ∨ wr.heap.size ≤ q) :
    Making w (w3.setCell ⟨w.heap.size + 1, 68, none⟩ pv') P Q T K (k + 1) pv' (pl ++ [⟨X.heap.size + 1, X.heap.size, .slice none 0 0, emptyLog, false⟩]) := by
  have hx := lt_of_block h.blk
  have fw : Fr (fun _ => False) wr W := ((fX.trans f1 (fun _ h => h.elim)).trans fW (fun _ h => h.elim))
  have f3 : Fr (fun q => pv.ownBlock = some q) wr w3 := (fw.mono (fun _ h => h.elim)).grown hg (fun q e => .inl e)
  have hpx : pv.ownBlock ≠ some (w.heap.size + 1) := fun e => by
    have h1 := tag_row h.places e
    rw [tag_cells h.blk] at h1
    cases h1
  have b3 : w3.heap[w.heap.size + 1]? = some (.cells (freshH P Q T K pv pl).cells.toArray 111 (0, 0)) := (f3.block _ hx hpx).trans h.blk
  have fs : Fr (fun q => q = w.heap.size + 1) w3 (w3.setCell ⟨w.heap.size + 1, 68, none⟩ pv') := (Fr.refl (fun q => q = w.heap.size + 1) w3).setCell (p := ⟨w.heap.size + 1, 68, none⟩) (.inl rfl) _
  have f4 : Fr (fun q => pv.ownBlock = some q ∨ q = w.heap.size + 1) wr (w3.setCell ⟨w.heap.size + 1, 68, none⟩ pv') := (f3.mono (fun q e => .inl (.inl e))).trans fs (fun q e => .inl (.inr e))
  have hsz := fX.size
  refine ⟨?_, by simp [h.len], ?_, ?_, ?_, ?_, ?_⟩
  · rw [setCell_cells b3, freshH_set]
  · have e1 : plCells (pl ++ [⟨X.heap.size + 1, X.heap.size, .slice none 0 0, emptyLog, false⟩]) = plCells pl ++ [ptr (X.heap.size + 1), .bool false] := by simp [plCells, PL.cs]
    rw [e1, List.length_append, h.len]
    refine fs.ownsRow hown (fun q hq e => ?_)
    subst e
    rcases hat _ hq with a | a
    · exact hpx a
    · omega
  · intro p hp
    rcases List.mem_append.1 hp with hp | hp
    · refine (h.logs p hp).stay f4 (fun q hq hf => ?_)
      rcases hq with hq | hq
      · have h0 := tag_row h.places hq
        rcases (h.logs p hp).tags hf with h1 | h1 | h1 <;> rw [h0] at h1 <;> cases h1
      · have h0 := tag_cells h.blk
        subst hq
        rcases (h.logs p hp).tags hf with h1 | h1 | h1 <;> rw [h0] at h1 <;> cases h1
    · simp only [List.mem_singleton] at hp
      subst hp
      have g3 : Fr (fun q => pv.ownBlock = some q) w1 w3 := (fW.mono (fun _ h => h.elim)).grown hg (fun q e => .inl e)
      have g4 : Fr (fun q => pv.ownBlock = some q ∨ q = w.heap.size + 1) w1 (w3.setCell ⟨w.heap.size + 1, 68, none⟩ pv') := (g3.mono (fun q e => .inl (.inl e))).trans fs (fun q e => .inl (.inr e))
      refine (hl.stay g4 (fun q hq hf => ?_)).base (by have := h.fr.size; omega)
      have hqX : X.heap.size ≤ q := by
        rcases hf with e | e | e
        · omega
        · omega
        · simp [Value.ownBlock] at e
      rcases hq with hq | hq
      · have := (h.places.lt q hq).2; omega
      · omega
  · intro p hp
    rcases List.mem_append.1 hp with hp | hp
    · exact h.new p hp
    · simp only [List.mem_singleton] at hp
      subst hp
      exact ⟨rfl, rfl⟩
  · exact h.fr.trans f4 (fun q hq => .inr (by
      rcases hq with hq | hq
      · exact (h.places.lt q hq).1
      · omega))
  · have old : ∀ p ∈ pl, ∀ k, logFoot p.lb p.bm p.v k → k < wr.heap.size := fun p hp k hk => by
      have hl := h.logs p hp
      rcases hk with rfl | rfl | hk
      · exact hl.lt
      · exact hl.map.lt
      · exact (hl.row.lt k hk).2
    have neu : ∀ k, logFoot (X.heap.size + 1) X.heap.size (.slice none 0 0) k → X.heap.size ≤ k := fun k hk => by
      rcases hk with rfl | rfl | hk
      · omega
      · exact Nat.le_refl _
      · simp [Value.ownBlock] at hk
    intro i j p q hij hp hq k h1 h2
    rcases snoc_cases hp with ⟨_, hp'⟩ | ⟨hi, rfl⟩ <;> rcases snoc_cases hq with ⟨_, hq'⟩ | ⟨hj, rfl⟩
    · exact h.ap i j p q hij hp' hq' k h1 h2
    · have := old p (List.mem_of_getElem? hp') k h1
      have := neu k h2
      omega
    · have := old q (List.mem_of_getElem? hq') k h2
      have := neu k h1
      omega
    · omega

set_option maxRecDepth 100000 in
set_option maxHeartbeats 3200000 in
theorem new_good (w : World) {P Q T K : Int} (h : Good P Q T K) : Calls Tryz.prog 31 #[conf P Q T K] w fun r w' => ∃ xb pv pl, r = .returned (.tuple #[ptr xb, .int .i64 0]) ∧ HAt w' w.heap.size xb 0 (freshH P Q T K pv pl).risen ∧ (∀ p ∈ pl, p.s = emptyLog ∧ p.out = false) ∧ PlApart pl ∧ Fr (fun _ => False) w w' := by
  unfold conf
  obtain ⟨i0, hi0, hz0, hz1, hz2⟩ := info_parts (show (Tryz.prog.info? 98).map (fun i => (i.zero, i.size, i.bytes)) = some (some (.agg #[.pointer none, .bool false]), 2, 16) by kernel_rfl)
  have HG : Hid (Good P Q T K) := h
  have HP : Hid (decide (1 ≤ P ∧ P ≤ 6) = true) := decide_eq_true h.1
  have HQ : Hid (decide (1 ≤ Q ∧ Q ≤ 4) = true) := decide_eq_true h.2.1
  have HT : Hid (decide (1 ≤ T ∧ T ≤ 50) = true) := decide_eq_true h.2.2.1
  have HK : Hid (decide (1 ≤ K ∧ K ≤ 16) = true) := decide_eq_true h.2.2.2
  have hq1 := h.2.1.1
  have hq2 := h.2.1.2
  clear h
  go_enter Tryz.func31, Tryz.ntmps31
  go_wp2_with (go_at_call 70; refine (from1_any _ _ _).mono ?_; (first | rw [HP.out] | rw [HQ.out] | rw [HT.out] | rw [HK.out]); rintro e w1 ⟨rfl, rfl⟩)
  go_loopw [32] (fun i w' => ∃ k : Nat, (k : Int) ≤ Q ∧ i = .int .i64 k ∧ ∃ pv pl, Making w w' P Q T K k pv pl) (fun i _ => (Q - intOf i).toNat)
  case atStart =>
    refine ⟨0, by omega, rfl, .slice none 0 0, [], ?_, rfl, World.ownsRow_nil _ _ _ _, fun p hp => by simp at hp, fun p hp => by simp at hp, ((Fr.refl _ _).alloc _).alloc _, fun i j p q _ hp => by simp at hp⟩
    exact alloc_at _ (by simp)
  case round =>
    obtain ⟨k, hk, rfl, pv, pl, hm⟩ := hrel
    have HM : Hid (Making w wr P Q T K k pv pl) := hm
    have c50 : wr.cell? ⟨w.heap.size + 1, 68, none⟩ = some pv := by rw [cell_of_cells hm.blk]; rfl
    have cf : ∀ o, wr.frozen? ⟨w.heap.size + 1, o, none⟩ = false := frozen_of_cells hm.blk
    have hx := lt_of_block hm.blk
    have hlen := hm.len
    obtain ⟨pa, pc, rfl, _⟩ := anyRow_len hm.places
    subst hlen
    clear hm
    by_cases hlt : (pl.length : Int) < Q
    · have hl4 : pl.length < 4 := by omega
      have hpx : Value.ownBlock (.slice pa pl.length pc) ≠ some (w.heap.size + 1) := row_ne_blk HM.out.places HM.out.blk (by decide)
      go_wp2_with fail
      go_region_law
        (first
          | (go_simp; go_at_call 71; refine (new_any _).mono ?_; rintro e w1 ⟨rfl, hl1, hf1⟩
             have L1 : Hid (LogAt w1 wr.drew.heap.size (wr.drew.heap.size + 1) wr.drew.heap.size (.slice none 0 0) 0 emptyLog) := hl1
             have F1 : Hid (Fr (fun _ => False) wr.drew w1) := hf1
             have FW : Hid (Fr (fun _ => False) wr w1) := (Fr.dr _).trans hf1 (fun _ h => h.elim)
             have hwz : w.heap.size ≤ w1.heap.size := Nat.le_trans HM.out.fr.size FW.out.size
             have q50 : w1.cell? ⟨w.heap.size + 1, 68, none⟩ = some (.slice pa pl.length pc) := (hf1.cell (p := ⟨w.heap.size + 1, 68, none⟩) hx id).trans c50
             have qf : ∀ o, w1.frozen? ⟨w.heap.size + 1, o, none⟩ = false := frozen_of_cells ((hf1.block _ hx id).trans HM.out.blk)
             have hx1 : w.heap.size + 1 < w1.heap.size := Nat.lt_of_lt_of_le hx hf1.size
             clear hl1 hf1)
          | (refine step_append_lies _ (by rfl) _ _ _ (by rfl) w.heap.size 98 i0 _ 2 16 Tryz.underlying106 hi0 hz0 hz1 hz2 rfl (by omega) (.slice pa pl.length pc) pl.length (plCells pl) (by rfl) ((FW.out.alloc _).ownsRow HM.out.places (fun _ _ => id)) ⟨w1.heap.size, 0, none⟩ 1 1 [.pointer (some ⟨wr.heap.size + 1, 0, none⟩), .bool false] (by rfl) (by rfl) (World.news_of_block (cs := #[.pointer (some ⟨wr.heap.size + 1, 0, none⟩), .bool false]) (t := 98) (fr := (0, 0)) (heap_alloc_new _ _)) (by simp [Value.oneCell']) (by omega) (by simp only [maxLen]; omega) (by omega) (by simp; omega) (w1.heap.size + 1) (by simp) ?_; intro gg cap w3 hown hgrow hat hlt3; have r50 := (hgrow.cell_far ⟨w.heap.size + 1, 68, none⟩ (by simp; omega) (Ne.symm hpx)); have rf := (hgrow.frozen_far ⟨w.heap.size + 1, 68, none⟩ (by simp; omega) (Ne.symm hpx)); rw [World.cell?_alloc_past _ _ _ hx1, q50] at r50; rw [frozen_alloc hx1, qf] at rf))
      all_goals
        go_wp2
        go_roundw
        case rel =>
          refine ⟨pl.length + 1, by omega, by go_num, _, _, HM.out.step (X := wr.drew) (W := w1.alloc (.cells #[.pointer (some ⟨wr.heap.size + 1, 0, none⟩), .bool false] 98)) (Fr.dr _) L1.out F1.out (nofr _) hgrow hown ?_⟩
          intro q hq
          simp only [Value.ownBlock, Option.some.injEq] at hq
          subst hq
          rcases hat with a | a
          · exact .inl a
          · exact .inr (by have := FW.out.size; omega)
        case measure => simp [intOf]; omega
    · have hlQ : (pl.length : Int) = Q := by omega
      have HH : Hid (HAt wr w.heap.size (w.heap.size + 1) 0 (freshH P Q T K (.slice pa pl.length pc) pl)) := ⟨HM.out.blk, World.ownsRow_nil _ _ _ _, HM.out.places, World.ownsRow_nil _ _ _ _, HM.out.logs, by omega, HG.out.1, ⟨hlQ.symm, HG.out.2.1⟩, rfl⟩
      go_wp2_with (go_at_call 68; refine (rise_nil HH.out rfl).mono ?_; rintro e w2 ⟨rfl, hr, hf⟩; have HR : Hid (HAt w2 w.heap.size (w.heap.size + 1) 0 (freshH P Q T K (.slice pa pl.length pc) pl).risen) := hr; have HF : Hid (Fr (fun k => k = w.heap.size + 1) wr w2) := hf; clear hr hf)
      go_ret2
      exact ⟨_, _, _, rfl, HR.out, HM.out.new, HM.out.ap, HM.out.fr.trans HF.out (fun q hq => .inr (by omega))⟩

end Go.Proofs.YtkelpcjiediamaaGreat

