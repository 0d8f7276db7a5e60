/-
  The walk of News: every New, and what can be asked of a new herald.
-/
import Derived.Test.YtkelpcjiediamaaGreatFresh2
namespace Go.Proofs.YtkelpcjiediamaaGreat
open Go.RowKit Go.Maps

theorem HAt.base {w : World} {B B' xb n : Nat} {h : HS} (hh : HAt w B xb n h) (hB : B' ≤ B) : HAt w B' xb n h :=
  ⟨hh.blk, ownsRow_base hh.jour hB, ownsRow_base hh.places hB, ownsRow_base hh.flight hB, fun p hp => (hh.logs p hp).base hB, Nat.le_trans hB hh.hx, hh.hP, hh.hQ, hh.h6⟩

theorem RefAt.base {w : World} {B B' yb : Nat} {u : Value} {L : List Ent} (h : RefAt w B yb u L) (hB : B' ≤ B) : RefAt w B' yb u L :=
  ⟨h.blk, ownsRow_base h.row hB, Nat.le_trans hB h.hy⟩

theorem YAt.base {w : World} {B B' yb : Nat} {y : RS} (h : YAt w B yb y) (hB : B' ≤ B) : YAt w B' yb y :=
  ⟨h.blk, ownsRow_base h.recs hB, ownsRow_base h.dues hB, ownsRow_base h.heard hB, ownsRow_base h.logs hB, ownsRow_base h.outs hB, ownsRow_base h.net hB, fun g hg => (h.refs g hg).base hB, Nat.le_trans hB h.hy, h.hP, h.hQ⟩

set_option maxRecDepth 100000 in
set_option maxHeartbeats 1600000 in
theorem made_bad (w : World) {P Q T K : Int} (h : ¬ Good P Q T K) : Calls Tryz.prog 11 #[conf P Q T K] w fun r w' => r = .returned (.tuple #[.pointer none, .bool true]) ∧ Fr (fun _ => False) w w' := by
  have HG : Hid (¬ Good P Q T K) := h
  clear h
  unfold conf
  go_enter Tryz.func11, Tryz.ntmps11
  go_wp2_with (first
    | (go_at_call 31; refine (show Calls Tryz.prog 31 #[conf P Q T K] _ _ from new_bad _ HG.out).mono ?_; rintro e w1 ⟨rfl, hf1⟩
       have F1 : Hid (Fr (fun _ => False) w w1) := (nofr _).trans hf1 (fun _ h => h.elim)
       have k0 : w1.cell? ⟨w.heap.size, 0, none⟩ = some (.int .i64 P) := Fr.box (S := fun _ => False) hf1 id 0
       have k1 : w1.cell? ⟨w.heap.size, 1, none⟩ = some (.int .i64 Q) := Fr.box (S := fun _ => False) hf1 id 1
       have k2 : w1.cell? ⟨w.heap.size, 2, none⟩ = some (.int .i64 T) := Fr.box (S := fun _ => False) hf1 id 2
       have k3 : w1.cell? ⟨w.heap.size, 3, none⟩ = some (.int .i64 K) := Fr.box (S := fun _ => False) hf1 id 3
       clear hf1)
    | (go_at_call 32; refine (show Calls Tryz.prog 32 #[conf P Q T K] _ _ from ynew_bad _ HG.out).mono ?_; rintro e w2 ⟨rfl, hf2⟩
       have F2 : Hid (Fr (fun _ => False) w w2) := F1.out.trans hf2 (fun _ h => h.elim)
       clear hf2))
  go_ret2
  exact ⟨rfl, F2.out⟩

/-- Two new heralds and an empty book. -/
structure Begun (w w' : World) (wb xb yb bb : Nat) (h : HS) (y : RS) (o : BookS) : Prop where
  fresh : Fresh w' w.heap.size xb yb h y true
  scn : Scn w' w.heap.size (duoF wb xb yb h y) wb xb yb bb 0 o
  hw1 : ¬ h.foot xb wb
  hw2 : ¬ y.foot yb wb
  fr : Fr (fun _ => False) w w'

def book0 : BookS := ⟨.slice none 0 0, .slice none 0 0, .slice none 0 0, [], [], []⟩

theorem begun {w w1 w2 : World} {p q : Nat} {T K : Int} {xb yb : Nat} {pv hv ov gv : Value} {pl : List PL} {G : List GL}
    (h1 : HAt w1 (w.alloc (.cells #[.int .i64 p, .int .i64 q, .int .i64 T, .int .i64 K] 23)).heap.size xb 0 (freshH p q T K pv pl).risen) (n1 : ∀ x ∈ pl, x.s = emptyLog ∧ x.out = false) (f1 : Fr (fun _ => False) (w.alloc (.cells #[.int .i64 p, .int .i64 q, .int .i64 T, .int .i64 K] 23)) w1)
    (h2 : YAt w2 w1.heap.size yb (freshY p q T K (List.replicate p 0) (List.replicate q false) hv ov gv G)) (n2 : ∀ g ∈ G, g.L = []) (f2 : Fr (fun _ => False) w1 w2) :
    Begun w ((w2.alloc (.cells #[.slice none 0 0, .slice none 0 0, .slice none 0 0] 84)).alloc (.cells #[ptr xb, ptr yb, ptr w2.heap.size] 37)) (w2.heap.size + 1) xb yb w2.heap.size (freshH p q T K pv pl).risen (freshY p q T K (List.replicate p 0) (List.replicate q false) hv ov gv G) book0 := by
  have z1 : w.heap.size ≤ (w.alloc (.cells #[.int .i64 p, .int .i64 q, .int .i64 T, .int .i64 K] 23)).heap.size := (nofr _).size
  have z2 := f1.size
  have z3 := f2.size
  have FF : Fr (fun _ => False) w2 ((w2.alloc (.cells #[.slice none 0 0, .slice none 0 0, .slice none 0 0] 84)).alloc (.cells #[ptr xb, ptr yb, ptr w2.heap.size] 37)) := (nofr _).alloc _
  have hx2 : HAt w2 w.heap.size xb 0 (freshH p q T K pv pl).risen := (h1.after f2).base z1
  have hy2 : YAt w2 w.heap.size yb (freshY p q T K (List.replicate p 0) (List.replicate q false) hv ov gv G) := h2.base (by omega)
  have hF : ∀ k, (freshH p q T K pv pl).risen.foot xb k ∨ (freshY p q T K (List.replicate p 0) (List.replicate q false) hv ov gv G).foot yb k → k < w2.heap.size ∧ w.heap.size ≤ k := fun k hk => by
    rcases hk with hk | hk
    · exact hx2.foot_lt hk
    · exact hy2.foot_lt hk
  have fresh : Fresh ((w2.alloc (.cells #[.slice none 0 0, .slice none 0 0, .slice none 0 0] 84)).alloc (.cells #[ptr xb, ptr yb, ptr w2.heap.size] 37)) w.heap.size xb yb (freshH p q T K pv pl).risen (freshY p q T K (List.replicate p 0) (List.replicate q false) hv ov gv G) true :=
    ⟨hx2.after FF, hy2.after FF, rfl, rfl, rfl, rfl, rfl, rfl, n1, rfl, rfl, rfl, n2, fun o ho => List.eq_of_mem_replicate ho, rfl, rfl⟩
  refine ⟨fresh, ⟨alloc_at _ (by simp), .inl rfl, ⟨((nofr _).block _ (by simp) id).trans (heap_alloc_new _ _), ⟨World.ownsRow_nil _ _ _ _, fun o ho => by simp [book0] at ho⟩, ⟨World.ownsRow_nil _ _ _ _, fun o ho => by simp [book0] at ho⟩, ⟨World.ownsRow_nil _ _ _ _, fun o ho => by simp [book0] at ho⟩, by omega⟩, ?_, ?_, ?_, by simp [book0], by simp [book0], by simp [book0], fun q hq => by simp [book0] at hq⟩, ?_, ?_, ?_⟩
  · intro k hk ha
    have hk2 : k = w2.heap.size := by
      rcases ha with (ha | ha | ha | ha) | ⟨q, hq, _⟩
      · exact ha
      · simp [book0, Value.ownBlock] at ha
      · simp [book0, Value.ownBlock] at ha
      · simp [book0, Value.ownBlock] at ha
      · simp [book0] at hq
    rcases hk with hk | hk
    · omega
    · have := (hF k hk).1; omega
  · intro k hk
    rcases hk with hk | hk
    · simp; omega
    · have := (hF k hk).1; simp; omega
  · intro k hk
    rcases hk with hk | hk
    · omega
    · exact (hF k hk).2
  · intro hk
    have := (hF _ (.inl hk)).1; omega
  · intro hk
    have := (hF _ (.inr hk)).1; omega
  · exact (((nofr _).trans f1 (fun _ h => h.elim)).trans f2 (fun _ h => h.elim)).trans FF (fun _ h => h.elim)

set_option maxRecDepth 100000 in
set_option maxHeartbeats 1600000 in
theorem made_good (w : World) {p q : Nat} {T K : Int} (h : Good p q T K) : Calls Tryz.prog 11 #[conf p q T K] w fun r w' => ∃ wb xb yb bb hs y o, r = .returned (.tuple #[ptr wb, .bool true]) ∧ Begun w w' wb xb yb bb hs y o := by
  have HG : Hid (Good p q T K) := h
  clear h
  unfold conf
  go_enter Tryz.func11, Tryz.ntmps11
  go_wp2_with (first
    | (go_at_call 31; refine (show Calls Tryz.prog 31 #[conf p q T K] _ _ from new_good _ HG.out).mono ?_; rintro e w1 ⟨xb, pv, pl, rfl, hx1, hn1, hf1⟩
       have k0 : w1.cell? ⟨w.heap.size, 0, none⟩ = some (.int .i64 p) := Fr.box (S := fun _ => False) hf1 id 0
       have k1 : w1.cell? ⟨w.heap.size, 1, none⟩ = some (.int .i64 q) := Fr.box (S := fun _ => False) hf1 id 1
       have k2 : w1.cell? ⟨w.heap.size, 2, none⟩ = some (.int .i64 T) := Fr.box (S := fun _ => False) hf1 id 2
       have k3 : w1.cell? ⟨w.heap.size, 3, none⟩ = some (.int .i64 K) := Fr.box (S := fun _ => False) hf1 id 3
       have F1 : Hid (Fr (fun _ => False) (w.alloc (.cells #[.int .i64 p, .int .i64 q, .int .i64 T, .int .i64 K] 23)) w1) := hf1
       have X1 : Hid (HAt w1 (w.alloc (.cells #[.int .i64 p, .int .i64 q, .int .i64 T, .int .i64 K] 23)).heap.size xb 0 (freshH p q T K pv pl).risen) := hx1
       have N1 : Hid (∀ x ∈ pl, x.s = emptyLog ∧ x.out = false) := hn1
       clear hf1 hx1 hn1; unfold ptr)
    | (go_at_call 32; refine (show Calls Tryz.prog 32 #[conf p q T K] _ _ from ynew_good _ HG.out).mono ?_; rintro e w2 ⟨yb, hv, ov, gv, G, rfl, hy2, hn2, hf2⟩
       have F2 : Hid (Fr (fun _ => False) w1 w2) := hf2
       have Y2 : Hid (YAt w2 w1.heap.size yb (freshY p q T K (List.replicate p 0) (List.replicate q false) hv ov gv G)) := hy2
       have N2 : Hid (∀ g ∈ G, g.L = []) := hn2
       clear hf2 hy2 hn2; unfold ptr))
  go_ret2
  exact ⟨_, _, _, _, _, _, _, rfl, begun X1.out N1.out F1.out Y2.out N2.out F2.out⟩

set_option maxRecDepth 100000 in
set_option maxHeartbeats 1600000 in
theorem plays_nil (w : World) (P Q T K : Int) : Calls Tryz.prog 10 #[conf P Q T K, .slice none 0 0] w fun r w' => r = .returned (.bool true) ∧ Fr (fun k => w.heap.size ≤ k) w w' := by
  by_cases h : Good P Q T K
  · obtain ⟨p, rfl⟩ := Int.eq_ofNat_of_zero_le (show 0 ≤ P by have := h.1.1; omega)
    obtain ⟨q, rfl⟩ := Int.eq_ofNat_of_zero_le (show 0 ≤ Q by have := h.2.1.1; omega)
    have HG : Hid (Good p q T K) := h
    clear h
    unfold conf
    go_enter Tryz.func10, Tryz.ntmps10
    go_wp2_with (fail)
    refine (show Calls Tryz.prog 11 #[conf p q T K] _ _ from made_good _ HG.out).mono ?_
    rintro e w1 ⟨wb, xb, yb, bb, hs, y, o, rfl, hb⟩
    have HB : Hid (Begun (w.alloc (.cells #[.int .i64 p, .int .i64 q, .int .i64 T, .int .i64 K] 23)) w1 wb xb yb bb hs y o) := hb
    clear hb
    unfold ptr
    go_wp2_with (fail)
    go_loopw [7] (fun i w' => i = .int .i64 0 ∧ w' = w1) (fun _ _ => 0)
    case atStart => exact ⟨rfl, rfl⟩
    case round =>
      obtain ⟨rfl, rfl⟩ := hrel
      go_wp2_with (fail)
      have hl := last_any HB.out.scn HB.out.fresh.ask (by omega) (HB.out.fresh.last HB.out.hw1 HB.out.hw2 (lt_of_block HB.out.scn.blk))
      refine (show Calls Tryz.prog 14 #[ptr wb] wr _ from hl).mono ?_
      rintro e w2 ⟨rfl, hf2⟩
      have F2 : Hid (Fr (fun k => (w.alloc (.cells #[.int .i64 p, .int .i64 q, .int .i64 T, .int .i64 K] 23)).heap.size ≤ k) wr w2) := hf2
      clear hf2 hl
      go_wp2_with (fail)
      go_ret
      refine ⟨rfl, ?_⟩
      have z : w.heap.size ≤ (w.alloc (.cells #[.int .i64 p, .int .i64 q, .int .i64 T, .int .i64 K] 23)).heap.size := (nofr _).size
      exact (((nofr _).trans HB.out.fr (fun _ h => h.elim)).mono (fun _ h => h.elim) : Fr (fun k => w.heap.size ≤ k) w wr).trans F2.out (fun k hk => .inl (Nat.le_trans z hk))
  · have HG : Hid (¬ Good P Q T K) := h
    clear h
    unfold conf
    go_enter Tryz.func10, Tryz.ntmps10
    go_wp2_with (go_at_call 11; refine (show Calls Tryz.prog 11 #[conf P Q T K] _ _ from made_bad _ HG.out).mono ?_; rintro e w1 ⟨rfl, hf1⟩; have F1 : Hid (Fr (fun _ => False) w w1) := (nofr _).trans hf1 (fun _ h => h.elim); clear hf1)
    go_ret
    exact ⟨rfl, F1.out.mono (fun _ h => h.elim)⟩

set_option maxRecDepth 100000 in
theorem news_any (w : World) (P Q T K : Int) : Calls Tryz.prog 3 #[conf P Q T K] w fun r w' => r = .returned (.bool true) ∧ Below w.heap.size w w' := by
  unfold conf
  go_enter Tryz.func3, Tryz.ntmps3
  go_wp2_with (fail)
  refine (show Calls Tryz.prog 10 #[conf P Q T K, .slice none 0 0] _ _ from plays_nil _ P Q T K).mono ?_
  rintro e w1 ⟨rfl, hf1⟩
  have F1 : Hid (Fr (fun k => w.heap.size ≤ k) w w1) := ((nofr _).mono (fun _ h => h.elim) : Fr (fun k => w.heap.size ≤ k) w _).trans hf1 (fun k hk => .inl (Nat.le_trans (nofr _).size hk))
  clear hf1
  go_wp2_with (fail)
  go_ret
  exact ⟨rfl, F1.out.below (Nat.le_refl _) (fun _ h => h)⟩

end Go.Proofs.YtkelpcjiediamaaGreat
