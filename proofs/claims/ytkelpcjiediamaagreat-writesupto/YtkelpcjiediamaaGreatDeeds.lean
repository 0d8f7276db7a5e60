/-
  What a record does: the closures of the table of deeds.
-/
import Derived.Test.YtkelpcjiediamaaGreatDuo
import Derived.BigRegion
namespace Go.Proofs.YtkelpcjiediamaaGreat
open Go.RowKit Go.Maps

def HS.setP (h : HS) (i : Nat) (x : PS) : HS := { h with ps := h.ps.set i x }

theorem psCells_set : ∀ (l : List PS) (i j : Nat) (x x' : PS) (v : Value), l[i]? = some x → j < 10 → x'.cs = x.cs.set j v → (l.flatMap PS.cs).set (i * 10 + j) v = (l.set i x').flatMap PS.cs
  | [], i, j, x, x', v, h, _, _ => by simp at h
  | y :: r, 0, j, x, x', v, h, hj, hx => by
    simp only [List.getElem?_cons_zero, Option.some.injEq] at h
    subst h
    simp only [List.flatMap_cons, List.set_cons_zero, Nat.zero_mul, Nat.zero_add]
    rw [List.set_append_left _ _ (by simp [PS.cs]; omega), hx]
  | y :: r, i + 1, j, x, x', v, h, hj, hx => by
    simp only [List.getElem?_cons_succ] at h
    have := psCells_set r i j x x' v h hj hx
    simp only [List.flatMap_cons, List.set_cons_succ]
    rw [List.set_append_right _ _ (by simp [PS.cs]; omega), ← this]
    congr 2
    simp [PS.cs]; omega

theorem HS.set_cell {h : HS} {i j : Nat} {x x' : PS} {v : Value} (hx : h.ps[i]? = some x) (hj : j < 10) (hv : x'.cs = x.cs.set j v) : h.cells.toArray.setIfInBounds (6 + i * 10 + j) v = (h.setP i x').cells.toArray := by
  have hk := (List.getElem?_eq_some_iff.1 hx).1
  rw [List.setIfInBounds_toArray]
  congr 1
  unfold HS.cells HS.setP
  simp only
  rw [List.set_append_right _ _ (by simp; omega), List.set_append_left _ _ (by rw [psCells_len]; simp only [List.length_cons, List.length_nil]; omega), ← psCells_set h.ps i j x x' v hx hj hv]
  congr 3
  simp; omega

theorem setP_get {h : HS} {i : Nat} {x x' : PS} (hx : h.ps[i]? = some x) : (h.setP i x').ps[i]? = some x' := by
  have hk := (List.getElem?_eq_some_iff.1 hx).1
  simp [HS.setP, hk]

theorem getD_cs (x : PS) {q : Nat} (hq : q < 4) : x.cs[3 + q]? = some (.int .i64 (x.ties.getD q 0)) := by
  match q, hq with
  | 0, _ | 1, _ | 2, _ | 3, _ => rfl

theorem tie_cs (x : PS) {q : Nat} (hq : q < 4) (v : Int) : (x.tie q v).cs = x.cs.set (3 + q) (.int .i64 v) := by
  match q, hq with
  | 0, _ | 1, _ | 2, _ | 3, _ => rfl

theorem setP_setP (h : HS) (i : Nat) (x x' : PS) : (h.setP i x).setP i x' = h.setP i x' := by simp [HS.setP]

section
variable {w w' : World} {B xb n : Nat} {h : HS}

/-- One cell of what the keeper knows of a producer is written. -/
theorem HAt.setCell (hh : HAt w B xb n h) {i j : Nat} {x : PS} (x' : PS) {v : Value} (hx : h.ps[i]? = some x) (hj : j < 10) (hv : x'.cs = x.cs.set j v) : HAt (w.setCell ⟨xb, 6 + i * 10 + j, none⟩ v) B xb n (h.setP i x') ∧ Fr (fun k => k = xb) w (w.setCell ⟨xb, 6 + i * 10 + j, none⟩ v) := by
  have f : Fr (fun k => k = xb) w (w.setCell ⟨xb, 6 + i * 10 + j, none⟩ v) := (Fr.refl (fun k => k = xb) w).setCell (p := ⟨xb, 6 + i * 10 + j, none⟩) (.inl rfl) v
  refine ⟨hh.put f ?_ rfl rfl rfl rfl rfl rfl rfl rfl (by simp [HS.setP, hh.h6]), f⟩
  rw [setCell_cells hh.blk, HS.set_cell hx hj hv]

/-- The keeper's address stands in block b. -/
abbrev KAt (w : World) (b xb : Nat) : Prop := w.heap[b]? = some (.cells #[.pointer (some ⟨xb, 4, none⟩)] 181 (0, 0))

theorem HAt.cellP (hh : HAt w B xb n h) {i : Nat} {x : PS} (hx : h.ps[i]? = some x) :
    (w.cell? ⟨xb, 6 + i * 10, none⟩ = some (.int .i64 x.e) ∧ w.cell? ⟨xb, 6 + i * 10 + 1, none⟩ = some (.int .i64 x.t) ∧ w.cell? ⟨xb, 6 + i * 10 + 2, none⟩ = some (.int .i64 x.s)) ∧ (∀ o, w.frozen? ⟨xb, o, none⟩ = false) :=
  ⟨⟨hh.cps hx 0 _ rfl, hh.cps hx 1 _ rfl, hh.cps hx 2 _ rfl⟩, frozen_of_cells hh.blk⟩

set_option maxRecDepth 100000 in
set_option maxHeartbeats 1600000 in
theorem deed1_any (hh : HAt w B xb n h) {b i : Nat} (hb : KAt w b xb) (hi : i < 6) {x : PS} (hx : h.ps[i]? = some x) (k a m : Int) :
    Calls Tryz.prog 179 #[.agg #[.int .i64 k, .int .i64 i, .int .i64 a, .int .i64 m], .pointer (some ⟨b, 0, none⟩)] w fun e w' => e = .returned (.tuple #[]) ∧ HAt w' B xb n (h.setP i { x with e := m }) ∧ Fr (fun k => k = xb) w w' := by
  have HH : Hid (HAt w B xb n h) := hh
  have HX : Hid (h.ps[i]? = some x) := hx
  have k0 : w.cell? ⟨b, 0, none⟩ = some (.pointer (some ⟨xb, 4, none⟩)) := by rw [cell_of_cells hb]; rfl
  have hbl := lt_of_block hb
  have hxl := lt_of_block hh.blk
  obtain ⟨⟨e0, e1, e2⟩, ef⟩ := hh.cellP hx
  have hi0 : (0 : Int) ≤ (i : Int) := by omega
  have hi1 : (i : Int) < 6 := by omega
  clear hh hx hb
  go_enter Tryz.func179, Tryz.ntmps179
  go_wp2_with fail
  go_region
  go_end0
  have hs := HH.out.setCell { x with e := m } (j := 0) (v := .int .i64 m) HX.out (by omega) rfl
  have fa : Fr (fun _ => False) (w.setCell ⟨xb, 6 + i * 10, none⟩ (.int .i64 m)) ((w.setCell ⟨xb, 6 + i * 10, none⟩ (.int .i64 m)).alloc (.cells #[.int .i64 k, .int .i64 i, .int .i64 a, .int .i64 m] 184)).drew := (nofr _).drew
  exact ⟨rfl, hs.1.after fa, hs.2.trans fa (fun _ h => h.elim)⟩

set_option maxRecDepth 100000 in
set_option maxHeartbeats 1600000 in
theorem deed2_any (hh : HAt w B xb n h) {b i q : Nat} (hb : KAt w b xb) (hi : i < 6) (hq : q < 4) {x : PS} (hx : h.ps[i]? = some x) (k m : Int) :
    Calls Tryz.prog 180 #[.agg #[.int .i64 k, .int .i64 i, .int .i64 q, .int .i64 m], .pointer (some ⟨b, 0, none⟩)] w fun e w' => e = .returned (.tuple #[]) ∧ HAt w' B xb n (h.setP i (({ x with s := 1, t := m } : PS).tie q 1)) ∧ Fr (fun k => k = xb) w w' := by
  have HH : Hid (HAt w B xb n h) := hh
  have HX : Hid (h.ps[i]? = some x) := hx
  have k0 : w.cell? ⟨b, 0, none⟩ = some (.pointer (some ⟨xb, 4, none⟩)) := by rw [cell_of_cells hb]; rfl
  have hbl := lt_of_block hb
  have hxl := lt_of_block hh.blk
  obtain ⟨⟨e0, e1, e2⟩, ef⟩ := hh.cellP hx
  have e3 : w.cell? ⟨xb, 6 + i * 10 + 3 + q, none⟩ = some (.int .i64 (x.ties.getD q 0)) := by
    match q, hq with
    | 0, _ => exact hh.cps hx 3 _ rfl
    | 1, _ => exact hh.cps hx 4 _ rfl
    | 2, _ => exact hh.cps hx 5 _ rfl
    | 3, _ => exact hh.cps hx 6 _ rfl
  have hi0 : (0 : Int) ≤ (i : Int) := by omega
  have hi1 : (i : Int) < 6 := by omega
  have hq0 : (0 : Int) ≤ (q : Int) := by omega
  have hq1 : (q : Int) < 4 := by omega
  clear hh hx hb
  go_enter Tryz.func180, Tryz.ntmps180
  go_wp2_with fail
  go_region
  go_wp2_with fail
  go_region
  go_wp2_with fail
  go_region
  go_end0
  have s1 := HH.out.setCell { x with s := 1 } (j := 2) (v := .int .i64 1) HX.out (by omega) rfl
  have s2 := s1.1.setCell { x with s := 1, t := m } (j := 1) (v := .int .i64 m) (setP_get HX.out) (by omega) rfl
  rw [setP_setP] at s2
  have s3 := s2.1.setCell (({ x with s := 1, t := m } : PS).tie q 1) (j := 3 + q) (v := .int .i64 1) (setP_get HX.out) (by omega) (tie_cs _ hq 1)
  rw [setP_setP, ← Nat.add_assoc] at s3
  refine ⟨rfl, ?_, ?_⟩
  · exact s3.1.after (((nofr _).drew).drew).drew
  · exact ((s1.2.trans s2.2 (fun _ => .inl)).trans s3.2 (fun _ => .inl)).trans (((nofr _).drew).drew).drew (fun _ h => h.elim)

theorem info102 : (Tryz.prog.info? 102).map (·.size) = some 10 := by kernel_rfl

theorem psCells_setAll : ∀ (l : List PS) (i : Nat) (x x' : PS), l[i]? = some x → ∃ u v, l.flatMap PS.cs = u ++ (x.cs ++ v) ∧ u.length = i * 10 ∧ (l.set i x').flatMap PS.cs = u ++ (x'.cs ++ v)
  | [], i, x, x', h => by simp at h
  | y :: r, 0, x, x', h => by
    simp only [List.getElem?_cons_zero, Option.some.injEq] at h
    subst h
    exact ⟨[], r.flatMap PS.cs, by simp, by simp, by simp⟩
  | y :: r, i + 1, x, x', h => by
    simp only [List.getElem?_cons_succ] at h
    obtain ⟨u, v, h1, h2, h3⟩ := psCells_setAll r i x x' h
    exact ⟨y.cs ++ u, v, by simp [h1], by simp [h2, PS.cs]; omega, by simp [h3]⟩

theorem setArr_mid : ∀ (vs us pre post : List Value), us.length = vs.length → setArr (pre ++ (us ++ post)).toArray pre.length vs = (pre ++ (vs ++ post)).toArray
  | [], us, pre, post, h => by
    have : us = [] := List.length_eq_zero_iff.1 h
    subst this
    rfl
  | v :: vs, us, pre, post, h => by
    match us, h with
    | u :: us, h =>
      rw [setArr, List.setIfInBounds_toArray]
      have e1 : (pre ++ (u :: us ++ post)).set pre.length v = (pre ++ [v]) ++ (us ++ post) := by
        rw [List.set_append_right _ _ (Nat.le_refl _)]
        simp
      rw [e1]
      have := setArr_mid vs us (pre ++ [v]) post (by simpa using h)
      rw [List.length_append, List.length_singleton] at this
      rw [this]
      simp

theorem HS.set_all {h : HS} {i : Nat} {x : PS} (x' : PS) (hx : h.ps[i]? = some x) : setArr h.cells.toArray (6 + i * 10) x'.cs = (h.setP i x').cells.toArray := by
  obtain ⟨u, v, h1, h2, h3⟩ := psCells_setAll h.ps i x x' hx
  unfold HS.setP HS.cells
  simp only
  rw [h1, h3]
  have := setArr_mid x'.cs x.cs ([.int .i64 h.P, .int .i64 h.Q, .int .i64 h.T, .int .i64 h.K, h.jv, .bool h.up] ++ u) (v ++ [.bool h.br, .int .i64 h.kp, h.pv, h.fv]) rfl
  rw [List.length_append, h2] at this
  simp only [List.append_assoc, List.length_cons, List.length_nil] at this ⊢
  exact this

set_option maxRecDepth 100000 in
set_option maxHeartbeats 1600000 in
theorem deed4_any (hh : HAt w B xb n h) {b i : Nat} (hb : KAt w b xb) (hi : i < 6) {x : PS} (hx : h.ps[i]? = some x) (k a m : Int) :
    Calls Tryz.prog 182 #[.agg #[.int .i64 k, .int .i64 i, .int .i64 a, .int .i64 m], .pointer (some ⟨b, 0, none⟩)] w fun e w' => e = .returned (.tuple #[]) ∧ HAt w' B xb n (h.setP i ⟨x.e, x.t, 0, 0, 0, 0, 0, 0, 0, 0⟩) ∧ Fr (fun k => k = xb) w w' := by
  have HH : Hid (HAt w B xb n h) := hh
  have HX : Hid (h.ps[i]? = some x) := hx
  have k0 : w.cell? ⟨b, 0, none⟩ = some (.pointer (some ⟨xb, 4, none⟩)) := by rw [cell_of_cells hb]; rfl
  have hbl := lt_of_block hb
  have hxl := lt_of_block hh.blk
  obtain ⟨⟨e0, e1, e2⟩, ef⟩ := hh.cellP hx
  have e3 : w.cell? ⟨xb, 6 + i * 10 + 3, none⟩ = some (.int .i64 x.a) := hh.cps hx 3 _ rfl
  have e4 : w.cell? ⟨xb, 6 + i * 10 + 4, none⟩ = some (.int .i64 x.b) := hh.cps hx 4 _ rfl
  have e5 : w.cell? ⟨xb, 6 + i * 10 + 5, none⟩ = some (.int .i64 x.c) := hh.cps hx 5 _ rfl
  have e6 : w.cell? ⟨xb, 6 + i * 10 + 6, none⟩ = some (.int .i64 x.d) := hh.cps hx 6 _ rfl
  have e7 : w.cell? ⟨xb, 6 + i * 10 + 7, none⟩ = some (.int .i64 x.si) := hh.cps hx 7 _ rfl
  have e8 : w.cell? ⟨xb, 6 + i * 10 + 8, none⟩ = some (.int .i64 x.wa) := hh.cps hx 8 _ rfl
  have e9 : w.cell? ⟨xb, 6 + i * 10 + 9, none⟩ = some (.int .i64 x.ga) := hh.cps hx 9 _ rfl
  have hi0 : (0 : Int) ≤ (i : Int) := by omega
  have hi1 : (i : Int) < 6 := by omega
  clear hh hx hb
  go_enter Tryz.func182, Tryz.ntmps182
  go_wp2_with fail
  go_region
  go_wp2_with fail
  go_region
  go_end0
  have fs : Fr (fun k => k = xb) w (w.setCells xb (6 + i * 10) (⟨x.e, x.t, 0, 0, 0, 0, 0, 0, 0, 0⟩ : PS).cs) := Fr.setCells (S := fun k => k = xb) (.inl rfl) _ _ (Fr.refl _ _)
  have hs : HAt (w.setCells xb (6 + i * 10) (⟨x.e, x.t, 0, 0, 0, 0, 0, 0, 0, 0⟩ : PS).cs) B xb n (h.setP i ⟨x.e, x.t, 0, 0, 0, 0, 0, 0, 0, 0⟩) := by
    refine HH.out.put fs ?_ rfl rfl rfl rfl rfl rfl rfl rfl (by simp [HS.setP, HH.out.h6])
    rw [← HS.set_all _ HX.out]
    exact setCells_block _ _ HH.out.blk
  exact ⟨rfl, hs.after (((nofr _).drew).drew), fs.trans (((nofr _).drew).drew) (fun _ h => h.elim)⟩

theorem tiedL_mem (ts : List Int) (l : Int) : ∀ q ∈ tiedL ts l 4, ∃ q' : Nat, q = q' ∧ q' < 4 := by
  intro q hq
  simp only [tiedL, List.mem_map, List.mem_filter, List.mem_range] at hq
  obtain ⟨q', ⟨h1, _⟩, rfl⟩ := hq
  exact ⟨q', rfl, h1⟩

theorem row_some {w : World} {B : Nat} {ty : TypeId} {wd : Nat} {v : Value} {n : Nat} {xs : List Value} (h : w.ownsRow B ty wd v n xs) (hn : 0 < n) : ∃ g cap, v = .slice (some ⟨g, 0, none⟩) n cap ∧ n ≤ cap := by
  rcases h.2 with ⟨_, h0⟩ | ⟨g, cap, cur, hv, hb, hg, h1, h2, _⟩
  · omega
  · exact ⟨g, cap, hv, h1⟩

/-- What the parts that a transaction has come to. -/
def PS.pend (x : PS) : List Int → PS
  | [] => x
  | q :: r => (x.tie q 2).pend r

theorem PS.pend_snoc (x : PS) (l : List Int) (q : Int) : x.pend (l ++ [q]) = (x.pend l).tie q 2 := by
  induction l generalizing x with
  | nil => rfl
  | cons a r ih => exact ih (x.tie a 2)

set_option maxRecDepth 100000 in
set_option maxHeartbeats 1600000 in
theorem deed3_any (hh : HAt w B xb n h) {b i : Nat} (hb : KAt w b xb) (hi : i < 6) {x : PS} (hx : h.ps[i]? = some x) (k m : Int) {c : Bool} {a s' : Int} (ha : a = if c then 1 else 0) (hs' : s' = if c then 2 else 3) :
    Calls Tryz.prog 181 #[.agg #[.int .i64 k, .int .i64 i, .int .i64 a, .int .i64 m], .pointer (some ⟨b, 0, none⟩)] w fun e w' => e = .returned (.tuple #[]) ∧ HAt w' B xb n (h.setP i { ({ x with s := s' } : PS).pend (tiedL x.ties 1 4) with wa := 1, ga := 1 }) ∧ Fr (fun k => k = xb) w w' := by
  have HH : Hid (HAt w B xb n h) := hh
  have HX : Hid (h.ps[i]? = some x) := hx
  have k0 : w.cell? ⟨b, 0, none⟩ = some (.pointer (some ⟨xb, 4, none⟩)) := by rw [cell_of_cells hb]; rfl
  have hbl := lt_of_block hb
  have hxl := lt_of_block hh.blk
  obtain ⟨⟨e0, e1, e2⟩, ef⟩ := hh.cellP hx
  have hi0 : (0 : Int) ≤ (i : Int) := by omega
  have hi1 : (i : Int) < 6 := by omega
  clear hh hx hb
  cases c
  · obtain rfl : a = 0 := ha
    obtain rfl : s' = 3 := hs'
    go_enter Tryz.func181, Tryz.ntmps181
    go_wp2_with fail
    go_region
    go_wp2_with fail
    have hW := (HH.out.setCell { x with s := 3 } (j := 2) (v := .int .i64 3) HX.out (by omega) rfl)
    have fW : Fr (fun _ => False) (w.setCell ⟨xb, 6 + i * 10 + 2, none⟩ (.int .i64 3)) ((w.setCell ⟨xb, 6 + i * 10 + 2, none⟩ (.int .i64 3)).alloc (.cells #[.int .i64 k, .int .i64 i, .int .i64 0, .int .i64 m] 184)).drew := (nofr _).drew
    replace hW := (⟨hW.1.after fW, hW.2.trans fW (fun _ h => h.elim)⟩ : HAt _ B xb n (h.setP i { x with s := 3 }) ∧ Fr (fun k => k = xb) w _)
    generalize ((w.setCell ⟨xb, 6 + i * 10 + 2, none⟩ (.int .i64 3)).alloc (.cells #[.int .i64 k, .int .i64 i, .int .i64 0, .int .i64 m] 184)).drew = W at hW ⊢
    clear fW
    have HW : Hid (HAt W B xb n (h.setP i { x with s := 3 })) := hW.1
    have FW : Hid (Fr (fun k => k = xb) w W) := hW.2
    have bx : xb < W.heap.size := Nat.lt_of_lt_of_le hxl hW.2.size
    have HRG : Hid (∀ j v, ({ x with s := 3 } : PS).cs[j]? = some v → W.cell? ⟨xb, 6 + i * 10 + j, none⟩ = some v) := fun j v hv => hW.1.cps (setP_get HX.out) j v hv
    clear hW e0 e1 e2 ef
    refine (tied_any (p := { x with s := 3 }) HRG.out 1).mono ?_
    rintro e w1 ⟨v, rfl, hv, hf⟩
    have F1 : Hid (Fr (fun _ => False) W w1) := hf
    obtain ⟨S, hS⟩ : ∃ S, tiedL ({ x with s := 3 } : PS).ties 1 4 = S := ⟨_, rfl⟩
    have HS : Hid (tiedL x.ties 1 4 = S) := hS
    have HSM : Hid (∀ q ∈ S, ∃ q' : Nat, q = q' ∧ q' < 4) := by
      show ∀ q ∈ S, ∃ q' : Nat, q = q' ∧ q' < 4
      rw [← hS]; exact tiedL_mem _ _
    rw [hS] at hv
    have V1 : Hid (NewInts W w1 v S) := hv
    have H1 : Hid (HAt w1 B xb n (h.setP i { x with s := 3 })) := HW.out.after hf
    obtain ⟨va, vc, rfl, hvl⟩ := intRow_len hv
    have hsl : S.length ≤ 4 := by rw [← hS]; exact tiedL_len _ _ _
    clear hf hS hv hvl
    go_wp2_with fail
    go_loopw [24] (fun ii w' => ∃ j : Nat, j ≤ S.length ∧ ii = .int .i64 j ∧ HAt w' B xb n (h.setP i (({ x with s := 3 } : PS).pend (S.take j))) ∧ Fr (fun k => k = xb) w1 w') (fun ii _ => (S.length - intOf ii).toNat)
    case atStart => exact ⟨0, by omega, rfl, H1.out, Fr.refl _ _⟩
    case round =>
      obtain ⟨j, hj, rfl, hat, hfr⟩ := hrel
      have HR : Hid (HAt wr B xb n (h.setP i (({ x with s := 3 } : PS).pend (S.take j)))) := hat
      have FR : Hid (Fr (fun k => k = xb) w1 wr) := hfr
      have rf : ∀ o, wr.frozen? ⟨xb, o, none⟩ = false := frozen_of_cells hat.blk
      by_cases hlt : j < S.length
      · obtain ⟨q, hq⟩ : ∃ q, S[j]? = some q := ⟨_, List.getElem?_eq_getElem hlt⟩
        obtain ⟨q', rfl, hq4⟩ := HSM.out q (List.mem_of_getElem? hq)
        have HT : Hid (({ x with s := 3 } : PS).pend (S.take (j + 1)) = (({ x with s := 3 } : PS).pend (S.take j)).tie q' 2) := by
          show PS.pend _ _ = _
          rw [List.take_add_one, hq, Option.toList_some, PS.pend_snoc]
        have hrow := hfr.ownsRow V1.out (fun k hk e => by have := (V1.out.lt k hk).1; omega)
        obtain ⟨g, gc, hga, _⟩ := row_some hrow (by omega)
        simp only [Value.slice.injEq] at hga
        obtain ⟨rfl, _, rfl⟩ := hga
        have cq := intRow_cell hrow hq
        have e3 : wr.cell? ⟨xb, 6 + i * 10 + 3 + q', none⟩ = some (.int .i64 ((({ x with s := 3 } : PS).pend (S.take j)).ties.getD q' 0)) := by
          rw [Nat.add_assoc]; exact hat.cps (setP_get HX.out) (3 + q') _ (getD_cs _ hq4)
        have hq0 : (0 : Int) ≤ (q' : Int) := by omega
        have hq1 : (q' : Int) < 4 := by omega
        have hj0 : (0 : Int) ≤ (j : Int) := by omega
        have hj1 : (j : Int) < S.length := by omega
        clear hrow hat hfr hq
        go_wp2_with fail
        go_roundw
        case rel =>
          have hs := HR.out.setCell ((({ x with s := 3 } : PS).pend (S.take j)).tie q' 2) (j := 3 + q') (v := .int .i64 2) (setP_get HX.out) (by omega) (tie_cs _ hq4 2)
          rw [setP_setP, ← Nat.add_assoc] at hs
          refine ⟨j + 1, by omega, by go_num, ?_, FR.out.trans hs.2 (fun _ => .inl)⟩
          rw [HT.out]
          exact hs.1
        case measure => simp [intOf]; omega
      · have HT : Hid (S.take j = S) := List.take_of_length_le (by omega)
        have e8 := hat.cps (setP_get HX.out) 8 _ rfl
        have e9 := hat.cps (setP_get HX.out) 9 _ rfl
        clear hat hfr
        go_wp2_with fail
        go_end0
        have s1 := HR.out.setCell { (({ x with s := 3 } : PS).pend (S.take j)) with wa := 1 } (j := 8) (v := .int .i64 1) (setP_get HX.out) (by omega) rfl
        rw [setP_setP] at s1
        have s2 := s1.1.setCell { (({ x with s := 3 } : PS).pend (S.take j)) with wa := 1, ga := 1 } (j := 9) (v := .int .i64 1) (setP_get HX.out) (by omega) rfl
        rw [setP_setP] at s2
        refine ⟨rfl, ?_, (((FW.out.trans F1.out (fun _ h => h.elim)).trans FR.out (fun _ => .inl)).trans s1.2 (fun _ => .inl)).trans s2.2 (fun _ => .inl)⟩
        rw [HS.out, ← HT.out]
        exact s2.1
  · obtain rfl : a = 1 := ha
    obtain rfl : s' = 2 := hs'
    go_enter Tryz.func181, Tryz.ntmps181
    go_wp2_with fail
    go_region
    go_wp2_with fail
    have hW1 := (HH.out.setCell { x with s := 3 } (j := 2) (v := .int .i64 3) HX.out (by omega) rfl)
    have hW := (hW1.1.setCell { x with s := 2 } (j := 2) (v := .int .i64 2) (setP_get HX.out) (by omega) rfl)
    rw [setP_setP] at hW
    have fW : Fr (fun _ => False) ((w.setCell ⟨xb, 6 + i * 10 + 2, none⟩ (.int .i64 3)).setCell ⟨xb, 6 + i * 10 + 2, none⟩ (.int .i64 2)) (((w.setCell ⟨xb, 6 + i * 10 + 2, none⟩ (.int .i64 3)).setCell ⟨xb, 6 + i * 10 + 2, none⟩ (.int .i64 2)).alloc (.cells #[.int .i64 k, .int .i64 i, .int .i64 1, .int .i64 m] 184)).drew := (nofr _).drew
    replace hW := (⟨hW.1.after fW, (hW1.2.trans hW.2 (fun _ => .inl)).trans fW (fun _ h => h.elim)⟩ : HAt _ B xb n (h.setP i { x with s := 2 }) ∧ Fr (fun k => k = xb) w _)
    generalize (((w.setCell ⟨xb, 6 + i * 10 + 2, none⟩ (.int .i64 3)).setCell ⟨xb, 6 + i * 10 + 2, none⟩ (.int .i64 2)).alloc (.cells #[.int .i64 k, .int .i64 i, .int .i64 1, .int .i64 m] 184)).drew = W at hW ⊢
    clear fW hW1
    have HW : Hid (HAt W B xb n (h.setP i { x with s := 2 })) := hW.1
    have FW : Hid (Fr (fun k => k = xb) w W) := hW.2
    have bx : xb < W.heap.size := Nat.lt_of_lt_of_le hxl hW.2.size
    have HRG : Hid (∀ j v, ({ x with s := 2 } : PS).cs[j]? = some v → W.cell? ⟨xb, 6 + i * 10 + j, none⟩ = some v) := fun j v hv => hW.1.cps (setP_get HX.out) j v hv
    clear hW e0 e1 e2 ef
    refine (tied_any (p := { x with s := 2 }) HRG.out 1).mono ?_
    rintro e w1 ⟨v, rfl, hv, hf⟩
    have F1 : Hid (Fr (fun _ => False) W w1) := hf
    obtain ⟨S, hS⟩ : ∃ S, tiedL ({ x with s := 2 } : PS).ties 1 4 = S := ⟨_, rfl⟩
    have HS : Hid (tiedL x.ties 1 4 = S) := hS
    have HSM : Hid (∀ q ∈ S, ∃ q' : Nat, q = q' ∧ q' < 4) := by
      show ∀ q ∈ S, ∃ q' : Nat, q = q' ∧ q' < 4
      rw [← hS]; exact tiedL_mem _ _
    rw [hS] at hv
    have V1 : Hid (NewInts W w1 v S) := hv
    have H1 : Hid (HAt w1 B xb n (h.setP i { x with s := 2 })) := HW.out.after hf
    obtain ⟨va, vc, rfl, hvl⟩ := intRow_len hv
    have hsl : S.length ≤ 4 := by rw [← hS]; exact tiedL_len _ _ _
    clear hf hS hv hvl
    go_wp2_with fail
    go_loopw [24] (fun ii w' => ∃ j : Nat, j ≤ S.length ∧ ii = .int .i64 j ∧ HAt w' B xb n (h.setP i (({ x with s := 2 } : PS).pend (S.take j))) ∧ Fr (fun k => k = xb) w1 w') (fun ii _ => (S.length - intOf ii).toNat)
    case atStart => exact ⟨0, by omega, rfl, H1.out, Fr.refl _ _⟩
    case round =>
      obtain ⟨j, hj, rfl, hat, hfr⟩ := hrel
      have HR : Hid (HAt wr B xb n (h.setP i (({ x with s := 2 } : PS).pend (S.take j)))) := hat
      have FR : Hid (Fr (fun k => k = xb) w1 wr) := hfr
      have rf : ∀ o, wr.frozen? ⟨xb, o, none⟩ = false := frozen_of_cells hat.blk
      by_cases hlt : j < S.length
      · obtain ⟨q, hq⟩ : ∃ q, S[j]? = some q := ⟨_, List.getElem?_eq_getElem hlt⟩
        obtain ⟨q', rfl, hq4⟩ := HSM.out q (List.mem_of_getElem? hq)
        have HT : Hid (({ x with s := 2 } : PS).pend (S.take (j + 1)) = (({ x with s := 2 } : PS).pend (S.take j)).tie q' 2) := by
          show PS.pend _ _ = _
          rw [List.take_add_one, hq, Option.toList_some, PS.pend_snoc]
        have hrow := hfr.ownsRow V1.out (fun k hk e => by have := (V1.out.lt k hk).1; omega)
        obtain ⟨g, gc, hga, _⟩ := row_some hrow (by omega)
        simp only [Value.slice.injEq] at hga
        obtain ⟨rfl, _, rfl⟩ := hga
        have cq := intRow_cell hrow hq
        have e3 : wr.cell? ⟨xb, 6 + i * 10 + 3 + q', none⟩ = some (.int .i64 ((({ x with s := 2 } : PS).pend (S.take j)).ties.getD q' 0)) := by
          rw [Nat.add_assoc]; exact hat.cps (setP_get HX.out) (3 + q') _ (getD_cs _ hq4)
        have hq0 : (0 : Int) ≤ (q' : Int) := by omega
        have hq1 : (q' : Int) < 4 := by omega
        have hj0 : (0 : Int) ≤ (j : Int) := by omega
        have hj1 : (j : Int) < S.length := by omega
        clear hrow hat hfr hq
        go_wp2_with fail
        go_roundw
        case rel =>
          have hs := HR.out.setCell ((({ x with s := 2 } : PS).pend (S.take j)).tie q' 2) (j := 3 + q') (v := .int .i64 2) (setP_get HX.out) (by omega) (tie_cs _ hq4 2)
          rw [setP_setP, ← Nat.add_assoc] at hs
          refine ⟨j + 1, by omega, by go_num, ?_, FR.out.trans hs.2 (fun _ => .inl)⟩
          rw [HT.out]
          exact hs.1
        case measure => simp [intOf]; omega
      · have HT : Hid (S.take j = S) := List.take_of_length_le (by omega)
        have e8 := hat.cps (setP_get HX.out) 8 _ rfl
        have e9 := hat.cps (setP_get HX.out) 9 _ rfl
        clear hat hfr
        go_wp2_with fail
        go_end0
        have s1 := HR.out.setCell { (({ x with s := 2 } : PS).pend (S.take j)) with wa := 1 } (j := 8) (v := .int .i64 1) (setP_get HX.out) (by omega) rfl
        rw [setP_setP] at s1
        have s2 := s1.1.setCell { (({ x with s := 2 } : PS).pend (S.take j)) with wa := 1, ga := 1 } (j := 9) (v := .int .i64 1) (setP_get HX.out) (by omega) rfl
        rw [setP_setP] at s2
        refine ⟨rfl, ?_, (((FW.out.trans F1.out (fun _ h => h.elim)).trans FR.out (fun _ => .inl)).trans s1.2 (fun _ => .inl)).trans s2.2 (fun _ => .inl)⟩
        rw [HS.out, ← HT.out]
        exact s2.1
end

end Go.Proofs.YtkelpcjiediamaaGreat
