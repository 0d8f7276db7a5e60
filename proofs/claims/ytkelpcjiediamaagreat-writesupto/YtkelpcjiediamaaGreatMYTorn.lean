/-
  The document's Journal, for all records; who may speak; Break.
-/
import Derived.Test.YtkelpcjiediamaaGreatMBytes
import Derived.Test.YtkelpcjiediamaaGreatMYerS
namespace Go.Proofs.YtkelpcjiediamaaGreat
open Go.RowKit Go.Maps

section
variable {w w' : World} {B yb : Nat} {y : RS}

set_option maxRecDepth 100000 in
set_option maxHeartbeats 800000 in
theorem yjournal_any (h : YAt w B yb y) (hR : ∀ r ∈ y.L, r.Ok) {tl : List UInt8} (ht : Txt y.torn tl) (hb : y.L.length * 16 + tl.length ≤ 140737488355328) :
    Calls Tryz.prog 42 #[.pointer (some ⟨yb, 0, none⟩)] w fun r w' => ∃ s, r = .returned (.string s) ∧ Txt s (y.L.flatMap rbytes ++ tl) ∧ Fr (fun _ => False) w w' := by
  have H : Hid (YAt w B yb y) := h
  have HR : Hid (∀ r ∈ y.L, r.Ok) := hR
  have HT : Hid (Txt y.torn tl) := ht
  have ht2 : y.torn.size = tl.length := ht.2
  have c8 : w.cell? ⟨yb, 8, none⟩ = some y.lv := h.c 8
  have c9 : w.cell? ⟨yb, 9, none⟩ = some (.string y.torn) := h.c 9
  obtain ⟨la, lc, hl, hll⟩ := anyRow_len h.recs
  unfold maxLen at hll
  rw [hl] at c8
  have HLV : Hid (y.lv = .slice la y.L.length lc) := hl
  have hlt := lt_of_block h.blk
  clear h hR ht hl
  go_enter Tryz.func42, Tryz.ntmps42
  go_wp2_with fail
  go_loopw [3, 4] (fun sv i w' => ∃ k : Nat, k ≤ y.L.length ∧ i = .int .i64 k ∧ (∃ s, sv = .string s ∧ Txt s ((y.L.take k).flatMap rbytes)) ∧ Fr (fun _ => False) w w') (fun _ i _ => y.L.length - (intOf i).toNat)
  case atStart => exact ⟨0, Nat.zero_le _, rfl, ⟨_, rfl, rfl, rfl⟩, Fr.refl _ _⟩
  case round =>
    obtain ⟨k, hk, rfl, ⟨s, rfl, hs⟩, hf⟩ := hrel
    have HS : Hid (Txt s ((y.L.take k).flatMap rbytes)) := hs
    have HF : Hid (Fr (fun _ => False) w wr) := hf
    have hlen : ((y.L.take k).flatMap rbytes).length = 16 * k := by
      rw [List.length_flatMap]
      have : (y.L.take k).map (fun r => (rbytes r).length) = List.replicate k 16 := by
        rw [List.map_congr_left (fun r _ => rbytes_len r), List.map_const', List.length_take, Nat.min_eq_left hk]
      rw [this, List.sum_replicate_nat]; omega
    have hsz : s.size = 16 * k := hs.2.trans hlen
    have d8 : wr.cell? ⟨yb, 8, none⟩ = some (.slice la y.L.length lc) := (hf.cell (p := ⟨yb, 8, none⟩) hlt id).trans c8
    have d9 : wr.cell? ⟨yb, 9, none⟩ = some (.string y.torn) := (hf.cell (p := ⟨yb, 9, none⟩) hlt id).trans c9
    have HROW : Hid (wr.ownsRow B 155 4 (.slice la y.L.length lc) y.L.length (y.L.flatMap Rc.cs)) := by have := hf.ownsRow H.out.recs (fun _ _ => id); rw [HLV.out] at this; exact this
    clear hs hf hlen
    by_cases hlt2 : k < y.L.length
    · obtain ⟨r, hr⟩ : ∃ r, y.L[k]? = some r := ⟨_, List.getElem?_eq_getElem hlt2⟩
      have HTK : Hid ((y.L.take (k + 1)).flatMap rbytes = (y.L.take k).flatMap rbytes ++ rbytes r) := by show (y.L.take (k + 1)).flatMap rbytes = _; rw [List.take_add_one, hr, Option.toList_some, List.flatMap_append]; simp
      have HO : Hid r.Ok := HR.out r (List.mem_of_getElem? hr)
      rcases HROW.out.2 with ⟨_, h0⟩ | ⟨g, cap, cur, hv, hb2, hg, h1, h2, _⟩
      · omega
      · simp only [Value.slice.injEq] at hv
        obtain ⟨rfl, _, rfl⟩ := hv
        obtain ⟨r0, r1, r2, r3⟩ := rowRc_cells HROW.out hr
        have hki : (k : Int) < (y.L.length : Int) := by omega
        clear hr hg h2 hb2
        go_wp2_with (go_at_call 103; refine (bytes_any wr r HO.out).mono ?_; rintro e w2 ⟨s2, rfl, hx, hf2⟩; have T2 : Hid (Txt s2 (rbytes r)) := hx; have F2 : Hid (Fr (fun _ => False) w w2) := HF.out.trans hf2 (fun _ h => h.elim); have n2 : s2.size = 16 := hx.2.trans (rbytes_len r); have e2 : ¬ (9223372036854775807 < s.size + s2.size) := (by omega); clear hx hf2)
        go_roundw
        case rel => exact ⟨k + 1, by omega, by go_num, ⟨_, rfl, by rw [HTK.out]; exact HS.out.app T2.out⟩, F2.out⟩
        case measure => simp [intOf]; omega
    · have hkl : k = y.L.length := by omega
      subst hkl
      have HTK : Hid (y.L.take y.L.length = y.L) := List.take_of_length_le (Nat.le_refl _)
      have e2 : ¬ (9223372036854775807 < s.size + y.torn.size) := by omega
      go_wp2
      go_ret
      refine ⟨_, rfl, ?_, HF.out⟩
      have := HS.out
      rw [HTK.out] at this
      exact this.app HT.out
end

end Go.Proofs.YtkelpcjiediamaaGreat

/-
  The document's write, while the keeper does not break; Break; who may speak.
-/
namespace Go.Proofs.YtkelpcjiediamaaGreat
open Go.RowKit Go.Maps

theorem info126 : (Tryz.prog.info? 155).map (fun i => (i.zero, i.size, i.bytes)) = some (some (.agg #[.int .i64 0, .int .i64 0, .int .i64 0, .int .i64 0]), 4, 32) := by kernel_rfl

section
variable {w w' : World} {B yb : Nat} {y : RS}

/-- One more record. -/
def RS.wrote (y : RS) (r : Rc) (lv : Value) : RS := { y with lv := lv, L := y.L ++ [r] }

theorem RS.set_lv (y : RS) (r : Rc) (lv : Value) : y.cells.setIfInBounds 8 lv = (y.wrote r lv).cells := by
  obtain ⟨P, Q, T, K, dn, br, kp, tm, lv0, L, torn, dv, D, hv, H, gv, G, ov, O, nv, N⟩ := y
  kernel_rfl

/-- What writing a record leaves. -/
structure YWrote (w w' : World) (B yb : Nat) (y : RS) (r : Rc) (lv : Value) : Prop where
  at_ : YAt w' B yb (y.wrote r lv)
  fr : Fr (fun k => k = yb ∨ y.lv.ownBlock = some k) w w'
  lies : ∀ k, lv.ownBlock = some k → y.lv.ownBlock = some k ∨ w.heap.size ≤ k

theorem YAt.recDone {W w3 : World} {r : Rc} {lv : Value} (h : YAt w B yb y) (fW : Fr (fun _ => False) w W) (hg : W.grownBy w3 y.lv.ownBlock) (hown : w3.ownsRow B 155 4 lv (y.L.length + 1) (y.L.flatMap Rc.cs ++ r.cs)) (hat : ∀ q, lv.ownBlock = some q → y.lv.ownBlock = some q ∨ w.heap.size ≤ q) : YWrote w (w3.setCell ⟨yb, 8, none⟩ lv) B yb y r lv := by
  have f3 : Fr (fun q => y.lv.ownBlock = some q) w w3 := (fW.mono (fun _ h => h.elim)).grown hg (fun q e => .inl e)
  have hz := lt_of_block h.blk
  have n1 : y.lv.ownBlock ≠ some yb := row_ne_blk h.recs h.blk (by decide)
  have fs : Fr (fun q => q = yb) w3 (w3.setCell ⟨yb, 8, none⟩ lv) := (Fr.refl (fun q => q = yb) w3).setCell (p := ⟨yb, 8, none⟩) (.inl rfl) _
  have f4 : Fr (fun q => q = yb ∨ y.lv.ownBlock = some q) w (w3.setCell ⟨yb, 8, none⟩ lv) := (f3.mono (fun q e => .inl (.inr e))).trans fs (fun q e => .inl (.inl e))
  have key : ∀ {ty : TypeId} {wd : Nat} {v : Value} {n : Nat} {xs : List Value}, w.ownsRow B ty wd v n xs → ty ≠ 155 → ty ≠ 138 → ∀ q, v.ownBlock = some q → ¬ (q = yb ∨ y.lv.ownBlock = some q) := fun {ty wd v n xs} hr h1 h2 q hq e => by
    have ht := tag_row hr hq
    rcases e with e | e
    · subst e; rw [tag_cells h.blk] at ht; exact h2 ht.symm
    · have := tag_row h.recs e; rw [ht] at this; exact h1 this
  refine ⟨⟨?_, ?_, f4.ownsRow h.dues (key h.dues (by decide) (by decide)), f4.ownsRow h.heard (key h.heard (by decide) (by decide)), f4.ownsRow h.logs (key h.logs (by decide) (by decide)), f4.ownsRow h.outs (key h.outs (by decide) (by decide)), f4.ownsRow h.net (key h.net (by decide) (by decide)), fun g hgm => ?_, h.hy, h.hP, h.hQ⟩, f4, hat⟩
  · rw [setCell_cells ((f3.block _ hz n1).trans h.blk), RS.set_lv y r]
  · show (w3.setCell ⟨yb, 8, none⟩ lv).ownsRow B 155 4 lv (y.L ++ [r]).length ((y.L ++ [r]).flatMap Rc.cs)
    rw [List.length_append, List.flatMap_append, show [r].flatMap Rc.cs = r.cs by simp]
    refine fs.ownsRow hown (fun q hq e => ?_)
    subst e
    rcases hat _ hq with a | a
    · exact n1 a
    · omega
  · refine (h.refs g hgm).stay f4 (fun q hq hf => ?_)
    rcases hq with hq | hq
    · have h0 := tag_cells h.blk
      subst hq
      rcases (h.refs g hgm).tags hf with h1 | h1 <;> rw [h0] at h1 <;> cases h1
    · have h0 := tag_row h.recs hq
      rcases (h.refs g hgm).tags hf with h1 | h1 <;> rw [h0] at h1 <;> cases h1

set_option maxRecDepth 100000 in
set_option maxHeartbeats 800000 in
theorem ywrite_ok (h : YAt w B yb y) (hbr : y.br = false) (r : Rc) (hb : (y.L.length + 1) * 32 ≤ 140737488355328) :
    Calls Tryz.prog 131 #[.pointer (some ⟨yb, 0, none⟩), .agg #[.int .i64 r.k, .int .i64 r.p, .int .i64 r.a, .int .i64 r.m]] w fun e w' => e = .returned (.bool true) ∧ ∃ lv, YWrote w w' B yb y r lv := by
  obtain ⟨i0, hi0, hz0, hz1, hz2⟩ := info_parts info126
  have H : Hid (YAt w B yb y) := h
  have HB : Hid ((y.L.length + 1) * 32 ≤ 140737488355328) := hb
  have c5 : w.cell? ⟨yb, 5, none⟩ = some (.bool y.br) := h.c 5
  rw [hbr] at c5
  have c8 : w.cell? ⟨yb, 8, none⟩ = some y.lv := h.c 8
  have cf : ∀ o, w.frozen? ⟨yb, o, none⟩ = false := frozen_of_cells h.blk
  obtain ⟨la, lc, hl, hll⟩ := anyRow_len h.recs
  rw [hl] at c8
  have HLV : Hid (y.lv = .slice la y.L.length lc) := hl
  have hlt := lt_of_block h.blk
  have hn1 : Value.ownBlock (.slice la y.L.length lc) ≠ some yb := by rw [← hl]; exact row_ne_blk h.recs h.blk (by decide)
  have hBw : B ≤ w.heap.size := Nat.le_of_lt (Nat.lt_of_le_of_lt h.hy hlt)
  have HROW : Hid (w.ownsRow B 155 4 (.slice la y.L.length lc) y.L.length (y.L.flatMap Rc.cs)) := by have := h.recs; rw [hl] at this; exact this
  clear h hbr hb hl hll
  go_enter Tryz.func131, Tryz.ntmps131
  go_wp2_with fail
  go_region_law
    ((refine step_append_lies _ (by rfl) _ _ _ (by rfl) B 155 i0 _ 4 32 Tryz.underlying134 hi0 hz0 hz1 hz2 rfl (by omega) (.slice la y.L.length lc) y.L.length (y.L.flatMap Rc.cs) (by rfl) (by exact (((nofr _).alloc _).drew).ownsRow HROW.out (fun _ _ => id))
        ⟨w.heap.size + 1, 0, none⟩ 1 1 [.int .i64 r.k, .int .i64 r.p, .int .i64 r.a, .int .i64 r.m] (by rfl) (by rfl) (World.news_of_block (cs := #[.int .i64 r.k, .int .i64 r.p, .int .i64 r.a, .int .i64 r.m]) (t := 155) (fr := (0, 0)) (by show ((w.alloc _).alloc _).heap[_]? = _; exact alloc_at _ (by simp))) (by simp [Value.oneCell'])
        (by omega) (by have := HB.out; simp only [maxLen]; omega) HB.out (by simp; omega) (w.heap.size + 1 + 1) (by simp) ?_; intro gg cap w3 hown hgrow hat hlt3
      have hb3 := (hgrow.block yb (by simp; omega) (Ne.symm hn1)).trans ((((nofr _).alloc _).drew.block _ hlt id).trans H.out.blk)
      have k0 : w3.cell? ⟨yb, 8, none⟩ = some (.slice la y.L.length lc) := (cell_of_cells hb3 8).trans (by show some y.lv = _; rw [HLV.out])
      have k1 : ∀ o, w3.frozen? ⟨yb, o, none⟩ = false := frozen_of_cells hb3
      clear hb3))
  all_goals
    go_wp2
    go_ret
    refine ⟨rfl, _, H.out.recDone (W := (((w.alloc (.cells #[.int .i64 r.k, .int .i64 r.p, .int .i64 r.a, .int .i64 r.m] 155)).alloc (.cells #[.int .i64 r.k, .int .i64 r.p, .int .i64 r.a, .int .i64 r.m] 155)).drew)) (((nofr _).alloc _).drew) (by rw [HLV.out]; exact hgrow) hown (fun q hq => ?_)⟩
    simp only [Value.ownBlock, Option.some.injEq] at hq
    subst hq
    rcases hat with a | a
    · exact .inl (by rw [HLV.out]; exact a)
    · exact .inr (by omega)
end

end Go.Proofs.YtkelpcjiediamaaGreat

/-
  The document's write where the keeper breaks.
-/
namespace Go.Proofs.YtkelpcjiediamaaGreat
open Go.RowKit Go.Maps

section
variable {w w' : World} {B yb : Nat} {y : RS}

/-- The keeper is down. -/
def RS.down (y : RS) : RS := { y with dn := true, br := false }

theorem RS.set_down (y : RS) : (y.cells.setIfInBounds 5 (.bool false)).setIfInBounds 4 (.bool true) = y.down.cells := by
  obtain ⟨P, Q, T, K, dn, br, kp, tm, lv0, L, torn, dv, D, hv, H, gv, G, ov, O, nv, N⟩ := y
  kernel_rfl

theorem YAt.goDown (h : YAt w B yb y) : YAt ((w.setCell ⟨yb, 5, none⟩ (.bool false)).setCell ⟨yb, 4, none⟩ (.bool true)) B yb y.down ∧ Fr (fun k => k = yb) w ((w.setCell ⟨yb, 5, none⟩ (.bool false)).setCell ⟨yb, 4, none⟩ (.bool true)) := by
  have fr : Fr (fun k => k = yb) w ((w.setCell ⟨yb, 5, none⟩ (.bool false)).setCell ⟨yb, 4, none⟩ (.bool true)) := ((Fr.refl (fun k => k = yb) w).setCell (p := ⟨yb, 5, none⟩) (.inl rfl) _).setCell (p := ⟨yb, 4, none⟩) (.inl rfl) _
  refine ⟨h.put fr ?_ rfl rfl (fr.ownsRow h.dues (fun k hk e => row_ne_blk h.dues h.blk (by decide) (by subst e; exact hk))) rfl rfl rfl rfl rfl rfl rfl rfl rfl rfl, fr⟩
  rw [setCell_cells (setCell_cells h.blk 5 (.bool false)) 4 (.bool true), y.set_down]

set_option maxRecDepth 100000 in
set_option maxHeartbeats 800000 in
theorem ywrite_none (h : YAt w B yb y) (hbr : y.br = true) (hkp : y.kp ≤ 0) (r : Rc) (hr : r.Ok) :
    Calls Tryz.prog 131 #[.pointer (some ⟨yb, 0, none⟩), .agg #[.int .i64 r.k, .int .i64 r.p, .int .i64 r.a, .int .i64 r.m]] w fun e w' => e = .returned (.bool false) ∧ YAt w' B yb y.down ∧ Fr (fun k => k = yb) w w' := by
  have H : Hid (YAt w B yb y) := h
  have HO : Hid r.Ok := hr
  have c5 : w.cell? ⟨yb, 5, none⟩ = some (.bool y.br) := h.c 5
  rw [hbr] at c5
  have c4 : w.cell? ⟨yb, 4, none⟩ = some (.bool y.dn) := h.c 4
  have c6 : w.cell? ⟨yb, 6, none⟩ = some (.int .i64 y.kp) := h.c 6
  have cf : ∀ o, w.frozen? ⟨yb, o, none⟩ = false := frozen_of_cells h.blk
  have hlt := lt_of_block h.blk
  clear h hbr hr
  go_enter Tryz.func131, Tryz.ntmps131
  go_wp2_with (first
    | (go_at_call 103; refine (bytes_any _ r HO.out).mono ?_; rintro e w2 ⟨s, rfl, hx, hf⟩
       have T2 : Hid (Txt s (rbytes r)) := hx
       have n2 : s.size = 16 := hx.2.trans (rbytes_len r)
       have G2 : Hid (YAt w2 B yb y.down ∧ Fr (fun k => k = yb) w w2) := ⟨H.out.goDown.1.after ((nofr _).trans hf (fun _ h => h.elim)), H.out.goDown.2.trans ((nofr _).trans hf (fun _ h => h.elim)) (fun _ h => h.elim)⟩
       have d6 : w2.cell? ⟨yb, 6, none⟩ = some (.int .i64 y.kp) := G2.out.1.c 6
       have d8 : w2.cell? ⟨yb, 8, none⟩ = some y.lv := G2.out.1.c 8
       have d9 : w2.cell? ⟨yb, 9, none⟩ = some (.string y.torn) := G2.out.1.c 9
       have df : ∀ o, w2.frozen? ⟨yb, o, none⟩ = false := frozen_of_cells G2.out.1.blk
       have B2 : Hid (w2.heap[w.heap.size]? = some (.cells #[.int .i64 r.k, .int .i64 r.p, .int .i64 r.a, .int .i64 r.m] 155 (0, 0))) := (hf.block _ (by simp) id).trans (alloc_at _ (by simp))
       clear hx hf))
  go_ret
  exact ⟨rfl, G2.out⟩

def RS.tear (y : RS) (s : ByteArray) : RS := { y with torn := s }

theorem RS.set_torn (y : RS) (s : ByteArray) : y.cells.setIfInBounds 9 (.string s) = (y.tear s).cells := by
  obtain ⟨P, Q, T, K, dn, br, kp, tm, lv0, L, torn, dv, D, hv, H, gv, G, ov, O, nv, N⟩ := y
  kernel_rfl

set_option maxRecDepth 100000 in
set_option maxHeartbeats 800000 in
theorem ywrite_torn (h : YAt w B yb y) (hbr : y.br = true) (hkp : 0 < y.kp) (hkp2 : y.kp < 16) (r : Rc) (hr : r.Ok) :
    Calls Tryz.prog 131 #[.pointer (some ⟨yb, 0, none⟩), .agg #[.int .i64 r.k, .int .i64 r.p, .int .i64 r.a, .int .i64 r.m]] w fun e w' => e = .returned (.bool false) ∧ (∃ s, Txt s ((rbytes r).take y.kp.toNat) ∧ YAt w' B yb (y.down.tear s)) ∧ Fr (fun k => k = yb) w w' := by
  have H : Hid (YAt w B yb y) := h
  have HO : Hid r.Ok := hr
  have c5 : w.cell? ⟨yb, 5, none⟩ = some (.bool y.br) := h.c 5
  rw [hbr] at c5
  have c4 : w.cell? ⟨yb, 4, none⟩ = some (.bool y.dn) := h.c 4
  have c6 : w.cell? ⟨yb, 6, none⟩ = some (.int .i64 y.kp) := h.c 6
  have cf : ∀ o, w.frozen? ⟨yb, o, none⟩ = false := frozen_of_cells h.blk
  have hlt := lt_of_block h.blk
  clear h hbr hr
  go_enter Tryz.func131, Tryz.ntmps131
  go_wp2_with (first
    | (go_at_call 103; refine (bytes_any _ r HO.out).mono ?_; rintro e w2 ⟨s, rfl, hx, hf⟩
       have T2 : Hid (Txt s (rbytes r)) := hx
       have n2 : s.size = 16 := hx.2.trans (rbytes_len r)
       have G2 : Hid (YAt w2 B yb y.down ∧ Fr (fun k => k = yb) w w2) := ⟨H.out.goDown.1.after ((nofr _).trans hf (fun _ h => h.elim)), H.out.goDown.2.trans ((nofr _).trans hf (fun _ h => h.elim)) (fun _ h => h.elim)⟩
       have d6 : w2.cell? ⟨yb, 6, none⟩ = some (.int .i64 y.kp) := G2.out.1.c 6
       have d8 : w2.cell? ⟨yb, 8, none⟩ = some y.lv := G2.out.1.c 8
       have d9 : w2.cell? ⟨yb, 9, none⟩ = some (.string y.torn) := G2.out.1.c 9
       have df : ∀ o, w2.frozen? ⟨yb, o, none⟩ = false := frozen_of_cells G2.out.1.blk
       have B2 : Hid (w2.heap[w.heap.size]? = some (.cells #[.int .i64 r.k, .int .i64 r.p, .int .i64 r.a, .int .i64 r.m] 155 (0, 0))) := (hf.block _ (by simp) id).trans (alloc_at _ (by simp))
       clear hx hf))
  go_ret
  have f9 : Fr (fun k => k = yb) w2 (w2.setCell ⟨yb, 9, none⟩ (.string (s.extract 0 y.kp.toNat))) := (Fr.refl (fun k => k = yb) w2).setCell (p := ⟨yb, 9, none⟩) (.inl rfl) _
  refine ⟨rfl, ⟨s.extract 0 y.kp.toNat, ?_, G2.out.1.put f9 ?_ rfl rfl (f9.ownsRow G2.out.1.dues (fun k hk e => row_ne_blk G2.out.1.dues G2.out.1.blk (by decide) (by subst e; exact hk))) rfl rfl rfl rfl rfl rfl rfl rfl rfl rfl⟩, G2.out.2.trans f9 (fun _ hk => .inl hk)⟩
  · have hk : y.kp.toNat ≤ 16 := by omega
    have e1 : (s.extract 0 y.kp.toNat).data.toList = (rbytes r).take y.kp.toNat := by
      rw [ByteArray.data_extract, Array.toList_extract, T2.out.1]
      simp
    exact ⟨e1, by rw [← e1]; rfl⟩
  · rw [setCell_cells G2.out.1.blk, RS.set_torn]

set_option maxRecDepth 100000 in
set_option maxHeartbeats 800000 in
theorem ywrite_whole (h : YAt w B yb y) (hbr : y.br = true) (hkp : 16 ≤ y.kp) (r : Rc) (hr : r.Ok) (hb : (y.L.length + 1) * 32 ≤ 140737488355328) :
    Calls Tryz.prog 131 #[.pointer (some ⟨yb, 0, none⟩), .agg #[.int .i64 r.k, .int .i64 r.p, .int .i64 r.a, .int .i64 r.m]] w fun e w' => e = .returned (.bool false) ∧ ∃ lv, YAt w' B yb (y.down.wrote r lv) ∧ Fr (fun k => k = yb ∨ y.lv.ownBlock = some k) w w' ∧ (∀ k, lv.ownBlock = some k → y.lv.ownBlock = some k ∨ w.heap.size ≤ k) := by
  obtain ⟨i0, hi0, hz0, hz1, hz2⟩ := info_parts info126
  have H : Hid (YAt w B yb y) := h
  have HO : Hid r.Ok := hr
  have HB : Hid ((y.L.length + 1) * 32 ≤ 140737488355328) := hb
  have c5 : w.cell? ⟨yb, 5, none⟩ = some (.bool y.br) := h.c 5
  rw [hbr] at c5
  have c4 : w.cell? ⟨yb, 4, none⟩ = some (.bool y.dn) := h.c 4
  have c6 : w.cell? ⟨yb, 6, none⟩ = some (.int .i64 y.kp) := h.c 6
  have cf : ∀ o, w.frozen? ⟨yb, o, none⟩ = false := frozen_of_cells h.blk
  have hlt := lt_of_block h.blk
  obtain ⟨la, lc, hl, hll⟩ := anyRow_len h.recs
  have HLV : Hid (y.lv = .slice la y.L.length lc) := hl
  have hn1 : Value.ownBlock (.slice la y.L.length lc) ≠ some yb := by rw [← hl]; exact row_ne_blk h.recs h.blk (by decide)
  have hBw : B ≤ w.heap.size := Nat.le_of_lt (Nat.lt_of_le_of_lt h.hy hlt)
  clear h hbr hb hl hll hr
  go_enter Tryz.func131, Tryz.ntmps131
  go_wp2_with (first
    | (go_at_call 103; refine (bytes_any _ r HO.out).mono ?_; rintro e w2 ⟨s, rfl, hx, hf⟩
       have T2 : Hid (Txt s (rbytes r)) := hx
       have n2 : s.size = 16 := hx.2.trans (rbytes_len r)
       have G2 : Hid (YAt w2 B yb y.down ∧ Fr (fun k => k = yb) w w2) := ⟨H.out.goDown.1.after ((nofr _).trans hf (fun _ h => h.elim)), H.out.goDown.2.trans ((nofr _).trans hf (fun _ h => h.elim)) (fun _ h => h.elim)⟩
       have d6 : w2.cell? ⟨yb, 6, none⟩ = some (.int .i64 y.kp) := G2.out.1.c 6
       have d8 : w2.cell? ⟨yb, 8, none⟩ = some (.slice la y.L.length lc) := (G2.out.1.c 8).trans (by show some y.lv = _; rw [HLV.out])
       have d9 : w2.cell? ⟨yb, 9, none⟩ = some (.string y.torn) := G2.out.1.c 9
       have df : ∀ o, w2.frozen? ⟨yb, o, none⟩ = false := frozen_of_cells G2.out.1.blk
       have B2 : Hid (w2.heap[w.heap.size]? = some (.cells #[.int .i64 r.k, .int .i64 r.p, .int .i64 r.a, .int .i64 r.m] 155 (0, 0))) := (hf.block _ (by simp) id).trans (alloc_at _ (by simp))
       have x0 : w2.cell? ⟨w.heap.size, 0, none⟩ = some (.int .i64 r.k) := cell_of_cells B2.out 0
       have x1 : w2.cell? ⟨w.heap.size, 1, none⟩ = some (.int .i64 r.p) := cell_of_cells B2.out 1
       have x2 : w2.cell? ⟨w.heap.size, 2, none⟩ = some (.int .i64 r.a) := cell_of_cells B2.out 2
       have x3 : w2.cell? ⟨w.heap.size, 3, none⟩ = some (.int .i64 r.m) := cell_of_cells B2.out 3
       have hz : w.heap.size ≤ w2.heap.size := G2.out.2.size
       have hyz : yb < w2.heap.size := Nat.lt_of_lt_of_le hlt hz
       have R2 : Hid (w2.ownsRow B 155 4 (.slice la y.L.length lc) y.L.length (y.L.flatMap Rc.cs)) := by have := G2.out.1.recs; rw [show y.down.lv = y.lv from rfl, HLV.out] at this; exact this
       clear hx hf))
  go_region_law
    ((refine step_append_lies _ (by rfl) _ _ _ (by rfl) B 155 i0 _ 4 32 Tryz.underlying134 hi0 hz0 hz1 hz2 rfl (by omega) (.slice la y.L.length lc) y.L.length (y.L.flatMap Rc.cs) (by rfl) (by exact ((nofr _).drew).ownsRow R2.out (fun _ _ => id))
        ⟨w2.heap.size, 0, none⟩ 1 1 [.int .i64 r.k, .int .i64 r.p, .int .i64 r.a, .int .i64 r.m] (by rfl) (by rfl) (World.news_of_block (cs := #[.int .i64 r.k, .int .i64 r.p, .int .i64 r.a, .int .i64 r.m]) (t := 155) (fr := (0, 0)) (by show (w2.alloc _).heap[_]? = _; exact alloc_at _ (by simp))) (by simp [Value.oneCell'])
        (by omega) (by have := HB.out; simp only [maxLen]; omega) HB.out (by simp; omega) (w2.heap.size + 1) (by simp) ?_; intro gg cap w3 hown hgrow hat hlt3
      have hb3 := (hgrow.block yb (by simp; omega) (Ne.symm hn1)).trans (((nofr _).drew.block _ hyz id).trans G2.out.1.blk)
      have k0 : w3.cell? ⟨yb, 8, none⟩ = some (.slice la y.L.length lc) := (cell_of_cells hb3 8).trans (by show some y.lv = _; rw [HLV.out])
      have k1 : ∀ o, w3.frozen? ⟨yb, o, none⟩ = false := frozen_of_cells hb3
      clear hb3))
  all_goals
    go_wp2
    go_ret
    have l := G2.out.1.recDone (r := r) (lv := .slice (some ⟨gg, 0, none⟩) (y.L.length + 1) cap) (W := (w2.alloc (.cells #[.int .i64 r.k, .int .i64 r.p, .int .i64 r.a, .int .i64 r.m] 155)).drew) ((nofr _).drew) (by rw [show y.down.lv = y.lv from rfl, HLV.out]; exact hgrow) hown (fun q hq => by
      simp only [Value.ownBlock, Option.some.injEq] at hq
      subst hq
      rcases hat with a | a
      · exact .inl (by rw [show y.down.lv = y.lv from rfl, HLV.out]; exact a)
      · exact .inr (by omega))
    refine ⟨rfl, _, l.at_, (G2.out.2.mono (fun k hk => .inl (.inl hk))).trans l.fr (fun k hk => .inl hk), fun k hk => ?_⟩
    rcases l.lies k hk with a | a
    · exact .inl a
    · exact .inr (Nat.le_trans hz a)
end

end Go.Proofs.YtkelpcjiediamaaGreat
