/-
  The keeper's write.
-/
import Derived.Test.YtkelpcjiediamaaGreatMJPut
namespace Go.Proofs.YtkelpcjiediamaaGreat
open Go.RowKit Go.Maps

def recV (r : Rc) : Value := .agg #[.int .i64 r.k, .int .i64 r.p, .int .i64 r.a, .int .i64 r.m]

/-- More bytes stand in the journal. -/
def HS.jot (h : HS) (jv : Value) (new : List Value) : HS := { h with jv := jv, jb := h.jb ++ new }

theorem HS.set_jv (h : HS) (jv : Value) (new : List Value) : h.cells.toArray.setIfInBounds 4 jv = (h.jot jv new).cells.toArray := by
  simp [HS.cells, HS.jot]

theorem pend_up2 (x : PS) : x.pend (tiedL x.ties 1 4) = { x with a := up2 x.a, b := up2 x.b, c := up2 x.c, d := up2 x.d } := by
  obtain ⟨e, t, s, a, b, c, d, si, wa, ga⟩ := x
  have hr : List.range 4 = [0, 1, 2, 3] := rfl
  by_cases ha : 1 ≤ a <;> by_cases hb : 1 ≤ b <;> by_cases hc : 1 ≤ c <;> by_cases hd : 1 ≤ d <;>
    simp [tiedL, hr, PS.ties, PS.pend, PS.tie, up2, ha, hb, hc, hd, List.filter]

theorem index193_1 (w : World) (b : Nat) : (Instr.index 193 (.agg (dTab b)) (.int .i64 1)).run Tryz.prog w = .ok (.func (.func 179) #[] #[.pointer (some ⟨b, 0, none⟩)]) w := by kernel_rfl
theorem index193_2 (w : World) (b : Nat) : (Instr.index 193 (.agg (dTab b)) (.int .i64 2)).run Tryz.prog w = .ok (.func (.func 180) #[] #[.pointer (some ⟨b, 0, none⟩)]) w := by kernel_rfl
theorem index193_3 (w : World) (b : Nat) : (Instr.index 193 (.agg (dTab b)) (.int .i64 3)).run Tryz.prog w = .ok (.func (.func 181) #[] #[.pointer (some ⟨b, 0, none⟩)]) w := by kernel_rfl
theorem index193_4 (w : World) (b : Nat) : (Instr.index 193 (.agg (dTab b)) (.int .i64 4)).run Tryz.prog w = .ok (.func (.func 182) #[] #[.pointer (some ⟨b, 0, none⟩)]) w := by kernel_rfl

theorem HS.jot_nil (h : HS) : h.jot h.jv [] = h := by simp [HS.jot]

theorem bcs_one (l : List UInt8) : ∀ u ∈ bcs l, u.oneCell' = true := by
  intro u hu
  simp only [bcs, List.mem_map] at hu
  obtain ⟨b, _, rfl⟩ := hu
  rfl

theorem deedAll_eq {h : HS} {i : Nat} {x : PS} {r : Rc} {jv : Value} {new : List Value} (hx : h.ps[i]? = some x) (hr : r.p = i) : ({ h.jot jv new with ps := deedAll h.ps r } : HS) = (h.jot jv new).setP i (x.deed r) := by
  have : r.p.toNat = i := by omega
  simp [deedAll, HS.setP, HS.jot, this, List.getD, hx]

section
variable {w w' : World} {B xb n : Nat} {h : HS}

theorem HAt.jourDone {W w3 : World} {jv : Value} {m : Nat} {new : List Value} (hh : HAt w B xb n h) (fW : Fr (fun _ => False) w W) (hg : W.grownBy w3 h.jv.ownBlock) (hown : w3.ownsRow B 5 1 jv (h.jb.length + m) (h.jb ++ new)) (hm : new.length = m) (hat : ∀ q, jv.ownBlock = some q → h.jv.ownBlock = some q ∨ w.heap.size ≤ q) :
    HAt (w3.setCell ⟨xb, 4, none⟩ jv) B xb n (h.jot jv new) ∧ Fr (fun k => k = xb ∨ h.jv.ownBlock = some k) w (w3.setCell ⟨xb, 4, none⟩ jv) := by
  have hlt := lt_of_block hh.blk
  have f3 : Fr (fun q => h.jv.ownBlock = some q) w w3 := (fW.mono (fun _ h => h.elim)).grown hg (fun q e => .inl e)
  have b3 : w3.heap[xb]? = some (.cells h.cells.toArray 111 (0, 0)) := (f3.block xb hlt hh.ne_j).trans hh.blk
  have fs : Fr (fun q => q = xb) w3 (w3.setCell ⟨xb, 4, none⟩ jv) := (Fr.refl (fun q => q = xb) w3).setCell (p := ⟨xb, 4, none⟩) (.inl rfl) _
  have f4 : Fr (fun k => k = xb ∨ h.jv.ownBlock = some k) w (w3.setCell ⟨xb, 4, none⟩ jv) := (f3.mono (fun q e => .inl (.inr e))).trans fs (fun q e => .inl (.inl e))
  have row : ∀ {ty : TypeId} {wd : Nat} {v : Value} {k : Nat} {xs : List Value}, w.ownsRow B ty wd v k xs → ty ≠ 5 → ty ≠ 111 → (w3.setCell ⟨xb, 4, none⟩ jv).ownsRow B ty wd v k xs := fun ho h5 h1 => f4.ownsRow ho (fun q hq e => by
    have t0 := tag_row ho hq
    rcases e with e | e
    · subst e; rw [tag_cells hh.blk] at t0; exact h1 t0.symm
    · rw [tag_row hh.jour e] at t0; exact h5 t0.symm)
  refine ⟨⟨?_, ?_, row hh.places (by decide) (by decide), row hh.flight (by decide) (by decide), fun p hp => (hh.logs p hp).stay f4 (fun q hq hf => ?_), hh.hx, hh.hP, hh.hQ, hh.h6⟩, f4⟩
  · rw [setCell_cells b3, HS.set_jv h jv new]
  · show (w3.setCell ⟨xb, 4, none⟩ jv).ownsRow B 5 1 jv (h.jb ++ new).length (h.jb ++ new)
    rw [List.length_append, hm]
    refine fs.ownsRow hown (fun q hq e => ?_)
    subst e
    rcases hat _ hq with a | a
    · exact hh.ne_j a
    · omega
  · rcases hq with hq | hq
    · have h0 := tag_cells hh.blk
      subst hq
      rcases (hh.logs p hp).tags hf with h1 | h1 | h1 <;> rw [h0] at h1 <;> cases h1
    · have h0 := tag_row hh.jour hq
      rcases (hh.logs p hp).tags hf with h1 | h1 | h1 <;> rw [h0] at h1 <;> cases h1

/-- What writing a record leaves. -/
structure Wrote (w w' : World) (B xb n : Nat) (h : HS) (r : Rc) (jv : Value) : Prop where
  at_ : HAt w' B xb n { h.jot jv (bcs (rbytes r)) with ps := deedAll h.ps r }
  fr : Fr (fun k => k = xb ∨ h.jv.ownBlock = some k) w w'
  lies : ∀ k, jv.ownBlock = some k → h.jv.ownBlock = some k ∨ w.heap.size ≤ k

set_option maxRecDepth 100000 in
set_option maxHeartbeats 3200000 in
theorem write1 (hh : HAt w B xb n h) (hbr : h.br = false) {r : Rc} {m : Nat} (hr : r.Small m) (hm : m < 1000000000000) (hk : r.k = 1) (hb : h.jb.length + 16 ≤ 140737488355328) :
    Calls Tryz.prog 118 #[.pointer (some ⟨xb, 4, none⟩), recV r] w fun e w' => e = .returned (.bool true) ∧ ∃ jv, Wrote w w' B xb n h r jv := by
  have HH : Hid (HAt w B xb n h) := hh
  have HR : Hid (r.Small m) := hr
  have HC1 : Hid (∀ W, Calls Tryz.prog 171 #[recV r] W fun e w' => ∃ v, e = .returned v ∧ w'.ownsRow W.heap.size 5 1 v 16 (bcs (rbytes r)) ∧ Fr (fun _ => False) W w') := fun W => jbytes_any W hr hm
  have c4 := hh.cJ
  obtain ⟨ja, jc, hj, _⟩ := anyRow_len hh.jour
  rw [hj] at c4
  have c66 := hh.cB
  rw [hbr] at c66
  have HJ : Hid (h.jv = .slice ja h.jb.length jc) := hj
  have HJR : Hid (∀ W, Fr (fun _ => False) w W → W.ownsRow B 5 1 (.slice ja h.jb.length jc) h.jb.length h.jb) := fun W f => by rw [← hj]; exact f.ownsRow hh.jour (fun _ _ => id)
  have HJN : Hid (some xb ≠ Value.ownBlock (.slice ja h.jb.length jc)) := by show some xb ≠ _; rw [← hj]; exact fun e => hh.ne_j e.symm
  have hxl := lt_of_block hh.blk
  have HJL : Hid (h.jb.length + 16 ≤ 140737488355328) := hb
  obtain ⟨i, hi⟩ := Int.eq_ofNat_of_zero_le hr.p0
  have hi6 : i < 6 := by have := hr.p1; omega
  obtain ⟨x, hx⟩ : ∃ x, h.ps[i]? = some x := ⟨_, List.getElem?_eq_getElem (by rw [hh.h6]; exact hi6)⟩
  have HX : Hid (h.ps[i]? = some x) := hx
  obtain ⟨k, p, a, mm⟩ := r
  simp only at hk hi
  subst hk hi
  obtain ⟨i0, hi0, hz0, hz1, hz2⟩ := info_parts info5
  unfold recV
  clear hh hj hbr hr hb hx
  go_enter Tryz.func118, Tryz.ntmps118
  go_wp2_with (first
    | (go_at_call 171; refine (show Calls Tryz.prog 171 #[recV ⟨1, i, a, mm⟩] _ _ from HC1.out _).mono ?_; rintro e w1 ⟨v1, rfl, hv1, hf1⟩
       have F1 : Hid (Fr (fun _ => False) w w1) := (nofr _).trans hf1 (fun _ h => h.elim)
       obtain ⟨g, gc, rfl, _⟩ := row_some hv1 (by decide)
       have V1 : Hid (w1.ownsRow (w.alloc (.cells #[.int .i64 1, .int .i64 i, .int .i64 a, .int .i64 mm] 184)).heap.size 5 1 (.slice (some ⟨g, 0, none⟩) 16 gc) 16 (bcs (rbytes ⟨1, i, a, mm⟩))) := hv1
       have d4 := (F1.out.cell (p := ⟨xb, 4, none⟩) hxl id).trans c4
       have d66 := (F1.out.cell (p := ⟨xb, 66, none⟩) hxl id).trans c66
       have df : ∀ o, w1.frozen? ⟨xb, o, none⟩ = false := frozen_of_cells ((F1.out.block xb hxl id).trans HH.out.blk)
       have BX : Hid (w1.heap[w.heap.size]? = some (.cells #[.int .i64 1, .int .i64 i, .int .i64 a, .int .i64 mm] 184 (0, 0))) := (hf1.block _ (by simp) id).trans (heap_alloc_new _ _)
       have HJ1 : Hid (w1.ownsRow B 5 1 (.slice ja h.jb.length jc) h.jb.length h.jb) := HJR.out w1 F1.out
       have HNE : Hid (some xb ≠ Value.ownBlock (.slice ja h.jb.length jc)) := HJN.out
       have hx1 : xb < w1.heap.size := Nat.lt_of_lt_of_le hxl F1.out.size
       clear hv1 hf1)
    | (at_builtin; refine wpList_append_lies _ rfl _ _ 99 rfl B 5 i0 _ 1 1 Tryz.underlying99 hi0 hz0 hz1 hz2 rfl (by decide) (.slice ja h.jb.length jc) h.jb.length h.jb rfl HJ1.out ⟨g, 0, none⟩ 16 gc (bcs (rbytes ⟨1, i, a, mm⟩)) rfl (by rw [bcs_len, rbytes_len]) (V1.out.cells (g := g) rfl) (bcs_one _) (by decide) (by have := HJL.out; simp only [maxLen]; omega) (by have := HJL.out; omega) (by have := HH.out.hx; omega) w1.heap.size rfl ?_; intro gg cap w2 hown hgrow hat hlt2
       have G2 : Hid (w1.grownBy w2 (Value.ownBlock (.slice ja h.jb.length jc))) := hgrow
       have e4 := (hgrow.cell_far ⟨xb, 4, none⟩ hx1 HNE.out).trans d4
       have ef := (hgrow.frozen_far ⟨xb, 4, none⟩ hx1 HNE.out).trans (df 4)))
  have hD := HH.out.jourDone (jv := .slice (some ⟨gg, 0, none⟩) (h.jb.length + 16) cap) (m := 16) (new := bcs (rbytes ⟨1, i, a, mm⟩)) F1.out (by rw [HJ.out]; exact G2.out) hown (by rw [bcs_len, rbytes_len]) (fun q hq => by
    simp only [Value.ownBlock, Option.some.injEq] at hq
    subst hq
    rcases hat with e | e
    · exact .inl (by rw [HJ.out]; exact e)
    · exact .inr (by have := F1.out.size; omega))
  have HLIE : Hid (∀ k, Value.ownBlock (.slice (some ⟨gg, 0, none⟩) (h.jb.length + 16) cap) = some k → h.jv.ownBlock = some k ∨ w.heap.size ≤ k) := fun q hq => by
    simp only [Value.ownBlock, Option.some.injEq] at hq
    subst hq
    rcases hat with e | e
    · exact .inl (by rw [HJ.out]; exact e)
    · exact .inr (by have := F1.out.size; omega)
  have hbx : (w2.setCell ⟨xb, 4, none⟩ (.slice (some ⟨gg, 0, none⟩) (h.jb.length + 16) cap)).heap[w.heap.size]? = some (.cells #[.int .i64 1, .int .i64 i, .int .i64 a, .int .i64 mm] 184 (0, 0)) := by
    rw [Below.heap_setCell _ _ _ _ (show w.heap.size ≠ xb by omega), G2.out.block w.heap.size (lt_of_block BX.out) (fun e => by
      have h1 := HJ1.out.lt w.heap.size e.symm
      have h2 := (HH.out.jour.lt w.heap.size (by rw [HJ.out]; exact e.symm)).2
      omega)]
    exact BX.out
  generalize w2.setCell ⟨xb, 4, none⟩ (.slice (some ⟨gg, 0, none⟩) (h.jb.length + 16) cap) = W at hD hbx ⊢
  generalize (Value.slice (some ⟨gg, 0, none⟩) (h.jb.length + 16) cap) = jv at hD HLIE ⊢
  have HW : Hid (HAt W B xb n (h.jot jv (bcs (rbytes ⟨1, i, a, mm⟩)))) := hD.1
  have FW : Hid (Fr (fun k => k = xb ∨ h.jv.ownBlock = some k) w W) := hD.2
  have HBX : Hid (W.heap[w.heap.size]? = some (.cells #[.int .i64 1, .int .i64 i, .int .i64 a, .int .i64 mm] 184 (0, 0))) := hbx
  have HXW : Hid ((h.jot jv (bcs (rbytes ⟨1, i, a, mm⟩))).ps[i]? = some x) := HX.out
  clear hD hbx hown hgrow hat hlt2 e4 ef d4 d66 df
  have hix := index193_1
  go_region_held3 (fun w' => w'.cell? ⟨w.heap.size, 0, none⟩ = some (.int .i64 1) ∧ w'.cell? ⟨w.heap.size, 1, none⟩ = some (.int .i64 i) ∧ w'.cell? ⟨w.heap.size, 2, none⟩ = some (.int .i64 a) ∧ w'.cell? ⟨w.heap.size, 3, none⟩ = some (.int .i64 mm))
    (first | with_reducible exact C2 | with_reducible exact C3 | exact ⟨cell_of_cells HBX.out 0, cell_of_cells HBX.out 1, cell_of_cells HBX.out 2, cell_of_cells HBX.out 3⟩ | go_keep)
    (first
      | (go_at_call 128; refine (deeds_any (w := W.drew) _).mono ?_; rintro e w3 ⟨rfl, hb3, hf3⟩
         have F3 : Hid (Fr (fun _ => False) W w3) := ((Fr.refl _ _).drew : Fr (fun _ => False) W W.drew).trans hf3 (fun _ h => h.elim)
         have B3 : Hid (KAt w3 W.drew.heap.size xb) := hb3
         have x3 := (F3.out.block _ (lt_of_block HBX.out) id).trans HBX.out
         have C2 : w3.cell? ⟨w.heap.size, 0, none⟩ = some (.int .i64 1) ∧ w3.cell? ⟨w.heap.size, 1, none⟩ = some (.int .i64 i) ∧ w3.cell? ⟨w.heap.size, 2, none⟩ = some (.int .i64 a) ∧ w3.cell? ⟨w.heap.size, 3, none⟩ = some (.int .i64 mm) := ⟨cell_of_cells x3 0, cell_of_cells x3 1, cell_of_cells x3 2, cell_of_cells x3 3⟩
         have X3 : Hid (w3.heap[w.heap.size]? = some (.cells #[.int .i64 1, .int .i64 i, .int .i64 a, .int .i64 mm] 184 (0, 0))) := x3
         clear hb3 hf3 x3)
      | (go_at_call 179; refine (deed1_any (HW.out.after F3.out) B3.out hi6 HXW.out 1 a mm).mono ?_; rintro e w4 ⟨rfl, h4, hf4⟩
         have H4 : Hid (HAt w4 B xb n ((h.jot jv (bcs (rbytes ⟨1, i, a, mm⟩))).setP i { x with e := mm })) := h4
         have F4 : Hid (Fr (fun k => k = xb) w3 w4) := hf4
         have x4 := (hf4.block _ (lt_of_block X3.out) (show ¬ w.heap.size = xb by omega)).trans X3.out
         have C3 : w4.cell? ⟨w.heap.size, 0, none⟩ = some (.int .i64 1) ∧ w4.cell? ⟨w.heap.size, 1, none⟩ = some (.int .i64 i) ∧ w4.cell? ⟨w.heap.size, 2, none⟩ = some (.int .i64 a) ∧ w4.cell? ⟨w.heap.size, 3, none⟩ = some (.int .i64 mm) := ⟨cell_of_cells x4 0, cell_of_cells x4 1, cell_of_cells x4 2, cell_of_cells x4 3⟩
         clear h4 hf4 x4))
  go_wp2_with fail
  go_ret
  refine ⟨rfl, jv, ?_, (FW.out.trans F3.out (fun _ h => h.elim)).trans F4.out (fun _ e => .inl (.inl e)), HLIE.out⟩
  rw [deedAll_eq (r := ⟨1, i, a, mm⟩) (jv := jv) (new := bcs (rbytes ⟨1, i, a, mm⟩)) HX.out rfl]
  exact H4.out

set_option maxRecDepth 100000 in
set_option maxHeartbeats 3200000 in
theorem write2 (hh : HAt w B xb n h) (hbr : h.br = false) {r : Rc} {m : Nat} (hr : r.Small m) (hm : m < 1000000000000) (hk : r.k = 2) (hb : h.jb.length + 16 ≤ 140737488355328) :
    Calls Tryz.prog 118 #[.pointer (some ⟨xb, 4, none⟩), recV r] w fun e w' => e = .returned (.bool true) ∧ ∃ jv, Wrote w w' B xb n h r jv := by
  have HH : Hid (HAt w B xb n h) := hh
  have HR : Hid (r.Small m) := hr
  have HC1 : Hid (∀ W, Calls Tryz.prog 171 #[recV r] W fun e w' => ∃ v, e = .returned v ∧ w'.ownsRow W.heap.size 5 1 v 16 (bcs (rbytes r)) ∧ Fr (fun _ => False) W w') := fun W => jbytes_any W hr hm
  have c4 := hh.cJ
  obtain ⟨ja, jc, hj, _⟩ := anyRow_len hh.jour
  rw [hj] at c4
  have c66 := hh.cB
  rw [hbr] at c66
  have HJ : Hid (h.jv = .slice ja h.jb.length jc) := hj
  have HJR : Hid (∀ W, Fr (fun _ => False) w W → W.ownsRow B 5 1 (.slice ja h.jb.length jc) h.jb.length h.jb) := fun W f => by rw [← hj]; exact f.ownsRow hh.jour (fun _ _ => id)
  have HJN : Hid (some xb ≠ Value.ownBlock (.slice ja h.jb.length jc)) := by show some xb ≠ _; rw [← hj]; exact fun e => hh.ne_j e.symm
  have hxl := lt_of_block hh.blk
  have HJL : Hid (h.jb.length + 16 ≤ 140737488355328) := hb
  obtain ⟨i, hi⟩ := Int.eq_ofNat_of_zero_le hr.p0
  have hi6 : i < 6 := by have := hr.p1; omega
  obtain ⟨x, hx⟩ : ∃ x, h.ps[i]? = some x := ⟨_, List.getElem?_eq_getElem (by rw [hh.h6]; exact hi6)⟩
  have HX : Hid (h.ps[i]? = some x) := hx
  obtain ⟨k, p, a, mm⟩ := r
  simp only at hk hi
  subst hk hi
  obtain ⟨q, hq⟩ := Int.eq_ofNat_of_zero_le hr.a0
  simp only at hq
  subst hq
  have hq4 : q < 4 := by have := hr.a1; simp only at this; omega
  obtain ⟨i0, hi0, hz0, hz1, hz2⟩ := info_parts info5
  unfold recV
  clear hh hj hbr hr hb hx
  go_enter Tryz.func118, Tryz.ntmps118
  go_wp2_with (first
    | (go_at_call 171; refine (show Calls Tryz.prog 171 #[recV ⟨2, i, q, mm⟩] _ _ from HC1.out _).mono ?_; rintro e w1 ⟨v1, rfl, hv1, hf1⟩
       have F1 : Hid (Fr (fun _ => False) w w1) := (nofr _).trans hf1 (fun _ h => h.elim)
       obtain ⟨g, gc, rfl, _⟩ := row_some hv1 (by decide)
       have V1 : Hid (w1.ownsRow (w.alloc (.cells #[.int .i64 2, .int .i64 i, .int .i64 q, .int .i64 mm] 184)).heap.size 5 1 (.slice (some ⟨g, 0, none⟩) 16 gc) 16 (bcs (rbytes ⟨2, i, q, mm⟩))) := hv1
       have d4 := (F1.out.cell (p := ⟨xb, 4, none⟩) hxl id).trans c4
       have d66 := (F1.out.cell (p := ⟨xb, 66, none⟩) hxl id).trans c66
       have df : ∀ o, w1.frozen? ⟨xb, o, none⟩ = false := frozen_of_cells ((F1.out.block xb hxl id).trans HH.out.blk)
       have BX : Hid (w1.heap[w.heap.size]? = some (.cells #[.int .i64 2, .int .i64 i, .int .i64 q, .int .i64 mm] 184 (0, 0))) := (hf1.block _ (by simp) id).trans (heap_alloc_new _ _)
       have HJ1 : Hid (w1.ownsRow B 5 1 (.slice ja h.jb.length jc) h.jb.length h.jb) := HJR.out w1 F1.out
       have HNE : Hid (some xb ≠ Value.ownBlock (.slice ja h.jb.length jc)) := HJN.out
       have hx1 : xb < w1.heap.size := Nat.lt_of_lt_of_le hxl F1.out.size
       clear hv1 hf1)
    | (at_builtin; refine wpList_append_lies _ rfl _ _ 99 rfl B 5 i0 _ 1 1 Tryz.underlying99 hi0 hz0 hz1 hz2 rfl (by decide) (.slice ja h.jb.length jc) h.jb.length h.jb rfl HJ1.out ⟨g, 0, none⟩ 16 gc (bcs (rbytes ⟨2, i, q, mm⟩)) rfl (by rw [bcs_len, rbytes_len]) (V1.out.cells (g := g) rfl) (bcs_one _) (by decide) (by have := HJL.out; simp only [maxLen]; omega) (by have := HJL.out; omega) (by have := HH.out.hx; omega) w1.heap.size rfl ?_; intro gg cap w2 hown hgrow hat hlt2
       have G2 : Hid (w1.grownBy w2 (Value.ownBlock (.slice ja h.jb.length jc))) := hgrow
       have e4 := (hgrow.cell_far ⟨xb, 4, none⟩ hx1 HNE.out).trans d4
       have ef := (hgrow.frozen_far ⟨xb, 4, none⟩ hx1 HNE.out).trans (df 4)))
  have hD := HH.out.jourDone (jv := .slice (some ⟨gg, 0, none⟩) (h.jb.length + 16) cap) (m := 16) (new := bcs (rbytes ⟨2, i, q, mm⟩)) F1.out (by rw [HJ.out]; exact G2.out) hown (by rw [bcs_len, rbytes_len]) (fun q hq => by
    simp only [Value.ownBlock, Option.some.injEq] at hq
    subst hq
    rcases hat with e | e
    · exact .inl (by rw [HJ.out]; exact e)
    · exact .inr (by have := F1.out.size; omega))
  have HLIE : Hid (∀ k, Value.ownBlock (.slice (some ⟨gg, 0, none⟩) (h.jb.length + 16) cap) = some k → h.jv.ownBlock = some k ∨ w.heap.size ≤ k) := fun q hq => by
    simp only [Value.ownBlock, Option.some.injEq] at hq
    subst hq
    rcases hat with e | e
    · exact .inl (by rw [HJ.out]; exact e)
    · exact .inr (by have := F1.out.size; omega)
  have hbx : (w2.setCell ⟨xb, 4, none⟩ (.slice (some ⟨gg, 0, none⟩) (h.jb.length + 16) cap)).heap[w.heap.size]? = some (.cells #[.int .i64 2, .int .i64 i, .int .i64 q, .int .i64 mm] 184 (0, 0)) := by
    rw [Below.heap_setCell _ _ _ _ (show w.heap.size ≠ xb by omega), G2.out.block w.heap.size (lt_of_block BX.out) (fun e => by
      have h1 := HJ1.out.lt w.heap.size e.symm
      have h2 := (HH.out.jour.lt w.heap.size (by rw [HJ.out]; exact e.symm)).2
      omega)]
    exact BX.out
  generalize w2.setCell ⟨xb, 4, none⟩ (.slice (some ⟨gg, 0, none⟩) (h.jb.length + 16) cap) = W at hD hbx ⊢
  generalize (Value.slice (some ⟨gg, 0, none⟩) (h.jb.length + 16) cap) = jv at hD HLIE ⊢
  have HW : Hid (HAt W B xb n (h.jot jv (bcs (rbytes ⟨2, i, q, mm⟩)))) := hD.1
  have FW : Hid (Fr (fun k => k = xb ∨ h.jv.ownBlock = some k) w W) := hD.2
  have HBX : Hid (W.heap[w.heap.size]? = some (.cells #[.int .i64 2, .int .i64 i, .int .i64 q, .int .i64 mm] 184 (0, 0))) := hbx
  have HXW : Hid ((h.jot jv (bcs (rbytes ⟨2, i, q, mm⟩))).ps[i]? = some x) := HX.out
  clear hD hbx hown hgrow hat hlt2 e4 ef d4 d66 df
  have hix := index193_2
  go_region_held3 (fun w' => w'.cell? ⟨w.heap.size, 0, none⟩ = some (.int .i64 2) ∧ w'.cell? ⟨w.heap.size, 1, none⟩ = some (.int .i64 i) ∧ w'.cell? ⟨w.heap.size, 2, none⟩ = some (.int .i64 q) ∧ w'.cell? ⟨w.heap.size, 3, none⟩ = some (.int .i64 mm))
    (first | with_reducible exact C2 | with_reducible exact C3 | exact ⟨cell_of_cells HBX.out 0, cell_of_cells HBX.out 1, cell_of_cells HBX.out 2, cell_of_cells HBX.out 3⟩ | go_keep)
    (first
      | (go_at_call 128; refine (deeds_any (w := W.drew) _).mono ?_; rintro e w3 ⟨rfl, hb3, hf3⟩
         have F3 : Hid (Fr (fun _ => False) W w3) := ((Fr.refl _ _).drew : Fr (fun _ => False) W W.drew).trans hf3 (fun _ h => h.elim)
         have B3 : Hid (KAt w3 W.drew.heap.size xb) := hb3
         have x3 := (F3.out.block _ (lt_of_block HBX.out) id).trans HBX.out
         have C2 : w3.cell? ⟨w.heap.size, 0, none⟩ = some (.int .i64 2) ∧ w3.cell? ⟨w.heap.size, 1, none⟩ = some (.int .i64 i) ∧ w3.cell? ⟨w.heap.size, 2, none⟩ = some (.int .i64 q) ∧ w3.cell? ⟨w.heap.size, 3, none⟩ = some (.int .i64 mm) := ⟨cell_of_cells x3 0, cell_of_cells x3 1, cell_of_cells x3 2, cell_of_cells x3 3⟩
         have X3 : Hid (w3.heap[w.heap.size]? = some (.cells #[.int .i64 2, .int .i64 i, .int .i64 q, .int .i64 mm] 184 (0, 0))) := x3
         clear hb3 hf3 x3)
      | (go_at_call 180; refine (deed2_any (HW.out.after F3.out) B3.out hi6 hq4 HXW.out 2 mm).mono ?_; rintro e w4 ⟨rfl, h4, hf4⟩
         have H4 : Hid (HAt w4 B xb n ((h.jot jv (bcs (rbytes ⟨2, i, q, mm⟩))).setP i (({ x with s := 1, t := mm } : PS).tie q 1))) := h4
         have F4 : Hid (Fr (fun k => k = xb) w3 w4) := hf4
         have x4 := (hf4.block _ (lt_of_block X3.out) (show ¬ w.heap.size = xb by omega)).trans X3.out
         have C3 : w4.cell? ⟨w.heap.size, 0, none⟩ = some (.int .i64 2) ∧ w4.cell? ⟨w.heap.size, 1, none⟩ = some (.int .i64 i) ∧ w4.cell? ⟨w.heap.size, 2, none⟩ = some (.int .i64 q) ∧ w4.cell? ⟨w.heap.size, 3, none⟩ = some (.int .i64 mm) := ⟨cell_of_cells x4 0, cell_of_cells x4 1, cell_of_cells x4 2, cell_of_cells x4 3⟩
         clear h4 hf4 x4))
  go_wp2_with fail
  go_ret
  refine ⟨rfl, jv, ?_, (FW.out.trans F3.out (fun _ h => h.elim)).trans F4.out (fun _ e => .inl (.inl e)), HLIE.out⟩
  rw [deedAll_eq (r := ⟨2, i, q, mm⟩) (jv := jv) (new := bcs (rbytes ⟨2, i, q, mm⟩)) HX.out rfl]
  exact H4.out

set_option maxRecDepth 100000 in
set_option maxHeartbeats 3200000 in
theorem write3 (hh : HAt w B xb n h) (hbr : h.br = false) {r : Rc} {m : Nat} (hr : r.Small m) (hm : m < 1000000000000) (hk : r.k = 3) {c : Bool} (hc : r.a = if c then 1 else 0) (hb : h.jb.length + 16 ≤ 140737488355328) :
    Calls Tryz.prog 118 #[.pointer (some ⟨xb, 4, none⟩), recV r] w fun e w' => e = .returned (.bool true) ∧ ∃ jv, Wrote w w' B xb n h r jv := by
  have HH : Hid (HAt w B xb n h) := hh
  have HR : Hid (r.Small m) := hr
  have HC1 : Hid (∀ W, Calls Tryz.prog 171 #[recV r] W fun e w' => ∃ v, e = .returned v ∧ w'.ownsRow W.heap.size 5 1 v 16 (bcs (rbytes r)) ∧ Fr (fun _ => False) W w') := fun W => jbytes_any W hr hm
  have c4 := hh.cJ
  obtain ⟨ja, jc, hj, _⟩ := anyRow_len hh.jour
  rw [hj] at c4
  have c66 := hh.cB
  rw [hbr] at c66
  have HJ : Hid (h.jv = .slice ja h.jb.length jc) := hj
  have HJR : Hid (∀ W, Fr (fun _ => False) w W → W.ownsRow B 5 1 (.slice ja h.jb.length jc) h.jb.length h.jb) := fun W f => by rw [← hj]; exact f.ownsRow hh.jour (fun _ _ => id)
  have HJN : Hid (some xb ≠ Value.ownBlock (.slice ja h.jb.length jc)) := by show some xb ≠ _; rw [← hj]; exact fun e => hh.ne_j e.symm
  have hxl := lt_of_block hh.blk
  have HJL : Hid (h.jb.length + 16 ≤ 140737488355328) := hb
  obtain ⟨i, hi⟩ := Int.eq_ofNat_of_zero_le hr.p0
  have hi6 : i < 6 := by have := hr.p1; omega
  obtain ⟨x, hx⟩ : ∃ x, h.ps[i]? = some x := ⟨_, List.getElem?_eq_getElem (by rw [hh.h6]; exact hi6)⟩
  have HX : Hid (h.ps[i]? = some x) := hx
  obtain ⟨k, p, a, mm⟩ := r
  simp only at hk hi
  subst hk hi
  simp only at hc
  have HC : Hid (a = if c then 1 else 0) := hc
  clear hc
  obtain ⟨i0, hi0, hz0, hz1, hz2⟩ := info_parts info5
  unfold recV
  clear hh hj hbr hr hb hx
  go_enter Tryz.func118, Tryz.ntmps118
  go_wp2_with (first
    | (go_at_call 171; refine (show Calls Tryz.prog 171 #[recV ⟨3, i, a, mm⟩] _ _ from HC1.out _).mono ?_; rintro e w1 ⟨v1, rfl, hv1, hf1⟩
       have F1 : Hid (Fr (fun _ => False) w w1) := (nofr _).trans hf1 (fun _ h => h.elim)
       obtain ⟨g, gc, rfl, _⟩ := row_some hv1 (by decide)
       have V1 : Hid (w1.ownsRow (w.alloc (.cells #[.int .i64 3, .int .i64 i, .int .i64 a, .int .i64 mm] 184)).heap.size 5 1 (.slice (some ⟨g, 0, none⟩) 16 gc) 16 (bcs (rbytes ⟨3, i, a, mm⟩))) := hv1
       have d4 := (F1.out.cell (p := ⟨xb, 4, none⟩) hxl id).trans c4
       have d66 := (F1.out.cell (p := ⟨xb, 66, none⟩) hxl id).trans c66
       have df : ∀ o, w1.frozen? ⟨xb, o, none⟩ = false := frozen_of_cells ((F1.out.block xb hxl id).trans HH.out.blk)
       have BX : Hid (w1.heap[w.heap.size]? = some (.cells #[.int .i64 3, .int .i64 i, .int .i64 a, .int .i64 mm] 184 (0, 0))) := (hf1.block _ (by simp) id).trans (heap_alloc_new _ _)
       have HJ1 : Hid (w1.ownsRow B 5 1 (.slice ja h.jb.length jc) h.jb.length h.jb) := HJR.out w1 F1.out
       have HNE : Hid (some xb ≠ Value.ownBlock (.slice ja h.jb.length jc)) := HJN.out
       have hx1 : xb < w1.heap.size := Nat.lt_of_lt_of_le hxl F1.out.size
       clear hv1 hf1)
    | (at_builtin; refine wpList_append_lies _ rfl _ _ 99 rfl B 5 i0 _ 1 1 Tryz.underlying99 hi0 hz0 hz1 hz2 rfl (by decide) (.slice ja h.jb.length jc) h.jb.length h.jb rfl HJ1.out ⟨g, 0, none⟩ 16 gc (bcs (rbytes ⟨3, i, a, mm⟩)) rfl (by rw [bcs_len, rbytes_len]) (V1.out.cells (g := g) rfl) (bcs_one _) (by decide) (by have := HJL.out; simp only [maxLen]; omega) (by have := HJL.out; omega) (by have := HH.out.hx; omega) w1.heap.size rfl ?_; intro gg cap w2 hown hgrow hat hlt2
       have G2 : Hid (w1.grownBy w2 (Value.ownBlock (.slice ja h.jb.length jc))) := hgrow
       have e4 := (hgrow.cell_far ⟨xb, 4, none⟩ hx1 HNE.out).trans d4
       have ef := (hgrow.frozen_far ⟨xb, 4, none⟩ hx1 HNE.out).trans (df 4)))
  have hD := HH.out.jourDone (jv := .slice (some ⟨gg, 0, none⟩) (h.jb.length + 16) cap) (m := 16) (new := bcs (rbytes ⟨3, i, a, mm⟩)) F1.out (by rw [HJ.out]; exact G2.out) hown (by rw [bcs_len, rbytes_len]) (fun q hq => by
    simp only [Value.ownBlock, Option.some.injEq] at hq
    subst hq
    rcases hat with e | e
    · exact .inl (by rw [HJ.out]; exact e)
    · exact .inr (by have := F1.out.size; omega))
  have HLIE : Hid (∀ k, Value.ownBlock (.slice (some ⟨gg, 0, none⟩) (h.jb.length + 16) cap) = some k → h.jv.ownBlock = some k ∨ w.heap.size ≤ k) := fun q hq => by
    simp only [Value.ownBlock, Option.some.injEq] at hq
    subst hq
    rcases hat with e | e
    · exact .inl (by rw [HJ.out]; exact e)
    · exact .inr (by have := F1.out.size; omega)
  have hbx : (w2.setCell ⟨xb, 4, none⟩ (.slice (some ⟨gg, 0, none⟩) (h.jb.length + 16) cap)).heap[w.heap.size]? = some (.cells #[.int .i64 3, .int .i64 i, .int .i64 a, .int .i64 mm] 184 (0, 0)) := by
    rw [Below.heap_setCell _ _ _ _ (show w.heap.size ≠ xb by omega), G2.out.block w.heap.size (lt_of_block BX.out) (fun e => by
      have h1 := HJ1.out.lt w.heap.size e.symm
      have h2 := (HH.out.jour.lt w.heap.size (by rw [HJ.out]; exact e.symm)).2
      omega)]
    exact BX.out
  generalize w2.setCell ⟨xb, 4, none⟩ (.slice (some ⟨gg, 0, none⟩) (h.jb.length + 16) cap) = W at hD hbx ⊢
  generalize (Value.slice (some ⟨gg, 0, none⟩) (h.jb.length + 16) cap) = jv at hD HLIE ⊢
  have HW : Hid (HAt W B xb n (h.jot jv (bcs (rbytes ⟨3, i, a, mm⟩)))) := hD.1
  have FW : Hid (Fr (fun k => k = xb ∨ h.jv.ownBlock = some k) w W) := hD.2
  have HBX : Hid (W.heap[w.heap.size]? = some (.cells #[.int .i64 3, .int .i64 i, .int .i64 a, .int .i64 mm] 184 (0, 0))) := hbx
  have HXW : Hid ((h.jot jv (bcs (rbytes ⟨3, i, a, mm⟩))).ps[i]? = some x) := HX.out
  clear hD hbx hown hgrow hat hlt2 e4 ef d4 d66 df
  have hix := index193_3
  go_region_held3 (fun w' => w'.cell? ⟨w.heap.size, 0, none⟩ = some (.int .i64 3) ∧ w'.cell? ⟨w.heap.size, 1, none⟩ = some (.int .i64 i) ∧ w'.cell? ⟨w.heap.size, 2, none⟩ = some (.int .i64 a) ∧ w'.cell? ⟨w.heap.size, 3, none⟩ = some (.int .i64 mm))
    (first | with_reducible exact C2 | with_reducible exact C3 | exact ⟨cell_of_cells HBX.out 0, cell_of_cells HBX.out 1, cell_of_cells HBX.out 2, cell_of_cells HBX.out 3⟩ | go_keep)
    (first
      | (go_at_call 128; refine (deeds_any (w := W.drew) _).mono ?_; rintro e w3 ⟨rfl, hb3, hf3⟩
         have F3 : Hid (Fr (fun _ => False) W w3) := ((Fr.refl _ _).drew : Fr (fun _ => False) W W.drew).trans hf3 (fun _ h => h.elim)
         have B3 : Hid (KAt w3 W.drew.heap.size xb) := hb3
         have x3 := (F3.out.block _ (lt_of_block HBX.out) id).trans HBX.out
         have C2 : w3.cell? ⟨w.heap.size, 0, none⟩ = some (.int .i64 3) ∧ w3.cell? ⟨w.heap.size, 1, none⟩ = some (.int .i64 i) ∧ w3.cell? ⟨w.heap.size, 2, none⟩ = some (.int .i64 a) ∧ w3.cell? ⟨w.heap.size, 3, none⟩ = some (.int .i64 mm) := ⟨cell_of_cells x3 0, cell_of_cells x3 1, cell_of_cells x3 2, cell_of_cells x3 3⟩
         have X3 : Hid (w3.heap[w.heap.size]? = some (.cells #[.int .i64 3, .int .i64 i, .int .i64 a, .int .i64 mm] 184 (0, 0))) := x3
         clear hb3 hf3 x3)
      | (go_at_call 181; refine (deed3_any (HW.out.after F3.out) B3.out hi6 HXW.out 3 mm (c := c) (s' := if c then 2 else 3) HC.out rfl).mono ?_; rintro e w4 ⟨rfl, h4, hf4⟩
         have H4 : Hid (HAt w4 B xb n ((h.jot jv (bcs (rbytes ⟨3, i, a, mm⟩))).setP i ({ ({ x with s := if c then 2 else 3 } : PS).pend (tiedL x.ties 1 4) with wa := 1, ga := 1 } : PS))) := h4
         have F4 : Hid (Fr (fun k => k = xb) w3 w4) := hf4
         have x4 := (hf4.block _ (lt_of_block X3.out) (show ¬ w.heap.size = xb by omega)).trans X3.out
         have C3 : w4.cell? ⟨w.heap.size, 0, none⟩ = some (.int .i64 3) ∧ w4.cell? ⟨w.heap.size, 1, none⟩ = some (.int .i64 i) ∧ w4.cell? ⟨w.heap.size, 2, none⟩ = some (.int .i64 a) ∧ w4.cell? ⟨w.heap.size, 3, none⟩ = some (.int .i64 mm) := ⟨cell_of_cells x4 0, cell_of_cells x4 1, cell_of_cells x4 2, cell_of_cells x4 3⟩
         clear h4 hf4 x4))
  go_wp2_with fail
  go_ret
  refine ⟨rfl, jv, ?_, (FW.out.trans F3.out (fun _ h => h.elim)).trans F4.out (fun _ e => .inl (.inl e)), HLIE.out⟩
  have he : ({ ({ x with s := if c then 2 else 3 } : PS).pend (tiedL x.ties 1 4) with wa := 1, ga := 1 } : PS) = x.deed ⟨3, i, a, mm⟩ := by
    have := pend_up2 ({ x with s := if c then 2 else 3 } : PS)
    rw [show ({ x with s := if c then 2 else 3 } : PS).ties = x.ties from rfl] at this
    rw [this, HC.out]
    cases c <;> rfl
  rw [deedAll_eq (r := ⟨3, i, a, mm⟩) (jv := jv) (new := bcs (rbytes ⟨3, i, a, mm⟩)) HX.out rfl, ← he]
  exact H4.out

set_option maxRecDepth 100000 in
set_option maxHeartbeats 3200000 in
theorem write4 (hh : HAt w B xb n h) (hbr : h.br = false) {r : Rc} {m : Nat} (hr : r.Small m) (hm : m < 1000000000000) (hk : r.k = 4) (hb : h.jb.length + 16 ≤ 140737488355328) :
    Calls Tryz.prog 118 #[.pointer (some ⟨xb, 4, none⟩), recV r] w fun e w' => e = .returned (.bool true) ∧ ∃ jv, Wrote w w' B xb n h r jv := by
  have HH : Hid (HAt w B xb n h) := hh
  have HR : Hid (r.Small m) := hr
  have HC1 : Hid (∀ W, Calls Tryz.prog 171 #[recV r] W fun e w' => ∃ v, e = .returned v ∧ w'.ownsRow W.heap.size 5 1 v 16 (bcs (rbytes r)) ∧ Fr (fun _ => False) W w') := fun W => jbytes_any W hr hm
  have c4 := hh.cJ
  obtain ⟨ja, jc, hj, _⟩ := anyRow_len hh.jour
  rw [hj] at c4
  have c66 := hh.cB
  rw [hbr] at c66
  have HJ : Hid (h.jv = .slice ja h.jb.length jc) := hj
  have HJR : Hid (∀ W, Fr (fun _ => False) w W → W.ownsRow B 5 1 (.slice ja h.jb.length jc) h.jb.length h.jb) := fun W f => by rw [← hj]; exact f.ownsRow hh.jour (fun _ _ => id)
  have HJN : Hid (some xb ≠ Value.ownBlock (.slice ja h.jb.length jc)) := by show some xb ≠ _; rw [← hj]; exact fun e => hh.ne_j e.symm
  have hxl := lt_of_block hh.blk
  have HJL : Hid (h.jb.length + 16 ≤ 140737488355328) := hb
  obtain ⟨i, hi⟩ := Int.eq_ofNat_of_zero_le hr.p0
  have hi6 : i < 6 := by have := hr.p1; omega
  obtain ⟨x, hx⟩ : ∃ x, h.ps[i]? = some x := ⟨_, List.getElem?_eq_getElem (by rw [hh.h6]; exact hi6)⟩
  have HX : Hid (h.ps[i]? = some x) := hx
  obtain ⟨k, p, a, mm⟩ := r
  simp only at hk hi
  subst hk hi
  obtain ⟨i0, hi0, hz0, hz1, hz2⟩ := info_parts info5
  unfold recV
  clear hh hj hbr hr hb hx
  go_enter Tryz.func118, Tryz.ntmps118
  go_wp2_with (first
    | (go_at_call 171; refine (show Calls Tryz.prog 171 #[recV ⟨4, i, a, mm⟩] _ _ from HC1.out _).mono ?_; rintro e w1 ⟨v1, rfl, hv1, hf1⟩
       have F1 : Hid (Fr (fun _ => False) w w1) := (nofr _).trans hf1 (fun _ h => h.elim)
       obtain ⟨g, gc, rfl, _⟩ := row_some hv1 (by decide)
       have V1 : Hid (w1.ownsRow (w.alloc (.cells #[.int .i64 4, .int .i64 i, .int .i64 a, .int .i64 mm] 184)).heap.size 5 1 (.slice (some ⟨g, 0, none⟩) 16 gc) 16 (bcs (rbytes ⟨4, i, a, mm⟩))) := hv1
       have d4 := (F1.out.cell (p := ⟨xb, 4, none⟩) hxl id).trans c4
       have d66 := (F1.out.cell (p := ⟨xb, 66, none⟩) hxl id).trans c66
       have df : ∀ o, w1.frozen? ⟨xb, o, none⟩ = false := frozen_of_cells ((F1.out.block xb hxl id).trans HH.out.blk)
       have BX : Hid (w1.heap[w.heap.size]? = some (.cells #[.int .i64 4, .int .i64 i, .int .i64 a, .int .i64 mm] 184 (0, 0))) := (hf1.block _ (by simp) id).trans (heap_alloc_new _ _)
       have HJ1 : Hid (w1.ownsRow B 5 1 (.slice ja h.jb.length jc) h.jb.length h.jb) := HJR.out w1 F1.out
       have HNE : Hid (some xb ≠ Value.ownBlock (.slice ja h.jb.length jc)) := HJN.out
       have hx1 : xb < w1.heap.size := Nat.lt_of_lt_of_le hxl F1.out.size
       clear hv1 hf1)
    | (at_builtin; refine wpList_append_lies _ rfl _ _ 99 rfl B 5 i0 _ 1 1 Tryz.underlying99 hi0 hz0 hz1 hz2 rfl (by decide) (.slice ja h.jb.length jc) h.jb.length h.jb rfl HJ1.out ⟨g, 0, none⟩ 16 gc (bcs (rbytes ⟨4, i, a, mm⟩)) rfl (by rw [bcs_len, rbytes_len]) (V1.out.cells (g := g) rfl) (bcs_one _) (by decide) (by have := HJL.out; simp only [maxLen]; omega) (by have := HJL.out; omega) (by have := HH.out.hx; omega) w1.heap.size rfl ?_; intro gg cap w2 hown hgrow hat hlt2
       have G2 : Hid (w1.grownBy w2 (Value.ownBlock (.slice ja h.jb.length jc))) := hgrow
       have e4 := (hgrow.cell_far ⟨xb, 4, none⟩ hx1 HNE.out).trans d4
       have ef := (hgrow.frozen_far ⟨xb, 4, none⟩ hx1 HNE.out).trans (df 4)))
  have hD := HH.out.jourDone (jv := .slice (some ⟨gg, 0, none⟩) (h.jb.length + 16) cap) (m := 16) (new := bcs (rbytes ⟨4, i, a, mm⟩)) F1.out (by rw [HJ.out]; exact G2.out) hown (by rw [bcs_len, rbytes_len]) (fun q hq => by
    simp only [Value.ownBlock, Option.some.injEq] at hq
    subst hq
    rcases hat with e | e
    · exact .inl (by rw [HJ.out]; exact e)
    · exact .inr (by have := F1.out.size; omega))
  have HLIE : Hid (∀ k, Value.ownBlock (.slice (some ⟨gg, 0, none⟩) (h.jb.length + 16) cap) = some k → h.jv.ownBlock = some k ∨ w.heap.size ≤ k) := fun q hq => by
    simp only [Value.ownBlock, Option.some.injEq] at hq
    subst hq
    rcases hat with e | e
    · exact .inl (by rw [HJ.out]; exact e)
    · exact .inr (by have := F1.out.size; omega)
  have hbx : (w2.setCell ⟨xb, 4, none⟩ (.slice (some ⟨gg, 0, none⟩) (h.jb.length + 16) cap)).heap[w.heap.size]? = some (.cells #[.int .i64 4, .int .i64 i, .int .i64 a, .int .i64 mm] 184 (0, 0)) := by
    rw [Below.heap_setCell _ _ _ _ (show w.heap.size ≠ xb by omega), G2.out.block w.heap.size (lt_of_block BX.out) (fun e => by
      have h1 := HJ1.out.lt w.heap.size e.symm
      have h2 := (HH.out.jour.lt w.heap.size (by rw [HJ.out]; exact e.symm)).2
      omega)]
    exact BX.out
  generalize w2.setCell ⟨xb, 4, none⟩ (.slice (some ⟨gg, 0, none⟩) (h.jb.length + 16) cap) = W at hD hbx ⊢
  generalize (Value.slice (some ⟨gg, 0, none⟩) (h.jb.length + 16) cap) = jv at hD HLIE ⊢
  have HW : Hid (HAt W B xb n (h.jot jv (bcs (rbytes ⟨4, i, a, mm⟩)))) := hD.1
  have FW : Hid (Fr (fun k => k = xb ∨ h.jv.ownBlock = some k) w W) := hD.2
  have HBX : Hid (W.heap[w.heap.size]? = some (.cells #[.int .i64 4, .int .i64 i, .int .i64 a, .int .i64 mm] 184 (0, 0))) := hbx
  have HXW : Hid ((h.jot jv (bcs (rbytes ⟨4, i, a, mm⟩))).ps[i]? = some x) := HX.out
  clear hD hbx hown hgrow hat hlt2 e4 ef d4 d66 df
  have hix := index193_4
  go_region_held3 (fun w' => w'.cell? ⟨w.heap.size, 0, none⟩ = some (.int .i64 4) ∧ w'.cell? ⟨w.heap.size, 1, none⟩ = some (.int .i64 i) ∧ w'.cell? ⟨w.heap.size, 2, none⟩ = some (.int .i64 a) ∧ w'.cell? ⟨w.heap.size, 3, none⟩ = some (.int .i64 mm))
    (first | with_reducible exact C2 | with_reducible exact C3 | exact ⟨cell_of_cells HBX.out 0, cell_of_cells HBX.out 1, cell_of_cells HBX.out 2, cell_of_cells HBX.out 3⟩ | go_keep)
    (first
      | (go_at_call 128; refine (deeds_any (w := W.drew) _).mono ?_; rintro e w3 ⟨rfl, hb3, hf3⟩
         have F3 : Hid (Fr (fun _ => False) W w3) := ((Fr.refl _ _).drew : Fr (fun _ => False) W W.drew).trans hf3 (fun _ h => h.elim)
         have B3 : Hid (KAt w3 W.drew.heap.size xb) := hb3
         have x3 := (F3.out.block _ (lt_of_block HBX.out) id).trans HBX.out
         have C2 : w3.cell? ⟨w.heap.size, 0, none⟩ = some (.int .i64 4) ∧ w3.cell? ⟨w.heap.size, 1, none⟩ = some (.int .i64 i) ∧ w3.cell? ⟨w.heap.size, 2, none⟩ = some (.int .i64 a) ∧ w3.cell? ⟨w.heap.size, 3, none⟩ = some (.int .i64 mm) := ⟨cell_of_cells x3 0, cell_of_cells x3 1, cell_of_cells x3 2, cell_of_cells x3 3⟩
         have X3 : Hid (w3.heap[w.heap.size]? = some (.cells #[.int .i64 4, .int .i64 i, .int .i64 a, .int .i64 mm] 184 (0, 0))) := x3
         clear hb3 hf3 x3)
      | (go_at_call 182; refine (deed4_any (HW.out.after F3.out) B3.out hi6 HXW.out 4 a mm).mono ?_; rintro e w4 ⟨rfl, h4, hf4⟩
         have H4 : Hid (HAt w4 B xb n ((h.jot jv (bcs (rbytes ⟨4, i, a, mm⟩))).setP i ⟨x.e, x.t, 0, 0, 0, 0, 0, 0, 0, 0⟩)) := h4
         have F4 : Hid (Fr (fun k => k = xb) w3 w4) := hf4
         have x4 := (hf4.block _ (lt_of_block X3.out) (show ¬ w.heap.size = xb by omega)).trans X3.out
         have C3 : w4.cell? ⟨w.heap.size, 0, none⟩ = some (.int .i64 4) ∧ w4.cell? ⟨w.heap.size, 1, none⟩ = some (.int .i64 i) ∧ w4.cell? ⟨w.heap.size, 2, none⟩ = some (.int .i64 a) ∧ w4.cell? ⟨w.heap.size, 3, none⟩ = some (.int .i64 mm) := ⟨cell_of_cells x4 0, cell_of_cells x4 1, cell_of_cells x4 2, cell_of_cells x4 3⟩
         clear h4 hf4 x4))
  go_wp2_with fail
  go_ret
  refine ⟨rfl, jv, ?_, (FW.out.trans F3.out (fun _ h => h.elim)).trans F4.out (fun _ e => .inl (.inl e)), HLIE.out⟩
  rw [deedAll_eq (r := ⟨4, i, a, mm⟩) (jv := jv) (new := bcs (rbytes ⟨4, i, a, mm⟩)) HX.out rfl]
  exact H4.out

/-- What a keeper that breaks in the writing leaves. -/
structure Broke (w w' : World) (B xb n : Nat) (h : HS) (r : Rc) (kk : Nat) (jv : Value) : Prop where
  at_ : HAt w' B xb n (h.jot jv (bcs ((rbytes r).take kk))).fallen
  fr : Fr (fun k => k = xb ∨ h.jv.ownBlock = some k) w w'
  lies : ∀ k, jv.ownBlock = some k → h.jv.ownBlock = some k ∨ w.heap.size ≤ k

set_option maxRecDepth 100000 in
set_option maxHeartbeats 3200000 in
theorem write_broke (hh : HAt w B xb n h) (hbr : h.br = true) {kk : Nat} (hkp : h.kp = kk) (hk16 : kk ≤ 16) (hk0 : 0 < kk) {r : Rc} {m : Nat} (hr : r.Small m) (hm : m < 1000000000000) (hb : h.jb.length + 16 ≤ 140737488355328) :
    Calls Tryz.prog 118 #[.pointer (some ⟨xb, 4, none⟩), recV r] w fun e w' => e = .returned (.bool false) ∧ ∃ jv, Broke w w' B xb n h r kk jv := by
  have HH : Hid (HAt w B xb n h) := hh
  have HC1 : Hid (∀ W, Calls Tryz.prog 171 #[recV r] W fun e w' => ∃ v, e = .returned v ∧ w'.ownsRow W.heap.size 5 1 v 16 (bcs (rbytes r)) ∧ Fr (fun _ => False) W w') := fun W => jbytes_any W hr hm
  have c4 := hh.cJ
  obtain ⟨ja, jc, hj, _⟩ := anyRow_len hh.jour
  rw [hj] at c4
  have c66 := hh.cB
  rw [hbr] at c66
  have c67 := hh.cK
  rw [hkp] at c67
  have HJ : Hid (h.jv = .slice ja h.jb.length jc) := hj
  have HJR : Hid (∀ W, Fr (fun _ => False) w W → W.ownsRow B 5 1 (.slice ja h.jb.length jc) h.jb.length h.jb) := fun W f => by rw [← hj]; exact f.ownsRow hh.jour (fun _ _ => id)
  have HJN : Hid (some xb ≠ Value.ownBlock (.slice ja h.jb.length jc)) := by show some xb ≠ _; rw [← hj]; exact fun e => hh.ne_j e.symm
  have hxl := lt_of_block hh.blk
  have HJL : Hid (h.jb.length + 16 ≤ 140737488355328) := hb
  have hBw : B ≤ w.heap.size := Nat.le_of_lt (Nat.lt_of_le_of_lt hh.hx hxl)
  have HTL : Hid (((rbytes r).take kk).length = kk) := by show ((rbytes r).take kk).length = kk; rw [List.length_take, rbytes_len]; omega
  have HTK : Hid (∀ j u, (bcs ((rbytes r).take kk))[j]? = some u → (bcs (rbytes r))[j]? = some u) := fun j u hu => by
    simp only [bcs, List.map_take] at hu ⊢
    rw [List.getElem?_take] at hu
    split at hu
    · exact hu
    · cases hu
  obtain ⟨k, p, a, mm⟩ := r
  obtain ⟨i0, hi0, hz0, hz1, hz2⟩ := info_parts info5
  unfold recV
  have hkI0 : (0 : Int) ≤ (kk : Int) := by omega
  have hkI1 : (kk : Int) ≤ 16 := by omega
  clear hh hj hbr hr hb hkp
  go_enter Tryz.func118, Tryz.ntmps118
  go_wp2_with (first
    | (go_at_call 171; refine (show Calls Tryz.prog 171 #[recV ⟨k, p, a, mm⟩] _ _ from HC1.out _).mono ?_; rintro e w1 ⟨v1, rfl, hv1, hf1⟩
       have F1 : Hid (Fr (fun _ => False) w w1) := (nofr _).trans hf1 (fun _ h => h.elim)
       obtain ⟨g, gc, rfl, hgc⟩ := row_some hv1 (by decide)
       have V1 : Hid (w1.ownsRow (w.alloc (.cells #[.int .i64 k, .int .i64 p, .int .i64 a, .int .i64 mm] 184)).heap.size 5 1 (.slice (some ⟨g, 0, none⟩) 16 gc) 16 (bcs (rbytes ⟨k, p, a, mm⟩))) := hv1
       have d4 := (F1.out.cell (p := ⟨xb, 4, none⟩) hxl id).trans c4
       have d66 := (F1.out.cell (p := ⟨xb, 66, none⟩) hxl id).trans c66
       have d67 := (F1.out.cell (p := ⟨xb, 67, none⟩) hxl id).trans c67
       have df : ∀ o, w1.frozen? ⟨xb, o, none⟩ = false := frozen_of_cells ((F1.out.block xb hxl id).trans HH.out.blk)
       have HJ1 : Hid (w1.drew.ownsRow B 5 1 (.slice ja h.jb.length jc) h.jb.length h.jb) := HJR.out w1.drew F1.out.drew
       have hx1 : xb < w1.heap.size := Nat.lt_of_lt_of_le hxl F1.out.size
       have hz1w : w.heap.size ≤ w1.heap.size := F1.out.size
       have hgcI : (kk : Int) ≤ (gc : Int) := by omega
       clear hv1 hf1))
  go_region_law
    ((refine step_append_lies _ (by rfl) _ _ _ (by rfl) B 5 i0 _ 1 1 Tryz.underlying99 hi0 hz0 hz1 hz2 rfl (by omega) (.slice ja h.jb.length jc) h.jb.length h.jb (by rfl) HJ1.out ⟨g, 0, none⟩ kk gc (bcs ((rbytes ⟨k, p, a, mm⟩).take kk)) (by rfl) (by rw [bcs_len, HTL.out, Nat.mul_one]) (fun j u hu => V1.out.cells (g := g) rfl j u (HTK.out j u hu)) (bcs_one _) (by omega) (by have := HJL.out; simp only [maxLen]; omega) (by have := HJL.out; omega) (by simp; omega) w1.heap.size (by rfl) ?_; intro gg cap w2 hown hgrow hat hlt2
      have e4 := (hgrow.cell_far ⟨xb, 4, none⟩ hx1 HJN.out).trans d4
      have ef := (hgrow.frozen_far ⟨xb, 4, none⟩ hx1 HJN.out).trans (df 4)))
  all_goals
    have hD := HH.out.jourDone (jv := .slice (some ⟨gg, 0, none⟩) (h.jb.length + kk) cap) (m := kk) (new := bcs ((rbytes ⟨k, p, a, mm⟩).take kk)) F1.out.drew (by rw [HJ.out]; exact hgrow) hown (by rw [bcs_len, HTL.out]) (fun q hq => by
      simp only [Value.ownBlock, Option.some.injEq] at hq
      subst hq
      rcases hat with e | e
      · exact .inl (by rw [HJ.out]; exact e)
      · exact .inr (by omega))
    have HLIE : Hid (∀ k, Value.ownBlock (.slice (some ⟨gg, 0, none⟩) (h.jb.length + kk) cap) = some k → h.jv.ownBlock = some k ∨ w.heap.size ≤ k) := fun q hq => by
      simp only [Value.ownBlock, Option.some.injEq] at hq
      subst hq
      rcases hat with e | e
      · exact .inl (by rw [HJ.out]; exact e)
      · exact .inr (by omega)
    generalize w2.setCell ⟨xb, 4, none⟩ (.slice (some ⟨gg, 0, none⟩) (h.jb.length + kk) cap) = W at hD ⊢
    generalize (Value.slice (some ⟨gg, 0, none⟩) (h.jb.length + kk) cap) = jv at hD HLIE ⊢
    have HW : Hid (HAt W B xb n (h.jot jv (bcs ((rbytes ⟨k, p, a, mm⟩).take kk)))) := hD.1
    have FW : Hid (Fr (fun k => k = xb ∨ h.jv.ownBlock = some k) w W) := hD.2
    clear hD hown hgrow hat hlt2 e4 ef d4 d66 d67 df
    go_wp2_with (go_at_call 104; refine (fall_any HW.out).mono ?_; rintro e w3 ⟨rfl, h3, hf3⟩; have H3 : Hid (HAt w3 B xb n (h.jot jv (bcs ((rbytes ⟨k, p, a, mm⟩).take kk))).fallen) := h3; have F3 : Hid (Fr (fun k => k = xb) W w3) := hf3; clear h3 hf3)
    go_ret
    exact ⟨rfl, jv, H3.out, FW.out.trans F3.out (fun _ e => .inl (.inl e)), HLIE.out⟩

set_option maxRecDepth 100000 in
set_option maxHeartbeats 3200000 in
theorem write_broke0 (hh : HAt w B xb n h) (hbr : h.br = true) (hkp : h.kp = 0) {r : Rc} {m : Nat} (hr : r.Small m) (hm : m < 1000000000000) :
    Calls Tryz.prog 118 #[.pointer (some ⟨xb, 4, none⟩), recV r] w fun e w' => e = .returned (.bool false) ∧ ∃ jv, Broke w w' B xb n h r 0 jv := by
  have HH : Hid (HAt w B xb n h) := hh
  have HC1 : Hid (∀ W, Calls Tryz.prog 171 #[recV r] W fun e w' => ∃ v, e = .returned v ∧ w'.ownsRow W.heap.size 5 1 v 16 (bcs (rbytes r)) ∧ Fr (fun _ => False) W w') := fun W => jbytes_any W hr hm
  have c4 := hh.cJ
  obtain ⟨ja, jc, hj, _⟩ := anyRow_len hh.jour
  have hjc : h.jb.length ≤ jc := by
    rcases hh.jour.2 with ⟨hv, h0⟩ | ⟨g, cap, cur, hv, _, _, h1, _⟩
    · omega
    · rw [hj] at hv
      simp only [Value.slice.injEq] at hv
      omega
  rw [hj] at c4
  have c66 := hh.cB
  rw [hbr] at c66
  have c67 := hh.cK
  rw [hkp] at c67
  have HJ : Hid (h.jv = .slice ja h.jb.length jc) := hj
  have hxl := lt_of_block hh.blk
  obtain ⟨k, p, a, mm⟩ := r
  unfold recV
  clear hh hj hbr hr hkp
  cases ja
  all_goals
    go_enter Tryz.func118, Tryz.ntmps118
    go_wp2_with (first
      | (go_at_call 171; refine (show Calls Tryz.prog 171 #[recV ⟨k, p, a, mm⟩] _ _ from HC1.out _).mono ?_; rintro e w1 ⟨v1, rfl, hv1, hf1⟩
         have F1 : Hid (Fr (fun _ => False) w w1) := (nofr _).trans hf1 (fun _ h => h.elim)
         obtain ⟨g, gc, rfl, hgc⟩ := row_some hv1 (by decide)
         have d4 := (F1.out.cell (p := ⟨xb, 4, none⟩) hxl id).trans c4
         have d66 := (F1.out.cell (p := ⟨xb, 66, none⟩) hxl id).trans c66
         have d67 := (F1.out.cell (p := ⟨xb, 67, none⟩) hxl id).trans c67
         have df : ∀ o, w1.frozen? ⟨xb, o, none⟩ = false := frozen_of_cells ((F1.out.block xb hxl id).trans HH.out.blk)
         have hgc0 : ¬ gc = 0 := by omega
         clear hv1 hf1))
    go_region
    go_wp2_with fail
    rw [← HJ.out]
    have hA := HH.out.after F1.out
    have fs : Fr (fun k => k = xb) w1 (w1.setCell ⟨xb, 4, none⟩ h.jv).drew := ((Fr.refl (fun k => k = xb) w1).setCell (p := ⟨xb, 4, none⟩) (.inl rfl) _).drew
    have hW : HAt (w1.setCell ⟨xb, 4, none⟩ h.jv).drew B xb n h := hA.put fs (by
      show (w1.setCell ⟨xb, 4, none⟩ h.jv).heap[xb]? = _
      rw [setCell_cells hA.blk, HS.set_j]) rfl rfl rfl rfl rfl rfl rfl rfl hA.h6
    have HW : Hid (HAt (w1.setCell ⟨xb, 4, none⟩ h.jv).drew B xb n h) := hW
    have FW : Hid (Fr (fun k => k = xb) w1 (w1.setCell ⟨xb, 4, none⟩ h.jv).drew) := fs
    generalize (w1.setCell ⟨xb, 4, none⟩ h.jv).drew = W at HW FW ⊢
    clear hW fs hA
    refine (fall_any HW.out).mono ?_
    rintro e w3 ⟨rfl, h3, hf3⟩
    have H3 : Hid (HAt w3 B xb n h.fallen) := h3
    have F3 : Hid (Fr (fun k => k = xb) W w3) := hf3
    clear h3 hf3
    go_wp2_with fail
    go_ret
    refine ⟨rfl, h.jv, ?_, ((F1.out.mono (fun _ h => h.elim) : Fr (fun k => k = xb ∨ h.jv.ownBlock = some k) w w1).trans FW.out (fun _ e => .inl (.inl e))).trans F3.out (fun _ e => .inl (.inl e)), fun _ e => .inl e⟩
    show HAt w3 B xb n (h.jot h.jv []).fallen
    rw [HS.jot_nil]
    exact H3.out
end

end Go.Proofs.YtkelpcjiediamaaGreat

