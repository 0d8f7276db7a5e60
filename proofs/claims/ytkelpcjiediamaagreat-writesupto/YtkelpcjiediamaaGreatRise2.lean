/-
  The keeper taken up, whatever its journal holds.
-/
import Derived.Test.YtkelpcjiediamaaGreatMJWhole
namespace Go.Proofs.YtkelpcjiediamaaGreat
open Go.RowKit Go.Maps

theorem ownsRow_cut {w : World} {B : Nat} {ty : TypeId} {a : Option Addr} {n cap m : Nat} {xs : List Value} (h : w.ownsRow B ty 1 (.slice a n cap) n xs) (hm : m ≤ n) : w.ownsRow B ty 1 (.slice a m cap) m (xs.take m) := by
  refine ⟨by rw [List.length_take, h.1]; omega, ?_⟩
  rcases h.2 with ⟨hv, h0⟩ | ⟨g, c, cur, hv, hb, hg, h1, h2, h3, h4⟩
  · simp only [Value.slice.injEq] at hv
    obtain ⟨rfl, _, rfl⟩ := hv
    exact .inl ⟨by rw [show m = 0 by omega], by omega⟩
  · simp only [Value.slice.injEq] at hv
    obtain ⟨rfl, _, rfl⟩ := hv
    refine .inr ⟨g, cap, cur, rfl, hb, hg, by omega, h2, h3, ?_⟩
    rw [← h4, List.take_take]
    congr 1
    omega

theorem recRow_cells {w : World} {B g n cap : Nat} {l : List Rc} (h : w.ownsRow B 184 4 (.slice (some ⟨g, 0, none⟩) n cap) l.length (l.flatMap Rc.cs)) {k : Nat} {e : Rc} (hk : l[k]? = some e) :
    w.cell? ⟨g, k * 4, none⟩ = some (.int .i64 e.k) ∧ w.cell? ⟨g, k * 4 + 1, none⟩ = some (.int .i64 e.p) ∧ w.cell? ⟨g, k * 4 + 2, none⟩ = some (.int .i64 e.a) ∧ w.cell? ⟨g, k * 4 + 3, none⟩ = some (.int .i64 e.m) := by
  have hc := h.cells (g := g) rfl
  have key : ∀ j u, j < 4 → e.cs[j]? = some u → w.cell? ⟨g, k * 4 + j, none⟩ = some u := fun j u hj hu => by
    have := hc (k * 4 + j) u ((rcCells_get l k e j hk hj).trans hu)
    rw [Addr.add_lit] at this
    simpa using this
  exact ⟨key 0 _ (by omega) rfl, key 1 _ (by omega) rfl, key 2 _ (by omega) rfl, key 3 _ (by omega) rfl⟩

section
variable {w w' : World} {B xb n : Nat} {h : HS}

/-- The keeper while it goes through its records. -/
def HS.mid (h : HS) (jv : Value) (L : List Rc) (j : Nat) : HS := { h with jv := jv, jb := bcs (L.flatMap rbytes), ps := replay (L.take j) }
/-- .. and when it has. -/
def HS.rose (h : HS) (jv : Value) (L : List Rc) : HS := { h with jv := jv, jb := bcs (L.flatMap rbytes), ps := replay L, up := true }

theorem mid_step (h : HS) (jv : Value) {L : List Rc} {j : Nat} {r : Rc} (hr : L[j]? = some r) {i : Nat} (hi : r.p = i) {x : PS} (hx : (replay (L.take j))[i]? = some x) : h.mid jv L (j + 1) = (h.mid jv L j).setP i (x.deed r) := by
  have e : r.p.toNat = i := by omega
  have : replay (L.take (j + 1)) = (replay (L.take j)).set i (x.deed r) := by
    rw [List.take_add_one, hr, Option.toList_some, replay_snoc]
    unfold deedAll
    rw [e]
    simp [List.getD, hx]
  unfold HS.mid HS.setP
  simp only [this]

theorem dTab_cells {w3 : World} {db kb : Nat} (hb : w3.heap[db]? = some (.cells (dTab kb) 193 (0, 0))) :
    w3.cell? ⟨db, 1, none⟩ = some (.func (.func 179) #[] #[.pointer (some ⟨kb, 0, none⟩)]) ∧ w3.cell? ⟨db, 2, none⟩ = some (.func (.func 180) #[] #[.pointer (some ⟨kb, 0, none⟩)]) ∧ w3.cell? ⟨db, 3, none⟩ = some (.func (.func 181) #[] #[.pointer (some ⟨kb, 0, none⟩)]) ∧ w3.cell? ⟨db, 4, none⟩ = some (.func (.func 182) #[] #[.pointer (some ⟨kb, 0, none⟩)]) := by
  refine ⟨?_, ?_, ?_, ?_⟩ <;> (rw [cell_of_cells hb]; rfl)

theorem deed_1 (hh : HAt w B xb n h) {b i : Nat} (hb : KAt w b xb) (hi : i < 6) {x : PS} (hx : h.ps[i]? = some x) (a m : Int) :
    Calls Tryz.prog 179 #[.agg #[.int .i64 1, .int .i64 i, .int .i64 a, .int .i64 m], .pointer (some ⟨b, 0, none⟩)] w fun e w' => e = .returned (.tuple #[]) ∧ HAt w' B xb n (h.setP i (x.deed ⟨1, i, a, m⟩)) ∧ Fr (fun k => k = xb) w w' := by
  have := deed1_any hh hb hi hx 1 a m
  rw [show x.deed ⟨1, i, a, m⟩ = { x with e := m } by simp [PS.deed]]
  exact this

theorem deed_2 (hh : HAt w B xb n h) {b i q : Nat} (hb : KAt w b xb) (hi : i < 6) (hq : q < 4) {x : PS} (hx : h.ps[i]? = some x) (m : Int) :
    Calls Tryz.prog 180 #[.agg #[.int .i64 2, .int .i64 i, .int .i64 q, .int .i64 m], .pointer (some ⟨b, 0, none⟩)] w fun e w' => e = .returned (.tuple #[]) ∧ HAt w' B xb n (h.setP i (x.deed ⟨2, i, q, m⟩)) ∧ Fr (fun k => k = xb) w w' := by
  have := deed2_any hh hb hi hq hx 2 m
  rw [show x.deed ⟨2, i, q, m⟩ = (({ x with s := 1, t := m } : PS).tie q 1) by simp [PS.deed]]
  exact this

theorem deed_3 (hh : HAt w B xb n h) {b i : Nat} (hb : KAt w b xb) (hi : i < 6) {x : PS} (hx : h.ps[i]? = some x) (m : Int) {a : Int} (ha : a = 0 ∨ a = 1) :
    Calls Tryz.prog 181 #[.agg #[.int .i64 3, .int .i64 i, .int .i64 a, .int .i64 m], .pointer (some ⟨b, 0, none⟩)] w fun e w' => e = .returned (.tuple #[]) ∧ HAt w' B xb n (h.setP i (x.deed ⟨3, i, a, m⟩)) ∧ Fr (fun k => k = xb) w w' := by
  have key : ∀ (c : Bool) (s' : Int), a = (if c then 1 else 0) → s' = (if c then 2 else 3) → x.deed ⟨3, i, a, m⟩ = { ({ x with s := s' } : PS).pend (tiedL x.ties 1 4) with wa := 1, ga := 1 } := fun c s' h1 h2 => by
    have e1 : tiedL x.ties 1 4 = tiedL ({ x with s := s' } : PS).ties 1 4 := rfl
    rw [e1, pend_up2]
    cases c
    · simp only [Bool.false_eq_true, ↓reduceIte] at h1 h2
      simp [PS.deed, h1, h2]
    · simp only [↓reduceIte] at h1 h2
      simp [PS.deed, h1, h2]
  rcases ha with ha | ha
  · rw [key false 3 (by simpa using ha) rfl]
    exact deed3_any hh hb hi hx 3 m (c := false) (by simpa using ha) rfl
  · rw [key true 2 (by simpa using ha) rfl]
    exact deed3_any hh hb hi hx 3 m (c := true) (by simpa using ha) rfl

theorem deed_4 (hh : HAt w B xb n h) {b i : Nat} (hb : KAt w b xb) (hi : i < 6) {x : PS} (hx : h.ps[i]? = some x) (a m : Int) :
    Calls Tryz.prog 182 #[.agg #[.int .i64 4, .int .i64 i, .int .i64 a, .int .i64 m], .pointer (some ⟨b, 0, none⟩)] w fun e w' => e = .returned (.tuple #[]) ∧ HAt w' B xb n (h.setP i (x.deed ⟨4, i, a, m⟩)) ∧ Fr (fun k => k = xb) w w' := by
  have := deed4_any hh hb hi hx 4 a m
  rw [show x.deed ⟨4, i, a, m⟩ = ⟨x.e, x.t, 0, 0, 0, 0, 0, 0, 0, 0⟩ by simp [PS.deed]]
  exact this

theorem HAt.cut (hh : HAt w B xb n h) {jv : Value} {jb : List Value} (hrow : w.ownsRow B 5 1 jv jb.length jb) (hne : jv.ownBlock ≠ some xb) :
    HAt (w.setCell ⟨xb, 4, none⟩ jv) B xb n { h with jv := jv, jb := jb } ∧ Fr (fun k => k = xb) w (w.setCell ⟨xb, 4, none⟩ jv) := by
  have fs : Fr (fun q => q = xb) w (w.setCell ⟨xb, 4, none⟩ jv) := (Fr.refl (fun q => q = xb) w).setCell (p := ⟨xb, 4, none⟩) (.inl rfl) _
  refine ⟨⟨?_, fs.ownsRow hrow (fun q hq e => hne (by rw [hq, e])), fs.ownsRow hh.places (fun k hk e => hh.ne_p (by subst e; exact hk)), fs.ownsRow hh.flight (fun k hk e => hh.ne_f (by subst e; exact hk)), fun p hp => (hh.logs p hp).stay fs (fun k e hf => hh.ne_l hp (by subst e; exact hf)), hh.hx, hh.hP, hh.hQ, hh.h6⟩, fs⟩
  rw [setCell_cells hh.blk]
  have := h.set_jv jv []
  rw [this]
  rfl

/-- What the journal holds when the keeper is taken up. -/
structure Jour (h : HS) (L : List Rc) (tl : List UInt8) : Prop where
  jb : h.jb = bcs (L.flatMap rbytes ++ tl)
  tl : tl.length < 16
  small : ∃ m, m < 1000000000000 ∧ ∀ r ∈ L, r.Small m
  end_ : ∀ r ∈ L, r.k = 3 → r.a = 0 ∨ r.a = 1
  few : L.length < 100000000000

set_option maxRecDepth 100000 in
set_option maxHeartbeats 6400000 in
theorem rise_any (hh : HAt w B xb n h) (hz : h.ps = zps6) {L : List Rc} {tl : List UInt8} (hJ : Jour h L tl) :
    Calls Tryz.prog 68 #[.pointer (some ⟨xb, 4, none⟩)] w fun r w' => r = .returned (.tuple #[]) ∧ ∃ jv, HAt w' B xb n (h.rose jv L) ∧ Fr (fun k => k = xb) w w' ∧ jv.ownBlock = h.jv.ownBlock := by
  have HH : Hid (HAt w B xb n h) := hh
  have HJ : Hid (Jour h L tl) := hJ
  have HZ : Hid (h.ps = zps6) := hz
  obtain ⟨m, hm1, hsm⟩ := hJ.small
  have HSM : Hid (∀ r ∈ L, r.Small m) := hsm
  have c4 := hh.cJ
  have c5 := hh.cU
  obtain ⟨ja, jc, hj, hjl⟩ := anyRow_len hh.jour
  have hjb : h.jb.length = (L.flatMap rbytes ++ tl).length := by rw [hJ.jb, bcs_len]
  have hlen : (L.flatMap rbytes ++ tl).length = 16 * L.length + tl.length := by rw [List.length_append, flat_len]
  have hrow := hh.jour
  rw [hj] at c4 hrow
  rw [hjb, hlen] at c4 hrow hj
  rw [hJ.jb] at hrow
  have HROW : Hid (w.ownsRow B 5 1 (.slice ja (16 * L.length + tl.length) jc) (16 * L.length + tl.length) (bcs (L.flatMap rbytes ++ tl))) := hrow
  have HJV : Hid (h.jv = .slice ja (16 * L.length + tl.length) jc) := hj
  have HWH : Hid (Calls Tryz.prog 127 #[.slice ja (16 * L.length + tl.length) jc] w fun e w' => ∃ v', e = .returned v' ∧ w'.ownsRow w.heap.size 184 4 v' L.length (L.flatMap Rc.cs) ∧ Fr (fun _ => False) w w') := whole_any (L := L) (tl := tl) (by rw [hlen]; exact hrow) hJ.tl hsm hm1 hJ.few
  have hcap : 16 * L.length + tl.length ≤ jc := by
    rcases hrow.2 with ⟨hv, h0⟩ | ⟨g, cap, cur, hv, _, _, h1, _⟩
    · omega
    · simp only [Value.slice.injEq] at hv
      omega
  have hlt := lt_of_block hh.blk
  have hLf := hJ.few
  have hcapI : (L.length : Int) * 16 ≤ (jc : Int) := by omega
  clear hh hJ hz hrow hj hjb hlen hsm
  cases ja
  all_goals
    go_enter Tryz.func68, Tryz.ntmps68
    go_wp2_with (first
      | (go_at_call 127; refine HWH.out.mono ?_; rintro e w1 ⟨v1, rfl, hv1, hf1⟩
         obtain ⟨ra, rc, rfl, hrl⟩ := anyRow_len hv1
         have V1 : Hid (w1.ownsRow w.heap.size 184 4 (.slice ra L.length rc) L.length (L.flatMap Rc.cs)) := hv1
         have F1 : Hid (Fr (fun _ => False) w w1) := hf1
         have B1 : Hid (w1.heap[xb]? = some (.cells h.cells.toArray 111 (0, 0))) := (hf1.block xb hlt id).trans HH.out.blk
         have d4 := (hf1.cell (p := ⟨xb, 4, none⟩) hlt id).trans c4
         have d5 : w1.cell? ⟨xb, 5, none⟩ = some (.bool h.up) := (hf1.cell (p := ⟨xb, 5, none⟩) hlt id).trans c5
         have df : ∀ o, w1.frozen? ⟨xb, o, none⟩ = false := frozen_of_cells B1.out
         have hz1 : xb < w1.heap.size := Nat.lt_of_lt_of_le hlt hf1.size
         have hzw : w.heap.size ≤ w1.heap.size := hf1.size
         clear hf1 hv1))
    generalize hjv : Value.slice _ (L.length * 16) jc = jv
    have hcut : HAt (w1.setCell ⟨xb, 4, none⟩ jv) B xb n { h with jv := jv, jb := bcs (L.flatMap rbytes) } ∧ Fr (fun k => k = xb) w1 (w1.setCell ⟨xb, 4, none⟩ jv) := by
      have hr := ownsRow_cut (F1.out.ownsRow HROW.out (fun _ _ => id)) (m := L.length * 16) (by omega)
      have et : (bcs (L.flatMap rbytes ++ tl)).take (L.length * 16) = bcs (L.flatMap rbytes) := by
        rw [bcs_app, List.take_left' (by rw [bcs_len, flat_len]; omega)]
      rw [et, hjv] at hr
      refine (HH.out.after F1.out).cut (by rw [bcs_len, flat_len, Nat.mul_comm]; exact hr) (fun e => ?_)
      have t1 := tag_row hr e
      rw [tag_cells B1.out] at t1
      cases t1
    have HOB : Hid (jv.ownBlock = h.jv.ownBlock) := by show jv.ownBlock = h.jv.ownBlock; rw [← hjv, HJV.out]; rfl
    have HW1 : Hid (HAt (w1.setCell ⟨xb, 4, none⟩ jv) B xb n (h.mid jv L 0)) := by
      have e0 : h.mid jv L 0 = { h with jv := jv, jb := bcs (L.flatMap rbytes) } := by
        unfold HS.mid
        rw [List.take_zero, show replay [] = h.ps from HZ.out.symm]
      show HAt _ _ _ _ _
      rw [e0]
      exact hcut.1
    have FW1 : Hid (Fr (fun k => k = xb) w (w1.setCell ⟨xb, 4, none⟩ jv)) := (F1.out.mono (fun _ h => h.elim) : Fr (fun k => k = xb) w w1).trans hcut.2 (fun _ e => .inl e)
    have VW1 : Hid ((w1.setCell ⟨xb, 4, none⟩ jv).ownsRow w.heap.size 184 4 (.slice ra L.length rc) L.length (L.flatMap Rc.cs)) := hcut.2.ownsRow V1.out (fun q hq e => by have := (V1.out.lt q hq).1; omega)
    generalize w1.setCell ⟨xb, 4, none⟩ jv = W1 at HW1 FW1 VW1 ⊢
    clear hcut d4 d5 df hjv
    have hx1 : xb < W1.heap.size := Nat.lt_of_lt_of_le hlt FW1.out.size
    refine (deeds_any (w := W1) _).mono ?_
    rintro e w2 ⟨rfl, hb2, hf2⟩
    have KB2 : Hid (KAt w2 W1.heap.size xb) := hb2
    have S2 : Hid (Fr (fun _ => False) W1 w2) := hf2
    have T2 : Hid ((w2.alloc (.cells #[.nilFunc, .nilFunc, .nilFunc, .nilFunc, .nilFunc] 193)).there w2.heap.size 0 5) := there_of_block (heap_alloc_new _ _) (by simp)
    clear hb2 hf2
    go_wp2_with (first
      | (refine wpList_store_mid rfl 193 _ _ rfl w2.heap.size 0 (dTab W1.heap.size) rfl rfl T2.out info138 (by simp [dTab, Value.oneCell']) ?_
         have hW : Fr (fun _ => False) w2 _ := Fr.setCells (S := fun _ => False) (b := w2.heap.size) (.inr (Nat.le_refl _)) (dTab W1.heap.size).toList 0 ((Fr.refl (fun _ => False) w2).alloc (.cells #[.nilFunc, .nilFunc, .nilFunc, .nilFunc, .nilFunc] 193))
         have hD := setCells_block (dTab W1.heap.size).toList 0 (heap_alloc_new w2 (.cells #[.nilFunc, .nilFunc, .nilFunc, .nilFunc, .nilFunc] 193))
         generalize ((w2.alloc (.cells #[.nilFunc, .nilFunc, .nilFunc, .nilFunc, .nilFunc] 193)).setCells w2.heap.size 0 (dTab W1.heap.size).toList) = w3 at hW hD ⊢
         have S3 : Hid (Fr (fun _ => False) W1 w3) := S2.out.trans hW (fun _ h => h.elim)
         have KB3 : Hid (KAt w3 W1.heap.size xb) := (hW.block _ (lt_of_block KB2.out) id).trans KB2.out
         have D3 : Hid (w3.heap[w2.heap.size]? = some (.cells (dTab W1.heap.size) 193 (0, 0))) := hD
         have H3 : Hid (HAt w3 B xb n (h.mid jv L 0)) := HW1.out.after S3.out
         have V3 : Hid (w3.ownsRow w.heap.size 184 4 (.slice ra L.length rc) L.length (L.flatMap Rc.cs)) := S3.out.ownsRow VW1.out (fun _ _ => id)
         have hxw2 : xb < w2.heap.size := Nat.lt_of_lt_of_le hx1 S2.out.size
         clear hW hD))
    go_loopw [26] (fun ii w' => ∃ j : Nat, j ≤ L.length ∧ ii = .int .i64 j ∧ HAt w' B xb n (h.mid jv L j) ∧ Fr (fun k => k = xb) w3 w') (fun ii _ => (L.length - intOf ii).toNat)
    case atStart => exact ⟨0, by omega, rfl, H3.out, Fr.refl _ _⟩
    case round =>
      obtain ⟨j, hj, rfl, hat, hfr⟩ := hrel
      have HR : Hid (HAt wr B xb n (h.mid jv L j)) := hat
      have FR : Hid (Fr (fun k => k = xb) w3 wr) := hfr
      have rf : ∀ o, wr.frozen? ⟨xb, o, none⟩ = false := frozen_of_cells hat.blk
      have r5 : wr.cell? ⟨xb, 5, none⟩ = some (.bool h.up) := hat.cU
      by_cases hlt2 : j < L.length
      · obtain ⟨r, hr⟩ : ∃ r, L[j]? = some r := ⟨_, List.getElem?_eq_getElem hlt2⟩
        have hrow := hfr.ownsRow V3.out (fun k hk e => by have := (V3.out.lt k hk).1; omega)
        obtain ⟨g, gc, hga, _⟩ := row_some hrow (by omega)
        simp only [Value.slice.injEq] at hga
        obtain ⟨rfl, _, rfl⟩ := hga
        obtain ⟨r0, r1, r2, r3⟩ := recRow_cells hrow hr
        have hsr := HSM.out r (List.mem_of_getElem? hr)
        have her := HJ.out.end_ r (List.mem_of_getElem? hr)
        obtain ⟨i, hi⟩ := Int.eq_ofNat_of_zero_le hsr.p0
        have hi6 : i < 6 := by have := hsr.p1; omega
        obtain ⟨x, hx⟩ : ∃ x, (replay (L.take j))[i]? = some x := ⟨_, List.getElem?_eq_getElem (by rw [replay_len]; exact hi6)⟩
        have hms := mid_step h jv hr hi hx
        have HX : Hid ((h.mid jv L j).ps[i]? = some x) := hx
        have hdb : w2.heap.size < wr.heap.size := Nat.lt_of_lt_of_le (lt_of_block D3.out) hfr.size
        have hdb2 := (hfr.block _ (lt_of_block D3.out) (by omega)).trans D3.out
        have hkb2 : KAt wr W1.heap.size xb := (hfr.block _ (lt_of_block KB3.out) (by omega)).trans KB3.out
        have HKB : Hid (KAt wr W1.heap.size xb) := hkb2
        have dc := dTab_cells hdb2
        have hxr : xb < wr.heap.size := lt_of_block hat.blk
        obtain ⟨kk, p, a, mm⟩ := r
        simp only at hi
        subst hi
        have HMS : Hid (h.mid jv L (j + 1) = (h.mid jv L j).setP i (x.deed ⟨kk, i, a, mm⟩)) := hms
        have hk0 := hsr.k0
        have hk1 := hsr.k1
        have ha0 : 0 ≤ a := hsr.a0
        have ha1 : a < 4 := hsr.a1
        simp only at hk0 hk1 r0 r1 r2 r3 her
        have hj0 : (0 : Int) ≤ (j : Int) := by omega
        have hj1 : (j : Int) < L.length := by omega
        have HHB : Hid (HAt (wr.alloc (.cells #[.int .i64 kk, .int .i64 i, .int .i64 a, .int .i64 mm] 184)).drew B xb n (h.mid jv L j)) := hat.after (nofr _).drew
        have HKB2 : Hid (KAt (wr.alloc (.cells #[.int .i64 kk, .int .i64 i, .int .i64 a, .int .i64 mm] 184)).drew W1.heap.size xb) := ((nofr _).drew.block _ (lt_of_block hkb2) id).trans hkb2
        have BXC : Hid (∀ (c : Nat) {v : Value}, wr.cell? ⟨w2.heap.size, c, none⟩ = some v → (wr.alloc (.cells #[.int .i64 kk, .int .i64 i, .int .i64 a, .int .i64 mm] 184)).cell? ⟨wr.heap.size, 0, none⟩ = some (.int .i64 kk) ∧ (wr.alloc (.cells #[.int .i64 kk, .int .i64 i, .int .i64 a, .int .i64 mm] 184)).cell? ⟨wr.heap.size, 1, none⟩ = some (.int .i64 i) ∧ (wr.alloc (.cells #[.int .i64 kk, .int .i64 i, .int .i64 a, .int .i64 mm] 184)).cell? ⟨wr.heap.size, 2, none⟩ = some (.int .i64 a) ∧ (wr.alloc (.cells #[.int .i64 kk, .int .i64 i, .int .i64 a, .int .i64 mm] 184)).cell? ⟨wr.heap.size, 3, none⟩ = some (.int .i64 mm) ∧ (wr.alloc (.cells #[.int .i64 kk, .int .i64 i, .int .i64 a, .int .i64 mm] 184)).cell? ⟨w2.heap.size, c, none⟩ = some v) := fun c v hv =>
          ⟨cell_of_cells (heap_alloc_new _ _) 0, cell_of_cells (heap_alloc_new _ _) 1, cell_of_cells (heap_alloc_new _ _) 2, cell_of_cells (heap_alloc_new _ _) 3, ((nofr _).cell (p := ⟨w2.heap.size, c, none⟩) hdb id).trans hv⟩
        have BXK : Hid (∀ (c : Nat) {v : Value} (w5 : World), wr.cell? ⟨w2.heap.size, c, none⟩ = some v → Fr (fun k => k = xb) (wr.alloc (.cells #[.int .i64 kk, .int .i64 i, .int .i64 a, .int .i64 mm] 184)).drew w5 → w5.cell? ⟨wr.heap.size, 0, none⟩ = some (.int .i64 kk) ∧ w5.cell? ⟨wr.heap.size, 1, none⟩ = some (.int .i64 i) ∧ w5.cell? ⟨wr.heap.size, 2, none⟩ = some (.int .i64 a) ∧ w5.cell? ⟨wr.heap.size, 3, none⟩ = some (.int .i64 mm) ∧ w5.cell? ⟨w2.heap.size, c, none⟩ = some v) := fun c v w5 hv f5 => by
          have hb5 := (f5.block wr.heap.size (by simp) (by omega)).trans (heap_alloc_new wr (.cells #[.int .i64 kk, .int .i64 i, .int .i64 a, .int .i64 mm] 184))
          exact ⟨cell_of_cells hb5 0, cell_of_cells hb5 1, cell_of_cells hb5 2, cell_of_cells hb5 3, (f5.cell (p := ⟨w2.heap.size, c, none⟩) (by simp; omega) (by simp; omega)).trans (((nofr _).cell (p := ⟨w2.heap.size, c, none⟩) hdb id).trans hv)⟩
        clear hrow hat hfr hr hx hms hdb2 hkb2 hsr
        rcases (show kk = 1 ∨ kk = 2 ∨ kk = 3 ∨ kk = 4 by omega) with hk | hk | hk | hk
        · skip
          subst hk
          have hkc := dc.1
          go_wp2_with fail
          go_region_held3 (fun w' => w'.cell? ⟨wr.heap.size, 0, none⟩ = some (.int .i64 1) ∧ w'.cell? ⟨wr.heap.size, 1, none⟩ = some (.int .i64 i) ∧ w'.cell? ⟨wr.heap.size, 2, none⟩ = some (.int .i64 a) ∧ w'.cell? ⟨wr.heap.size, 3, none⟩ = some (.int .i64 mm) ∧ w'.cell? ⟨w2.heap.size, 1, none⟩ = some (.func (.func 179) #[] #[.pointer (some ⟨W1.heap.size, 0, none⟩)]))
            (first | with_reducible exact C5 | exact BXC.out 1 hkc | go_keep)
            ((go_at_call 179; refine (deed_1 HHB.out HKB2.out hi6 HX.out a mm).mono ?_; rintro e w5 ⟨rfl, h5, hf5⟩
              have H5 : Hid (HAt w5 B xb n (h.mid jv L (j + 1))) := (HMS.out ▸ h5)
              have F5 : Hid (Fr (fun k => k = xb) wr w5) := ((nofr _).drew.mono (fun _ h => h.elim) : Fr (fun k => k = xb) wr _).trans hf5 (fun _ e => .inl e)
              have C5 := BXK.out 1 w5 hkc hf5
              clear h5 hf5))
          go_wp2_with fail
          go_roundw
          case rel => exact ⟨j + 1, by omega, by go_num, H5.out, FR.out.trans F5.out (fun _ e => .inl e)⟩
          case measure => simp [intOf]; omega
        · skip
          subst hk
          obtain ⟨q, hq⟩ := Int.eq_ofNat_of_zero_le ha0
          subst hq
          have hq4 : q < 4 := by omega
          have hkc := dc.2.1
          go_wp2_with fail
          go_region_held3 (fun w' => w'.cell? ⟨wr.heap.size, 0, none⟩ = some (.int .i64 2) ∧ w'.cell? ⟨wr.heap.size, 1, none⟩ = some (.int .i64 i) ∧ w'.cell? ⟨wr.heap.size, 2, none⟩ = some (.int .i64 q) ∧ w'.cell? ⟨wr.heap.size, 3, none⟩ = some (.int .i64 mm) ∧ w'.cell? ⟨w2.heap.size, 2, none⟩ = some (.func (.func 180) #[] #[.pointer (some ⟨W1.heap.size, 0, none⟩)]))
            (first | with_reducible exact C5 | exact BXC.out 2 hkc | go_keep)
            ((go_at_call 180; refine (deed_2 HHB.out HKB2.out hi6 hq4 HX.out mm).mono ?_; rintro e w5 ⟨rfl, h5, hf5⟩
              have H5 : Hid (HAt w5 B xb n (h.mid jv L (j + 1))) := (HMS.out ▸ h5)
              have F5 : Hid (Fr (fun k => k = xb) wr w5) := ((nofr _).drew.mono (fun _ h => h.elim) : Fr (fun k => k = xb) wr _).trans hf5 (fun _ e => .inl e)
              have C5 := BXK.out 2 w5 hkc hf5
              clear h5 hf5))
          go_wp2_with fail
          go_roundw
          case rel => exact ⟨j + 1, by omega, by go_num, H5.out, FR.out.trans F5.out (fun _ e => .inl e)⟩
          case measure => simp [intOf]; omega
        · skip
          subst hk
          have HER : Hid (a = 0 ∨ a = 1) := her rfl
          have hkc := dc.2.2.1
          go_wp2_with fail
          go_region_held3 (fun w' => w'.cell? ⟨wr.heap.size, 0, none⟩ = some (.int .i64 3) ∧ w'.cell? ⟨wr.heap.size, 1, none⟩ = some (.int .i64 i) ∧ w'.cell? ⟨wr.heap.size, 2, none⟩ = some (.int .i64 a) ∧ w'.cell? ⟨wr.heap.size, 3, none⟩ = some (.int .i64 mm) ∧ w'.cell? ⟨w2.heap.size, 3, none⟩ = some (.func (.func 181) #[] #[.pointer (some ⟨W1.heap.size, 0, none⟩)]))
            (first | with_reducible exact C5 | exact BXC.out 3 hkc | go_keep)
            ((go_at_call 181; refine (deed_3 HHB.out HKB2.out hi6 HX.out mm HER.out).mono ?_; rintro e w5 ⟨rfl, h5, hf5⟩
              have H5 : Hid (HAt w5 B xb n (h.mid jv L (j + 1))) := (HMS.out ▸ h5)
              have F5 : Hid (Fr (fun k => k = xb) wr w5) := ((nofr _).drew.mono (fun _ h => h.elim) : Fr (fun k => k = xb) wr _).trans hf5 (fun _ e => .inl e)
              have C5 := BXK.out 3 w5 hkc hf5
              clear h5 hf5))
          go_wp2_with fail
          go_roundw
          case rel => exact ⟨j + 1, by omega, by go_num, H5.out, FR.out.trans F5.out (fun _ e => .inl e)⟩
          case measure => simp [intOf]; omega
        · skip
          subst hk
          have hkc := dc.2.2.2
          go_wp2_with fail
          go_region_held3 (fun w' => w'.cell? ⟨wr.heap.size, 0, none⟩ = some (.int .i64 4) ∧ w'.cell? ⟨wr.heap.size, 1, none⟩ = some (.int .i64 i) ∧ w'.cell? ⟨wr.heap.size, 2, none⟩ = some (.int .i64 a) ∧ w'.cell? ⟨wr.heap.size, 3, none⟩ = some (.int .i64 mm) ∧ w'.cell? ⟨w2.heap.size, 4, none⟩ = some (.func (.func 182) #[] #[.pointer (some ⟨W1.heap.size, 0, none⟩)]))
            (first | with_reducible exact C5 | exact BXC.out 4 hkc | go_keep)
            ((go_at_call 182; refine (deed_4 HHB.out HKB2.out hi6 HX.out a mm).mono ?_; rintro e w5 ⟨rfl, h5, hf5⟩
              have H5 : Hid (HAt w5 B xb n (h.mid jv L (j + 1))) := (HMS.out ▸ h5)
              have F5 : Hid (Fr (fun k => k = xb) wr w5) := ((nofr _).drew.mono (fun _ h => h.elim) : Fr (fun k => k = xb) wr _).trans hf5 (fun _ e => .inl e)
              have C5 := BXK.out 4 w5 hkc hf5
              clear h5 hf5))
          go_wp2_with fail
          go_roundw
          case rel => exact ⟨j + 1, by omega, by go_num, H5.out, FR.out.trans F5.out (fun _ e => .inl e)⟩
          case measure => simp [intOf]; omega
      · have hjL : j = L.length := by omega
        subst hjL
        have HT : Hid (L.take L.length = L) := List.take_of_length_le (Nat.le_refl _)
        clear hat hfr
        go_wp2_with fail
        go_end0
        have fs : Fr (fun k => k = xb) wr (wr.setCell ⟨xb, 5, none⟩ (.bool true)) := (Fr.refl (fun k => k = xb) wr).setCell (p := ⟨xb, 5, none⟩) (.inl rfl) _
        refine ⟨rfl, jv, ?_, (((FW1.out.trans S3.out (fun _ h => h.elim)).trans FR.out (fun _ e => .inl e)).trans fs (fun _ e => .inl e)), HOB.out⟩
        have e1 : h.rose jv L = (h.mid jv L L.length).risen := by unfold HS.rose HS.mid HS.risen; rw [HT.out]
        rw [e1]
        refine HR.out.put fs ?_ rfl rfl rfl rfl rfl rfl rfl rfl HR.out.h6
        rw [setCell_cells HR.out.blk, HS.set_up]
end

end Go.Proofs.YtkelpcjiediamaaGreat

