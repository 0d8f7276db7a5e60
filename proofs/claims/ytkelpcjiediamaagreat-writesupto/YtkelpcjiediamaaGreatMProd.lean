/-
  The program's Add.
-/
import Derived.Test.YtkelpcjiediamaaGreatMAskQ
import Derived.Test.YtkelpcjiediamaaGreatMAll
namespace Go.Proofs.YtkelpcjiediamaaGreat
open Go.RowKit Go.Maps

section
variable {w w' : World} {B xb n : Nat} {h : HS}

set_option maxRecDepth 100000 in
theorem add_none (hh : HAt w B xb n h) {p q : Int} (hl : h.lacks p q ≠ 0) (ep : Int) :
    Calls Tryz.prog 63 #[.pointer (some ⟨xb, 0, none⟩), .int .i64 p, .int .i64 ep, .int .i64 q] w fun e w' => e = .returned (.int .i64 (h.lacks p q)) ∧ w = w' := by
  have HH : Hid (HAt w B xb n h) := hh
  obtain ⟨b, hbe⟩ : ∃ b, h.lacks p q = b := ⟨_, rfl⟩
  have HL : Hid (h.lacks p q = b) := hbe
  rw [hbe] at hl ⊢
  have hb0 : (b == 0) = false := by simpa using hl
  clear hh hbe
  go_enter Tryz.func63, Tryz.ntmps63
  go_wp2_with (go_at_call 124; refine (find_any HH.out p q).mono ?_; rw [HL.out]; rintro e w1 ⟨rfl, rfl⟩)
  go_ret
  exact ⟨rfl, rfl⟩

theorem lacks0 {p q : Nat} (hp : (p : Int) < h.P) (hq : q < h.pl.length) : h.lacks p q = 0 := by
  simp only [HS.lacks]
  rw [if_pos ⟨by omega, hp⟩, if_pos ⟨by omega, by omega⟩]

set_option maxRecDepth 100000 in
theorem add_barred (hh : HAt w B xb n h) {i q : Nat} (hm : (i : Int) < h.P) (hq : q < h.pl.length) {x : PS} (hx : h.ps[i]? = some x) {ep : Int} (hb : h.bars x ep ≠ 0) :
    Calls Tryz.prog 63 #[.pointer (some ⟨xb, 0, none⟩), .int .i64 i, .int .i64 ep, .int .i64 q] w fun e w' => e = .returned (.int .i64 (h.bars x ep)) ∧ w = w' := by
  have HH : Hid (HAt w B xb n h) := hh
  have HX : Hid (h.ps[i]? = some x) := hx
  have HL : Hid (h.lacks i q = 0) := lacks0 hm hq
  have hi6 : i < 6 := by have := hh.hP.2; omega
  obtain ⟨b, hbe⟩ : ∃ b, h.bars x ep = b := ⟨_, rfl⟩
  have HB : Hid (h.bars x ep = b) := hbe
  rw [hbe] at hb ⊢
  have hb0 : (b == 0) = false := by simpa using hb
  clear hh hm hx hbe hq
  go_enter Tryz.func63, Tryz.ntmps63
  go_wp2_with (first
    | (go_at_call 124; refine (find_any HH.out i q).mono ?_; rw [HL.out]; rintro e w1 ⟨rfl, rfl⟩)
    | (go_at_call 65; refine (admit_any HH.out hi6 HX.out ep).mono ?_; rw [HB.out]; rintro e w1 ⟨rfl, rfl⟩))
  go_ret
  exact ⟨rfl, rfl⟩

set_option maxRecDepth 100000 in
set_option maxHeartbeats 800000 in
theorem add_busy (hh : HAt w B xb n h) {i q : Nat} (hm : (i : Int) < h.P) (hq : q < h.pl.length) {x : PS} (hx : h.ps[i]? = some x) {ep : Int} (hb : h.bars x ep = 0) (hs : x.s = 2 ∨ x.s = 3) :
    Calls Tryz.prog 63 #[.pointer (some ⟨xb, 0, none⟩), .int .i64 i, .int .i64 ep, .int .i64 q] w fun e w' => e = .returned (.int .i64 9) ∧ Fr (fun _ => False) w w' := by
  have HH : Hid (HAt w B xb n h) := hh
  have HX : Hid (h.ps[i]? = some x) := hx
  have HL : Hid (h.lacks i q = 0) := lacks0 hm hq
  have hi6 : i < 6 := by have := hh.hP.2; omega
  have HB : Hid (h.bars x ep = 0) := hb
  have HE : Hid (decide (x.s = 2 ∨ x.s = 3) = true) := decide_eq_true hs
  obtain ⟨⟨e0, e1, e2⟩, ef⟩ := hh.cellP hx
  have HE2 : Hid (w.cell? ⟨xb, 6 + i * 10 + 2, none⟩ = some (.int .i64 x.s)) := e2
  obtain ⟨p, hp⟩ : ∃ p, h.pl[q]? = some p := ⟨_, List.getElem?_eq_getElem hq⟩
  obtain ⟨g, cap, hpv, hg, hcap, c0, c1⟩ := hh.place hp
  have cV := hh.cV
  rw [hpv] at cV
  have hi1 : (i : Int) < 6 := by omega
  have hi0 : (0 : Int) ≤ (i : Int) := by omega
  have hq0 : (0 : Int) ≤ (q : Int) := by omega
  have hq1 : (q : Int) < h.pl.length := by omega
  clear hh hm hx hb hs hp hpv
  go_enter Tryz.func63, Tryz.ntmps63
  go_wp2_with (first
    | (go_at_call 124; refine (find_any HH.out i q).mono ?_; rw [HL.out]; rintro e w1 ⟨rfl, rfl⟩)
    | (go_at_call 65; refine (admit_any HH.out hi6 HX.out ep).mono ?_; rw [HB.out]; rintro e w1 ⟨rfl, rfl⟩))
  go_region
  go_wp2_with (first
    | (go_at_call 66; refine (isEnding_any x.s (by exact HE2.out)).mono ?_; rw [HE.out]; rintro e w1 ⟨rfl, rfl⟩))
  go_ret
  exact ⟨rfl, (Fr.refl _ _).drew⟩

set_option maxRecDepth 100000 in
set_option maxHeartbeats 800000 in
theorem add_out (hh : HAt w B xb n h) {i q : Nat} (hm : (i : Int) < h.P) {p : PL} (hp : h.pl[q]? = some p) (ho : p.out = true) {x : PS} (hx : h.ps[i]? = some x) {ep : Int} (hb : h.bars x ep = 0) (hs : x.s = 0 ∨ x.s = 1) :
    Calls Tryz.prog 63 #[.pointer (some ⟨xb, 0, none⟩), .int .i64 i, .int .i64 ep, .int .i64 q] w fun e w' => e = .returned (.int .i64 10) ∧ Fr (fun _ => False) w w' := by
  have HH : Hid (HAt w B xb n h) := hh
  have HX : Hid (h.ps[i]? = some x) := hx
  have hq := (List.getElem?_eq_some_iff.1 hp).1
  have HL : Hid (h.lacks i q = 0) := lacks0 hm hq
  have hi6 : i < 6 := by have := hh.hP.2; omega
  have HB : Hid (h.bars x ep = 0) := hb
  have HE : Hid (decide (x.s = 2 ∨ x.s = 3) = false) := decide_eq_false (by omega)
  obtain ⟨⟨e0, e1, e2⟩, ef⟩ := hh.cellP hx
  have HE2 : Hid (w.cell? ⟨xb, 6 + i * 10 + 2, none⟩ = some (.int .i64 x.s)) := e2
  obtain ⟨g, cap, hpv, hg, hcap, c0, c1⟩ := hh.place hp
  rw [ho] at c1
  have cV := hh.cV
  rw [hpv] at cV
  have hi1 : (i : Int) < 6 := by omega
  have hi0 : (0 : Int) ≤ (i : Int) := by omega
  have hq0 : (0 : Int) ≤ (q : Int) := by omega
  have hq1 : (q : Int) < h.pl.length := by omega
  clear hh hm hx hb hs hp hpv ho
  go_enter Tryz.func63, Tryz.ntmps63
  go_wp2_with (first
    | (go_at_call 124; refine (find_any HH.out i q).mono ?_; rw [HL.out]; rintro e w1 ⟨rfl, rfl⟩)
    | (go_at_call 65; refine (admit_any HH.out hi6 HX.out ep).mono ?_; rw [HB.out]; rintro e w1 ⟨rfl, rfl⟩))
  go_region
  go_wp2_with (first
    | (go_at_call 66; refine (isEnding_any x.s (by exact HE2.out)).mono ?_; rw [HE.out]; rintro e w1 ⟨rfl, rfl⟩))
  go_ret
  exact ⟨rfl, (Fr.refl _ _).drew⟩

/-- What taking a part in leaves: the log may have opened it, the producer was heard. -/
def HS.heardP (h : HS) (i : Nat) : HS := h.setP i { (h.ps.getD i zps) with si := 0 }

theorem setP_foot {i : Nat} {x : PS} {k : Nat} : (h.setP i x).foot xb k ↔ h.foot xb k := Iff.rfl

theorem HAt.quiet (hh : HAt w B xb n h) {i : Nat} {x : PS} (hx : h.ps[i]? = some x) : Moved w (w.setCell ⟨xb, 6 + i * 10 + 7, none⟩ (.int .i64 0)) B xb n h n (h.setP i { x with si := 0 }) := by
  have := hh.setCell { x with si := 0 } (j := 7) (v := .int .i64 0) hx (by omega) rfl
  exact Moved.own this.2 this.1 (fun k hk => hk)

/-- Where Add goes through. -/
inductive AddOk (w : World) (B xb n : Nat) (h1 : HS) (i q : Nat) (x : PS) (p : PL) : Ending → World → Prop
  | mk {v' : Value} {w' : World} (hm : Moved w w' B xb n h1 (n + 1) ((h1.setL q ⟨p.lb, p.bm, v', p.s.opened i x.t, p.out⟩).setP i { x with si := 0 })) (ha : PlApart (h1.setL q ⟨p.lb, p.bm, v', p.s.opened i x.t, p.out⟩).pl) : AddOk w B xb n h1 i q x p (.returned (.int .i64 0)) w'

set_option maxRecDepth 100000 in
set_option maxHeartbeats 1600000 in
theorem add_again (hh : HAt w B xb n h) (ha : PlApart h.pl) {i q : Nat} (hm : (i : Int) < h.P) {p : PL} (hp : h.pl[q]? = some p) (ho : p.out = false) {x : PS} (hx : h.ps[i]? = some x) {ep : Int} (hb : h.bars x ep = 0) (hs : x.s = 0 ∨ x.s = 1) (ht : x.ties.getD q 0 ≠ 0) (hn : n < maxLen) :
    Calls Tryz.prog 63 #[.pointer (some ⟨xb, 0, none⟩), .int .i64 i, .int .i64 ep, .int .i64 q] w (AddOk w B xb n h i q x p) := by
  have HH : Hid (HAt w B xb n h) := hh
  have HX : Hid (h.ps[i]? = some x) := hx
  have HA : Hid (PlApart h.pl) := ha
  have HPL : Hid (h.pl[q]? = some p) := hp
  have hq := (List.getElem?_eq_some_iff.1 hp).1
  have hq4 : q < 4 := by have := hh.hQ; omega
  have HL : Hid (h.lacks i q = 0) := lacks0 hm hq
  have hi6 : i < 6 := by have := hh.hP.2; omega
  have HB : Hid (h.bars x ep = 0) := hb
  have HE : Hid (decide (x.s = 2 ∨ x.s = 3) = false) := decide_eq_false (by omega)
  have HLG : Hid (LogAt w B p.lb p.bm p.v n p.s) := hh.logs p (List.mem_of_getElem? hp)
  have HNN : Hid (n < maxLen) := hn
  have HI : Hid (I64 (i : Int)) := i64_of (by omega) (by omega)
  obtain ⟨⟨e0, e1, e2⟩, ef⟩ := hh.cellP hx
  have HE2 : Hid (w.cell? ⟨xb, 6 + i * 10 + 2, none⟩ = some (.int .i64 x.s)) := e2
  have e3 : w.cell? ⟨xb, 6 + i * 10 + 3 + q, none⟩ = some (.int .i64 (x.ties.getD q 0)) := by rw [Nat.add_assoc]; exact hh.cps hx (3 + q) _ (getD_cs _ hq4)
  obtain ⟨tv, htv⟩ : ∃ tv, x.ties.getD q 0 = tv := ⟨_, rfl⟩
  rw [htv] at e3 ht
  have ht' : (tv == 0) = false := by simpa using ht
  obtain ⟨g, cap, hpv, hg, hcap, c0, c1⟩ := hh.place hp
  rw [ho] at c1
  have cV := hh.cV
  rw [hpv] at cV
  have hi1 : (i : Int) < 6 := by omega
  have hi0 : (0 : Int) ≤ (i : Int) := by omega
  have hq0 : (0 : Int) ≤ (q : Int) := by omega
  have hq1 : (q : Int) < h.pl.length := by omega
  have hq14 : (q : Int) < 4 := by omega
  have FD : Hid (Fr (fun _ => False) w w.drew.drew) := ((Fr.refl _ _).drew).drew
  have HLG2 : Hid (LogAt w.drew.drew B p.lb p.bm p.v n p.s) := FD.out.logAt HLG.out id id (fun _ _ => id)
  have hpm := List.mem_of_getElem? hp
  have HGP : Hid (¬ (g = p.lb ∨ g = p.bm ∨ p.v.ownBlock = some g)) := fun e => by
    have t0 := tag_row hh.places (k := g) (by rw [hpv]; rfl)
    rcases (hh.logs p hpm).tags e with t1 | t1 | t1 <;> rw [t0] at t1 <;> cases t1
  have HXP : Hid (¬ (xb = p.lb ∨ xb = p.bm ∨ p.v.ownBlock = some xb)) := hh.ne_l hpm
  have hxl := lt_of_block hh.blk
  clear hh hm hx hb hs hp hpv ho ha hn ht htv hpm
  go_enter Tryz.func63, Tryz.ntmps63
  go_wp2_with (first
    | (go_at_call 124; refine (find_any HH.out i q).mono ?_; rw [HL.out]; rintro e w1 ⟨rfl, rfl⟩)
    | (go_at_call 65; refine (admit_any HH.out hi6 HX.out ep).mono ?_; rw [HB.out]; rintro e w1 ⟨rfl, rfl⟩))
  go_region
  go_wp2_with (first
    | (go_at_call 66; refine (isEnding_any x.s (by exact HE2.out)).mono ?_; rw [HE.out]; rintro e w1 ⟨rfl, rfl⟩))
  go_region_held3 (fun w' => w'.cell? ⟨g, q * 2, none⟩ = some (.pointer (some ⟨p.lb, 0, none⟩)) ∧ w'.cell? ⟨xb, 6 + i * 10 + 1, none⟩ = some (.int .i64 x.t))
    (first | with_reducible exact C2 | exact ⟨c0, e1⟩ | go_keep)
    ((go_at_call 126; refine (open_left (w := w.drew.drew) HLG2.out i x.t HI.out HNN.out).mono ?_; rintro e w3 ⟨rfl, hl⟩
      have hmv := (HH.out.after FD.out).logDone HA.out HPL.out (by omega) hl
      have L3 : Hid (Moved w w3 B xb n h (n + 1) (h.setL q ⟨p.lb, p.bm, p.v, p.s.opened i x.t, p.out⟩) ∧ PlApart (h.setL q ⟨p.lb, p.bm, p.v, p.s.opened i x.t, p.out⟩).pl) := ⟨hmv.1.behind FD.out, hmv.2⟩
      have C2 : w3.cell? ⟨g, q * 2, none⟩ = some (.pointer (some ⟨p.lb, 0, none⟩)) ∧ w3.cell? ⟨xb, 6 + i * 10 + 1, none⟩ = some (.int .i64 x.t) := ⟨(hl.fr.cell (p := ⟨g, q * 2, none⟩) hg HGP.out).trans c0, (hl.fr.cell (p := ⟨xb, 6 + i * 10 + 1, none⟩) hxl HXP.out).trans e1⟩
      have d7 : w3.cell? ⟨xb, 6 + i * 10 + 7, none⟩ = some (.int .i64 x.si) := L3.out.1.at_.cps (p := x) HX.out 7 _ rfl
      have df : ∀ o, w3.frozen? ⟨xb, o, none⟩ = false := frozen_of_cells L3.out.1.at_.blk
      clear hl hmv))
  go_wp2_with fail
  go_ret
  have hx3 : (h.setL q ⟨p.lb, p.bm, p.v, p.s.opened i x.t, p.out⟩).ps[i]? = some x := HX.out
  exact .mk (v' := p.v) (L3.out.1.trans (L3.out.1.at_.quiet hx3)) L3.out.2
end

end Go.Proofs.YtkelpcjiediamaaGreat

/-
  The program's Add where the transaction does not have the part yet.
-/
namespace Go.Proofs.YtkelpcjiediamaaGreat
open Go.RowKit Go.Maps

section
variable {w w' : World} {B xb n : Nat} {h : HS}

/-- Where Add writes a record. -/
inductive AddNew (w : World) (B xb n : Nat) (h : HS) (i q : Nat) (x : PS) (p : PL) : Ending → World → Prop
  | ok {h1 : HS} {v' : Value} {w' : World} (ho : WOut h ⟨2, i, q, x.next⟩ true h1) (hm : Moved w w' B xb n h (n + 1) ((h1.setL q ⟨p.lb, p.bm, v', p.s.opened i x.next, p.out⟩).setP i { x.deed ⟨2, i, q, x.next⟩ with si := 0 })) (ha : PlApart (h1.setL q ⟨p.lb, p.bm, v', p.s.opened i x.next, p.out⟩).pl) : AddNew w B xb n h i q x p (.returned (.int .i64 0)) w'
  | broke {h' : HS} {w' : World} (ho : WOut h ⟨2, i, q, x.next⟩ false h') (hm : Moved w w' B xb n h n h') : AddNew w B xb n h i q x p (.returned (.int .i64 5)) w'

theorem deed2_rest (x : PS) (i q : Int) (t : Int) : (x.deed ⟨2, i, q, t⟩).t = t ∧ (x.deed ⟨2, i, q, t⟩).si = x.si ∧ (x.deed ⟨2, i, q, t⟩).s = 1 := by
  have e : x.deed ⟨2, i, q, t⟩ = ({ x with s := 1, t := t } : PS).tie q 1 := by simp [PS.deed]
  obtain ⟨r1, r2, r3, r4, r5, r6⟩ := tie_rest ({ x with s := 1, t := t } : PS) q 1
  rw [e]
  exact ⟨r2, r4, r3⟩

theorem WOut.okpl {r : Rc} {h1 : HS} (ho : WOut h r true h1) : h1.pl = h.pl ∧ h1.pv = h.pv ∧ h1.Q = h.Q ∧ h1.P = h.P := by
  cases ho; exact ⟨rfl, rfl, rfl, rfl⟩

set_option maxRecDepth 100000 in
set_option maxHeartbeats 1600000 in
theorem add_new (hh : HAt w B xb n h) (ha : PlApart h.pl) {i q : Nat} (hm : (i : Int) < h.P) {p : PL} (hp : h.pl[q]? = some p) (ho : p.out = false) {x : PS} (hx : h.ps[i]? = some x) {ep : Int} (hb : h.bars x ep = 0) (hs : x.s = 0 ∨ x.s = 1) (ht : x.ties.getD q 0 = 0) (hn : n < maxLen) (hy : May h ⟨2, i, q, x.next⟩) :
    Calls Tryz.prog 63 #[.pointer (some ⟨xb, 0, none⟩), .int .i64 i, .int .i64 ep, .int .i64 q] w (AddNew w B xb n h i q x p) := by
  have HH : Hid (HAt w B xb n h) := hh
  have HX : Hid (h.ps[i]? = some x) := hx
  have HA : Hid (PlApart h.pl) := ha
  have HPL : Hid (h.pl[q]? = some p) := hp
  have hq := (List.getElem?_eq_some_iff.1 hp).1
  have hq4 : q < 4 := by have := hh.hQ; omega
  have HL : Hid (h.lacks i q = 0) := lacks0 hm hq
  have hi6 : i < 6 := by have := hh.hP.2; omega
  have HB : Hid (h.bars x ep = 0) := hb
  have HE : Hid (decide (x.s = 2 ∨ x.s = 3) = false) := decide_eq_false (by omega)
  have HNN : Hid (n < maxLen) := hn
  have HI : Hid (I64 (i : Int)) := i64_of (by omega) (by omega)
  have HC : Hid (Calls Tryz.prog 125 #[.pointer (some ⟨xb, 4, none⟩), .int .i64 i, .int .i64 q] w.drew (WPost h ⟨2, i, q, x.next⟩ w.drew B xb n)) := kadd_post (hh.after ((Fr.refl _ _).drew)) hx hy
  obtain ⟨⟨e0, e1, e2⟩, ef⟩ := hh.cellP hx
  have HE2 : Hid (w.cell? ⟨xb, 6 + i * 10 + 2, none⟩ = some (.int .i64 x.s)) := e2
  have e3 : w.cell? ⟨xb, 6 + i * 10 + 3 + q, none⟩ = some (.int .i64 (x.ties.getD q 0)) := by rw [Nat.add_assoc]; exact hh.cps hx (3 + q) _ (getD_cs _ hq4)
  rw [ht] at e3
  obtain ⟨g, cap, hpv, hg, hcap, c0, c1⟩ := hh.place hp
  rw [ho] at c1
  have cV := hh.cV
  rw [hpv] at cV
  have HPV : Hid (h.pv = .slice (some ⟨g, 0, none⟩) h.pl.length cap) := hpv
  have hi1 : (i : Int) < 6 := by omega
  have hi0 : (0 : Int) ≤ (i : Int) := by omega
  have hq0 : (0 : Int) ≤ (q : Int) := by omega
  have hq1 : (q : Int) < h.pl.length := by omega
  have hq14 : (q : Int) < 4 := by omega
  clear hh hm hx hb hs hp hpv ho ha hn ht hy
  go_enter Tryz.func63, Tryz.ntmps63
  go_wp2_with (first
    | (go_at_call 124; refine (find_any HH.out i q).mono ?_; rw [HL.out]; rintro e w1 ⟨rfl, rfl⟩)
    | (go_at_call 65; refine (admit_any HH.out hi6 HX.out ep).mono ?_; rw [HB.out]; rintro e w1 ⟨rfl, rfl⟩))
  go_region
  go_wp2_with (first
    | (go_at_call 66; refine (isEnding_any x.s (by exact HE2.out)).mono ?_; rw [HE.out]; rintro e w1 ⟨rfl, rfl⟩)
    | (go_at_call 125; fail))
  refine HC.out.mono ?_
  rintro e w2 ⟨ho, hmv⟩
  rename_i ok h1
  cases ok
  · have R2 : Hid (WOut h ⟨2, i, q, x.next⟩ false h1 ∧ Moved w w2 B xb n h n h1) := ⟨ho, hmv.behind ((Fr.refl _ _).drew)⟩
    clear ho hmv
    go_wp2_with fail
    go_ret
    exact .broke R2.out.1 R2.out.2
  · have HO : Hid (WOut h ⟨2, i, q, x.next⟩ true h1) := ho
    have R2 : Hid (Moved w w2 B xb n h n h1) := hmv.behind ((Fr.refl _ _).drew)
    have hx1 := deed_get HX.out rfl ho
    obtain ⟨hpl1, hpv1, _, _⟩ := ho.okpl
    obtain ⟨dt, dsi, _⟩ := deed2_rest x i q x.next
    obtain ⟨x1, hxe⟩ : ∃ x1, x.deed ⟨2, i, q, x.next⟩ = x1 := ⟨_, rfl⟩
    rw [hxe] at hx1 dt dsi
    have HXE : Hid (x.deed ⟨2, i, q, x.next⟩ = x1) := hxe
    have HX1 : Hid (h1.ps[i]? = some x1) := hx1
    have HPL1 : Hid (h1.pl[q]? = some p) := by show h1.pl[q]? = some p; rw [hpl1]; exact HPL.out
    have HA1 : Hid (PlApart h1.pl) := by show PlApart h1.pl; rw [hpl1]; exact HA.out
    have k1 : w2.cell? ⟨xb, 6 + i * 10 + 1, none⟩ = some (.int .i64 x.next) := by have := (hmv.at_.cellP hx1).1.2.1; rw [dt] at this; exact this
    obtain ⟨g', cap', hpv', hg', _, c0', _⟩ := hmv.at_.place HPL1.out
    rw [hpv1, HPV.out] at hpv'
    simp only [Value.slice.injEq, Option.some.injEq, Addr.mk.injEq, and_true] at hpv'
    obtain ⟨rfl, _, _⟩ := hpv'
    have hpm : p ∈ h1.pl := List.mem_of_getElem? HPL1.out
    have HGP : Hid (¬ (g = p.lb ∨ g = p.bm ∨ p.v.ownBlock = some g)) := fun e => by
      have t0 := tag_row hmv.at_.places (k := g) (by rw [hpv1, HPV.out]; rfl)
      rcases (hmv.at_.logs p hpm).tags e with t1 | t1 | t1 <;> rw [t0] at t1 <;> cases t1
    have HXP : Hid (¬ (xb = p.lb ∨ xb = p.bm ∨ p.v.ownBlock = some xb)) := hmv.at_.ne_l hpm
    have FD : Hid (Fr (fun _ => False) w2 w2.drew) := (Fr.refl _ _).drew
    have HLG2 : Hid (LogAt w2.drew B p.lb p.bm p.v n p.s) := FD.out.logAt (hmv.at_.logs p hpm) id id (fun _ _ => id)
    have hxl := lt_of_block hmv.at_.blk
    have HH1 : Hid (HAt w2.drew B xb n h1) := hmv.at_.after FD.out
    clear ho hmv hx1 hpl1 hpv1 dt dsi hxe hpm c0 c1 cV e0 e1 e2 e3 ef hg
    go_wp2_with fail
    go_region_held3 (fun w' => w'.cell? ⟨g, q * 2, none⟩ = some (.pointer (some ⟨p.lb, 0, none⟩)) ∧ w'.cell? ⟨xb, 6 + i * 10 + 1, none⟩ = some (.int .i64 x.next))
      (first | with_reducible exact C2 | exact ⟨c0', k1⟩ | go_keep)
      ((go_at_call 126; refine (open_left (w := w2.drew) HLG2.out i x.next HI.out HNN.out).mono ?_; rintro e w3 ⟨rfl, hl⟩
        have hmv := HH1.out.logDone HA1.out HPL1.out (by omega) hl
        have L3 : Hid (Moved w w3 B xb n h (n + 1) (h1.setL q ⟨p.lb, p.bm, p.v, p.s.opened i x.next, p.out⟩) ∧ PlApart (h1.setL q ⟨p.lb, p.bm, p.v, p.s.opened i x.next, p.out⟩).pl) := ⟨R2.out.trans (hmv.1.behind FD.out), hmv.2⟩
        have C2 : w3.cell? ⟨g, q * 2, none⟩ = some (.pointer (some ⟨p.lb, 0, none⟩)) ∧ w3.cell? ⟨xb, 6 + i * 10 + 1, none⟩ = some (.int .i64 x.next) := ⟨(hl.fr.cell (p := ⟨g, q * 2, none⟩) hg' HGP.out).trans c0', (hl.fr.cell (p := ⟨xb, 6 + i * 10 + 1, none⟩) hxl HXP.out).trans k1⟩
        have d7 : w3.cell? ⟨xb, 6 + i * 10 + 7, none⟩ = some (.int .i64 x1.si) := L3.out.1.at_.cps (p := x1) HX1.out 7 _ rfl
        have df : ∀ o, w3.frozen? ⟨xb, o, none⟩ = false := frozen_of_cells L3.out.1.at_.blk
        clear hl hmv))
    go_wp2_with fail
    go_ret
    have hx3 : (h1.setL q ⟨p.lb, p.bm, p.v, p.s.opened i x.next, p.out⟩).ps[i]? = some x1 := HX1.out
    refine .ok (v' := p.v) HO.out ?_ L3.out.2
    rw [HXE.out]
    exact L3.out.1.trans (L3.out.1.at_.quiet hx3)
end

end Go.Proofs.YtkelpcjiediamaaGreat

/-
  slices.Contains of integers; the program's Produce where nothing is put.
-/
namespace Go.Proofs.YtkelpcjiediamaaGreat
open Go.RowKit Go.Maps

section
variable {w w' : World} {B xb n : Nat} {h : HS}

set_option maxRecDepth 100000 in
theorem index_any {v : Value} {xs : List Int} (hr : w.ownsRow B 3 1 v xs.length (intCells xs)) (m : Int) :
    Calls Tryz.prog 183 #[v, .int .i64 m] w fun r w' => (∃ j : Int, r = .returned (.int .i64 j) ∧ (0 ≤ j ↔ m ∈ xs) ∧ j < 9223372036854775807 ∧ -1 ≤ j) ∧ w = w' := by
  obtain ⟨va, vc, rfl, hl⟩ := intRow_len hr
  unfold maxLen at hl
  have H : Hid (w.ownsRow B 3 1 (.slice va xs.length vc) xs.length (intCells xs)) := hr
  clear hr
  go_enter Tryz.func183, Tryz.ntmps183
  go_wp2_with fail
  go_loop [8] (fun i => ∃ k : Nat, k ≤ xs.length ∧ i = .int .i64 k ∧ ∀ (j : Nat) x, j < k → xs[j]? = some x → x ≠ m) (fun i => xs.length - (intOf i).toNat)
  case atStart => exact ⟨0, Nat.zero_le _, rfl, fun j x hj => by omega⟩
  case round =>
    obtain ⟨k, hk, rfl, hall⟩ := hrel
    have HA : Hid (∀ (j : Nat) x, j < k → xs[j]? = some x → x ≠ m) := hall
    clear hall
    by_cases hlt : k < xs.length
    · obtain ⟨x, hx⟩ : ∃ x, xs[k]? = some x := ⟨_, List.getElem?_eq_getElem hlt⟩
      have HX : Hid (xs[k]? = some x) := hx
      rcases H.out.2 with ⟨_, h0⟩ | ⟨g, cap, cur, hv, hb, hg, h1, h2, _⟩
      · omega
      · simp only [Value.slice.injEq] at hv
        obtain ⟨rfl, _, rfl⟩ := hv
        have c0 := intRow_cell H.out hx
        have hki : (k : Int) < (xs.length : Int) := by omega
        have hk0 : (0 : Int) ≤ (k : Int) := by omega
        clear hx hg h2 hb
        by_cases e : m = x
        · have HM : Hid (m ∈ xs) := by show m ∈ xs; rw [e]; exact List.mem_of_getElem? HX.out
          have e' : (m == x) = true := by simpa using e
          clear e
          go_wp2
          go_ret
          exact ⟨⟨(k : Int), rfl, ⟨fun _ => HM.out, fun _ => hk0⟩, by omega, by omega⟩, rfl⟩
        · have e' : (m == x) = false := by simpa using e
          have HA2 : Hid (∀ (j : Nat) z, j < k + 1 → xs[j]? = some z → z ≠ m) := fun j z hj hz => by
            by_cases ej : j = k
            · subst ej
              have := HX.out.symm.trans hz
              cases this
              exact fun e2 => e e2.symm
            · exact HA.out j z (by omega) hz
          clear e
          go_wp2
          go_round
          case rel => exact ⟨k + 1, by omega, by go_num, HA2.out⟩
          case measure => simp [intOf]; omega
    · have HM : Hid (m ∉ xs) := fun hm => by
        obtain ⟨j, hj, rfl⟩ := List.getElem_of_mem hm
        exact HA.out j _ (by omega) (List.getElem?_eq_getElem hj) rfl
      go_wp2
      go_ret
      exact ⟨⟨-1, rfl, ⟨fun e => by omega, fun e => absurd e HM.out⟩, by omega, by omega⟩, rfl⟩

set_option maxRecDepth 100000 in
theorem contains_any {v : Value} {xs : List Int} (hr : w.ownsRow B 3 1 v xs.length (intCells xs)) (m : Int) :
    Calls Tryz.prog 135 #[v, .int .i64 m] w fun r w' => r = .returned (.bool (decide (m ∈ xs))) ∧ w = w' := by
  obtain ⟨va, vc, rfl, hl⟩ := intRow_len hr
  have HC : Hid (Calls Tryz.prog 183 #[.slice va xs.length vc, .int .i64 m] w fun r w' => (∃ j : Int, r = .returned (.int .i64 j) ∧ (0 ≤ j ↔ m ∈ xs) ∧ j < 9223372036854775807 ∧ -1 ≤ j) ∧ w = w') := index_any hr m
  clear hr hl
  go_enter Tryz.func135, Tryz.ntmps135
  go_wp2_with fail
  refine HC.out.mono ?_
  rintro e w1 ⟨⟨j, rfl, hj, _, _⟩, rfl⟩
  by_cases h0 : 0 ≤ j
  · have HM : Hid (decide (m ∈ xs) = true) := decide_eq_true (hj.1 h0)
    clear hj
    go_wp2
    go_ret
    exact ⟨by rw [HM.out] <;> rfl, rfl⟩
  · have HM : Hid (decide (m ∈ xs) = false) := decide_eq_false (fun e => h0 (hj.2 e))
    clear hj
    go_wp2
    go_ret
    exact ⟨by rw [HM.out, show false = decide (0 ≤ j) from (decide_eq_false (by omega)).symm] <;> rfl, rfl⟩

set_option maxRecDepth 100000 in
theorem produce_none (hh : HAt w B xb n h) {p q : Int} (hl : h.lacks p q ≠ 0) (ep : Int) (ts : ByteArray) :
    Calls Tryz.prog 77 #[.pointer (some ⟨xb, 0, none⟩), .int .i64 p, .int .i64 ep, .int .i64 q, .string ts] w fun e w' => e = .returned (.int .i64 (h.lacks p q)) ∧ w = w' := by
  have HH : Hid (HAt w B xb n h) := hh
  obtain ⟨b, hbe⟩ : ∃ b, h.lacks p q = b := ⟨_, rfl⟩
  have HL : Hid (h.lacks p q = b) := hbe
  rw [hbe] at hl ⊢
  have hb0 : (b == 0) = false := by simpa using hl
  clear hh hbe
  go_enter Tryz.func77, Tryz.ntmps77
  go_wp2_with (go_at_call 124; refine (find_any HH.out p q).mono ?_; rw [HL.out]; rintro e w1 ⟨rfl, rfl⟩)
  go_ret
  exact ⟨rfl, rfl⟩

set_option maxRecDepth 100000 in
theorem produce_long (hh : HAt w B xb n h) {p q : Int} (hl : h.lacks p q = 0) (ep : Int) {ts : ByteArray} (ht : 8 < ts.size) (hm : ts.size ≤ 140737488355328) :
    Calls Tryz.prog 77 #[.pointer (some ⟨xb, 0, none⟩), .int .i64 p, .int .i64 ep, .int .i64 q, .string ts] w fun e w' => e = .returned (.int .i64 4) ∧ w = w' := by
  have HH : Hid (HAt w B xb n h) := hh
  have HL : Hid (h.lacks p q = 0) := hl
  have ht' : (8 : Int) < (ts.size : Int) := by omega
  clear hh hl
  go_enter Tryz.func77, Tryz.ntmps77
  go_wp2_with (go_at_call 124; refine (find_any HH.out p q).mono ?_; rw [HL.out]; rintro e w1 ⟨rfl, rfl⟩)
  go_ret
  exact ⟨rfl, rfl⟩

set_option maxRecDepth 100000 in
theorem produce_barred (hh : HAt w B xb n h) {i q : Nat} (hm : (i : Int) < h.P) (hq : q < h.pl.length) {x : PS} (hx : h.ps[i]? = some x) {ep : Int} (hb : h.bars x ep ≠ 0) {ts : ByteArray} (ht : ts.size ≤ 8) :
    Calls Tryz.prog 77 #[.pointer (some ⟨xb, 0, none⟩), .int .i64 i, .int .i64 ep, .int .i64 q, .string ts] w fun e w' => e = .returned (.int .i64 (h.bars x ep)) ∧ w = w' := by
  have HH : Hid (HAt w B xb n h) := hh
  have HX : Hid (h.ps[i]? = some x) := hx
  have HL : Hid (h.lacks i q = 0) := lacks0 hm hq
  have hi6 : i < 6 := by have := hh.hP.2; omega
  obtain ⟨b, hbe⟩ : ∃ b, h.bars x ep = b := ⟨_, rfl⟩
  have HB : Hid (h.bars x ep = b) := hbe
  rw [hbe] at hb ⊢
  have hb0 : (b == 0) = false := by simpa using hb
  have ht' : ¬ (8 : Int) < (ts.size : Int) := by omega
  clear hh hm hx hbe hq
  go_enter Tryz.func77, Tryz.ntmps77
  go_wp2_with (first
    | (go_at_call 124; refine (find_any HH.out i q).mono ?_; rw [HL.out]; rintro e w1 ⟨rfl, rfl⟩)
    | (go_at_call 65; refine (admit_any HH.out hi6 HX.out ep).mono ?_; rw [HB.out]; rintro e w1 ⟨rfl, rfl⟩))
  go_ret
  exact ⟨rfl, rfl⟩

set_option maxRecDepth 100000 in
set_option maxHeartbeats 800000 in
theorem produce_still (hh : HAt w B xb n h) {i q : Nat} (hm : (i : Int) < h.P) (hq : q < h.pl.length) {x : PS} (hx : h.ps[i]? = some x) {ep : Int} (hb : h.bars x ep = 0) (hs : x.s = 0 ∨ x.s = 2 ∨ x.s = 3) {ts : ByteArray} (ht : ts.size ≤ 8) :
    Calls Tryz.prog 77 #[.pointer (some ⟨xb, 0, none⟩), .int .i64 i, .int .i64 ep, .int .i64 q, .string ts] w fun e w' => e = .returned (.int .i64 (if x.s = 0 then 8 else 9)) ∧ Fr (fun _ => False) w w' := by
  have HH : Hid (HAt w B xb n h) := hh
  have HX : Hid (h.ps[i]? = some x) := hx
  have HL : Hid (h.lacks i q = 0) := lacks0 hm hq
  have hi6 : i < 6 := by have := hh.hP.2; omega
  have HB : Hid (h.bars x ep = 0) := hb
  obtain ⟨⟨e0, e1, e2⟩, ef⟩ := hh.cellP hx
  obtain ⟨p, hp⟩ : ∃ p, h.pl[q]? = some p := ⟨_, List.getElem?_eq_getElem hq⟩
  obtain ⟨g, cap, hpv, hg, hcap, c0, c1⟩ := hh.place hp
  have cV := hh.cV
  rw [hpv] at cV
  have hi1 : (i : Int) < 6 := by omega
  have hi0 : (0 : Int) ≤ (i : Int) := by omega
  have hq0 : (0 : Int) ≤ (q : Int) := by omega
  have hq1 : (q : Int) < h.pl.length := by omega
  have ht' : ¬ (8 : Int) < (ts.size : Int) := by omega
  have HE2 : Hid (w.cell? ⟨xb, 6 + i * 10 + 2, none⟩ = some (.int .i64 x.s)) := e2
  clear hh hm hx hb hp hpv
  by_cases h0 : x.s = 0
  · rw [if_pos h0]
    rw [h0] at e2
    go_enter Tryz.func77, Tryz.ntmps77
    go_wp2_with (first
      | (go_at_call 124; refine (find_any HH.out i q).mono ?_; rw [HL.out]; rintro e w1 ⟨rfl, rfl⟩)
      | (go_at_call 65; refine (admit_any HH.out hi6 HX.out ep).mono ?_; rw [HB.out]; rintro e w1 ⟨rfl, rfl⟩))
    go_region
    go_wp2_with fail
    go_ret
    exact ⟨rfl, (Fr.refl _ _).drew⟩
  · rw [if_neg h0]
    have HE : Hid (decide (x.s = 2 ∨ x.s = 3) = true) := decide_eq_true (by omega)
    have h0' : (x.s == 0) = false := by simpa using h0
    go_enter Tryz.func77, Tryz.ntmps77
    go_wp2_with (first
      | (go_at_call 124; refine (find_any HH.out i q).mono ?_; rw [HL.out]; rintro e w1 ⟨rfl, rfl⟩)
      | (go_at_call 65; refine (admit_any HH.out hi6 HX.out ep).mono ?_; rw [HB.out]; rintro e w1 ⟨rfl, rfl⟩))
    go_region
    go_wp2_with (first
      | (go_at_call 66; refine (isEnding_any x.s (by exact HE2.out)).mono ?_; rw [HE.out]; rintro e w1 ⟨rfl, rfl⟩))
    go_ret
    exact ⟨rfl, (Fr.refl _ _).drew⟩
end

end Go.Proofs.YtkelpcjiediamaaGreat
