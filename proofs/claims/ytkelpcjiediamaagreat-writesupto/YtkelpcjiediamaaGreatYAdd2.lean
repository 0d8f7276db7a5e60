/-
  The document's Add where it goes through.
-/
import Derived.Test.YtkelpcjiediamaaGreatMYAdd
namespace Go.Proofs.YtkelpcjiediamaaGreat
open Go.RowKit Go.Maps

section
variable {w w' : World} {B yb : Nat} {y : RS}

theorem YAt.hrow (h : YAt w B yb y) {p : Nat} (hp : p < y.H.length) : ∃ g cap x, y.hv = .slice (some ⟨g, 0, none⟩) y.H.length cap ∧ g < w.heap.size ∧ y.H.length ≤ cap ∧ g ≠ yb ∧ w.cell? ⟨g, p, none⟩ = some (.int .i64 x) ∧ (∀ o, w.frozen? ⟨g, o, none⟩ = false) := by
  rcases h.heard.2 with ⟨hv, h0⟩ | ⟨g, cap, cur, hv, hb, hg, h1, h2, _⟩
  · omega
  · have hr := h.heard
    rw [hv] at hr
    obtain ⟨x, hx⟩ : ∃ x, y.H[p]? = some x := ⟨_, List.getElem?_eq_getElem hp⟩
    exact ⟨g, cap, x, hv, lt_of_block hg, h1, fun e => row_ne_blk h.heard h.blk (by decide) (by rw [hv, e]; rfl), intRow_cell hr hx, frozen_of_cells hg⟩

/-- Where Add goes through without a record. -/
inductive YAddOk (w : World) (B yb : Nat) (y : RS) (i q : Nat) (g : GL) (t : Int) : Ending → World → Prop
  | mk {u' : Value} {w' : World} (hm : YMoved w w' B yb y ((y.setG q ⟨g.yb, u', rOpened g.L i t⟩).setH i y.tm)) (ha : GApart (y.setG q ⟨g.yb, u', rOpened g.L i t⟩).G) : YAddOk w B yb y i q g t (.returned (.int .i64 0)) w'

/-- Where it writes one. -/
inductive YAddNew (w : World) (B yb : Nat) (y : RS) (i q : Nat) (g : GL) (t : Int) : Ending → World → Prop
  | ok {y1 : RS} {u' : Value} {w' : World} (ho : YOut y ⟨2, i, q, t⟩ true y1) (hm : YMoved w w' B yb y ((y1.setG q ⟨g.yb, u', rOpened g.L i t⟩).setH i y.tm)) (ha : GApart (y1.setG q ⟨g.yb, u', rOpened g.L i t⟩).G) : YAddNew w B yb y i q g t (.returned (.int .i64 0)) w'
  | broke {y' : RS} {w' : World} (ho : YOut y ⟨2, i, q, t⟩ false y') (hm : YMoved w w' B yb y y') : YAddNew w B yb y i q g t (.returned (.int .i64 5)) w'

theorem YOut.okrest {r : Rc} {y1 : RS} (h : YOut y r true y1) : y1.G = y.G ∧ y1.gv = y.gv ∧ y1.H = y.H ∧ y1.hv = y.hv ∧ y1.tm = y.tm ∧ y1.O = y.O := by
  cases h; exact ⟨rfl, rfl, rfl, rfl, rfl, rfl⟩

set_option maxRecDepth 100000 in
set_option maxHeartbeats 1600000 in
theorem yadd_again (h : YAt w B yb y) (hF : y.Fine) (hap : GApart y.G) {i : Nat} (hm : (i : Int) < y.P) {q : Nat} {g : GL} (hgq : y.G[q]? = some g) (ho : y.O[q]? = some false) {ep : Int} (hsp : speaks y.dn (stand y.L i).e ep = 0) (hs : (stand y.L i).s = 1) (hin : (q : Int) ∈ (stand y.L i).ps) (hb : (g.L.length + 1) * 40 ≤ 140737488355328) :
    Calls Tryz.prog 76 #[.pointer (some ⟨yb, 0, none⟩), .int .i64 i, .int .i64 ep, .int .i64 q] w (YAddOk w B yb y i q g (stand y.L i).t) := by
  have H : Hid (YAt w B yb y) := h
  have HF : Hid y.Fine := hF
  have HAP : Hid (GApart y.G) := hap
  have HGQ : Hid (y.G[q]? = some g) := hgq
  have HBL : Hid ((g.L.length + 1) * 40 ≤ 140737488355328) := hb
  have HB8 : Hid ((y.L.length + 1) * 8 ≤ 140737488355328) := by have := hF.lL; show (y.L.length + 1) * 8 ≤ 140737488355328; omega
  have HB32 : Hid ((y.L.length + 1) * 32 ≤ 140737488355328) := by have := hF.lL; show (y.L.length + 1) * 32 ≤ 140737488355328; omega
  have hql := (List.getElem?_eq_some_iff.1 ho).1
  have hgl := (List.getElem?_eq_some_iff.1 hgq).1
  have hQ := h.hQ
  have hPP := h.hP
  have hiH : i < y.H.length := by omega
  have HM : Hid (decide (0 ≤ (i : Int) ∧ (i : Int) ≤ y.P - 1) = true) := decide_eq_true ⟨by omega, by omega⟩
  have HQ : Hid (decide (0 ≤ (q : Int) ∧ (q : Int) ≤ y.Q - 1) = true) := decide_eq_true ⟨by omega, by omega⟩
  have c0 : w.cell? ⟨yb, 0, none⟩ = some (.int .i64 y.P) := h.c 0
  have c1 : w.cell? ⟨yb, 1, none⟩ = some (.int .i64 y.Q) := h.c 1
  have c13 : w.cell? ⟨yb, 13, none⟩ = some y.ov := h.c 13
  obtain ⟨og, ocap, hov, hog, hoc, k0⟩ := h.gout ho
  rw [hov] at c13
  have hp1 := h.hP.2.1
  have hp2 := h.hP.2.2
  have hq1 := h.hQ.2.2.1
  have hq2 := h.hQ.2.2.2
  have hlt := lt_of_block h.blk
  obtain ⟨z, hz⟩ : ∃ z, stand y.L i = z := ⟨_, rfl⟩
  have HZ : Hid (stand y.L i = z) := hz
  rw [hz] at hsp hs hin ⊢
  have HSP : Hid (speaks y.dn z.e ep = 0) := hsp
  have HS : Hid (z.s = 1) := hs
  have HIN : Hid (decide ((q : Int) ∈ z.ps) = true) := decide_eq_true hin
  have HIH : Hid (i < y.H.length) := hiH
  obtain ⟨gg, gcap, hgv, hggl, hgc, g0⟩ := h.glog hgq
  have c12 : w.cell? ⟨yb, 12, none⟩ = some y.gv := h.c 12
  rw [hgv] at c12
  have HGM : Hid (g ∈ y.G) := List.mem_of_getElem? hgq
  have hqi0 : (0 : Int) ≤ (q : Int) := by omega
  have hqi1 : (q : Int) < y.O.length := by omega
  have hqi2 : (q : Int) < y.G.length := by omega
  have hii0 : (0 : Int) ≤ (i : Int) := by omega
  have hii1 : (i : Int) < y.H.length := by omega
  have hi64 : (i : Int) ≤ 6 := by omega
  clear h hm hF hz hsp hQ ho hov hap hgq hPP hb hs hin hiH hgv
  go_enter Tryz.func76, Tryz.ntmps76
  go_wp2_with (first
    | (go_at_call 72; refine (in_any _ _ _ _).mono ?_; (first | rw [HM.out] | rw [HQ.out]); rintro e w1 ⟨rfl, rfl⟩)
    | (go_at_call 105; refine (stand_any H.out i HF.out.arg HB8.out).mono ?_; rw [HZ.out, HS.out]; rintro e w1 ⟨v1, rfl, hv1, hf1⟩
       obtain ⟨va, vc, rfl, _⟩ := intRow_len hv1
       have F1 : Hid (Fr (fun _ => False) w w1) := hf1
       have V1 : Hid (w1.ownsRow w.heap.size 3 1 (.slice va z.ps.length vc) z.ps.length (intCells z.ps)) := hv1
       clear hv1 hf1)
    | (go_at_call 132; refine (yspeaks_any (by exact H.out.after (F1.out.alloc _)) _ _ _ _ _ _ ep).mono ?_; rw [HSP.out]; rintro e w2 ⟨rfl, hf2⟩
       have k2 : w2.cell? ⟨w1.heap.size, 2, none⟩ = some (.int .i64 1) := Fr.box (S := fun _ => False) hf2 id 2
       have k1 : w2.cell? ⟨w1.heap.size, 1, none⟩ = some (.int .i64 z.t) := Fr.box (S := fun _ => False) hf2 id 1
       have k3 : w2.cell? ⟨w1.heap.size, 3, none⟩ = some (.slice va z.ps.length vc) := Fr.box (S := fun _ => False) hf2 id 3
       have F2 : Hid (Fr (fun _ => False) w w2) := (F1.out.alloc _).trans hf2 (fun _ h => h.elim)
       have V2 : Hid (w2.ownsRow w.heap.size 3 1 (.slice va z.ps.length vc) z.ps.length (intCells z.ps)) := hf2.ownsRow ((nofr _).ownsRow V1.out (fun _ _ => id)) (fun _ _ => id)
       have d13 := (F2.out.cell (p := ⟨yb, 13, none⟩) hlt id).trans c13
       have d0 := (F2.out.cell (p := ⟨og, q, none⟩) hog id).trans k0
       have d12 := (F2.out.cell (p := ⟨yb, 12, none⟩) hlt id).trans c12
       have h0 := (F2.out.cell (p := ⟨gg, q, none⟩) hggl id).trans g0
       clear hf2)
    | (go_at_call 133; refine (has_any V2.out q).mono ?_; rw [HIN.out]; rintro e w3 ⟨rfl, rfl⟩)
    | (go_at_call 134; fail))
  have YM2 : Hid (YMoved w w2 B yb y y) := (YMoved.refl H.out).after F2.out
  refine (rOpen_step ((YM2.out).at_.refs g HGM.out) i z.t HBL.out).mono ?_
  rintro e w5 ⟨rfl, u', hl⟩
  have hmv := (YM2.out).at_.logDone HAP.out HGQ.out hl
  have L5 : Hid (YMoved w w5 B yb y (y.setG q ⟨g.yb, u', rOpened g.L i z.t⟩) ∧ GApart (y.setG q ⟨g.yb, u', rOpened g.L i z.t⟩).G) := ⟨(YM2.out).trans hmv.1, hmv.2⟩
  obtain ⟨hg, hcap, hxv, hhv, hhl, hhc, hhy, hhx, hhf⟩ := hmv.1.at_.hrow (p := i) HIH.out
  have HHV : Hid ((y.setG q ⟨g.yb, u', rOpened g.L i z.t⟩).hv = .slice (some ⟨hg, 0, none⟩) (y.setG q ⟨g.yb, u', rOpened g.L i z.t⟩).H.length hcap) := hhv
  have d7 : w5.cell? ⟨yb, 7, none⟩ = some (.int .i64 y.tm) := hmv.1.at_.c 7
  have d11 : w5.cell? ⟨yb, 11, none⟩ = some (y.setG q ⟨g.yb, u', rOpened g.L i z.t⟩).hv := hmv.1.at_.c 11
  rw [hhv] at d11
  obtain ⟨hlen, hhlen⟩ : ∃ hlen, (y.setG q ⟨g.yb, u', rOpened g.L i z.t⟩).H.length = hlen := ⟨_, rfl⟩
  rw [hhlen] at d11 hhc
  have hi5 : (i : Int) < hlen := by
    have h1 : i < (y.setG q ⟨g.yb, u', rOpened g.L i z.t⟩).H.length := HIH.out
    rw [hhlen] at h1
    omega
  clear hmv hl hhv hhlen
  go_wp2_with fail
  go_region_held3 (fun w' => w'.cell? ⟨yb, 7, none⟩ = some (.int .i64 y.tm) ∧ w'.cell? ⟨yb, 11, none⟩ = some (.slice (some ⟨hg, 0, none⟩) hlen hcap))
    (first | go_keep | (simp only [cell_set_ne _ _ (Ne.symm hhy), World.cell?_drew]; with_reducible exact ⟨d7, d11⟩))
    (fail)
  go_wp2_with fail
  go_ret
  have hY := L5.out.1.trans (L5.out.1.at_.heardDone HHV.out HIH.out y.tm)
  exact .mk (hY.after ((Fr.refl _ _).drew)) L5.out.2

set_option maxRecDepth 100000 in
set_option maxHeartbeats 1600000 in
theorem yadd_first (h : YAt w B yb y) (hF : y.Fine) (hap : GApart y.G) {i : Nat} (hm : (i : Int) < y.P) {q : Nat} {g : GL} (hgq : y.G[q]? = some g) (ho : y.O[q]? = some false) {ep : Int} (hsp : speaks y.dn (stand y.L i).e ep = 0) (hs : (stand y.L i).s = 0) (hO : (⟨2, i, q, (stand y.L i).t + 1⟩ : Rc).Ok) (hb : (g.L.length + 1) * 40 ≤ 140737488355328) :
    Calls Tryz.prog 76 #[.pointer (some ⟨yb, 0, none⟩), .int .i64 i, .int .i64 ep, .int .i64 q] w (YAddNew w B yb y i q g ((stand y.L i).t + 1)) := by
  have H : Hid (YAt w B yb y) := h
  have HF : Hid y.Fine := hF
  have HAP : Hid (GApart y.G) := hap
  have HGQ : Hid (y.G[q]? = some g) := hgq
  have HBL : Hid ((g.L.length + 1) * 40 ≤ 140737488355328) := hb
  have HB8 : Hid ((y.L.length + 1) * 8 ≤ 140737488355328) := by have := hF.lL; show (y.L.length + 1) * 8 ≤ 140737488355328; omega
  have HB32 : Hid ((y.L.length + 1) * 32 ≤ 140737488355328) := by have := hF.lL; show (y.L.length + 1) * 32 ≤ 140737488355328; omega
  have hql := (List.getElem?_eq_some_iff.1 ho).1
  have hgl := (List.getElem?_eq_some_iff.1 hgq).1
  have hQ := h.hQ
  have hPP := h.hP
  have hiH : i < y.H.length := by omega
  have HM : Hid (decide (0 ≤ (i : Int) ∧ (i : Int) ≤ y.P - 1) = true) := decide_eq_true ⟨by omega, by omega⟩
  have HQ : Hid (decide (0 ≤ (q : Int) ∧ (q : Int) ≤ y.Q - 1) = true) := decide_eq_true ⟨by omega, by omega⟩
  have c0 : w.cell? ⟨yb, 0, none⟩ = some (.int .i64 y.P) := h.c 0
  have c1 : w.cell? ⟨yb, 1, none⟩ = some (.int .i64 y.Q) := h.c 1
  have c13 : w.cell? ⟨yb, 13, none⟩ = some y.ov := h.c 13
  obtain ⟨og, ocap, hov, hog, hoc, k0⟩ := h.gout ho
  rw [hov] at c13
  have hp1 := h.hP.2.1
  have hp2 := h.hP.2.2
  have hq1 := h.hQ.2.2.1
  have hq2 := h.hQ.2.2.2
  have hlt := lt_of_block h.blk
  obtain ⟨z, hz⟩ : ∃ z, stand y.L i = z := ⟨_, rfl⟩
  have HZ : Hid (stand y.L i = z) := hz
  rw [hz] at hsp hs ⊢
  have HSP : Hid (speaks y.dn z.e ep = 0) := hsp
  have HS : Hid (z.s = 0) := hs
  have HIH0 : Hid (i < y.H.length) := hiH
  rw [hz] at hO
  have HO : Hid (⟨2, i, q, z.t + 1⟩ : Rc).Ok := hO
  obtain ⟨_, _, _, _, _, _, m0, m1⟩ := HO.out
  simp only at m0 m1
  have HW : Hid (∀ W, YAt W B yb y → Calls Tryz.prog 131 #[.pointer (some ⟨yb, 0, none⟩), .agg #[.int .i64 2, .int .i64 i, .int .i64 q, .int .i64 (z.t + 1)]] W fun e w' => ∃ ok y', e = .returned (.bool ok) ∧ YOut y ⟨2, i, q, z.t + 1⟩ ok y' ∧ YMoved W w' B yb y y') := fun W hW => ywrite_moved hW ⟨2, i, q, z.t + 1⟩ HO.out HB32.out
  have hqi0 : (0 : Int) ≤ (q : Int) := by omega
  have hqi1 : (q : Int) < y.O.length := by omega
  have hqi2 : (q : Int) < y.G.length := by omega
  have hii0 : (0 : Int) ≤ (i : Int) := by omega
  have hii1 : (i : Int) < y.H.length := by omega
  have hi64 : (i : Int) ≤ 6 := by omega
  clear h hm hF hz hsp hQ ho hov hap hgq hPP hb hs hiH hO
  go_enter Tryz.func76, Tryz.ntmps76
  go_wp2_with (first
    | (go_at_call 72; refine (in_any _ _ _ _).mono ?_; (first | rw [HM.out] | rw [HQ.out]); rintro e w1 ⟨rfl, rfl⟩)
    | (go_at_call 105; refine (stand_any H.out i HF.out.arg HB8.out).mono ?_; rw [HZ.out, HS.out]; rintro e w1 ⟨v1, rfl, hv1, hf1⟩
       obtain ⟨va, vc, rfl, _⟩ := intRow_len hv1
       have F1 : Hid (Fr (fun _ => False) w w1) := hf1
       have V1 : Hid (w1.ownsRow w.heap.size 3 1 (.slice va z.ps.length vc) z.ps.length (intCells z.ps)) := hv1
       clear hv1 hf1)
    | (go_at_call 132; refine (yspeaks_any (by exact H.out.after (F1.out.alloc _)) _ _ _ _ _ _ ep).mono ?_; rw [HSP.out]; rintro e w2 ⟨rfl, hf2⟩
       have k2 : w2.cell? ⟨w1.heap.size, 2, none⟩ = some (.int .i64 0) := Fr.box (S := fun _ => False) hf2 id 2
       have k1 : w2.cell? ⟨w1.heap.size, 1, none⟩ = some (.int .i64 z.t) := Fr.box (S := fun _ => False) hf2 id 1
       have k3 : w2.cell? ⟨w1.heap.size, 3, none⟩ = some (.slice va z.ps.length vc) := Fr.box (S := fun _ => False) hf2 id 3
       have F2 : Hid (Fr (fun _ => False) w w2) := (F1.out.alloc _).trans hf2 (fun _ h => h.elim)
       have V2 : Hid (w2.ownsRow w.heap.size 3 1 (.slice va z.ps.length vc) z.ps.length (intCells z.ps)) := hf2.ownsRow ((nofr _).ownsRow V1.out (fun _ _ => id)) (fun _ _ => id)
       have d13 := (F2.out.cell (p := ⟨yb, 13, none⟩) hlt id).trans c13
       have d0 := (F2.out.cell (p := ⟨og, q, none⟩) hog id).trans k0
       clear hf2)
    | (go_at_call 131; fail))
  refine (HW.out _ (by exact H.out.after F2.out)).mono ?_
  rintro e w3 ⟨ok, y1, rfl, ho1, hmv1⟩
  have R3 : Hid (YMoved w w3 B yb y y1) := hmv1.behind F2.out
  have HO1 : Hid (YOut y ⟨2, i, q, (z.t + 1)⟩ ok y1) := ho1
  clear hmv1
  cases ok
  · clear ho1
    go_wp2_with fail
    go_ret
    exact .broke HO1.out R3.out
  obtain ⟨q1, q2, q3, q4, q5, q6⟩ := ho1.okrest
  have HGQ1 : Hid (y1.G[q]? = some g) := by show y1.G[q]? = some g; rw [q1]; exact HGQ.out
  have HAP1 : Hid (GApart y1.G) := by show GApart y1.G; rw [q1]; exact HAP.out
  have HIH : Hid (i < y1.H.length) := by show i < y1.H.length; rw [q3]; exact HIH0.out
  have HTM : Hid (y1.tm = y.tm) := q5
  clear ho1 q1 q2 q3 q4 q5 q6 c0 c1 c13 d13 d0 k0

  obtain ⟨gg, gcap, hgv, hggl, hgc, g0⟩ := (R3.out).at_.glog HGQ1.out
  have e12 : w3.cell? ⟨yb, 12, none⟩ = some y1.gv := (R3.out).at_.c 12
  rw [hgv] at e12
  have HGM : Hid (g ∈ y1.G) := List.mem_of_getElem? HGQ1.out
  have hGl : (q : Int) < y1.G.length := by have := (List.getElem?_eq_some_iff.1 HGQ1.out).1; omega
  clear hgv
  go_wp2_with (first
    | (go_at_call 134; fail))
  refine (rOpen_step ((R3.out).at_.refs g HGM.out) i (z.t + 1) HBL.out).mono ?_
  rintro e w5 ⟨rfl, u', hl⟩
  have hmv := (R3.out).at_.logDone HAP1.out HGQ1.out hl
  have L5 : Hid (YMoved w w5 B yb y (y1.setG q ⟨g.yb, u', rOpened g.L i (z.t + 1)⟩) ∧ GApart (y1.setG q ⟨g.yb, u', rOpened g.L i (z.t + 1)⟩).G) := ⟨(R3.out).trans hmv.1, hmv.2⟩
  obtain ⟨hg, hcap, hxv, hhv, hhl, hhc, hhy, hhx, hhf⟩ := hmv.1.at_.hrow (p := i) HIH.out
  have HHV : Hid ((y1.setG q ⟨g.yb, u', rOpened g.L i (z.t + 1)⟩).hv = .slice (some ⟨hg, 0, none⟩) (y1.setG q ⟨g.yb, u', rOpened g.L i (z.t + 1)⟩).H.length hcap) := hhv
  have d7 : w5.cell? ⟨yb, 7, none⟩ = some (.int .i64 y1.tm) := hmv.1.at_.c 7
  have d11 : w5.cell? ⟨yb, 11, none⟩ = some (y1.setG q ⟨g.yb, u', rOpened g.L i (z.t + 1)⟩).hv := hmv.1.at_.c 11
  rw [hhv] at d11
  obtain ⟨hlen, hhlen⟩ : ∃ hlen, (y1.setG q ⟨g.yb, u', rOpened g.L i (z.t + 1)⟩).H.length = hlen := ⟨_, rfl⟩
  rw [hhlen] at d11 hhc
  have hi5 : (i : Int) < hlen := by
    have h1 : i < (y1.setG q ⟨g.yb, u', rOpened g.L i (z.t + 1)⟩).H.length := HIH.out
    rw [hhlen] at h1
    omega
  clear hmv hl hhv hhlen
  go_wp2_with fail
  go_region_held3 (fun w' => w'.cell? ⟨yb, 7, none⟩ = some (.int .i64 y1.tm) ∧ w'.cell? ⟨yb, 11, none⟩ = some (.slice (some ⟨hg, 0, none⟩) hlen hcap))
    (first | go_keep | (simp only [cell_set_ne _ _ (Ne.symm hhy), World.cell?_drew]; with_reducible exact ⟨d7, d11⟩))
    (fail)
  go_wp2_with fail
  go_ret
  have hY := L5.out.1.trans (L5.out.1.at_.heardDone HHV.out HIH.out y1.tm)
  refine .ok HO1.out ?_ L5.out.2
  rw [← show y1.tm = y.tm from HTM.out]
  exact hY.after ((Fr.refl _ _).drew)

set_option maxRecDepth 100000 in
set_option maxHeartbeats 1600000 in
theorem yadd_more (h : YAt w B yb y) (hF : y.Fine) (hap : GApart y.G) {i : Nat} (hm : (i : Int) < y.P) {q : Nat} {g : GL} (hgq : y.G[q]? = some g) (ho : y.O[q]? = some false) {ep : Int} (hsp : speaks y.dn (stand y.L i).e ep = 0) (hs : (stand y.L i).s = 1) (hin : (q : Int) ∉ (stand y.L i).ps) (hO : (⟨2, i, q, (stand y.L i).t⟩ : Rc).Ok) (hb : (g.L.length + 1) * 40 ≤ 140737488355328) :
    Calls Tryz.prog 76 #[.pointer (some ⟨yb, 0, none⟩), .int .i64 i, .int .i64 ep, .int .i64 q] w (YAddNew w B yb y i q g (stand y.L i).t) := by
  have H : Hid (YAt w B yb y) := h
  have HF : Hid y.Fine := hF
  have HAP : Hid (GApart y.G) := hap
  have HGQ : Hid (y.G[q]? = some g) := hgq
  have HBL : Hid ((g.L.length + 1) * 40 ≤ 140737488355328) := hb
  have HB8 : Hid ((y.L.length + 1) * 8 ≤ 140737488355328) := by have := hF.lL; show (y.L.length + 1) * 8 ≤ 140737488355328; omega
  have HB32 : Hid ((y.L.length + 1) * 32 ≤ 140737488355328) := by have := hF.lL; show (y.L.length + 1) * 32 ≤ 140737488355328; omega
  have hql := (List.getElem?_eq_some_iff.1 ho).1
  have hgl := (List.getElem?_eq_some_iff.1 hgq).1
  have hQ := h.hQ
  have hPP := h.hP
  have hiH : i < y.H.length := by omega
  have HM : Hid (decide (0 ≤ (i : Int) ∧ (i : Int) ≤ y.P - 1) = true) := decide_eq_true ⟨by omega, by omega⟩
  have HQ : Hid (decide (0 ≤ (q : Int) ∧ (q : Int) ≤ y.Q - 1) = true) := decide_eq_true ⟨by omega, by omega⟩
  have c0 : w.cell? ⟨yb, 0, none⟩ = some (.int .i64 y.P) := h.c 0
  have c1 : w.cell? ⟨yb, 1, none⟩ = some (.int .i64 y.Q) := h.c 1
  have c13 : w.cell? ⟨yb, 13, none⟩ = some y.ov := h.c 13
  obtain ⟨og, ocap, hov, hog, hoc, k0⟩ := h.gout ho
  rw [hov] at c13
  have hp1 := h.hP.2.1
  have hp2 := h.hP.2.2
  have hq1 := h.hQ.2.2.1
  have hq2 := h.hQ.2.2.2
  have hlt := lt_of_block h.blk
  obtain ⟨z, hz⟩ : ∃ z, stand y.L i = z := ⟨_, rfl⟩
  have HZ : Hid (stand y.L i = z) := hz
  rw [hz] at hsp hs hin ⊢
  have HSP : Hid (speaks y.dn z.e ep = 0) := hsp
  have HS : Hid (z.s = 1) := hs
  have HIN : Hid (decide ((q : Int) ∈ z.ps) = false) := decide_eq_false hin
  have HIH0 : Hid (i < y.H.length) := hiH
  rw [hz] at hO
  have HO : Hid (⟨2, i, q, z.t⟩ : Rc).Ok := hO
  have HW : Hid (∀ W, YAt W B yb y → Calls Tryz.prog 131 #[.pointer (some ⟨yb, 0, none⟩), .agg #[.int .i64 2, .int .i64 i, .int .i64 q, .int .i64 z.t]] W fun e w' => ∃ ok y', e = .returned (.bool ok) ∧ YOut y ⟨2, i, q, z.t⟩ ok y' ∧ YMoved W w' B yb y y') := fun W hW => ywrite_moved hW ⟨2, i, q, z.t⟩ HO.out HB32.out
  have hqi0 : (0 : Int) ≤ (q : Int) := by omega
  have hqi1 : (q : Int) < y.O.length := by omega
  have hqi2 : (q : Int) < y.G.length := by omega
  have hii0 : (0 : Int) ≤ (i : Int) := by omega
  have hii1 : (i : Int) < y.H.length := by omega
  have hi64 : (i : Int) ≤ 6 := by omega
  clear h hm hF hz hsp hQ ho hov hap hgq hPP hb hs hin hiH hO
  go_enter Tryz.func76, Tryz.ntmps76
  go_wp2_with (first
    | (go_at_call 72; refine (in_any _ _ _ _).mono ?_; (first | rw [HM.out] | rw [HQ.out]); rintro e w1 ⟨rfl, rfl⟩)
    | (go_at_call 105; refine (stand_any H.out i HF.out.arg HB8.out).mono ?_; rw [HZ.out, HS.out]; rintro e w1 ⟨v1, rfl, hv1, hf1⟩
       obtain ⟨va, vc, rfl, _⟩ := intRow_len hv1
       have F1 : Hid (Fr (fun _ => False) w w1) := hf1
       have V1 : Hid (w1.ownsRow w.heap.size 3 1 (.slice va z.ps.length vc) z.ps.length (intCells z.ps)) := hv1
       clear hv1 hf1)
    | (go_at_call 132; refine (yspeaks_any (by exact H.out.after (F1.out.alloc _)) _ _ _ _ _ _ ep).mono ?_; rw [HSP.out]; rintro e w2 ⟨rfl, hf2⟩
       have k2 : w2.cell? ⟨w1.heap.size, 2, none⟩ = some (.int .i64 1) := Fr.box (S := fun _ => False) hf2 id 2
       have k1 : w2.cell? ⟨w1.heap.size, 1, none⟩ = some (.int .i64 z.t) := Fr.box (S := fun _ => False) hf2 id 1
       have k3 : w2.cell? ⟨w1.heap.size, 3, none⟩ = some (.slice va z.ps.length vc) := Fr.box (S := fun _ => False) hf2 id 3
       have F2 : Hid (Fr (fun _ => False) w w2) := (F1.out.alloc _).trans hf2 (fun _ h => h.elim)
       have V2 : Hid (w2.ownsRow w.heap.size 3 1 (.slice va z.ps.length vc) z.ps.length (intCells z.ps)) := hf2.ownsRow ((nofr _).ownsRow V1.out (fun _ _ => id)) (fun _ _ => id)
       have d13 := (F2.out.cell (p := ⟨yb, 13, none⟩) hlt id).trans c13
       have d0 := (F2.out.cell (p := ⟨og, q, none⟩) hog id).trans k0
       clear hf2)
    | (go_at_call 133; refine (has_any V2.out q).mono ?_; rw [HIN.out]; rintro e w3 ⟨rfl, rfl⟩)
    | (go_at_call 131; fail))
  refine (HW.out _ (by exact H.out.after F2.out)).mono ?_
  rintro e w3 ⟨ok, y1, rfl, ho1, hmv1⟩
  have R3 : Hid (YMoved w w3 B yb y y1) := hmv1.behind F2.out
  have HO1 : Hid (YOut y ⟨2, i, q, z.t⟩ ok y1) := ho1
  clear hmv1
  cases ok
  · clear ho1
    go_wp2_with fail
    go_ret
    exact .broke HO1.out R3.out
  obtain ⟨q1, q2, q3, q4, q5, q6⟩ := ho1.okrest
  have HGQ1 : Hid (y1.G[q]? = some g) := by show y1.G[q]? = some g; rw [q1]; exact HGQ.out
  have HAP1 : Hid (GApart y1.G) := by show GApart y1.G; rw [q1]; exact HAP.out
  have HIH : Hid (i < y1.H.length) := by show i < y1.H.length; rw [q3]; exact HIH0.out
  have HTM : Hid (y1.tm = y.tm) := q5
  clear ho1 q1 q2 q3 q4 q5 q6 c0 c1 c13 d13 d0 k0

  obtain ⟨gg, gcap, hgv, hggl, hgc, g0⟩ := (R3.out).at_.glog HGQ1.out
  have e12 : w3.cell? ⟨yb, 12, none⟩ = some y1.gv := (R3.out).at_.c 12
  rw [hgv] at e12
  have HGM : Hid (g ∈ y1.G) := List.mem_of_getElem? HGQ1.out
  have hGl : (q : Int) < y1.G.length := by have := (List.getElem?_eq_some_iff.1 HGQ1.out).1; omega
  clear hgv
  go_wp2_with (first
    | (go_at_call 134; fail))
  refine (rOpen_step ((R3.out).at_.refs g HGM.out) i z.t HBL.out).mono ?_
  rintro e w5 ⟨rfl, u', hl⟩
  have hmv := (R3.out).at_.logDone HAP1.out HGQ1.out hl
  have L5 : Hid (YMoved w w5 B yb y (y1.setG q ⟨g.yb, u', rOpened g.L i z.t⟩) ∧ GApart (y1.setG q ⟨g.yb, u', rOpened g.L i z.t⟩).G) := ⟨(R3.out).trans hmv.1, hmv.2⟩
  obtain ⟨hg, hcap, hxv, hhv, hhl, hhc, hhy, hhx, hhf⟩ := hmv.1.at_.hrow (p := i) HIH.out
  have HHV : Hid ((y1.setG q ⟨g.yb, u', rOpened g.L i z.t⟩).hv = .slice (some ⟨hg, 0, none⟩) (y1.setG q ⟨g.yb, u', rOpened g.L i z.t⟩).H.length hcap) := hhv
  have d7 : w5.cell? ⟨yb, 7, none⟩ = some (.int .i64 y1.tm) := hmv.1.at_.c 7
  have d11 : w5.cell? ⟨yb, 11, none⟩ = some (y1.setG q ⟨g.yb, u', rOpened g.L i z.t⟩).hv := hmv.1.at_.c 11
  rw [hhv] at d11
  obtain ⟨hlen, hhlen⟩ : ∃ hlen, (y1.setG q ⟨g.yb, u', rOpened g.L i z.t⟩).H.length = hlen := ⟨_, rfl⟩
  rw [hhlen] at d11 hhc
  have hi5 : (i : Int) < hlen := by
    have h1 : i < (y1.setG q ⟨g.yb, u', rOpened g.L i z.t⟩).H.length := HIH.out
    rw [hhlen] at h1
    omega
  clear hmv hl hhv hhlen
  go_wp2_with fail
  go_region_held3 (fun w' => w'.cell? ⟨yb, 7, none⟩ = some (.int .i64 y1.tm) ∧ w'.cell? ⟨yb, 11, none⟩ = some (.slice (some ⟨hg, 0, none⟩) hlen hcap))
    (first | go_keep | (simp only [cell_set_ne _ _ (Ne.symm hhy), World.cell?_drew]; with_reducible exact ⟨d7, d11⟩))
    (fail)
  go_wp2_with fail
  go_ret
  have hY := L5.out.1.trans (L5.out.1.at_.heardDone HHV.out HIH.out y1.tm)
  refine .ok HO1.out ?_ L5.out.2
  rw [← show y1.tm = y.tm from HTM.out]
  exact hY.after ((Fr.refl _ _).drew)
end

end Go.Proofs.YtkelpcjiediamaaGreat

