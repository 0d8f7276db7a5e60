/-
  The program's Produce where a transaction goes on.
-/
import Derived.Test.YtkelpcjiediamaaGreatMProd
import Derived.Test.YtkelpcjiediamaaGreatMAskQ
import Derived.Laws.BytesString
import Derived.Test.YtkelpcjiediamaaGreatMJPut
namespace Go.Proofs.YtkelpcjiediamaaGreat
open Go.RowKit Go.Maps

section
variable {w w' : World} {B xb n : Nat} {h : HS}

set_option maxRecDepth 100000 in
set_option maxHeartbeats 800000 in
theorem produce_apart (hh : HAt w B xb n h) {i q : Nat} (hm : (i : Int) < h.P) (hq : q < h.pl.length) {x : PS} (hx : h.ps[i]? = some x) {ep : Int} (hb : h.bars x ep = 0) (hs : x.s = 1) (hti : x.ties.getD q 0 = 0) {ts : ByteArray} (ht : ts.size ≤ 8) :
    Calls Tryz.prog 77 #[.pointer (some ⟨xb, 0, none⟩), .int .i64 i, .int .i64 ep, .int .i64 q, .string ts] w fun e w' => e = .returned (.int .i64 11) ∧ Fr (fun _ => False) w w' := by
  have HH : Hid (HAt w B xb n h) := hh
  have HX : Hid (h.ps[i]? = some x) := hx
  have HL : Hid (h.lacks i q = 0) := lacks0 hm hq
  have hi6 : i < 6 := by have := hh.hP.2; omega
  have hq4 : q < 4 := by have := hh.hQ; omega
  have HB : Hid (h.bars x ep = 0) := hb
  obtain ⟨⟨e0, e1, e2⟩, ef⟩ := hh.cellP hx
  rw [hs] at e2
  have e3 : w.cell? ⟨xb, 6 + i * 10 + 3 + q, none⟩ = some (.int .i64 (x.ties.getD q 0)) := by rw [Nat.add_assoc]; exact hh.cps hx (3 + q) _ (getD_cs _ hq4)
  rw [hti] at e3
  obtain ⟨p, hp⟩ : ∃ p, h.pl[q]? = some p := ⟨_, List.getElem?_eq_getElem hq⟩
  obtain ⟨g, cap, hpv, hg, hcap, c0, c1⟩ := hh.place hp
  have cV := hh.cV
  rw [hpv] at cV
  have hi1 : (i : Int) < 6 := by omega
  have hi0 : (0 : Int) ≤ (i : Int) := by omega
  have hq0 : (0 : Int) ≤ (q : Int) := by omega
  have hq1 : (q : Int) < h.pl.length := by omega
  have hq14 : (q : Int) < 4 := by omega
  have ht' : ¬ (8 : Int) < (ts.size : Int) := by omega
  have HE2 : Hid (w.cell? ⟨xb, 6 + i * 10 + 2, none⟩ = some (.int .i64 1)) := e2
  clear hh hm hx hb hp hpv hti hs
  go_enter Tryz.func77, Tryz.ntmps77
  go_wp2_with (first
    | (go_at_call 124; refine (find_any HH.out i q).mono ?_; rw [HL.out]; rintro e w1 ⟨rfl, rfl⟩)
    | (go_at_call 65; refine (admit_any HH.out hi6 HX.out ep).mono ?_; rw [HB.out]; rintro e w1 ⟨rfl, rfl⟩))
  go_region
  go_wp2_with (first
    | (go_at_call 66; refine (isEnding_any 1 (by exact HE2.out)).mono ?_; rintro e w1 ⟨rfl, rfl⟩))
  go_ret
  exact ⟨rfl, (Fr.refl _ _).drew⟩

/-- What Produce leaves where the transaction has the part. -/
inductive PutOut (w : World) (B xb n : Nat) (h : HS) (i q : Nat) (x : PS) (p : PL) (ts : ByteArray) : Ending → World → Prop
  | not {w' : World} (ho : ∀ t, p.s.nw i ≠ some (t, true)) (f : Fr (fun _ => False) w w') : PutOut w B xb n h i q x p ts (.returned (.int .i64 11)) w'
  | out {w' : World} {t : Int} (ho : p.s.nw i = some (t, true)) (hp : p.out = true) (f : Fr (fun _ => False) w w') : PutOut w B xb n h i q x p ts (.returned (.int .i64 10)) w'
  | bad {w' : World} {t : Int} {v' : Value} (ho : p.s.nw i = some (t, true)) (hp : p.out = false) (hc : p.s.appendCode i x.t ts ≠ 0) (hm : Moved w w' B xb n h n (h.setL q ⟨p.lb, p.bm, v', p.s.appended i x.t ts, p.out⟩)) (ha : PlApart (h.setL q ⟨p.lb, p.bm, v', p.s.appended i x.t ts, p.out⟩).pl) : PutOut w B xb n h i q x p ts (.returned (.int .i64 (p.s.appendCode i x.t ts))) w'
  | ok {w' : World} {t : Int} {v' : Value} (ho : p.s.nw i = some (t, true)) (hp : p.out = false) (hc : p.s.appendCode i x.t ts = 0) (hm : Moved w w' B xb n h n ((h.setL q ⟨p.lb, p.bm, v', p.s.appended i x.t ts, p.out⟩).setP i { x with si := 0 })) (ha : PlApart (h.setL q ⟨p.lb, p.bm, v', p.s.appended i x.t ts, p.out⟩).pl) : PutOut w B xb n h i q x p ts (.returned (.int .i64 0)) w'

set_option maxRecDepth 100000 in
set_option maxHeartbeats 3200000 in
theorem produce_within (hh : HAt w B xb n h) (hap : PlApart h.pl) {i q : Nat} (hm : (i : Int) < h.P) {p : PL} (hp : h.pl[q]? = some p) {x : PS} (hx : h.ps[i]? = some x) {ep : Int} (hb : h.bars x ep = 0) (hs : x.s = 1) (hti : x.ties.getD q 0 ≠ 0) {ts : ByteArray} (ht : ts.size ≤ 8) (hn : (n + 1) * 8 ≤ 140737488355328) (hes : (p.s.es.length + 1) * 40 ≤ 140737488355328) :
    Calls Tryz.prog 77 #[.pointer (some ⟨xb, 0, none⟩), .int .i64 i, .int .i64 ep, .int .i64 q, .string ts] w (PutOut w B xb n h i q x p ts) := by
  have HH : Hid (HAt w B xb n h) := hh
  have HAP : Hid (PlApart h.pl) := hap
  have HX : Hid (h.ps[i]? = some x) := hx
  have HPL : Hid (h.pl[q]? = some p) := hp
  have hq := (List.getElem?_eq_some_iff.1 hp).1
  have HL : Hid (h.lacks i q = 0) := lacks0 hm hq
  have hi6 : i < 6 := by have := hh.hP.2; omega
  have hq4 : q < 4 := by have := hh.hQ; omega
  have HB : Hid (h.bars x ep = 0) := hb
  have HNN : Hid ((n + 1) * 8 ≤ 140737488355328) := hn
  have HES : Hid ((p.s.es.length + 1) * 40 ≤ 140737488355328) := hes
  have HI : Hid (I64 (i : Int)) := i64_of (by omega) (by omega)
  have HTS : Hid (ts.size ≤ maxLen) := by show ts.size ≤ maxLen; unfold maxLen; omega
  obtain ⟨⟨e0, e1, e2⟩, ef⟩ := hh.cellP hx
  rw [hs] at e2
  have e3 : w.cell? ⟨xb, 6 + i * 10 + 3 + q, none⟩ = some (.int .i64 (x.ties.getD q 0)) := by rw [Nat.add_assoc]; exact hh.cps hx (3 + q) _ (getD_cs _ hq4)
  obtain ⟨tv, htv⟩ : ∃ tv, x.ties.getD q 0 = tv := ⟨_, rfl⟩
  rw [htv] at e3 hti
  have ht0 : (tv == 0) = false := by simpa using hti
  have hpm := List.mem_of_getElem? hp
  have HLG : Hid (LogAt w B p.lb p.bm p.v n p.s) := hh.logs p hpm
  obtain ⟨g, cap, hpv, hg, hcap, c0, c1⟩ := hh.place hp
  have cV := hh.cV
  rw [hpv] at cV
  have HGP : Hid (¬ (g = p.lb ∨ g = p.bm ∨ p.v.ownBlock = some g)) := fun e => by
    have t0 := tag_row hh.places (k := g) (by rw [hpv]; rfl)
    rcases (hh.logs p hpm).tags e with t1 | t1 | t1 <;> rw [t0] at t1 <;> cases t1
  have HXP : Hid (¬ (xb = p.lb ∨ xb = p.bm ∨ p.v.ownBlock = some xb)) := hh.ne_l hpm
  have hxl := lt_of_block hh.blk
  have hi1 : (i : Int) < 6 := by omega
  have hi0 : (0 : Int) ≤ (i : Int) := by omega
  have hq0 : (0 : Int) ≤ (q : Int) := by omega
  have hq1 : (q : Int) < h.pl.length := by omega
  have hq14 : (q : Int) < 4 := by omega
  have ht' : ¬ (8 : Int) < (ts.size : Int) := by omega
  have HE2 : Hid (w.cell? ⟨xb, 6 + i * 10 + 2, none⟩ = some (.int .i64 1)) := e2
  clear hh hm hx hb hp hpv hs hap hn hes hti htv hpm
  go_enter Tryz.func77, Tryz.ntmps77
  go_wp2_with (first
    | (go_at_call 124; refine (find_any HH.out i q).mono ?_; rw [HL.out]; rintro e w1 ⟨rfl, rfl⟩)
    | (go_at_call 65; refine (admit_any HH.out hi6 HX.out ep).mono ?_; rw [HB.out]; rintro e w1 ⟨rfl, rfl⟩))
  go_region
  go_wp2_with (first
    | (go_at_call 66; refine (isEnding_any 1 (by exact HE2.out)).mono ?_; rintro e w1 ⟨rfl, rfl⟩)
    | (go_at_call 60; refine (opened_ask (by exact ((Fr.refl (fun _ => False) w).drew).logAt HLG.out id id (fun _ _ => id)) HNN.out).mono ?_; rintro e w2 ⟨v2, S, rfl, hv2, hf2, hS1, hS2, hS3, hS4⟩
       obtain ⟨va, vc, rfl, _⟩ := intRow_len hv2
       have F2 : Hid (Fr (fun _ => False) w w2) := ((Fr.refl _ _).drew : Fr (fun _ => False) w w.drew).trans hf2 (fun _ h => h.elim)
       have V2 : Hid (w2.ownsRow w.drew.heap.size 3 1 (.slice va S.length vc) S.length (intCells S)) := hv2
       have S4 : Hid ((i : Int) ∈ S ↔ ∃ t, p.s.nw i = some (t, true)) := hS4 i HI.out
       clear hv2 hf2 hS1 hS2 hS3 hS4)
    | (go_at_call 135; fail))
  by_cases hin : (i : Int) ∈ S
  · have HIN : Hid (decide ((i : Int) ∈ S) = true) := decide_eq_true hin
    obtain ⟨t, hto⟩ := S4.out.1 hin
    have HT : Hid (p.s.nw i = some (t, true)) := hto
    have HLG2 : Hid (LogAt w2.drew B p.lb p.bm p.v n p.s) := (F2.out.drew).logAt HLG.out id id (fun _ _ => id)
    have HH2 : Hid (HAt w2.drew B xb n h) := HH.out.after F2.out.drew
    have k0 : w2.cell? ⟨g, q * 2, none⟩ = some (.pointer (some ⟨p.lb, 0, none⟩)) := (F2.out.cell (p := ⟨g, q * 2, none⟩) hg id).trans c0
    have k1 : w2.cell? ⟨g, q * 2 + 1, none⟩ = some (.bool p.out) := (F2.out.cell (p := ⟨g, q * 2 + 1, none⟩) hg id).trans c1
    have kt : w2.cell? ⟨xb, 6 + i * 10 + 1, none⟩ = some (.int .i64 x.t) := (F2.out.cell (p := ⟨xb, 6 + i * 10 + 1, none⟩) hxl id).trans e1
    have hg2 : g < w2.heap.size := Nat.lt_of_lt_of_le hg F2.out.size
    have hxl2 : xb < w2.heap.size := Nat.lt_of_lt_of_le hxl F2.out.size
    refine (contains_any V2.out i).mono ?_
    rw [HIN.out]
    rintro e w3 ⟨rfl, rfl⟩
    clear hin hto
    by_cases hout : p.out = true
    · rw [hout] at k1
      have HOUT : Hid (p.out = true) := hout
      clear hout
      go_wp2_with fail
      go_ret
      exact .out HT.out HOUT.out F2.out
    · have HOUT : Hid (p.out = false) := by show p.out = false; simpa using hout
      rw [show p.out = false from HOUT.out] at k1
      clear hout
      go_wp2_with fail
      go_region_held3 (fun w' => w'.cell? ⟨g, q * 2, none⟩ = some (.pointer (some ⟨p.lb, 0, none⟩)) ∧ w'.cell? ⟨xb, 6 + i * 10 + 1, none⟩ = some (.int .i64 x.t))
        (first | with_reducible exact C4 | exact ⟨k0, kt⟩ | go_keep)
        ((go_at_call 136; refine (append_any (w := w2.drew) HLG2.out i x.t ts HI.out HTS.out HES.out).mono ?_; rintro e w4 ⟨rfl, v', hl⟩
          have hmv := HH2.out.logDone HAP.out HPL.out (Nat.le_refl n) hl
          have L4 : Hid (Moved w w4 B xb n h n (h.setL q ⟨p.lb, p.bm, v', p.s.appended i x.t ts, p.out⟩) ∧ PlApart (h.setL q ⟨p.lb, p.bm, v', p.s.appended i x.t ts, p.out⟩).pl) := ⟨hmv.1.behind F2.out.drew, hmv.2⟩
          have C4 : w4.cell? ⟨g, q * 2, none⟩ = some (.pointer (some ⟨p.lb, 0, none⟩)) ∧ w4.cell? ⟨xb, 6 + i * 10 + 1, none⟩ = some (.int .i64 x.t) := ⟨(hl.fr.cell (p := ⟨g, q * 2, none⟩) hg2 HGP.out).trans k0, (hl.fr.cell (p := ⟨xb, 6 + i * 10 + 1, none⟩) hxl2 HXP.out).trans kt⟩
          have d7 : w4.cell? ⟨xb, 6 + i * 10 + 7, none⟩ = some (.int .i64 x.si) := L4.out.1.at_.cps (p := x) HX.out 7 _ rfl
          have df : ∀ o, w4.frozen? ⟨xb, o, none⟩ = false := frozen_of_cells L4.out.1.at_.blk
          clear hl hmv))
      by_cases hc : p.s.appendCode i x.t ts = 0
      · have HC : Hid (p.s.appendCode i x.t ts = 0) := hc
        rw [hc]
        clear hc
        go_wp2_with fail
        go_ret
        have hx3 : (h.setL q ⟨p.lb, p.bm, v', p.s.appended i x.t ts, p.out⟩).ps[i]? = some x := HX.out
        exact .ok HT.out HOUT.out HC.out (L4.out.1.trans (L4.out.1.at_.quiet hx3)) L4.out.2
      · have HC : Hid (p.s.appendCode i x.t ts ≠ 0) := hc
        have hc' : (p.s.appendCode i x.t ts == 0) = false := by simpa using hc
        clear hc
        go_wp2_with fail
        go_ret
        exact .bad HT.out HOUT.out HC.out L4.out.1 L4.out.2
  · have HIN : Hid (decide ((i : Int) ∈ S) = false) := decide_eq_false hin
    have HT : Hid (∀ t, p.s.nw i ≠ some (t, true)) := fun t ht => hin (S4.out.2 ⟨t, ht⟩)
    refine (contains_any V2.out i).mono ?_
    rw [HIN.out]
    rintro e w3 ⟨rfl, rfl⟩
    clear hin
    go_wp2_with fail
    go_ret
    exact .not HT.out F2.out
end

end Go.Proofs.YtkelpcjiediamaaGreat

/-
  The program's Break, Out, Journal.
-/
namespace Go.Proofs.YtkelpcjiediamaaGreat
open Go.RowKit Go.Maps

section
variable {w w' : World} {B xb n : Nat} {h : HS}

def clamp (k : Int) : Int := min (max k 0) 16
def HS.breaks (h : HS) (k : Int) : HS := { h with br := true, kp := clamp k }

theorem HS.set_break {h : HS} (h6 : h.ps.length = 6) (k : Int) : (h.cells.toArray.setIfInBounds 66 (.bool true)).setIfInBounds 67 (.int .i64 (clamp k)) = (h.breaks k).cells.toArray := by
  obtain ⟨P, Q, T, K, jv, jb, up, ps, br, kp, pv, pl, fv, fl⟩ := h
  obtain ⟨⟨e0, t0, s0, a0, b0, c0, d0, x0, y0, z0⟩, ⟨e1, t1, s1, a1, b1, c1, d1, x1, y1, z1⟩, ⟨e2, t2, s2, a2, b2, c2, d2, x2, y2, z2⟩, ⟨e3, t3, s3, a3, b3, c3, d3, x3, y3, z3⟩, ⟨e4, t4, s4, a4, b4, c4, d4, x4, y4, z4⟩, ⟨e5, t5, s5, a5, b5, c5, d5, x5, y5, z5⟩, rfl⟩ := six h6
  kernel_rfl

set_option maxRecDepth 100000 in
theorem break_down (hh : HAt w B xb n h) (hu : h.up = false) (k : Int) :
    Calls Tryz.prog 27 #[.pointer (some ⟨xb, 0, none⟩), .int .i64 k] w fun r w' => r = .returned (.int .i64 5) ∧ w = w' := by
  have c5 := hh.cU
  rw [hu] at c5
  clear hh
  go_enter Tryz.func27, Tryz.ntmps27
  go_wp2
  go_ret
  exact ⟨rfl, rfl⟩

set_option maxRecDepth 100000 in
theorem break_up (hh : HAt w B xb n h) (hu : h.up = true) (k : Int) :
    Calls Tryz.prog 27 #[.pointer (some ⟨xb, 0, none⟩), .int .i64 k] w fun r w' => r = .returned (.int .i64 0) ∧ Moved w w' B xb n h n (h.breaks k) := by
  have HH : Hid (HAt w B xb n h) := hh
  have c5 := hh.cU
  rw [hu] at c5
  have c66 := hh.cB
  have c67 := hh.cK
  have hf : ∀ o, w.frozen? ⟨xb, o, none⟩ = false := frozen_of_cells hh.blk
  have key : ∀ {W : World}, W = (w.setCell ⟨xb, 66, none⟩ (.bool true)).setCell ⟨xb, 67, none⟩ (.int .i64 (clamp k)) → Moved w W B xb n h n (h.breaks k) := fun {W} e => by
    have fr : Fr (fun k => k = xb) w W := by rw [e]; exact ((Fr.refl (fun k => k = xb) w).setCell (p := ⟨xb, 66, none⟩) (.inl rfl) _).setCell (p := ⟨xb, 67, none⟩) (.inl rfl) _
    refine Moved.own fr (HH.out.put fr ?_ rfl rfl rfl rfl rfl rfl rfl rfl HH.out.h6) (fun k hk => hk)
    rw [e, setCell_cells (setCell_cells HH.out.blk 66 _) 67 _, HS.set_break HH.out.h6]
  have HK : Hid (∀ {W : World}, W = (w.setCell ⟨xb, 66, none⟩ (.bool true)).setCell ⟨xb, 67, none⟩ (.int .i64 (clamp k)) → Moved w W B xb n h n (h.breaks k)) := key
  clear hh key
  go_enter Tryz.func27, Tryz.ntmps27
  go_wp2
  go_ret
  exact ⟨rfl, HK.out rfl⟩
end

end Go.Proofs.YtkelpcjiediamaaGreat

/-
  The program's journal: the records that it begins with.
-/
namespace Go.Proofs.YtkelpcjiediamaaGreat
open Go.RowKit Go.Maps

theorem info184 : (Tryz.prog.info? 184).map (fun i => (i.zero, i.size, i.bytes)) = some (some (.agg #[.int .i64 0, .int .i64 0, .int .i64 0, .int .i64 0]), 4, 32) := by kernel_rfl

theorem lt_of_cell {w : World} {b o : Nat} {v : Value} (h : w.cell? ⟨b, o, none⟩ = some v) : b < w.heap.size := by
  rcases Nat.lt_or_ge b w.heap.size with h1 | h1
  · exact h1
  · simp [World.cell?, Array.getElem?_eq_none h1] at h

theorem grown_cell {W w3 : World} {ob : Obj} {row : Option Nat} (h : (W.drew.alloc ob).grownBy w3 row) {g o : Nat} (hg : g < W.heap.size) (hne : some g ≠ row) : w3.cell? ⟨g, o, none⟩ = W.cell? ⟨g, o, none⟩ := by
  have h1 : w3.heap[g]? = (W.drew.alloc ob).heap[g]? := h.block g (by simp; omega) hne
  have h2 : (W.drew.alloc ob).heap[g]? = W.heap[g]? := Below.heap_alloc W.drew ob g hg
  exact World.cell?_of_block (h1.trans h2)

theorem rbytes_head {r : Rc} {n : Nat} (h : r.Small n) : ∃ t, rbytes r = UInt8.ofNat r.k.toNat :: UInt8.ofNat r.p.toNat :: UInt8.ofNat r.a.toNat :: t := by
  obtain ⟨k0, k1, p0, p1, a0, a1, m0, m1⟩ := h
  refine ⟨wbytes 0 1 ++ wbytes r.m.toNat 8 ++ wbytes ((adler (rhead r)).2 * 65536 + (adler (rhead r)).1).toNat 4, ?_⟩
  unfold rbytes
  conv => lhs; arg 1; unfold rhead
  rw [byte_one (by omega) (by omega), byte_one (by omega) (by omega), byte_one (by omega) (by omega)]
  simp only [List.append_assoc, List.cons_append, List.nil_append]

theorem rbytes_num {r : Rc} {n : Nat} (h : r.Small n) (hn : n < 1000000000000) (rest : List UInt8) : numOf (((rbytes r ++ rest).drop 4).take 8) = r.m.toNat := by
  have e : ((rbytes r ++ rest).drop 4).take 8 = wbytes r.m.toNat 8 := by
    unfold rbytes rhead
    obtain ⟨k0, k1, p0, p1, a0, a1, m0, m1⟩ := h
    rw [byte_one (by omega) (by omega), byte_one (by omega) (by omega), byte_one (by omega) (by omega)]
    simp only [List.cons_append, List.nil_append, List.drop_succ_cons, List.drop_zero, wbytes]
    rw [show ∀ (a b c d e f g h : UInt8) (t : List UInt8), List.take 8 (a :: b :: c :: d :: e :: f :: g :: h :: t) = [a, b, c, d, e, f, g, h] from fun _ _ _ _ _ _ _ _ _ => rfl]
  rw [e]
  have := h.m1
  have := h.m0
  exact numOf_wbytes_of_lt (by omega)

theorem rbytes_whole (r : Rc) (rest : List UInt8) : wholeB (rbytes r ++ rest) = true := by
  have h1 : (rbytes r ++ rest).take 12 = rhead r := by
    unfold rbytes
    rw [List.append_assoc, List.take_left' (rhead_len r)]
  have h2 : ((rbytes r ++ rest).drop 12).take 4 = wbytes (asum (rhead r)).toNat 4 := by
    unfold rbytes
    rw [List.append_assoc, List.drop_left' (rhead_len r), List.take_left' (wbytes_len _ _)]
    rfl
  unfold wholeB
  rw [h1, h2]
  have hin := adler_in (rhead r)
  have as0 : 0 ≤ asum (rhead r) := by unfold asum; omega
  have as1 : asum (rhead r) < 4294967296 := by unfold asum; omega
  rw [numOf_wbytes_of_lt (by omega)]
  simp only [decide_eq_true_eq]
  omega

theorem flat_len (L : List Rc) : (L.flatMap rbytes).length = 16 * L.length := by
  induction L with
  | nil => rfl
  | cons r L ih => simp only [List.flatMap_cons, List.length_append, ih, rbytes_len, List.length_cons]; omega

set_option maxRecDepth 100000 in
set_option maxHeartbeats 3200000 in
theorem whole_any {w : World} {B : Nat} {v : Value} {L : List Rc} {tl : List UInt8} (h : w.ownsRow B 5 1 v (L.flatMap rbytes ++ tl).length (bcs (L.flatMap rbytes ++ tl))) (ht : tl.length < 16) {n : Nat} (hs : ∀ r ∈ L, r.Small n) (hn : n < 1000000000000) (hL : L.length < 100000000000) :
    Calls Tryz.prog 127 #[v] w fun e w' => ∃ v', e = .returned v' ∧ w'.ownsRow w.heap.size 184 4 v' L.length (L.flatMap Rc.cs) ∧ Fr (fun _ => False) w w' := by
  obtain ⟨i0, hi0, hz0, hz1, hz2⟩ := info_parts info184
  obtain ⟨va, vc, hv, _⟩ := anyRow_len h
  have hlen : (L.flatMap rbytes ++ tl).length = 16 * L.length + tl.length := by rw [List.length_append, flat_len]
  obtain ⟨tot, htot⟩ : ∃ tot, 16 * L.length + tl.length = tot := ⟨_, rfl⟩
  have HS : Hid (∀ r ∈ L, r.Small n) := hs
  have hmem : 0 < tot → ∃ g, va = some ⟨g, 0, none⟩ ∧ tot ≤ vc ∧ Bts w g 0 (L.flatMap rbytes ++ tl) := fun h0 => by
    obtain ⟨g, cap, hg, hcap⟩ := row_some h (by omega)
    rw [hv] at hg
    simp only [Value.slice.injEq] at hg
    obtain ⟨rfl, _, rfl⟩ := hg
    rw [hv] at h
    exact ⟨g, rfl, by omega, Bts.of_row h⟩
  have HM : Hid (0 < tot → ∃ g, va = some ⟨g, 0, none⟩ ∧ tot ≤ vc ∧ Bts w g 0 (L.flatMap rbytes ++ tl)) := hmem
  rw [hlen, htot] at hv
  subst hv
  clear h hmem hlen hs
  go_enter Tryz.func127, Tryz.ntmps127
  go_wp2_with fail
  go_loopw [0, 3] (fun b rv w' => ∃ (j : Nat) (a : Option Addr) (c : Nat), j ≤ L.length ∧ b = .slice a (tot - 16 * j) c ∧ (0 < tot - 16 * j → ∃ g, a = some ⟨g, 16 * j, none⟩ ∧ g < w.heap.size ∧ tot - 16 * j ≤ c ∧ Bts w' g (16 * j) ((L.drop j).flatMap rbytes ++ tl)) ∧ w'.ownsRow w.heap.size 184 4 rv j ((L.take j).flatMap Rc.cs) ∧ Fr (fun _ => False) w w') (fun b _ _ => sliceLen b)
  case atStart =>
    refine ⟨0, va, vc, by omega, rfl, fun h0 => ?_, World.ownsRow_nil _ _ _ _, Fr.refl _ _⟩
    obtain ⟨g, h1, h2, h3⟩ := HM.out h0
    obtain ⟨x, hx⟩ : ∃ x, (L.flatMap rbytes ++ tl)[0]? = some x := ⟨_, List.getElem?_eq_getElem (by rw [List.length_append, flat_len]; omega)⟩
    exact ⟨g, h1, lt_of_cell (h3 0 x hx), by omega, by simpa using h3⟩
  case round =>
    obtain ⟨j, a, c, hj, rfl, hB, hrow, hfr⟩ := hrel
    have HF : Hid (Fr (fun _ => False) w wr) := hfr
    obtain ⟨ra, rc, rfl, _⟩ := anyRow_len hrow
    have HR : Hid (wr.ownsRow w.heap.size 184 4 (.slice ra j rc) j ((L.take j).flatMap Rc.cs)) := hrow
    by_cases hlt : j < L.length
    · obtain ⟨r, hr⟩ : ∃ r, L[j]? = some r := ⟨_, List.getElem?_eq_getElem hlt⟩
      have hsm := HS.out r (List.mem_of_getElem? hr)
      have hd : L.drop j = r :: L.drop (j + 1) := by
        rw [List.drop_eq_getElem_cons hlt]
        congr 1
        rw [List.getElem?_eq_getElem hlt] at hr
        exact Option.some.inj hr
      obtain ⟨g, rfl, hgw, hc, hbt⟩ := hB (by omega)
      rw [hd, List.flatMap_cons, List.append_assoc] at hbt
      obtain ⟨rest, hrest⟩ : ∃ rest, (L.drop (j + 1)).flatMap rbytes ++ tl = rest := ⟨_, rfl⟩
      rw [hrest] at hbt
      have HBT : Hid (Bts wr g (16 * j) (rbytes r ++ rest)) := hbt
      have hll : (rbytes r ++ rest).length = tot - 16 * j := by
        rw [List.length_append, rbytes_len, ← hrest, List.length_append, flat_len, List.length_drop]
        omega
      have hrl : rest.length + 16 = tot - 16 * j := by rw [← hll, List.length_append, rbytes_len]; omega
      have HWH : Hid (wholeB (rbytes r ++ rest) = true) := rbytes_whole r rest
      have HC1 : Hid (Calls Tryz.prog 177 #[.slice (some ⟨g, 16 * j, none⟩) (tot - 16 * j) c] wr fun e w' => e = .returned (.bool true) ∧ Fr (fun _ => False) wr w') := by
        have := isWhole_any hbt (by rw [hll]; omega) (by rw [hll]; exact hc)
        rw [HWH.out, hll] at this
        exact this
      obtain ⟨t, hhead⟩ := rbytes_head hsm
      rw [hhead] at hbt
      have b0 := hbt 0 _ rfl
      rw [Nat.add_zero] at b0
      have b1 := hbt 1 _ rfl
      have b2 := hbt 2 _ rfl
      rw [toNat_one (by have := hsm.k0; omega) (by have := hsm.k1; omega)] at b0
      rw [toNat_one (by have := hsm.p0; omega) (by have := hsm.p1; omega)] at b1
      rw [toNat_one (by have := hsm.a0; omega) (by have := hsm.a1; omega)] at b2
      have HRN : Hid (r.m = (r.m.toNat : Int)) := by show r.m = (r.m.toNat : Int); have := hsm.m0; omega
      have HNUM : Hid (Bts wr g (16 * j + 4) (((rbytes r ++ rest).drop 4).take 8)) := HBT.out.sub 4 8
      have HNL : Hid ((((rbytes r ++ rest).drop 4).take 8).length = 8) := by show (((rbytes r ++ rest).drop 4).take 8).length = 8; simp [rbytes_len]; omega
      have HNV : Hid (numOf (((rbytes r ++ rest).drop 4).take 8) = r.m.toNat) := rbytes_num hsm hn rest
      have qk : IntKind.i64.wrap r.k = r.k := wrap_i64 (by have := hsm.k0; omega) (by have := hsm.k1; omega)
      have qp : IntKind.i64.wrap r.p = r.p := wrap_i64 (by have := hsm.p0; omega) (by have := hsm.p1; omega)
      have qa : IntKind.i64.wrap r.a = r.a := wrap_i64 (by have := hsm.a0; omega) (by have := hsm.a1; omega)
      have qm : IntKind.i64.wrap r.m = r.m := wrap_i64 (by have := hsm.m0; omega) (by have := hsm.m1; omega)
      have HC2 : Hid (∀ W, Fr (fun _ => False) wr W → ∀ cc, Calls Tryz.prog 178 #[.slice (some ⟨g, 16 * j + 4, none⟩) 8 cc] W fun e w' => e = .returned (.int .u64 r.m) ∧ W = w') := fun W f cc => by
        have := number_any (w := W) (cap := cc) (fun q x hq => (f.cell (p := ⟨g, 16 * j + 4 + q, none⟩) ?_ id).trans (HNUM.out q x hq)) (by rw [HNL.out]; decide)
        · rw [HNL.out, HNV.out, ← HRN.out] at this
          exact this
        · exact lt_of_cell (HNUM.out q x hq)
      have HTK : Hid ((L.take (j + 1)).flatMap Rc.cs = (L.take j).flatMap Rc.cs ++ [.int .i64 r.k, .int .i64 r.p, .int .i64 r.a, .int .i64 r.m]) := by
        show (L.take (j + 1)).flatMap Rc.cs = _
        rw [List.take_add_one, hr, Option.toList_some, List.flatMap_append]
        simp [Rc.cs]
      have hcap : (16 : Int) ≤ (c : Int) := by omega
      have hcap2 : (12 : Int) ≤ (c : Int) := by omega
      have hcap3 : ¬ c = 4 := by omega
      obtain ⟨nn, hnn⟩ : ∃ nn, tot - 16 * j = nn := ⟨_, rfl⟩
      have HNN : Hid (tot - 16 * j = nn) := hnn
      rw [hnn] at HC1 hc hrl ⊢
      have hn0 : 0 < nn := by omega
      have hn0' : (0 : Int) < nn := by omega
      have hn1 : (1 : Int) < nn := by omega
      have hn2 : (2 : Int) < nn := by omega
      have hn16 : (16 : Int) ≤ nn := by omega
      clear hbt hB hfr hrow hd hhead hll HNUM HNL HNV HWH hnn
      go_wp2_with (go_at_call 177; (with_reducible refine HC1.out.mono ?_); rintro e w1 ⟨rfl, hf1⟩; have F1 : Hid (Fr (fun _ => False) wr w1) := hf1; have hg1 : g < w1.heap.size := Nat.lt_of_lt_of_le (lt_of_cell b0) hf1.size; have hgne : ∀ o, some (Addr.block ⟨g, o, none⟩) ≠ Value.ownBlock (.slice ra j rc) := fun o e => by { have := (HR.out.lt g e.symm).1; omega }; have hgr : g < wr.heap.size := lt_of_cell b0; have hz : w.heap.size ≤ w1.heap.size := Nat.le_trans HF.out.size hf1.size; have d0 := (hf1.cell (p := ⟨g, 16 * j, none⟩) hgr id).trans b0; have d1 := (hf1.cell (p := ⟨g, 16 * j + 1, none⟩) hgr id).trans b1; have d2 := (hf1.cell (p := ⟨g, 16 * j + 2, none⟩) hgr id).trans b2; clear hf1 b0 b1 b2)
      have HQ : Hid (∀ w3, (w1.drew.alloc (.cells #[.int .i64 r.k, .int .i64 r.p, .int .i64 r.a, .int .i64 r.m] 184)).grownBy w3 (Value.ownBlock (.slice ra j rc)) → w3.cell? ⟨g, 16 * j, none⟩ = some (.int .u8 r.k) ∧ w3.cell? ⟨g, 16 * j + 1, none⟩ = some (.int .u8 r.p) ∧ w3.cell? ⟨g, 16 * j + 2, none⟩ = some (.int .u8 r.a)) := fun w3 hg =>
        ⟨(grown_cell hg hg1 (hgne 0)).trans d0, (grown_cell hg hg1 (hgne 0)).trans d1, (grown_cell hg hg1 (hgne 0)).trans d2⟩
      go_region_held3 (fun w' => w'.cell? ⟨g, 16 * j, none⟩ = some (.int .u8 r.k) ∧ w'.cell? ⟨g, 16 * j + 1, none⟩ = some (.int .u8 r.p) ∧ w'.cell? ⟨g, 16 * j + 2, none⟩ = some (.int .u8 r.a))
        (first | with_reducible exact ⟨d0, d1, d2⟩ | with_reducible exact Q | go_keep)
        (first
          | (go_at_call 178; refine (HC2.out w1.drew F1.out.drew _).mono ?_; rintro e w2 ⟨rfl, rfl⟩)
          | (refine step_append_lies _ (by rfl) _ _ _ (by rfl) w.heap.size 184 i0 _ 4 32 Tryz.underlying190 hi0 hz0 hz1 hz2 rfl (by omega) (.slice ra j rc) j ((L.take j).flatMap Rc.cs) (by rfl) ((F1.out.drew.alloc _).ownsRow HR.out (fun _ _ => id)) ⟨w1.heap.size, 0, none⟩ 1 1 [.int .i64 r.k, .int .i64 r.p, .int .i64 r.a, .int .i64 r.m] (by rfl) (by rfl) (World.news_of_block (cs := #[.int .i64 r.k, .int .i64 r.p, .int .i64 r.a, .int .i64 r.m]) (t := 184) (fr := (0, 0)) (heap_alloc_new _ _)) (by simp [Value.oneCell']) (by omega) (by simp only [maxLen]; omega) (by omega) (by simp; omega) (w1.heap.size + 1) (by simp) ?_; intro gg cap w3 hown hgrow hat hlt3; have Q := HQ.out w3 hgrow))
      go_wp2_with fail
      go_roundw
      case rel =>
        have hnn := HNN.out
        have hf3 : Fr (fun x => Value.ownBlock (.slice ra j rc) = some x) wr w3 := ((F1.out.drew.alloc _).mono (fun _ h => h.elim) : Fr (fun x => Value.ownBlock (.slice ra j rc) = some x) wr _).grown hgrow (fun x ex => .inl ex)
        refine ⟨j + 1, _, _, by omega, by rw [show tot - 16 * (j + 1) = nn - 16 by omega], fun h0 => ⟨g, ?_, hgw, by omega, fun q x hq => ?_⟩, ?_, HF.out.trans hf3 (fun x hx => .inr (HR.out.lt x hx).1)⟩
        · rw [if_neg (by omega)]
          rfl
        · rw [hrest] at hq
          have h1 := HBT.out (16 + q) x (by rw [List.getElem?_append_right (by rw [rbytes_len]; omega), rbytes_len, Nat.add_sub_cancel_left]; exact hq)
          rw [show 16 * (j + 1) + q = 16 * j + (16 + q) by omega]
          exact (World.cell?_of_block (hf3.block g (lt_of_cell h1) (fun e => hgne 0 e.symm))).trans h1
        · rw [HTK.out]
          exact hown
      case measure => simp [sliceLen]; omega
    · have HJ : Hid (j = L.length) := by show j = L.length; omega
      obtain ⟨nn, hnq⟩ : ∃ nn, tot - 16 * j = nn := ⟨_, rfl⟩
      have hnn : nn < 16 := by omega
      rw [hnq]
      have HT : Hid (L.take j = L) := List.take_of_length_le (by omega)
      have HC1 : Hid (Calls Tryz.prog 177 #[.slice a nn c] wr fun e w' => e = .returned (.bool false) ∧ Fr (fun _ => False) wr w') := isWhole_short wr a hnn
      clear hB hfr hrow hnq hlt
      go_wp2_with (go_at_call 177; (with_reducible refine HC1.out.mono ?_); rintro e w1 ⟨rfl, hf1⟩; have F1 : Hid (Fr (fun _ => False) wr w1) := hf1; clear hf1)
      go_ret
      refine ⟨_, rfl, ?_, HF.out.trans F1.out (fun _ h => h.elim)⟩
      have := F1.out.ownsRow HR.out (fun _ _ => id)
      rw [HT.out] at this
      rw [← HJ.out]
      exact this

end Go.Proofs.YtkelpcjiediamaaGreat
