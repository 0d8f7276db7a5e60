/-
  The program's herald in memory.
-/
import Derived.Test.YtkelpcjiediamaaGreatAsk
import Derived.Deep.MidRow
import Derived.Laws.ResultCell
namespace Go.Proofs.YtkelpcjiediamaaGreat
open Go.RowKit Go.Maps

/-- What the keeper knows of a producer. -/
structure PS where
  e : Int
  t : Int
  s : Int
  a : Int
  b : Int
  c : Int
  d : Int
  si : Int
  wa : Int
  ga : Int

def PS.cs (p : PS) : List Value := [.int .i64 p.e, .int .i64 p.t, .int .i64 p.s, .int .i64 p.a, .int .i64 p.b, .int .i64 p.c, .int .i64 p.d, .int .i64 p.si, .int .i64 p.wa, .int .i64 p.ga]

/-- A message. -/
structure Ms where
  k : Int
  q : Int
  p : Int
  t : Int
  c : Bool
def Ms.cs (r : Ms) : List Value := [.int .i64 r.k, .int .i64 r.q, .int .i64 r.p, .int .i64 r.t, .bool r.c]

/-- A part: its log, and whether it is out. -/
structure PL where
  lb : Nat
  bm : Nat
  v : Value
  s : LogS
  out : Bool

def PL.cs (p : PL) : List Value := [ptr p.lb, .bool p.out]
def plCells (l : List PL) : List Value := l.flatMap PL.cs

/-- What a herald knows. -/
structure HS where
  P : Int
  Q : Int
  T : Int
  K : Int
  jv : Value
  jb : List Value
  up : Bool
  ps : List PS
  br : Bool
  kp : Int
  pv : Value
  pl : List PL
  fv : Value
  fl : List Ms

def HS.cells (h : HS) : List Value :=
  [.int .i64 h.P, .int .i64 h.Q, .int .i64 h.T, .int .i64 h.K, h.jv, .bool h.up] ++ (h.ps.flatMap PS.cs ++ [.bool h.br, .int .i64 h.kp, h.pv, h.fv])

def zps : PS := ⟨0, 0, 0, 0, 0, 0, 0, 0, 0, 0⟩
def zps6 : List PS := [zps, zps, zps, zps, zps, zps]

structure HAt (w : World) (B xb n : Nat) (h : HS) : Prop where
  blk : w.heap[xb]? = some (.cells h.cells.toArray 111 (0, 0))
  jour : w.ownsRow B 5 1 h.jv h.jb.length h.jb
  places : w.ownsRow B 98 2 h.pv h.pl.length (plCells h.pl)
  flight : w.ownsRow B 119 5 h.fv h.fl.length (h.fl.flatMap Ms.cs)
  logs : ∀ p ∈ h.pl, LogAt w B p.lb p.bm p.v n p.s
  hx : B ≤ xb
  hP : 1 ≤ h.P ∧ h.P ≤ 6
  hQ : h.Q = h.pl.length ∧ 1 ≤ h.Q ∧ h.Q ≤ 4
  h6 : h.ps.length = 6

theorem six {α : Type} {l : List α} (h : l.length = 6) : ∃ a b c d e f, l = [a, b, c, d, e, f] := by
  match l, h with
  | [a, b, c, d, e, f], _ => exact ⟨a, b, c, d, e, f, rfl⟩

def setArr (cs : Array Value) (o : Nat) : List Value → Array Value
  | [] => cs
  | v :: r => setArr (cs.setIfInBounds o v) (o + 1) r

theorem setCells_block {b : Nat} {t : TypeId} {fr : Nat × Nat} : ∀ (vs : List Value) (o : Nat) {w : World} {cs : Array Value}, w.heap[b]? = some (.cells cs t fr) → (w.setCells b o vs).heap[b]? = some (.cells (setArr cs o vs) t fr)
  | [], _, _, _, h => h
  | v :: r, o, _, _, h => by
    rw [World.setCells]
    exact setCells_block r (o + 1) (setCell_cells h o v)

theorem Fr.setCells {S : Nat → Prop} {a : World} {b : Nat} (hb : S b ∨ a.heap.size ≤ b) : ∀ (vs : List Value) (o : Nat) {w : World}, Fr S a w → Fr S a (w.setCells b o vs)
  | [], _, _, h => h
  | v :: r, o, _, h => by
    rw [World.setCells]
    exact Fr.setCells hb r (o + 1) (h.setCell (p := ⟨b, o, none⟩) hb v)

theorem there_of_block {w : World} {b : Nat} {cs : Array Value} {t : TypeId} (h : w.heap[b]? = some (.cells cs t (0, 0))) {o n : Nat} (hn : o + n ≤ cs.size) : w.there b o n := fun j hj => by
  refine ⟨?_, frozen_of_cells h _⟩
  rw [cell_of_cells h, Array.getElem?_eq_getElem (by omega)]
  rfl

theorem info105 : (Tryz.prog.info? 105).map (·.size) = some 64 := by kernel_rfl

def HS.fallen (h : HS) : HS := { h with up := false, ps := zps6, br := false, kp := 0 }

/-- The keeper's cells when it has its journal alone. -/
def kCells (jv : Value) : List Value := [jv, .bool false] ++ (zps6.flatMap PS.cs ++ [.bool false, .int .i64 0])

theorem psCells_len (l : List PS) : (l.flatMap PS.cs).length = l.length * 10 := by
  induction l with
  | nil => rfl
  | cons a r ih => simp [List.flatMap_cons, ih, PS.cs]; omega

theorem HS.size {h : HS} (h6 : h.ps.length = 6) : h.cells.toArray.size = 70 := by
  simp only [HS.cells, List.size_toArray, List.length_append, psCells_len, h6, List.length_cons, List.length_nil]

theorem HS.fall_cells {h : HS} (h6 : h.ps.length = 6) : setArr h.cells.toArray 4 (kCells h.jv) = h.fallen.cells.toArray := by
  obtain ⟨P, Q, T, K, jv, jb, up, ps, br, kp, pv, pl, fv, fl⟩ := h
  obtain ⟨⟨e0, t0, s0, a0, b0, c0, d0, x0, y0, z0⟩, ⟨e1, t1, s1, a1, b1, c1, d1, x1, y1, z1⟩, ⟨e2, t2, s2, a2, b2, c2, d2, x2, y2, z2⟩, ⟨e3, t3, s3, a3, b3, c3, d3, x3, y3, z3⟩, ⟨e4, t4, s4, a4, b4, c4, d4, x4, y4, z4⟩, ⟨e5, t5, s5, a5, b5, c5, d5, x5, y5, z5⟩, rfl⟩ := six h6
  kernel_rfl

theorem HAt.ne_j {w : World} {B xb n : Nat} {h : HS} (hh : HAt w B xb n h) : h.jv.ownBlock ≠ some xb := fun e => by
  have h1 := tag_row hh.jour e
  rw [tag_cells hh.blk] at h1
  cases h1

theorem HAt.ne_p {w : World} {B xb n : Nat} {h : HS} (hh : HAt w B xb n h) : h.pv.ownBlock ≠ some xb := fun e => by
  have h1 := tag_row hh.places e
  rw [tag_cells hh.blk] at h1
  cases h1

theorem HAt.ne_f {w : World} {B xb n : Nat} {h : HS} (hh : HAt w B xb n h) : h.fv.ownBlock ≠ some xb := fun e => by
  have h1 := tag_row hh.flight e
  rw [tag_cells hh.blk] at h1
  cases h1

theorem HAt.ne_l {w : World} {B xb n : Nat} {h : HS} (hh : HAt w B xb n h) {p : PL} (hp : p ∈ h.pl) : ¬ logFoot p.lb p.bm p.v xb := fun e => by
  have h0 := tag_cells hh.blk
  rcases (hh.logs p hp).tags e with h1 | h1 | h1 <;> rw [h0] at h1 <;> cases h1

theorem HAt.after {w w' : World} {B xb n : Nat} {h : HS} (hh : HAt w B xb n h) (f : Fr (fun _ => False) w w') : HAt w' B xb n h :=
  ⟨(f.block xb (lt_of_block hh.blk) id).trans hh.blk, f.ownsRow hh.jour (fun _ _ => id), f.ownsRow hh.places (fun _ _ => id), f.ownsRow hh.flight (fun _ _ => id), fun p hp => f.logAt (hh.logs p hp) id id (fun _ _ => id), hh.hx, hh.hP, hh.hQ, hh.h6⟩

/-- The herald's own block is written, nothing else. -/
theorem HAt.put {w w' : World} {B xb n : Nat} {h h' : HS} (hh : HAt w B xb n h) (f : Fr (fun k => k = xb) w w') (hb : w'.heap[xb]? = some (.cells h'.cells.toArray 111 (0, 0))) (hj : h'.jv = h.jv) (hjb : h'.jb = h.jb) (hpv : h'.pv = h.pv) (hpl : h'.pl = h.pl) (hfv : h'.fv = h.fv) (hfl : h'.fl = h.fl) (hP : h'.P = h.P) (hQ : h'.Q = h.Q) (h6 : h'.ps.length = 6) : HAt w' B xb n h' :=
  ⟨hb, by rw [hj, hjb]; exact f.ownsRow hh.jour (fun k hk e => hh.ne_j (by subst e; exact hk)), by rw [hpv, hpl]; exact f.ownsRow hh.places (fun k hk e => hh.ne_p (by subst e; exact hk)), by rw [hfv, hfl]; exact f.ownsRow hh.flight (fun k hk e => hh.ne_f (by subst e; exact hk)),
   fun p hp => by rw [hpl] at hp; exact (hh.logs p hp).stay f (fun k e hf => hh.ne_l hp (by subst e; exact hf)), hh.hx, by rw [hP]; exact hh.hP, by rw [hQ, hpl]; exact hh.hQ, h6⟩

set_option maxRecDepth 100000 in
set_option maxHeartbeats 800000 in
theorem fall_any {w : World} {B xb n : Nat} {h : HS} (hh : HAt w B xb n h) :
    Calls Tryz.prog 104 #[.pointer (some ⟨xb, 4, none⟩)] w fun e w' => e = .returned (.tuple #[]) ∧ HAt w' B xb n h.fallen ∧ Fr (fun k => k = xb) w w' := by
  have HH : Hid (HAt w B xb n h) := hh
  have k4 : w.cell? ⟨xb, 4, none⟩ = some h.jv := by rw [cell_of_cells hh.blk]; rfl
  obtain ⟨ja, jc, hj, _⟩ := anyRow_len hh.jour
  rw [hj] at k4
  have HTH : Hid (w.there xb 4 64) := there_of_block hh.blk (by rw [HS.size hh.h6]; decide)
  have HJ : Hid (h.jv = .slice ja h.jb.length jc) := hj
  have hlt := lt_of_block hh.blk
  clear hh hj
  go_enter Tryz.func104, Tryz.ntmps104
  go_wp2_with (refine wpList_store_mid rfl 105 _ _ rfl xb 4 (kCells (.slice ja h.jb.length jc)).toArray rfl rfl HTH.out info105 (by simp [kCells, PS.cs, zps, zps6, Value.oneCell']) ?_)
  go_end0
  have hc := HS.fall_cells HH.out.h6
  rw [HJ.out] at hc
  have fr : Fr (fun k => k = xb) w (w.setCells xb 4 (kCells (.slice ja h.jb.length jc))) := Fr.setCells (S := fun k => k = xb) (.inl rfl) _ _ (Fr.refl _ _)
  refine ⟨rfl, HH.out.put fr ?_ rfl rfl rfl rfl rfl rfl rfl rfl rfl, fr⟩
  rw [← hc]
  exact setCells_block _ _ HH.out.blk

end Go.Proofs.YtkelpcjiediamaaGreat

/-
  The program's herald: what is asked of it.
-/
namespace Go.Proofs.YtkelpcjiediamaaGreat
open Go.RowKit Go.Maps

section
variable {w : World} {B xb n : Nat} {h : HS}

theorem HAt.cP (hh : HAt w B xb n h) : w.cell? ⟨xb, 0, none⟩ = some (.int .i64 h.P) := by rw [cell_of_cells hh.blk]; rfl
theorem HAt.cJ (hh : HAt w B xb n h) : w.cell? ⟨xb, 4, none⟩ = some h.jv := by rw [cell_of_cells hh.blk]; rfl
theorem HAt.cU (hh : HAt w B xb n h) : w.cell? ⟨xb, 5, none⟩ = some (.bool h.up) := by rw [cell_of_cells hh.blk]; rfl
theorem HS.c4 {h : HS} (h6 : h.ps.length = 6) : h.cells.toArray[66]? = some (.bool h.br) ∧ h.cells.toArray[67]? = some (.int .i64 h.kp) ∧ h.cells.toArray[68]? = some h.pv ∧ h.cells.toArray[69]? = some h.fv := by
  obtain ⟨P, Q, T, K, jv, jb, up, ps, br, kp, pv, pl, fv, fl⟩ := h
  obtain ⟨p0, p1, p2, p3, p4, p5, rfl⟩ := six h6
  exact ⟨rfl, rfl, rfl, rfl⟩
theorem HAt.cB (hh : HAt w B xb n h) : w.cell? ⟨xb, 66, none⟩ = some (.bool h.br) := by rw [cell_of_cells hh.blk]; exact (HS.c4 hh.h6).1
theorem HAt.cK (hh : HAt w B xb n h) : w.cell? ⟨xb, 67, none⟩ = some (.int .i64 h.kp) := by rw [cell_of_cells hh.blk]; exact (HS.c4 hh.h6).2.1
theorem HAt.cV (hh : HAt w B xb n h) : w.cell? ⟨xb, 68, none⟩ = some h.pv := by rw [cell_of_cells hh.blk]; exact (HS.c4 hh.h6).2.2.1
theorem HAt.cF (hh : HAt w B xb n h) : w.cell? ⟨xb, 69, none⟩ = some h.fv := by rw [cell_of_cells hh.blk]; exact (HS.c4 hh.h6).2.2.2

theorem not_in {m : Int} (h : ¬ 0 ≤ m) : decide (0 ≤ m) = false := decide_eq_false h

theorem hasProducer_any (hh : HAt w B xb n h) (m : Int) :
    Calls Tryz.prog 64 #[.pointer (some ⟨xb, 0, none⟩), .int .i64 m] w fun e w' => e = .returned (.bool (decide (0 ≤ m ∧ m < h.P))) ∧ w = w' := by
  have c0 := hh.cP
  clear hh
  by_cases h1 : 0 ≤ m
  · by_cases h2 : m < h.P
    · go_enter Tryz.func64, Tryz.ntmps64
      go_wp2
      go_ret
      exact ⟨by simp [h1, h2], rfl⟩
    · go_enter Tryz.func64, Tryz.ntmps64
      go_wp2
      go_ret
      exact ⟨by simp [h2], rfl⟩
  · go_enter Tryz.func64, Tryz.ntmps64
    go_wp2
    go_ret
    exact ⟨by rw [not_in (by omega)] <;> rfl, rfl⟩

theorem hasPart_any (hh : HAt w B xb n h) (m : Int) :
    Calls Tryz.prog 50 #[.pointer (some ⟨xb, 0, none⟩), .int .i64 m] w fun e w' => e = .returned (.bool (decide (0 ≤ m ∧ m < h.pl.length))) ∧ w = w' := by
  have c0 := hh.cV
  obtain ⟨pa, pc, hp, _⟩ := anyRow_len hh.places
  rw [hp] at c0
  clear hh
  by_cases h1 : 0 ≤ m
  · by_cases h2 : m < h.pl.length
    · go_enter Tryz.func50, Tryz.ntmps50
      go_wp2
      go_ret
      exact ⟨by simp [h1, h2], rfl⟩
    · go_enter Tryz.func50, Tryz.ntmps50
      go_wp2
      go_ret
      exact ⟨by simp [h2], rfl⟩
  · go_enter Tryz.func50, Tryz.ntmps50
    go_wp2
    go_ret
    exact ⟨by rw [not_in (by omega)] <;> rfl, rfl⟩

/-- The parts whose tie is at least l. -/
def PS.ties (p : PS) : List Int := [p.a, p.b, p.c, p.d]
def tiedL (ts : List Int) (l : Int) (k : Nat) : List Int := ((List.range k).filter fun i => decide (l ≤ ts.getD i 0)).map Int.ofNat

theorem tiedL_succ (ts : List Int) (l : Int) (k : Nat) : tiedL ts l (k + 1) = tiedL ts l k ++ (if l ≤ ts.getD k 0 then [(k : Int)] else []) := by
  unfold tiedL
  rw [List.range_succ, List.filter_append, List.map_append]
  congr 1
  by_cases hl : l ≤ ts.getD k 0
  · rw [if_pos hl, List.filter_cons_of_pos (by simpa using hl)]; rfl
  · rw [if_neg hl, List.filter_cons_of_neg (by simpa using hl)]; rfl

theorem tiedL_len (ts : List Int) (l : Int) (k : Nat) : (tiedL ts l k).length ≤ k := by
  unfold tiedL
  rw [List.length_map]
  exact Nat.le_trans (List.length_filter_le _ _) (by simp)

theorem index70_0 (w : World) (a b c d : Int) : (Instr.index 100 (.agg #[.int .i64 a, .int .i64 b, .int .i64 c, .int .i64 d]) (.int .i64 0)).run Tryz.prog w = .ok (.int .i64 a) w := by kernel_rfl
theorem index70_1 (w : World) (a b c d : Int) : (Instr.index 100 (.agg #[.int .i64 a, .int .i64 b, .int .i64 c, .int .i64 d]) (.int .i64 1)).run Tryz.prog w = .ok (.int .i64 b) w := by kernel_rfl
theorem index70_2 (w : World) (a b c d : Int) : (Instr.index 100 (.agg #[.int .i64 a, .int .i64 b, .int .i64 c, .int .i64 d]) (.int .i64 2)).run Tryz.prog w = .ok (.int .i64 c) w := by kernel_rfl
theorem index70_3 (w : World) (a b c d : Int) : (Instr.index 100 (.agg #[.int .i64 a, .int .i64 b, .int .i64 c, .int .i64 d]) (.int .i64 3)).run Tryz.prog w = .ok (.int .i64 d) w := by kernel_rfl

theorem index70 (w : World) (p : PS) {k : Nat} (hk : k < 4) : (Instr.index 100 (.agg #[.int .i64 p.a, .int .i64 p.b, .int .i64 p.c, .int .i64 p.d]) (.int .i64 k)).run Tryz.prog w = .ok (.int .i64 (p.ties.getD k 0)) w := by
  match k, hk with
  | 0, _ => exact index70_0 w _ _ _ _
  | 1, _ => exact index70_1 w _ _ _ _
  | 2, _ => exact index70_2 w _ _ _ _
  | 3, _ => exact index70_3 w _ _ _ _

theorem info70 : (Tryz.prog.info? 100).map (·.size) = some 4 := by kernel_rfl

set_option maxRecDepth 100000 in
set_option maxHeartbeats 1600000 in
theorem tied_any {b o : Nat} {p : PS} (hr : ∀ j v, p.cs[j]? = some v → w.cell? ⟨b, o + j, none⟩ = some v) (l : Int) :
    Calls Tryz.prog 69 #[.pointer (some ⟨b, o, none⟩), .int .i64 l] w fun e w' => ∃ v, e = .returned v ∧ NewInts w w' v (tiedL p.ties l 4) ∧ Fr (fun _ => False) w w' := by
  obtain ⟨i0, hi0, hz0, hz1, hz2⟩ := info_parts info3
  have k3 : w.cell? ⟨b, o + 3, none⟩ = some (.int .i64 p.a) := hr 3 _ rfl
  have k4 : w.cell? ⟨b, o + 3 + 1, none⟩ = some (.int .i64 p.b) := hr 4 _ rfl
  have k5 : w.cell? ⟨b, o + 3 + 2, none⟩ = some (.int .i64 p.c) := hr 5 _ rfl
  have k6 : w.cell? ⟨b, o + 3 + 3, none⟩ = some (.int .i64 p.d) := hr 6 _ rfl
  clear hr
  go_enter Tryz.func69, Tryz.ntmps69
  go_wp2_with fail
  go_loopw [5, 12] (fun v i w' => ∃ k : Nat, k ≤ 4 ∧ i = .int .i64 k ∧ NewInts w w' v (tiedL p.ties l k) ∧ Fr (fun _ => False) w w') (fun _ i _ => (4 - intOf i).toNat)
  case atStart => exact ⟨0, by omega, rfl, World.ownsRow_nil _ _ _ _, Fr.refl _ _⟩
  case round =>
    obtain ⟨k, hk, rfl, hv, hfr⟩ := hrel
    have HF : Hid (Fr (fun _ => False) w wr) := hfr
    obtain ⟨va, vc, rfl, hvl⟩ := intRow_len hv
    have HV : Hid (wr.ownsRow w.heap.size 3 1 (.slice va (tiedL p.ties l k).length vc) (tiedL p.ties l k).length (intCells (tiedL p.ties l k))) := hv
    have HL : Hid ((tiedL p.ties l k).length ≤ k) := tiedL_len _ _ _
    have HT : Hid (tiedL p.ties l (k + 1) = tiedL p.ties l k ++ (if l ≤ p.ties.getD k 0 then [(k : Int)] else [])) := tiedL_succ _ _ _
    have hsz := hfr.size
    clear hfr hv hvl
    by_cases hlt : k < 4
    · have hidx := index70 wr p hlt
      generalize p.ties.getD k 0 = x at hidx HT
      have hki : (k : Int) < 4 := by omega
      by_cases hle : l ≤ x
      · have HT2 : Hid (tiedL p.ties l (k + 1) = tiedL p.ties l k ++ [(k : Int)]) := by have := HT.out; rw [if_pos hle] at this; exact this
        clear HT
        go_wp2_with (at_builtin; refine wpList_append_lies _ rfl _ _ 43 rfl w.heap.size 3 i0 _ 1 8 Tryz.underlying43 hi0 hz0 hz1 hz2 rfl (by decide) _ _ (intCells (tiedL p.ties l k)) rfl (by exact HV.out.alloc _) ⟨wr.heap.size, 0, none⟩ 1 1 [.int .i64 k] rfl rfl (World.news_of_block (cs := #[.int .i64 k]) (t := 3) (fr := (0, 0)) (heap_alloc_new _ _)) (by simp [Value.oneCell']) (by decide) (by have := HL.out; simp only [maxLen]; omega) (by have := HL.out; omega) (by simp; omega) (wr.heap.size + 1) (by simp) ?_; intro gg gcap w3 hown3 hgrow3 hat3 hlt3)
        go_roundw
        case rel =>
          have hfr3 : Fr (fun x => Value.ownBlock (.slice va (tiedL p.ties l k).length vc) = some x) wr w3 := ((Fr.refl _ _).alloc _).grown hgrow3 (fun x ex => .inl ex)
          refine ⟨k + 1, by omega, by go_num, ?_, HF.out.trans hfr3 (fun x hx => .inr (HV.out.lt x hx).1)⟩
          show w3.ownsRow _ _ _ _ _ _
          rw [HT2.out]
          simpa [intCells] using hown3
        case measure => simp [intOf]; omega
      · have HT2 : Hid (tiedL p.ties l (k + 1) = tiedL p.ties l k) := by have := HT.out; rw [if_neg hle, List.append_nil] at this; exact this
        clear HT
        go_wp2_with fail
        go_roundw
        case rel => exact ⟨k + 1, by omega, by go_num, by rw [HT2.out]; exact HV.out, HF.out⟩
        case measure => simp [intOf]; omega
    · have hk4 : k = 4 := by omega
      subst hk4
      go_wp2
      go_ret
      exact ⟨_, rfl, HV.out, HF.out⟩
end

end Go.Proofs.YtkelpcjiediamaaGreat

/-
  The program's Producer.
-/
namespace Go.Proofs.YtkelpcjiediamaaGreat
open Go.RowKit Go.Maps

/-- A struct in a block of its own, and a number, come back. -/
theorem results_two {fn : Func} {p u : Tmp} {ty : TypeId} (h : fn.results = #[.cell p ty, .tmp u]) (tmps : Array Value) (w : World) (g : Nat) (t : TypeId) (cs : Array Value) (fr : Nat × Nat) (d : TypeDesc)
    (hp : tmps.getD p undef = .pointer (some ⟨g, 0, none⟩)) (hg : w.heap[g]? = some (.cells cs t fr))
    (hu : Tryz.prog.underlying ty = some d) (hd : d.isRow = true) (hi : (Tryz.prog.info? ty).map (·.size) = some cs.size) :
    (results fn tmps).run Tryz.prog w = .ok (.tuple #[.agg cs, tmps.getD u undef]) w := by
  have := run_loadVar_mid w g 0 ty cs.toList d (fun j v hv => by rw [cell_of_cells hg]; simpa using hv) hu hd (by simpa using hi)
  rw [results_cell_tmp h, hp]
  simp [asAddr, Result.andThen, this]

theorem cell_set_ne (w : World) {b b' o o' : Nat} (u : Value) (h : b ≠ b') : (w.setCell ⟨b', o', none⟩ u).cell? ⟨b, o, none⟩ = w.cell? ⟨b, o, none⟩ :=
  World.cell?_of_block (Below.heap_setCell w ⟨b', o', none⟩ u b h)

theorem info108 : (Tryz.prog.info? 58).map (·.size) = some 5 := by kernel_rfl

section
variable {w : World} {B xb n : Nat} {h : HS}

theorem psCells_get : ∀ (l : List PS) (k : Nat) (e : PS) (j : Nat), l[k]? = some e → j < 10 → (l.flatMap PS.cs)[k * 10 + j]? = e.cs[j]?
  | [], k, e, j, h, _ => by simp at h
  | x :: r, 0, e, j, h, hj => by
    simp only [List.getElem?_cons_zero, Option.some.injEq] at h
    subst h
    simp only [List.flatMap_cons]
    rw [List.getElem?_append_left (by simp [PS.cs]; omega)]
    simp
  | x :: r, k + 1, e, j, h, hj => by
    simp only [List.getElem?_cons_succ] at h
    have := psCells_get r k e j h hj
    simp only [List.flatMap_cons] at this ⊢
    rw [List.getElem?_append_right (by simp [PS.cs]; omega), ← this]
    congr 1
    simp [PS.cs]; omega

theorem HS.cell_ps {h : HS} {k : Nat} {p : PS} (hp : h.ps[k]? = some p) (j : Nat) (v : Value) (hv : p.cs[j]? = some v) : h.cells.toArray[6 + k * 10 + j]? = some v := by
  have hj : j < 10 := (List.getElem?_eq_some_iff.1 hv).1
  have hk := (List.getElem?_eq_some_iff.1 hp).1
  rw [List.getElem?_toArray, ← hv, ← psCells_get h.ps k p j hp hj]
  unfold HS.cells
  rw [List.getElem?_append_right (by simp; omega), List.getElem?_append_left (by rw [psCells_len]; simp only [List.length_cons, List.length_nil]; omega)]
  congr 1
  simp; omega

theorem HAt.cps (hh : HAt w B xb n h) {k : Nat} {p : PS} (hp : h.ps[k]? = some p) (j : Nat) (v : Value) (hv : p.cs[j]? = some v) : w.cell? ⟨xb, 6 + k * 10 + j, none⟩ = some v := by
  rw [cell_of_cells hh.blk]; exact HS.cell_ps hp j v hv

theorem range_keep {w2 : World} {b o : Nat} {l : List Value} (f : Fr (fun _ => False) w w2) (hb : b < w.heap.size) (hr : ∀ j v, l[j]? = some v → w.cell? ⟨b, o + j, none⟩ = some v) : ∀ j v, l[j]? = some v → w2.cell? ⟨b, o + j, none⟩ = some v :=
  fun j v hv => (f.cell (p := ⟨b, o + j, none⟩) hb id).trans (hr j v hv)

set_option maxRecDepth 100000 in
set_option maxHeartbeats 1600000 in
theorem producer_none (hh : HAt w B xb n h) {m : Int} (hm : ¬ (0 ≤ m ∧ m < h.P)) :
    Calls Tryz.prog 30 #[.pointer (some ⟨xb, 0, none⟩), .int .i64 m] w fun r w' => r = .returned (.tuple #[.agg #[.int .i64 0, .int .i64 0, .int .i64 0, .slice none 0 0, .slice none 0 0], .int .i64 2]) ∧ Fr (fun _ => False) w w' := by
  have HH : Hid (HAt w B xb n h) := hh
  have HM : Hid (decide (0 ≤ m ∧ m < h.P) = false) := decide_eq_false hm
  clear hh hm
  go_enter Tryz.func30, Tryz.ntmps30
  go_wp2_with (go_at_call 64; refine (hasProducer_any (by exact HH.out.after (nofr _)) m).mono ?_; rw [HM.out]; rintro e w1 ⟨rfl, rfl⟩)
  refine bodyPost_ret (results_two rfl _ _ _ 58 _ (0, 0) _ rfl (heap_alloc_new _ _) Tryz.underlying58 rfl info108) rfl ?_
  exact ⟨rfl, nofr _⟩

set_option maxRecDepth 100000 in
set_option maxHeartbeats 1600000 in
theorem producer_down (hh : HAt w B xb n h) {m : Int} (hm : 0 ≤ m ∧ m < h.P) (hu : h.up = false) :
    Calls Tryz.prog 30 #[.pointer (some ⟨xb, 0, none⟩), .int .i64 m] w fun r w' => r = .returned (.tuple #[.agg #[.int .i64 0, .int .i64 0, .int .i64 0, .slice none 0 0, .slice none 0 0], .int .i64 5]) ∧ Fr (fun _ => False) w w' := by
  have HH : Hid (HAt w B xb n h) := hh
  have HM : Hid (decide (0 ≤ m ∧ m < h.P) = true) := decide_eq_true hm
  have c5 := hh.cU
  rw [hu] at c5
  have hlt := lt_of_block hh.blk
  clear hh hm hu
  go_enter Tryz.func30, Tryz.ntmps30
  go_wp2_with (go_at_call 64; refine (hasProducer_any (by exact HH.out.after (nofr _)) m).mono ?_; rw [HM.out]; rintro e w1 ⟨rfl, rfl⟩)
  refine bodyPost_ret (results_two rfl _ _ _ 58 _ (0, 0) _ rfl (heap_alloc_new _ _) Tryz.underlying58 rfl info108) rfl ?_
  exact ⟨rfl, nofr _⟩

set_option maxRecDepth 100000 in
set_option maxHeartbeats 3200000 in
theorem producer_up (hh : HAt w B xb n h) {k : Nat} (hm : (k : Int) < h.P) (hu : h.up = true) {p : PS} (hp : h.ps[k]? = some p) :
    Calls Tryz.prog 30 #[.pointer (some ⟨xb, 0, none⟩), .int .i64 k] w fun r w' => ∃ va vb, r = .returned (.tuple #[.agg #[.int .i64 p.e, .int .i64 p.t, .int .i64 p.s, va, vb], .int .i64 0]) ∧ NewInts w w' va (tiedL p.ties 1 4) ∧ NewInts w w' vb (tiedL p.ties 2 4) ∧ (∀ k, va.ownBlock = some k → vb.ownBlock ≠ some k) ∧ Fr (fun _ => False) w w' := by
  have HH : Hid (HAt w B xb n h) := hh
  have hk6 : k < 6 := by have := hh.hP.2; omega
  have HM : Hid (decide (0 ≤ (k : Int) ∧ (k : Int) < h.P) = true) := decide_eq_true ⟨by omega, hm⟩
  have HR : Hid (∀ j v, p.cs[j]? = some v → w.cell? ⟨xb, 6 + k * 10 + j, none⟩ = some v) := fun j v hv => hh.cps hp j v hv
  have c5 := hh.cU
  rw [hu] at c5
  have hlt := lt_of_block hh.blk
  have hk60 : (0 : Int) ≤ (k : Int) := by omega
  have hk61 : (k : Int) < 6 := by omega
  have e0 : w.cell? ⟨xb, 6 + k * 10, none⟩ = some (.int .i64 p.e) := HR.out 0 _ rfl
  have e1 : w.cell? ⟨xb, 6 + k * 10 + 1, none⟩ = some (.int .i64 p.t) := HR.out 1 _ rfl
  have e2 : w.cell? ⟨xb, 6 + k * 10 + 2, none⟩ = some (.int .i64 p.s) := HR.out 2 _ rfl
  clear hh hm hu hp
  go_enter Tryz.func30, Tryz.ntmps30
  go_wp2_with (go_at_call 64; refine (hasProducer_any (by exact HH.out.after (nofr _)) k).mono ?_; rw [HM.out]; rintro e w1 ⟨rfl, rfl⟩)
  have g0 : (w.alloc (.cells #[.int .i64 0, .int .i64 0, .int .i64 0, .slice none 0 0, .slice none 0 0] 58)).cell? ⟨xb, 6 + k * 10, none⟩ = some (.int .i64 p.e) := (World.cell?_alloc_past _ _ _ hlt).trans e0
  go_region_held3 (fun w' => w'.cell? ⟨xb, 6 + k * 10, none⟩ = some (.int .i64 p.e) ∧ w'.cell? ⟨xb, 6 + k * 10 + 1, none⟩ = some (.int .i64 p.t) ∧ w'.cell? ⟨xb, 6 + k * 10 + 2, none⟩ = some (.int .i64 p.s))
    (first | with_reducible exact ⟨h0, h1, h2⟩ | with_reducible exact ⟨f0, f1, f2⟩ | go_keep | (simp only [cell_set_ne _ _ bx]; with_reducible exact ⟨h0, h1, h2⟩))
    (first
      | (go_at_call 69; have _ := F1.out; refine (tied_any (p := p) (by exact range_keep F1.out hlt HR.out) 2).mono ?_; rintro e w2 ⟨vb, rfl, hv2, hf2⟩
         obtain ⟨ba, bc, rfl, _⟩ := intRow_len hv2
         have F2 : Hid (Fr (fun _ => False) w w2) := F1.out.trans hf2 (fun _ h => h.elim)
         have V2 : Hid (w2.ownsRow w1.heap.size 3 1 (.slice ba (tiedL p.ties 2 4).length bc) (tiedL p.ties 2 4).length (intCells (tiedL p.ties 2 4))) := hv2
         have U2 : Hid (w2.ownsRow (w.heap.size + 1) 3 1 (.slice aa (tiedL p.ties 1 4).length ac) (tiedL p.ties 1 4).length (intCells (tiedL p.ties 1 4))) := hf2.ownsRow V1.out (fun _ _ => id)
         have h0 : w2.cell? ⟨xb, 6 + k * 10, none⟩ = some (.int .i64 p.e) := (F2.out.cell (p := ⟨xb, 6 + k * 10, none⟩) hlt id).trans e0
         have h1 : w2.cell? ⟨xb, 6 + k * 10 + 1, none⟩ = some (.int .i64 p.t) := (F2.out.cell (p := ⟨xb, 6 + k * 10 + 1, none⟩) hlt id).trans e1
         have h2 : w2.cell? ⟨xb, 6 + k * 10 + 2, none⟩ = some (.int .i64 p.s) := (F2.out.cell (p := ⟨xb, 6 + k * 10 + 2, none⟩) hlt id).trans e2
         have B2 : Hid (w2.heap[w.heap.size]? = some (.cells #[.int .i64 0, .int .i64 0, .int .i64 0, .slice none 0 0, .slice none 0 0] 58 (0, 0))) := (hf2.block _ (lt_of_block B1.out) id).trans B1.out
         have b0 : w2.cell? ⟨w.heap.size, 0, none⟩ = some (.int .i64 0) := by rw [cell_of_cells B2.out]; rfl
         have b1 : w2.cell? ⟨w.heap.size, 1, none⟩ = some (.int .i64 0) := by rw [cell_of_cells B2.out]; rfl
         have b2 : w2.cell? ⟨w.heap.size, 2, none⟩ = some (.int .i64 0) := by rw [cell_of_cells B2.out]; rfl
         have b3 : w2.cell? ⟨w.heap.size, 3, none⟩ = some (.slice none 0 0) := by rw [cell_of_cells B2.out]; rfl
         have b4 : w2.cell? ⟨w.heap.size, 4, none⟩ = some (.slice none 0 0) := by rw [cell_of_cells B2.out]; rfl
         have bf : ∀ o, w2.frozen? ⟨w.heap.size, o, none⟩ = false := frozen_of_cells B2.out
         have bx : xb ≠ w.heap.size := by omega
         clear hf2 hv2)
      | (go_at_call 69; refine (tied_any (p := p) (by exact range_keep ((nofr _).drew) hlt HR.out) 1).mono ?_; rintro e w1 ⟨va, rfl, hv1, hf1⟩
         obtain ⟨aa, ac, rfl, _⟩ := intRow_len hv1
         have F1 : Hid (Fr (fun _ => False) w w1) := ((nofr _).drew).trans hf1 (fun _ h => h.elim)
         have V1 : Hid (w1.ownsRow (w.heap.size + 1) 3 1 (.slice aa (tiedL p.ties 1 4).length ac) (tiedL p.ties 1 4).length (intCells (tiedL p.ties 1 4))) := ownsRow_base hv1 (by simp)
         have f0 : w1.cell? ⟨xb, 6 + k * 10, none⟩ = some (.int .i64 p.e) := (F1.out.cell (p := ⟨xb, 6 + k * 10, none⟩) hlt id).trans e0
         have f1 : w1.cell? ⟨xb, 6 + k * 10 + 1, none⟩ = some (.int .i64 p.t) := (F1.out.cell (p := ⟨xb, 6 + k * 10 + 1, none⟩) hlt id).trans e1
         have f2 : w1.cell? ⟨xb, 6 + k * 10 + 2, none⟩ = some (.int .i64 p.s) := (F1.out.cell (p := ⟨xb, 6 + k * 10 + 2, none⟩) hlt id).trans e2
         have B1 : Hid (w1.heap[w.heap.size]? = some (.cells #[.int .i64 0, .int .i64 0, .int .i64 0, .slice none 0 0, .slice none 0 0] 58 (0, 0))) := (hf1.block _ (by simp) id).trans (by show (w.alloc _).heap[w.heap.size]? = _; exact heap_alloc_new _ _)
         clear hf1 hv1))
  go_wp2
  have hb := setCell_cells (setCell_cells (setCell_cells (setCell_cells (setCell_cells B2.out 0 (.int .i64 p.e)) 1 (.int .i64 p.t)) 2 (.int .i64 p.s)) 3 (.slice aa (tiedL p.ties 1 4).length ac)) 4 (.slice ba (tiedL p.ties 2 4).length bc)
  have fs := (((((Fr.refl (fun x => x = w.heap.size) w2).setCell (p := ⟨w.heap.size, 0, none⟩) (.inl rfl) (.int .i64 p.e)).setCell (p := ⟨w.heap.size, 1, none⟩) (.inl rfl) (.int .i64 p.t)).setCell (p := ⟨w.heap.size, 2, none⟩) (.inl rfl) (.int .i64 p.s)).setCell (p := ⟨w.heap.size, 3, none⟩) (.inl rfl) (.slice aa (tiedL p.ties 1 4).length ac)).setCell (p := ⟨w.heap.size, 4, none⟩) (.inl rfl) (.slice ba (tiedL p.ties 2 4).length bc)
  have hz : w.heap.size < w1.heap.size := lt_of_block B1.out
  refine bodyPost_ret (results_two rfl _ _ _ 58 _ (0, 0) _ rfl hb Tryz.underlying58 rfl info108) rfl ?_
  refine ⟨_, _, rfl, ?_, ?_, fun x hx hy => ?_, F2.out.trans fs (fun x hx => .inr (by omega))⟩
  · exact ownsRow_base (fs.ownsRow U2.out (fun x hx e => by have := (U2.out.lt x hx).1; omega)) (by omega)
  · exact ownsRow_base (fs.ownsRow V2.out (fun x hx e => by have := (V2.out.lt x hx).1; omega)) (by omega)
  · have h3 := (V1.out.lt x hx).2
    have h4 := (V2.out.lt x hy).1
    omega
end

end Go.Proofs.YtkelpcjiediamaaGreat
