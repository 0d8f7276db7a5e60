/-
  The program's herald in memory.
-/
import Derived.Test.YtkelpcjiediamaaGreatAsk
import Derived.Deep.MidRow
namespace Go.Proofs.YtkelpcjiediamaaGreat
open Go.RowKit Go.Maps

/-- What the keeper knows of a producer. -/
structure PS where
  e : Int
  t : Int
  s : Int
  a : Int
  b : Int
  c : Int
  d : Int
  si : Int
  wa : Int
  ga : Int

def PS.cs (p : PS) : List Value := [.int .i64 p.e, .int .i64 p.t, .int .i64 p.s, .int .i64 p.a, .int .i64 p.b, .int .i64 p.c, .int .i64 p.d, .int .i64 p.si, .int .i64 p.wa, .int .i64 p.ga]

/-- A message. -/
structure Ms where
  k : Int
  q : Int
  p : Int
  t : Int
  c : Bool
def Ms.cs (r : Ms) : List Value := [.int .i64 r.k, .int .i64 r.q, .int .i64 r.p, .int .i64 r.t, .bool r.c]

/-- A part: its log, and whether it is out. -/
structure PL where
  lb : Nat
  bm : Nat
  v : Value
  s : LogS
  out : Bool

def PL.cs (p : PL) : List Value := [ptr p.lb, .bool p.out]
def plCells (l : List PL) : List Value := l.flatMap PL.cs

/-- What a herald knows. -/
structure HS where
  P : Int
  Q : Int
  T : Int
  K : Int
  jv : Value
  jb : List Value
  up : Bool
  ps : List PS
  br : Bool
  kp : Int
  pv : Value
  pl : List PL
  fv : Value
  fl : List Ms

def HS.cells (h : HS) : List Value :=
  [.int .i64 h.P, .int .i64 h.Q, .int .i64 h.T, .int .i64 h.K, h.jv, .bool h.up] ++ (h.ps.flatMap PS.cs ++ [.bool h.br, .int .i64 h.kp, h.pv, h.fv])

def zps : PS := ⟨0, 0, 0, 0, 0, 0, 0, 0, 0, 0⟩
def zps6 : List PS := [zps, zps, zps, zps, zps, zps]

structure HAt (w : World) (B xb n : Nat) (h : HS) : Prop where
  blk : w.heap[xb]? = some (.cells h.cells.toArray 111 (0, 0))
  jour : w.ownsRow B 5 1 h.jv h.jb.length h.jb
  places : w.ownsRow B 98 2 h.pv h.pl.length (plCells h.pl)
  flight : w.ownsRow B 119 5 h.fv h.fl.length (h.fl.flatMap Ms.cs)
  logs : ∀ p ∈ h.pl, LogAt w B p.lb p.bm p.v n p.s
  hx : B ≤ xb
  hP : 1 ≤ h.P ∧ h.P ≤ 6
  hQ : h.Q = h.pl.length ∧ 1 ≤ h.Q ∧ h.Q ≤ 4
  h6 : h.ps.length = 6

theorem six {α : Type} {l : List α} (h : l.length = 6) : ∃ a b c d e f, l = [a, b, c, d, e, f] := by
  match l, h with
  | [a, b, c, d, e, f], _ => exact ⟨a, b, c, d, e, f, rfl⟩

def setArr (cs : Array Value) (o : Nat) : List Value → Array Value
  | [] => cs
  | v :: r => setArr (cs.setIfInBounds o v) (o + 1) r

theorem setCells_block {b : Nat} {t : TypeId} {fr : Nat × Nat} : ∀ (vs : List Value) (o : Nat) {w : World} {cs : Array Value}, w.heap[b]? = some (.cells cs t fr) → (w.setCells b o vs).heap[b]? = some (.cells (setArr cs o vs) t fr)
  | [], _, _, _, h => h
  | v :: r, o, _, _, h => by
    rw [World.setCells]
    exact setCells_block r (o + 1) (setCell_cells h o v)

theorem Fr.setCells {S : Nat → Prop} {a : World} {b : Nat} (hb : S b ∨ a.heap.size ≤ b) : ∀ (vs : List Value) (o : Nat) {w : World}, Fr S a w → Fr S a (w.setCells b o vs)
  | [], _, _, h => h
  | v :: r, o, _, h => by
    rw [World.setCells]
    exact Fr.setCells hb r (o + 1) (h.setCell (p := ⟨b, o, none⟩) hb v)

theorem there_of_block {w : World} {b : Nat} {cs : Array Value} {t : TypeId} (h : w.heap[b]? = some (.cells cs t (0, 0))) {o n : Nat} (hn : o + n ≤ cs.size) : w.there b o n := fun j hj => by
  refine ⟨?_, frozen_of_cells h _⟩
  rw [cell_of_cells h, Array.getElem?_eq_getElem (by omega)]
  rfl

theorem info105 : (Tryz.prog.info? 105).map (·.size) = some 64 := by kernel_rfl

def HS.fallen (h : HS) : HS := { h with up := false, ps := zps6, br := false, kp := 0 }

/-- The keeper's cells when it has its journal alone. -/
def kCells (jv : Value) : List Value := [jv, .bool false] ++ (zps6.flatMap PS.cs ++ [.bool false, .int .i64 0])

theorem psCells_len (l : List PS) : (l.flatMap PS.cs).length = l.length * 10 := by
  induction l with
  | nil => rfl
  | cons a r ih => simp [List.flatMap_cons, ih, PS.cs]; omega

theorem HS.size {h : HS} (h6 : h.ps.length = 6) : h.cells.toArray.size = 70 := by
  simp only [HS.cells, List.size_toArray, List.length_append, psCells_len, h6, List.length_cons, List.length_nil]

theorem HS.fall_cells {h : HS} (h6 : h.ps.length = 6) : setArr h.cells.toArray 4 (kCells h.jv) = h.fallen.cells.toArray := by
  obtain ⟨P, Q, T, K, jv, jb, up, ps, br, kp, pv, pl, fv, fl⟩ := h
  obtain ⟨⟨e0, t0, s0, a0, b0, c0, d0, x0, y0, z0⟩, ⟨e1, t1, s1, a1, b1, c1, d1, x1, y1, z1⟩, ⟨e2, t2, s2, a2, b2, c2, d2, x2, y2, z2⟩, ⟨e3, t3, s3, a3, b3, c3, d3, x3, y3, z3⟩, ⟨e4, t4, s4, a4, b4, c4, d4, x4, y4, z4⟩, ⟨e5, t5, s5, a5, b5, c5, d5, x5, y5, z5⟩, rfl⟩ := six h6
  kernel_rfl

theorem HAt.ne_j {w : World} {B xb n : Nat} {h : HS} (hh : HAt w B xb n h) : h.jv.ownBlock ≠ some xb := fun e => by
  have h1 := tag_row hh.jour e
  rw [tag_cells hh.blk] at h1
  cases h1

theorem HAt.ne_p {w : World} {B xb n : Nat} {h : HS} (hh : HAt w B xb n h) : h.pv.ownBlock ≠ some xb := fun e => by
  have h1 := tag_row hh.places e
  rw [tag_cells hh.blk] at h1
  cases h1

theorem HAt.ne_f {w : World} {B xb n : Nat} {h : HS} (hh : HAt w B xb n h) : h.fv.ownBlock ≠ some xb := fun e => by
  have h1 := tag_row hh.flight e
  rw [tag_cells hh.blk] at h1
  cases h1

theorem HAt.ne_l {w : World} {B xb n : Nat} {h : HS} (hh : HAt w B xb n h) {p : PL} (hp : p ∈ h.pl) : ¬ logFoot p.lb p.bm p.v xb := fun e => by
  have h0 := tag_cells hh.blk
  rcases (hh.logs p hp).tags e with h1 | h1 | h1 <;> rw [h0] at h1 <;> cases h1

theorem HAt.after {w w' : World} {B xb n : Nat} {h : HS} (hh : HAt w B xb n h) (f : Fr (fun _ => False) w w') : HAt w' B xb n h :=
  ⟨(f.block xb (lt_of_block hh.blk) id).trans hh.blk, f.ownsRow hh.jour (fun _ _ => id), f.ownsRow hh.places (fun _ _ => id), f.ownsRow hh.flight (fun _ _ => id), fun p hp => f.logAt (hh.logs p hp) id id (fun _ _ => id), hh.hx, hh.hP, hh.hQ, hh.h6⟩

/-- The herald's own block is written, nothing else. -/
theorem HAt.put {w w' : World} {B xb n : Nat} {h h' : HS} (hh : HAt w B xb n h) (f : Fr (fun k => k = xb) w w') (hb : w'.heap[xb]? = some (.cells h'.cells.toArray 111 (0, 0))) (hj : h'.jv = h.jv) (hjb : h'.jb = h.jb) (hpv : h'.pv = h.pv) (hpl : h'.pl = h.pl) (hfv : h'.fv = h.fv) (hfl : h'.fl = h.fl) (hP : h'.P = h.P) (hQ : h'.Q = h.Q) (h6 : h'.ps.length = 6) : HAt w' B xb n h' :=
  ⟨hb, by rw [hj, hjb]; exact f.ownsRow hh.jour (fun k hk e => hh.ne_j (by subst e; exact hk)), by rw [hpv, hpl]; exact f.ownsRow hh.places (fun k hk e => hh.ne_p (by subst e; exact hk)), by rw [hfv, hfl]; exact f.ownsRow hh.flight (fun k hk e => hh.ne_f (by subst e; exact hk)),
   fun p hp => by rw [hpl] at hp; exact (hh.logs p hp).stay f (fun k e hf => hh.ne_l hp (by subst e; exact hf)), hh.hx, by rw [hP]; exact hh.hP, by rw [hQ, hpl]; exact hh.hQ, h6⟩

set_option maxRecDepth 100000 in
set_option maxHeartbeats 800000 in
theorem fall_any {w : World} {B xb n : Nat} {h : HS} (hh : HAt w B xb n h) :
    Calls Tryz.prog 104 #[.pointer (some ⟨xb, 4, none⟩)] w fun e w' => e = .returned (.tuple #[]) ∧ HAt w' B xb n h.fallen ∧ Fr (fun k => k = xb) w w' := by
  have HH : Hid (HAt w B xb n h) := hh
  have k4 : w.cell? ⟨xb, 4, none⟩ = some h.jv := by rw [cell_of_cells hh.blk]; rfl
  obtain ⟨ja, jc, hj, _⟩ := anyRow_len hh.jour
  rw [hj] at k4
  have HTH : Hid (w.there xb 4 64) := there_of_block hh.blk (by rw [HS.size hh.h6]; decide)
  have HJ : Hid (h.jv = .slice ja h.jb.length jc) := hj
  have hlt := lt_of_block hh.blk
  clear hh hj
  go_enter Tryz.func104, Tryz.ntmps104
  go_wp2_with (refine wpList_store_mid rfl 105 _ _ rfl xb 4 (kCells (.slice ja h.jb.length jc)).toArray rfl rfl HTH.out info105 (by simp [kCells, PS.cs, zps, zps6, Value.oneCell']) ?_)
  go_end0
  have hc := HS.fall_cells HH.out.h6
  rw [HJ.out] at hc
  have fr : Fr (fun k => k = xb) w (w.setCells xb 4 (kCells (.slice ja h.jb.length jc))) := Fr.setCells (S := fun k => k = xb) (.inl rfl) _ _ (Fr.refl _ _)
  refine ⟨rfl, HH.out.put fr ?_ rfl rfl rfl rfl rfl rfl rfl rfl rfl, fr⟩
  rw [← hc]
  exact setCells_block _ _ HH.out.blk

end Go.Proofs.YtkelpcjiediamaaGreat
