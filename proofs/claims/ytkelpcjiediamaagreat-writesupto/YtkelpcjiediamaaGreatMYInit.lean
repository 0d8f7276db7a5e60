/-
  The document's decide, while the keeper does not break.
-/
import Derived.Test.YtkelpcjiediamaaGreatMYPend
namespace Go.Proofs.YtkelpcjiediamaaGreat
open Go.RowKit Go.Maps

section
variable {w w' : World} {B yb : Nat} {y : RS}

/-- The record of a decision. -/
def endRec (y : RS) (p : Int) (c : Bool) : Rc := ⟨3, p, if c then 1 else 0, (stand y.L p).t⟩

theorem field157 (w : World) (e t s : Int) (va : Option Addr) (vl vc : Nat) : (Instr.field 157 (.agg #[.int .i64 e, .int .i64 t, .int .i64 s, .slice va vl vc]) 1).run Tryz.prog w = .ok (.int .i64 t) w := by kernel_rfl

/-- What holds of a herald's records and clock. -/
structure RS.Fine (y : RS) : Prop where
  ok : ∀ r ∈ y.L, r.Ok
  arg : ∀ r ∈ y.L, 0 ≤ r.a ∧ r.a ≤ 4
  lL : (y.L.length + 2) * 32 ≤ 140737488355328
  lD : (y.D.length + 8) * 32 ≤ 140737488355328
  tm : y.tm + 1 < 9223372036854775808 ∧ 0 ≤ y.tm

set_option maxRecDepth 100000 in
set_option maxHeartbeats 1600000 in
theorem ydecide_ok (h : YAt w B yb y) (hF : y.Fine) (hbr : y.br = false) (p : Int) (c : Bool) :
    Calls Tryz.prog 130 #[.pointer (some ⟨yb, 0, none⟩), .int .i64 p, .bool c] w fun e w' => e = .returned (.bool true) ∧
      ∃ lv dv, YAt w' B yb ((y.wrote (endRec y p c) lv).dues dv (y.D.filter (Du.stays p (-1)) ++ newDues p y.tm (stand (y.L ++ [endRec y p c]) p).ps y.Q.toNat)) ∧ Fr (fun k => k = yb ∨ y.lv.ownBlock = some k) w w' ∧ (∀ k, lv.ownBlock = some k → y.lv.ownBlock = some k ∨ w.heap.size ≤ k) ∧ (∀ k, dv.ownBlock = some k → w.heap.size ≤ k) := by
  have H : Hid (YAt w B yb y) := h
  have HF : Hid y.Fine := hF
  have HBR : Hid (y.br = false) := hbr
  have HB8 : Hid ((y.L.length + 1) * 8 ≤ 140737488355328) := by have := hF.lL; show (y.L.length + 1) * 8 ≤ 140737488355328; omega
  have HB32 : Hid ((y.L.length + 1) * 32 ≤ 140737488355328) := by have := hF.lL; show (y.L.length + 1) * 32 ≤ 140737488355328; omega
  have HP8 : Hid (((y.L ++ [endRec y p c]).length + 1) * 8 ≤ 140737488355328) := by have := hF.lL; show ((y.L ++ [endRec y p c]).length + 1) * 8 ≤ 140737488355328; simp only [List.length_append, List.length_singleton]; omega
  have HA : Hid (∀ r ∈ y.L ++ [endRec y p c], 0 ≤ r.a ∧ r.a ≤ 4) := fun r hr => by
    rcases List.mem_append.1 hr with hr | hr
    · exact hF.arg r hr
    · simp only [List.mem_singleton] at hr
      subst hr
      cases c <;> simp [endRec]
  clear h hF hbr
  cases c
  · have HW : Hid (∀ W, YAt W B yb y → Calls Tryz.prog 131 #[.pointer (some ⟨yb, 0, none⟩), .agg #[.int .i64 3, .int .i64 p, .int .i64 0, .int .i64 (stand y.L p).t]] W fun e w' => e = .returned (.bool true) ∧ ∃ lv, YWrote W w' B yb y (endRec y p false) lv) := fun W hy => ywrite_ok hy HBR.out (endRec y p false) HB32.out
    have HPE : Hid (∀ W lv, YAt W B yb (y.wrote (endRec y p false) lv) → Calls Tryz.prog 106 #[.pointer (some ⟨yb, 0, none⟩), .int .i64 p] W fun e w' => e = .returned (.tuple #[]) ∧ ∃ dv, Pends W w' B yb (y.wrote (endRec y p false) lv) (y.D.filter (Du.stays p (-1)) ++ newDues p y.tm (stand (y.L ++ [endRec y p false]) p).ps y.Q.toNat) dv) := fun W lv hy => ypend_any (y := y.wrote (endRec y p false) lv) hy p HA.out HP8.out HF.out.lD HF.out.tm
    have hfl := field157
    go_enter Tryz.func130, Tryz.ntmps130
    go_wp2_with (first
      | (go_at_call 105; refine (stand_any H.out p HF.out.arg HB8.out).mono ?_; rintro e w1 ⟨v1, rfl, hv1, hf1⟩
         obtain ⟨va, vc, rfl, _⟩ := intRow_len hv1
         have F1 : Hid (Fr (fun _ => False) w w1) := hf1
         clear hv1 hf1)
      | (go_at_call 131; refine (HW.out _ (by exact H.out.after (F1.out.alloc _))).mono ?_; rintro e w2 ⟨rfl, lv, hw⟩
         have W2 : Hid (YAt w2 B yb (y.wrote (endRec y p false) lv) ∧ Fr (fun k => k = yb ∨ y.lv.ownBlock = some k) w w2 ∧ ∀ k, lv.ownBlock = some k → y.lv.ownBlock = some k ∨ w.heap.size ≤ k) := ⟨hw.at_, ((F1.out.alloc _).mono (fun _ h => h.elim) : Fr (fun k => k = yb ∨ y.lv.ownBlock = some k) w _).trans hw.fr (fun _ hk => .inl hk), fun k hk => by
           rcases hw.lies k hk with a | a
           · exact .inl a
           · exact .inr (Nat.le_trans (F1.out.alloc _).size a)⟩
         clear hw)
      | (go_at_call 106; refine (HPE.out _ _ W2.out.1).mono ?_; rintro e w3 ⟨rfl, dv, hp⟩
         have P3 : Hid (Pends w2 w3 B yb (y.wrote (endRec y p false) lv) (y.D.filter (Du.stays p (-1)) ++ newDues p y.tm (stand (y.L ++ [endRec y p false]) p).ps y.Q.toNat) dv) := hp
         clear hp))
    go_ret
    exact ⟨rfl, lv, dv, P3.out.at_, W2.out.2.1.trans P3.out.fr (fun k hk => .inl (.inl hk)), W2.out.2.2, fun k hk => Nat.le_trans W2.out.2.1.size (P3.out.lies k hk)⟩
  · have HW : Hid (∀ W, YAt W B yb y → Calls Tryz.prog 131 #[.pointer (some ⟨yb, 0, none⟩), .agg #[.int .i64 3, .int .i64 p, .int .i64 1, .int .i64 (stand y.L p).t]] W fun e w' => e = .returned (.bool true) ∧ ∃ lv, YWrote W w' B yb y (endRec y p true) lv) := fun W hy => ywrite_ok hy HBR.out (endRec y p true) HB32.out
    have HPE : Hid (∀ W lv, YAt W B yb (y.wrote (endRec y p true) lv) → Calls Tryz.prog 106 #[.pointer (some ⟨yb, 0, none⟩), .int .i64 p] W fun e w' => e = .returned (.tuple #[]) ∧ ∃ dv, Pends W w' B yb (y.wrote (endRec y p true) lv) (y.D.filter (Du.stays p (-1)) ++ newDues p y.tm (stand (y.L ++ [endRec y p true]) p).ps y.Q.toNat) dv) := fun W lv hy => ypend_any (y := y.wrote (endRec y p true) lv) hy p HA.out HP8.out HF.out.lD HF.out.tm
    have hfl := field157
    go_enter Tryz.func130, Tryz.ntmps130
    go_wp2_with (first
      | (go_at_call 105; refine (stand_any H.out p HF.out.arg HB8.out).mono ?_; rintro e w1 ⟨v1, rfl, hv1, hf1⟩
         obtain ⟨va, vc, rfl, _⟩ := intRow_len hv1
         have F1 : Hid (Fr (fun _ => False) w w1) := hf1
         clear hv1 hf1)
      | (go_at_call 131; refine (HW.out _ (by exact H.out.after (F1.out.alloc _))).mono ?_; rintro e w2 ⟨rfl, lv, hw⟩
         have W2 : Hid (YAt w2 B yb (y.wrote (endRec y p true) lv) ∧ Fr (fun k => k = yb ∨ y.lv.ownBlock = some k) w w2 ∧ ∀ k, lv.ownBlock = some k → y.lv.ownBlock = some k ∨ w.heap.size ≤ k) := ⟨hw.at_, ((F1.out.alloc _).mono (fun _ h => h.elim) : Fr (fun k => k = yb ∨ y.lv.ownBlock = some k) w _).trans hw.fr (fun _ hk => .inl hk), fun k hk => by
           rcases hw.lies k hk with a | a
           · exact .inl a
           · exact .inr (Nat.le_trans (F1.out.alloc _).size a)⟩
         clear hw)
      | (go_at_call 106; refine (HPE.out _ _ W2.out.1).mono ?_; rintro e w3 ⟨rfl, dv, hp⟩
         have P3 : Hid (Pends w2 w3 B yb (y.wrote (endRec y p true) lv) (y.D.filter (Du.stays p (-1)) ++ newDues p y.tm (stand (y.L ++ [endRec y p true]) p).ps y.Q.toNat) dv) := hp
         clear hp))
    go_ret
    exact ⟨rfl, lv, dv, P3.out.at_, W2.out.2.1.trans P3.out.fr (fun k hk => .inl (.inl hk)), W2.out.2.2, fun k hk => Nat.le_trans W2.out.2.1.size (P3.out.lies k hk)⟩
end

end Go.Proofs.YtkelpcjiediamaaGreat

/-
  The document's write whatever the keeper is at; Break; Out.
-/
namespace Go.Proofs.YtkelpcjiediamaaGreat
open Go.RowKit Go.Maps

section
variable {w w' : World} {B yb : Nat} {y : RS}

/-- What comes of writing a record. -/
inductive YOut (y : RS) (r : Rc) : Bool → RS → Prop
  | ok (lv : Value) (h : y.br = false) : YOut y r true (y.wrote r lv)
  | whole (lv : Value) (h : y.br = true) (k : 16 ≤ y.kp) : YOut y r false (y.down.wrote r lv)
  | torn (s : ByteArray) (h : y.br = true) (k : 0 < y.kp) (k2 : y.kp < 16) (t : Txt s ((rbytes r).take y.kp.toNat)) : YOut y r false (y.down.tear s)
  | none (h : y.br = true) (k : y.kp ≤ 0) : YOut y r false y.down

theorem ywrite_any (h : YAt w B yb y) (r : Rc) (hr : r.Ok) (hb : (y.L.length + 1) * 32 ≤ 140737488355328) :
    Calls Tryz.prog 131 #[.pointer (some ⟨yb, 0, none⟩), .agg #[.int .i64 r.k, .int .i64 r.p, .int .i64 r.a, .int .i64 r.m]] w fun e w' => ∃ ok y', e = .returned (.bool ok) ∧ YOut y r ok y' ∧ YAt w' B yb y' ∧ Fr (fun k => k = yb ∨ y.lv.ownBlock = some k) w w' ∧ (∀ k, y'.lv.ownBlock = some k → y.lv.ownBlock = some k ∨ w.heap.size ≤ k) := by
  cases hbr : y.br
  · exact (ywrite_ok h hbr r hb).mono fun _ w2 ⟨h1, lv, h2⟩ => ⟨true, _, h1, .ok lv hbr, h2.at_, h2.fr, h2.lies⟩
  · by_cases k1 : 16 ≤ y.kp
    · exact (ywrite_whole h hbr k1 r hr hb).mono fun _ w2 ⟨h1, lv, h2, h3, h4⟩ => ⟨false, _, h1, .whole lv hbr k1, h2, h3, h4⟩
    · by_cases k2 : 0 < y.kp
      · exact (ywrite_torn h hbr k2 (by omega) r hr).mono fun _ w2 ⟨h1, ⟨s, h2, h3⟩, h4⟩ => ⟨false, _, h1, .torn s hbr k2 (by omega) h2, h3, h4.mono (fun _ hk => .inl (.inl hk)), fun _ hk => .inl hk⟩
      · exact (ywrite_none h hbr (by omega) r hr).mono fun _ w2 ⟨h1, h2, h4⟩ => ⟨false, _, h1, .none hbr (by omega), h2, h4.mono (fun _ hk => .inl (.inl hk)), fun _ hk => .inl hk⟩

def RS.breaks (y : RS) (k : Int) : RS := { y with br := true, kp := k }

theorem RS.set_break (y : RS) (k : Int) : (y.cells.setIfInBounds 5 (.bool true)).setIfInBounds 6 (.int .i64 k) = (y.breaks k).cells := by
  obtain ⟨P, Q, T, K, dn, br, kp, tm, lv0, L, torn, dv0, D0, hv, H, gv, G, ov, O, nv, N⟩ := y
  kernel_rfl

set_option maxRecDepth 100000 in
theorem ybreak_any (h : YAt w B yb y) (k : Int) :
    Calls Tryz.prog 92 #[.pointer (some ⟨yb, 0, none⟩), .int .i64 k] w fun r w' => r = .returned (.int .i64 (if y.dn then 5 else 0)) ∧ YAt w' B yb (if y.dn then y else y.breaks k) ∧ Fr (fun k => k = yb) w w' := by
  have H : Hid (YAt w B yb y) := h
  have c4 : w.cell? ⟨yb, 4, none⟩ = some (.bool y.dn) := h.c 4
  have c5 : w.cell? ⟨yb, 5, none⟩ = some (.bool y.br) := h.c 5
  have c6 : w.cell? ⟨yb, 6, none⟩ = some (.int .i64 y.kp) := h.c 6
  have hf : ∀ o, w.frozen? ⟨yb, o, none⟩ = false := frozen_of_cells h.blk
  clear h
  cases hd : y.dn
  · rw [hd] at c4
    go_enter Tryz.func92, Tryz.ntmps92
    go_wp2
    go_ret
    have fr : Fr (fun k => k = yb) w ((w.setCell ⟨yb, 5, none⟩ (.bool true)).setCell ⟨yb, 6, none⟩ (.int .i64 k)) := ((Fr.refl (fun k => k = yb) w).setCell (p := ⟨yb, 5, none⟩) (.inl rfl) _).setCell (p := ⟨yb, 6, none⟩) (.inl rfl) _
    refine ⟨rfl, H.out.put fr ?_ rfl rfl (fr.ownsRow H.out.dues (fun k hk e => row_ne_blk H.out.dues H.out.blk (by decide) (by subst e; exact hk))) rfl rfl rfl rfl rfl rfl rfl rfl rfl rfl, fr⟩
    rw [setCell_cells (setCell_cells H.out.blk 5 (.bool true)) 6 (.int .i64 k), y.set_break]
  · rw [hd] at c4
    go_enter Tryz.func92, Tryz.ntmps92
    go_wp2
    go_ret
    exact ⟨rfl, H.out, Fr.refl _ _⟩

set_option maxRecDepth 100000 in
set_option maxHeartbeats 1600000 in
theorem ydecide_broken (h : YAt w B yb y) (hF : y.Fine) (hbr : y.br = true) (p : Int) (c : Bool) (hO : (endRec y p c).Ok) :
    Calls Tryz.prog 130 #[.pointer (some ⟨yb, 0, none⟩), .int .i64 p, .bool c] w fun e w' => e = .returned (.bool false) ∧ ∃ y', YOut y (endRec y p c) false y' ∧ YAt w' B yb y' ∧ Fr (fun k => k = yb ∨ y.lv.ownBlock = some k) w w' ∧ (∀ k, y'.lv.ownBlock = some k → y.lv.ownBlock = some k ∨ w.heap.size ≤ k) := by
  have H : Hid (YAt w B yb y) := h
  have HF : Hid y.Fine := hF
  have HBR : Hid (y.br = true) := hbr
  have HO : Hid (endRec y p c).Ok := hO
  have HB8 : Hid ((y.L.length + 1) * 8 ≤ 140737488355328) := by have := hF.lL; show (y.L.length + 1) * 8 ≤ 140737488355328; omega
  have HB32 : Hid ((y.L.length + 1) * 32 ≤ 140737488355328) := by have := hF.lL; show (y.L.length + 1) * 32 ≤ 140737488355328; omega
  clear h hF hbr hO
  cases c
  · have HW : Hid (∀ W, YAt W B yb y → Calls Tryz.prog 131 #[.pointer (some ⟨yb, 0, none⟩), .agg #[.int .i64 3, .int .i64 p, .int .i64 0, .int .i64 (stand y.L p).t]] W fun e w' => e = .returned (.bool false) ∧ ∃ y', YOut y (endRec y p false) false y' ∧ YAt w' B yb y' ∧ Fr (fun k => k = yb ∨ y.lv.ownBlock = some k) W w' ∧ (∀ k, y'.lv.ownBlock = some k → y.lv.ownBlock = some k ∨ W.heap.size ≤ k)) := fun W hy => (ywrite_any hy (endRec y p false) HO.out HB32.out).mono fun _ _ ⟨ok, y', h1, h2, h3⟩ => by
      cases h2 with
      | ok lv h => rw [HBR.out] at h; cases h
      | whole lv h k => exact ⟨h1, _, .whole lv h k, h3⟩
      | torn s h k k2 t => exact ⟨h1, _, .torn s h k k2 t, h3⟩
      | none h k => exact ⟨h1, _, .none h k, h3⟩
    have hfl := field157
    go_enter Tryz.func130, Tryz.ntmps130
    go_wp2_with (first
      | (go_at_call 105; refine (stand_any H.out p HF.out.arg HB8.out).mono ?_; rintro e w1 ⟨v1, rfl, hv1, hf1⟩
         obtain ⟨va, vc, rfl, _⟩ := intRow_len hv1
         have F1 : Hid (Fr (fun _ => False) w w1) := hf1
         clear hv1 hf1)
      | (go_at_call 131; refine (HW.out _ (by exact H.out.after (F1.out.alloc _))).mono ?_; rintro e w2 ⟨rfl, y', ho, hy2, hfr, hli⟩
         have W2 : Hid (YOut y (endRec y p false) false y' ∧ YAt w2 B yb y' ∧ Fr (fun k => k = yb ∨ y.lv.ownBlock = some k) w w2 ∧ ∀ k, y'.lv.ownBlock = some k → y.lv.ownBlock = some k ∨ w.heap.size ≤ k) := ⟨ho, hy2, ((F1.out.alloc _).mono (fun _ h => h.elim) : Fr (fun k => k = yb ∨ y.lv.ownBlock = some k) w _).trans hfr (fun _ hk => .inl hk), fun k hk => by
           rcases hli k hk with a | a
           · exact .inl a
           · exact .inr (Nat.le_trans (F1.out.alloc _).size a)⟩
         clear ho hy2 hfr hli))
    go_ret
    exact ⟨rfl, y', W2.out⟩
  · have HW : Hid (∀ W, YAt W B yb y → Calls Tryz.prog 131 #[.pointer (some ⟨yb, 0, none⟩), .agg #[.int .i64 3, .int .i64 p, .int .i64 1, .int .i64 (stand y.L p).t]] W fun e w' => e = .returned (.bool false) ∧ ∃ y', YOut y (endRec y p true) false y' ∧ YAt w' B yb y' ∧ Fr (fun k => k = yb ∨ y.lv.ownBlock = some k) W w' ∧ (∀ k, y'.lv.ownBlock = some k → y.lv.ownBlock = some k ∨ W.heap.size ≤ k)) := fun W hy => (ywrite_any hy (endRec y p true) HO.out HB32.out).mono fun _ _ ⟨ok, y', h1, h2, h3⟩ => by
      cases h2 with
      | ok lv h => rw [HBR.out] at h; cases h
      | whole lv h k => exact ⟨h1, _, .whole lv h k, h3⟩
      | torn s h k k2 t => exact ⟨h1, _, .torn s h k k2 t, h3⟩
      | none h k => exact ⟨h1, _, .none h k, h3⟩
    have hfl := field157
    go_enter Tryz.func130, Tryz.ntmps130
    go_wp2_with (first
      | (go_at_call 105; refine (stand_any H.out p HF.out.arg HB8.out).mono ?_; rintro e w1 ⟨v1, rfl, hv1, hf1⟩
         obtain ⟨va, vc, rfl, _⟩ := intRow_len hv1
         have F1 : Hid (Fr (fun _ => False) w w1) := hf1
         clear hv1 hf1)
      | (go_at_call 131; refine (HW.out _ (by exact H.out.after (F1.out.alloc _))).mono ?_; rintro e w2 ⟨rfl, y', ho, hy2, hfr, hli⟩
         have W2 : Hid (YOut y (endRec y p true) false y' ∧ YAt w2 B yb y' ∧ Fr (fun k => k = yb ∨ y.lv.ownBlock = some k) w w2 ∧ ∀ k, y'.lv.ownBlock = some k → y.lv.ownBlock = some k ∨ w.heap.size ≤ k) := ⟨ho, hy2, ((F1.out.alloc _).mono (fun _ h => h.elim) : Fr (fun k => k = yb ∨ y.lv.ownBlock = some k) w _).trans hfr (fun _ hk => .inl hk), fun k hk => by
           rcases hli k hk with a | a
           · exact .inl a
           · exact .inr (Nat.le_trans (F1.out.alloc _).size a)⟩
         clear ho hy2 hfr hli))
    go_ret
    exact ⟨rfl, y', W2.out⟩
end

end Go.Proofs.YtkelpcjiediamaaGreat

/-
  The document's Init.
-/
namespace Go.Proofs.YtkelpcjiediamaaGreat
open Go.RowKit Go.Maps

section
variable {w w' : World} {B yb : Nat} {y : RS}

set_option maxRecDepth 100000 in
theorem yinit_none (h : YAt w B yb y) {m : Int} (hm : ¬ (0 ≤ m ∧ m ≤ y.P - 1)) :
    Calls Tryz.prog 75 #[.pointer (some ⟨yb, 0, none⟩), .int .i64 m] w fun r w' => r = .returned (.tuple #[.int .i64 0, .int .i64 2]) ∧ w = w' := by
  have HM : Hid (decide (0 ≤ m ∧ m ≤ y.P - 1) = false) := decide_eq_false hm
  have c0 : w.cell? ⟨yb, 0, none⟩ = some (.int .i64 y.P) := h.c 0
  have hp1 := h.hP.2.1
  have hp2 := h.hP.2.2
  clear h hm
  go_enter Tryz.func75, Tryz.ntmps75
  go_wp2_with (go_at_call 72; refine (in_any _ _ _ _).mono ?_; rw [HM.out]; rintro e w1 ⟨rfl, rfl⟩)
  go_ret2
  exact ⟨rfl, rfl⟩

set_option maxRecDepth 100000 in
theorem yinit_down (h : YAt w B yb y) {m : Int} (hm : 0 ≤ m ∧ m ≤ y.P - 1) (hd : y.dn = true) :
    Calls Tryz.prog 75 #[.pointer (some ⟨yb, 0, none⟩), .int .i64 m] w fun r w' => r = .returned (.tuple #[.int .i64 0, .int .i64 5]) ∧ w = w' := by
  have HM : Hid (decide (0 ≤ m ∧ m ≤ y.P - 1) = true) := decide_eq_true hm
  have c0 : w.cell? ⟨yb, 0, none⟩ = some (.int .i64 y.P) := h.c 0
  have c4 : w.cell? ⟨yb, 4, none⟩ = some (.bool y.dn) := h.c 4
  rw [hd] at c4
  have hp1 := h.hP.2.1
  have hp2 := h.hP.2.2
  clear h hm
  go_enter Tryz.func75, Tryz.ntmps75
  go_wp2_with (go_at_call 72; refine (in_any _ _ _ _).mono ?_; rw [HM.out]; rintro e w1 ⟨rfl, rfl⟩)
  go_ret2
  exact ⟨rfl, rfl⟩

set_option maxRecDepth 100000 in
set_option maxHeartbeats 800000 in
theorem yinit_ending (h : YAt w B yb y) (hF : y.Fine) {m : Int} (hm : 0 ≤ m ∧ m ≤ y.P - 1) (hd : y.dn = false) (h0 : (stand y.L m).s ≠ 0) (h1 : (stand y.L m).s ≠ 1) :
    Calls Tryz.prog 75 #[.pointer (some ⟨yb, 0, none⟩), .int .i64 m] w fun r w' => r = .returned (.tuple #[.int .i64 0, .int .i64 9]) ∧ Fr (fun _ => False) w w' := by
  have H : Hid (YAt w B yb y) := h
  have HF : Hid y.Fine := hF
  have HB8 : Hid ((y.L.length + 1) * 8 ≤ 140737488355328) := by have := hF.lL; show (y.L.length + 1) * 8 ≤ 140737488355328; omega
  have HM : Hid (decide (0 ≤ m ∧ m ≤ y.P - 1) = true) := decide_eq_true hm
  have c0 : w.cell? ⟨yb, 0, none⟩ = some (.int .i64 y.P) := h.c 0
  have c4 : w.cell? ⟨yb, 4, none⟩ = some (.bool y.dn) := h.c 4
  rw [hd] at c4
  have hp1 := h.hP.2.1
  have hp2 := h.hP.2.2
  have g0 : ((stand y.L m).s == 0) = false := by simpa using h0
  have g1 : ((stand y.L m).s == 1) = false := by simpa using h1
  clear h hm hF h0 h1
  go_enter Tryz.func75, Tryz.ntmps75
  go_wp2_with (first
    | (go_at_call 72; refine (in_any _ _ _ _).mono ?_; rw [HM.out]; rintro e w1 ⟨rfl, rfl⟩)
    | (go_at_call 105; refine (stand_any H.out m HF.out.arg HB8.out).mono ?_; rintro e w1 ⟨v1, rfl, hv1, hf1⟩
       obtain ⟨va, vc, rfl, _⟩ := intRow_len hv1
       have F1 : Hid (Fr (fun _ => False) w w1) := hf1
       clear hv1 hf1))
  go_ret2
  exact ⟨rfl, F1.out.alloc _⟩
end

end Go.Proofs.YtkelpcjiediamaaGreat
