/-
  The document's Restart in every state.
-/
import Derived.Test.YtkelpcjiediamaaGreatYAdd2
namespace Go.Proofs.YtkelpcjiediamaaGreat
open Go.RowKit Go.Maps

/-- The dues of a herald taken up, of the first k producers. -/
def riseDues (L : List Rc) (tm : Int) (Q : Nat) : Nat → List Du
  | 0 => []
  | k + 1 => if 1 < (stand L k).s then (riseDues L tm Q k).filter (Du.stays k (-1)) ++ newDues k tm (stand L k).ps Q else riseDues L tm Q k

theorem riseDues_len (L : List Rc) (tm : Int) (Q : Nat) : ∀ k, (riseDues L tm Q k).length ≤ k * Q
  | 0 => by simp [riseDues]
  | k + 1 => by
    have ih := riseDues_len L tm Q k
    rw [riseDues, Nat.add_mul]
    split
    · rw [List.length_append]
      have h1 := List.length_filter_le (Du.stays k (-1)) (riseDues L tm Q k)
      have h2 := newDues_len k tm (stand L k).ps Q
      omega
    · omega

/-- Taken up, as far as producer k. -/
def RS.rising (y : RS) (k : Nat) (dv : Value) (H : List Int) : RS := { y with dn := false, torn := ⟨#[]⟩, dv := dv, D := riseDues y.L y.tm y.Q.toNat k, H := H }

section
variable {w w' : World} {B yb : Nat} {y : RS}

/-- While the document's herald is taken up. -/
structure Rising (w w' : World) (B yb : Nat) (y : RS) (k : Nat) (dv : Value) (H : List Int) : Prop where
  at_ : YAt w' B yb (y.rising k dv H)
  fr : Fr (fun b => b = yb ∨ y.hv.ownBlock = some b) w w'
  new : ∀ b, dv.ownBlock = some b → w.heap.size ≤ b
  len : H.length = y.H.length
  set : ∀ j, j < k → H[j]? = some y.tm

set_option maxRecDepth 100000 in
set_option maxHeartbeats 3200000 in
theorem yrestart_any (h : YAt w B yb y) (hd : y.dn = true) (hF : y.Fine) :
    Calls Tryz.prog 46 #[.pointer (some ⟨yb, 0, none⟩)] w fun r w' => r = .returned (.int .i64 0) ∧ ∃ dv H, Rising w w' B yb y y.H.length dv H := by
  have H : Hid (YAt w B yb y) := h
  have HF : Hid y.Fine := hF
  have HB8 : Hid ((y.L.length + 1) * 8 ≤ 140737488355328) := by have := hF.lL; show (y.L.length + 1) * 8 ≤ 140737488355328; omega
  have c4 : w.cell? ⟨yb, 4, none⟩ = some (.bool y.dn) := h.c 4
  have c9 : w.cell? ⟨yb, 9, none⟩ = some (.string y.torn) := h.c 9
  have c10 : w.cell? ⟨yb, 10, none⟩ = some y.dv := h.c 10
  have hf : ∀ o, w.frozen? ⟨yb, o, none⟩ = false := frozen_of_cells h.blk
  rw [hd] at c4
  have hp0 := h.hP.1
  have hp1 := h.hP.2.1
  have hp2 := h.hP.2.2
  have HQ4 : Hid (y.Q.toNat ≤ 4) := by have := h.hQ.2.2.2; show y.Q.toNat ≤ 4; omega
  have hlw := lt_of_block h.blk
  clear h hd hF
  go_enter Tryz.func46, Tryz.ntmps46
  go_wp2_with fail
  go_loopw [3] (fun i w' => ∃ k : Nat, (k : Int) ≤ y.P ∧ i = .int .i64 k ∧ ∃ dv H', Rising w w' B yb y k dv H') (fun i _ => (y.P - intOf i).toNat)
  case atStart =>
    have fr : Fr (fun k => k = yb) w (((w.setCell ⟨yb, 4, none⟩ (.bool false)).setCell ⟨yb, 9, none⟩ (.string ⟨#[]⟩)).setCell ⟨yb, 10, none⟩ (.slice none 0 0)) := (((Fr.refl (fun k => k = yb) w).setCell (p := ⟨yb, 4, none⟩) (.inl rfl) _).setCell (p := ⟨yb, 9, none⟩) (.inl rfl) _).setCell (p := ⟨yb, 10, none⟩) (.inl rfl) _
    refine ⟨0, by omega, rfl, .slice none 0 0, y.H, H.out.put fr (setCell_cells (setCell_cells (setCell_cells H.out.blk 4 (.bool false)) 9 (.string ⟨#[]⟩)) 10 (.slice none 0 0)) rfl rfl (World.ownsRow_nil _ _ _ _) rfl rfl rfl rfl rfl rfl rfl rfl rfl rfl, fr.mono (fun k hk => .inl (.inl hk)), fun b hb => by simp [Value.ownBlock] at hb, rfl, fun j hj => by omega⟩
  case round =>
    obtain ⟨k, hk, rfl, dv, H', hy⟩ := hrel
    have HY : Hid (Rising w wr B yb y k dv H') := hy
    have d0 : wr.cell? ⟨yb, 0, none⟩ = some (.int .i64 y.P) := hy.at_.c 0
    have d7 : wr.cell? ⟨yb, 7, none⟩ = some (.int .i64 y.tm) := hy.at_.c 7
    have d11 : wr.cell? ⟨yb, 11, none⟩ = some y.hv := hy.at_.c 11
    have hlen := hy.len
    by_cases hlt : (k : Int) < y.P
    · have hk2 : k < H'.length := by omega
      obtain ⟨hg, hcap, hxv, hhv, hhl, hhc, hhy, hhx, hhf⟩ := hy.at_.hrow (p := k) hk2
      have HHV : Hid ((y.rising k dv H').hv = .slice (some ⟨hg, 0, none⟩) (y.rising k dv H').H.length hcap) := hhv
      have hv' : y.hv = .slice (some ⟨hg, 0, none⟩) H'.length hcap := hhv
      have HV' : Hid (y.hv = .slice (some ⟨hg, 0, none⟩) H'.length hcap) := hhv
      rw [hv'] at d11
      have HSM : Hid (∀ j, j < k → H'[j]? = some y.tm) := hy.set
      have hki : (k : Int) < (H'.length : Int) := by omega
      have hk0 : (0 : Int) ≤ (k : Int) := by omega
      have hkl : k < 6 := by omega
      clear hy hhv hv'
      go_wp2_with fail
      go_region_held3 (fun w' => w'.cell? ⟨yb, 7, none⟩ = some (.int .i64 y.tm) ∧ w'.cell? ⟨yb, 11, none⟩ = some (.slice (some ⟨hg, 0, none⟩) H'.length hcap))
        (first | go_keep | (simp only [cell_set_ne _ _ (Ne.symm hhy), World.cell?_drew]; with_reducible exact ⟨d7, d11⟩))
        (fail)
      have hY := (HY.out.at_.heardDone HHV.out hk2 y.tm).after ((Fr.refl _ _).drew)
      have fg : Fr (fun b => b = hg) wr (wr.setCell ⟨hg, k, none⟩ (.int .i64 y.tm)).drew := ((Fr.refl (fun b => b = hg) wr).setCell (p := ⟨hg, k, none⟩) (.inl rfl) _).drew
      have FW : Hid (Fr (fun b => b = yb ∨ y.hv.ownBlock = some b) w (wr.setCell ⟨hg, k, none⟩ (.int .i64 y.tm)).drew) := HY.out.fr.trans fg (fun b hb => .inl (.inr (by rw [HV'.out, hb]; rfl)))
      generalize (wr.setCell ⟨hg, k, none⟩ (.int .i64 y.tm)).drew = W at hY FW ⊢
      have HW : Hid (YAt W B yb (y.rising k dv (H'.set k y.tm))) := hY.at_
      have HS2 : Hid (∀ j, j < k + 1 → (H'.set k y.tm)[j]? = some y.tm) := fun j hj => by
        by_cases e : j = k
        · subst e; rw [List.getElem?_set_self hk2]
        · rw [List.getElem?_set_ne (fun e2 => e e2.symm)]; exact HSM.out j (by omega)
      have HL2 : Hid ((H'.set k y.tm).length = y.H.length) := by show (H'.set k y.tm).length = y.H.length; rw [List.length_set]; exact HY.out.len
      have HNEW : Hid (∀ b, dv.ownBlock = some b → w.heap.size ≤ b) := HY.out.new
      clear hY fg d0 d7 d11 hhx hhf
      obtain ⟨z, hz⟩ : ∃ z, stand y.L k = z := ⟨_, rfl⟩
      have HZ : Hid (stand y.L k = z) := hz
      clear hz
      by_cases h1 : 1 < z.s
      · have HD : Hid (riseDues y.L y.tm y.Q.toNat (k + 1) = (riseDues y.L y.tm y.Q.toNat k).filter (Du.stays k (-1)) ++ newDues k y.tm z.ps y.Q.toNat) := by
          show riseDues y.L y.tm y.Q.toNat (k + 1) = _
          rw [riseDues, HZ.out, if_pos h1]
        have HDL : Hid (((riseDues y.L y.tm y.Q.toNat k).length + 8) * 32 ≤ 140737488355328) := by
          show ((riseDues y.L y.tm y.Q.toNat k).length + 8) * 32 ≤ 140737488355328
          have := riseDues_len y.L y.tm y.Q.toNat k
          have h2 : k * y.Q.toNat ≤ 6 * 4 := Nat.mul_le_mul (by omega) HQ4.out
          omega
        go_wp2_with (first
          | (go_at_call 105; refine (stand_any (y := y.rising k dv (H'.set k y.tm)) (by exact HW.out) k HF.out.arg HB8.out).mono ?_; rw [show stand (y.rising k dv (H'.set k y.tm)).L k = z from HZ.out]; rintro e w2 ⟨v2, rfl, hv2, hf2⟩
             obtain ⟨va, vc, rfl, _⟩ := intRow_len hv2
             have F2 : Hid (Fr (fun _ => False) W w2) := hf2
             clear hv2 hf2)
          | (go_at_call 106; refine (ypend_any (y := y.rising k dv (H'.set k y.tm)) (by exact HW.out.after (F2.out.alloc _)) k HF.out.arg HB8.out HDL.out HF.out.tm).mono ?_; rintro e w3 ⟨rfl, dv2, hp⟩
             have P3 : Hid (Pends (w2.alloc (.cells #[.int .i64 z.e, .int .i64 z.t, .int .i64 z.s, .slice va z.ps.length vc] 157)) w3 B yb (y.rising k dv (H'.set k y.tm)) ((riseDues y.L y.tm y.Q.toNat k).filter (Du.stays k (-1)) ++ newDues k y.tm (stand y.L k).ps y.Q.toNat) dv2) := hp
             clear hp))
        go_roundw
        case rel =>
          have hzw : w.heap.size ≤ (w2.alloc (.cells #[.int .i64 z.e, .int .i64 z.t, .int .i64 z.s, .slice va z.ps.length vc] 157)).heap.size := Nat.le_trans FW.out.size (F2.out.alloc _).size
          refine ⟨k + 1, by omega, by go_num, dv2, H'.set k y.tm, ?_, ?_, fun b hb => Nat.le_trans hzw (P3.out.lies b hb), HL2.out, HS2.out⟩
          · have e1 : y.rising (k + 1) dv2 (H'.set k y.tm) = (y.rising k dv (H'.set k y.tm)).dues dv2 ((riseDues y.L y.tm y.Q.toNat k).filter (Du.stays k (-1)) ++ newDues k y.tm (stand y.L k).ps y.Q.toNat) := by
              unfold RS.rising RS.dues
              rw [HD.out, HZ.out]
            rw [e1]
            exact P3.out.at_
          · exact (FW.out.trans (F2.out.alloc _) (fun _ h => h.elim)).trans P3.out.fr (fun b hb => .inl (.inl hb))
        case measure => simp [intOf]; omega
      · have HD : Hid (riseDues y.L y.tm y.Q.toNat (k + 1) = riseDues y.L y.tm y.Q.toNat k) := by
          show riseDues y.L y.tm y.Q.toNat (k + 1) = _
          rw [riseDues, HZ.out, if_neg h1]
        go_wp2_with (first
          | (go_at_call 105; refine (stand_any (y := y.rising k dv (H'.set k y.tm)) (by exact HW.out) k HF.out.arg HB8.out).mono ?_; rw [show stand (y.rising k dv (H'.set k y.tm)).L k = z from HZ.out]; rintro e w2 ⟨v2, rfl, hv2, hf2⟩
             obtain ⟨va, vc, rfl, _⟩ := intRow_len hv2
             have F2 : Hid (Fr (fun _ => False) W w2) := hf2
             clear hv2 hf2))
        go_roundw
        case rel =>
          refine ⟨k + 1, by omega, by go_num, dv, H'.set k y.tm, ?_, FW.out.trans (F2.out.alloc _) (fun _ h => h.elim), HNEW.out, HL2.out, HS2.out⟩
          have e1 : y.rising (k + 1) dv (H'.set k y.tm) = y.rising k dv (H'.set k y.tm) := by
            unfold RS.rising
            rw [HD.out]
          rw [e1]
          exact HW.out.after (F2.out.alloc _)
        case measure => simp [intOf]; omega
    · have hkP : k = y.H.length := by omega
      subst hkP
      clear hy
      go_wp2
      go_ret
      exact ⟨rfl, dv, H', HY.out⟩
end

end Go.Proofs.YtkelpcjiediamaaGreat

/-
  The document's Produce.
-/
namespace Go.Proofs.YtkelpcjiediamaaGreat
open Go.RowKit Go.Maps

section
variable {w w' : World} {B yb : Nat} {y : RS}

set_option maxRecDepth 100000 in
theorem yprod_none (h : YAt w B yb y) {m q : Int} (hm : ¬ (0 ≤ m ∧ m ≤ y.P - 1)) (ep : Int) (ts : ByteArray) :
    Calls Tryz.prog 78 #[.pointer (some ⟨yb, 0, none⟩), .int .i64 m, .int .i64 ep, .int .i64 q, .string ts] w fun r w' => r = .returned (.int .i64 2) ∧ w = w' := by
  have HM : Hid (decide (0 ≤ m ∧ m ≤ y.P - 1) = false) := decide_eq_false hm
  have c0 : w.cell? ⟨yb, 0, none⟩ = some (.int .i64 y.P) := h.c 0
  have hp1 := h.hP.2.1
  have hp2 := h.hP.2.2
  clear h hm
  go_enter Tryz.func78, Tryz.ntmps78
  go_wp2_with (go_at_call 72; refine (in_any _ _ _ _).mono ?_; rw [HM.out]; rintro e w1 ⟨rfl, rfl⟩)
  go_ret
  exact ⟨rfl, rfl⟩

set_option maxRecDepth 100000 in
theorem yprod_nopart (h : YAt w B yb y) {m q : Int} (hm : 0 ≤ m ∧ m ≤ y.P - 1) (hq : ¬ (0 ≤ q ∧ q ≤ y.Q - 1)) (ep : Int) (ts : ByteArray) :
    Calls Tryz.prog 78 #[.pointer (some ⟨yb, 0, none⟩), .int .i64 m, .int .i64 ep, .int .i64 q, .string ts] w fun r w' => r = .returned (.int .i64 3) ∧ w = w' := by
  have HM : Hid (decide (0 ≤ m ∧ m ≤ y.P - 1) = true) := decide_eq_true hm
  have HQ : Hid (decide (0 ≤ q ∧ q ≤ y.Q - 1) = false) := decide_eq_false hq
  have c0 : w.cell? ⟨yb, 0, none⟩ = some (.int .i64 y.P) := h.c 0
  have c1 : w.cell? ⟨yb, 1, none⟩ = some (.int .i64 y.Q) := h.c 1
  have hp1 := h.hP.2.1
  have hp2 := h.hP.2.2
  have hq1 := h.hQ.2.2.1
  have hq2 := h.hQ.2.2.2
  clear h hm hq
  go_enter Tryz.func78, Tryz.ntmps78
  go_wp2_with (go_at_call 72; refine (in_any _ _ _ _).mono ?_; (first | rw [HM.out] | rw [HQ.out]); rintro e w1 ⟨rfl, rfl⟩)
  go_ret
  exact ⟨rfl, rfl⟩

set_option maxRecDepth 100000 in
theorem yprod_long (h : YAt w B yb y) {m q : Int} (hm : 0 ≤ m ∧ m ≤ y.P - 1) (hq : 0 ≤ q ∧ q ≤ y.Q - 1) (ep : Int) {ts : ByteArray} (ht : 8 < ts.size) (hm2 : ts.size ≤ 140737488355328) :
    Calls Tryz.prog 78 #[.pointer (some ⟨yb, 0, none⟩), .int .i64 m, .int .i64 ep, .int .i64 q, .string ts] w fun r w' => r = .returned (.int .i64 4) ∧ w = w' := by
  have HM : Hid (decide (0 ≤ m ∧ m ≤ y.P - 1) = true) := decide_eq_true hm
  have HQ : Hid (decide (0 ≤ q ∧ q ≤ y.Q - 1) = true) := decide_eq_true hq
  have c0 : w.cell? ⟨yb, 0, none⟩ = some (.int .i64 y.P) := h.c 0
  have c1 : w.cell? ⟨yb, 1, none⟩ = some (.int .i64 y.Q) := h.c 1
  have hp1 := h.hP.2.1
  have hp2 := h.hP.2.2
  have hq1 := h.hQ.2.2.1
  have hq2 := h.hQ.2.2.2
  have ht' : (8 : Int) < (ts.size : Int) := by omega
  clear h hm hq
  go_enter Tryz.func78, Tryz.ntmps78
  go_wp2_with (go_at_call 72; refine (in_any _ _ _ _).mono ?_; (first | rw [HM.out] | rw [HQ.out]); rintro e w1 ⟨rfl, rfl⟩)
  go_ret
  exact ⟨rfl, rfl⟩

set_option maxRecDepth 100000 in
set_option maxHeartbeats 800000 in
theorem yprod_away (h : YAt w B yb y) (hF : y.Fine) {m : Int} (hm : 0 ≤ m ∧ m ≤ y.P - 1) {q : Int} (hq : 0 ≤ q ∧ q ≤ y.Q - 1) {ep : Int} (ht : turned y m ep ≠ 0) {ts : ByteArray} (h8 : ts.size ≤ 8) :
    Calls Tryz.prog 78 #[.pointer (some ⟨yb, 0, none⟩), .int .i64 m, .int .i64 ep, .int .i64 q, .string ts] w fun r w' => r = .returned (.int .i64 (turned y m ep)) ∧ Fr (fun _ => False) w w' := by
  have H : Hid (YAt w B yb y) := h
  have HF : Hid y.Fine := hF
  have HB8 : Hid ((y.L.length + 1) * 8 ≤ 140737488355328) := by have := hF.lL; show (y.L.length + 1) * 8 ≤ 140737488355328; omega
  have HM : Hid (decide (0 ≤ m ∧ m ≤ y.P - 1) = true) := decide_eq_true hm
  have HQ : Hid (decide (0 ≤ q ∧ q ≤ y.Q - 1) = true) := decide_eq_true hq
  have c0 : w.cell? ⟨yb, 0, none⟩ = some (.int .i64 y.P) := h.c 0
  have c1 : w.cell? ⟨yb, 1, none⟩ = some (.int .i64 y.Q) := h.c 1
  have hp1 := h.hP.2.1
  have hp2 := h.hP.2.2
  have hq1 := h.hQ.2.2.1
  have hq2 := h.hQ.2.2.2
  have hlt := lt_of_block h.blk
  have ht' : ¬ (8 : Int) < (ts.size : Int) := by omega
  obtain ⟨z, hz⟩ : ∃ z, stand y.L m = z := ⟨_, rfl⟩
  have HZ : Hid (stand y.L m = z) := hz
  unfold turned at ht ⊢
  rw [hz] at ht ⊢
  obtain ⟨sp, hsp⟩ : ∃ sp, speaks y.dn z.e ep = sp := ⟨_, rfl⟩
  have HSP : Hid (speaks y.dn z.e ep = sp) := hsp
  rw [hsp] at ht ⊢
  clear h hm hF hz hsp hq
  by_cases h0 : sp ≠ 0
  · rw [if_pos h0]
    have h0' : (sp == 0) = false := by simpa using h0
    clear ht h0
    go_enter Tryz.func78, Tryz.ntmps78
    go_wp2_with (first
      | (go_at_call 72; refine (in_any _ _ _ _).mono ?_; (first | rw [HM.out] | rw [HQ.out]); rintro e w1 ⟨rfl, rfl⟩)
      | (go_at_call 105; refine (stand_any H.out m HF.out.arg HB8.out).mono ?_; rw [HZ.out]; rintro e w1 ⟨v1, rfl, hv1, hf1⟩
         obtain ⟨va, vc, rfl, _⟩ := intRow_len hv1
         have F1 : Hid (Fr (fun _ => False) w w1) := hf1
         clear hv1 hf1)
      | (go_at_call 132; refine (yspeaks_any (by exact H.out.after (F1.out.alloc _)) _ _ _ _ _ _ ep).mono ?_; rw [HSP.out]; rintro e w2 ⟨rfl, hf2⟩
         have F2 : Hid (Fr (fun _ => False) w w2) := (F1.out.alloc _).trans hf2 (fun _ h => h.elim)
         clear hf2))
    go_ret
    exact ⟨rfl, F2.out⟩
  · have h0 : sp = 0 := by omega
    subst h0
    rw [if_neg (by omega)] at ht ⊢
    by_cases h1 : z.s = 0
    · rw [if_pos h1]
      have HS : Hid (z.s = 0) := h1
      clear ht h1 h0
      go_enter Tryz.func78, Tryz.ntmps78
      go_wp2_with (first
        | (go_at_call 72; refine (in_any _ _ _ _).mono ?_; (first | rw [HM.out] | rw [HQ.out]); rintro e w1 ⟨rfl, rfl⟩)
        | (go_at_call 105; refine (stand_any H.out m HF.out.arg HB8.out).mono ?_; rw [HZ.out, HS.out]; rintro e w1 ⟨v1, rfl, hv1, hf1⟩
           obtain ⟨va, vc, rfl, _⟩ := intRow_len hv1
           have F1 : Hid (Fr (fun _ => False) w w1) := hf1
           clear hv1 hf1)
        | (go_at_call 132; refine (yspeaks_any (by exact H.out.after (F1.out.alloc _)) _ _ _ _ _ _ ep).mono ?_; rw [HSP.out]; rintro e w2 ⟨rfl, hf2⟩
           have k2 : w2.cell? ⟨w1.heap.size, 2, none⟩ = some (.int .i64 0) := Fr.box (S := fun _ => False) hf2 id 2
           have F2 : Hid (Fr (fun _ => False) w w2) := (F1.out.alloc _).trans hf2 (fun _ h => h.elim)
           clear hf2))
      go_ret
      exact ⟨rfl, F2.out⟩
    · rw [if_neg h1] at ht ⊢
      have h2 : 1 < z.s := by
        by_cases h2 : 1 < z.s
        · exact h2
        · rw [if_neg h2] at ht; exact absurd rfl ht
      rw [if_pos h2]
      have h1' : (z.s == 0) = false := by simpa using h1
      clear ht h1 h0
      go_enter Tryz.func78, Tryz.ntmps78
      go_wp2_with (first
        | (go_at_call 72; refine (in_any _ _ _ _).mono ?_; (first | rw [HM.out] | rw [HQ.out]); rintro e w1 ⟨rfl, rfl⟩)
        | (go_at_call 105; refine (stand_any H.out m HF.out.arg HB8.out).mono ?_; rw [HZ.out]; rintro e w1 ⟨v1, rfl, hv1, hf1⟩
           obtain ⟨va, vc, rfl, _⟩ := intRow_len hv1
           have F1 : Hid (Fr (fun _ => False) w w1) := hf1
           clear hv1 hf1)
        | (go_at_call 132; refine (yspeaks_any (by exact H.out.after (F1.out.alloc _)) _ _ _ _ _ _ ep).mono ?_; rw [HSP.out]; rintro e w2 ⟨rfl, hf2⟩
           have k2 : w2.cell? ⟨w1.heap.size, 2, none⟩ = some (.int .i64 z.s) := Fr.box (S := fun _ => False) hf2 id 2
           have F2 : Hid (Fr (fun _ => False) w w2) := (F1.out.alloc _).trans hf2 (fun _ h => h.elim)
           clear hf2))
      go_ret
      exact ⟨rfl, F2.out⟩

/-- What Produce comes to where a transaction goes on. -/
inductive YPut (w : World) (B yb : Nat) (y : RS) (i q : Nat) (g : GL) (t : Int) (ts : ByteArray) (o : Bool) (ps : List Int) : Ending → World → Prop
  | not {w' : World} (hn : (q : Int) ∉ ps ∨ rOpen g.L i t = false) (f : Fr (fun _ => False) w w') : YPut w B yb y i q g t ts o ps (.returned (.int .i64 11)) w'
  | out {w' : World} (hi : (q : Int) ∈ ps) (hr : rOpen g.L i t = true) (ho : o = true) (f : Fr (fun _ => False) w w') : YPut w B yb y i q g t ts o ps (.returned (.int .i64 10)) w'
  | bad {w' : World} {u' : Value} (hi : (q : Int) ∈ ps) (hr : rOpen g.L i t = true) (ho : o = false) (hc : rCode g.L i t ts ≠ 0) (hm : YMoved w w' B yb y (y.setG q ⟨g.yb, u', rAppended g.L i t ts⟩)) (ha : GApart (y.setG q ⟨g.yb, u', rAppended g.L i t ts⟩).G) : YPut w B yb y i q g t ts o ps (.returned (.int .i64 (rCode g.L i t ts))) w'
  | ok {w' : World} {u' : Value} (hi : (q : Int) ∈ ps) (hr : rOpen g.L i t = true) (ho : o = false) (hc : rCode g.L i t ts = 0) (hm : YMoved w w' B yb y ((y.setG q ⟨g.yb, u', rAppended g.L i t ts⟩).setH i y.tm)) (ha : GApart (y.setG q ⟨g.yb, u', rAppended g.L i t ts⟩).G) : YPut w B yb y i q g t ts o ps (.returned (.int .i64 0)) w'

set_option maxRecDepth 100000 in
set_option maxHeartbeats 3200000 in
theorem yprod_going (h : YAt w B yb y) (hF : y.Fine) (hap : GApart y.G) {i : Nat} (hm : (i : Int) < y.P) {q : Nat} {g : GL} (hgq : y.G[q]? = some g) {o : Bool} (ho : y.O[q]? = some o) {ep : Int} (hsp : speaks y.dn (stand y.L i).e ep = 0) (hs : (stand y.L i).s = 1) (hb : (g.L.length + 1) * 40 ≤ 140737488355328) {ts : ByteArray} (h8 : ts.size ≤ 8) :
    Calls Tryz.prog 78 #[.pointer (some ⟨yb, 0, none⟩), .int .i64 i, .int .i64 ep, .int .i64 q, .string ts] w (YPut w B yb y i q g (stand y.L i).t ts o (stand y.L i).ps) := by
  have H : Hid (YAt w B yb y) := h
  have HF : Hid y.Fine := hF
  have HAP : Hid (GApart y.G) := hap
  have HGQ : Hid (y.G[q]? = some g) := hgq
  have HBL : Hid ((g.L.length + 1) * 40 ≤ 140737488355328) := hb
  have HB8 : Hid ((y.L.length + 1) * 8 ≤ 140737488355328) := by have := hF.lL; show (y.L.length + 1) * 8 ≤ 140737488355328; omega
  have HTS : Hid (ts.size ≤ maxLen) := by show ts.size ≤ maxLen; unfold maxLen; omega
  have hql := (List.getElem?_eq_some_iff.1 ho).1
  have hgl := (List.getElem?_eq_some_iff.1 hgq).1
  have hQ := h.hQ
  have hPP := h.hP
  have HIH : Hid (i < y.H.length) := by show i < y.H.length; omega
  have HM : Hid (decide (0 ≤ (i : Int) ∧ (i : Int) ≤ y.P - 1) = true) := decide_eq_true ⟨by omega, by omega⟩
  have HQ : Hid (decide (0 ≤ (q : Int) ∧ (q : Int) ≤ y.Q - 1) = true) := decide_eq_true ⟨by omega, by omega⟩
  have c0 : w.cell? ⟨yb, 0, none⟩ = some (.int .i64 y.P) := h.c 0
  have c1 : w.cell? ⟨yb, 1, none⟩ = some (.int .i64 y.Q) := h.c 1
  have c13 : w.cell? ⟨yb, 13, none⟩ = some y.ov := h.c 13
  obtain ⟨og, ocap, hov, hog, hoc, k0⟩ := h.gout ho
  rw [hov] at c13
  obtain ⟨gg, gcap, hgv, hggl, hgc, g0⟩ := h.glog hgq
  have c12 : w.cell? ⟨yb, 12, none⟩ = some y.gv := h.c 12
  rw [hgv] at c12
  have HGM : Hid (g ∈ y.G) := List.mem_of_getElem? hgq
  have NGG : Hid (¬ (gg = g.yb ∨ g.u.ownBlock = some gg)) := fun e => by
    have t0 := tag_row h.logs (k := gg) (by rw [hgv]; rfl)
    rcases (h.refs g HGM.out).tags e with t1 | t1 <;> rw [t0] at t1 <;> cases t1
  have hp1 := h.hP.2.1
  have hp2 := h.hP.2.2
  have hq1 := h.hQ.2.2.1
  have hq2 := h.hQ.2.2.2
  have hlt := lt_of_block h.blk
  have ht' : ¬ (8 : Int) < (ts.size : Int) := by omega
  obtain ⟨z, hz⟩ : ∃ z, stand y.L i = z := ⟨_, rfl⟩
  have HZ : Hid (stand y.L i = z) := hz
  rw [hz] at hsp hs ⊢
  have HSP : Hid (speaks y.dn z.e ep = 0) := hsp
  have HS : Hid (z.s = 1) := hs
  have hqi0 : (0 : Int) ≤ (q : Int) := by omega
  have hqi1 : (q : Int) < y.O.length := by omega
  have hqi2 : (q : Int) < y.G.length := by omega
  have hii0 : (0 : Int) ≤ (i : Int) := by omega
  have hi64 : (i : Int) ≤ 6 := by omega
  obtain ⟨inb, hinb⟩ : ∃ b, decide ((q : Int) ∈ z.ps) = b := ⟨_, rfl⟩
  have HIN : Hid (decide ((q : Int) ∈ z.ps) = inb) := hinb
  obtain ⟨opb, hopb⟩ : ∃ b, rOpen g.L i z.t = b := ⟨_, rfl⟩
  have HOP : Hid (rOpen g.L i z.t = opb) := hopb
  clear h hm hF hz hsp hQ ho hov hap hgq hPP hb hs hgv hinb hopb
  go_enter Tryz.func78, Tryz.ntmps78
  go_wp2_with (first
    | (go_at_call 72; refine (in_any _ _ _ _).mono ?_; (first | rw [HM.out] | rw [HQ.out]); rintro e w1 ⟨rfl, rfl⟩)
    | (go_at_call 105; refine (stand_any H.out i HF.out.arg HB8.out).mono ?_; rw [HZ.out, HS.out]; rintro e w1 ⟨v1, rfl, hv1, hf1⟩
       obtain ⟨va, vc, rfl, _⟩ := intRow_len hv1
       have F1 : Hid (Fr (fun _ => False) w w1) := hf1
       have V1 : Hid (w1.ownsRow w.heap.size 3 1 (.slice va z.ps.length vc) z.ps.length (intCells z.ps)) := hv1
       clear hv1 hf1)
    | (go_at_call 132; refine (yspeaks_any (by exact H.out.after (F1.out.alloc _)) _ _ _ _ _ _ ep).mono ?_; rw [HSP.out]; rintro e w2 ⟨rfl, hf2⟩
       have B2 : Hid (w2.heap[w1.heap.size]? = some (.cells #[.int .i64 z.e, .int .i64 z.t, .int .i64 1, .slice va z.ps.length vc] 157 (0, 0))) := (hf2.block _ (by simp) id).trans (heap_alloc_new _ _)
       have k2 : w2.cell? ⟨w1.heap.size, 2, none⟩ = some (.int .i64 1) := Fr.box (S := fun _ => False) hf2 id 2
       have k1 : w2.cell? ⟨w1.heap.size, 1, none⟩ = some (.int .i64 z.t) := Fr.box (S := fun _ => False) hf2 id 1
       have k3 : w2.cell? ⟨w1.heap.size, 3, none⟩ = some (.slice va z.ps.length vc) := Fr.box (S := fun _ => False) hf2 id 3
       have F2 : Hid (Fr (fun _ => False) w w2) := (F1.out.alloc _).trans hf2 (fun _ h => h.elim)
       have V2 : Hid (w2.ownsRow w.heap.size 3 1 (.slice va z.ps.length vc) z.ps.length (intCells z.ps)) := hf2.ownsRow ((nofr _).ownsRow V1.out (fun _ _ => id)) (fun _ _ => id)
       have d12 := (F2.out.cell (p := ⟨yb, 12, none⟩) hlt id).trans c12
       have h0 := (F2.out.cell (p := ⟨gg, q, none⟩) hggl id).trans g0
       clear hf2)
    | (go_at_call 133; refine (has_any V2.out q).mono ?_; rw [HIN.out]; rintro e w3 ⟨rfl, rfl⟩))
  go_region_held3 (fun w' => w'.cell? ⟨yb, 12, none⟩ = some (.slice (some ⟨gg, 0, none⟩) y.G.length gcap) ∧ w'.cell? ⟨gg, q, none⟩ = some (.pointer (some ⟨g.yb, 0, none⟩)) ∧ w'.cell? ⟨w1.heap.size, 1, none⟩ = some (.int .i64 z.t))
    (first | with_reducible exact C4 | exact ⟨d12, h0, k1⟩ | go_keep)
    ((go_at_call 137; refine (rOpen_any (w := w2.drew) (H.out.after F2.out.drew |>.refs g HGM.out) i z.t).mono ?_; rw [HOP.out]; rintro e w4 ⟨rfl, hf4⟩
      have F4 : Hid (Fr (fun _ => False) w w4) := F2.out.drew.trans hf4 (fun _ h => h.elim)
      have F24 : Hid (Fr (fun _ => False) w2 w4) := ((Fr.refl _ _).drew : Fr (fun _ => False) w2 w2.drew).trans hf4 (fun _ h => h.elim)
      have C4 : w4.cell? ⟨yb, 12, none⟩ = some (.slice (some ⟨gg, 0, none⟩) y.G.length gcap) ∧ w4.cell? ⟨gg, q, none⟩ = some (.pointer (some ⟨g.yb, 0, none⟩)) ∧ w4.cell? ⟨w1.heap.size, 1, none⟩ = some (.int .i64 z.t) := ⟨(F4.out.cell (p := ⟨yb, 12, none⟩) hlt id).trans c12, (F4.out.cell (p := ⟨gg, q, none⟩) hggl id).trans g0, (F24.out.cell (p := ⟨w1.heap.size, 1, none⟩) (lt_of_block B2.out) id).trans k1⟩
      have d13 := (F4.out.cell (p := ⟨yb, 13, none⟩) hlt id).trans c13
      have d0 := (F4.out.cell (p := ⟨og, q, none⟩) hog id).trans k0
      clear hf4))
  cases inb
  · go_wp2_with fail
    go_ret
    exact .not (.inl (of_decide_eq_false HIN.out)) F4.out
  cases opb
  · go_wp2_with fail
    go_ret
    exact .not (.inr HOP.out) F4.out
  cases o
  · obtain ⟨C41, C42, C43⟩ := C4
    go_wp2_with fail
    go_region_held3 (fun w' => w'.cell? ⟨yb, 12, none⟩ = some (.slice (some ⟨gg, 0, none⟩) y.G.length gcap) ∧ w'.cell? ⟨gg, q, none⟩ = some (.pointer (some ⟨g.yb, 0, none⟩)) ∧ w'.cell? ⟨w1.heap.size, 1, none⟩ = some (.int .i64 z.t))
      (first | with_reducible exact C5 | exact ⟨C41, C42, C43⟩ | go_keep)
      ((go_at_call 138; refine (rAppend_step (w := w4.drew) (H.out.after F4.out.drew |>.refs g HGM.out) i z.t ts HTS.out HBL.out).mono ?_; rintro e w5 ⟨rfl, u', hl⟩
        have hmv := (H.out.after F4.out.drew).logDone HAP.out HGQ.out hl
        have L5 : Hid (YMoved w w5 B yb y (y.setG q ⟨g.yb, u', rAppended g.L i z.t ts⟩) ∧ GApart (y.setG q ⟨g.yb, u', rAppended g.L i z.t ts⟩).G) := ⟨hmv.1.behind F4.out.drew, hmv.2⟩
        have hw1 : w.heap.size ≤ w1.heap.size := F1.out.size
        have C5 : w5.cell? ⟨yb, 12, none⟩ = some (.slice (some ⟨gg, 0, none⟩) y.G.length gcap) ∧ w5.cell? ⟨gg, q, none⟩ = some (.pointer (some ⟨g.yb, 0, none⟩)) ∧ w5.cell? ⟨w1.heap.size, 1, none⟩ = some (.int .i64 z.t) := ⟨(hl.fr.cell (p := ⟨yb, 12, none⟩) (Nat.lt_of_lt_of_le hlt F4.out.size) (H.out.ne_ref HGM.out)).trans C41, (hl.fr.cell (p := ⟨gg, q, none⟩) (Nat.lt_of_lt_of_le hggl F4.out.size) (NGG.out)).trans C42, (hl.fr.cell (p := ⟨w1.heap.size, 1, none⟩) (Nat.lt_of_lt_of_le (lt_of_block B2.out) F24.out.size) (fun e => by have := (H.out.foot_lt (k := w1.heap.size) (.inr (.inr (.inr (.inr (.inr (.inr (.inr ⟨g, HGM.out, e⟩)))))))).1; omega)).trans C43⟩
        obtain ⟨hg, hcap, hxv, hhv, hhl, hhc, hhy, hhx, hhf⟩ := hmv.1.at_.hrow (p := i) HIH.out
        have HHV : Hid ((y.setG q ⟨g.yb, u', rAppended g.L i z.t ts⟩).hv = .slice (some ⟨hg, 0, none⟩) (y.setG q ⟨g.yb, u', rAppended g.L i z.t ts⟩).H.length hcap) := hhv
        have d7 : w5.cell? ⟨yb, 7, none⟩ = some (.int .i64 y.tm) := hmv.1.at_.c 7
        have d11 : w5.cell? ⟨yb, 11, none⟩ = some (y.setG q ⟨g.yb, u', rAppended g.L i z.t ts⟩).hv := hmv.1.at_.c 11
        rw [hhv] at d11
        obtain ⟨hlen, hhlen⟩ : ∃ hlen, (y.setG q ⟨g.yb, u', rAppended g.L i z.t ts⟩).H.length = hlen := ⟨_, rfl⟩
        rw [hhlen] at d11 hhc
        have hi5 : (i : Int) < hlen := (by
          have h1 : i < (y.setG q ⟨g.yb, u', rAppended g.L i z.t ts⟩).H.length := HIH.out
          rw [hhlen] at h1
          omega)
        clear hmv hl hhv hhlen))
    have HI : Hid ((q : Int) ∈ z.ps) := (of_decide_eq_true HIN.out : (q : Int) ∈ z.ps)
    by_cases hc : rCode g.L i z.t ts = 0
    · have HC : Hid (rCode g.L i z.t ts = 0) := hc
      rw [hc]
      clear hc
      go_wp2_with fail
      go_region_held3 (fun w' => w'.cell? ⟨yb, 7, none⟩ = some (.int .i64 y.tm) ∧ w'.cell? ⟨yb, 11, none⟩ = some (.slice (some ⟨hg, 0, none⟩) hlen hcap))
        (first | go_keep | (simp only [cell_set_ne _ _ (Ne.symm hhy), World.cell?_drew]; with_reducible exact ⟨d7, d11⟩))
        (fail)
      go_wp2_with fail
      go_ret
      have hY := L5.out.1.trans (L5.out.1.at_.heardDone HHV.out HIH.out y.tm)
      exact .ok HI.out HOP.out rfl HC.out (hY.after ((Fr.refl _ _).drew)) L5.out.2
    · have HC : Hid (rCode g.L i z.t ts ≠ 0) := hc
      have hc' : (rCode g.L i z.t ts == 0) = false := by simpa using hc
      clear hc
      go_wp2_with fail
      go_ret
      exact .bad HI.out HOP.out rfl HC.out L5.out.1 L5.out.2
  · go_wp2_with fail
    go_ret
    exact .out (of_decide_eq_true HIN.out) HOP.out rfl F4.out
end

end Go.Proofs.YtkelpcjiediamaaGreat
