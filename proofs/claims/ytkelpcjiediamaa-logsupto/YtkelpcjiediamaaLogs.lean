/-
  The walk of Logs.
-/
import Derived.Test.YtkelpcjiediamaaPair
import Derived.Deep.DeepCutAuto
namespace Go.Proofs.Ytkelpcjiediamaa
open Go.RowKit Go.Maps
attribute [local go_sem ↓] Go.wp_at_zero Go.wp_at_succ

theorem i64_1000 : I64 1000 := by show (Lit.int .i64 1000).wf = true; decide

set_option maxRecDepth 100000 in
set_option maxHeartbeats 3200000 in
theorem logs_any {w : World} {ao : Option Addr} {cap : Nat} {sts : List Stp} (hst : StepsAt w ao sts) (hw : ∀ x ∈ sts, I64 x.wh) (hlen : sts.length ≤ 1048576) :
    Calls Try.prog 3 #[.slice ao sts.length cap] w fun e w' => e = .returned (.bool true) ∧ Below w.heap.size w w' := by
  have HS : Hid (StepsAt w ao sts) := hst
  have HW : Hid (∀ x ∈ sts, I64 x.wh) := hw
  have hnil : ∀ (wx : World) (a : Addr), (binOp .eql 23 (.pointer (some a)) (.pointer none)).run Try.prog wx = .ok (.bool false) wx := fun wx a => by go_simp
  clear hst hw
  go_enter Try.func3, Try.ntmps3
  go_upto_if 100 with (fail)
  go_wp2_with (fail)
  refine (new_any _).mono ?_
  rintro e w1 ⟨rfl, hl1, hf1⟩
  have HL1 : Hid (LogAt w1 w.heap.size (w.heap.size + 1) w.heap.size (.slice none 0 0) 0 ⟨[], 0, fun _ => none⟩) := hl1
  have HF1 : Hid (Fr (fun _ => False) w w1) := hf1
  clear hl1 hf1
  go_wp2_with (fail)
  refine (new_any _).mono ?_
  rintro e w2 ⟨rfl, hl2, hf2⟩
  have HL2 : Hid (LogAt w2 w1.heap.size (w1.heap.size + 1) w1.heap.size (.slice none 0 0) 0 ⟨[], 0, fun _ => none⟩) := hl2
  have HF2 : Hid (Fr (fun _ => False) w1 w2) := hf2
  clear hl2 hf2
  have HC : Hid (Scene w w.heap.size w2.heap.size (w2.heap.size + 1 + 1 + 1) (w.heap.size + 1) (w1.heap.size + 1) (w2.heap.size + 1) (w2.heap.size + 1 + 1) (w2.heap.size + 1 + 1 + 1 + 1) 0 _) := scene_new HL1.out HF1.out HL2.out HF2.out
  go_wp2_with (fail)
  go_loopw [6] (fun iv w' => ∃ k : Nat, k ≤ sts.length ∧ iv = .int .i64 k ∧ Scene w w.heap.size w2.heap.size (w2.heap.size + 1 + 1 + 1) (w.heap.size + 1) (w1.heap.size + 1) (w2.heap.size + 1) (w2.heap.size + 1 + 1) (w2.heap.size + 1 + 1 + 1 + 1) k w') (fun iv _ => (sts.length - intOf iv).toNat)
  case atStart => exact ⟨0, Nat.zero_le _, rfl, HC.out⟩
  case round =>
    clear HC
    obtain ⟨k, hk, rfl, hsc⟩ := hrel
    have HC : Hid (Scene w w.heap.size w2.heap.size (w2.heap.size + 1 + 1 + 1) (w.heap.size + 1) (w1.heap.size + 1) (w2.heap.size + 1) (w2.heap.size + 1 + 1) (w2.heap.size + 1 + 1 + 1 + 1) k wr) := hsc
    clear hsc
    by_cases hlt : k < sts.length
    · obtain ⟨x, hx⟩ : ∃ x, sts[k]? = some x := ⟨_, List.getElem?_eq_getElem hlt⟩
      have hbel : Below w.heap.size w wr := HC.out.fr.below (Nat.le_refl _) (fun _ h => h)
      obtain ⟨sb, so, rfl, hsb, ⟨x0, x1, x2, x3, x4, x5⟩, hxp, hxt, hxs⟩ := HS.out k x hx
      have HXA : Hid (x.at_ w sb (so + k * 6)) := ⟨x0, x1, x2, x3, x4, x5⟩
      obtain ⟨y0, y1, y2, y3, y4, y5⟩ := HC.out.at_ HXA.out hsb hsb
      have HXW : Hid (I64 x.wh) := HW.out x (List.mem_of_getElem? hx)
      have HXP : Hid (I64 x.p) := hxp
      have HXT : Hid (I64 x.t) := hxt
      have HXS : Hid (x.s.size ≤ maxLen) := hxs
      have HN : Hid (k ≤ 2097152) := by show k ≤ 2097152; omega
      have HN1 : Hid (k + 1 ≤ 2097152) := by show k + 1 ≤ 2097152; omega
      clear x0 x1 x2 x3 x4 x5 hx hxp hxt hxs
      go_wp2_with (fail)
      refine (pick_any x.wh HXW.out _).mono ?_
      rintro e w3 ⟨j, hj, rfl, rfl⟩
      obtain ⟨lx, ly, hsel⟩ := sel w w.heap.size w2.heap.size (w2.heap.size + 1 + 1 + 1) (w.heap.size + 1) (w1.heap.size + 1) (w2.heap.size + 1) (w2.heap.size + 1 + 1) (w2.heap.size + 1 + 1 + 1 + 1) hj
      have c0 := hsel.cx _ _ HC.out
      have c1 := hsel.cy _ _ HC.out
      have HSel : Hid (Sel w w.heap.size w2.heap.size (w2.heap.size + 1 + 1 + 1) (w.heap.size + 1) (w1.heap.size + 1) (w2.heap.size + 1) (w2.heap.size + 1 + 1) (w2.heap.size + 1 + 1 + 1 + 1) j lx ly) := hsel
      clear hsel hbel
      have hj0 : (0 : Int) ≤ (j : Int) := by omega
      have hj1 : (j : Int) < 2 := by omega
      go_wp2_with (fail)
      go_region_held3 (fun w' => w'.cell? ⟨w2.heap.size, j, none⟩ = some (.pointer (some ⟨lx, 0, none⟩)) ∧ w'.cell? ⟨w2.heap.size + 1 + 1 + 1, j, none⟩ = some (.pointer (some ⟨ly, 0, none⟩)) ∧ w'.cell? ⟨sb, so + k * 6, none⟩ = some (.int .i64 x.wh) ∧ w'.cell? ⟨sb, so + k * 6 + 1, none⟩ = some (.int .i64 x.k) ∧ w'.cell? ⟨sb, so + k * 6 + 2, none⟩ = some (.int .i64 x.p) ∧ w'.cell? ⟨sb, so + k * 6 + 3, none⟩ = some (.int .i64 x.t) ∧ w'.cell? ⟨sb, so + k * 6 + 4, none⟩ = some (.string x.s) ∧ w'.cell? ⟨sb, so + k * 6 + 5, none⟩ = some (.bool x.c))
        (first
          | go_keep
          | exact ⟨HSel.out.cx _ _ h4, HSel.out.cy _ _ h4, h4.at_ HXA.out hsb hsb⟩)
        ((go_at_call 7; refine (HSel.out.call k _ (HC.out.after (Fr.refl _ _).drew) HN.out x HXP.out HXT.out HXS.out).mono ?_; rintro e w4 ⟨rfl, h4⟩))
      have HC4 : Hid (Scene w w.heap.size w2.heap.size (w2.heap.size + 1 + 1 + 1) (w.heap.size + 1) (w1.heap.size + 1) (w2.heap.size + 1) (w2.heap.size + 1 + 1) (w2.heap.size + 1 + 1 + 1 + 1) (k + 1) w4) := h4
      clear h4
      go_wp2_with (fail)
      refine (HC4.out.looks HN1.out).mono ?_
      rintro e w5 ⟨rfl, h5⟩
      have HC5 : Hid (Scene w w.heap.size w2.heap.size (w2.heap.size + 1 + 1 + 1) (w.heap.size + 1) (w1.heap.size + 1) (w2.heap.size + 1) (w2.heap.size + 1 + 1) (w2.heap.size + 1 + 1 + 1 + 1) (k + 1) w5) := h5
      clear h5
      go_wp2_with (fail)
      go_roundw
      case rel => exact ⟨k + 1, by omega, by go_num, HC5.out⟩
      case measure => simp [intOf]; omega
    · go_wp2_with (fail)
      go_loopw [10] (fun kv w' => ∃ c : Nat, c ≤ 2 ∧ kv = .int .i64 c ∧ ∃ n : Nat, n ≤ 1048576 + 4 * c ∧ Scene w w.heap.size w2.heap.size (w2.heap.size + 1 + 1 + 1) (w.heap.size + 1) (w1.heap.size + 1) (w2.heap.size + 1) (w2.heap.size + 1 + 1) (w2.heap.size + 1 + 1 + 1 + 1) n w') (fun kv _ => (2 - intOf kv).toNat)
      case atStart => exact ⟨0, by omega, rfl, k, by omega, HC.out⟩
      case round =>
        clear HC
        obtain ⟨c, hc, rfl, n, hn, hsc⟩ := hrel
        have HC : Hid (Scene w w.heap.size w2.heap.size (w2.heap.size + 1 + 1 + 1) (w.heap.size + 1) (w1.heap.size + 1) (w2.heap.size + 1) (w2.heap.size + 1 + 1) (w2.heap.size + 1 + 1 + 1 + 1) n wr) := hsc
        have HN : Hid (n ≤ 1048576 + 4 * c) := hn
        clear hsc hn hk hlt
        by_cases hlt : c < 2
        · have hj0 : (0 : Int) ≤ (c : Int) := by omega
          have hj1 : (c : Int) < 2 := by omega
          go_wp2_with (fail)
          go_loopw [11] (fun iv w' => ∃ d : Nat, d ≤ 4 ∧ iv = .int .i64 ((4 + d : Nat) : Int) ∧ ∃ m : Nat, m ≤ 1048576 + 4 * c + d ∧ Scene w w.heap.size w2.heap.size (w2.heap.size + 1 + 1 + 1) (w.heap.size + 1) (w1.heap.size + 1) (w2.heap.size + 1) (w2.heap.size + 1 + 1) (w2.heap.size + 1 + 1 + 1 + 1) m w') (fun iv _ => (8 - intOf iv).toNat)
          case atStart => exact ⟨0, by omega, rfl, n, HN.out, HC.out⟩
          case round =>
            clear HC HN
            obtain ⟨d, hd, rfl, m, hm, hsc⟩ := hrel
            have HC : Hid (Scene w w.heap.size w2.heap.size (w2.heap.size + 1 + 1 + 1) (w.heap.size + 1) (w1.heap.size + 1) (w2.heap.size + 1) (w2.heap.size + 1 + 1) (w2.heap.size + 1 + 1 + 1 + 1) m wr) := hsc
            have HN : Hid (m ≤ 1048576 + 4 * c + d) := hm
            have HM : Hid (m ≤ 2097152) := by show m ≤ 2097152; omega
            clear hsc hm
            by_cases hlt2 : d < 4
            · obtain ⟨lx, ly, hsel⟩ := sel w w.heap.size w2.heap.size (w2.heap.size + 1 + 1 + 1) (w.heap.size + 1) (w1.heap.size + 1) (w2.heap.size + 1) (w2.heap.size + 1 + 1) (w2.heap.size + 1 + 1 + 1 + 1) hlt
              have c0 := hsel.cx _ _ HC.out
              have c1 := hsel.cy _ _ HC.out
              have HSel : Hid (Sel w w.heap.size w2.heap.size (w2.heap.size + 1 + 1 + 1) (w.heap.size + 1) (w1.heap.size + 1) (w2.heap.size + 1) (w2.heap.size + 1 + 1) (w2.heap.size + 1 + 1 + 1 + 1) c lx ly) := hsel
              clear hsel
              go_wp2_with (fail)
              go_region_held3 (fun w' => w'.cell? ⟨w2.heap.size, c, none⟩ = some (.pointer (some ⟨lx, 0, none⟩)) ∧ w'.cell? ⟨w2.heap.size + 1 + 1 + 1, c, none⟩ = some (.pointer (some ⟨ly, 0, none⟩)))
                (first
                  | go_keep
                  | exact ⟨HSel.out.cx _ _ h4, HSel.out.cy _ _ h4⟩)
                ((go_at_call 7; refine (HSel.out.call m _ (HC.out.after (Fr.refl _ _).drew) HM.out ⟨0, ((4 + d : Nat) : Int), 0, 1000, ⟨#[]⟩, false⟩ i64_0 i64_1000 (Nat.zero_le _)).mono ?_; rintro e w4 ⟨rfl, h4⟩))
              have HC4 : Hid (Scene w w.heap.size w2.heap.size (w2.heap.size + 1 + 1 + 1) (w.heap.size + 1) (w1.heap.size + 1) (w2.heap.size + 1) (w2.heap.size + 1 + 1) (w2.heap.size + 1 + 1 + 1 + 1) (m + 1) w4) := h4
              clear h4
              go_wp2_with (fail)
              go_roundw
              case rel => exact ⟨d + 1, by omega, by go_num, m + 1, by have := HN.out; omega, HC4.out⟩
              case measure => simp [intOf]; omega
            · go_wp2_with (fail)
              go_roundw
              case rel => exact ⟨c + 1, by omega, by go_num, m, by have := HN.out; omega, HC.out⟩
              case measure => simp [intOf]; omega
        · have HM : Hid (n ≤ 2097152) := by have := HN.out; show n ≤ 2097152; omega
          go_wp2_with (fail)
          refine (HC.out.looks HM.out).mono ?_
          rintro e w5 ⟨rfl, h5⟩
          go_wp2_with (fail)
          go_ret
          exact ⟨rfl, h5.fr.below (Nat.le_refl _) (fun _ h => h)⟩

end Go.Proofs.Ytkelpcjiediamaa
