/-
  All that can be asked.
-/
import Derived.Test.YtkelpcjiediamaaGreatAct
namespace Go.Proofs.YtkelpcjiediamaaGreat
open Go.RowKit Go.Maps

section
variable {w : World} {B : Nat} {F : Nat → Prop} {wb xb yb bb n : Nat} {o : BookS}

set_option maxRecDepth 100000 in
set_option maxHeartbeats 6400000 in
theorem all_any (h : Scn w B F wb xb yb bb n o) (ha : Ask w F (ptr xb) (ptr yb)) (hn : n ≤ 8000000) :
    Calls Tryz.prog 43 #[ptr wb] w fun e w' => e = .returned (.bool true) ∧ Asked w w' B F wb xb yb bb (n + 34) := by
  obtain ⟨nf, hnf, hnum⟩ := ha.num
  have HNUM : Hid (∀ w1, Keep F w w1 → AskN (ptr xb) (ptr yb) w1 nf) := hnum
  have HA : Hid (Ask w F (ptr xb) (ptr yb)) := ha
  have HS : Hid (Scn w B F wb xb yb bb n o) := h
  have HN : Hid (n ≤ 8000000) := hn
  obtain ⟨c0, c1, c2⟩ := h.cells
  have hwlt := lt_of_block h.blk
  clear h ha hnum hn c2
  unfold ptr at c0 c1 HNUM ⊢
  go_enter Tryz.func43, Tryz.ntmps43
  go_wp2_with fail
  go_loopw [3] (fun i w' => ∃ k : Nat, k ≤ nf + 2 ∧ i = .int .i64 ((k : Int) - 1) ∧ Fr (fun _ => False) w w') (fun i _ => nf + 3 - (intOf i + 1).toNat)
  case atStart => exact ⟨0, by omega, rfl, Fr.refl _ _⟩
  case round =>
    obtain ⟨k, hk, rfl, hfr⟩ := hrel
    have HF : Hid (Fr (fun _ => False) w wr) := hfr
    have d1 : wr.cell? ⟨wb, 1, none⟩ = some (.pointer (some ⟨yb, 0, none⟩)) := (hfr.cell (p := ⟨wb, 1, none⟩) hwlt id).trans c1
    clear hfr
    by_cases hlt : (k : Int) - 1 ≤ nf
    · have hki : I64 ((k : Int) - 1) := i64_of (by omega) (by omega)
      have HKI : Hid (I64 ((k : Int) - 1)) := hki
      clear hki
      go_wp2_with (first
        | (go_at_call 37; refine (HNUM.out _ (by exact HF.out.keep)).b.mono ?_; rintro e w1 ⟨rfl, hf1⟩
           have HF1 : Hid (Fr (fun _ => False) w w1) := HF.out.trans hf1 (fun _ h => h.elim)
           clear hf1)
        | (go_at_call 12; refine (act_mess (by exact HS.out.after HF1.out) (by exact HA.out.keep HF1.out.keep) 0 0 _ HKI.out ⟨#[]⟩ false).mono ?_; rintro e w2 ⟨rfl, hf2⟩
           have HF2 : Hid (Fr (fun _ => False) w w2) := HF1.out.trans hf2 (fun _ h => h.elim)
           clear hf2))
      go_roundw
      case rel => exact ⟨k + 1, by omega, by go_num, HF2.out⟩
      case measure => simp [intOf]; omega
    · go_wp2_with (first
        | (go_at_call 37; refine (HNUM.out _ (by exact HF.out.keep)).b.mono ?_; rintro e w1 ⟨rfl, hf1⟩
           have HF1 : Hid (Fr (fun _ => False) w w1) := HF.out.trans hf1 (fun _ h => h.elim)
           clear hf1))
      go_loopw [5] (fun i w' => ∃ k : Nat, k ≤ 8 ∧ i = .int .i64 ((k : Int) - 1) ∧ Asked w w' B F wb xb yb bb (n + 2 * k)) (fun i _ => 9 - (intOf i + 1).toNat)
      case atStart => exact ⟨0, by omega, rfl, Asked.of_fr HS.out HF1.out⟩
      case round =>
        clear HF HF1 d1 hlt hk
        obtain ⟨k, hk, rfl, hfr⟩ := hrel
        have HF : Hid (Asked w wr B F wb xb yb bb (n + 2 * k)) := hfr
        clear hfr
        by_cases hlt : (k : Int) - 1 ≤ 6
        · have hki : I64 ((k : Int) - 1) := i64_of (by omega) (by omega)
          have HKI : Hid (I64 ((k : Int) - 1)) := hki
          have HKN : Hid (n + 2 * k ≤ 9000000) := by have := HN.out; show n + 2 * k ≤ 9000000; omega
          clear hki
          obtain ⟨ok, hok⟩ := HF.out.scn
          have HOK : Hid (Scn wr B F wb xb yb bb (n + 2 * k) ok) := hok
          clear hok
          go_wp2_with (first
            | (go_at_call 38; refine (producer_any HOK.out (by exact HA.out.keep HF.out.keep) HKN.out _ HKI.out).mono ?_; rintro e w2 ⟨rfl, hf2⟩
               have HF2 : Hid (Asked w w2 B F wb xb yb bb (n + 2 * (k + 1))) := HF.out.trans hf2
               clear hf2))
          go_roundw
          case rel => exact ⟨k + 1, by omega, by go_num, HF2.out⟩
          case measure => simp [intOf]; omega
        · have hk8 : k = 8 := by omega
          subst hk8
          go_wp2_with fail
          go_loopw [7] (fun i w' => ∃ k : Nat, k ≤ 6 ∧ i = .int .i64 ((k : Int) - 1) ∧ Asked w w' B F wb xb yb bb (n + 16 + 3 * k)) (fun i _ => 7 - (intOf i + 1).toNat)
          case atStart => exact ⟨0, by omega, rfl, HF.out⟩
          case round =>
            clear HF hlt hk
            obtain ⟨k, hk, rfl, hfr⟩ := hrel
            have HF : Hid (Asked w wr B F wb xb yb bb (n + 16 + 3 * k)) := hfr
            clear hfr
            by_cases hlt : (k : Int) - 1 ≤ 4
            · have hki : I64 ((k : Int) - 1) := i64_of (by omega) (by omega)
              have HKI : Hid (I64 ((k : Int) - 1)) := hki
              have HKN : Hid (n + 16 + 3 * k + 3 ≤ 9000000) := by have := HN.out; show n + 16 + 3 * k + 3 ≤ 9000000; omega
              clear hki
              obtain ⟨ok, hok⟩ := HF.out.scn
              have HOK : Hid (Scn wr B F wb xb yb bb (n + 16 + 3 * k) ok) := hok
              clear hok
              go_wp2_with (first
                | (go_at_call 39; refine (part_any HOK.out (by exact HA.out.keep HF.out.keep) (by have := HKN.out; omega) _ HKI.out).mono ?_; rintro e w2 ⟨rfl, hf2⟩
                   have HF2 : Hid (Asked w w2 B F wb xb yb bb (n + 16 + 3 * k + 1)) := HF.out.trans hf2
                   obtain ⟨o2, ho2⟩ := hf2.scn
                   have HO2 : Hid (Scn w2 B F wb xb yb bb (n + 16 + 3 * k + 1) o2) := ho2
                   clear hf2 ho2)
                | (go_at_call 40; refine (fetch_both HO2.out (by exact HA.out.keep HF2.out.keep) (by have := HKN.out; omega) _ 0 1000 HKI.out).mono ?_; rintro e w3 ⟨rfl, hf3⟩
                   have HF3 : Hid (Asked w w3 B F wb xb yb bb (n + 16 + 3 * k + 2)) := HF2.out.trans hf3
                   obtain ⟨o3, ho3⟩ := hf3.scn
                   have HO3 : Hid (Scn w3 B F wb xb yb bb (n + 16 + 3 * k + 2) o3) := ho3
                   clear hf3 ho3)
                | (go_at_call 41; refine (entries_both HO3.out (by exact HA.out.keep HF3.out.keep) (by have := HKN.out; omega) _ HKI.out).mono ?_; rintro e w4 ⟨rfl, hf4⟩
                   have HF4 : Hid (Asked w w4 B F wb xb yb bb (n + 16 + 3 * (k + 1))) := HF3.out.trans hf4
                   clear hf4))
              go_roundw
              case rel => exact ⟨k + 1, by omega, by go_num, HF4.out⟩
              case measure => simp [intOf]; omega
            · have hk6 : k = 6 := by omega
              subst hk6
              obtain ⟨ok, hok⟩ := HF.out.scn
              have HOK : Hid (Scn wr B F wb xb yb bb (n + 34) ok) := hok
              clear hok
              go_wp2_with (fail)
              refine (act_jour HOK.out (by exact HA.out.keep HF.out.keep) 0 0 0 ⟨#[]⟩ false).mono ?_
              rintro e w2 ⟨rfl, hf2⟩
              have HF2 : Hid (Asked w w2 B F wb xb yb bb (n + 34)) := HF.out.trans (Asked.of_fr HOK.out hf2)
              obtain ⟨o2, ho2⟩ := HF2.out.scn
              have HO2 : Hid (Scn w2 B F wb xb yb bb (n + 34) o2) := ho2
              clear hf2 ho2
              go_wp2_with (fail)
              refine (act_num HO2.out (by exact HA.out.keep HF2.out.keep) 0 0 0 ⟨#[]⟩ false).mono ?_
              rintro e w3 ⟨rfl, hf3⟩
              have HF3 : Hid (Asked w w3 B F wb xb yb bb (n + 34)) := HF2.out.trans (Asked.of_fr HO2.out hf3)
              clear hf3
              go_wp2_with (fail)
              go_ret
              exact ⟨rfl, HF3.out⟩
end

end Go.Proofs.YtkelpcjiediamaaGreat
