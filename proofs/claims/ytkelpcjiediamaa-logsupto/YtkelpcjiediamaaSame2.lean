/-
  sameInts and sameEntries, where the lists are alike; pick.
-/
import Derived.Test.YtkelpcjiediamaaBook
namespace Go.Proofs.Ytkelpcjiediamaa
open Go.RowKit Go.Maps

theorem neq69 (w : World) (a b c : Int) (x : ByteArray) : (binOp .neq 69 (.agg #[.int .i64 a, .int .i64 b, .int .i64 c, .string x]) (.agg #[.int .i64 a, .int .i64 b, .int .i64 c, .string x])).run Try.prog w = .ok (.bool false) w := by
  go_simp

set_option maxRecDepth 100000 in
set_option maxHeartbeats 800000 in
theorem sameE_any {w : World} {va vb : Value} {rs : List Ent} (ha : EntsAt w va rs) (hb : EntsAt w vb rs) :
    Calls Try.prog 21 #[va, vb] w fun e w' => e = .returned (.bool true) ∧ ∃ q, w' = w.drewN q := by
  obtain ⟨a1, c1, rfl, hc1⟩ : ∃ a1 c1, va = .slice a1 rs.length c1 ∧ rs.length ≤ maxLen := by
    rcases ha with ⟨rfl, rfl⟩ | ⟨g, cap, rfl, h1, h2, _⟩
    · exact ⟨none, 0, rfl, Nat.zero_le _⟩
    · exact ⟨_, _, rfl, Nat.le_trans h1 h2⟩
  obtain ⟨a2, c2, rfl⟩ : ∃ a2 c2, vb = .slice a2 rs.length c2 := by
    rcases hb with ⟨rfl, rfl⟩ | ⟨g, cap, rfl, h1, h2, _⟩
    · exact ⟨none, 0, rfl⟩
    · exact ⟨_, _, rfl⟩
  unfold maxLen at hc1
  have HA : Hid (EntsAt w (.slice a1 rs.length c1) rs) := ha
  have HB : Hid (EntsAt w (.slice a2 rs.length c2) rs) := hb
  clear ha hb
  go_enter Try.func21, Try.ntmps21
  go_wp2_with fail
  go_loopw [5] (fun i w' => ∃ k : Nat, k ≤ rs.length ∧ i = .int .i64 k ∧ ∃ q, w' = w.drewN q) (fun i _ => rs.length - (intOf i).toNat)
  case atStart => exact ⟨0, Nat.zero_le _, rfl, 0, rfl⟩
  case round =>
    obtain ⟨k, hk, rfl, q, rfl⟩ := hrel
    by_cases hlt : k < rs.length
    · obtain ⟨r, hr⟩ : ∃ r, rs[k]? = some r := ⟨_, List.getElem?_eq_getElem hlt⟩
      obtain ⟨g1, rfl, x0, x1, x2, x3⟩ : ∃ g1, a1 = some ⟨g1, 0, none⟩ ∧ w.cell? ⟨g1, k * 4, none⟩ = some (.int .i64 r.k) ∧ w.cell? ⟨g1, k * 4 + 1, none⟩ = some (.int .i64 r.p) ∧ w.cell? ⟨g1, k * 4 + 2, none⟩ = some (.int .i64 r.t) ∧ w.cell? ⟨g1, k * 4 + 3, none⟩ = some (.string r.s) := by
        rcases HA.out with ⟨_, h0⟩ | ⟨g, cap, e, h1, h2, h3⟩
        · rw [h0] at hlt; simp at hlt
        · simp only [Value.slice.injEq] at e
          exact ⟨g, e.1, h3 k r hr⟩
      obtain ⟨g2, rfl, y0, y1, y2, y3⟩ : ∃ g1, a2 = some ⟨g1, 0, none⟩ ∧ w.cell? ⟨g1, k * 4, none⟩ = some (.int .i64 r.k) ∧ w.cell? ⟨g1, k * 4 + 1, none⟩ = some (.int .i64 r.p) ∧ w.cell? ⟨g1, k * 4 + 2, none⟩ = some (.int .i64 r.t) ∧ w.cell? ⟨g1, k * 4 + 3, none⟩ = some (.string r.s) := by
        rcases HB.out with ⟨_, h0⟩ | ⟨g, cap, e, h1, h2, h3⟩
        · rw [h0] at hlt; simp at hlt
        · simp only [Value.slice.injEq] at e
          exact ⟨g, e.1, h3 k r hr⟩
      clear hr
      go_wp2_with fail
      go_quiet (fail)
      go_wp2
      go_roundw
      case rel => exact ⟨k + 1, by omega, by go_num, q + nq, by simp [World.drewN]⟩
      case measure => simp [intOf]; omega
    · go_wp2
      go_ret
      exact ⟨rfl, q, rfl⟩

set_option maxRecDepth 100000 in
set_option maxHeartbeats 800000 in
theorem sameI_any {w : World} {B B' : Nat} {va vb : Value} {rs : List Int} (ha : w.ownsRow B 3 1 va rs.length (intCells rs)) (hb : w.ownsRow B' 3 1 vb rs.length (intCells rs)) :
    Calls Try.prog 26 #[va, vb] w fun e w' => e = .returned (.bool true) ∧ ∃ q, w' = w.drewN q := by
  obtain ⟨a1, c1, rfl, hc1⟩ := intRow_len ha
  obtain ⟨a2, c2, rfl, _⟩ := intRow_len hb
  unfold maxLen at hc1
  have HA : Hid (w.ownsRow B 3 1 (.slice a1 rs.length c1) rs.length (intCells rs)) := ha
  have HB : Hid (w.ownsRow B' 3 1 (.slice a2 rs.length c2) rs.length (intCells rs)) := hb
  clear ha hb
  go_enter Try.func26, Try.ntmps26
  go_wp2_with fail
  go_loopw [5] (fun i w' => ∃ k : Nat, k ≤ rs.length ∧ i = .int .i64 k ∧ ∃ q, w' = w.drewN q) (fun i _ => rs.length - (intOf i).toNat)
  case atStart => exact ⟨0, Nat.zero_le _, rfl, 0, rfl⟩
  case round =>
    obtain ⟨k, hk, rfl, q, rfl⟩ := hrel
    by_cases hlt : k < rs.length
    · obtain ⟨r, hr⟩ : ∃ r, rs[k]? = some r := ⟨_, List.getElem?_eq_getElem hlt⟩
      obtain ⟨g1, rfl, x0⟩ : ∃ g1, a1 = some ⟨g1, 0, none⟩ ∧ w.cell? ⟨g1, k, none⟩ = some (.int .i64 r) := by
        rcases intRow_form HA.out with ⟨_, h0⟩ | ⟨g, cap, e, _⟩
        · rw [h0] at hlt; simp at hlt
        · simp only [Value.slice.injEq] at e
          obtain ⟨rfl, _⟩ := e
          exact ⟨g, rfl, intRow_cell HA.out hr⟩
      obtain ⟨g2, rfl, y0⟩ : ∃ g1, a2 = some ⟨g1, 0, none⟩ ∧ w.cell? ⟨g1, k, none⟩ = some (.int .i64 r) := by
        rcases intRow_form HB.out with ⟨_, h0⟩ | ⟨g, cap, e, _⟩
        · rw [h0] at hlt; simp at hlt
        · simp only [Value.slice.injEq] at e
          obtain ⟨rfl, _⟩ := e
          exact ⟨g, rfl, intRow_cell HB.out hr⟩
      clear hr
      go_wp2_with fail
      go_quiet (fail)
      go_wp2
      go_roundw
      case rel => exact ⟨k + 1, by omega, by go_num, q + nq, by simp [World.drewN]⟩
      case measure => simp [intOf]; omega
    · go_wp2
      go_ret
      exact ⟨rfl, q, rfl⟩

theorem ret_int {k : IntKind} {a b : Int} (h : a = b) : Ending.returned (.int k a) = .returned (.int k b) := by rw [h]

set_option maxRecDepth 100000 in
theorem pick_any (c : Int) (hc : I64 c) (w : World) : Calls Try.prog 6 #[.int .i64 c, .int .i64 2] w fun e w' => ∃ k : Nat, k < 2 ∧ e = .returned (.int .i64 k) ∧ w = w' := by
  have hx : -9223372036854775808 ≤ c ∧ c ≤ 9223372036854775807 := by simpa [I64, Lit.wf, IntKind.min, IntKind.max, IntKind.signed, IntKind.bits] using hc
  obtain ⟨h1, h2⟩ := hx
  clear hc
  by_cases hneg : c < 0
  · go_enter Try.func6, Try.ntmps6
    go_wp2
    go_ret
    refine ⟨((-(c + 1)) % 2).toNat, by omega, ?_, rfl⟩
    show Ending.returned (Value.int .i64 (-((c + 1).tmod 2))) = _
    refine ret_int ?_
    have h0 : 0 ≤ -(c + 1) := by omega
    have h3 : (c + 1).tmod 2 = -((-(c + 1)) % 2) := by
      rw [← Int.tmod_eq_emod_of_nonneg h0, Int.neg_tmod, Int.neg_neg]
    rw [h3]
    omega
  · go_enter Try.func6, Try.ntmps6
    go_wp2
    go_ret
    refine ⟨(c % 2).toNat, by omega, ?_, rfl⟩
    show Ending.returned (Value.int .i64 (c % 2)) = _
    exact ret_int (by omega)

end Go.Proofs.Ytkelpcjiediamaa
