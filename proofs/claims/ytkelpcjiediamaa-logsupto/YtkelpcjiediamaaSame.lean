/-
  sameRecords and begins, where the lists are alike.
-/
import Derived.Test.YtkelpcjiediamaaFetch
import Derived.Deep.QuietTactic
import Derived.BigQuiet
namespace Go.Proofs.Ytkelpcjiediamaa
open Go.RowKit Go.Maps

/-- A slice of records in memory, to be read. -/
def RecsAt (w : World) (v : Value) (rs : List Rec) : Prop :=
  (v = .slice none 0 0 ∧ rs = []) ∨ ∃ g cap, v = .slice (some ⟨g, 0, none⟩) rs.length cap ∧ rs.length ≤ cap ∧ cap ≤ maxLen ∧
    ∀ (k : Nat) r, rs[k]? = some r → w.cell? ⟨g, k * 3, none⟩ = some (.int .i64 r.o) ∧ w.cell? ⟨g, k * 3 + 1, none⟩ = some (.int .i64 r.p) ∧ w.cell? ⟨g, k * 3 + 2, none⟩ = some (.string r.s)

theorem length_recCells (l : List Rec) : (recCells l).length = 3 * l.length := by
  induction l with
  | nil => rfl
  | cons x r ih => simp only [recCells, List.flatMap_cons, List.length_append] at ih ⊢; rw [ih]; simp [Rec.cs]; omega

theorem recCells_get : ∀ (l : List Rec) (k : Nat) (e : Rec) (j : Nat), l[k]? = some e → j < 3 → (recCells l)[k * 3 + j]? = e.cs[j]?
  | [], k, e, j, h, _ => by simp at h
  | x :: r, 0, e, j, h, hj => by
    simp only [List.getElem?_cons_zero, Option.some.injEq] at h
    subst h
    simp only [recCells, List.flatMap_cons]
    rw [List.getElem?_append_left (by simp [Rec.cs]; omega)]
    simp
  | x :: r, k + 1, e, j, h, hj => by
    simp only [List.getElem?_cons_succ] at h
    have := recCells_get r k e j h hj
    simp only [recCells, List.flatMap_cons] at this ⊢
    rw [List.getElem?_append_right (by simp [Rec.cs]; omega), ← this]
    congr 1
    simp [Rec.cs]; omega

theorem recsAt_of {w : World} {B : Nat} {v : Value} {rs : List Rec} (h : w.ownsRow B 73 3 v rs.length (recCells rs)) : RecsAt w v rs := by
  rcases row3_form h with ⟨rfl, rfl⟩ | ⟨g, cap, rfl, h1, h2, _⟩
  · exact .inl ⟨rfl, rfl⟩
  · refine .inr ⟨g, cap, rfl, h1, h2, fun k r hk => ?_⟩
    have hc := h.cells (g := g) rfl
    have key : ∀ j u, j < 3 → r.cs[j]? = some u → w.cell? ⟨g, k * 3 + j, none⟩ = some u := fun j u hj hu => by
      have := hc (k * 3 + j) u ((recCells_get rs k r j hk hj).trans hu)
      rw [Addr.add_lit] at this
      simpa using this
    exact ⟨key 0 _ (by omega) rfl, key 1 _ (by omega) rfl, key 2 _ (by omega) rfl⟩

theorem neq73 (w : World) (a b : Int) (x : ByteArray) : (binOp .neq 73 (.agg #[.int .i64 a, .int .i64 b, .string x]) (.agg #[.int .i64 a, .int .i64 b, .string x])).run Try.prog w = .ok (.bool false) w := by
  go_simp

set_option maxRecDepth 100000 in
set_option maxHeartbeats 800000 in
theorem same_any {w : World} {va vb : Value} {rs : List Rec} (ha : RecsAt w va rs) (hb : RecsAt w vb rs) :
    Calls Try.prog 29 #[va, vb] w fun e w' => e = .returned (.bool true) ∧ ∃ q, w' = w.drewN q := by
  obtain ⟨a1, c1, rfl, hc1⟩ : ∃ a1 c1, va = .slice a1 rs.length c1 ∧ rs.length ≤ maxLen := by
    rcases ha with ⟨rfl, rfl⟩ | ⟨g, cap, rfl, h1, h2, _⟩
    · exact ⟨none, 0, rfl, Nat.zero_le _⟩
    · exact ⟨_, _, rfl, Nat.le_trans h1 h2⟩
  obtain ⟨a2, c2, rfl⟩ : ∃ a2 c2, vb = .slice a2 rs.length c2 := by
    rcases hb with ⟨rfl, rfl⟩ | ⟨g, cap, rfl, h1, h2, _⟩
    · exact ⟨none, 0, rfl⟩
    · exact ⟨_, _, rfl⟩
  unfold maxLen at hc1
  have HA : Hid (RecsAt w (.slice a1 rs.length c1) rs) := ha
  have HB : Hid (RecsAt w (.slice a2 rs.length c2) rs) := hb
  clear ha hb
  go_enter Try.func29, Try.ntmps29
  go_wp2_with fail
  go_loopw [5] (fun i w' => ∃ k : Nat, k ≤ rs.length ∧ i = .int .i64 k ∧ ∃ q, w' = w.drewN q) (fun i _ => rs.length - (intOf i).toNat)
  case atStart => exact ⟨0, Nat.zero_le _, rfl, 0, rfl⟩
  case round =>
    obtain ⟨k, hk, rfl, q, rfl⟩ := hrel
    by_cases hlt : k < rs.length
    · obtain ⟨r, hr⟩ : ∃ r, rs[k]? = some r := ⟨_, List.getElem?_eq_getElem hlt⟩
      obtain ⟨g1, rfl, x0, x1, x2⟩ : ∃ g1, a1 = some ⟨g1, 0, none⟩ ∧ w.cell? ⟨g1, k * 3, none⟩ = some (.int .i64 r.o) ∧ w.cell? ⟨g1, k * 3 + 1, none⟩ = some (.int .i64 r.p) ∧ w.cell? ⟨g1, k * 3 + 2, none⟩ = some (.string r.s) := by
        rcases HA.out with ⟨_, h0⟩ | ⟨g, cap, e, h1, h2, h3⟩
        · rw [h0] at hlt; simp at hlt
        · simp only [Value.slice.injEq] at e
          exact ⟨g, e.1, h3 k r hr⟩
      obtain ⟨g2, rfl, y0, y1, y2⟩ : ∃ g1, a2 = some ⟨g1, 0, none⟩ ∧ w.cell? ⟨g1, k * 3, none⟩ = some (.int .i64 r.o) ∧ w.cell? ⟨g1, k * 3 + 1, none⟩ = some (.int .i64 r.p) ∧ w.cell? ⟨g1, k * 3 + 2, none⟩ = some (.string r.s) := by
        rcases HB.out with ⟨_, h0⟩ | ⟨g, cap, e, h1, h2, h3⟩
        · rw [h0] at hlt; simp at hlt
        · simp only [Value.slice.injEq] at e
          exact ⟨g, e.1, h3 k r hr⟩
      clear hr
      go_wp2_with fail
      go_quiet (fail)
      go_wp2
      go_roundw
      case rel => exact ⟨k + 1, by omega, by go_num, q + nq, by simp [World.drewN]⟩
      case measure => simp [intOf]; omega
    · go_wp2
      go_ret
      exact ⟨rfl, q, rfl⟩

set_option maxRecDepth 100000 in
set_option maxHeartbeats 800000 in
theorem begins_any {w : World} {va vb : Value} {ra t : List Rec} (ha : RecsAt w va ra) (hb : RecsAt w vb (ra ++ t)) :
    Calls Try.prog 15 #[va, vb] w fun e w' => e = .returned (.bool true) ∧ ∃ q, w' = w.drewN q := by
  have HA : Hid (RecsAt w va ra) := ha
  obtain ⟨a1, c1, e1, hc1⟩ : ∃ a1 c1, va = .slice a1 ra.length c1 ∧ ra.length ≤ maxLen := by
    rcases ha with ⟨rfl, rfl⟩ | ⟨g, cap, rfl, h1, h2, _⟩
    · exact ⟨none, 0, rfl, Nat.zero_le _⟩
    · exact ⟨_, _, rfl, Nat.le_trans h1 h2⟩
  subst e1
  unfold maxLen at hc1
  rcases hb with ⟨rfl, h0⟩ | ⟨g, cap, rfl, h1, h2, h3⟩
  · obtain ⟨rfl, rfl⟩ := List.append_eq_nil_iff.1 h0
    have HB : Hid (RecsAt w (.slice none 0 0) []) := .inl ⟨rfl, rfl⟩
    clear ha h0
    go_enter Try.func15, Try.ntmps15
    go_wp2_with (go_at_call 29; refine (same_any HA.out HB.out).mono ?_; rintro e w1 ⟨rfl, q, rfl⟩)
    go_ret
    exact ⟨rfl, q, rfl⟩
  · have HB : Hid (RecsAt w (.slice (some ⟨g, 0, none⟩) ra.length cap) ra) := .inr ⟨g, cap, rfl, by simp at h1; omega, h2, fun k r hk => h3 k r (by rw [List.getElem?_append_left (List.getElem?_eq_some_iff.1 hk).1]; exact hk)⟩
    have hl : (ra ++ t).length = ra.length + t.length := by simp
    rw [hl] at h1 ⊢
    unfold maxLen at h2
    have hi : (0 : Int) ≤ (ra.length : Int) := Int.natCast_nonneg _
    have hj : (ra.length : Int) ≤ (cap : Int) := by omega
    clear ha h3 hl
    go_enter Try.func15, Try.ntmps15
    go_wp2_with (go_at_call 29; refine (same_any HA.out HB.out).mono ?_; rintro e w1 ⟨rfl, q, rfl⟩)
    go_ret
    exact ⟨rfl, q, rfl⟩

end Go.Proofs.Ytkelpcjiediamaa
