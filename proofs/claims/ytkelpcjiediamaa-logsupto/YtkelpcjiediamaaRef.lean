/-
  The document's log in memory, and what isOpen and data tell of it.
-/
import Derived.Test.YtkelpcjiediamaaInv
namespace Go.Proofs.Ytkelpcjiediamaa
open Go.RowKit Go.Maps

theorem rowE_cells {w : World} {B g n cap : Nat} {ty : TypeId} {es : List Ent} (h : w.ownsRow B ty 4 (.slice (some ⟨g, 0, none⟩) n cap) es.length (entCells es)) {k : Nat} {e : Ent} (hk : es[k]? = some e) :
    w.cell? ⟨g, k * 4, none⟩ = some (.int .i64 e.k) ∧ w.cell? ⟨g, k * 4 + 1, none⟩ = some (.int .i64 e.p) ∧ w.cell? ⟨g, k * 4 + 2, none⟩ = some (.int .i64 e.t) ∧ w.cell? ⟨g, k * 4 + 3, none⟩ = some (.string e.s) := by
  have hc := h.cells (g := g) rfl
  have key : ∀ j u, j < 4 → e.cs[j]? = some u → w.cell? ⟨g, k * 4 + j, none⟩ = some u := fun j u hj hu => by
    have := hc (k * 4 + j) u ((entCells_get es k e j hk hj).trans hu)
    rw [Addr.add_lit] at this
    simpa using this
  exact ⟨key 0 _ (by omega) rfl, key 1 _ (by omega) rfl, key 2 _ (by omega) rfl, key 3 _ (by omega) rfl⟩

theorem rowE_form {w : World} {B : Nat} {ty : TypeId} {v : Value} {es : List Ent} (h : w.ownsRow B ty 4 v es.length (entCells es)) :
    (v = .slice none 0 0 ∧ es = []) ∨ ∃ g cap, v = .slice (some ⟨g, 0, none⟩) es.length cap ∧ es.length ≤ cap ∧ cap ≤ maxLen ∧ B ≤ g ∧ g < w.heap.size := by
  rcases h.2 with ⟨hv, h0⟩ | ⟨g, cap, cur, hv, hb, hg, h1, h2, _⟩
  · exact .inl ⟨hv, List.eq_nil_of_length_eq_zero h0⟩
  · exact .inr ⟨g, cap, hv, h1, h2, hb, lt_of_block hg⟩

theorem rowE_len {w : World} {B : Nat} {ty : TypeId} {v : Value} {es : List Ent} (h : w.ownsRow B ty 4 v es.length (entCells es)) : ∃ a cap, v = .slice a es.length cap ∧ es.length ≤ maxLen := by
  rcases rowE_form h with ⟨rfl, rfl⟩ | ⟨g, cap, rfl, h1, h2, _⟩
  · exact ⟨none, 0, rfl, Nat.zero_le _⟩
  · exact ⟨_, _, rfl, Nat.le_trans h1 h2⟩

/-- The document's log at yb: its steps, of kind 0 where a transaction was opened. -/
structure RefAt (w : World) (B yb : Nat) (u : Value) (L : List Ent) : Prop where
  blk : w.heap[yb]? = some (.cells #[u] 29 (0, 0))
  row : w.ownsRow B 84 4 u L.length (entCells L)
  hy : B ≤ yb

theorem RefAt.lt {w : World} {B yb : Nat} {u : Value} {L : List Ent} (h : RefAt w B yb u L) : yb < w.heap.size := lt_of_block h.blk

theorem RefAt.ne_row {w : World} {B yb : Nat} {u : Value} {L : List Ent} (h : RefAt w B yb u L) : u.ownBlock ≠ some yb := by
  intro e
  rcases h.row.2 with ⟨rfl, _⟩ | ⟨g, cap, cur, rfl, _, hg, _⟩
  · simp [Value.ownBlock] at e
  · simp [Value.ownBlock] at e
    have h1 := h.blk
    rw [← e, hg] at h1
    cases h1

theorem Fr.refAt {S : Nat → Prop} {w w2 : World} (f : Fr S w w2) {B yb : Nat} {u : Value} {L : List Ent} (h : RefAt w B yb u L) (h1 : ¬ S yb) (h3 : ∀ k, u.ownBlock = some k → ¬ S k) : RefAt w2 B yb u L :=
  ⟨(f.block yb h.lt h1).trans h.blk, f.ownsRow h.row h3, h.hy⟩

def rStep (p t : Int) (o : Bool) (e : Ent) : Bool := if e.p = p ∧ e.t = t then (e.k == 0 || (o && e.k == 1)) else o
def rOpen (L : List Ent) (p t : Int) : Bool := L.foldl (rStep p t) false

theorem rOpen_snoc (L : List Ent) (x : Ent) (p t : Int) : rOpen (L ++ [x]) p t = rStep p t (rOpen L p t) x := by simp [rOpen, List.foldl_append]

set_option maxRecDepth 100000 in
set_option maxHeartbeats 800000 in
theorem rOpen_any {w : World} {B yb : Nat} {u : Value} {L : List Ent} (h : RefAt w B yb u L) (p t : Int) :
    Calls Try.prog 35 #[.pointer (some ⟨yb, 0, none⟩), .int .i64 p, .int .i64 t] w fun e w' => e = .returned (.bool (rOpen L p t)) ∧ Fr (fun _ => False) w w' := by
  have H : Hid (RefAt w B yb u L) := h
  obtain ⟨ua, ucap, rfl, hul⟩ := rowE_len h.row
  unfold maxLen at hul
  have hlt := h.lt
  clear h
  go_enter Try.func35, Try.ntmps35
  go_wp2_with fail
  go_loopw [7, 8] (fun o i w' => ∃ k : Nat, k ≤ L.length ∧ i = .int .i64 k ∧ o = .bool (rOpen (L.take k) p t) ∧ Fr (fun _ => False) w w') (fun _ i _ => L.length - (intOf i).toNat)
  case atStart => exact ⟨0, Nat.zero_le _, rfl, rfl, Fr.refl _ _⟩
  case round =>
    obtain ⟨k, hk, rfl, rfl, hfr⟩ := hrel
    have HF : Hid (Fr (fun _ => False) w wr) := hfr
    have HR : Hid (RefAt wr B yb (.slice ua L.length ucap) L) := hfr.refAt H.out id (fun _ _ => id)
    have k0 : wr.cell? ⟨yb, 0, none⟩ = some (.slice ua L.length ucap) := by rw [cell_of_cells HR.out.blk]; rfl
    have hsz := hfr.size
    clear hfr
    by_cases hlt2 : k < L.length
    · obtain ⟨e, he⟩ : ∃ e, L[k]? = some e := ⟨_, List.getElem?_eq_getElem hlt2⟩
      have HT : Hid (rOpen (L.take (k + 1)) p t = rStep p t (rOpen (L.take k) p t) e) := by
        show rOpen (L.take (k + 1)) p t = rStep p t (rOpen (L.take k) p t) e
        rw [List.take_add_one, he, Option.toList_some, rOpen_snoc]
      rcases rowE_form HR.out.row with ⟨_, h0⟩ | ⟨g, cap, e1, hlc, hcm, hBg, hg⟩
      · rw [h0] at hlt2; simp at hlt2
      · simp only [Value.slice.injEq] at e1
        obtain ⟨rfl, _, rfl⟩ := e1
        obtain ⟨r0, r1, r2, r3⟩ := rowE_cells HR.out.row he
        clear he hcm
        generalize rOpen (L.take k) p t = o at HT
        by_cases hp : e.p = p
        · have hp' : (e.p == p) = true := by simpa using hp
          by_cases ht : e.t = t
          · have ht' : (e.t == t) = true := by simpa using ht
            have HT2 : Hid (rOpen (L.take (k + 1)) p t = (e.k == 0 || (o && e.k == 1))) := by
              show rOpen (L.take (k + 1)) p t = (e.k == 0 || (o && e.k == 1))
              rw [HT.out]; simp [rStep, hp, ht]
            clear hp ht HT
            by_cases h0 : e.k = 0
            · go_wp2
              go_roundw
              case rel => exact ⟨k + 1, by omega, by go_num, by rw [HT2.out]; simp [h0], HF.out.alloc _⟩
              case measure => simp [intOf]; omega
            · have h0' : (e.k == 0) = false := by simpa using h0
              cases o
              · go_wp2
                go_roundw
                case rel => exact ⟨k + 1, by omega, by go_num, by rw [HT2.out]; simp [h0], HF.out.alloc _⟩
                case measure => simp [intOf]; omega
              · go_wp2
                go_roundw
                case rel => exact ⟨k + 1, by omega, by go_num, by rw [HT2.out]; simp [h0], HF.out.alloc _⟩
                case measure => simp [intOf]; omega
          · have ht' : (e.t == t) = false := by simpa using ht
            have HT2 : Hid (rOpen (L.take (k + 1)) p t = o) := by
              show rOpen (L.take (k + 1)) p t = o
              rw [HT.out]; simp [rStep, ht]
            clear hp HT
            go_wp2
            go_roundw
            case rel => exact ⟨k + 1, by omega, by go_num, by rw [HT2.out], HF.out.alloc _⟩
            case measure => simp [intOf]; omega
        · have hp' : (e.p == p) = false := by simpa using hp
          have HT2 : Hid (rOpen (L.take (k + 1)) p t = o) := by
            show rOpen (L.take (k + 1)) p t = o
            rw [HT.out]; simp [rStep, hp]
          clear HT
          go_wp2
          go_roundw
          case rel => exact ⟨k + 1, by omega, by go_num, by rw [HT2.out], HF.out.alloc _⟩
          case measure => simp [intOf]; omega
    · have HT : Hid (L.take k = L) := List.take_of_length_le (by omega)
      go_wp2
      go_ret
      exact ⟨by rw [HT.out] <;> rfl, HF.out⟩

set_option maxRecDepth 100000 in
set_option maxHeartbeats 800000 in
theorem rData_any {w : World} {B yb : Nat} {u : Value} {L : List Ent} (h : RefAt w B yb u L) :
    Calls Try.prog 36 #[.pointer (some ⟨yb, 0, none⟩)] w fun e w' => e = .returned (.int .i64 (cnt L)) ∧ w = w' := by
  have H : Hid (RefAt w B yb u L) := h
  obtain ⟨ua, ucap, rfl, hul⟩ := rowE_len h.row
  unfold maxLen at hul
  have k0 : w.cell? ⟨yb, 0, none⟩ = some (.slice ua L.length ucap) := by rw [cell_of_cells h.blk]; rfl
  clear h
  go_enter Try.func36, Try.ntmps36
  go_wp2_with fail
  go_loop [3, 4] (fun c i => ∃ k : Nat, k ≤ L.length ∧ i = .int .i64 k ∧ c = .int .i64 (cnt (L.take k))) (fun _ i => L.length - (intOf i).toNat)
  case atStart => exact ⟨0, Nat.zero_le _, rfl, rfl⟩
  case round =>
    obtain ⟨k, hk, rfl, rfl⟩ := hrel
    have hcl : cnt (L.take k) ≤ k := Nat.le_trans (List.length_filter_le _ _) (by simp; omega)
    by_cases hlt2 : k < L.length
    · obtain ⟨e, he⟩ : ∃ e, L[k]? = some e := ⟨_, List.getElem?_eq_getElem hlt2⟩
      have HT : Hid (cnt (L.take (k + 1)) = cnt (L.take k) + if e.k = 1 then 1 else 0) := by
        show cnt (L.take (k + 1)) = cnt (L.take k) + if e.k = 1 then 1 else 0
        rw [List.take_add_one, he, Option.toList_some]
        unfold cnt
        rw [List.filter_append, List.length_append]
        by_cases h1 : e.k = 1 <;> simp [h1]
      rcases rowE_form H.out.row with ⟨_, h0⟩ | ⟨g, cap, e1, hlc, hcm, hBg, hg⟩
      · rw [h0] at hlt2; simp at hlt2
      · simp only [Value.slice.injEq] at e1
        obtain ⟨rfl, _, rfl⟩ := e1
        obtain ⟨r0, r1, r2, r3⟩ := rowE_cells H.out.row he
        clear he hcm
        by_cases h1 : e.k = 1
        · go_wp2
          go_round
          case rel => exact ⟨k + 1, by omega, by go_num, by rw [HT.out, if_pos h1]; go_num⟩
          case measure => simp [intOf]; omega
        · have h1' : (e.k == 1) = false := by simpa using h1
          go_wp2
          go_round
          case rel => exact ⟨k + 1, by omega, by go_num, by rw [HT.out, if_neg h1]; rfl⟩
          case measure => simp [intOf]; omega
    · have HT : Hid (L.take k = L) := List.take_of_length_le (by omega)
      go_wp2
      go_ret
      exact ⟨by rw [HT.out] <;> rfl, rfl⟩

end Go.Proofs.Ytkelpcjiediamaa
