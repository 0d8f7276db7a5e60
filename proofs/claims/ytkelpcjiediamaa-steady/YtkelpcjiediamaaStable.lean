/-
  What Stable tells of a log in memory.
-/
import Derived.Test.YtkelpcjiediamaaClose
namespace Go.Proofs.Ytkelpcjiediamaa
open Go.RowKit Go.Maps

theorem length_entCells (l : List Ent) : (entCells l).length = 4 * l.length := by
  induction l with
  | nil => rfl
  | cons x r ih => simp only [entCells, List.flatMap_cons, List.length_append] at ih ⊢; rw [ih]; simp [Ent.cs]; omega

theorem entCells_get : ∀ (l : List Ent) (k : Nat) (e : Ent) (j : Nat), l[k]? = some e → j < 4 → (entCells l)[k * 4 + j]? = e.cs[j]?
  | [], k, e, j, h, _ => by simp at h
  | x :: r, 0, e, j, h, hj => by
    simp only [List.getElem?_cons_zero, Option.some.injEq] at h
    subst h
    simp only [entCells, List.flatMap_cons]
    rw [List.getElem?_append_left (by simp [Ent.cs]; omega)]
    simp
  | x :: r, k + 1, e, j, h, hj => by
    simp only [List.getElem?_cons_succ] at h
    have := entCells_get r k e j h hj
    simp only [entCells, List.flatMap_cons] at this ⊢
    rw [List.getElem?_append_right (by simp [Ent.cs]; omega), ← this]
    congr 1
    simp [Ent.cs]; omega

/-- The four cells of the k-th entry. -/
theorem row_cells {w : World} {B g n cap : Nat} {es : List Ent} (h : w.ownsRow B 69 4 (.slice (some ⟨g, 0, none⟩) n cap) es.length (entCells es)) {k : Nat} {e : Ent} (hk : es[k]? = some e) :
    w.cell? ⟨g, k * 4, none⟩ = some (.int .i64 e.k) ∧ w.cell? ⟨g, k * 4 + 1, none⟩ = some (.int .i64 e.p) ∧ w.cell? ⟨g, k * 4 + 2, none⟩ = some (.int .i64 e.t) ∧ w.cell? ⟨g, k * 4 + 3, none⟩ = some (.string e.s) := by
  have hc := h.cells (g := g) rfl
  have key : ∀ j u, j < 4 → e.cs[j]? = some u → w.cell? ⟨g, k * 4 + j, none⟩ = some u := fun j u hj hu => by
    have := hc (k * 4 + j) u ((entCells_get es k e j hk hj).trans hu)
    rw [Addr.add_lit] at this
    simpa using this
  exact ⟨key 0 _ (by omega) rfl, key 1 _ (by omega) rfl, key 2 _ (by omega) rfl, key 3 _ (by omega) rfl⟩

/-- What a slice that owns entries looks like. -/
theorem row_form {w : World} {B : Nat} {v : Value} {es : List Ent} (h : w.ownsRow B 69 4 v es.length (entCells es)) :
    (v = .slice none 0 0 ∧ es = []) ∨ ∃ g cap, v = .slice (some ⟨g, 0, none⟩) es.length cap ∧ es.length ≤ cap ∧ cap ≤ maxLen ∧ B ≤ g ∧ g < w.heap.size := by
  rcases h.2 with ⟨hv, h0⟩ | ⟨g, cap, cur, hv, hb, hg, h1, h2, _⟩
  · exact .inl ⟨hv, List.eq_nil_of_length_eq_zero h0⟩
  · exact .inr ⟨g, cap, hv, h1, h2, hb, lt_of_block hg⟩

def LogS.blocked (s : LogS) (e : Ent) : Bool := decide (e.k = 1) && s.isOpen e.p e.t
def LogS.stable (s : LogS) : Nat := s.es.findIdx s.blocked

def LogS.Wf (s : LogS) : Prop := ∀ e ∈ s.es, (Lit.int .i64 e.p).wf = true ∧ (Lit.int .i64 e.t).wf = true

theorem findIdx_at {α : Type} (p : α → Bool) : ∀ (l : List α) (k : Nat) (e : α), (∀ j x, j < k → l[j]? = some x → p x = false) → l[k]? = some e → p e = true → l.findIdx p = k
  | [], k, e, _, h, _ => by simp at h
  | x :: r, 0, e, _, h, hp => by
    simp only [List.getElem?_cons_zero, Option.some.injEq] at h
    subst h
    simp [List.findIdx_cons, hp]
  | x :: r, k + 1, e, ha, h, hp => by
    have h0 := ha 0 x (by omega) (by simp)
    have := findIdx_at p r k e (fun j y hj hy => ha (j + 1) y (by omega) (by simpa using hy)) (by simpa using h) hp
    simp [List.findIdx_cons, h0, this]

theorem findIdx_none {α : Type} (p : α → Bool) (l : List α) (ha : ∀ (j : Nat) x, l[j]? = some x → p x = false) : l.findIdx p = l.length := by
  apply List.findIdx_eq_length.2
  intro x hx
  obtain ⟨j, hj, rfl⟩ := List.getElem_of_mem hx
  exact ha j _ (List.getElem?_eq_getElem hj)

set_option maxRecDepth 100000 in
set_option maxHeartbeats 800000 in
theorem stable_any {w : World} {B lb bm n : Nat} {v : Value} {s : LogS} (h : LogAt w B lb bm v n s) (hwf : s.Wf) :
    Calls Try.prog 12 #[.pointer (some ⟨lb, 0, none⟩)] w fun e w' => e = .returned (.int .i64 s.stable) ∧ Fr (fun _ => False) w w' := by
  have c0 : w.cell? ⟨lb, 0, none⟩ = some v := by rw [cell_of_cells h.blk]; rfl
  have hlt := h.lt
  rcases row_form h.row with ⟨rfl, he⟩ | ⟨g, cap, rfl, hlc, hcm, hBg, hg⟩
  · have hs : s.stable = 0 := by simp [LogS.stable, he]
    rw [hs]
    clear h hwf hs he
    go_enter Try.func12, Try.ntmps12
    go_wp2_with fail
    go_loopw [10] (fun i w' => i = .int .i64 0 ∧ w' = w) (fun _ _ => 0)
    case atStart => exact ⟨rfl, rfl⟩
    case round =>
      obtain ⟨rfl, rfl⟩ := hrel
      go_wp2
      go_ret
      exact ⟨rfl, Fr.refl _ _⟩
  · unfold maxLen at hcm
    have H : Hid (LogAt w B lb bm (.slice (some ⟨g, 0, none⟩) s.es.length cap) n s) := h
    have HW : Hid s.Wf := hwf
    clear h hwf
    go_enter Try.func12, Try.ntmps12
    go_wp2_with fail
    go_loopw [10] (fun i w' => ∃ k : Nat, k ≤ s.es.length ∧ i = .int .i64 k ∧ Fr (fun _ => False) w w' ∧ ∀ j x, j < k → s.es[j]? = some x → s.blocked x = false) (fun i _ => s.es.length - (intOf i).toNat)
    case atStart => exact ⟨0, Nat.zero_le _, rfl, Fr.refl _ _, fun j x hj => by omega⟩
    case round =>
      obtain ⟨k, hk, rfl, hfr, hall⟩ := hrel
      have HL : Hid (LogAt wr B lb bm (.slice (some ⟨g, 0, none⟩) s.es.length cap) n s) := hfr.logAt H.out id id (fun _ _ => id)
      have k0 : wr.cell? ⟨lb, 0, none⟩ = some (.slice (some ⟨g, 0, none⟩) s.es.length cap) := by rw [cell_of_cells HL.out.blk]; rfl
      have hsz := hfr.size
      have HF : Hid (Fr (fun _ => False) w wr) := hfr
      have HA : Hid (∀ j x, j < k → s.es[j]? = some x → s.blocked x = false) := hall
      clear hfr hall
      by_cases hlt2 : k < s.es.length
      · obtain ⟨e, he⟩ : ∃ e, s.es[k]? = some e := ⟨_, List.getElem?_eq_getElem hlt2⟩
        obtain ⟨r0, r1, r2, r3⟩ := row_cells HL.out.row he
        have HW1 : Hid ((Lit.int .i64 e.p).wf = true) := (HW.out e (List.mem_of_getElem? he)).1
        have HE : Hid (s.es[k]? = some e) := he
        have hnew : ∀ o : Obj, (wr.alloc o).heap.size = wr.heap.size + 1 := fun o => by simp
        clear he
        by_cases h1 : e.k = 1
        · by_cases ho : s.isOpen e.p e.t = true
          · have HS : Hid (s.stable = k) := findIdx_at _ _ k e HA.out HE.out (by simp [LogS.blocked, h1, ho])
            go_wp2_with (go_at_call 31; refine (isOpen_any (by exact (nofr _).logAt HL.out id id (fun _ _ => id)) _ _ HW1.out).mono ?_; rintro e w' ⟨rfl, rfl⟩)
            go_ret
            exact ⟨by rw [HS.out] <;> rfl, HF.out.alloc _⟩
          · have hb : s.blocked e = false := by simp [LogS.blocked, ho]
            have ho' : s.isOpen e.p e.t = false := by simpa using ho
            have HA2 : Hid (∀ j x, j < k + 1 → s.es[j]? = some x → s.blocked x = false) := fun j x hj hx => by
              by_cases ej : j = k
              · subst ej
                have := HE.out.symm.trans hx
                cases this
                exact hb
              · exact HA.out j x (by omega) hx
            clear hb ho
            go_wp2_with (go_at_call 31; refine (isOpen_any (by exact (nofr _).logAt HL.out id id (fun _ _ => id)) _ _ HW1.out).mono ?_; rintro e w' ⟨rfl, rfl⟩)
            go_roundw
            case rel => exact ⟨k + 1, by omega, by go_num, HF.out.alloc _, HA2.out⟩
            case measure => simp [intOf]; omega
        · have hb : s.blocked e = false := by simp [LogS.blocked, h1]
          have h1' : (e.k == 1) = false := by simpa using h1
          have HA2 : Hid (∀ j x, j < k + 1 → s.es[j]? = some x → s.blocked x = false) := fun j x hj hx => by
              by_cases ej : j = k
              · subst ej
                have := HE.out.symm.trans hx
                cases this
                exact hb
              · exact HA.out j x (by omega) hx
          clear hb
          go_wp2
          go_roundw
          case rel => exact ⟨k + 1, by omega, by go_num, HF.out.alloc _, HA2.out⟩
          case measure => simp [intOf]; omega
      · have HS : Hid (s.stable = s.es.length) := findIdx_none _ _ (fun j x hx => HA.out j x (by have := (List.getElem?_eq_some_iff.1 hx).1; omega) hx)
        go_wp2
        go_ret
        exact ⟨by rw [HS.out] <;> rfl, HF.out⟩

end Go.Proofs.Ytkelpcjiediamaa
