/-
  What Entries and Stable tell of the document's log in memory.
-/
import Derived.Test.YtkelpcjiediamaaRefOps
namespace Go.Proofs.Ytkelpcjiediamaa
open Go.RowKit Go.Maps
attribute [local go_sem ↓] Go.wp_at_zero Go.wp_at_succ

def rEnts (L : List Ent) : List Ent := L.filter fun e => decide (0 < e.k)

theorem rEnts_snoc (L : List Ent) (x : Ent) : rEnts (L ++ [x]) = rEnts L ++ if 0 < x.k then [x] else [] := by
  by_cases h : 0 < x.k <;> simp [rEnts, List.filter_append, h]

set_option maxRecDepth 100000 in
set_option maxHeartbeats 800000 in
theorem rEntries_any {w : World} {B yb : Nat} {u : Value} {L : List Ent} (h : RefAt w B yb u L) (hb : L.length * 40 ≤ 140737488355328) :
    Calls Try.prog 20 #[.pointer (some ⟨yb, 0, none⟩)] w fun e w' => ∃ v', e = .returned v' ∧ w'.ownsRow w.heap.size 69 4 v' (rEnts L).length (entCells (rEnts L)) ∧ Fr (fun _ => False) w w' := by
  obtain ⟨i0, hi0, hz0, hz1, hz2⟩ := info_parts info69
  have H : Hid (RefAt w B yb u L) := h
  have HB : Hid (L.length * 40 ≤ 140737488355328) := hb
  obtain ⟨ua, ucap, rfl, hul⟩ := rowE_len h.row
  unfold maxLen at hul
  have hlt := h.lt
  clear h hb
  go_enter Try.func20, Try.ntmps20
  go_wp2_with fail
  go_loopw [3, 4] (fun o i w' => ∃ k : Nat, k ≤ L.length ∧ i = .int .i64 k ∧ w'.ownsRow w.heap.size 69 4 o (rEnts (L.take k)).length (entCells (rEnts (L.take k))) ∧ Fr (fun _ => False) w w') (fun _ i _ => L.length - (intOf i).toNat)
  case atStart => exact ⟨0, Nat.zero_le _, rfl, World.ownsRow_nil _ _ _ _, Fr.refl _ _⟩
  case round =>
    obtain ⟨k, hk, rfl, hown, hfr⟩ := hrel
    have HF : Hid (Fr (fun _ => False) w wr) := hfr
    have HR : Hid (RefAt wr B yb (.slice ua L.length ucap) L) := hfr.refAt H.out id (fun _ _ => id)
    have HO : Hid (wr.ownsRow w.heap.size 69 4 u3 (rEnts (L.take k)).length (entCells (rEnts (L.take k)))) := hown
    have HG : Hid ((rEnts (L.take k)).length ≤ k) := Nat.le_trans (List.length_filter_le _ _) (by simp; omega)
    have k0 : wr.cell? ⟨yb, 0, none⟩ = some (.slice ua L.length ucap) := by rw [cell_of_cells HR.out.blk]; rfl
    have hsz := hfr.size
    clear hfr hown
    by_cases hlt2 : k < L.length
    · obtain ⟨e, he⟩ : ∃ e, L[k]? = some e := ⟨_, List.getElem?_eq_getElem hlt2⟩
      have HT : Hid (rEnts (L.take (k + 1)) = rEnts (L.take k) ++ if 0 < e.k then [e] else []) := by
        show rEnts (L.take (k + 1)) = _
        rw [List.take_add_one, he, Option.toList_some, rEnts_snoc]
      rcases rowE_form HR.out.row with ⟨_, h0⟩ | ⟨g, cap, e1, hlc, hcm, hBg, hg⟩
      · rw [h0] at hlt2; simp at hlt2
      · simp only [Value.slice.injEq] at e1
        obtain ⟨rfl, _, rfl⟩ := e1
        obtain ⟨r0, r1, r2, r3⟩ := rowE_cells HR.out.row he
        have HK : Hid (k < L.length) := hlt2
        clear he hcm
        by_cases h1 : 0 < e.k
        · go_wp2_with (at_builtin; refine wpList_append_lies _ rfl _ _ 49 rfl w.heap.size 69 i0 _ 4 40 Try.underlying49 hi0 hz0 hz1 hz2 rfl (by decide) _ (rEnts (L.take k)).length (entCells (rEnts (L.take k))) rfl (by exact HO.out.alloc _) ⟨wr.heap.size, 0, none⟩ 1 1 [.int .i64 e.k, .int .i64 e.p, .int .i64 e.t, .string e.s] rfl rfl (World.news_of_block (cs := #[.int .i64 e.k, .int .i64 e.p, .int .i64 e.t, .string e.s]) (t := 69) (fr := (0, 0)) (heap_alloc_new _ _)) (by simp [Value.oneCell']) (by decide) (by have := HG.out; have := HB.out; have := HK.out; simp only [maxLen]; omega) (by have := HG.out; have := HB.out; have := HK.out; omega) (by simp; omega) (wr.heap.size + 1) (by simp) ?_; intro gg gcap w3 hown3 hgrow3 hat3 hlt3)
          go_roundw
          case rel =>
            have hfr3 : Fr (fun x => u3.ownBlock = some x) wr w3 := ((Fr.refl _ _).alloc _).grown hgrow3 (fun x ex => .inl ex)
            refine ⟨k + 1, by omega, by go_num, ?_, HF.out.trans hfr3 (fun x hx => .inr (HO.out.lt x hx).1)⟩
            rw [HT.out, if_pos h1, entCells_snoc]
            simpa [Ent.cs] using hown3
          case measure => simp [intOf]; omega
        · go_wp2
          go_roundw
          case rel => exact ⟨k + 1, by omega, by go_num, by rw [HT.out, if_neg h1, List.append_nil]; exact HO.out, HF.out⟩
          case measure => simp [intOf]; omega
    · have HT : Hid (L.take k = L) := List.take_of_length_le (by omega)
      go_wp2
      go_ret
      exact ⟨_, rfl, by have := HO.out; rw [HT.out] at this; exact this, HF.out⟩

def rStable (L : List Ent) : Nat := (rEnts L).findIdx fun e => rOpen L e.p e.t

set_option maxRecDepth 100000 in
set_option maxHeartbeats 800000 in
theorem rStable_any {w : World} {B yb : Nat} {u : Value} {L : List Ent} (h : RefAt w B yb u L) (hb : L.length * 40 ≤ 140737488355328) :
    Calls Try.prog 23 #[.pointer (some ⟨yb, 0, none⟩)] w fun e w' => e = .returned (.int .i64 (rStable L)) ∧ Fr (fun _ => False) w w' := by
  have H : Hid (RefAt w B yb u L) := h
  have HB : Hid (L.length * 40 ≤ 140737488355328) := hb
  clear h hb
  go_enter Try.func23, Try.ntmps23
  go_wp2_with (go_at_call 20; refine (rEntries_any H.out HB.out).mono ?_; rintro e w1 ⟨v1, rfl, ho1, hf1⟩; have HO : Hid (w1.ownsRow w.heap.size 69 4 v1 (rEnts L).length (entCells (rEnts L))) := ho1; have HF1 : Hid (Fr (fun _ => False) w w1) := hf1; clear ho1 hf1)
  obtain ⟨va, vcap, rfl, hvl⟩ := rowE_len HO.out
  unfold maxLen at hvl
  go_loopw [4] (fun i w' => ∃ k : Nat, k ≤ (rEnts L).length ∧ i = .int .i64 k ∧ Fr (fun _ => False) w1 w' ∧ ∀ (j : Nat) x, j < k → (rEnts L)[j]? = some x → rOpen L x.p x.t = false) (fun i _ => (rEnts L).length - (intOf i).toNat)
  case atStart => exact ⟨0, Nat.zero_le _, rfl, Fr.refl _ _, fun j x hj => by omega⟩
  case round =>
    obtain ⟨k, hk, rfl, hfr, hall⟩ := hrel
    have HF : Hid (Fr (fun _ => False) w1 wr) := hfr
    have HR : Hid (RefAt wr.drew B yb u L) := (HF1.out.trans hfr (fun _ h => h.elim)).drew.refAt H.out id (fun _ _ => id)
    have HO2 : Hid (wr.ownsRow w.heap.size 69 4 (.slice va (rEnts L).length vcap) (rEnts L).length (entCells (rEnts L))) := hfr.ownsRow HO.out (fun _ _ => id)
    have HA : Hid (∀ (j : Nat) x, j < k → (rEnts L)[j]? = some x → rOpen L x.p x.t = false) := hall
    clear hfr hall
    by_cases hlt2 : k < (rEnts L).length
    · obtain ⟨e, he⟩ : ∃ e, (rEnts L)[k]? = some e := ⟨_, List.getElem?_eq_getElem hlt2⟩
      rcases rowE_form HO2.out with ⟨_, h0⟩ | ⟨g, cap, e1, hlc, hcm, hBg, hg⟩
      · rw [h0] at hlt2; simp at hlt2
      · simp only [Value.slice.injEq] at e1
        obtain ⟨rfl, _, rfl⟩ := e1
        obtain ⟨r0, r1, r2, r3⟩ := rowE_cells HO2.out he
        have HE : Hid ((rEnts L)[k]? = some e) := he
        have hi0 : (0 : Int) ≤ (k : Int) := Int.natCast_nonneg _
        have hi1 : (k : Int) < ((rEnts L).length : Int) := by omega
        clear he hcm
        cases ho : rOpen L e.p e.t
        · have HA2 : Hid (∀ (j : Nat) x, j < k + 1 → (rEnts L)[j]? = some x → rOpen L x.p x.t = false) := fun j x hj hx => by
            by_cases ej : j = k
            · subst ej
              have := HE.out.symm.trans hx
              cases this
              exact ho
            · exact HA.out j x (by omega) hx
          go_wp2_with fail
          go_region_held3 (fun w' => w'.cell? ⟨g, k * 4 + 1, none⟩ = some (.int .i64 e.p) ∧ w'.cell? ⟨g, k * 4 + 2, none⟩ = some (.int .i64 e.t))
            (first
              | go_keep
              | (go_split_ands
                 refine ⟨?_, ?_⟩
                 · (rw [hf2.cell (p := ⟨g, k * 4 + 1, none⟩) hg id]; assumption)
                 · (rw [hf2.cell (p := ⟨g, k * 4 + 2, none⟩) hg id]; assumption)))
            ((go_at_call 35; refine (rOpen_any HR.out _ _).mono ?_; rintro x w2 ⟨rfl, hf2⟩; rw [ho]))
          go_wp2
          go_roundw
          case rel => exact ⟨k + 1, by omega, by go_num, HF.out.drew.trans hf2 (fun _ h => h.elim), HA2.out⟩
          case measure => simp [intOf]; omega
        · have HS : Hid (rStable L = k) := findIdx_at _ _ k e HA.out HE.out ho
          go_wp2_with fail
          go_region_held3 (fun w' => w'.cell? ⟨g, k * 4 + 1, none⟩ = some (.int .i64 e.p) ∧ w'.cell? ⟨g, k * 4 + 2, none⟩ = some (.int .i64 e.t))
            (first
              | go_keep
              | (go_split_ands
                 refine ⟨?_, ?_⟩
                 · (rw [hf2.cell (p := ⟨g, k * 4 + 1, none⟩) hg id]; assumption)
                 · (rw [hf2.cell (p := ⟨g, k * 4 + 2, none⟩) hg id]; assumption)))
            ((go_at_call 35; refine (rOpen_any HR.out _ _).mono ?_; rintro x w2 ⟨rfl, hf2⟩; rw [ho]))
          go_wp2
          go_ret
          exact ⟨by rw [HS.out] <;> rfl, HF1.out.trans (HF.out.drew.trans hf2 (fun _ h => h.elim)) (fun _ h => h.elim)⟩
    · have HS : Hid (rStable L = (rEnts L).length) := findIdx_none _ _ (fun j x hx => HA.out j x (by have := (List.getElem?_eq_some_iff.1 hx).1; omega) hx)
      go_wp2
      go_ret
      exact ⟨by rw [HS.out] <;> rfl, HF1.out.trans HF.out (fun _ h => h.elim)⟩

end Go.Proofs.Ytkelpcjiediamaa
