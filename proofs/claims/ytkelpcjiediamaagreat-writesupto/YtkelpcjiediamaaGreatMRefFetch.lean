/-
  What Entries and Stable tell of the document's log in memory.
-/
import Derived.Test.YtkelpcjiediamaaGreatRefOps
namespace Go.Proofs.YtkelpcjiediamaaGreat
open Go.RowKit Go.Maps
attribute [local go_sem ↓] Go.wp_at_zero Go.wp_at_succ

def rEnts (L : List Ent) : List Ent := L.filter fun e => decide (0 < e.k)

theorem rEnts_snoc (L : List Ent) (x : Ent) : rEnts (L ++ [x]) = rEnts L ++ if 0 < x.k then [x] else [] := by
  by_cases h : 0 < x.k <;> simp [rEnts, List.filter_append, h]

set_option maxRecDepth 100000 in
set_option maxHeartbeats 800000 in
theorem rEntries_any {w : World} {B yb : Nat} {u : Value} {L : List Ent} (h : RefAt w B yb u L) (hb : L.length * 40 ≤ 140737488355328) :
    Calls Tryz.prog 146 #[.pointer (some ⟨yb, 0, none⟩)] w fun e w' => ∃ v', e = .returned v' ∧ w'.ownsRow w.heap.size 55 4 v' (rEnts L).length (entCells (rEnts L)) ∧ Fr (fun _ => False) w w' := by
  obtain ⟨i0, hi0, hz0, hz1, hz2⟩ := info_parts info69
  have H : Hid (RefAt w B yb u L) := h
  have HB : Hid (L.length * 40 ≤ 140737488355328) := hb
  obtain ⟨ua, ucap, rfl, hul⟩ := rowE_len h.row
  unfold maxLen at hul
  have hlt := h.lt
  clear h hb
  go_enter Tryz.func146, Tryz.ntmps146
  go_wp2_with fail
  go_loopw [3, 4] (fun o i w' => ∃ k : Nat, k ≤ L.length ∧ i = .int .i64 k ∧ w'.ownsRow w.heap.size 55 4 o (rEnts (L.take k)).length (entCells (rEnts (L.take k))) ∧ Fr (fun _ => False) w w') (fun _ i _ => L.length - (intOf i).toNat)
  case atStart => exact ⟨0, Nat.zero_le _, rfl, World.ownsRow_nil _ _ _ _, Fr.refl _ _⟩
  case round =>
    obtain ⟨k, hk, rfl, hown, hfr⟩ := hrel
    have HF : Hid (Fr (fun _ => False) w wr) := hfr
    have HR : Hid (RefAt wr B yb (.slice ua L.length ucap) L) := hfr.refAt H.out id (fun _ _ => id)
    have HO : Hid (wr.ownsRow w.heap.size 55 4 u3 (rEnts (L.take k)).length (entCells (rEnts (L.take k)))) := hown
    have HG : Hid ((rEnts (L.take k)).length ≤ k) := Nat.le_trans (List.length_filter_le _ _) (by simp; omega)
    have k0 : wr.cell? ⟨yb, 0, none⟩ = some (.slice ua L.length ucap) := by rw [cell_of_cells HR.out.blk]; rfl
    have hsz := hfr.size
    clear hfr hown
    by_cases hlt2 : k < L.length
    · obtain ⟨e, he⟩ : ∃ e, L[k]? = some e := ⟨_, List.getElem?_eq_getElem hlt2⟩
      have HT : Hid (rEnts (L.take (k + 1)) = rEnts (L.take k) ++ if 0 < e.k then [e] else []) := by
        show rEnts (L.take (k + 1)) = _
        rw [List.take_add_one, he, Option.toList_some, rEnts_snoc]
      rcases rowE_form HR.out.row with ⟨_, h0⟩ | ⟨g, cap, e1, hlc, hcm, hBg, hg⟩
      · rw [h0] at hlt2; simp at hlt2
      · simp only [Value.slice.injEq] at e1
        obtain ⟨rfl, _, rfl⟩ := e1
        obtain ⟨r0, r1, r2, r3⟩ := rowE_cells HR.out.row he
        have HK : Hid (k < L.length) := hlt2
        clear he hcm
        by_cases h1 : 0 < e.k
        · go_wp2_with (at_builtin; refine wpList_append_lies _ rfl _ _ 49 rfl w.heap.size 55 i0 _ 4 40 Tryz.underlying49 hi0 hz0 hz1 hz2 rfl (by decide) _ (rEnts (L.take k)).length (entCells (rEnts (L.take k))) rfl (by exact HO.out.alloc _) ⟨wr.heap.size, 0, none⟩ 1 1 [.int .i64 e.k, .int .i64 e.p, .int .i64 e.t, .string e.s] rfl rfl (World.news_of_block (cs := #[.int .i64 e.k, .int .i64 e.p, .int .i64 e.t, .string e.s]) (t := 55) (fr := (0, 0)) (heap_alloc_new _ _)) (by simp [Value.oneCell']) (by decide) (by have := HG.out; have := HB.out; have := HK.out; simp only [maxLen]; omega) (by have := HG.out; have := HB.out; have := HK.out; omega) (by simp; omega) (wr.heap.size + 1) (by simp) ?_; intro gg gcap w3 hown3 hgrow3 hat3 hlt3)
          go_roundw
          case rel =>
            have hfr3 : Fr (fun x => u3.ownBlock = some x) wr w3 := ((Fr.refl _ _).alloc _).grown hgrow3 (fun x ex => .inl ex)
            refine ⟨k + 1, by omega, by go_num, ?_, HF.out.trans hfr3 (fun x hx => .inr (HO.out.lt x hx).1)⟩
            rw [HT.out, if_pos h1, entCells_snoc]
            simpa [Ent.cs] using hown3
          case measure => simp [intOf]; omega
        · go_wp2
          go_roundw
          case rel => exact ⟨k + 1, by omega, by go_num, by rw [HT.out, if_neg h1, List.append_nil]; exact HO.out, HF.out⟩
          case measure => simp [intOf]; omega
    · have HT : Hid (L.take k = L) := List.take_of_length_le (by omega)
      go_wp2
      go_ret
      exact ⟨_, rfl, by have := HO.out; rw [HT.out] at this; exact this, HF.out⟩

def rStable (L : List Ent) : Nat := (rEnts L).findIdx fun e => rOpen L e.p e.t

set_option maxRecDepth 100000 in
set_option maxHeartbeats 800000 in
theorem rStable_any {w : World} {B yb : Nat} {u : Value} {L : List Ent} (h : RefAt w B yb u L) (hb : L.length * 40 ≤ 140737488355328) :
    Calls Tryz.prog 147 #[.pointer (some ⟨yb, 0, none⟩)] w fun e w' => e = .returned (.int .i64 (rStable L)) ∧ Fr (fun _ => False) w w' := by
  have H : Hid (RefAt w B yb u L) := h
  have HB : Hid (L.length * 40 ≤ 140737488355328) := hb
  clear h hb
  go_enter Tryz.func147, Tryz.ntmps147
  go_wp2_with (go_at_call 146; refine (rEntries_any H.out HB.out).mono ?_; rintro e w1 ⟨v1, rfl, ho1, hf1⟩; have HO : Hid (w1.ownsRow w.heap.size 55 4 v1 (rEnts L).length (entCells (rEnts L))) := ho1; have HF1 : Hid (Fr (fun _ => False) w w1) := hf1; clear ho1 hf1)
  obtain ⟨va, vcap, rfl, hvl⟩ := rowE_len HO.out
  unfold maxLen at hvl
  go_loopw [4] (fun i w' => ∃ k : Nat, k ≤ (rEnts L).length ∧ i = .int .i64 k ∧ Fr (fun _ => False) w1 w' ∧ ∀ (j : Nat) x, j < k → (rEnts L)[j]? = some x → rOpen L x.p x.t = false) (fun i _ => (rEnts L).length - (intOf i).toNat)
  case atStart => exact ⟨0, Nat.zero_le _, rfl, Fr.refl _ _, fun j x hj => by omega⟩
  case round =>
    obtain ⟨k, hk, rfl, hfr, hall⟩ := hrel
    have HF : Hid (Fr (fun _ => False) w1 wr) := hfr
    have HR : Hid (RefAt wr.drew B yb u L) := (HF1.out.trans hfr (fun _ h => h.elim)).drew.refAt H.out id (fun _ _ => id)
    have HO2 : Hid (wr.ownsRow w.heap.size 55 4 (.slice va (rEnts L).length vcap) (rEnts L).length (entCells (rEnts L))) := hfr.ownsRow HO.out (fun _ _ => id)
    have HA : Hid (∀ (j : Nat) x, j < k → (rEnts L)[j]? = some x → rOpen L x.p x.t = false) := hall
    clear hfr hall
    by_cases hlt2 : k < (rEnts L).length
    · obtain ⟨e, he⟩ : ∃ e, (rEnts L)[k]? = some e := ⟨_, List.getElem?_eq_getElem hlt2⟩
      rcases rowE_form HO2.out with ⟨_, h0⟩ | ⟨g, cap, e1, hlc, hcm, hBg, hg⟩
      · rw [h0] at hlt2; simp at hlt2
      · simp only [Value.slice.injEq] at e1
        obtain ⟨rfl, _, rfl⟩ := e1
        obtain ⟨r0, r1, r2, r3⟩ := rowE_cells HO2.out he
        have HE : Hid ((rEnts L)[k]? = some e) := he
        have hi0 : (0 : Int) ≤ (k : Int) := Int.natCast_nonneg _
        have hi1 : (k : Int) < ((rEnts L).length : Int) := by omega
        clear he hcm
        cases ho : rOpen L e.p e.t
        · have HA2 : Hid (∀ (j : Nat) x, j < k + 1 → (rEnts L)[j]? = some x → rOpen L x.p x.t = false) := fun j x hj hx => by
            by_cases ej : j = k
            · subst ej
              have := HE.out.symm.trans hx
              cases this
              exact ho
            · exact HA.out j x (by omega) hx
          go_wp2_with fail
          go_region_held3 (fun w' => w'.cell? ⟨g, k * 4 + 1, none⟩ = some (.int .i64 e.p) ∧ w'.cell? ⟨g, k * 4 + 2, none⟩ = some (.int .i64 e.t))
            (first
              | go_keep
              | (go_split_ands
                 refine ⟨?_, ?_⟩
                 · (rw [hf2.cell (p := ⟨g, k * 4 + 1, none⟩) hg id]; assumption)
                 · (rw [hf2.cell (p := ⟨g, k * 4 + 2, none⟩) hg id]; assumption)))
            ((go_at_call 137; refine (rOpen_any HR.out _ _).mono ?_; rintro x w2 ⟨rfl, hf2⟩; rw [ho]))
          go_wp2
          go_roundw
          case rel => exact ⟨k + 1, by omega, by go_num, HF.out.drew.trans hf2 (fun _ h => h.elim), HA2.out⟩
          case measure => simp [intOf]; omega
        · have HS : Hid (rStable L = k) := findIdx_at _ _ k e HA.out HE.out ho
          go_wp2_with fail
          go_region_held3 (fun w' => w'.cell? ⟨g, k * 4 + 1, none⟩ = some (.int .i64 e.p) ∧ w'.cell? ⟨g, k * 4 + 2, none⟩ = some (.int .i64 e.t))
            (first
              | go_keep
              | (go_split_ands
                 refine ⟨?_, ?_⟩
                 · (rw [hf2.cell (p := ⟨g, k * 4 + 1, none⟩) hg id]; assumption)
                 · (rw [hf2.cell (p := ⟨g, k * 4 + 2, none⟩) hg id]; assumption)))
            ((go_at_call 137; refine (rOpen_any HR.out _ _).mono ?_; rintro x w2 ⟨rfl, hf2⟩; rw [ho]))
          go_wp2
          go_ret
          exact ⟨by rw [HS.out] <;> rfl, HF1.out.trans (HF.out.drew.trans hf2 (fun _ h => h.elim)) (fun _ h => h.elim)⟩
    · have HS : Hid (rStable L = (rEnts L).length) := findIdx_none _ _ (fun j x hx => HA.out j x (by have := (List.getElem?_eq_some_iff.1 hx).1; omega) hx)
      go_wp2
      go_ret
      exact ⟨by rw [HS.out] <;> rfl, HF1.out.trans HF.out (fun _ h => h.elim)⟩

end Go.Proofs.YtkelpcjiediamaaGreat

/-
  What Fetch tells of the document's log in memory.
-/
namespace Go.Proofs.YtkelpcjiediamaaGreat
open Go.RowKit Go.Maps
attribute [local go_sem ↓] Go.wp_at_zero Go.wp_at_succ

def cHit (e x : Ent) : Bool := decide (x.k = 2) && decide (x.p = e.p) && decide (x.t = e.t)
/-- Is there a commit of e's transaction among the entries from i on, ahead of j? -/
def cAny (A : List Ent) (e : Ent) (i j : Nat) : Bool := ((A.take j).drop i).any (cHit e)

theorem cAny_nil (A : List Ent) (e : Ent) (i : Nat) : cAny A e i i = false := by simp [cAny]

theorem cAny_succ {A : List Ent} {e x : Ent} {i j : Nat} (hij : i ≤ j) (hx : A[j]? = some x) : cAny A e i (j + 1) = (cAny A e i j || cHit e x) := by
  have hj := (List.getElem?_eq_some_iff.1 hx).1
  unfold cAny
  rw [List.take_add_one, hx, Option.toList_some, List.drop_append_of_le_length (by simp; omega), List.any_append]
  simp

def cAll (A : List Ent) (e : Ent) (i : Nat) : Bool := cAny A e i A.length

def rTake (A : List Ent) (f m : Int) (o : List Rec) (i : Nat) (e : Ent) : Bool := decide (e.k = 1) && cAll A e i && decide (f ≤ (i : Int)) && decide ((o.length : Int) < m)
def rGot (A : List Ent) (f m : Int) : Nat → List Rec
  | 0 => []
  | i + 1 => match A[i]? with
    | some e => if rTake A f m (rGot A f m i) i e then rGot A f m i ++ [⟨i, e.p, e.s⟩] else rGot A f m i
    | none => rGot A f m i

theorem rGot_succ {A : List Ent} {f m : Int} {i : Nat} {e : Ent} (he : A[i]? = some e) : rGot A f m (i + 1) = if rTake A f m (rGot A f m i) i e then rGot A f m i ++ [⟨i, e.p, e.s⟩] else rGot A f m i := by
  simp [rGot, he]

theorem rGot_len (A : List Ent) (f m : Int) : ∀ i, (rGot A f m i).length ≤ i
  | 0 => by simp [rGot]
  | i + 1 => by
    have := rGot_len A f m i
    simp only [rGot]
    split
    · split
      · simp; omega
      · omega
    · omega

def rFetch (L : List Ent) (f m : Int) : List Rec := rGot (rEnts L) f m (rStable L)

theorem rStable_le (L : List Ent) : rStable L ≤ (rEnts L).length := List.findIdx_le_length

theorem ne_69_73 {w : World} {B B' : Nat} {v o : Value} {g n n' cap : Nat} {xs ys : List Value} (h : w.ownsRow B 55 4 v n xs) (ho : w.ownsRow B' 94 3 o n' ys) (hv : v = .slice (some ⟨g, 0, none⟩) n cap) : o.ownBlock ≠ some g := by
  intro e
  subst hv
  rcases ho.2 with ⟨rfl, _⟩ | ⟨g2, cap2, cur2, rfl, _, hg2, _⟩
  · simp [Value.ownBlock] at e
  · simp [Value.ownBlock] at e
    subst e
    rcases h.2 with ⟨h1, _⟩ | ⟨g3, cap3, cur3, h1, _, hg3, _⟩
    · cases h1
    · simp only [Value.slice.injEq, Option.some.injEq, Addr.mk.injEq] at h1
      obtain ⟨⟨rfl, _⟩, _⟩ := h1
      rw [hg2] at hg3; cases hg3

set_option maxRecDepth 100000 in
set_option maxHeartbeats 1600000 in
theorem rFetch_any {w : World} {B yb : Nat} {u : Value} {L : List Ent} (h : RefAt w B yb u L) (hb : L.length * 40 ≤ 140737488355328) (f m : Int) :
    Calls Tryz.prog 149 #[.pointer (some ⟨yb, 0, none⟩), .int .i64 f, .int .i64 m] w fun e w' => ∃ v', e = .returned v' ∧ w'.ownsRow w.heap.size 94 3 v' (rFetch L f m).length (recCells (rFetch L f m)) ∧ Fr (fun _ => False) w w' := by
  obtain ⟨i0, hi0, hz0, hz1, hz2⟩ := info_parts info73
  have H : Hid (RefAt w B yb u L) := h
  have HB : Hid (L.length * 40 ≤ 140737488355328) := hb
  have HBA : Hid ((rEnts L).length ≤ L.length) := List.length_filter_le _ _
  clear h hb
  go_enter Tryz.func149, Tryz.ntmps149
  go_wp2_with (first
    | (go_at_call 146; refine (rEntries_any H.out HB.out).mono ?_; rintro e w1 ⟨v1, rfl, ho1, hf1⟩; have HO : Hid (w1.ownsRow w.heap.size 55 4 v1 (rEnts L).length (entCells (rEnts L))) := ho1; have HF1 : Hid (Fr (fun _ => False) w w1) := hf1; clear ho1 hf1)
    | (go_at_call 147; refine (rStable_any (by exact HF1.out.refAt H.out id (fun _ _ => id)) HB.out).mono ?_; rintro e w2 ⟨rfl, hf2⟩; have HF2 : Hid (Fr (fun _ => False) w w2) := HF1.out.trans hf2 (fun _ h => h.elim); have HO2 : Hid (w2.ownsRow w.heap.size 55 4 v1 (rEnts L).length (entCells (rEnts L))) := hf2.ownsRow HO.out (fun _ _ => id); clear hf2))
  have hsl := rStable_le L
  have HRF : Hid (rFetch L f m = rGot (rEnts L) f m (rStable L)) := rfl
  generalize rStable L = S at *
  generalize rEnts L = A at *
  obtain ⟨va, vcap, rfl, hvl⟩ := rowE_len HO2.out
  unfold maxLen at hvl
  go_loopw [7, 10] (fun o iv w' => ∃ i : Nat, i ≤ S ∧ iv = .int .i64 i ∧ Fr (fun _ => False) w w' ∧ w'.ownsRow w.heap.size 55 4 (.slice va A.length vcap) A.length (entCells A) ∧ w'.ownsRow w.heap.size 94 3 o (rGot A f m i).length (recCells (rGot A f m i))) (fun _ iv _ => S - (intOf iv).toNat)
  case atStart => exact ⟨0, Nat.zero_le _, rfl, HF2.out, HO2.out, World.ownsRow_nil _ _ _ _⟩
  case round =>
    obtain ⟨i, hi, rfl, hfr, hA, hown⟩ := hrel
    have HF : Hid (Fr (fun _ => False) w wr) := hfr
    have HA : Hid (wr.ownsRow w.heap.size 55 4 (.slice va A.length vcap) A.length (entCells A)) := hA
    obtain ⟨oa, ocap, rfl⟩ := row3_len hown
    have HG : Hid (wr.ownsRow w.heap.size 94 3 (.slice oa (rGot A f m i).length ocap) (rGot A f m i).length (recCells (rGot A f m i))) := hown
    have hsz := hfr.size
    have hgl := rGot_len A f m i
    clear hfr hA hown
    by_cases hlt : i < S
    · obtain ⟨e, he⟩ : ∃ e, A[i]? = some e := ⟨_, List.getElem?_eq_getElem (by omega)⟩
      rcases rowE_form HA.out with ⟨_, h0⟩ | ⟨g, cap, e1, hlc, hcm, hBg, hg⟩
      · rw [h0] at he; simp at he
      · simp only [Value.slice.injEq] at e1
        obtain ⟨rfl, _, rfl⟩ := e1
        have HNE : Hid (Value.ownBlock (.slice oa (rGot A f m i).length ocap) ≠ some g) := ne_69_73 HA.out HG.out rfl
        have HC : Hid (∀ (k : Nat) x, A[k]? = some x → wr.cell? ⟨g, k * 4, none⟩ = some (.int .i64 x.k) ∧ wr.cell? ⟨g, k * 4 + 1, none⟩ = some (.int .i64 x.p) ∧ wr.cell? ⟨g, k * 4 + 2, none⟩ = some (.int .i64 x.t) ∧ wr.cell? ⟨g, k * 4 + 3, none⟩ = some (.string x.s)) := fun k x hx => rowE_cells HA.out hx
        obtain ⟨r0, r1, r2, r3⟩ := HC.out i e he
        have HE : Hid (A[i]? = some e) := he
        have hiA : i < A.length := by omega
        clear he hcm
        go_wp2_with fail
        go_loopw [11, 12] (fun c kv w' => ∃ k : Nat, i ≤ k ∧ k ≤ A.length ∧ kv = .int .i64 k ∧ c = .bool (cAny A e i k) ∧ ∃ q, w' = wr.drewN q) (fun _ kv _ => A.length - (intOf kv).toNat)
        case atStart => exact ⟨i, Nat.le_refl _, by omega, rfl, by rw [cAny_nil], 0, rfl⟩
        case round =>
          obtain ⟨k, hk1, hk2, rfl, rfl, q, rfl⟩ := hrel
          by_cases hklt : k < A.length
          · obtain ⟨x, hx⟩ : ∃ x, A[k]? = some x := ⟨_, List.getElem?_eq_getElem hklt⟩
            obtain ⟨s0, s1, s2, s3⟩ := HC.out k x hx
            have HT : Hid (cAny A e i (k + 1) = (cAny A e i k || cHit e x)) := cAny_succ hk1 hx
            clear hx
            generalize cAny A e i k = c at HT
            cases c
            · by_cases hx2 : x.k = 2
              · have hx2' : (x.k == 2) = true := by simpa using hx2
                by_cases hxp : x.p = e.p
                · have hxp' : (x.p == e.p) = true := by simpa using hxp
                  by_cases hxt : x.t = e.t
                  · have hxt' : (x.t == e.t) = true := by simpa using hxt
                    have HT2 : Hid (cAny A e i (k + 1) = true) := by show cAny A e i (k + 1) = true; rw [HT.out]; simp [cHit, hx2, hxp, hxt]
                    clear HT hxp hxt
                    go_wp2_with fail
                    go_quiet (fail)
                    go_wp2
                    go_roundw
                    case rel => exact ⟨k + 1, by omega, by omega, by go_num, by rw [HT2.out], q + nq, by simp [World.drewN]⟩
                    case measure => simp [intOf]; omega
                  · have hxt' : (x.t == e.t) = false := by simpa using hxt
                    have HT2 : Hid (cAny A e i (k + 1) = false) := by show cAny A e i (k + 1) = false; rw [HT.out]; simp [cHit, hxt]
                    clear HT hxp
                    go_wp2_with fail
                    go_quiet (fail)
                    go_wp2
                    go_roundw
                    case rel => exact ⟨k + 1, by omega, by omega, by go_num, by rw [HT2.out], q + nq, by simp [World.drewN]⟩
                    case measure => simp [intOf]; omega
                · have hxp' : (x.p == e.p) = false := by simpa using hxp
                  have HT2 : Hid (cAny A e i (k + 1) = false) := by show cAny A e i (k + 1) = false; rw [HT.out]; simp [cHit, hxp]
                  clear HT
                  go_wp2_with fail
                  go_quiet (fail)
                  go_wp2
                  go_roundw
                  case rel => exact ⟨k + 1, by omega, by omega, by go_num, by rw [HT2.out], q + nq, by simp [World.drewN]⟩
                  case measure => simp [intOf]; omega
              · have hx2' : (x.k == 2) = false := by simpa using hx2
                have HT2 : Hid (cAny A e i (k + 1) = false) := by show cAny A e i (k + 1) = false; rw [HT.out]; simp [cHit, hx2]
                clear HT
                go_wp2_with fail
                go_quiet (fail)
                go_wp2
                go_roundw
                case rel => exact ⟨k + 1, by omega, by omega, by go_num, by rw [HT2.out], q + nq, by simp [World.drewN]⟩
                case measure => simp [intOf]; omega
            · have HT2 : Hid (cAny A e i (k + 1) = true) := by show cAny A e i (k + 1) = true; rw [HT.out]; simp
              clear HT
              go_wp2_with fail
              go_quiet (fail)
              go_wp2
              go_roundw
              case rel => exact ⟨k + 1, by omega, by omega, by go_num, by rw [HT2.out], q + nq, by simp [World.drewN]⟩
              case measure => simp [intOf]; omega
          · have hkA : k = A.length := by omega
            subst hkA
            have HN : Hid (rGot A f m (i + 1) = if rTake A f m (rGot A f m i) i e then rGot A f m i ++ [⟨i, e.p, e.s⟩] else rGot A f m i) := rGot_succ HE.out
            have D : Fr (fun _ => False) wr (wr.drewN q) := (Fr.refl _ _).drewN q
            have HA3 : Hid ((wr.drewN q).ownsRow w.heap.size 55 4 (.slice (some ⟨g, 0, none⟩) A.length vcap) A.length (entCells A)) := D.ownsRow HA.out (fun _ _ => id)
            have HG3 : Hid ((wr.drewN q).ownsRow w.heap.size 94 3 (.slice oa (rGot A f m i).length ocap) (rGot A f m i).length (recCells (rGot A f m i))) := D.ownsRow HG.out (fun _ _ => id)
            have HF3 : Hid (Fr (fun _ => False) w (wr.drewN q)) := HF.out.drewN q
            clear D
            by_cases htk : rTake A f m (rGot A f m i) i e = true
            · have hk := htk
              simp only [rTake, Bool.and_eq_true, decide_eq_true_eq, cAll] at hk
              obtain ⟨⟨⟨t1, t2⟩, t3⟩, t4⟩ := hk
              have HN2 : Hid (rGot A f m (i + 1) = rGot A f m i ++ [⟨i, e.p, e.s⟩]) := by show rGot A f m (i + 1) = _; rw [HN.out, if_pos htk]
              have hi0' : (0 : Int) ≤ (i : Int) := Int.natCast_nonneg _
              have hi1' : (i : Int) < (A.length : Int) := by omega
              have hxx : (wr.drewN q).heap.size = wr.heap.size := rfl
              clear htk HN
              go_wp2_with fail
              go_region_held3 (fun w' => w'.cell? ⟨g, i * 4 + 1, none⟩ = some (.int .i64 e.p) ∧ w'.cell? ⟨g, i * 4 + 3, none⟩ = some (.string e.s))
                (first
                  | go_keep
                  | (go_split_ands
                     refine ⟨?_, ?_⟩
                     · (rw [hgrow3.cell_far ⟨g, i * 4 + 1, none⟩ (by simp; omega) (Ne.symm HNE.out)]; assumption)
                     · (rw [hgrow3.cell_far ⟨g, i * 4 + 3, none⟩ (by simp; omega) (Ne.symm HNE.out)]; assumption)))
                ((refine step_append_lies _ (by rfl) _ _ _ (by rfl) w.heap.size 94 i0 _ 3 32 Tryz.underlying67 hi0 hz0 hz1 hz2 rfl (by omega) _ (rGot A f m i).length (recCells (rGot A f m i)) (by rfl) (by exact (HG3.out.alloc _).drew)
                    ⟨wr.heap.size, 0, none⟩ 1 1 [.int .i64 i, .int .i64 e.p, .string e.s] (by rfl) (by rfl) (World.news_of_block (cs := #[.int .i64 i, .int .i64 e.p, .string e.s]) (t := 94) (fr := (0, 0)) (by exact heap_alloc_new wr _)) (by simp [Value.oneCell'])
                    (by omega) (by have := HB.out; have := HBA.out; simp only [maxLen]; omega) (by have := HB.out; have := HBA.out; omega) (by simp; omega) (wr.heap.size + 1) (by simp) ?_; intro gg gcap w3 hown3 hgrow3 hat3 hlt3))
              go_wp2
              go_roundw
              case rel =>
                have hfr3 : Fr (fun x => Value.ownBlock (.slice oa (rGot A f m i).length ocap) = some x) (wr.drewN q) w3 := ((Fr.refl _ _).alloc _).drew.grown hgrow3 (fun x ex => .inl ex)
                refine ⟨i + 1, by omega, by go_num, HF3.out.trans hfr3 (fun x hx => .inr (HG3.out.lt x hx).1), hfr3.ownsRow HA3.out (fun x hx e2 => HNE.out (by simp only [Value.ownBlock, Option.some.injEq] at hx; rw [hx]; exact e2)), ?_⟩
                rw [HN2.out, recCells_snoc]
                simpa [Rec.cs] using hown3
              case measure => simp [intOf]; omega
            · have HN2 : Hid (rGot A f m (i + 1) = rGot A f m i) := by show rGot A f m (i + 1) = _; rw [HN.out, if_neg htk]
              have hk : ¬ (e.k = 1 ∧ cAny A e i A.length = true ∧ f ≤ (i : Int) ∧ ((rGot A f m i).length : Int) < m) := by
                rintro ⟨t1, t2, t3, t4⟩
                exact htk (by simp [rTake, cAll, t1, t2, t3, t4])
              clear htk HN
              by_cases t1 : e.k = 1
              · cases t2 : cAny A e i A.length
                · go_wp2
                  go_roundw
                  case rel => exact ⟨i + 1, by omega, by go_num, HF3.out, HA3.out, by rw [HN2.out]; exact HG3.out⟩
                  case measure => simp [intOf]; omega
                · by_cases t3 : f ≤ (i : Int)
                  · have t4 : ¬ ((rGot A f m i).length : Int) < m := fun h => hk ⟨t1, t2, t3, h⟩
                    clear hk
                    go_wp2
                    go_roundw
                    case rel => exact ⟨i + 1, by omega, by go_num, HF3.out, HA3.out, by rw [HN2.out]; exact HG3.out⟩
                    case measure => simp [intOf]; omega
                  · clear hk
                    go_wp2
                    go_roundw
                    case rel => exact ⟨i + 1, by omega, by go_num, HF3.out, HA3.out, by rw [HN2.out]; exact HG3.out⟩
                    case measure => simp [intOf]; omega
              · have t1' : (e.k == 1) = false := by simpa using t1
                clear hk
                go_wp2
                go_roundw
                case rel => exact ⟨i + 1, by omega, by go_num, HF3.out, HA3.out, by rw [HN2.out]; exact HG3.out⟩
                case measure => simp [intOf]; omega
    · have HS : Hid (i = S) := by show i = S; omega
      go_wp2
      go_ret
      exact ⟨_, rfl, by rw [HRF.out, ← HS.out]; exact HG.out, HF.out⟩

end Go.Proofs.YtkelpcjiediamaaGreat
