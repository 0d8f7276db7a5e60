/-
  What Fetch tells of the document's log in memory.
-/
import Derived.Test.YtkelpcjiediamaaRefAsk
namespace Go.Proofs.Ytkelpcjiediamaa
open Go.RowKit Go.Maps
attribute [local go_sem ↓] Go.wp_at_zero Go.wp_at_succ

def cHit (e x : Ent) : Bool := decide (x.k = 2) && decide (x.p = e.p) && decide (x.t = e.t)
/-- Is there a commit of e's transaction among the entries from i on, ahead of j? -/
def cAny (A : List Ent) (e : Ent) (i j : Nat) : Bool := ((A.take j).drop i).any (cHit e)

theorem cAny_nil (A : List Ent) (e : Ent) (i : Nat) : cAny A e i i = false := by simp [cAny]

theorem cAny_succ {A : List Ent} {e x : Ent} {i j : Nat} (hij : i ≤ j) (hx : A[j]? = some x) : cAny A e i (j + 1) = (cAny A e i j || cHit e x) := by
  have hj := (List.getElem?_eq_some_iff.1 hx).1
  unfold cAny
  rw [List.take_add_one, hx, Option.toList_some, List.drop_append_of_le_length (by simp; omega), List.any_append]
  simp

def cAll (A : List Ent) (e : Ent) (i : Nat) : Bool := cAny A e i A.length

def rTake (A : List Ent) (f m : Int) (o : List Rec) (i : Nat) (e : Ent) : Bool := decide (e.k = 1) && cAll A e i && decide (f ≤ (i : Int)) && decide ((o.length : Int) < m)
def rGot (A : List Ent) (f m : Int) : Nat → List Rec
  | 0 => []
  | i + 1 => match A[i]? with
    | some e => if rTake A f m (rGot A f m i) i e then rGot A f m i ++ [⟨i, e.p, e.s⟩] else rGot A f m i
    | none => rGot A f m i

theorem rGot_succ {A : List Ent} {f m : Int} {i : Nat} {e : Ent} (he : A[i]? = some e) : rGot A f m (i + 1) = if rTake A f m (rGot A f m i) i e then rGot A f m i ++ [⟨i, e.p, e.s⟩] else rGot A f m i := by
  simp [rGot, he]

theorem rGot_len (A : List Ent) (f m : Int) : ∀ i, (rGot A f m i).length ≤ i
  | 0 => by simp [rGot]
  | i + 1 => by
    have := rGot_len A f m i
    simp only [rGot]
    split
    · split
      · simp; omega
      · omega
    · omega

def rFetch (L : List Ent) (f m : Int) : List Rec := rGot (rEnts L) f m (rStable L)

theorem rStable_le (L : List Ent) : rStable L ≤ (rEnts L).length := List.findIdx_le_length

theorem ne_69_73 {w : World} {B B' : Nat} {v o : Value} {g n n' cap : Nat} {xs ys : List Value} (h : w.ownsRow B 69 4 v n xs) (ho : w.ownsRow B' 73 3 o n' ys) (hv : v = .slice (some ⟨g, 0, none⟩) n cap) : o.ownBlock ≠ some g := by
  intro e
  subst hv
  rcases ho.2 with ⟨rfl, _⟩ | ⟨g2, cap2, cur2, rfl, _, hg2, _⟩
  · simp [Value.ownBlock] at e
  · simp [Value.ownBlock] at e
    subst e
    rcases h.2 with ⟨h1, _⟩ | ⟨g3, cap3, cur3, h1, _, hg3, _⟩
    · cases h1
    · simp only [Value.slice.injEq, Option.some.injEq, Addr.mk.injEq] at h1
      obtain ⟨⟨rfl, _⟩, _⟩ := h1
      rw [hg2] at hg3; cases hg3

set_option maxRecDepth 100000 in
set_option maxHeartbeats 1600000 in
theorem rFetch_any {w : World} {B yb : Nat} {u : Value} {L : List Ent} (h : RefAt w B yb u L) (hb : L.length * 40 ≤ 140737488355328) (f m : Int) :
    Calls Try.prog 28 #[.pointer (some ⟨yb, 0, none⟩), .int .i64 f, .int .i64 m] w fun e w' => ∃ v', e = .returned v' ∧ w'.ownsRow w.heap.size 73 3 v' (rFetch L f m).length (recCells (rFetch L f m)) ∧ Fr (fun _ => False) w w' := by
  obtain ⟨i0, hi0, hz0, hz1, hz2⟩ := info_parts info73
  have H : Hid (RefAt w B yb u L) := h
  have HB : Hid (L.length * 40 ≤ 140737488355328) := hb
  have HBA : Hid ((rEnts L).length ≤ L.length) := List.length_filter_le _ _
  clear h hb
  go_enter Try.func28, Try.ntmps28
  go_wp2_with (first
    | (go_at_call 20; refine (rEntries_any H.out HB.out).mono ?_; rintro e w1 ⟨v1, rfl, ho1, hf1⟩; have HO : Hid (w1.ownsRow w.heap.size 69 4 v1 (rEnts L).length (entCells (rEnts L))) := ho1; have HF1 : Hid (Fr (fun _ => False) w w1) := hf1; clear ho1 hf1)
    | (go_at_call 23; refine (rStable_any (by exact HF1.out.refAt H.out id (fun _ _ => id)) HB.out).mono ?_; rintro e w2 ⟨rfl, hf2⟩; have HF2 : Hid (Fr (fun _ => False) w w2) := HF1.out.trans hf2 (fun _ h => h.elim); have HO2 : Hid (w2.ownsRow w.heap.size 69 4 v1 (rEnts L).length (entCells (rEnts L))) := hf2.ownsRow HO.out (fun _ _ => id); clear hf2))
  have hsl := rStable_le L
  have HRF : Hid (rFetch L f m = rGot (rEnts L) f m (rStable L)) := rfl
  generalize rStable L = S at *
  generalize rEnts L = A at *
  obtain ⟨va, vcap, rfl, hvl⟩ := rowE_len HO2.out
  unfold maxLen at hvl
  go_loopw [7, 10] (fun o iv w' => ∃ i : Nat, i ≤ S ∧ iv = .int .i64 i ∧ Fr (fun _ => False) w w' ∧ w'.ownsRow w.heap.size 69 4 (.slice va A.length vcap) A.length (entCells A) ∧ w'.ownsRow w.heap.size 73 3 o (rGot A f m i).length (recCells (rGot A f m i))) (fun _ iv _ => S - (intOf iv).toNat)
  case atStart => exact ⟨0, Nat.zero_le _, rfl, HF2.out, HO2.out, World.ownsRow_nil _ _ _ _⟩
  case round =>
    obtain ⟨i, hi, rfl, hfr, hA, hown⟩ := hrel
    have HF : Hid (Fr (fun _ => False) w wr) := hfr
    have HA : Hid (wr.ownsRow w.heap.size 69 4 (.slice va A.length vcap) A.length (entCells A)) := hA
    obtain ⟨oa, ocap, rfl⟩ := row3_len hown
    have HG : Hid (wr.ownsRow w.heap.size 73 3 (.slice oa (rGot A f m i).length ocap) (rGot A f m i).length (recCells (rGot A f m i))) := hown
    have hsz := hfr.size
    have hgl := rGot_len A f m i
    clear hfr hA hown
    by_cases hlt : i < S
    · obtain ⟨e, he⟩ : ∃ e, A[i]? = some e := ⟨_, List.getElem?_eq_getElem (by omega)⟩
      rcases rowE_form HA.out with ⟨_, h0⟩ | ⟨g, cap, e1, hlc, hcm, hBg, hg⟩
      · rw [h0] at he; simp at he
      · simp only [Value.slice.injEq] at e1
        obtain ⟨rfl, _, rfl⟩ := e1
        have HNE : Hid (Value.ownBlock (.slice oa (rGot A f m i).length ocap) ≠ some g) := ne_69_73 HA.out HG.out rfl
        have HC : Hid (∀ (k : Nat) x, A[k]? = some x → wr.cell? ⟨g, k * 4, none⟩ = some (.int .i64 x.k) ∧ wr.cell? ⟨g, k * 4 + 1, none⟩ = some (.int .i64 x.p) ∧ wr.cell? ⟨g, k * 4 + 2, none⟩ = some (.int .i64 x.t) ∧ wr.cell? ⟨g, k * 4 + 3, none⟩ = some (.string x.s)) := fun k x hx => rowE_cells HA.out hx
        obtain ⟨r0, r1, r2, r3⟩ := HC.out i e he
        have HE : Hid (A[i]? = some e) := he
        have hiA : i < A.length := by omega
        clear he hcm
        go_wp2_with fail
        go_loopw [11, 12] (fun c kv w' => ∃ k : Nat, i ≤ k ∧ k ≤ A.length ∧ kv = .int .i64 k ∧ c = .bool (cAny A e i k) ∧ ∃ q, w' = wr.drewN q) (fun _ kv _ => A.length - (intOf kv).toNat)
        case atStart => exact ⟨i, Nat.le_refl _, by omega, rfl, by rw [cAny_nil], 0, rfl⟩
        case round =>
          obtain ⟨k, hk1, hk2, rfl, rfl, q, rfl⟩ := hrel
          by_cases hklt : k < A.length
          · obtain ⟨x, hx⟩ : ∃ x, A[k]? = some x := ⟨_, List.getElem?_eq_getElem hklt⟩
            obtain ⟨s0, s1, s2, s3⟩ := HC.out k x hx
            have HT : Hid (cAny A e i (k + 1) = (cAny A e i k || cHit e x)) := cAny_succ hk1 hx
            clear hx
            generalize cAny A e i k = c at HT
            cases c
            · by_cases hx2 : x.k = 2
              · have hx2' : (x.k == 2) = true := by simpa using hx2
                by_cases hxp : x.p = e.p
                · have hxp' : (x.p == e.p) = true := by simpa using hxp
                  by_cases hxt : x.t = e.t
                  · have hxt' : (x.t == e.t) = true := by simpa using hxt
                    have HT2 : Hid (cAny A e i (k + 1) = true) := by show cAny A e i (k + 1) = true; rw [HT.out]; simp [cHit, hx2, hxp, hxt]
                    clear HT hxp hxt
                    go_wp2_with fail
                    go_quiet (fail)
                    go_wp2
                    go_roundw
                    case rel => exact ⟨k + 1, by omega, by omega, by go_num, by rw [HT2.out], q + nq, by simp [World.drewN]⟩
                    case measure => simp [intOf]; omega
                  · have hxt' : (x.t == e.t) = false := by simpa using hxt
                    have HT2 : Hid (cAny A e i (k + 1) = false) := by show cAny A e i (k + 1) = false; rw [HT.out]; simp [cHit, hxt]
                    clear HT hxp
                    go_wp2_with fail
                    go_quiet (fail)
                    go_wp2
                    go_roundw
                    case rel => exact ⟨k + 1, by omega, by omega, by go_num, by rw [HT2.out], q + nq, by simp [World.drewN]⟩
                    case measure => simp [intOf]; omega
                · have hxp' : (x.p == e.p) = false := by simpa using hxp
                  have HT2 : Hid (cAny A e i (k + 1) = false) := by show cAny A e i (k + 1) = false; rw [HT.out]; simp [cHit, hxp]
                  clear HT
                  go_wp2_with fail
                  go_quiet (fail)
                  go_wp2
                  go_roundw
                  case rel => exact ⟨k + 1, by omega, by omega, by go_num, by rw [HT2.out], q + nq, by simp [World.drewN]⟩
                  case measure => simp [intOf]; omega
              · have hx2' : (x.k == 2) = false := by simpa using hx2
                have HT2 : Hid (cAny A e i (k + 1) = false) := by show cAny A e i (k + 1) = false; rw [HT.out]; simp [cHit, hx2]
                clear HT
                go_wp2_with fail
                go_quiet (fail)
                go_wp2
                go_roundw
                case rel => exact ⟨k + 1, by omega, by omega, by go_num, by rw [HT2.out], q + nq, by simp [World.drewN]⟩
                case measure => simp [intOf]; omega
            · have HT2 : Hid (cAny A e i (k + 1) = true) := by show cAny A e i (k + 1) = true; rw [HT.out]; simp
              clear HT
              go_wp2_with fail
              go_quiet (fail)
              go_wp2
              go_roundw
              case rel => exact ⟨k + 1, by omega, by omega, by go_num, by rw [HT2.out], q + nq, by simp [World.drewN]⟩
              case measure => simp [intOf]; omega
          · have hkA : k = A.length := by omega
            subst hkA
            have HN : Hid (rGot A f m (i + 1) = if rTake A f m (rGot A f m i) i e then rGot A f m i ++ [⟨i, e.p, e.s⟩] else rGot A f m i) := rGot_succ HE.out
            have D : Fr (fun _ => False) wr (wr.drewN q) := (Fr.refl _ _).drewN q
            have HA3 : Hid ((wr.drewN q).ownsRow w.heap.size 69 4 (.slice (some ⟨g, 0, none⟩) A.length vcap) A.length (entCells A)) := D.ownsRow HA.out (fun _ _ => id)
            have HG3 : Hid ((wr.drewN q).ownsRow w.heap.size 73 3 (.slice oa (rGot A f m i).length ocap) (rGot A f m i).length (recCells (rGot A f m i))) := D.ownsRow HG.out (fun _ _ => id)
            have HF3 : Hid (Fr (fun _ => False) w (wr.drewN q)) := HF.out.drewN q
            clear D
            by_cases htk : rTake A f m (rGot A f m i) i e = true
            · have hk := htk
              simp only [rTake, Bool.and_eq_true, decide_eq_true_eq, cAll] at hk
              obtain ⟨⟨⟨t1, t2⟩, t3⟩, t4⟩ := hk
              have HN2 : Hid (rGot A f m (i + 1) = rGot A f m i ++ [⟨i, e.p, e.s⟩]) := by show rGot A f m (i + 1) = _; rw [HN.out, if_pos htk]
              have hi0' : (0 : Int) ≤ (i : Int) := Int.natCast_nonneg _
              have hi1' : (i : Int) < (A.length : Int) := by omega
              have hxx : (wr.drewN q).heap.size = wr.heap.size := rfl
              clear htk HN
              go_wp2_with fail
              go_region_held3 (fun w' => w'.cell? ⟨g, i * 4 + 1, none⟩ = some (.int .i64 e.p) ∧ w'.cell? ⟨g, i * 4 + 3, none⟩ = some (.string e.s))
                (first
                  | go_keep
                  | (go_split_ands
                     refine ⟨?_, ?_⟩
                     · (rw [hgrow3.cell_far ⟨g, i * 4 + 1, none⟩ (by simp; omega) (Ne.symm HNE.out)]; assumption)
                     · (rw [hgrow3.cell_far ⟨g, i * 4 + 3, none⟩ (by simp; omega) (Ne.symm HNE.out)]; assumption)))
                ((refine step_append_lies _ (by rfl) _ _ _ (by rfl) w.heap.size 73 i0 _ 3 32 Try.underlying47 hi0 hz0 hz1 hz2 rfl (by omega) _ (rGot A f m i).length (recCells (rGot A f m i)) (by rfl) (by exact (HG3.out.alloc _).drew)
                    ⟨wr.heap.size, 0, none⟩ 1 1 [.int .i64 i, .int .i64 e.p, .string e.s] (by rfl) (by rfl) (World.news_of_block (cs := #[.int .i64 i, .int .i64 e.p, .string e.s]) (t := 73) (fr := (0, 0)) (by exact heap_alloc_new wr _)) (by simp [Value.oneCell'])
                    (by omega) (by have := HB.out; have := HBA.out; simp only [maxLen]; omega) (by have := HB.out; have := HBA.out; omega) (by simp; omega) (wr.heap.size + 1) (by simp) ?_; intro gg gcap w3 hown3 hgrow3 hat3 hlt3))
              go_wp2
              go_roundw
              case rel =>
                have hfr3 : Fr (fun x => Value.ownBlock (.slice oa (rGot A f m i).length ocap) = some x) (wr.drewN q) w3 := ((Fr.refl _ _).alloc _).drew.grown hgrow3 (fun x ex => .inl ex)
                refine ⟨i + 1, by omega, by go_num, HF3.out.trans hfr3 (fun x hx => .inr (HG3.out.lt x hx).1), hfr3.ownsRow HA3.out (fun x hx e2 => HNE.out (by simp only [Value.ownBlock, Option.some.injEq] at hx; rw [hx]; exact e2)), ?_⟩
                rw [HN2.out, recCells_snoc]
                simpa [Rec.cs] using hown3
              case measure => simp [intOf]; omega
            · have HN2 : Hid (rGot A f m (i + 1) = rGot A f m i) := by show rGot A f m (i + 1) = _; rw [HN.out, if_neg htk]
              have hk : ¬ (e.k = 1 ∧ cAny A e i A.length = true ∧ f ≤ (i : Int) ∧ ((rGot A f m i).length : Int) < m) := by
                rintro ⟨t1, t2, t3, t4⟩
                exact htk (by simp [rTake, cAll, t1, t2, t3, t4])
              clear htk HN
              by_cases t1 : e.k = 1
              · cases t2 : cAny A e i A.length
                · go_wp2
                  go_roundw
                  case rel => exact ⟨i + 1, by omega, by go_num, HF3.out, HA3.out, by rw [HN2.out]; exact HG3.out⟩
                  case measure => simp [intOf]; omega
                · by_cases t3 : f ≤ (i : Int)
                  · have t4 : ¬ ((rGot A f m i).length : Int) < m := fun h => hk ⟨t1, t2, t3, h⟩
                    clear hk
                    go_wp2
                    go_roundw
                    case rel => exact ⟨i + 1, by omega, by go_num, HF3.out, HA3.out, by rw [HN2.out]; exact HG3.out⟩
                    case measure => simp [intOf]; omega
                  · clear hk
                    go_wp2
                    go_roundw
                    case rel => exact ⟨i + 1, by omega, by go_num, HF3.out, HA3.out, by rw [HN2.out]; exact HG3.out⟩
                    case measure => simp [intOf]; omega
              · have t1' : (e.k == 1) = false := by simpa using t1
                clear hk
                go_wp2
                go_roundw
                case rel => exact ⟨i + 1, by omega, by go_num, HF3.out, HA3.out, by rw [HN2.out]; exact HG3.out⟩
                case measure => simp [intOf]; omega
    · have HS : Hid (i = S) := by show i = S; omega
      go_wp2
      go_ret
      exact ⟨_, rfl, by rw [HRF.out, ← HS.out]; exact HG.out, HF.out⟩

end Go.Proofs.Ytkelpcjiediamaa
