/-
  What Opened tells of the document's log in memory.
-/
import Derived.Test.YtkelpcjiediamaaRefFetch
namespace Go.Proofs.Ytkelpcjiediamaa
open Go.RowKit Go.Maps

theorem info3 : (Try.prog.info? 3).map (fun i => (i.zero, i.size, i.bytes)) = some (some (.int .i64 0), 1, 8) := by kernel_rfl

def sliceLen : Value → Nat
  | .slice _ n _ => n
  | _ => 0

def intCells (l : List Int) : List Value := l.map (Value.int .i64)

theorem intRow_form {w : World} {B : Nat} {v : Value} {l : List Int} (h : w.ownsRow B 3 1 v l.length (intCells l)) :
    (v = .slice none 0 0 ∧ l = []) ∨ ∃ g cap, v = .slice (some ⟨g, 0, none⟩) l.length cap ∧ l.length ≤ cap ∧ cap ≤ maxLen ∧ B ≤ g ∧ g < w.heap.size := by
  rcases h.2 with ⟨hv, h0⟩ | ⟨g, cap, cur, hv, hb, hg, h1, h2, _⟩
  · exact .inl ⟨hv, List.eq_nil_of_length_eq_zero h0⟩
  · exact .inr ⟨g, cap, hv, h1, h2, hb, lt_of_block hg⟩

theorem intRow_cell {w : World} {B g n cap : Nat} {l : List Int} (h : w.ownsRow B 3 1 (.slice (some ⟨g, 0, none⟩) n cap) l.length (intCells l)) {k : Nat} {x : Int} (hk : l[k]? = some x) : w.cell? ⟨g, k, none⟩ = some (.int .i64 x) := by
  have := h.cells (g := g) rfl k (.int .i64 x) (by simp [intCells, hk])
  rw [Addr.add_lit] at this
  simpa using this

theorem intRow_len {w : World} {B : Nat} {v : Value} {l : List Int} (h : w.ownsRow B 3 1 v l.length (intCells l)) : ∃ a cap, v = .slice a l.length cap ∧ l.length ≤ maxLen := by
  rcases intRow_form h with ⟨rfl, rfl⟩ | ⟨g, cap, rfl, h1, h2, _⟩
  · exact ⟨none, 0, rfl, Nat.zero_le _⟩
  · exact ⟨_, _, rfl, Nat.le_trans h1 h2⟩

/-- S lists, by rising numbers, the producers whose transactions are open. -/
structure Opens (L : List Ent) (S : List Int) : Prop where
  rising : S.Pairwise (· < ·)
  mem : ∀ x, x ∈ S ↔ ∃ e ∈ L, e.p = x ∧ rOpen L e.p e.t = true

def Cand (L : List Ent) (T : List Int) (e : Ent) : Prop := rOpen L e.p e.t = true ∧ ∀ y ∈ T, y < e.p

/-- What the search has found among the first j steps. -/
def Found (L : List Ent) (T : List Int) (j : Nat) (fd : Bool) (b : Int) : Prop :=
  (fd = false ∧ ∀ e ∈ L.take j, ¬ Cand L T e) ∨ (fd = true ∧ (∃ e ∈ L.take j, Cand L T e ∧ e.p = b) ∧ ∀ e ∈ L.take j, Cand L T e → b ≤ e.p)

theorem mem_take_succ {L : List Ent} {j : Nat} {e x : Ent} (hx : L[j]? = some x) : e ∈ L.take (j + 1) ↔ e ∈ L.take j ∨ e = x := by
  rw [List.take_add_one, hx]; simp

theorem Found.skip {L : List Ent} {T : List Int} {j : Nat} {fd : Bool} {b : Int} {x : Ent} (h : Found L T j fd b) (hx : L[j]? = some x) (hc : ¬ Cand L T x ∨ (fd = true ∧ b ≤ x.p)) : Found L T (j + 1) fd b := by
  rcases h with ⟨h1, h2⟩ | ⟨h1, ⟨e0, h2, h3⟩, h4⟩
  · refine .inl ⟨h1, fun e he => ?_⟩
    rcases (mem_take_succ hx).1 he with he | rfl
    · exact h2 e he
    · rcases hc with hc | hc
      · exact hc
      · rw [h1] at hc; cases hc.1
  · refine .inr ⟨h1, ⟨e0, (mem_take_succ hx).2 (.inl h2), h3⟩, fun e he hce => ?_⟩
    rcases (mem_take_succ hx).1 he with he | rfl
    · exact h4 e he hce
    · rcases hc with hc | hc
      · exact absurd hce hc
      · exact hc.2

theorem Found.hit {L : List Ent} {T : List Int} {j : Nat} {fd : Bool} {b : Int} {x : Ent} (h : Found L T j fd b) (hx : L[j]? = some x) (hc : Cand L T x) (hb : fd = false ∨ x.p < b) : Found L T (j + 1) true x.p := by
  refine .inr ⟨rfl, ⟨x, (mem_take_succ hx).2 (.inr rfl), hc, rfl⟩, fun e he hce => ?_⟩
  rcases (mem_take_succ hx).1 he with he | rfl
  · rcases h with ⟨h1, h2⟩ | ⟨h1, _, h4⟩
    · exact absurd hce (h2 e he)
    · rcases hb with hb | hb
      · rw [h1] at hb; cases hb
      · have := h4 e he hce; omega
  · omega

theorem lt_take {S : List Int} (h : S.Pairwise (· < ·)) {n : Nat} {x y : Int} (hx : S[n]? = some x) (hy : y ∈ S.take n) : y < x := by
  obtain ⟨i, hi, rfl⟩ := List.getElem_of_mem hy
  have hn := (List.getElem?_eq_some_iff.1 hx)
  simp only [List.length_take] at hi
  rw [List.getElem_take]
  obtain ⟨hn1, rfl⟩ := hn
  exact List.pairwise_iff_getElem.1 h i n (by omega) hn1 (by omega)

/-- Nothing is found: all are told. -/
theorem Found.none {L : List Ent} {S : List Int} (hS : Opens L S) {n : Nat} {b : Int} (h : Found L (S.take n) L.length false b) : S.take n = S := by
  rcases h with ⟨_, h2⟩ | ⟨h1, _⟩
  · apply List.take_of_length_le
    apply Nat.le_of_not_lt
    intro hn
    have hx := List.getElem?_eq_getElem hn
    obtain ⟨e, he, hp, ho⟩ := (hS.mem S[n]).1 (List.mem_of_getElem? hx)
    refine h2 e (by rw [List.take_of_length_le (Nat.le_refl _)]; exact he) ⟨ho, fun y hy => ?_⟩
    rw [hp]
    exact lt_take hS.rising hx hy
  · cases h1

/-- What is found is the next one. -/
theorem Found.next {L : List Ent} {S : List Int} (hS : Opens L S) {n : Nat} {b : Int} (h : Found L (S.take n) L.length true b) : S[n]? = some b := by
  rcases h with ⟨h1, _⟩ | ⟨_, ⟨e, h2, h3, h4⟩, h5⟩
  · cases h1
  · rw [List.take_of_length_le (Nat.le_refl _)] at h2
    have hb : b ∈ S := (hS.mem b).2 ⟨e, h2, h4, h3.1⟩
    obtain ⟨i, hi, hib⟩ := List.getElem_of_mem hb
    have hin : ¬ i < n := fun hlt => by
      have := h3.2 b (by rw [← hib]; exact List.mem_take_iff_getElem.2 ⟨i, by omega, rfl⟩)
      omega
    have hn : n < S.length := by omega
    have hx := List.getElem?_eq_getElem hn
    obtain ⟨e2, he2, hp2, ho2⟩ := (hS.mem S[n]).1 (List.mem_of_getElem? hx)
    have hle := h5 e2 (by rw [List.take_of_length_le (Nat.le_refl _)]; exact he2) ⟨ho2, fun y hy => by rw [hp2]; exact lt_take hS.rising hx hy⟩
    rw [hp2] at hle
    have hge : S[n] ≤ b := by
      rw [← hib]
      by_cases e : n = i
      · subst e; omega
      · have := List.pairwise_iff_getElem.1 hS.rising n i hn hi (by omega); omega
    rw [hx]
    have : S[n] = b := by omega
    rw [this]

theorem take_last {S : List Int} (h : S.Pairwise (· < ·)) {n : Nat} {y p : Int} (hy : S[n]? = some y) : (∀ z ∈ S.take (n + 1), z < p) ↔ y < p := by
  constructor
  · intro hz
    exact hz y (by rw [List.take_add_one, hy]; simp)
  · intro hp z hz
    rw [List.take_add_one, hy] at hz
    simp only [Option.toList_some, List.mem_append, List.mem_singleton] at hz
    rcases hz with hz | rfl
    · have := lt_take h hy hz; omega
    · exact hp

set_option maxRecDepth 100000 in
set_option maxHeartbeats 1600000 in
theorem rOpened_any {w : World} {B yb : Nat} {u : Value} {L : List Ent} {S : List Int} (h : RefAt w B yb u L) (hS : Opens L S) (hb : (S.length + 1) * 8 ≤ 140737488355328) :
    Calls Try.prog 25 #[.pointer (some ⟨yb, 0, none⟩)] w fun e w' => ∃ v', e = .returned v' ∧ w'.ownsRow w.heap.size 3 1 v' S.length (intCells S) ∧ Fr (fun _ => False) w w' := by
  obtain ⟨i0, hi0, hz0, hz1, hz2⟩ := info_parts info3
  have H : Hid (RefAt w B yb u L) := h
  have HS : Hid (Opens L S) := hS
  have HB : Hid ((S.length + 1) * 8 ≤ 140737488355328) := hb
  obtain ⟨ua, ucap, rfl, hul⟩ := rowE_len h.row
  unfold maxLen at hul
  have hlt := h.lt
  clear h hS hb
  go_enter Try.func25, Try.ntmps25
  go_wp2_with fail
  go_loopw [3] (fun o w' => ∃ n : Nat, n ≤ S.length ∧ w'.ownsRow w.heap.size 3 1 o (S.take n).length (intCells (S.take n)) ∧ Fr (fun _ => False) w w') (fun o _ => S.length - sliceLen o)
  case atStart => exact ⟨0, Nat.zero_le _, World.ownsRow_nil _ _ _ _, Fr.refl _ _⟩
  case round =>
    rename World => wo
    obtain ⟨n, hn, hown, hfr0⟩ := hrel
    have hnl : (S.take n).length = n := by simp; omega
    have HF0 : Hid (Fr (fun _ => False) w wo) := hfr0
    obtain ⟨oa, ocap, rfl, _⟩ := intRow_len hown
    have HO : Hid (wo.ownsRow w.heap.size 3 1 (.slice oa n ocap) n (intCells (S.take n))) := by rw [hnl] at hown; exact hown
    have HOG : Hid (∀ (k : Nat) x, (S.take n)[k]? = some x → ∃ og, oa = some ⟨og, 0, none⟩ ∧ og < wo.heap.size ∧ wo.cell? ⟨og, k, none⟩ = some (.int .i64 x) ∧ n ≤ ocap) := fun k x hx => by
      rcases intRow_form hown with ⟨_, h0⟩ | ⟨g, cap, e1, hlc, _, hBg, hg⟩
      · rw [h0] at hx; simp at hx
      · simp only [Value.slice.injEq] at e1
        obtain ⟨rfl, _, rfl⟩ := e1
        exact ⟨g, rfl, hg, intRow_cell hown hx, by rw [hnl] at hlc; exact hlc⟩
    have hsz0 := hfr0.size
    have hSb : S.length < 2 ^ 63 - 1 := by have := HB.out; omega
    clear hown hfr0
    rw [hnl]
    clear hnl
    go_wp2_with fail
    go_loopw [4, 5, 6] (fun fv bv iv w' => ∃ (j : Nat) (fd : Bool) (b : Int), j ≤ L.length ∧ iv = .int .i64 j ∧ fv = .bool fd ∧ bv = .int .i64 b ∧ Found L (S.take n) j fd b ∧ Fr (fun _ => False) wo w') (fun _ _ iv _ => L.length - (intOf iv).toNat)
    case atStart => exact ⟨0, false, 0, Nat.zero_le _, rfl, rfl, rfl, .inl ⟨rfl, fun e he => by simp at he⟩, Fr.refl _ _⟩
    case round =>
      obtain ⟨j, fd, b, hj, rfl, rfl, rfl, hfd, hfr⟩ := hrel
      have HF : Hid (Fr (fun _ => False) wo wr) := hfr
      have HD : Hid (Found L (S.take n) j fd b) := hfd
      have HR : Hid (RefAt wr B yb (.slice ua L.length ucap) L) := (HF0.out.trans hfr (fun _ h => h.elim)).refAt H.out id (fun _ _ => id)
      have k0 : wr.cell? ⟨yb, 0, none⟩ = some (.slice ua L.length ucap) := by rw [cell_of_cells HR.out.blk]; rfl
      have hsz := hfr.size
      clear hfr hfd
      by_cases hlt2 : j < L.length
      · obtain ⟨e, he⟩ : ∃ e, L[j]? = some e := ⟨_, List.getElem?_eq_getElem hlt2⟩
        rcases rowE_form HR.out.row with ⟨_, h0⟩ | ⟨g, cap, e1, hlc, hcm, hBg, hg⟩
        · rw [h0] at hlt2; simp at hlt2
        · simp only [Value.slice.injEq] at e1
          obtain ⟨rfl, _, rfl⟩ := e1
          obtain ⟨r0, r1, r2, r3⟩ := rowE_cells HR.out.row he
          have HE : Hid (L[j]? = some e) := he
          clear he hcm
          cases n with
          | zero =>
            cases ho : rOpen L e.p e.t
            · have HX : Hid (Found L (S.take 0) (j + 1) fd b) := HD.out.skip HE.out (.inl (fun h => by rw [h.1] at ho; cases ho))
              go_wp2_with (go_at_call 35; refine (rOpen_any (by exact (nofr _).refAt HR.out id (fun _ _ => id)) _ _).mono ?_; rintro x w1 ⟨rfl, hf1⟩; rw [ho]; have y1 : w1.cell? ⟨wr.heap.size, 1, none⟩ = some (.int .i64 e.p) := Fr.box hf1 id 1;  have HF1 : Hid (Fr (fun _ => False) wo w1) := (HF.out.alloc _).trans hf1 (fun _ h => h.elim); clear hf1)
              go_quiet (fail)
              go_wp2
              go_roundw
              case rel => exact ⟨j + 1, fd, b, by omega, by go_num, rfl, rfl, HX.out, HF1.out.drewN nq⟩
              case measure => simp [intOf]; omega
            · have hc : Cand L (S.take 0) e := ⟨ho, fun y hy => by simp at hy⟩
              cases fd
              · have HX : Hid (Found L (S.take 0) (j + 1) true e.p) := HD.out.hit HE.out hc (.inl rfl)
                clear hc
                go_wp2_with (go_at_call 35; refine (rOpen_any (by exact (nofr _).refAt HR.out id (fun _ _ => id)) _ _).mono ?_; rintro x w1 ⟨rfl, hf1⟩; rw [ho]; have y1 : w1.cell? ⟨wr.heap.size, 1, none⟩ = some (.int .i64 e.p) := Fr.box hf1 id 1;  have HF1 : Hid (Fr (fun _ => False) wo w1) := (HF.out.alloc _).trans hf1 (fun _ h => h.elim); clear hf1)
                go_quiet (fail)
                go_wp2
                go_roundw
                case rel => exact ⟨j + 1, true, e.p, by omega, by go_num, rfl, rfl, HX.out, HF1.out.drewN nq⟩
                case measure => simp [intOf]; omega
              · by_cases hbl : e.p < b
                · have HX : Hid (Found L (S.take 0) (j + 1) true e.p) := HD.out.hit HE.out hc (.inr hbl)
                  clear hc
                  go_wp2_with (go_at_call 35; refine (rOpen_any (by exact (nofr _).refAt HR.out id (fun _ _ => id)) _ _).mono ?_; rintro x w1 ⟨rfl, hf1⟩; rw [ho]; have y1 : w1.cell? ⟨wr.heap.size, 1, none⟩ = some (.int .i64 e.p) := Fr.box hf1 id 1;  have HF1 : Hid (Fr (fun _ => False) wo w1) := (HF.out.alloc _).trans hf1 (fun _ h => h.elim); clear hf1)
                  go_quiet (fail)
                  go_wp2
                  go_roundw
                  case rel => exact ⟨j + 1, true, e.p, by omega, by go_num, rfl, rfl, HX.out, HF1.out.drewN nq⟩
                  case measure => simp [intOf]; omega
                · have HX : Hid (Found L (S.take 0) (j + 1) true b) := HD.out.skip HE.out (.inr ⟨rfl, by omega⟩)
                  clear hc
                  go_wp2_with (go_at_call 35; refine (rOpen_any (by exact (nofr _).refAt HR.out id (fun _ _ => id)) _ _).mono ?_; rintro x w1 ⟨rfl, hf1⟩; rw [ho]; have y1 : w1.cell? ⟨wr.heap.size, 1, none⟩ = some (.int .i64 e.p) := Fr.box hf1 id 1;  have HF1 : Hid (Fr (fun _ => False) wo w1) := (HF.out.alloc _).trans hf1 (fun _ h => h.elim); clear hf1)
                  go_quiet (fail)
                  go_wp2
                  go_roundw
                  case rel => exact ⟨j + 1, true, b, by omega, by go_num, rfl, rfl, HX.out, HF1.out.drewN nq⟩
                  case measure => simp [intOf]; omega
          | succ n' =>
            obtain ⟨y, hy⟩ : ∃ y, S[n']? = some y := ⟨_, List.getElem?_eq_getElem (by omega)⟩
            obtain ⟨og, rfl, hog0, zc0, hoc⟩ := HOG.out n' y (by rw [List.getElem?_take_of_lt (by omega)]; exact hy)
            have zc : wr.cell? ⟨og, n', none⟩ = some (.int .i64 y) := (HF.out.cell (p := ⟨og, n', none⟩) hog0 id).trans zc0
            have hog : og < wr.heap.size := by omega
            have HTL : Hid ((∀ z ∈ S.take (n' + 1), z < e.p) ↔ y < e.p) := take_last HS.out.rising hy
            have hne : ((n' : Int) + 1 == 0) = false := by simp; omega
            have hn1 : ((n' : Int) + 1 - 1) = n' := by omega
            clear hy zc0
            cases ho : rOpen L e.p e.t
            · have HX : Hid (Found L (S.take (n' + 1)) (j + 1) fd b) := HD.out.skip HE.out (.inl (fun h => by rw [h.1] at ho; cases ho))
              go_wp2_with (go_at_call 35; refine (rOpen_any (by exact (nofr _).refAt HR.out id (fun _ _ => id)) _ _).mono ?_; rintro x w1 ⟨rfl, hf1⟩; rw [ho]; have y1 : w1.cell? ⟨wr.heap.size, 1, none⟩ = some (.int .i64 e.p) := Fr.box hf1 id 1; have z1 : w1.cell? ⟨og, n', none⟩ = some (.int .i64 y) := (hf1.cell (p := ⟨og, n', none⟩) (by show og < _; simp; omega) id).trans ((World.cell?_alloc_past _ _ _ hog).trans zc); have HF1 : Hid (Fr (fun _ => False) wo w1) := (HF.out.alloc _).trans hf1 (fun _ h => h.elim); clear hf1)
              go_quiet (fail)
              go_wp2
              go_roundw
              case rel => exact ⟨j + 1, fd, b, by omega, by go_num, rfl, rfl, HX.out, HF1.out.drewN nq⟩
              case measure => simp [intOf]; omega
            · by_cases hyp : y < e.p
              · have hc : Cand L (S.take (n' + 1)) e := ⟨ho, HTL.out.2 hyp⟩
                cases fd
                · have HX : Hid (Found L (S.take (n' + 1)) (j + 1) true e.p) := HD.out.hit HE.out hc (.inl rfl)
                  clear hc
                  go_wp2_with (go_at_call 35; refine (rOpen_any (by exact (nofr _).refAt HR.out id (fun _ _ => id)) _ _).mono ?_; rintro x w1 ⟨rfl, hf1⟩; rw [ho]; have y1 : w1.cell? ⟨wr.heap.size, 1, none⟩ = some (.int .i64 e.p) := Fr.box hf1 id 1; have z1 : w1.cell? ⟨og, n', none⟩ = some (.int .i64 y) := (hf1.cell (p := ⟨og, n', none⟩) (by show og < _; simp; omega) id).trans ((World.cell?_alloc_past _ _ _ hog).trans zc); have HF1 : Hid (Fr (fun _ => False) wo w1) := (HF.out.alloc _).trans hf1 (fun _ h => h.elim); clear hf1)
                  go_quiet (fail)
                  go_wp2
                  go_roundw
                  case rel => exact ⟨j + 1, true, e.p, by omega, by go_num, rfl, rfl, HX.out, HF1.out.drewN nq⟩
                  case measure => simp [intOf]; omega
                · by_cases hbl : e.p < b
                  · have HX : Hid (Found L (S.take (n' + 1)) (j + 1) true e.p) := HD.out.hit HE.out hc (.inr hbl)
                    clear hc
                    go_wp2_with (go_at_call 35; refine (rOpen_any (by exact (nofr _).refAt HR.out id (fun _ _ => id)) _ _).mono ?_; rintro x w1 ⟨rfl, hf1⟩; rw [ho]; have y1 : w1.cell? ⟨wr.heap.size, 1, none⟩ = some (.int .i64 e.p) := Fr.box hf1 id 1; have z1 : w1.cell? ⟨og, n', none⟩ = some (.int .i64 y) := (hf1.cell (p := ⟨og, n', none⟩) (by show og < _; simp; omega) id).trans ((World.cell?_alloc_past _ _ _ hog).trans zc); have HF1 : Hid (Fr (fun _ => False) wo w1) := (HF.out.alloc _).trans hf1 (fun _ h => h.elim); clear hf1)
                    go_quiet (fail)
                    go_wp2
                    go_roundw
                    case rel => exact ⟨j + 1, true, e.p, by omega, by go_num, rfl, rfl, HX.out, HF1.out.drewN nq⟩
                    case measure => simp [intOf]; omega
                  · have HX : Hid (Found L (S.take (n' + 1)) (j + 1) true b) := HD.out.skip HE.out (.inr ⟨rfl, by omega⟩)
                    clear hc
                    go_wp2_with (go_at_call 35; refine (rOpen_any (by exact (nofr _).refAt HR.out id (fun _ _ => id)) _ _).mono ?_; rintro x w1 ⟨rfl, hf1⟩; rw [ho]; have y1 : w1.cell? ⟨wr.heap.size, 1, none⟩ = some (.int .i64 e.p) := Fr.box hf1 id 1; have z1 : w1.cell? ⟨og, n', none⟩ = some (.int .i64 y) := (hf1.cell (p := ⟨og, n', none⟩) (by show og < _; simp; omega) id).trans ((World.cell?_alloc_past _ _ _ hog).trans zc); have HF1 : Hid (Fr (fun _ => False) wo w1) := (HF.out.alloc _).trans hf1 (fun _ h => h.elim); clear hf1)
                    go_quiet (fail)
                    go_wp2
                    go_roundw
                    case rel => exact ⟨j + 1, true, b, by omega, by go_num, rfl, rfl, HX.out, HF1.out.drewN nq⟩
                    case measure => simp [intOf]; omega
              · have HX : Hid (Found L (S.take (n' + 1)) (j + 1) fd b) := HD.out.skip HE.out (.inl (fun h => hyp (HTL.out.1 h.2)))
                go_wp2_with (go_at_call 35; refine (rOpen_any (by exact (nofr _).refAt HR.out id (fun _ _ => id)) _ _).mono ?_; rintro x w1 ⟨rfl, hf1⟩; rw [ho]; have y1 : w1.cell? ⟨wr.heap.size, 1, none⟩ = some (.int .i64 e.p) := Fr.box hf1 id 1; have z1 : w1.cell? ⟨og, n', none⟩ = some (.int .i64 y) := (hf1.cell (p := ⟨og, n', none⟩) (by show og < _; simp; omega) id).trans ((World.cell?_alloc_past _ _ _ hog).trans zc); have HF1 : Hid (Fr (fun _ => False) wo w1) := (HF.out.alloc _).trans hf1 (fun _ h => h.elim); clear hf1)
                go_quiet (fail)
                go_wp2
                go_roundw
                case rel => exact ⟨j + 1, fd, b, by omega, by go_num, rfl, rfl, HX.out, HF1.out.drewN nq⟩
                case measure => simp [intOf]; omega
      · have hjl : j = L.length := by omega
        subst hjl
        have HO2 : Hid (wr.ownsRow w.heap.size 3 1 (.slice oa n ocap) n (intCells (S.take n))) := HF.out.ownsRow HO.out (fun _ _ => id)
        have HFW : Hid (Fr (fun _ => False) w wr) := HF0.out.trans HF.out (fun _ h => h.elim)
        cases fd
        · have HT : Hid (S.take n = S) := HD.out.none HS.out
          have HL : Hid (n = S.length) := by have := congrArg List.length HT.out; simp at this; show n = S.length; omega
          go_wp2
          go_ret
          exact ⟨_, rfl, by have := HO2.out; rw [HT.out, HL.out] at this; rw [HL.out]; exact this, HFW.out⟩
        · have HT : Hid (S[n]? = some b) := HD.out.next HS.out
          have hnS : n < S.length := (List.getElem?_eq_some_iff.1 HT.out).1
          have HTK : Hid (S.take (n + 1) = S.take n ++ [b]) := by show S.take (n + 1) = _; rw [List.take_add_one, HT.out]; rfl
          have hwz := HFW.out.size
          go_wp2_with (at_builtin; refine wpList_append_lies _ rfl _ _ 59 rfl w.heap.size 3 i0 _ 1 8 Try.underlying59 hi0 hz0 hz1 hz2 rfl (by decide) _ n (intCells (S.take n)) rfl (by exact HO2.out.alloc _) ⟨wr.heap.size, 0, none⟩ 1 1 [.int .i64 b] rfl rfl (World.news_of_block (cs := #[.int .i64 b]) (t := 3) (fr := (0, 0)) (heap_alloc_new _ _)) (by simp [Value.oneCell']) (by decide) (by have := HB.out; simp only [maxLen]; omega) (by have := HB.out; omega) (by simp; omega) (wr.heap.size + 1) (by simp) ?_; intro gg gcap w3 hown3 hgrow3 hat3 hlt3)
          go_roundw
          case rel =>
            have hfr3 : Fr (fun x => Value.ownBlock (.slice oa n ocap) = some x) wr w3 := ((Fr.refl _ _).alloc _).grown hgrow3 (fun x ex => .inl ex)
            refine ⟨n + 1, by omega, ?_, HFW.out.trans hfr3 (fun x hx => .inr (HO2.out.lt x hx).1)⟩
            rw [HTK.out]
            simpa [intCells, Nat.min_eq_left hn] using hown3
          case measure => simp [sliceLen]; omega

end Go.Proofs.Ytkelpcjiediamaa
