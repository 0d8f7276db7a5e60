/-
  What Open, Append and Close do to the document's log in memory.
-/
import Derived.Test.YtkelpcjiediamaaRef
namespace Go.Proofs.Ytkelpcjiediamaa
open Go.RowKit Go.Maps

theorem info84 : (Try.prog.info? 84).map (fun i => (i.zero, i.size, i.bytes)) = some (some (.agg #[.int .i64 0, .int .i64 0, .int .i64 0, .string ⟨#[]⟩]), 4, 40) := by kernel_rfl

/-- What a call on the document's log leaves. -/
structure RLeft (w w' : World) (B yb : Nat) (u u' : Value) (L' : List Ent) : Prop where
  ref : RefAt w' B yb u' L'
  fr : Fr (fun k => k = yb ∨ u.ownBlock = some k) w w'
  lies : ∀ k, u'.ownBlock = some k → u.ownBlock = some k ∨ w.heap.size ≤ k

theorem RefAt.putDone {w W w1 : World} {B yb : Nat} {u u' : Value} {L : List Ent} {x : Ent} (h : RefAt w B yb u L) (hW : Fr (fun _ => False) w W) (hg : W.grownBy w1 u.ownBlock)
    (hown : w1.ownsRow B 84 4 u' (L.length + 1) (entCells L ++ x.cs)) (hat : ∀ k, u'.ownBlock = some k → u.ownBlock = some k ∨ w.heap.size ≤ k) :
    RLeft w (w1.setCell ⟨yb, 0, none⟩ u') B yb u u' (L ++ [x]) := by
  have f1 : Fr (fun k => u.ownBlock = some k) w w1 := (hW.mono (fun _ h => h.elim)).grown hg (fun k e => .inl e)
  have f2 : Fr (fun k => k = yb ∨ u.ownBlock = some k) w (w1.setCell ⟨yb, 0, none⟩ u') := (f1.mono (fun k h => .inl (.inr h))).setCell (.inl (.inl rfl)) _
  have b1 : w1.heap[yb]? = some (.cells #[u] 29 (0, 0)) := (f1.block yb h.lt h.ne_row).trans h.blk
  refine ⟨⟨?_, ?_, h.hy⟩, f2, hat⟩
  · rw [setCell_cells b1]; rfl
  · have hr : Fr (fun k => k = yb) w1 (w1.setCell ⟨yb, 0, none⟩ u') := (Fr.refl (fun k => k = yb) w1).setCell (p := ⟨yb, 0, none⟩) (.inl rfl) _
    have := hr.ownsRow hown (fun k hk e => by
      subst e
      rcases hat _ hk with h1 | h1
      · exact h.ne_row h1
      · have := h.lt; omega)
    simpa [entCells_snoc] using this

theorem RLeft.after {w w1 w' : World} {B yb : Nat} {u u' : Value} {L' : List Ent} (l : RLeft w1 w' B yb u u' L') (f : Fr (fun _ => False) w w1) : RLeft w w' B yb u u' L' :=
  ⟨l.ref, (f.mono (fun _ h => h.elim)).trans l.fr (fun _ h => .inl h), fun k hk => by
    rcases l.lies k hk with h1 | h1
    · exact .inl h1
    · exact .inr (Nat.le_trans f.size h1)⟩

theorem lies_of {u : Value} {w : World} {gg n cap d : Nat} (hat : u.ownBlock = some gg ∨ gg = w.heap.size + d) : ∀ k, Value.ownBlock (.slice (some ⟨gg, 0, none⟩) n cap) = some k → u.ownBlock = some k ∨ w.heap.size ≤ k := by
  intro k hk
  simp only [Value.ownBlock, Option.some.injEq] at hk
  subst hk
  rcases hat with h1 | h1
  · exact .inl h1
  · exact .inr (by omega)

theorem Fr.box {S : Nat → Prop} {w w1 : World} {cs : Array Value} {ty : TypeId} (f : Fr S (w.alloc (.cells cs ty)) w1) (hS : ¬ S w.heap.size) (j : Nat) : w1.cell? ⟨w.heap.size, j, none⟩ = cs[j]? := by
  rw [f.cell (p := ⟨w.heap.size, j, none⟩) (by simp) hS]
  simp

def rBlocks (L : List Ent) (p t : Int) (e : Ent) : Bool := decide (e.p = p) && decide (e.k = 0) && (rOpen L p e.t || decide (t ≤ e.t))
def rCan (L : List Ent) (p t : Int) : Bool := !(L.any (rBlocks L p t))
def rOpened (L : List Ent) (p t : Int) : List Ent := if rCan L p t then L ++ [⟨0, p, t, ⟨#[]⟩⟩] else L

theorem rCan_no {L : List Ent} {p t : Int} {k : Nat} {e : Ent} (he : L[k]? = some e) (hb : rBlocks L p t e = true) : rCan L p t = false := by
  simp only [rCan, Bool.not_eq_false', List.any_eq_true]
  exact ⟨e, List.mem_of_getElem? he, hb⟩

theorem rCan_yes {L : List Ent} {p t : Int} (ha : ∀ (j : Nat) x, L[j]? = some x → rBlocks L p t x = false) : rCan L p t = true := by
  simp only [rCan, Bool.not_eq_true', List.any_eq_false]
  intro x hx
  obtain ⟨j, hj, rfl⟩ := List.getElem_of_mem hx
  rw [ha j _ (List.getElem?_eq_getElem hj)]
  simp

set_option maxRecDepth 100000 in
set_option maxHeartbeats 800000 in
theorem rOpen_step {w : World} {B yb : Nat} {u : Value} {L : List Ent} (h : RefAt w B yb u L) (p t : Int) (hb : (L.length + 1) * 40 ≤ 140737488355328) :
    Calls Try.prog 17 #[.pointer (some ⟨yb, 0, none⟩), .int .i64 p, .int .i64 t] w fun e w' => e = .returned (.bool (rCan L p t)) ∧ ∃ u', RLeft w w' B yb u u' (rOpened L p t) := by
  obtain ⟨i0, hi0, hz0, hz1, hz2⟩ := info_parts info84
  have H : Hid (RefAt w B yb u L) := h
  have HB : Hid ((L.length + 1) * 40 ≤ 140737488355328) := hb
  obtain ⟨ua, ucap, rfl, hul⟩ := rowE_len h.row
  unfold maxLen at hul
  have hlt := h.lt
  clear h hb
  go_enter Try.func17, Try.ntmps17
  go_wp2_with fail
  go_loopw [7] (fun i w' => ∃ k : Nat, k ≤ L.length ∧ i = .int .i64 k ∧ Fr (fun _ => False) w w' ∧ ∀ (j : Nat) x, j < k → L[j]? = some x → rBlocks L p t x = false) (fun i _ => L.length - (intOf i).toNat)
  case atStart => exact ⟨0, Nat.zero_le _, rfl, Fr.refl _ _, fun j x hj => by omega⟩
  case round =>
    obtain ⟨k, hk, rfl, hfr, hall⟩ := hrel
    have HF : Hid (Fr (fun _ => False) w wr) := hfr
    have HR : Hid (RefAt wr B yb (.slice ua L.length ucap) L) := hfr.refAt H.out id (fun _ _ => id)
    have HA : Hid (∀ (j : Nat) x, j < k → L[j]? = some x → rBlocks L p t x = false) := hall
    have k0 : wr.cell? ⟨yb, 0, none⟩ = some (.slice ua L.length ucap) := by rw [cell_of_cells HR.out.blk]; rfl
    have f0 : wr.frozen? ⟨yb, 0, none⟩ = false := frozen_of_cells HR.out.blk 0
    have hsz := hfr.size
    clear hfr hall
    by_cases hlt2 : k < L.length
    · obtain ⟨e, he⟩ : ∃ e, L[k]? = some e := ⟨_, List.getElem?_eq_getElem hlt2⟩
      rcases rowE_form HR.out.row with ⟨_, h0⟩ | ⟨g, cap, e1, hlc, hcm, hBg, hg⟩
      · rw [h0] at hlt2; simp at hlt2
      · simp only [Value.slice.injEq] at e1
        obtain ⟨rfl, _, rfl⟩ := e1
        obtain ⟨r0, r1, r2, r3⟩ := rowE_cells HR.out.row he
        have HE : Hid (L[k]? = some e) := he
        have step : rBlocks L p t e = false → Hid (∀ (j : Nat) x, j < k + 1 → L[j]? = some x → rBlocks L p t x = false) := fun hne j x hj hx => by
          by_cases ej : j = k
          · subst ej
            have := HE.out.symm.trans hx
            cases this
            exact hne
          · exact HA.out j x (by omega) hx
        clear he hcm
        by_cases hp : e.p = p
        · have hp' : (e.p == p) = true := by simpa using hp
          by_cases h0 : e.k = 0
          · have h0' : (e.k == 0) = true := by simpa using h0
            cases ho : rOpen L p e.t
            · by_cases hte : t ≤ e.t
              · have HC : Hid (rCan L p t = false) := rCan_no HE.out (by simp [rBlocks, hp, h0, hte])
                have HO : Hid (rOpened L p t = L) := by show rOpened L p t = L; simp [rOpened, HC.out]
                clear step hp h0
                go_wp2_with (go_at_call 35; refine (rOpen_any (by exact (nofr _).refAt HR.out id (fun _ _ => id)) _ _).mono ?_; rintro x w1 ⟨rfl, hf1⟩; rw [ho]; have y2 : w1.cell? ⟨wr.heap.size, 2, none⟩ = some (.int .i64 e.t) := Fr.box hf1 id 2; have HF1 : Hid (Fr (fun _ => False) w w1) := (HF.out.alloc _).trans hf1 (fun _ h => h.elim); clear hf1)
                go_ret
                exact ⟨by rw [HC.out] <;> rfl, _, by rw [HO.out]; exact ⟨HF1.out.refAt H.out id (fun _ _ => id), HF1.out.mono (fun _ h => h.elim), fun _ hk => .inl hk⟩⟩
              · have HS := step (by simp [rBlocks, ho, hte])
                clear step hp h0
                go_wp2_with (go_at_call 35; refine (rOpen_any (by exact (nofr _).refAt HR.out id (fun _ _ => id)) _ _).mono ?_; rintro x w1 ⟨rfl, hf1⟩; rw [ho]; have y2 : w1.cell? ⟨wr.heap.size, 2, none⟩ = some (.int .i64 e.t) := Fr.box hf1 id 2; have HF1 : Hid (Fr (fun _ => False) w w1) := (HF.out.alloc _).trans hf1 (fun _ h => h.elim); clear hf1)
                go_roundw
                case rel => exact ⟨k + 1, by omega, by go_num, HF1.out, HS.out⟩
                case measure => simp [intOf]; omega
            · have HC : Hid (rCan L p t = false) := rCan_no HE.out (by simp [rBlocks, hp, h0, ho])
              have HO : Hid (rOpened L p t = L) := by show rOpened L p t = L; simp [rOpened, HC.out]
              clear step hp h0
              go_wp2_with (go_at_call 35; refine (rOpen_any (by exact (nofr _).refAt HR.out id (fun _ _ => id)) _ _).mono ?_; rintro x w1 ⟨rfl, hf1⟩; rw [ho]; have y2 : w1.cell? ⟨wr.heap.size, 2, none⟩ = some (.int .i64 e.t) := Fr.box hf1 id 2; have HF1 : Hid (Fr (fun _ => False) w w1) := (HF.out.alloc _).trans hf1 (fun _ h => h.elim); clear hf1)
              go_ret
              exact ⟨by rw [HC.out] <;> rfl, _, by rw [HO.out]; exact ⟨HF1.out.refAt H.out id (fun _ _ => id), HF1.out.mono (fun _ h => h.elim), fun _ hk => .inl hk⟩⟩
          · have h0' : (e.k == 0) = false := by simpa using h0
            have HS := step (by simp [rBlocks, h0])
            clear step hp
            go_wp2
            go_roundw
            case rel => exact ⟨k + 1, by omega, by go_num, HF.out.alloc _, HS.out⟩
            case measure => simp [intOf]; omega
        · have hp' : (e.p == p) = false := by simpa using hp
          have HS := step (by simp [rBlocks, hp])
          clear step
          go_wp2
          go_roundw
          case rel => exact ⟨k + 1, by omega, by go_num, HF.out.alloc _, HS.out⟩
          case measure => simp [intOf]; omega
    · have HC : Hid (rCan L p t = true) := rCan_yes (fun j x hx => HA.out j x (by have := (List.getElem?_eq_some_iff.1 hx).1; omega) hx)
      have HO : Hid (rOpened L p t = L ++ [⟨0, p, t, ⟨#[]⟩⟩]) := by show rOpened L p t = L ++ [⟨0, p, t, ⟨#[]⟩⟩]; simp [rOpened, HC.out]
      have hnl : Value.ownBlock (.slice ua L.length ucap) ≠ some yb := H.out.ne_row
      have hyr := HR.out.lt
      go_wp2_with (at_builtin; refine wpList_append_lies _ rfl _ _ 27 rfl B 84 i0 _ 4 40 Try.underlying27 hi0 hz0 hz1 hz2 rfl (by decide) _ L.length (entCells L) rfl (by exact HR.out.row.alloc _) ⟨wr.heap.size, 0, none⟩ 1 1 [.int .i64 0, .int .i64 p, .int .i64 t, .string ⟨#[]⟩] rfl rfl (World.news_of_block (cs := #[.int .i64 0, .int .i64 p, .int .i64 t, .string ⟨#[]⟩]) (t := 84) (fr := (0, 0)) (heap_alloc_new _ _)) (by simp [Value.oneCell']) (by decide) (by have := HB.out; simp only [maxLen]; omega) HB.out (by have := HR.out.hy; simp; omega) (wr.heap.size + 1) (by simp) ?_; intro gg gcap w3 hown3 hgrow3 hat3 hlt3; have q0 := hgrow3.cell_far ⟨yb, 0, none⟩ (by simp; omega) (Ne.symm hnl); have q1 := hgrow3.frozen_far ⟨yb, 0, none⟩ (by simp; omega) (Ne.symm hnl); rw [World.cell?_alloc_past _ _ _ hyr, k0] at q0; rw [frozen_alloc hyr, f0] at q1)
      go_ret
      have l3 := HR.out.putDone (x := ⟨0, p, t, ⟨#[]⟩⟩) (nofr _) hgrow3 hown3 (lies_of hat3)
      have l4 := l3.after HF.out
      rw [← HO.out] at l4
      exact ⟨by rw [HC.out] <;> rfl, _, l4⟩

def rCode (L : List Ent) (p t : Int) (x : ByteArray) : Int :=
  if rOpen L p t = false then 11 else if 8 < x.size then 4 else if 200 ≤ cnt L then 12 else 0
def rAppended (L : List Ent) (p t : Int) (x : ByteArray) : List Ent := if rCode L p t x = 0 then L ++ [⟨1, p, t, x⟩] else L
def rClosed (L : List Ent) (p t : Int) (c : Bool) : List Ent := if rOpen L p t then L ++ [⟨LogS.closeKind c, p, t, ⟨#[]⟩⟩] else L

theorem RLeft.same {w w1 : World} {B yb : Nat} {u : Value} {L : List Ent} (h : RefAt w B yb u L) (f : Fr (fun _ => False) w w1) : RLeft w w1 B yb u u L :=
  ⟨f.refAt h id (fun _ _ => id), f.mono (fun _ h => h.elim), fun _ hk => .inl hk⟩

set_option maxRecDepth 100000 in
set_option maxHeartbeats 800000 in
theorem rAppend_step {w : World} {B yb : Nat} {u : Value} {L : List Ent} (h : RefAt w B yb u L) (p t : Int) (x : ByteArray) (hx : x.size ≤ maxLen) (hb : (L.length + 1) * 40 ≤ 140737488355328) :
    Calls Try.prog 18 #[.pointer (some ⟨yb, 0, none⟩), .int .i64 p, .int .i64 t, .string x] w fun e w' => e = .returned (.int .i64 (rCode L p t x)) ∧ ∃ u', RLeft w w' B yb u u' (rAppended L p t x) := by
  obtain ⟨i0, hi0, hz0, hz1, hz2⟩ := info_parts info84
  unfold maxLen at hx
  have H : Hid (RefAt w B yb u L) := h
  have HB : Hid ((L.length + 1) * 40 ≤ 140737488355328) := hb
  clear h hb
  cases ho : rOpen L p t
  · have HC : Hid (rCode L p t x = 11) := by show rCode L p t x = 11; simp [rCode, ho]
    have HO : Hid (rAppended L p t x = L) := by show rAppended L p t x = L; simp [rAppended, HC.out]
    go_enter Try.func18, Try.ntmps18
    go_wp2_with (go_at_call 35; refine (rOpen_any H.out _ _).mono ?_; rintro e w1 ⟨rfl, hf1⟩; rw [ho]; have HF1 : Hid (Fr (fun _ => False) w w1) := hf1; clear hf1)
    go_ret
    have l4 := RLeft.same H.out HF1.out
    rw [← HO.out] at l4
    exact ⟨by rw [HC.out] <;> rfl, _, l4⟩
  · by_cases h8 : 8 < x.size
    · have HC : Hid (rCode L p t x = 4) := by show rCode L p t x = 4; simp [rCode, ho, h8]
      have HO : Hid (rAppended L p t x = L) := by show rAppended L p t x = L; simp [rAppended, HC.out]
      go_enter Try.func18, Try.ntmps18
      go_wp2_with (go_at_call 35; refine (rOpen_any H.out _ _).mono ?_; rintro e w1 ⟨rfl, hf1⟩; rw [ho]; have HF1 : Hid (Fr (fun _ => False) w w1) := hf1; clear hf1)
      go_ret
      have l4 := RLeft.same H.out HF1.out
      rw [← HO.out] at l4
      exact ⟨by rw [HC.out] <;> rfl, _, l4⟩
    · by_cases hd : 200 ≤ cnt L
      · have HC : Hid (rCode L p t x = 12) := by show rCode L p t x = 12; simp [rCode, ho, h8, hd]
        have HO : Hid (rAppended L p t x = L) := by show rAppended L p t x = L; simp [rAppended, HC.out]
        go_enter Try.func18, Try.ntmps18
        go_wp2_with (first
          | (go_at_call 35; refine (rOpen_any H.out _ _).mono ?_; rintro e w1 ⟨rfl, hf1⟩; rw [ho]; have HF1 : Hid (Fr (fun _ => False) w w1) := hf1; clear hf1)
          | (go_at_call 36; refine (rData_any (HF1.out.refAt H.out id (fun _ _ => id))).mono ?_; rintro e w2 ⟨rfl, rfl⟩))
        go_ret
        have l4 := RLeft.same H.out HF1.out
        rw [← HO.out] at l4
        exact ⟨by rw [HC.out] <;> rfl, _, l4⟩
      · have HC : Hid (rCode L p t x = 0) := by show rCode L p t x = 0; simp [rCode, ho, h8, hd]
        have HO : Hid (rAppended L p t x = L ++ [⟨1, p, t, x⟩]) := by show rAppended L p t x = L ++ [⟨1, p, t, x⟩]; simp [rAppended, HC.out]
        go_enter Try.func18, Try.ntmps18
        go_wp2_with (first
          | (go_at_call 35; refine (rOpen_any H.out _ _).mono ?_; rintro e w1 ⟨rfl, hf1⟩; rw [ho]; have HF1 : Hid (Fr (fun _ => False) w w1) := hf1; clear hf1)
          | (go_at_call 36; refine (rData_any (HF1.out.refAt H.out id (fun _ _ => id))).mono ?_; rintro e w2 ⟨rfl, rfl⟩; have HR : Hid (RefAt w1 B yb u L) := HF1.out.refAt H.out id (fun _ _ => id); have k0 : w1.cell? ⟨yb, 0, none⟩ = some u := (by rw [cell_of_cells HR.out.blk]; rfl); have f0 : w1.frozen? ⟨yb, 0, none⟩ = false := frozen_of_cells HR.out.blk 0; have hnl : u.ownBlock ≠ some yb := H.out.ne_row; have hyr := HR.out.lt)
          | (at_builtin; refine wpList_append_lies _ rfl _ _ 27 rfl B 84 i0 _ 4 40 Try.underlying27 hi0 hz0 hz1 hz2 rfl (by decide) _ L.length (entCells L) rfl (by exact HR.out.row.alloc _) ⟨w1.heap.size, 0, none⟩ 1 1 [.int .i64 1, .int .i64 p, .int .i64 t, .string x] rfl rfl (World.news_of_block (cs := #[.int .i64 1, .int .i64 p, .int .i64 t, .string x]) (t := 84) (fr := (0, 0)) (heap_alloc_new _ _)) (by simp [Value.oneCell']) (by decide) (by have := HB.out; simp only [maxLen]; omega) HB.out (by have := HR.out.hy; simp; omega) (w1.heap.size + 1) (by simp) ?_; intro gg gcap w3 hown3 hgrow3 hat3 hlt3; have q0 := hgrow3.cell_far ⟨yb, 0, none⟩ (by simp; omega) (Ne.symm hnl); have q1 := hgrow3.frozen_far ⟨yb, 0, none⟩ (by simp; omega) (Ne.symm hnl); rw [World.cell?_alloc_past _ _ _ hyr, k0] at q0; rw [frozen_alloc hyr, f0] at q1))
        go_ret
        have l3 := HR.out.putDone (x := ⟨1, p, t, x⟩) (nofr _) hgrow3 hown3 (lies_of hat3)
        have l4 := l3.after HF1.out
        rw [← HO.out] at l4
        exact ⟨by rw [HC.out] <;> rfl, _, l4⟩

set_option maxRecDepth 100000 in
set_option maxHeartbeats 800000 in
theorem rClose_step {w : World} {B yb : Nat} {u : Value} {L : List Ent} (h : RefAt w B yb u L) (p t : Int) (c : Bool) (hb : (L.length + 1) * 40 ≤ 140737488355328) :
    Calls Try.prog 19 #[.pointer (some ⟨yb, 0, none⟩), .int .i64 p, .int .i64 t, .bool c] w fun e w' => e = .returned (.bool (rOpen L p t)) ∧ ∃ u', RLeft w w' B yb u u' (rClosed L p t c) := by
  obtain ⟨i0, hi0, hz0, hz1, hz2⟩ := info_parts info84
  have H : Hid (RefAt w B yb u L) := h
  have HB : Hid ((L.length + 1) * 40 ≤ 140737488355328) := hb
  clear h hb
  cases ho : rOpen L p t
  · have HO : Hid (rClosed L p t c = L) := by show rClosed L p t c = L; simp [rClosed, ho]
    go_enter Try.func19, Try.ntmps19
    go_wp2_with (go_at_call 35; refine (rOpen_any H.out _ _).mono ?_; rintro e w1 ⟨rfl, hf1⟩; rw [ho]; have HF1 : Hid (Fr (fun _ => False) w w1) := hf1; clear hf1)
    go_ret
    have l4 := RLeft.same H.out HF1.out
    rw [← HO.out] at l4
    exact ⟨rfl, _, l4⟩
  · have HO : Hid (rClosed L p t c = L ++ [⟨LogS.closeKind c, p, t, ⟨#[]⟩⟩]) := by show rClosed L p t c = _; simp [rClosed, ho]
    cases c
    · go_enter Try.func19, Try.ntmps19
      go_wp2_with (first
          | (go_at_call 35; refine (rOpen_any H.out _ _).mono ?_; rintro e w1 ⟨rfl, hf1⟩; rw [ho]; have HF1 : Hid (Fr (fun _ => False) w w1) := hf1; clear hf1; have HR : Hid (RefAt w1 B yb u L) := HF1.out.refAt H.out id (fun _ _ => id); have k0 : w1.cell? ⟨yb, 0, none⟩ = some u := (by rw [cell_of_cells HR.out.blk]; rfl); have f0 : w1.frozen? ⟨yb, 0, none⟩ = false := frozen_of_cells HR.out.blk 0; have hnl : u.ownBlock ≠ some yb := H.out.ne_row; have hyr := HR.out.lt)
          | (at_builtin; refine wpList_append_lies _ rfl _ _ 27 rfl B 84 i0 _ 4 40 Try.underlying27 hi0 hz0 hz1 hz2 rfl (by decide) _ L.length (entCells L) rfl (by exact HR.out.row.alloc _) ⟨w1.heap.size, 0, none⟩ 1 1 [.int .i64 3, .int .i64 p, .int .i64 t, .string ⟨#[]⟩] rfl rfl (World.news_of_block (cs := #[.int .i64 3, .int .i64 p, .int .i64 t, .string ⟨#[]⟩]) (t := 84) (fr := (0, 0)) (heap_alloc_new _ _)) (by simp [Value.oneCell']) (by decide) (by have := HB.out; simp only [maxLen]; omega) HB.out (by have := HR.out.hy; simp; omega) (w1.heap.size + 1) (by simp) ?_; intro gg gcap w3 hown3 hgrow3 hat3 hlt3; have q0 := hgrow3.cell_far ⟨yb, 0, none⟩ (by simp; omega) (Ne.symm hnl); have q1 := hgrow3.frozen_far ⟨yb, 0, none⟩ (by simp; omega) (Ne.symm hnl); rw [World.cell?_alloc_past _ _ _ hyr, k0] at q0; rw [frozen_alloc hyr, f0] at q1))
      go_ret
      have l3 := HR.out.putDone (x := ⟨3, p, t, ⟨#[]⟩⟩) (nofr _) hgrow3 hown3 (lies_of hat3)
      have l4 := l3.after HF1.out
      rw [show L ++ [⟨3, p, t, ⟨#[]⟩⟩] = rClosed L p t false from HO.out.symm] at l4
      exact ⟨rfl, _, l4⟩
    · go_enter Try.func19, Try.ntmps19
      go_wp2_with (first
          | (go_at_call 35; refine (rOpen_any H.out _ _).mono ?_; rintro e w1 ⟨rfl, hf1⟩; rw [ho]; have HF1 : Hid (Fr (fun _ => False) w w1) := hf1; clear hf1; have HR : Hid (RefAt w1 B yb u L) := HF1.out.refAt H.out id (fun _ _ => id); have k0 : w1.cell? ⟨yb, 0, none⟩ = some u := (by rw [cell_of_cells HR.out.blk]; rfl); have f0 : w1.frozen? ⟨yb, 0, none⟩ = false := frozen_of_cells HR.out.blk 0; have hnl : u.ownBlock ≠ some yb := H.out.ne_row; have hyr := HR.out.lt)
          | (at_builtin; refine wpList_append_lies _ rfl _ _ 27 rfl B 84 i0 _ 4 40 Try.underlying27 hi0 hz0 hz1 hz2 rfl (by decide) _ L.length (entCells L) rfl (by exact HR.out.row.alloc _) ⟨w1.heap.size, 0, none⟩ 1 1 [.int .i64 2, .int .i64 p, .int .i64 t, .string ⟨#[]⟩] rfl rfl (World.news_of_block (cs := #[.int .i64 2, .int .i64 p, .int .i64 t, .string ⟨#[]⟩]) (t := 84) (fr := (0, 0)) (heap_alloc_new _ _)) (by simp [Value.oneCell']) (by decide) (by have := HB.out; simp only [maxLen]; omega) HB.out (by have := HR.out.hy; simp; omega) (w1.heap.size + 1) (by simp) ?_; intro gg gcap w3 hown3 hgrow3 hat3 hlt3; have q0 := hgrow3.cell_far ⟨yb, 0, none⟩ (by simp; omega) (Ne.symm hnl); have q1 := hgrow3.frozen_far ⟨yb, 0, none⟩ (by simp; omega) (Ne.symm hnl); rw [World.cell?_alloc_past _ _ _ hyr, k0] at q0; rw [frozen_alloc hyr, f0] at q1))
      go_ret
      have l3 := HR.out.putDone (x := ⟨2, p, t, ⟨#[]⟩⟩) (nofr _) hgrow3 hown3 (lies_of hat3)
      have l4 := l3.after HF1.out
      rw [show L ++ [⟨2, p, t, ⟨#[]⟩⟩] = rClosed L p t true from HO.out.symm] at l4
      exact ⟨rfl, _, l4⟩

end Go.Proofs.Ytkelpcjiediamaa
