/-
  What Opened tells of a log in memory: the producers whose transactions are open, by rising numbers.
-/
import Derived.Test.YtkelpcjiediamaaTwo
import Derived.Test.YtkelpcjiediamaaShelf
import Derived.Sort.OwnSortedInts
import Derived.Maps.RangeWalk
namespace Go.Proofs.Ytkelpcjiediamaa
open Go.RowKit Go.Maps

def leI (x y : Int) : Bool := decide (x ≤ y)

theorem sort_any {w : World} {B : Nat} {v : Value} {T : List Int} (h : w.ownsRow B 3 1 v T.length (intCells T)) (hl : T.length < 4611686018427387904) :
    Calls Try.prog 37 #[v] w fun e w' => e = .returned (.tuple #[]) ∧ w'.ownsRow B 3 1 v T.length (intCells (T.mergeSort leI)) ∧ w.grownBy w' v.ownBlock := by
  rcases h.2 with ⟨rfl, h0⟩ | ⟨g, cap, cur, rfl, hb, hg, h1, h2, h3, h4⟩
  · have hT : T = [] := List.eq_nil_of_length_eq_zero h0
    subst hT
    exact (slices_Sort_none none 0 w).mono fun e w' ⟨h1, h2⟩ => by subst h2; exact ⟨h1, by simpa using h, World.grownBy.refl _ _⟩
  · refine (slices_Sort_int g 0 cap T w (holds_of_blockI hg (by simpa [intCells] using h4)) (lt_of_block hg) hl).mono fun e w' ⟨h5, n, os, h6⟩ => ?_
    subst h6
    exact ⟨h5, ownsRow_sortedI (by simp) hb hg h1 h2 h3, grownBy_sortedI _⟩

theorem ownsRow_base {w : World} {B B' : Nat} {ty : TypeId} {wd : Nat} {v : Value} {n : Nat} {xs : List Value} (h : w.ownsRow B ty wd v n xs) (hB : B' ≤ B) : w.ownsRow B' ty wd v n xs := by
  refine ⟨h.1, ?_⟩
  rcases h.2 with h1 | ⟨g, cap, cur, h1, h2, h3⟩
  · exact .inl h1
  · exact .inr ⟨g, cap, cur, h1, by omega, h3⟩

/-- What has been collected of the map while it is ranged over. -/
structure Coll (nw : Int → Option (Int × Bool)) (D : DataW Value) (left : Lit → Bool) (T : List Int) : Prop where
  nodup : T.Nodup
  wf : ∀ x ∈ T, I64 x
  mem : ∀ x, I64 x → (x ∈ T ↔ Maps.has D (.int .i64 x) = true ∧ left (.int .i64 x) = false ∧ ∃ t, nw x = some (t, true))

theorem sameKey_int (x y : Int) : (Lit.int .i64 y).sameKey (.int .i64 x) = decide (y = x) := by
  by_cases e : y = x
  · subst e
    rw [WideAt.sameKey_self (by trivial)]; simp
  · have : (Lit.int .i64 y).sameKey (.int .i64 x) = false := by
      cases h : (Lit.int .i64 y).sameKey (.int .i64 x)
      · rfl
      · have := WideAt.sameKey_eq h
        cases this
        exact absurd rfl e
    rw [this]; simp [e]

theorem Coll.start (nw : Int → Option (Int × Bool)) (D : DataW Value) : Coll nw D (Maps.has D) [] :=
  ⟨List.nodup_nil, fun x h => by simp at h, fun x _ => ⟨fun h => by simp at h, fun ⟨h1, h2, _⟩ => by rw [h1] at h2; cases h2⟩⟩

theorem Coll.step {nw : Int → Option (Int × Bool)} {D : DataW Value} {left : Lit → Bool} {T : List Int} (h : Coll nw D left T) {x t : Int} {o : Bool} (hx : I64 x) (hl : left (.int .i64 x) = true) (hh : Maps.has D (.int .i64 x) = true) (hn : nw x = some (t, o)) :
    Coll nw D (fun z => left z && !z.sameKey (.int .i64 x)) (if o then T ++ [x] else T) := by
  have hxT : x ∉ T := fun hm => by
    have := ((h.mem x hx).1 hm).2.1
    rw [hl] at this; cases this
  have hleft : ∀ y, (left (.int .i64 y) && !(Lit.int .i64 y).sameKey (.int .i64 x)) = false ↔ left (.int .i64 y) = false ∨ y = x := fun y => by
    rw [sameKey_int]
    by_cases e : y = x <;> simp [e]
  cases o
  · refine ⟨h.nodup, h.wf, fun y hy => ?_⟩
    rw [show (if false then T ++ [x] else T) = T from rfl, h.mem y hy, hleft]
    constructor
    · rintro ⟨a, b, c⟩; exact ⟨a, .inl b, c⟩
    · rintro ⟨a, b | b, c⟩
      · exact ⟨a, b, c⟩
      · subst b
        rw [hn] at c
        obtain ⟨t', c⟩ := c
        cases c
  · refine ⟨?_, ?_, fun y hy => ?_⟩
    · rw [show (if true then T ++ [x] else T) = T ++ [x] from rfl, List.nodup_append]
      exact ⟨h.nodup, by simp, fun a ha b hb => by simp at hb; subst hb; intro e; subst e; exact hxT ha⟩
    · intro y hy
      rw [show (if true then T ++ [x] else T) = T ++ [x] from rfl] at hy
      simp only [List.mem_append, List.mem_singleton] at hy
      rcases hy with hy | rfl
      · exact h.wf y hy
      · exact hx
    · rw [show (if true then T ++ [x] else T) = T ++ [x] from rfl, List.mem_append, List.mem_singleton, h.mem y hy, hleft]
      constructor
      · rintro (⟨a, b, c⟩ | rfl)
        · exact ⟨a, .inl b, c⟩
        · exact ⟨hh, .inr rfl, t, hn⟩
      · rintro ⟨a, b | b, c⟩
        · exact .inl ⟨a, b, c⟩
        · exact .inr b

theorem sorted_lt {T : List Int} (h : T.Nodup) : (T.mergeSort leI).Pairwise (· < ·) := by
  have h1 : (T.mergeSort leI).Pairwise fun a b => leI a b = true := List.pairwise_mergeSort (le := leI) (fun a b c => by simp [leI]; omega) (fun a b => by simp [leI]; omega) T
  have h2 : (T.mergeSort leI).Nodup := (List.mergeSort_perm T leI).nodup_iff.2 h
  have h3 := h1.and h2
  exact h3.imp (fun ⟨a, b⟩ => by simp [leI] at a; omega)

theorem held_inj {c d : Value} (h : (DataW.held c : DataW Value) = .held d) : c = d := by cases h; rfl

set_option maxRecDepth 100000 in
set_option maxHeartbeats 1600000 in
theorem opened_ask {w : World} {B lb bm n : Nat} {v : Value} {s : LogS} (h : LogAt w B lb bm v n s) (hn : (n + 1) * 8 ≤ 140737488355328) :
    Calls Try.prog 24 #[.pointer (some ⟨lb, 0, none⟩)] w fun e w' => ∃ v' S, e = .returned v' ∧ w'.ownsRow w.heap.size 3 1 v' S.length (intCells S) ∧ Fr (fun _ => False) w w' ∧ S.Pairwise (· < ·) ∧ S.length ≤ n ∧ (∀ x ∈ S, I64 x) ∧ ∀ x, I64 x → (x ∈ S ↔ ∃ t, s.nw x = some (t, true)) := by
  obtain ⟨i0, hi0, hz0, hz1, hz2⟩ := info_parts info3
  obtain ⟨D, hown, hD⟩ := h.map
  have c2 : w.cell? ⟨lb, 2, none⟩ = some (.map (some bm)) := by rw [cell_of_cells h.blk]; rfl
  have hkD : ∀ x, I64 x → (∀ z, D.atKey (.int .i64 x) (.held z) = .held ((nwFn s.nw (.int .i64 x)).getD z)) ∧ Maps.has D (.int .i64 x) = (nwFn s.nw (.int .i64 x)).isSome := fun x hx => hD (.int .i64 x) (.int .i64 x) (keyOf_int_mk Try.underlying3 hx)
  have HD : Hid (∀ x, I64 x → (∀ z, D.atKey (.int .i64 x) (.held z) = .held ((nwFn s.nw (.int .i64 x)).getD z)) ∧ Maps.has D (.int .i64 x) = (nwFn s.nw (.int .i64 x)).isSome) := hkD
  have HO : Hid (w.ownsMap Try.prog 3 heldR bm n D) := hown
  have HZ : Hid (Maps.size D ≤ n) := hown.size_le
  have HN : Hid ((n + 1) * 8 ≤ 140737488355328) := hn
  have hbm := hown.lt
  clear h hD hkD hown hn
  go_enter Try.func24, Try.ntmps24
  go_wp2_with (at_range; refine wpList_range_own _ rfl _ 54 rfl 3 75 law3 Try.underlying54 heldR bm n D rfl HO.out ?_; intro w0 hrg0 hg0 hs0; have HR0 : Hid (w0.ranges Try.prog 3 heldR bm w.heap.size n D (Maps.has D) (Maps.size D)) := hrg0; have HG0 : Hid (w.grownBy w0 none) := hg0; clear hrg0 hg0 hs0)
  go_frame
  go_loopw [3] (fun o w' => ∃ (left : Lit → Bool) (cnt : Nat) (T : List Int), w'.ranges Try.prog 3 heldR bm w.heap.size n D left cnt ∧ Fr (fun _ => False) w w' ∧ w'.ownsRow (w.heap.size + 1) 3 1 o T.length (intCells T) ∧ Coll s.nw D left T ∧ T.length + cnt ≤ Maps.size D ∧ w.heap.size + 1 ≤ w'.heap.size) (fun _ w' => w'.rangeLeft bm w.heap.size)
  case atStart => exact ⟨_, _, [], HR0.out, (Fr.refl _ _).grown HG0.out (fun k e => by cases e), World.ownsRow_nil _ _ _ _, Coll.start _ _, by simp, by have := HR0.out.lt; omega⟩
  case round =>
    obtain ⟨left, cnt, T, hrg, hfr, hown, hcol, hcnt, hsz⟩ := hrel
    have HRG : Hid (wr.ranges Try.prog 3 heldR bm w.heap.size n D left cnt) := hrg
    have HF : Hid (Fr (fun _ => False) w wr) := hfr
    have HW : Hid (wr.ownsRow (w.heap.size + 1) 3 1 u3 T.length (intCells T)) := hown
    have HC : Hid (Coll s.nw D left T) := hcol
    have HCN : Hid (T.length + cnt ≤ Maps.size D) := hcnt
    have HSZ : Hid (w.heap.size + 1 ≤ wr.heap.size) := hsz
    clear hrg hfr hown hcol hcnt hsz
    go_wp2_with (at_next; refine wpList_next_ranges _ rfl _ rfl 3 law3 heldR (Value.int .i64) id (fun key kl hk => by obtain ⟨x, hx, _⟩ := Maps.keyOf_int_inv Try.underlying3 hk; exact ⟨x, hx⟩) (fun v y hv => ⟨v, rfl⟩) bm w.heap.size n D left cnt rfl HRG.out ?_ ?_)
    · intro hc0 hl0
      have HL : Hid (∀ kl, left kl = false) := hl0
      clear hc0 hl0
      have HTL : Hid (T.length < 4611686018427387904) := by have := HCN.out; have := HZ.out; have := HN.out; show T.length < 4611686018427387904; omega
      go_wp2_with (go_at_call 37; refine (sort_any HW.out HTL.out).mono ?_; rintro e w3 ⟨rfl, ho3, hg3⟩; have HO3 : Hid (w3.ownsRow (w.heap.size + 1) 3 1 u3 T.length (intCells (T.mergeSort leI))) := ho3; have HG3 : Hid (wr.grownBy w3 u3.ownBlock) := hg3; clear ho3 hg3)
      go_ret
      refine ⟨_, T.mergeSort leI, rfl, by rw [List.length_mergeSort]; exact ownsRow_base HO3.out (by omega), HF.out.grown HG3.out (fun k e => .inr (by have := (HW.out.lt k e).1; omega)), sorted_lt HC.out.nodup, by rw [List.length_mergeSort]; have := HCN.out; have := HZ.out; omega, fun x hx => HC.out.wf x ((List.mergeSort_perm T leI).mem_iff.1 hx), fun x hx => ?_⟩
      rw [(List.mergeSort_perm T leI).mem_iff, HC.out.mem x hx]
      refine ⟨fun h => h.2.2, fun ⟨t, ht⟩ => ⟨?_, HL.out _, t, ht⟩⟩
      rw [(HD.out x hx).2]; simp [nwFn, ht]
    · intro x c kl yd yp w1 cnt1 hkey hlk hv hat hrg1 hlt1 hg1 hs1 hen
      obtain ⟨x', ex, rfl, hwx⟩ := Maps.keyOf_int_inv Try.underlying3 hkey
      cases ex
      simp only [heldR, Option.some.injEq, Prod.mk.injEq] at hv
      obtain ⟨rfl, rfl⟩ := hv
      obtain ⟨t, o, hnw, rfl⟩ : ∃ t o, s.nw x = some (t, o) ∧ c = .agg #[.int .i64 t, .bool o] := by
        have h1 := fun z => (hat (.held z)).symm.trans ((HD.out x hwx).1 z)
        cases hq : s.nw x with
        | none =>
          have a := held_inj (h1 (.bool true))
          have b := held_inj (h1 (.bool false))
          simp only [nwFn, hq, Option.map_none, Option.getD_none] at a b
          rw [a] at b
          cases b
        | some to =>
          have a := held_inj (h1 (.bool true))
          simp only [nwFn, hq, Option.map_some, Option.getD_some] at a
          exact ⟨to.1, to.2, rfl, a⟩
      have HH : Hid (Maps.has D (.int .i64 x) = true) := by show Maps.has D (.int .i64 x) = true; rw [(HD.out x hwx).2]; simp [nwFn, hnw]
      have HC1 : Hid (Coll s.nw D (fun z => left z && !z.sameKey (.int .i64 x)) (if o then T ++ [x] else T)) := HC.out.step hwx hlk HH.out hnw
      have HR1 : Hid (w1.ranges Try.prog 3 heldR bm w.heap.size n D (fun z => left z && !z.sameKey (.int .i64 x)) cnt1) := hrg1
      have HF1 : Hid (Fr (fun _ => False) w w1) := HF.out.grown hg1 (fun k e => by cases e; exact .inr (Nat.le_refl _))
      have HW1 : Hid (w1.ownsRow (w.heap.size + 1) 3 1 u3 T.length (intCells T)) := HW.out.kept hg1 (.inr (fun e => row_ne_iter HW.out HRG.out e.symm))
      have HS1 : Hid (w.heap.size + 1 ≤ w1.heap.size) := Nat.le_trans HSZ.out hg1.size
      have HLT : Hid (cnt1 < cnt) := hlt1
      try simp only [id] at hen
      try simp only [id]
      clear hkey hlk hat hrg1 hlt1 hg1 hs1 hnw
      cases o
      · go_wp2
        go_roundw
        case rel => exact ⟨_, cnt1, T, HR1.out.alloc _, HF1.out.alloc _, HW1.out.alloc _, HC1.out, by have := HCN.out; have := HLT.out; omega, by have := HS1.out; simp; omega⟩
        case measure => rw [(HR1.out.alloc _).left_eq, HRG.out.left_eq]; exact HLT.out
      · have HTL : Hid (T.length + 1 ≤ n) := by have := HCN.out; have := HZ.out; have := HLT.out; show T.length + 1 ≤ n; omega
        go_wp2_with (at_builtin; refine wpList_append_lies _ rfl _ _ 59 rfl (w.heap.size + 1) 3 i0 _ 1 8 Try.underlying59 hi0 hz0 hz1 hz2 rfl (by decide) _ T.length (intCells T) rfl (by exact (HW1.out.alloc _).alloc _) ⟨w1.heap.size + 1, 0, none⟩ 1 1 [.int .i64 x] rfl rfl (World.news_of_block (cs := #[.int .i64 x]) (t := 3) (fr := (0, 0)) (heap_alloc_new3 _ _ _)) (by simp [Value.oneCell']) (by decide) (by have := HTL.out; have := HN.out; simp only [maxLen]; omega) (by have := HTL.out; have := HN.out; omega) (by have := HS1.out; simp; omega) (w1.heap.size + 2) (by simp) ?_; intro gg gcap w3 hown3 hgrow3 hat3 hlt3)
        have HR3 : Hid (w3.ranges Try.prog 3 heldR bm w.heap.size n D (fun z => left z && !z.sameKey (.int .i64 x)) cnt1) := ((HR1.out.alloc _).alloc _).kept hgrow3 (row_ne_low HW1.out (by omega)) (row_ne_low HW1.out (by omega))
        have hfr3 : Fr (fun z => u3.ownBlock = some z) w1 w3 := (((Fr.refl _ _).alloc _).alloc _).grown hgrow3 (fun z ez => .inl ez)
        have HF3 : Hid (Fr (fun _ => False) w w3) := HF1.out.trans hfr3 (fun z hz => .inr (by have := (HW1.out.lt z hz).1; omega))
        have HS3 : Hid (w.heap.size + 1 ≤ w3.heap.size) := Nat.le_trans HS1.out hfr3.size
        have HW3 : Hid (w3.ownsRow (w.heap.size + 1) 3 1 (.slice (some ⟨gg, 0, none⟩) (T.length + 1) gcap) (T ++ [x]).length (intCells (T ++ [x]))) := by unfold Hid; simpa [intCells] using hown3
        clear hown3 hgrow3 hat3 hlt3 hfr3
        go_roundw
        case rel => exact ⟨_, cnt1, T ++ [x], HR3.out, HF3.out, HW3.out, HC1.out, by have := HCN.out; have := HLT.out; simp; omega, HS3.out⟩
        case measure => rw [HR3.out.left_eq, HRG.out.left_eq]; exact HLT.out

end Go.Proofs.Ytkelpcjiediamaa
