/-
  The document's stand of a producer: its records are gone through.
-/
import Derived.Test.YtkelpcjiediamaaGreatNewX
namespace Go.Proofs.YtkelpcjiediamaaGreat
open Go.RowKit Go.Maps

/-- What the records say of a producer. -/
structure St where
  e : Int
  t : Int
  s : Int
  ps : List Int

def St.step (p : Int) (x : St) (r : Rc) : St :=
  if r.p ≠ p then x else if r.k = 1 then { x with e := r.m } else if r.k = 2 then ⟨x.e, r.m, 1, (if x.s = 0 then [] else x.ps) ++ [r.a]⟩ else if r.k = 3 then { x with s := 3 - r.a } else if r.k = 4 then { x with s := 0 } else x
def st0 : St := ⟨0, 0, 0, []⟩
def stand (L : List Rc) (p : Int) : St := L.foldl (St.step p) st0

theorem stand_snoc (L : List Rc) (r : Rc) (p : Int) : stand (L ++ [r]) p = (stand L p).step p r := by simp [stand, List.foldl_append]

theorem St.step_len (p : Int) (x : St) (r : Rc) : (x.step p r).ps.length ≤ x.ps.length + 1 := by
  unfold St.step
  split
  · omega
  · split
    · simp
    · split
      · simp only [List.length_append, List.length_singleton]; split <;> simp
      · split
        · simp
        · split <;> simp

theorem stand_len (L : List Rc) (p : Int) : (stand L p).ps.length ≤ L.length := by
  have key : ∀ (L : List Rc) (x : St), (L.foldl (St.step p) x).ps.length ≤ x.ps.length + L.length := by
    intro L
    induction L with
    | nil => intro x; simp
    | cons r L ih => intro x; have := ih (x.step p r); have := St.step_len p x r; simp only [List.foldl_cons, List.length_cons]; omega
  have := key L st0
  simpa [stand, st0] using this

theorem rcCells_get : ∀ (l : List Rc) (k : Nat) (e : Rc) (j : Nat), l[k]? = some e → j < 4 → (l.flatMap Rc.cs)[k * 4 + j]? = e.cs[j]?
  | [], k, e, j, h, _ => by simp at h
  | x :: r, 0, e, j, h, hj => by
    simp only [List.getElem?_cons_zero, Option.some.injEq] at h
    subst h
    simp only [List.flatMap_cons]
    rw [List.getElem?_append_left (by simp [Rc.cs]; omega)]
    simp
  | x :: r, k + 1, e, j, h, hj => by
    simp only [List.getElem?_cons_succ] at h
    have := rcCells_get r k e j h hj
    simp only [List.flatMap_cons] at this ⊢
    rw [List.getElem?_append_right (by simp [Rc.cs]; omega), ← this]
    congr 1
    simp [Rc.cs]; omega

theorem rowRc_cells {w : World} {B g n cap : Nat} {l : List Rc} (h : w.ownsRow B 155 4 (.slice (some ⟨g, 0, none⟩) n cap) l.length (l.flatMap Rc.cs)) {k : Nat} {e : Rc} (hk : l[k]? = some e) :
    w.cell? ⟨g, k * 4, none⟩ = some (.int .i64 e.k) ∧ w.cell? ⟨g, k * 4 + 1, none⟩ = some (.int .i64 e.p) ∧ w.cell? ⟨g, k * 4 + 2, none⟩ = some (.int .i64 e.a) ∧ w.cell? ⟨g, k * 4 + 3, none⟩ = some (.int .i64 e.m) := by
  have hc := h.cells (g := g) rfl
  have key : ∀ j u, j < 4 → e.cs[j]? = some u → w.cell? ⟨g, k * 4 + j, none⟩ = some u := fun j u hj hu => by
    have := hc (k * 4 + j) u ((rcCells_get l k e j hk hj).trans hu)
    rw [Addr.add_lit] at this
    simpa using this
  exact ⟨key 0 _ (by omega) rfl, key 1 _ (by omega) rfl, key 2 _ (by omega) rfl, key 3 _ (by omega) rfl⟩

section
variable {w w' : World} {B yb : Nat} {y : RS}

set_option maxRecDepth 100000 in
theorem has_any {v : Value} {xs : List Int} (h : w.ownsRow B 3 1 v xs.length (intCells xs)) (m : Int) :
    Calls Tryz.prog 133 #[v, .int .i64 m] w fun r w' => r = .returned (.bool (decide (m ∈ xs))) ∧ w = w' := by
  obtain ⟨va, vc, rfl, hl⟩ := intRow_len h
  unfold maxLen at hl
  have H : Hid (w.ownsRow B 3 1 (.slice va xs.length vc) xs.length (intCells xs)) := h
  clear h
  go_enter Tryz.func133, Tryz.ntmps133
  go_wp2_with fail
  go_loop [5] (fun i => ∃ k : Nat, k ≤ xs.length ∧ i = .int .i64 k ∧ ∀ (j : Nat) x, j < k → xs[j]? = some x → x ≠ m) (fun i => xs.length - (intOf i).toNat)
  case atStart => exact ⟨0, Nat.zero_le _, rfl, fun j x hj => by omega⟩
  case round =>
    obtain ⟨k, hk, rfl, hall⟩ := hrel
    have HA : Hid (∀ (j : Nat) x, j < k → xs[j]? = some x → x ≠ m) := hall
    clear hall
    by_cases hlt : k < xs.length
    · obtain ⟨x, hx⟩ : ∃ x, xs[k]? = some x := ⟨_, List.getElem?_eq_getElem hlt⟩
      have HX : Hid (xs[k]? = some x) := hx
      rcases H.out.2 with ⟨_, h0⟩ | ⟨g, cap, cur, hv, hb, hg, h1, h2, _⟩
      · omega
      · simp only [Value.slice.injEq] at hv
        obtain ⟨rfl, _, rfl⟩ := hv
        have c0 := intRow_cell H.out hx
        have hki : (k : Int) < (xs.length : Int) := by omega
        clear hx hg h2 hb
        by_cases e : x = m
        · have HM : Hid (decide (m ∈ xs) = true) := decide_eq_true (by rw [← e]; exact List.mem_of_getElem? HX.out)
          go_wp2
          go_ret
          exact ⟨by rw [HM.out] <;> rfl, rfl⟩
        · have e' : (x == m) = false := by simpa using e
          have HA2 : Hid (∀ (j : Nat) z, j < k + 1 → xs[j]? = some z → z ≠ m) := fun j z hj hz => by
            by_cases ej : j = k
            · subst ej
              have := HX.out.symm.trans hz
              cases this
              exact e
            · exact HA.out j z (by omega) hz
          clear e
          go_wp2
          go_round
          case rel => exact ⟨k + 1, by omega, by go_num, HA2.out⟩
          case measure => simp [intOf]; omega
    · have HM : Hid (decide (m ∈ xs) = false) := decide_eq_false (fun hm => by
        obtain ⟨j, hj, rfl⟩ := List.getElem_of_mem hm
        exact HA.out j _ (by omega) (List.getElem?_eq_getElem hj) rfl)
      go_wp2
      go_ret
      exact ⟨by rw [HM.out] <;> rfl, rfl⟩

/-- While the records are gone through. -/
structure Going (w w' : World) (x : St) (v : Value) : Prop where
  b1 : w'.heap[w.heap.size]? = some (.cells #[.int .i64 0, .int .i64 0, .int .i64 0, .slice none 0 0] 157 (0, 0))
  b2 : w'.heap[w.heap.size + 1]? = some (.cells #[.int .i64 x.e, .int .i64 x.t, .int .i64 x.s, v] 157 (0, 0))
  row : w'.ownsRow w.heap.size 3 1 v x.ps.length (intCells x.ps)
  fr : Fr (fun _ => False) w w'

theorem Going.after {w1 w2 : World} {x : St} {v : Value} (h : Going w w1 x v) (f : Fr (fun _ => False) w1 w2) : Going w w2 x v :=
  ⟨(f.block _ (lt_of_block h.b1) id).trans h.b1, (f.block _ (lt_of_block h.b2) id).trans h.b2, f.ownsRow h.row (fun _ _ => id), h.fr.trans f (fun _ h => h.elim)⟩

theorem Going.put {w1 w2 : World} {x : St} {v : Value} (h : Going w w1 x v) (f : Fr (fun k => k = w.heap.size + 1) w1 w2) {x' : St} {v' : Value} (hb : w2.heap[w.heap.size + 1]? = some (.cells #[.int .i64 x'.e, .int .i64 x'.t, .int .i64 x'.s, v'] 157 (0, 0))) (hv : (v' = v ∧ x'.ps = x.ps) ∨ (v' = .slice none 0 0 ∧ x'.ps = [])) : Going w w2 x' v' := by
  refine ⟨(f.block _ (lt_of_block h.b1) (by omega)).trans h.b1, hb, ?_, h.fr.trans f (fun k hk => .inr (by omega))⟩
  rcases hv with ⟨rfl, e⟩ | ⟨rfl, e⟩
  · rw [e]
    refine f.ownsRow h.row (fun k hk e2 => ?_)
    subst e2
    have h1 := tag_row h.row hk
    rw [tag_cells h.b2] at h1
    cases h1
  · rw [e]; exact World.ownsRow_nil _ _ _ _

theorem Going.app {w1 W w3 : World} {x : St} {v v' : Value} {a : Int} (h : Going w w1 x v) (fW : Fr (fun _ => False) w1 W) (hg : W.grownBy w3 v.ownBlock) (hown : w3.ownsRow w.heap.size 3 1 v' (x.ps.length + 1) (intCells x.ps ++ [.int .i64 a])) (hat : ∀ q, v'.ownBlock = some q → v.ownBlock = some q ∨ w1.heap.size ≤ q) :
    Going w (w3.setCell ⟨w.heap.size + 1, 3, none⟩ v') ⟨x.e, x.t, x.s, x.ps ++ [a]⟩ v' := by
  have f3 : Fr (fun q => v.ownBlock = some q) w1 w3 := (fW.mono (fun _ h => h.elim)).grown hg (fun q e => .inl e)
  have n1 : v.ownBlock ≠ some w.heap.size := fun e => by
    have h1 := tag_row h.row e
    rw [tag_cells h.b1] at h1
    cases h1
  have n2 : v.ownBlock ≠ some (w.heap.size + 1) := fun e => by
    have h1 := tag_row h.row e
    rw [tag_cells h.b2] at h1
    cases h1
  have z1 := lt_of_block h.b1
  have z2 := lt_of_block h.b2
  have fs : Fr (fun q => q = w.heap.size + 1) w3 (w3.setCell ⟨w.heap.size + 1, 3, none⟩ v') := (Fr.refl (fun q => q = w.heap.size + 1) w3).setCell (p := ⟨w.heap.size + 1, 3, none⟩) (.inl rfl) _
  have f4 : Fr (fun q => v.ownBlock = some q ∨ q = w.heap.size + 1) w1 (w3.setCell ⟨w.heap.size + 1, 3, none⟩ v') := (f3.mono (fun q e => .inl (.inl e))).trans fs (fun q e => .inl (.inr e))
  refine ⟨(f4.block _ z1 (fun e => by rcases e with e | e; exact n1 e; omega)).trans h.b1, setCell_cells ((f3.block _ z2 n2).trans h.b2) 3 v', ?_, h.fr.trans f4 (fun q hq => .inr (by
      rcases hq with hq | hq
      · exact (h.row.lt q hq).1
      · omega))⟩
  have e1 : intCells (x.ps ++ [a]) = intCells x.ps ++ [.int .i64 a] := by simp [intCells]
  rw [e1, List.length_append]
  refine fs.ownsRow hown (fun q hq e => ?_)
  subst e
  rcases hat _ hq with a2 | a2
  · exact n2 a2
  · omega

set_option maxRecDepth 100000 in
set_option maxHeartbeats 800000 in
theorem stand_any (h : YAt w B yb y) (m : Int) (hR : ∀ r ∈ y.L, 0 ≤ r.a ∧ r.a ≤ 4) (hb : (y.L.length + 1) * 8 ≤ 140737488355328) :
    Calls Tryz.prog 105 #[.pointer (some ⟨yb, 0, none⟩), .int .i64 m] w fun r w' => ∃ v, r = .returned (.agg #[.int .i64 (stand y.L m).e, .int .i64 (stand y.L m).t, .int .i64 (stand y.L m).s, v]) ∧ NewInts w w' v (stand y.L m).ps ∧ Fr (fun _ => False) w w' := by
  obtain ⟨i0, hi0, hz0, hz1, hz2⟩ := info_parts info3
  have H : Hid (YAt w B yb y) := h
  have HR : Hid (∀ r ∈ y.L, 0 ≤ r.a ∧ r.a ≤ 4) := hR
  have HB : Hid ((y.L.length + 1) * 8 ≤ 140737488355328) := hb
  have c8 : w.cell? ⟨yb, 8, none⟩ = some y.lv := h.c 8
  obtain ⟨la, lc, hl, hll⟩ := anyRow_len h.recs
  unfold maxLen at hll
  rw [hl] at c8
  have HLV : Hid (y.lv = .slice la y.L.length lc) := hl
  have hlt := lt_of_block h.blk
  clear h hR hb hl
  go_enter Tryz.func105, Tryz.ntmps105
  go_wp2_with fail
  go_loopw [6] (fun i w' => ∃ k : Nat, k ≤ y.L.length ∧ i = .int .i64 k ∧ ∃ v, Going w w' (stand (y.L.take k) m) v) (fun i _ => y.L.length - (intOf i).toNat)
  case atStart => exact ⟨0, Nat.zero_le _, rfl, .slice none 0 0, ((nofr _).block _ (by simp) id).trans (heap_alloc_new _ _), by have := heap_alloc_new (w.alloc (.cells #[.int .i64 0, .int .i64 0, .int .i64 0, .slice none 0 0] 157)) (.cells #[.int .i64 0, .int .i64 0, .int .i64 0, .slice none 0 0] 157); simpa [stand, st0] using this, World.ownsRow_nil _ _ _ _, ((Fr.refl _ _).alloc _).alloc _⟩
  case round =>
    obtain ⟨k, hk, rfl, v, hgo⟩ := hrel
    obtain ⟨x, hx⟩ : ∃ x, stand (y.L.take k) m = x := ⟨_, rfl⟩
    rw [hx] at hgo
    have HG : Hid (Going w wr x v) := hgo
    obtain ⟨va, vc, rfl, hvl⟩ := intRow_len hgo.row
    have HPL : Hid (x.ps.length ≤ k) := by rw [← hx]; exact Nat.le_trans (stand_len _ _) (by simp; omega)
    have d8 : wr.cell? ⟨yb, 8, none⟩ = some (.slice la y.L.length lc) := (hgo.fr.cell (p := ⟨yb, 8, none⟩) hlt id).trans c8
    have b0 : wr.cell? ⟨w.heap.size + 1, 0, none⟩ = some (.int .i64 x.e) := by rw [cell_of_cells hgo.b2]; rfl
    have b1 : wr.cell? ⟨w.heap.size + 1, 1, none⟩ = some (.int .i64 x.t) := by rw [cell_of_cells hgo.b2]; rfl
    have b2 : wr.cell? ⟨w.heap.size + 1, 2, none⟩ = some (.int .i64 x.s) := by rw [cell_of_cells hgo.b2]; rfl
    have b3 : wr.cell? ⟨w.heap.size + 1, 3, none⟩ = some (.slice va x.ps.length vc) := by rw [cell_of_cells hgo.b2]; rfl
    have bf : ∀ o, wr.frozen? ⟨w.heap.size + 1, o, none⟩ = false := frozen_of_cells hgo.b2
    have hz2' := lt_of_block hgo.b2
    have hyr : yb < wr.heap.size := Nat.lt_of_lt_of_le hlt hgo.fr.size
    have HROW : Hid (wr.ownsRow B 155 4 (.slice la y.L.length lc) y.L.length (y.L.flatMap Rc.cs)) := by have := hgo.fr.ownsRow H.out.recs (fun _ _ => id); rw [HLV.out] at this; exact this
    clear hgo hvl
    by_cases hlt2 : k < y.L.length
    · obtain ⟨r, hr⟩ : ∃ r, y.L[k]? = some r := ⟨_, List.getElem?_eq_getElem hlt2⟩
      have HS : Hid (stand (y.L.take (k + 1)) m = x.step m r) := by
        show stand (y.L.take (k + 1)) m = x.step m r
        rw [List.take_add_one, hr, Option.toList_some, stand_snoc, hx]
      have HA : Hid (0 ≤ r.a ∧ r.a ≤ 4) := HR.out r (List.mem_of_getElem? hr)
      rcases HROW.out.2 with ⟨_, h0⟩ | ⟨g, cap, cur, hv, hb, hg, h1, h2, _⟩
      · omega
      · simp only [Value.slice.injEq] at hv
        obtain ⟨rfl, _, rfl⟩ := hv
        obtain ⟨r0, r1, r2, r3⟩ := rowRc_cells HROW.out hr
        have hki : (k : Int) < (y.L.length : Int) := by omega
        have hgl := lt_of_block hg
        clear hr hg h2 hb hx
        by_cases hp : r.p = m
        · have hp' : (r.p == m) = true := by simpa using hp
          by_cases k1 : r.k = 1
          · have HS2 : Hid (stand (y.L.take (k + 1)) m = ⟨r.m, x.t, x.s, x.ps⟩) := by show stand (y.L.take (k + 1)) m = ⟨r.m, x.t, x.s, x.ps⟩; rw [HS.out]; simp [St.step, hp, k1]
            clear HS
            go_wp2_with fail
            go_roundw
            case rel =>
              refine ⟨k + 1, by omega, by go_num, .slice va x.ps.length vc, ?_⟩
              rw [HS2.out]
              exact Going.after (w1 := wr.setCell ⟨w.heap.size + 1, 0, none⟩ (.int .i64 r.m)) (HG.out.put (x' := ⟨r.m, x.t, x.s, x.ps⟩) ((Fr.refl (fun q => q = w.heap.size + 1) wr).setCell (p := ⟨w.heap.size + 1, 0, none⟩) (.inl rfl) _) (setCell_cells HG.out.b2 0 _) (.inl ⟨rfl, rfl⟩)) (nofr _)
            case measure => simp [intOf]; omega
          · have k1' : (r.k == 1) = false := by simpa using k1
            by_cases k2 : r.k = 2
            · by_cases s0 : x.s = 0
              · have HS2 : Hid (stand (y.L.take (k + 1)) m = ⟨x.e, r.m, 1, [] ++ [r.a]⟩) := by show stand (y.L.take (k + 1)) m = ⟨x.e, r.m, 1, [] ++ [r.a]⟩; rw [HS.out]; simp [St.step, hp, k2, s0]
                clear HS
                have HG1 : Hid (Going w (((wr.setCell ⟨w.heap.size + 1, 3, none⟩ (.slice none 0 0)).setCell ⟨w.heap.size + 1, 1, none⟩ (.int .i64 r.m)).setCell ⟨w.heap.size + 1, 2, none⟩ (.int .i64 1)) ⟨x.e, r.m, 1, []⟩ (.slice none 0 0)) :=
                  HG.out.put (x' := ⟨x.e, r.m, 1, []⟩) ((((Fr.refl (fun q => q = w.heap.size + 1) wr).setCell (p := ⟨w.heap.size + 1, 3, none⟩) (.inl rfl) _).setCell (p := ⟨w.heap.size + 1, 1, none⟩) (.inl rfl) _).setCell (p := ⟨w.heap.size + 1, 2, none⟩) (.inl rfl) _) (setCell_cells (setCell_cells (setCell_cells HG.out.b2 3 _) 1 _) 2 _) (.inr ⟨rfl, rfl⟩)
                have e3 := HG1.out.b2
                go_wp2_with (at_builtin; refine wpList_append_lies _ rfl _ _ 43 rfl w.heap.size 3 i0 _ 1 8 Tryz.underlying43 hi0 hz0 hz1 hz2 rfl (by decide) (.slice none 0 0) 0 [] rfl (by exact World.ownsRow_nil _ _ _ _) ⟨wr.heap.size + 1, 0, none⟩ 1 1 [.int .i64 r.a] rfl rfl (World.news_of_block (cs := #[.int .i64 r.a]) (t := 3) (fr := (0, 0)) (alloc_at _ (by simp))) (by simp [Value.oneCell']) (by decide) (by simp only [maxLen]; omega) (by omega) (by simp; omega) (wr.heap.size + 1 + 1) (by simp) ?_; intro gg gcap w3 hown3 hgrow3 hat3 hlt3; have hb3 := (hgrow3.block (w.heap.size + 1) (by simp; omega) (by simp [Value.ownBlock])).trans (((nofr _).alloc _).block _ (lt_of_block e3) id |>.trans e3); have q3 : w3.cell? ⟨w.heap.size + 1, 3, none⟩ = some (.slice none 0 0) := (by rw [cell_of_cells hb3]; rfl); have qf : ∀ o, w3.frozen? ⟨w.heap.size + 1, o, none⟩ = false := frozen_of_cells hb3; clear hb3)
                go_roundw
                case rel =>
                  refine ⟨k + 1, by omega, by go_num, .slice (some ⟨gg, 0, none⟩) (0 + 1) gcap, ?_⟩
                  rw [HS2.out]
                  refine HG1.out.app ((nofr _).alloc _) hgrow3 hown3 (fun q hq => ?_)
                  simp only [Value.ownBlock, Option.some.injEq] at hq
                  subst hq
                  rcases hat3 with a2 | a2
                  · exact .inl a2
                  · exact .inr (by simp; omega)
                case measure => simp [intOf]; omega
              · have HS2 : Hid (stand (y.L.take (k + 1)) m = ⟨x.e, r.m, 1, x.ps ++ [r.a]⟩) := by show stand (y.L.take (k + 1)) m = ⟨x.e, r.m, 1, x.ps ++ [r.a]⟩; rw [HS.out]; simp [St.step, hp, k2, s0]
                have s0' : (x.s == 0) = false := by simpa using s0
                clear HS
                have HG1 : Hid (Going w ((wr.setCell ⟨w.heap.size + 1, 1, none⟩ (.int .i64 r.m)).setCell ⟨w.heap.size + 1, 2, none⟩ (.int .i64 1)) ⟨x.e, r.m, 1, x.ps⟩ (.slice va x.ps.length vc)) :=
                  HG.out.put (x' := ⟨x.e, r.m, 1, x.ps⟩) (((Fr.refl (fun q => q = w.heap.size + 1) wr).setCell (p := ⟨w.heap.size + 1, 1, none⟩) (.inl rfl) _).setCell (p := ⟨w.heap.size + 1, 2, none⟩) (.inl rfl) _) (setCell_cells (setCell_cells HG.out.b2 1 _) 2 _) (.inl ⟨rfl, rfl⟩)
                have e3 := HG1.out.b2
                have hne : Value.ownBlock (.slice va x.ps.length vc) ≠ some (w.heap.size + 1) := row_ne_blk HG1.out.row HG1.out.b2 (by decide)
                go_wp2_with (at_builtin; refine wpList_append_lies _ rfl _ _ 43 rfl w.heap.size 3 i0 _ 1 8 Tryz.underlying43 hi0 hz0 hz1 hz2 rfl (by decide) (.slice va x.ps.length vc) x.ps.length (intCells x.ps) rfl (by exact ((nofr _).alloc _).ownsRow HG1.out.row (fun _ _ => id)) ⟨wr.heap.size + 1, 0, none⟩ 1 1 [.int .i64 r.a] rfl rfl (World.news_of_block (cs := #[.int .i64 r.a]) (t := 3) (fr := (0, 0)) (alloc_at _ (by simp))) (by simp [Value.oneCell']) (by decide) (by have := HPL.out; have := HB.out; simp only [maxLen]; omega) (by have := HPL.out; have := HB.out; omega) (by simp; omega) (wr.heap.size + 1 + 1) (by simp) ?_; intro gg gcap w3 hown3 hgrow3 hat3 hlt3; have hb3 := (hgrow3.block (w.heap.size + 1) (by simp; omega) (Ne.symm hne)).trans (((nofr _).alloc _).block _ (lt_of_block e3) id |>.trans e3); have q3 : w3.cell? ⟨w.heap.size + 1, 3, none⟩ = some (.slice va x.ps.length vc) := (by rw [cell_of_cells hb3]; rfl); have qf : ∀ o, w3.frozen? ⟨w.heap.size + 1, o, none⟩ = false := frozen_of_cells hb3; clear hb3)
                go_roundw
                case rel =>
                  refine ⟨k + 1, by omega, by go_num, .slice (some ⟨gg, 0, none⟩) (x.ps.length + 1) gcap, ?_⟩
                  rw [HS2.out]
                  refine HG1.out.app ((nofr _).alloc _) hgrow3 hown3 (fun q hq => ?_)
                  simp only [Value.ownBlock, Option.some.injEq] at hq
                  subst hq
                  rcases hat3 with a2 | a2
                  · exact .inl a2
                  · exact .inr (by simp; omega)
                case measure => simp [intOf]; omega
            · have k2' : (r.k == 2) = false := by simpa using k2
              by_cases k3 : r.k = 3
              · have HS2 : Hid (stand (y.L.take (k + 1)) m = ⟨x.e, x.t, 3 - r.a, x.ps⟩) := by show stand (y.L.take (k + 1)) m = ⟨x.e, x.t, 3 - r.a, x.ps⟩; rw [HS.out]; simp [St.step, hp, k3]
                have ha1 := HA.out.1
                have ha2 := HA.out.2
                clear HS
                go_wp2_with fail
                go_roundw
                case rel =>
                  refine ⟨k + 1, by omega, by go_num, .slice va x.ps.length vc, ?_⟩
                  rw [HS2.out]
                  exact Going.after (w1 := wr.setCell ⟨w.heap.size + 1, 2, none⟩ (.int .i64 (3 - r.a))) (HG.out.put (x' := ⟨x.e, x.t, 3 - r.a, x.ps⟩) ((Fr.refl (fun q => q = w.heap.size + 1) wr).setCell (p := ⟨w.heap.size + 1, 2, none⟩) (.inl rfl) _) (setCell_cells HG.out.b2 2 _) (.inl ⟨rfl, rfl⟩)) (nofr _)
                case measure => simp [intOf]; omega
              · have k3' : (r.k == 3) = false := by simpa using k3
                by_cases k4 : r.k = 4
                · have HS2 : Hid (stand (y.L.take (k + 1)) m = ⟨x.e, x.t, 0, x.ps⟩) := by show stand (y.L.take (k + 1)) m = ⟨x.e, x.t, 0, x.ps⟩; rw [HS.out]; simp [St.step, hp, k4]
                  clear HS
                  go_wp2_with fail
                  go_roundw
                  case rel =>
                    refine ⟨k + 1, by omega, by go_num, .slice va x.ps.length vc, ?_⟩
                    rw [HS2.out]
                    exact Going.after (w1 := wr.setCell ⟨w.heap.size + 1, 2, none⟩ (.int .i64 0)) (HG.out.put (x' := ⟨x.e, x.t, 0, x.ps⟩) ((Fr.refl (fun q => q = w.heap.size + 1) wr).setCell (p := ⟨w.heap.size + 1, 2, none⟩) (.inl rfl) _) (setCell_cells HG.out.b2 2 _) (.inl ⟨rfl, rfl⟩)) (nofr _)
                  case measure => simp [intOf]; omega
                · have k4' : (r.k == 4) = false := by simpa using k4
                  have HS2 : Hid (stand (y.L.take (k + 1)) m = x) := by show stand (y.L.take (k + 1)) m = x; rw [HS.out]; simp [St.step, hp, k1, k2, k3, k4]
                  clear HS k1 k2 k3 k4
                  go_wp2_with fail
                  go_roundw
                  case rel => exact ⟨k + 1, by omega, by go_num, .slice va x.ps.length vc, by rw [HS2.out]; exact HG.out.after (nofr _)⟩
                  case measure => simp [intOf]; omega
        · have hp' : (r.p == m) = false := by simpa using hp
          have HS2 : Hid (stand (y.L.take (k + 1)) m = x) := by show stand (y.L.take (k + 1)) m = x; rw [HS.out]; simp [St.step, hp]
          clear HS
          go_wp2_with fail
          go_roundw
          case rel => exact ⟨k + 1, by omega, by go_num, .slice va x.ps.length vc, by rw [HS2.out]; exact HG.out.after (nofr _)⟩
          case measure => simp [intOf]; omega
    · have HT : Hid (stand y.L m = x) := by show stand y.L m = x; rw [← hx, List.take_of_length_le (by omega)]
      have a0 : wr.cell? ⟨w.heap.size, 0, none⟩ = some (.int .i64 0) := by rw [cell_of_cells HG.out.b1]; rfl
      have a1 : wr.cell? ⟨w.heap.size, 1, none⟩ = some (.int .i64 0) := by rw [cell_of_cells HG.out.b1]; rfl
      have a2 : wr.cell? ⟨w.heap.size, 2, none⟩ = some (.int .i64 0) := by rw [cell_of_cells HG.out.b1]; rfl
      have a3 : wr.cell? ⟨w.heap.size, 3, none⟩ = some (.slice none 0 0) := by rw [cell_of_cells HG.out.b1]; rfl
      have af : ∀ o, wr.frozen? ⟨w.heap.size, o, none⟩ = false := frozen_of_cells HG.out.b1
      clear hx
      go_wp2
      have hb := setCell_cells (setCell_cells (setCell_cells (setCell_cells HG.out.b1 0 (.int .i64 x.e)) 1 (.int .i64 x.t)) 2 (.int .i64 x.s)) 3 (.slice va x.ps.length vc)
      have fs := ((((Fr.refl (fun q => q = w.heap.size) wr).setCell (p := ⟨w.heap.size, 0, none⟩) (.inl rfl) (.int .i64 x.e)).setCell (p := ⟨w.heap.size, 1, none⟩) (.inl rfl) (.int .i64 x.t)).setCell (p := ⟨w.heap.size, 2, none⟩) (.inl rfl) (.int .i64 x.s)).setCell (p := ⟨w.heap.size, 3, none⟩) (.inl rfl) (.slice va x.ps.length vc)
      refine bodyPost_ret (results_one rfl _ _ _ 157 _ (0, 0) _ rfl hb Tryz.underlying157 rfl info128) rfl ?_
      rw [HT.out]
      refine ⟨_, rfl, ?_, HG.out.fr.trans fs (fun q hq => .inr (by omega))⟩
      refine fs.ownsRow HG.out.row (fun q hq e => ?_)
      subst e
      have h1 := tag_row HG.out.row hq
      rw [tag_cells HG.out.b1] at h1
      cases h1
end

end Go.Proofs.YtkelpcjiediamaaGreat
