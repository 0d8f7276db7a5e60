/-
  What put does to a log in memory: one entry more.
-/
import Derived.Test.YtkelpcjiediamaaGreatMOpen
import Derived.Deep.RegionLaw
namespace Go.Proofs.YtkelpcjiediamaaGreat
open Go.RowKit Go.Maps
attribute [local go_sem ↓] Go.wp_at_zero Go.wp_at_succ

theorem info69 : (Tryz.prog.info? 55).map (fun i => (i.zero, i.size, i.bytes)) = some (some (.agg #[.int .i64 0, .int .i64 0, .int .i64 0, .string ⟨#[]⟩]), 4, 40) := by kernel_rfl

def LogS.put (s : LogS) (x : Ent) : LogS := { s with es := s.es ++ [x] }

theorem heap_alloc_new2 (w : World) (o o' : Obj) : ((w.alloc o).alloc o').drew.heap[w.heap.size + 1]? = some o' := by
  have := heap_alloc_new (w.alloc o) o'
  rw [show (w.alloc o).heap.size = w.heap.size + 1 by simp] at this
  exact this

theorem frozen_alloc {w : World} {a : Addr} (h : a.block < w.heap.size) (o : Obj) : (w.alloc o).frozen? a = w.frozen? a := World.frozen?_of_block (w := w) (Below.heap_alloc w o a.block h)

theorem Fr.drewEq {S : Nat → Prop} {a w : World} (h : Fr S a w.drew) : Fr S a w := ⟨h.os, h.tape, h.output, h.size, h.block⟩

theorem entCells_snoc (l : List Ent) (x : Ent) : entCells (l ++ [x]) = entCells l ++ x.cs := by simp [entCells]

theorem LogAt.putDone {w W w1 : World} {B lb bm n : Nat} {v v' : Value} {s : LogS} {x : Ent} (h : LogAt w B lb bm v n s) (hW : Fr (fun _ => False) w W) (hg : W.grownBy w1 v.ownBlock)
    (hown : w1.ownsRow B 55 4 v' (s.es.length + 1) (entCells s.es ++ x.cs)) (hat : ∀ k, v'.ownBlock = some k → v.ownBlock = some k ∨ w.heap.size ≤ k) :
    LogAt (w1.setCell ⟨lb, 0, none⟩ v') B lb bm v' n (s.put x) ∧ Fr (fun k => k = lb ∨ v.ownBlock = some k) w (w1.setCell ⟨lb, 0, none⟩ v') := by
  have f1 : Fr (fun k => v.ownBlock = some k) w w1 := (hW.mono (fun _ h => h.elim)).grown hg (fun k e => .inl e)
  have f2 : Fr (fun k => k = lb ∨ v.ownBlock = some k) w (w1.setCell ⟨lb, 0, none⟩ v') := (f1.mono (fun k h => .inl (.inr h))).setCell (.inl (.inl rfl)) _
  have b1 : w1.heap[lb]? = some (.cells #[v, .int .i64 s.d, .map (some bm)] 163 (0, 0)) := (f1.block lb h.lt h.ne_row).trans h.blk
  refine ⟨⟨?_, ?_, ?_, h.hl, h.hm⟩, f2⟩
  · rw [setCell_cells b1]; rfl
  · have hr : Fr (fun k => k = lb) w1 (w1.setCell ⟨lb, 0, none⟩ v') := (Fr.refl (fun k => k = lb) w1).setCell (p := ⟨lb, 0, none⟩) (.inl rfl) _
    have := hr.ownsRow hown (fun k hk e => by
      subst e
      rcases hat _ hk with h1 | h1
      · exact h.ne_row h1
      · have := h.lt; omega)
    simpa [LogS.put, entCells_snoc] using this
  · exact f2.mapFn h.map (fun e => by
      rcases e with e | e
      · exact h.ne e.symm
      · exact h.ne_row_map e)

set_option maxRecDepth 100000 in
set_option maxHeartbeats 1600000 in
theorem put_any {w : World} {B lb bm n : Nat} {v : Value} {s : LogS} (h : LogAt w B lb bm v n s) (x : Ent) (hb : (s.es.length + 1) * 40 ≤ 140737488355328) :
    Calls Tryz.prog 184 #[.pointer (some ⟨lb, 0, none⟩), .agg #[.int .i64 x.k, .int .i64 x.p, .int .i64 x.t, .string x.s]] w fun e w' => e = .returned (.tuple #[]) ∧
      ∃ v', LogAt w' B lb bm v' n (s.put x) ∧ Fr (fun k => k = lb ∨ v.ownBlock = some k) w w' ∧ (∀ k, v'.ownBlock = some k → v.ownBlock = some k ∨ w.heap.size ≤ k) := by
  obtain ⟨xk, xp, xt, xs⟩ := x
  obtain ⟨i0, hi0, hz0, hz1, hz2⟩ := info_parts info69
  have c0 : w.cell? ⟨lb, 0, none⟩ = some v := by rw [cell_of_cells h.blk]; rfl
  have f0 : w.frozen? ⟨lb, 0, none⟩ = false := frozen_of_cells h.blk 0
  have hlt := h.lt
  have hnl := h.ne_row
  have nb := World.new_ne w ⟨lb, 0, none⟩ c0
  have f1 : ∀ o, (w.alloc o).frozen? ⟨lb, 0, none⟩ = false := fun o => (frozen_alloc hlt o).trans f0
  have f2 : ∀ o o', ((w.alloc o).alloc o').frozen? ⟨lb, 0, none⟩ = false := fun o o' => (frozen_alloc (by simp; omega) o').trans (f1 o)
  have H : Hid (LogAt w B lb bm v n s) := h
  have HB : Hid ((s.es.length + 1) * 40 ≤ 140737488355328) := hb
  clear h hb
  go_enter Tryz.func184, Tryz.ntmps184
  go_wp2_with fail
  go_region_law
    ((refine step_append_lies _ (by rfl) _ _ _ (by rfl) B 55 i0 _ 4 40 Tryz.underlying49 hi0 hz0 hz1 hz2 rfl (by omega) v s.es.length (entCells s.es) (by rfl) (((H.out.row.alloc _).alloc _).drew)
        ⟨w.heap.size + 1, 0, none⟩ 1 1 [.int .i64 xk, .int .i64 xp, .int .i64 xt, .string xs] (by rfl) (by rfl) (World.news_of_block (cs := #[.int .i64 xk, .int .i64 xp, .int .i64 xt, .string xs]) (t := 55) (fr := (0, 0)) (heap_alloc_new2 _ _ _)) (by simp [Value.oneCell'])
        (by omega) (by have := HB.out; simp only [maxLen]; omega) HB.out (by have := H.out.hl; simp; omega) (w.heap.size + 2) (by simp) ?_; intro gg cap w1 hown1 hgrow hat hlt; have k0 := (hgrow.cell_far ⟨lb, 0, none⟩ (by simp; omega) (Ne.symm hnl)); have k1 := (hgrow.frozen_far ⟨lb, 0, none⟩ (by simp; omega) (Ne.symm hnl)); simp only [World.cell?_drew, World.frozen?_drew, f2] at k0 k1))
  all_goals
    go_end0
    obtain ⟨r1, r2⟩ := H.out.putDone (x := ⟨xk, xp, xt, xs⟩) (((nofr _).alloc _).drew) hgrow hown1 (fun k hk => by
      simp only [Value.ownBlock, Option.some.injEq] at hk
      subst hk
      rcases hat with h1 | h1
      · exact .inl h1
      · exact .inr (by omega))
    refine ⟨rfl, _, r1, r2, fun k hk => ?_⟩
    simp only [Value.ownBlock, Option.some.injEq] at hk
    subst hk
    rcases hat with h1 | h1
    · exact .inl h1
    · exact .inr (by omega)

end Go.Proofs.YtkelpcjiediamaaGreat

/-
  What Append and Close do to a log in memory.
-/
namespace Go.Proofs.YtkelpcjiediamaaGreat
open Go.RowKit Go.Maps

def LogS.appendCode (s : LogS) (p t : Int) (x : ByteArray) : Int :=
  if s.isOpen p t = false then 11 else if 8 < x.size then 4 else if 200 ≤ s.d then 12 else 0

def LogS.appended (s : LogS) (p t : Int) (x : ByteArray) : LogS :=
  if s.appendCode p t x = 0 then { (s.put ⟨1, p, t, x⟩) with d := s.d + 1 } else s

def LogS.closeKind (c : Bool) : Int := if c then 2 else 3

def LogS.closed (s : LogS) (p t : Int) (c : Bool) : LogS :=
  if s.isOpen p t then (s.put ⟨LogS.closeKind c, p, t, ⟨#[]⟩⟩).set p t false else s

theorem LogAt.setData {w : World} {B lb bm n d : Nat} {v : Value} {s : LogS} (h : LogAt w B lb bm v n s) :
    LogAt (w.setCell ⟨lb, 1, none⟩ (.int .i64 d)) B lb bm v n { s with d := d } ∧ Fr (fun k => k = lb) w (w.setCell ⟨lb, 1, none⟩ (.int .i64 d)) := by
  have hr : Fr (fun k => k = lb) w (w.setCell ⟨lb, 1, none⟩ (.int .i64 d)) := (Fr.refl (fun k => k = lb) w).setCell (p := ⟨lb, 1, none⟩) (.inl rfl) _
  refine ⟨⟨?_, hr.ownsRow h.row (fun k hk e => h.ne_row (by rw [hk, e])), hr.mapFn h.map (fun e => h.ne e.symm), h.hl, h.hm⟩, hr⟩
  rw [setCell_cells h.blk]; rfl

/-- What a call on a log leaves. -/
structure Left (w w' : World) (B lb bm : Nat) (v v' : Value) (n : Nat) (s' : LogS) : Prop where
  log : LogAt w' B lb bm v' n s'
  fr : Fr (fun k => k = lb ∨ k = bm ∨ v.ownBlock = some k) w w'
  lies : ∀ k, v'.ownBlock = some k → v.ownBlock = some k ∨ w.heap.size ≤ k

set_option maxRecDepth 100000 in
set_option maxHeartbeats 800000 in
theorem append_any {w : World} {B lb bm n : Nat} {v : Value} {s : LogS} (h : LogAt w B lb bm v n s) (p t : Int) (x : ByteArray) (hp : (Lit.int .i64 p).wf = true) (hx : x.size ≤ maxLen) (hb : (s.es.length + 1) * 40 ≤ 140737488355328) :
    Calls Tryz.prog 136 #[.pointer (some ⟨lb, 0, none⟩), .int .i64 p, .int .i64 t, .string x] w fun e w' => e = .returned (.int .i64 (s.appendCode p t x)) ∧
      ∃ v', Left w w' B lb bm v v' n (s.appended p t x) := by
  unfold maxLen at hx
  have c1 : w.cell? ⟨lb, 1, none⟩ = some (.int .i64 s.d) := by rw [cell_of_cells h.blk]; rfl
  have H : Hid (LogAt w B lb bm v n s) := h
  have HP : Hid ((Lit.int .i64 p).wf = true) := hp
  have HB : Hid ((s.es.length + 1) * 40 ≤ 140737488355328) := hb
  clear h hp hb
  by_cases ho : s.isOpen p t = true
  · by_cases h8 : 8 < x.size
    · have hc : s.appendCode p t x = 4 := by simp [LogS.appendCode, ho, h8]
      have hs : s.appended p t x = s := by simp [LogS.appended, hc]
      rw [hc, hs]
      clear hc hs
      go_enter Tryz.func136, Tryz.ntmps136
      go_wp2_with (go_at_call 122; refine (isOpen_any H.out _ _ HP.out).mono ?_; rintro e w' ⟨rfl, rfl⟩)
      go_ret
      exact ⟨rfl, v, H.out, Fr.refl _ _, fun k hk => .inl hk⟩
    · by_cases hd : 200 ≤ s.d
      · have hc : s.appendCode p t x = 12 := by simp [LogS.appendCode, ho, h8, hd]
        have hs : s.appended p t x = s := by simp [LogS.appended, hc]
        rw [hc, hs]
        clear hc hs
        go_enter Tryz.func136, Tryz.ntmps136
        go_wp2_with (go_at_call 122; refine (isOpen_any H.out _ _ HP.out).mono ?_; rintro e w' ⟨rfl, rfl⟩)
        go_ret
        exact ⟨rfl, v, H.out, Fr.refl _ _, fun k hk => .inl hk⟩
      · have hc : s.appendCode p t x = 0 := by simp [LogS.appendCode, ho, h8, hd]
        have hs : s.appended p t x = { (s.put ⟨1, p, t, x⟩) with d := s.d + 1 } := by simp [LogS.appended, hc]
        rw [hc, hs]
        clear hc hs
        go_enter Tryz.func136, Tryz.ntmps136
        go_wp2_with (first
          | (go_at_call 122; refine (isOpen_any H.out _ _ HP.out).mono ?_; rintro e w' ⟨rfl, rfl⟩)
          | (go_at_call 184; refine (put_any H.out ⟨1, p, t, x⟩ HB.out).mono ?_; rintro e w1 ⟨rfl, v', hl1, hf1, hv1⟩
             have k1 : w1.cell? ⟨lb, 1, none⟩ = some (.int .i64 s.d) := by rw [cell_of_cells hl1.blk]; rfl
             have k2 : w1.frozen? ⟨lb, 1, none⟩ = false := frozen_of_cells hl1.blk 1))
        go_ret
        obtain ⟨r1, r2⟩ := hl1.setData (d := s.d + 1)
        refine ⟨rfl, v', r1, ?_, hv1⟩
        exact (hf1.mono (fun k hk => .inl (by rcases hk with e | e; exact .inl e; exact .inr (.inr e)))).trans r2 (fun k hk => .inl (.inl hk))
  · have hc : s.appendCode p t x = 11 := by simp [LogS.appendCode, ho]
    have hs : s.appended p t x = s := by simp [LogS.appended, hc]
    rw [hc, hs]
    have ho' : s.isOpen p t = false := by simpa using ho
    clear hc hs ho
    go_enter Tryz.func136, Tryz.ntmps136
    go_wp2_with (go_at_call 122; refine (isOpen_any H.out _ _ HP.out).mono ?_; rintro e w' ⟨rfl, rfl⟩)
    go_ret
    exact ⟨rfl, v, H.out, Fr.refl _ _, fun k hk => .inl hk⟩

end Go.Proofs.YtkelpcjiediamaaGreat

/-
  What Close does to a log in memory.
-/
namespace Go.Proofs.YtkelpcjiediamaaGreat
open Go.RowKit Go.Maps

end Go.Proofs.YtkelpcjiediamaaGreat

/-
  What Stable tells of a log in memory.
-/
namespace Go.Proofs.YtkelpcjiediamaaGreat
open Go.RowKit Go.Maps

theorem length_entCells (l : List Ent) : (entCells l).length = 4 * l.length := by
  induction l with
  | nil => rfl
  | cons x r ih => simp only [entCells, List.flatMap_cons, List.length_append] at ih ⊢; rw [ih]; simp [Ent.cs]; omega

theorem entCells_get : ∀ (l : List Ent) (k : Nat) (e : Ent) (j : Nat), l[k]? = some e → j < 4 → (entCells l)[k * 4 + j]? = e.cs[j]?
  | [], k, e, j, h, _ => by simp at h
  | x :: r, 0, e, j, h, hj => by
    simp only [List.getElem?_cons_zero, Option.some.injEq] at h
    subst h
    simp only [entCells, List.flatMap_cons]
    rw [List.getElem?_append_left (by simp [Ent.cs]; omega)]
    simp
  | x :: r, k + 1, e, j, h, hj => by
    simp only [List.getElem?_cons_succ] at h
    have := entCells_get r k e j h hj
    simp only [entCells, List.flatMap_cons] at this ⊢
    rw [List.getElem?_append_right (by simp [Ent.cs]; omega), ← this]
    congr 1
    simp [Ent.cs]; omega

/-- The four cells of the k-th entry. -/
theorem row_cells {w : World} {B g n cap : Nat} {es : List Ent} (h : w.ownsRow B 55 4 (.slice (some ⟨g, 0, none⟩) n cap) es.length (entCells es)) {k : Nat} {e : Ent} (hk : es[k]? = some e) :
    w.cell? ⟨g, k * 4, none⟩ = some (.int .i64 e.k) ∧ w.cell? ⟨g, k * 4 + 1, none⟩ = some (.int .i64 e.p) ∧ w.cell? ⟨g, k * 4 + 2, none⟩ = some (.int .i64 e.t) ∧ w.cell? ⟨g, k * 4 + 3, none⟩ = some (.string e.s) := by
  have hc := h.cells (g := g) rfl
  have key : ∀ j u, j < 4 → e.cs[j]? = some u → w.cell? ⟨g, k * 4 + j, none⟩ = some u := fun j u hj hu => by
    have := hc (k * 4 + j) u ((entCells_get es k e j hk hj).trans hu)
    rw [Addr.add_lit] at this
    simpa using this
  exact ⟨key 0 _ (by omega) rfl, key 1 _ (by omega) rfl, key 2 _ (by omega) rfl, key 3 _ (by omega) rfl⟩

/-- What a slice that owns entries looks like. -/
theorem row_form {w : World} {B : Nat} {v : Value} {es : List Ent} (h : w.ownsRow B 55 4 v es.length (entCells es)) :
    (v = .slice none 0 0 ∧ es = []) ∨ ∃ g cap, v = .slice (some ⟨g, 0, none⟩) es.length cap ∧ es.length ≤ cap ∧ cap ≤ maxLen ∧ B ≤ g ∧ g < w.heap.size := by
  rcases h.2 with ⟨hv, h0⟩ | ⟨g, cap, cur, hv, hb, hg, h1, h2, _⟩
  · exact .inl ⟨hv, List.eq_nil_of_length_eq_zero h0⟩
  · exact .inr ⟨g, cap, hv, h1, h2, hb, lt_of_block hg⟩

def LogS.blocked (s : LogS) (e : Ent) : Bool := decide (e.k = 1) && s.isOpen e.p e.t
def LogS.stable (s : LogS) : Nat := s.es.findIdx s.blocked

def LogS.Wf (s : LogS) : Prop := ∀ e ∈ s.es, (Lit.int .i64 e.p).wf = true ∧ (Lit.int .i64 e.t).wf = true

theorem findIdx_at {α : Type} (p : α → Bool) : ∀ (l : List α) (k : Nat) (e : α), (∀ j x, j < k → l[j]? = some x → p x = false) → l[k]? = some e → p e = true → l.findIdx p = k
  | [], k, e, _, h, _ => by simp at h
  | x :: r, 0, e, _, h, hp => by
    simp only [List.getElem?_cons_zero, Option.some.injEq] at h
    subst h
    simp [List.findIdx_cons, hp]
  | x :: r, k + 1, e, ha, h, hp => by
    have h0 := ha 0 x (by omega) (by simp)
    have := findIdx_at p r k e (fun j y hj hy => ha (j + 1) y (by omega) (by simpa using hy)) (by simpa using h) hp
    simp [List.findIdx_cons, h0, this]

theorem findIdx_none {α : Type} (p : α → Bool) (l : List α) (ha : ∀ (j : Nat) x, l[j]? = some x → p x = false) : l.findIdx p = l.length := by
  apply List.findIdx_eq_length.2
  intro x hx
  obtain ⟨j, hj, rfl⟩ := List.getElem_of_mem hx
  exact ha j _ (List.getElem?_eq_getElem hj)

set_option maxRecDepth 100000 in
set_option maxHeartbeats 800000 in
theorem stable_any {w : World} {B lb bm n : Nat} {v : Value} {s : LogS} (h : LogAt w B lb bm v n s) (hwf : s.Wf) :
    Calls Tryz.prog 59 #[.pointer (some ⟨lb, 0, none⟩)] w fun e w' => e = .returned (.int .i64 s.stable) ∧ Fr (fun _ => False) w w' := by
  have c0 : w.cell? ⟨lb, 0, none⟩ = some v := by rw [cell_of_cells h.blk]; rfl
  have hlt := h.lt
  rcases row_form h.row with ⟨rfl, he⟩ | ⟨g, cap, rfl, hlc, hcm, hBg, hg⟩
  · have hs : s.stable = 0 := by simp [LogS.stable, he]
    rw [hs]
    clear h hwf hs he
    go_enter Tryz.func59, Tryz.ntmps59
    go_wp2_with fail
    go_loopw [10] (fun i w' => i = .int .i64 0 ∧ w' = w) (fun _ _ => 0)
    case atStart => exact ⟨rfl, rfl⟩
    case round =>
      obtain ⟨rfl, rfl⟩ := hrel
      go_wp2
      go_ret
      exact ⟨rfl, Fr.refl _ _⟩
  · unfold maxLen at hcm
    have H : Hid (LogAt w B lb bm (.slice (some ⟨g, 0, none⟩) s.es.length cap) n s) := h
    have HW : Hid s.Wf := hwf
    clear h hwf
    go_enter Tryz.func59, Tryz.ntmps59
    go_wp2_with fail
    go_loopw [10] (fun i w' => ∃ k : Nat, k ≤ s.es.length ∧ i = .int .i64 k ∧ Fr (fun _ => False) w w' ∧ ∀ j x, j < k → s.es[j]? = some x → s.blocked x = false) (fun i _ => s.es.length - (intOf i).toNat)
    case atStart => exact ⟨0, Nat.zero_le _, rfl, Fr.refl _ _, fun j x hj => by omega⟩
    case round =>
      obtain ⟨k, hk, rfl, hfr, hall⟩ := hrel
      have HL : Hid (LogAt wr B lb bm (.slice (some ⟨g, 0, none⟩) s.es.length cap) n s) := hfr.logAt H.out id id (fun _ _ => id)
      have k0 : wr.cell? ⟨lb, 0, none⟩ = some (.slice (some ⟨g, 0, none⟩) s.es.length cap) := by rw [cell_of_cells HL.out.blk]; rfl
      have hsz := hfr.size
      have HF : Hid (Fr (fun _ => False) w wr) := hfr
      have HA : Hid (∀ j x, j < k → s.es[j]? = some x → s.blocked x = false) := hall
      clear hfr hall
      by_cases hlt2 : k < s.es.length
      · obtain ⟨e, he⟩ : ∃ e, s.es[k]? = some e := ⟨_, List.getElem?_eq_getElem hlt2⟩
        obtain ⟨r0, r1, r2, r3⟩ := row_cells HL.out.row he
        have HW1 : Hid ((Lit.int .i64 e.p).wf = true) := (HW.out e (List.mem_of_getElem? he)).1
        have HE : Hid (s.es[k]? = some e) := he
        have hnew : ∀ o : Obj, (wr.alloc o).heap.size = wr.heap.size + 1 := fun o => by simp
        clear he
        by_cases h1 : e.k = 1
        · by_cases ho : s.isOpen e.p e.t = true
          · have HS : Hid (s.stable = k) := findIdx_at _ _ k e HA.out HE.out (by simp [LogS.blocked, h1, ho])
            go_wp2_with (go_at_call 122; refine (isOpen_any (by exact (nofr _).logAt HL.out id id (fun _ _ => id)) _ _ HW1.out).mono ?_; rintro e w' ⟨rfl, rfl⟩)
            go_ret
            exact ⟨by rw [HS.out] <;> rfl, HF.out.alloc _⟩
          · have hb : s.blocked e = false := by simp [LogS.blocked, ho]
            have ho' : s.isOpen e.p e.t = false := by simpa using ho
            have HA2 : Hid (∀ j x, j < k + 1 → s.es[j]? = some x → s.blocked x = false) := fun j x hj hx => by
              by_cases ej : j = k
              · subst ej
                have := HE.out.symm.trans hx
                cases this
                exact hb
              · exact HA.out j x (by omega) hx
            clear hb ho
            go_wp2_with (go_at_call 122; refine (isOpen_any (by exact (nofr _).logAt HL.out id id (fun _ _ => id)) _ _ HW1.out).mono ?_; rintro e w' ⟨rfl, rfl⟩)
            go_roundw
            case rel => exact ⟨k + 1, by omega, by go_num, HF.out.alloc _, HA2.out⟩
            case measure => simp [intOf]; omega
        · have hb : s.blocked e = false := by simp [LogS.blocked, h1]
          have h1' : (e.k == 1) = false := by simpa using h1
          have HA2 : Hid (∀ j x, j < k + 1 → s.es[j]? = some x → s.blocked x = false) := fun j x hj hx => by
              by_cases ej : j = k
              · subst ej
                have := HE.out.symm.trans hx
                cases this
                exact hb
              · exact HA.out j x (by omega) hx
          clear hb
          go_wp2
          go_roundw
          case rel => exact ⟨k + 1, by omega, by go_num, HF.out.alloc _, HA2.out⟩
          case measure => simp [intOf]; omega
      · have HS : Hid (s.stable = s.es.length) := findIdx_none _ _ (fun j x hx => HA.out j x (by have := (List.getElem?_eq_some_iff.1 hx).1; omega) hx)
        go_wp2
        go_ret
        exact ⟨by rw [HS.out] <;> rfl, HF.out⟩

end Go.Proofs.YtkelpcjiediamaaGreat

/-
  What Entries tells of a log in memory.
-/
namespace Go.Proofs.YtkelpcjiediamaaGreat
open Go.RowKit Go.Maps

theorem entCells_one (l : List Ent) : ∀ u ∈ entCells l, u.oneCell' = true := by
  intro u hu
  simp only [entCells, List.mem_flatMap] at hu
  obtain ⟨e, _, he⟩ := hu
  simp only [Ent.cs, List.mem_cons, List.not_mem_nil, or_false] at he
  rcases he with rfl | rfl | rfl | rfl <;> rfl

set_option maxRecDepth 100000 in
set_option maxHeartbeats 800000 in
theorem clone_any {w : World} {B : Nat} {v : Value} {es : List Ent} (h : w.ownsRow B 55 4 v es.length (entCells es)) (hb : es.length * 40 ≤ 140737488355328) :
    Calls Tryz.prog 110 #[v] w fun e w' => ∃ v', e = .returned v' ∧ w'.ownsRow w.heap.size 55 4 v' es.length (entCells es) ∧ Fr (fun _ => False) w w' := by
  obtain ⟨i0, hi0, hz0, hz1, hz2⟩ := info_parts info69
  have hnil : ∀ (wx : World) (a : Option Addr) (n c : Nat), (binOp .eql 49 (.slice a n c) (.slice none 0 0)).run Tryz.prog wx = .ok (.bool a.isNone) wx := fun wx a n c => Lib.run_eql_slice_nil wx 49 55 a n c 0 0 Tryz.underlying49
  rcases row_form h with ⟨rfl, he⟩ | ⟨g, cap, rfl, hlc, hcm, hBg, hg⟩
  · subst he
    clear h hb
    go_enter Tryz.func110, Tryz.ntmps110
    go_wp2
    go_ret
    exact ⟨_, rfl, World.ownsRow_nil _ _ _ _, Fr.refl _ _⟩
  · have H : Hid (w.ownsRow B 55 4 (.slice (some ⟨g, 0, none⟩) es.length cap) es.length (entCells es)) := h
    have HB : Hid (es.length * 40 ≤ 140737488355328) := hb
    have HM : Hid (es.length ≤ maxLen) := Nat.le_trans hlc hcm
    clear h hb hcm
    go_enter Tryz.func110, Tryz.ntmps110
    go_wp2_with (at_builtin; refine wpList_append_own_at _ rfl _ _ 49 rfl w.heap.size 55 i0 _ 4 40 Tryz.underlying49 hi0 hz0 hz1 hz2 rfl (by decide) _ 0 [] rfl (by exact World.ownsRow_made w #[] 0 (Nat.le_refl _) (Nat.zero_le _) rfl) ⟨g, 0, none⟩ es.length cap (entCells es) rfl (by rw [length_entCells, Nat.mul_comm]) (by exact (H.out.alloc _).cells rfl) (entCells_one es) (by simpa using HM.out) (by simpa using HB.out) (by simp) ?_; intro v' w1 hown1 hgrow1 hnil1 hlies1)
    go_ret
    simp only [Nat.zero_add, List.nil_append] at hown1
    exact ⟨_, rfl, hown1, (nofr _).grown hgrow1 (fun k e => by cases e; exact .inr (Nat.le_refl _))⟩

set_option maxRecDepth 100000 in
set_option maxHeartbeats 800000 in
theorem entries_any {w : World} {B lb bm n : Nat} {v : Value} {s : LogS} (h : LogAt w B lb bm v n s) (hb : s.es.length * 40 ≤ 140737488355328) :
    Calls Tryz.prog 51 #[.pointer (some ⟨lb, 0, none⟩)] w fun e w' => ∃ v', e = .returned v' ∧ w'.ownsRow w.heap.size 55 4 v' s.es.length (entCells s.es) ∧ Fr (fun _ => False) w w' := by
  have c0 : w.cell? ⟨lb, 0, none⟩ = some v := by rw [cell_of_cells h.blk]; rfl
  have H : Hid (LogAt w B lb bm v n s) := h
  have HB : Hid (s.es.length * 40 ≤ 140737488355328) := hb
  clear h hb
  go_enter Tryz.func51, Tryz.ntmps51
  go_wp2_with (go_at_call 110; refine (clone_any H.out.row HB.out).mono ?_; rintro e w1 ⟨v', rfl, ho1, hf1⟩)
  go_ret
  exact ⟨_, rfl, ho1, hf1⟩

end Go.Proofs.YtkelpcjiediamaaGreat

/-
  What ends tells of a log in memory: a new map from transactions to the kinds that closed them.
-/
namespace Go.Proofs.YtkelpcjiediamaaGreat
open Go.RowKit Go.Maps

def fate (es : List Ent) (p t : Int) : Option Int := es.foldl (fun o e => if e.k ≠ 1 ∧ e.p = p ∧ e.t = t then some e.k else o) none

theorem fate_snoc (es : List Ent) (x : Ent) (p t : Int) : fate (es ++ [x]) p t = if x.k ≠ 1 ∧ x.p = p ∧ x.t = t then some x.k else fate es p t := by
  simp [fate, List.foldl_append]

def endsFn (es : List Ent) : Value → Option Value
  | .agg cs => match cs.toList with
    | [.int .i64 p, .int .i64 t] => (fate es p t).map (Value.int .i64)
    | _ => none
  | _ => none

theorem endsFn_at (es : List Ent) (p t : Int) : endsFn es (.agg #[.int .i64 p, .int .i64 t]) = (fate es p t).map (Value.int .i64) := rfl

theorem endsFn_same (es : List Ent) (x : Ent) (h : x.k = 1) : endsFn (es ++ [x]) = endsFn es := by
  funext v
  unfold endsFn
  split
  · split
    · rw [fate_snoc, if_neg (by simp [h])]
    · rfl
  · rfl

theorem endsFn_hit (es : List Ent) (x : Ent) (h : x.k ≠ 1) : endsFn (es ++ [x]) (.agg #[.int .i64 x.p, .int .i64 x.t]) = some (.int .i64 x.k) := by
  rw [endsFn_at, fate_snoc, if_pos ⟨h, rfl, rfl⟩]; rfl

theorem endsFn_miss (es : List Ent) (x : Ent) (v : Value) (hv : v ≠ .agg #[.int .i64 x.p, .int .i64 x.t]) : endsFn (es ++ [x]) v = endsFn es v := by
  unfold endsFn
  split
  · split
    · rename_i cs _ p t hcs
      rw [fate_snoc, if_neg]
      rintro ⟨_, rfl, rfl⟩
      exact hv (by rw [show cs = #[.int .i64 x.p, .int .i64 x.t] from by rw [← Array.toList_inj, hcs]])
    · rfl
  · rfl

theorem laidOut : laidOutB Tryz.prog = true := by kernel_rfl
theorem row82 : (231 : TypeId) < Tryz.prog.types.size := of_decide_eq_true (by kernel_rfl)
theorem size82 : Tryz.prog.types.size = 282 := by kernel_rfl
theorem cells3 : Tryz.prog.cellsOf 3 = 1 := by kernel_rfl
theorem cells82 : Tryz.prog.cellsOf 231 = 2 := by kernel_rfl
theorem wide82 : (match Tryz.prog.underlying 231 with | some (.array _ _) | some (.struct _) => true | _ => false) = true := by rw [Tryz.underlying231]
theorem deep82 : Tryz.prog.keyTypeAt 3 231 = true := by kernel_rfl
set_option maxRecDepth 100000 in
theorem law82 : Keyed Tryz.prog 231 := Keyed.of_law (deep_law_laid (P := Tryz.prog) laidOut (m := 3) (by decide) (k := 231) row82 deep82 wide82)
theorem zero3 (w : World) : (zeroValue 3).run Tryz.prog w = .ok (.int .i64 0) w := by kernel_rfl
theorem key82type : Tryz.prog.keyType 231 = true := by kernel_rfl

theorem lits82 (d : Nat) {p t : Int} (hp : (Lit.int .i64 p).wf = true) (ht : (Lit.int .i64 t).wf = true) : Tryz.prog.keyLits (d + 2) 231 [.int .i64 p, .int .i64 t] = some [.int .i64 p, .int .i64 t] := by
  simp [Program.keyLits, Tryz.underlying231, cells3, cells82, Tryz.underlying3, hp, ht]

theorem key82 {p t : Int} (hp : (Lit.int .i64 p).wf = true) (ht : (Lit.int .i64 t).wf = true) : ∃ kl, keyOf Tryz.prog 231 (.agg #[.int .i64 p, .int .i64 t]) = some kl := by
  have hf : (Value.agg #[.int .i64 p, .int .i64 t]).formed Tryz.prog 231 = true := by
    simp [Value.formed, Tryz.underlying231, cells82]
  have hl := lits82 281 hp ht
  unfold keyOf
  rw [Tryz.underlying231, key82type, hf, size82]
  exact ⟨_, by
    simp only [Bool.and_self, if_true]
    rw [show (Value.agg #[.int .i64 p, .int .i64 t]).cells.toList = [.int .i64 p, .int .i64 t] from rfl, hl]
    rfl⟩

set_option maxRecDepth 100000 in
set_option maxHeartbeats 800000 in
theorem ends_any {w : World} {B lb bm n : Nat} {v : Value} {s : LogS} (h : LogAt w B lb bm v n s) (hwf : s.Wf) :
    Calls Tryz.prog 174 #[.pointer (some ⟨lb, 0, none⟩)] w fun e w' => e = .returned (.map (some w.heap.size)) ∧ MapFn w' Tryz.prog 231 w.heap.size s.es.length (endsFn s.es) ∧ Fr (fun _ => False) w w' := by
  have c0 : w.cell? ⟨lb, 0, none⟩ = some v := by rw [cell_of_cells h.blk]; rfl
  have hlt := h.lt
  have hmm := @run_makeMap Tryz.prog
  have nb := World.new_ne w ⟨lb, 0, none⟩ c0
  have HM0 : Hid (MapFn (w.alloc (.map #[] 0)) Tryz.prog 231 w.heap.size 0 (endsFn [])) := (MapFn.made w Tryz.prog 231).congr (fun key kl _ => by
    unfold endsFn
    split
    · split <;> rfl
    · rfl)
  rcases row_form h.row with ⟨rfl, he⟩ | ⟨g, cap, rfl, hlc, hcm, hBg, hg⟩
  · rw [he]
    clear h hwf he
    go_enter Tryz.func174, Tryz.ntmps174
    go_wp2_with fail
    go_loopw [12] (fun i w' => i = .int .i64 0 ∧ w' = w.alloc (.map #[] 0)) (fun _ _ => 0)
    case atStart => exact ⟨rfl, rfl⟩
    case round =>
      obtain ⟨rfl, rfl⟩ := hrel
      go_wp2
      go_ret
      exact ⟨rfl, HM0.out, nofr _⟩
  · have HC : Hid (cap ≤ maxLen) := hcm
    unfold maxLen at hcm
    have H : Hid (LogAt w B lb bm (.slice (some ⟨g, 0, none⟩) s.es.length cap) n s) := h
    have HW : Hid s.Wf := hwf
    clear h hwf
    go_enter Tryz.func174, Tryz.ntmps174
    go_wp2_with fail
    go_loopw [12] (fun i w' => ∃ k : Nat, k ≤ s.es.length ∧ i = .int .i64 k ∧ Fr (fun _ => False) w w' ∧ MapFn w' Tryz.prog 231 w.heap.size k (endsFn (s.es.take k))) (fun i _ => s.es.length - (intOf i).toNat)
    case atStart => exact ⟨0, Nat.zero_le _, rfl, nofr _, by simpa using HM0.out⟩
    case round =>
      obtain ⟨k, hk, rfl, hfr, hmap⟩ := hrel
      have HL : Hid (LogAt wr B lb bm (.slice (some ⟨g, 0, none⟩) s.es.length cap) n s) := hfr.logAt H.out id id (fun _ _ => id)
      have k0 : wr.cell? ⟨lb, 0, none⟩ = some (.slice (some ⟨g, 0, none⟩) s.es.length cap) := by rw [cell_of_cells HL.out.blk]; rfl
      have hsz := hfr.size
      have HF : Hid (Fr (fun _ => False) w wr) := hfr
      have HM : Hid (MapFn wr Tryz.prog 231 w.heap.size k (endsFn (s.es.take k))) := hmap
      clear hfr hmap
      by_cases hlt2 : k < s.es.length
      · obtain ⟨e, he⟩ : ∃ e, s.es[k]? = some e := ⟨_, List.getElem?_eq_getElem hlt2⟩
        obtain ⟨r0, r1, r2, r3⟩ := row_cells HL.out.row he
        have HT : Hid (s.es.take (k + 1) = s.es.take k ++ [e]) := by
          show s.es.take (k + 1) = s.es.take k ++ [e]
          rw [List.take_add_one, he]; rfl
        obtain ⟨kl, hkl⟩ := key82 (HW.out e (List.mem_of_getElem? he)).1 (HW.out e (List.mem_of_getElem? he)).2
        have HK : Hid (keyOf Tryz.prog 231 (.agg #[.int .i64 e.p, .int .i64 e.t]) = some kl) := hkl
        clear he hkl
        by_cases h1 : e.k = 1
        · have HM2 : Hid (MapFn wr Tryz.prog 231 w.heap.size (k + 1) (endsFn (s.es.take (k + 1)))) := by
            show MapFn wr Tryz.prog 231 w.heap.size (k + 1) (endsFn (s.es.take (k + 1)))
            rw [HT.out, endsFn_same _ _ h1]
            exact HM.out.mono (by omega)
          go_wp2
          go_roundw
          case rel => exact ⟨k + 1, by omega, by go_num, HF.out.alloc _, (nofr _).mapFn HM2.out id⟩
          case measure => simp [intOf]; omega
        · have h1' : (e.k == 1) = false := by simpa using h1
          have HN : Hid (k < maxLen) := Nat.lt_of_lt_of_le hlt2 (Nat.le_trans hlc HC.out)
          go_wp2_with (at_mapUpdate; refine wpList_store_fn _ rfl _ _ _ 228 rfl 231 3 law82 Tryz.underlying228 w.heap.size k (endsFn (s.es.take k)) rfl (by exact (nofr _).mapFn HM.out id) HN.out _ _ kl rfl rfl HK.out (endsFn (s.es.take k ++ [e])) (endsFn_hit _ _ h1) (endsFn_miss _ _) ?_; intro w2 hm2 ht2)
          go_roundw
          case rel => exact ⟨k + 1, by omega, by go_num, (HF.out.alloc _).turned ht2 (.inr (Nat.le_refl _)), by rw [HT.out]; exact hm2⟩
          case measure => simp [intOf]; omega
      · have HT : Hid (s.es.take k = s.es) := List.take_of_length_le (by omega)
        have HK : Hid (k = s.es.length) := by show k = s.es.length; omega
        go_wp2
        go_ret
        exact ⟨rfl, by have := HM.out; rw [HT.out, HK.out] at this; exact this, HF.out⟩

end Go.Proofs.YtkelpcjiediamaaGreat
