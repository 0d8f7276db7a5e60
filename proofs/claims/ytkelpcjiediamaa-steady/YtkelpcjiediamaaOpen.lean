/-
  What Open does to a log in memory.
-/
import Derived.Test.YtkelpcjiediamaaLog
namespace Go.Proofs.Ytkelpcjiediamaa
open Go.RowKit Go.Maps

def LogS.canOpen (s : LogS) (p t : Int) : Bool :=
  match s.nw p with
  | none => true
  | some (t', o) => !o && decide (t' < t)

def LogS.set (s : LogS) (p t : Int) (o : Bool) : LogS := { s with nw := fun q => if q = p then some (t, o) else s.nw q }

def LogS.opened (s : LogS) (p t : Int) : LogS := if s.canOpen p t then s.set p t true else s

theorem nwFn_set1 (nw : Int → Option (Int × Bool)) (p t : Int) (o : Bool) : nwFn (fun q => if q = p then some (t, o) else nw q) (.int .i64 p) = some (.agg #[.int .i64 t, .bool o]) := by simp [nwFn]
theorem nwFn_set2 (nw : Int → Option (Int × Bool)) (p t : Int) (o : Bool) (x : Value) (hx : x ≠ .int .i64 p) : nwFn (fun q => if q = p then some (t, o) else nw q) x = nwFn nw x := by
  unfold nwFn
  split
  · rename_i q
    have : q ≠ p := fun e => hx (by rw [e])
    simp [this]
  · rfl

theorem Fr.turned {S : Nat → Prop} {a w w2 : World} {b : Nat} (h : Fr S a w) (ht : w.mapTurned w2 b) (hb : S b ∨ a.heap.size ≤ b) : Fr S a w2 :=
  h.grown ht.grown (fun k e => by cases e; exact hb)

theorem LogAt.lt {w : World} {B lb bm n : Nat} {v : Value} {s : LogS} (h : LogAt w B lb bm v n s) : lb < w.heap.size := lt_of_block h.blk

theorem LogAt.ne {w : World} {B lb bm n : Nat} {v : Value} {s : LogS} (h : LogAt w B lb bm v n s) : lb ≠ bm := by
  intro e
  obtain ⟨D, ⟨es, clock, hb, _⟩, _⟩ := h.map
  have h1 := h.blk
  rw [e, hb] at h1
  cases h1

theorem LogAt.ne_row {w : World} {B lb bm n : Nat} {v : Value} {s : LogS} (h : LogAt w B lb bm v n s) : v.ownBlock ≠ some lb := by
  intro e
  rcases h.row.2 with ⟨rfl, _⟩ | ⟨g, cap, cur, rfl, _, hg, _⟩
  · simp [Value.ownBlock] at e
  · simp [Value.ownBlock] at e
    have h1 := h.blk
    rw [← e, hg] at h1
    cases h1

theorem LogAt.ne_row_map {w : World} {B lb bm n : Nat} {v : Value} {s : LogS} (h : LogAt w B lb bm v n s) : v.ownBlock ≠ some bm := by
  intro e
  obtain ⟨D, ⟨es, clock, hb, _⟩, _⟩ := h.map
  rcases h.row.2 with ⟨rfl, _⟩ | ⟨g, cap, cur, rfl, _, hg, _⟩
  · simp [Value.ownBlock] at e
  · simp [Value.ownBlock] at e
    rw [← e, hg] at hb
    cases hb

/-- A log is as it was while nothing of it is written. -/
theorem Fr.logAt {S : Nat → Prop} {w w2 : World} (f : Fr S w w2) {B lb bm n : Nat} {v : Value} {s : LogS} (h : LogAt w B lb bm v n s) (h1 : ¬ S lb) (h2 : ¬ S bm) (h3 : ∀ k, v.ownBlock = some k → ¬ S k) : LogAt w2 B lb bm v n s :=
  ⟨(f.block lb h.lt h1).trans h.blk, f.ownsRow h.row h3, f.mapFn h.map h2, h.hl, h.hm⟩

theorem LogAt.mono {w : World} {B lb bm n : Nat} {v : Value} {s : LogS} (h : LogAt w B lb bm v n s) {m : Nat} (hm : n ≤ m) : LogAt w B lb bm v m s :=
  ⟨h.blk, h.row, h.map.mono hm, h.hl, h.hm⟩

/-- Only the map has turned. -/
theorem LogAt.mapSet {w w2 : World} {B lb bm n : Nat} {v : Value} {s : LogS} {p t : Int} {o : Bool} (h : LogAt w B lb bm v n s) (f : Fr (fun k => k = bm) w w2) (hm : MapFn w2 Try.prog 3 bm (n + 1) (nwFn (s.set p t o).nw)) :
    LogAt w2 B lb bm v (n + 1) (s.set p t o) :=
  ⟨(f.block lb h.lt h.ne).trans h.blk, f.ownsRow h.row (fun k hk e => h.ne_row_map (by rw [hk, e])), hm, h.hl, h.hm⟩

theorem nofr {w : World} (o : Obj) : Fr (fun _ => False) w (w.alloc o) := (Fr.refl _ _).alloc _

set_option maxRecDepth 20000 in
set_option maxHeartbeats 400000 in
theorem open_any {w : World} {B lb bm n : Nat} {v : Value} {s : LogS} (h : LogAt w B lb bm v n s) (p t : Int) (hp : (Lit.int .i64 p).wf = true) (hn : n < maxLen) :
    Calls Try.prog 9 #[.pointer (some ⟨lb, 0, none⟩), .int .i64 p, .int .i64 t] w fun e w' => e = .returned (.bool (s.canOpen p t)) ∧ LogAt w' B lb bm v (n + 1) (s.opened p t) ∧ Fr (fun k => k = bm) w w' := by
  have c2 : w.cell? ⟨lb, 2, none⟩ = some (.map (some bm)) := by rw [cell_of_cells h.blk]; rfl
  have hkey := keyOf_int_mk Try.underlying3 hp
  have hlk := h.map.look_ok law3 Try.underlying54 (zero75 w) hkey
  have hlt := h.lt
  have c3 := World.new_ne w ⟨lb, 2, none⟩ c2
  have H : Hid (LogAt w B lb bm v n s) := h
  have HN : Hid (n < maxLen) := hn
  have HK : Hid (keyOf Try.prog 3 (.int .i64 p) = some (.int .i64 p)) := hkey
  rcases hx : s.nw p with _ | ⟨t', o⟩
  · rw [show nwFn s.nw (.int .i64 p) = none by simp [nwFn, hx]] at hlk
    simp only [Option.getD_none, Option.isSome_none] at hlk
    have hc : s.canOpen p t = true := by simp [LogS.canOpen, hx]
    rw [show s.opened p t = s.set p t true by simp [LogS.opened, hc], hc]
    clear h hx hc hp hn hkey
    go_enter Try.func9, Try.ntmps9
    go_wp2_with (at_mapUpdate; refine wpList_store_fn _ rfl _ _ _ 54 rfl 3 75 law3 Try.underlying54 bm n (nwFn s.nw) rfl (by exact (nofr _).mapFn H.out.map id) HN.out _ _ _ rfl rfl HK.out (nwFn (s.set p t true).nw) (nwFn_set1 _ _ _ _) (nwFn_set2 _ _ _ _) ?_; intro w1 hm1 ht1)
    go_ret
    have hf : Fr (fun k => k = bm) w w1 := ((Fr.refl _ _).alloc _).turned ht1 (.inl rfl)
    exact ⟨rfl, H.out.mapSet hf hm1, hf⟩
  · rw [show nwFn s.nw (.int .i64 p) = some (.agg #[.int .i64 t', .bool o]) by simp [nwFn, hx]] at hlk
    simp only [Option.getD_some, Option.isSome_some] at hlk
    cases o
    · by_cases hlt2 : t' < t
      · have hc : s.canOpen p t = true := by simp [LogS.canOpen, hx, hlt2]
        rw [show s.opened p t = s.set p t true by simp [LogS.opened, hc], hc]
        have hge : ¬ (t ≤ t') := by omega
        clear h hx hc hp hn hkey
        go_enter Try.func9, Try.ntmps9
        go_wp2_with (at_mapUpdate; refine wpList_store_fn _ rfl _ _ _ 54 rfl 3 75 law3 Try.underlying54 bm n (nwFn s.nw) rfl (by exact (nofr _).mapFn H.out.map id) HN.out _ _ _ rfl rfl HK.out (nwFn (s.set p t true).nw) (nwFn_set1 _ _ _ _) (nwFn_set2 _ _ _ _) ?_; intro w1 hm1 ht1)
        go_ret
        have hf : Fr (fun k => k = bm) w w1 := ((Fr.refl _ _).alloc _).turned ht1 (.inl rfl)
        exact ⟨rfl, H.out.mapSet hf hm1, hf⟩
      · have hc : s.canOpen p t = false := by simp [LogS.canOpen, hx, hlt2]
        rw [show s.opened p t = s by simp [LogS.opened, hc], hc]
        have hge : t ≤ t' := by omega
        clear h hx hc hp hn hkey hlt2
        go_enter Try.func9, Try.ntmps9
        go_wp2
        go_ret
        exact ⟨rfl, (nofr _).logAt (H.out.mono (by omega)) id id (fun _ _ => id), (Fr.refl _ _).alloc _⟩
    · have hc : s.canOpen p t = false := by simp [LogS.canOpen, hx]
      rw [show s.opened p t = s by simp [LogS.opened, hc], hc]
      clear h hx hc hp hn hkey
      go_enter Try.func9, Try.ntmps9
      go_wp2
      go_ret
      exact ⟨rfl, (nofr _).logAt (H.out.mono (by omega)) id id (fun _ _ => id), (Fr.refl _ _).alloc _⟩
end Go.Proofs.Ytkelpcjiediamaa
