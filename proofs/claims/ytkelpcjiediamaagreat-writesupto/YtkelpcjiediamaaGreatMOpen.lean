/-
  Memory: what stays of a world while some blocks are written, a map as a function from keys to values, and the cells of entries and records.
-/
import Derived.Test.YtkelpcjiediamaaGreatRows
import Derived.WalkKit
import Derived.WalkSpells
import Derived.WalkLawsBesides
import Derived.Maps.OwnSet
import Derived.Deep.AppendLies
import Derived.DeepKeys4
import Derived.Deep.RegionHeld3
import Derived.Deep.DrawnRows
namespace Go.Proofs.YtkelpcjiediamaaGreat
open Go.RowKit Go.Maps

/-- From w to w2 only blocks in S have turned, and new ones were made. -/
structure Fr (S : Nat → Prop) (w w2 : World) : Prop where
  os : w2.os = w.os
  tape : w2.tape = w.tape
  output : w2.output = w.output
  size : w.heap.size ≤ w2.heap.size
  block : ∀ k, k < w.heap.size → ¬ S k → w2.heap[k]? = w.heap[k]?

theorem Fr.refl (S : Nat → Prop) (w : World) : Fr S w w := ⟨rfl, rfl, rfl, Nat.le_refl _, fun _ _ _ => rfl⟩

theorem Fr.trans {S T : Nat → Prop} {a b c : World} (h : Fr S a b) (k : Fr T b c) (hT : ∀ i, T i → S i ∨ a.heap.size ≤ i) : Fr S a c :=
  ⟨k.os.trans h.os, k.tape.trans h.tape, k.output.trans h.output, Nat.le_trans h.size k.size,
   fun i hi hn => (k.block i (Nat.lt_of_lt_of_le hi h.size) (fun ht => by rcases hT i ht with h1 | h1; exact hn h1; omega)).trans (h.block i hi hn)⟩

theorem Fr.mono {S T : Nat → Prop} {a b : World} (h : Fr S a b) (hT : ∀ i, S i → T i ∨ a.heap.size ≤ i) : Fr T a b :=
  ⟨h.os, h.tape, h.output, h.size, fun i hi hn => h.block i hi (fun hs => by rcases hT i hs with h1 | h1; exact hn h1; omega)⟩

theorem Fr.drew {S : Nat → Prop} {a w : World} (h : Fr S a w) : Fr S a w.drew := ⟨h.os, h.tape, h.output, h.size, h.block⟩
theorem Fr.drewN {S : Nat → Prop} {a w : World} (h : Fr S a w) (n : Nat) : Fr S a (w.drewN n) := ⟨h.os, h.tape, h.output, h.size, h.block⟩

theorem Fr.alloc {S : Nat → Prop} {a w : World} (h : Fr S a w) (o : Obj) : Fr S a (w.alloc o) :=
  ⟨h.os, h.tape, h.output, by have := h.size; simp; omega, fun i hi hn => by
    have := h.size
    rw [Below.heap_alloc w o i (by omega)]
    exact h.block i hi hn⟩

theorem Fr.setCell {S : Nat → Prop} {a w : World} (h : Fr S a w) {p : Addr} (hp : S p.block ∨ a.heap.size ≤ p.block) (u : Value) : Fr S a (w.setCell p u) :=
  ⟨h.os, h.tape, h.output, by simpa using h.size, fun i hi hn => by
    rw [Below.heap_setCell w p u i (fun e => by subst e; rcases hp with h1 | h1; exact hn h1; omega)]
    exact h.block i hi hn⟩

theorem Fr.grown {S : Nat → Prop} {a w w2 : World} {row : Option Nat} (h : Fr S a w) (hg : w.grownBy w2 row) (hr : ∀ k, row = some k → S k ∨ a.heap.size ≤ k) : Fr S a w2 :=
  ⟨hg.os.trans h.os, hg.tape.trans h.tape, hg.output.trans h.output, Nat.le_trans h.size hg.size, fun i hi hn => by
    have := h.size
    rw [hg.block i (by omega) (fun e => by rcases hr i e.symm with h1 | h1; exact hn h1; omega)]
    exact h.block i hi hn⟩

theorem Fr.cell {S : Nat → Prop} {w w2 : World} (h : Fr S w w2) {p : Addr} (hp : p.block < w.heap.size) (hn : ¬ S p.block) : w2.cell? p = w.cell? p := World.cell?_of_block (w := w) (h.block p.block hp hn)

theorem Fr.below {S : Nat → Prop} {w w2 : World} (h : Fr S w w2) {B : Nat} (hB : B ≤ w.heap.size) (hS : ∀ i, S i → B ≤ i) : Below B w w2 :=
  ⟨h.os, h.tape, h.output, h.size, fun k hk => h.block k (by omega) (fun hs => by have := hS k hs; omega)⟩

theorem Fr.ownsRow {S : Nat → Prop} {w w2 : World} (h : Fr S w w2) {base : Nat} {e : TypeId} {size : Nat} {v : Value} {n : Nat} {xs : List Value} (ho : w.ownsRow base e size v n xs) (hn : ∀ k, v.ownBlock = some k → ¬ S k) : w2.ownsRow base e size v n xs := by
  have hlt := ho.lt
  refine ⟨ho.1, ?_⟩
  rcases ho.2 with h2 | ⟨g, cap, cur, rfl, hb, hg, r⟩
  · exact .inl h2
  · exact .inr ⟨g, cap, cur, rfl, hb, by rw [h.block g (hlt g rfl).2 (hn g rfl)]; exact hg, r⟩

theorem Fr.ownsMap {H : Type} {S : Nat → Prop} {w w2 : World} (h : Fr S w w2) {P : Program} {k : TypeId} {R : Value → Option (DataW H × List MemPlace)} {b n : Nat} {D : DataW H} (ho : w.ownsMap P k R b n D) (hn : ¬ S b) : w2.ownsMap P k R b n D := by
  have hlt := ho.lt
  obtain ⟨es, clock, hb, r⟩ := ho
  exact ⟨es, clock, (h.block b hlt hn).trans hb, r⟩

/-! a map as a function -/
def heldR : Value → Option (DataW Value × List MemPlace) := fun v => some (.held v, [])

/-- Block b is a map of at most n entries, and at each key that can be read it has what f says. -/
def MapFn (w : World) (P : Program) (k : TypeId) (b n : Nat) (f : Value → Option Value) : Prop :=
  ∃ D : DataW Value, w.ownsMap P k heldR b n D ∧ ∀ key kl, keyOf P k key = some kl → (∀ z, D.atKey kl (.held z) = .held ((f key).getD z)) ∧ Maps.has D kl = (f key).isSome

section
variable {P : Program} {k : TypeId} {w : World} {b n : Nat} {f : Value → Option Value}

theorem MapFn.lt (h : MapFn w P k b n f) : b < w.heap.size := by obtain ⟨D, h1, _⟩ := h; exact h1.lt

theorem MapFn.mono (h : MapFn w P k b n f) {m : Nat} (hm : n ≤ m) : MapFn w P k b m f := by obtain ⟨D, h1, h2⟩ := h; exact ⟨D, h1.mono hm, h2⟩

theorem MapFn.congr (h : MapFn w P k b n f) {g : Value → Option Value} (hg : ∀ key kl, keyOf P k key = some kl → g key = f key) : MapFn w P k b n g := by
  obtain ⟨D, h1, h2⟩ := h
  exact ⟨D, h1, fun key kl hk => by rw [hg key kl hk]; exact h2 key kl hk⟩

theorem Fr.mapFn {S : Nat → Prop} {w2 : World} (h : Fr S w w2) (ho : MapFn w P k b n f) (hn : ¬ S b) : MapFn w2 P k b n f := by
  obtain ⟨D, h1, h2⟩ := ho; exact ⟨D, h.ownsMap h1 hn, h2⟩

theorem MapFn.made (w : World) (P : Program) (k : TypeId) : MapFn (w.alloc (.map #[] 0)) P k w.heap.size 0 (fun _ => none) := by
  refine ⟨.map [], World.ownsMap_made w P k heldR, fun key kl _ => ⟨fun z => ?_, ?_⟩⟩
  · exact WideAt.atKey_none _ (by simp)
  · exact Maps.has_false_of_atKey (fun z => WideAt.atKey_none _ (by simp))

theorem MapFn.look (h : MapFn w P k b n f) (K : Keyed P k) {t e : TypeId} (ht : P.underlying t = some (.map k e)) {z : Value} (hz : (zeroValue e).run P w = .ok z w) {key : Value} {kl : Lit} (hkey : keyOf P k key = some kl) :
    (Instr.lookup t (.map (some b)) key false).run P w = .ok ((f key).getD z) w := by
  obtain ⟨D, h1, h2⟩ := h
  obtain ⟨v, ps, hr, hv⟩ := h1.lookup K ht hz (zd := .held z) (zp := []) rfl hkey
  rw [(h2 key kl hkey).1 z] at hv
  simp only [heldR, Option.some.injEq, Prod.mk.injEq, DataW.held.injEq] at hv
  rw [hr, hv.1]

theorem MapFn.look_ok (h : MapFn w P k b n f) (K : Keyed P k) {t e : TypeId} (ht : P.underlying t = some (.map k e)) {z : Value} (hz : (zeroValue e).run P w = .ok z w) {key : Value} {kl : Lit} (hkey : keyOf P k key = some kl) :
    (Instr.lookup t (.map (some b)) key true).run P w = .ok (.tuple #[(f key).getD z, .bool (f key).isSome]) w := by
  obtain ⟨D, h1, h2⟩ := h
  obtain ⟨v, ps, hr, hv⟩ := h1.look_ok K ht hz (zd := .held z) (zp := []) rfl hkey
  rw [(h2 key kl hkey).1 z] at hv
  simp only [heldR, Option.some.injEq, Prod.mk.injEq, DataW.held.injEq] at hv
  rw [hr, hv.1, (h2 key kl hkey).2]

theorem MapFn.store (h : MapFn w P k b n f) (K : Keyed P k) {t e : TypeId} (ht : P.underlying t = some (.map k e)) (hn : n < maxLen) {key val : Value} {kl : Lit} (hkey : keyOf P k key = some kl) {g : Value → Option Value}
    (hg1 : g key = some val) (hg2 : ∀ x, x ≠ key → g x = f x) :
    ∃ w2, (Instr.mapUpdate t (.map (some b)) key val).run P w = .ok () w2 ∧ MapFn w2 P k b (n + 1) g ∧ w.mapTurned w2 b := by
  obtain ⟨D, h1, h2⟩ := h
  obtain ⟨w2, hr, ho, ht2⟩ := h1.store K ht hn hkey (val := val) (d := .held val) (ps := []) rfl
  have hD := h1.isMap
  refine ⟨w2, hr, ⟨_, ho, fun x xl hx => ?_⟩, ht2⟩
  by_cases e : xl = kl
  · subst e
    obtain rfl := K.inj hx hkey
    rw [hg1]
    exact ⟨fun z => Maps.atKey_put_same hD (K.key hkey) _ _, Maps.has_put_same hD (K.key hkey) _⟩
  · have hne : x ≠ key := fun e2 => e (by subst e2; rw [hx] at hkey; exact Option.some.inj hkey)
    rw [hg2 x hne]
    exact ⟨fun z => by rw [Maps.atKey_put_other e]; exact (h2 x xl hx).1 z, by rw [Maps.has_put_other e]; exact (h2 x xl hx).2⟩
end

/-- A store into a map, at the operation, for the walk. -/
theorem wpList_store_fn {P : Program} (w : World) {ops : Array Oper} {rest : List Oper} {o : Oper} {a : Act} {Q : Exit → Act → World → Prop}
    (hg : o.guard = none) (m x v : Operand) (t : TypeId) (hop : o.op = Op.mapUpdate t m x v)
    (k e : TypeId) (K : Keyed P k) (ht : P.underlying t = some (.map k e)) (b n : Nat) (f : Value → Option Value)
    (hm : a.eval m = .map (some b)) (hown : MapFn w P k b n f) (hn : n < maxLen) (key val : Value) (kl : Lit) (hx : a.eval x = key) (hv : a.eval v = val) (hkey : keyOf P k key = some kl)
    (g : Value → Option Value) (hg1 : g key = some val) (hg2 : ∀ x, x ≠ key → g x = f x)
    (hK : ∀ w2, MapFn w2 P k b (n + 1) g → w.mapTurned w2 b → wpList P ops Q rest (a.put o.dst undef) w2) :
    wpList P ops Q (o :: rest) a w := by
  refine wpList_plain hg fun K2 hK2 => ?_
  obtain ⟨w2, hrun, r1, r2⟩ := hown.store K ht hn hkey hg1 hg2
  unfold Oper.wp
  simp [execOp, hop, hm, hx, hv, hrun, Result.andThen]
  exact hK2 _ _ (hK w2 r1 r2)

/-! blocks known whole -/
theorem cell_of_cells {w : World} {b : Nat} {cs : Array Value} {t : TypeId} {fr : Nat × Nat} (h : w.heap[b]? = some (.cells cs t fr)) (o : Nat) : w.cell? ⟨b, o, none⟩ = cs[o]? := by
  simp [World.cell?, h]

theorem frozen_of_cells {w : World} {b : Nat} {cs : Array Value} {t : TypeId} (h : w.heap[b]? = some (.cells cs t (0, 0))) (o : Nat) : w.frozen? ⟨b, o, none⟩ = false := by
  simp [World.frozen?, h]

theorem setCell_cells {w : World} {b : Nat} {cs : Array Value} {t : TypeId} {fr : Nat × Nat} (h : w.heap[b]? = some (.cells cs t fr)) (o : Nat) (u : Value) : (w.setCell ⟨b, o, none⟩ u).heap[b]? = some (.cells (cs.setIfInBounds o u) t fr) := by
  simp [World.setCell, Array.getElem?_modify, h]

theorem lt_of_block {w : World} {b : Nat} {o : Obj} (h : w.heap[b]? = some o) : b < w.heap.size := (Array.getElem?_eq_some_iff.1 h).1

#print axioms MapFn.store
end Go.Proofs.YtkelpcjiediamaaGreat

/-
  The log of a part in memory, and what New, isOpen, Open, put, Append and Close do to it.
-/
namespace Go.Proofs.YtkelpcjiediamaaGreat
open Go.RowKit Go.Maps

/-- An entry of a log. -/
structure Ent where
  k : Int
  p : Int
  t : Int
  s : ByteArray

def Ent.cs (e : Ent) : List Value := [.int .i64 e.k, .int .i64 e.p, .int .i64 e.t, .string e.s]
def entCells (l : List Ent) : List Value := l.flatMap Ent.cs

/-- What a log knows. -/
structure LogS where
  es : List Ent
  d : Nat
  nw : Int → Option (Int × Bool)

def nwFn (nw : Int → Option (Int × Bool)) : Value → Option Value
  | .int .i64 p => (nw p).map fun x => .agg #[.int .i64 x.1, .bool x.2]
  | _ => none

def LogS.isOpen (s : LogS) (p t : Int) : Bool := decide (s.nw p = some (t, true))

structure LogAt (w : World) (B lb bm : Nat) (v : Value) (n : Nat) (s : LogS) : Prop where
  blk : w.heap[lb]? = some (.cells #[v, .int .i64 s.d, .map (some bm)] 163 (0, 0))
  row : w.ownsRow B 55 4 v s.es.length (entCells s.es)
  map : MapFn w Tryz.prog 3 bm n (nwFn s.nw)
  hl : B ≤ lb
  hm : B ≤ bm

theorem law3 : Keyed Tryz.prog 3 := int_keyed Tryz.underlying3
theorem zero75 (w : World) : (zeroValue 189).run Tryz.prog w = .ok (.agg #[.int .i64 0, .bool false]) w := by kernel_rfl

theorem eql75 (w : World) (a c : Int) (b d : Bool) : (binOp .eql 189 (.agg #[.int .i64 a, .bool b]) (.agg #[.int .i64 c, .bool d])).run Tryz.prog w = .ok (.bool (a == c && b == d)) w := by
  go_simp
  cases b <;> cases d <;> cases h : (a == c) <;> simp_all

theorem new_any (w : World) : Calls Tryz.prog 71 #[] w fun e w' => e = .returned (.pointer (some ⟨w.heap.size + 1, 0, none⟩)) ∧
    LogAt w' w.heap.size (w.heap.size + 1) w.heap.size (.slice none 0 0) 0 ⟨[], 0, fun _ => none⟩ ∧ Fr (fun _ => False) w w' := by
  have hmm := @run_makeMap Tryz.prog
  go_enter Tryz.func71, Tryz.ntmps71
  go_wp2
  go_ret
  refine ⟨rfl, ⟨?_, World.ownsRow_nil _ _ _ _, ?_, by omega, by omega⟩, ((Fr.refl _ _).alloc _).alloc _⟩
  · have := heap_alloc_new (w.alloc (.map #[] 0)) (.cells #[.slice none 0 0, .int .i64 0, .map (some w.heap.size)] 163)
    simpa using this
  · refine ((Fr.refl (fun _ => False) _).alloc _).mapFn (MapFn.congr (MapFn.made w Tryz.prog 3) ?_) (fun h => h)
    intro key kl _
    cases key <;> simp [nwFn]
    split <;> rfl

theorem isOpen_any {w : World} {B lb bm n : Nat} {v : Value} {s : LogS} (h : LogAt w B lb bm v n s) (p t : Int) (hp : (Lit.int .i64 p).wf = true) :
    Calls Tryz.prog 122 #[.pointer (some ⟨lb, 0, none⟩), .int .i64 p, .int .i64 t] w fun e w' => e = .returned (.bool (s.isOpen p t)) ∧ w' = w := by
  have c2 : w.cell? ⟨lb, 2, none⟩ = some (.map (some bm)) := by rw [cell_of_cells h.blk]; rfl
  have hlk := h.map.look law3 Tryz.underlying161 (zero75 w) (keyOf_int_mk Tryz.underlying3 hp)
  rcases hx : s.nw p with _ | ⟨t', o⟩
  · rw [show nwFn s.nw (.int .i64 p) = none by simp [nwFn, hx]] at hlk
    have hr : s.isOpen p t = false := by simp [LogS.isOpen, hx]
    simp only [Option.getD_none] at hlk
    rw [hr]
    clear h hx hr hp
    go_enter Tryz.func122, Tryz.ntmps122
    go_wp2
    go_ret
    exact ⟨rfl, rfl⟩
  · rw [show nwFn s.nw (.int .i64 p) = some (.agg #[.int .i64 t', .bool o]) by simp [nwFn, hx]] at hlk
    simp only [Option.getD_some] at hlk
    by_cases e : t' = t
    · subst e
      have hr : s.isOpen p t' = o := by
        simp only [LogS.isOpen, hx]
        cases o <;> simp
      rw [hr]
      clear h hx hr hp
      cases o
      all_goals
        go_enter Tryz.func122, Tryz.ntmps122
        go_wp2
        go_ret
        exact ⟨rfl, rfl⟩
    · have hr : s.isOpen p t = false := by
        simp only [LogS.isOpen, hx]
        cases o <;> simp [e]
      have hb : (t' == t) = false := by simp [e]
      rw [hr]
      clear h hx hr hp
      go_enter Tryz.func122, Tryz.ntmps122
      go_wp2
      go_ret
      exact ⟨rfl, rfl⟩

end Go.Proofs.YtkelpcjiediamaaGreat

/-
  What Open does to a log in memory.
-/
namespace Go.Proofs.YtkelpcjiediamaaGreat
open Go.RowKit Go.Maps

def LogS.canOpen (s : LogS) (p t : Int) : Bool :=
  match s.nw p with
  | none => true
  | some (t', o) => !o && decide (t' < t)

def LogS.set (s : LogS) (p t : Int) (o : Bool) : LogS := { s with nw := fun q => if q = p then some (t, o) else s.nw q }

def LogS.opened (s : LogS) (p t : Int) : LogS := if s.canOpen p t then s.set p t true else s

theorem nwFn_set1 (nw : Int → Option (Int × Bool)) (p t : Int) (o : Bool) : nwFn (fun q => if q = p then some (t, o) else nw q) (.int .i64 p) = some (.agg #[.int .i64 t, .bool o]) := by simp [nwFn]
theorem nwFn_set2 (nw : Int → Option (Int × Bool)) (p t : Int) (o : Bool) (x : Value) (hx : x ≠ .int .i64 p) : nwFn (fun q => if q = p then some (t, o) else nw q) x = nwFn nw x := by
  unfold nwFn
  split
  · rename_i q
    have : q ≠ p := fun e => hx (by rw [e])
    simp [this]
  · rfl

theorem Fr.turned {S : Nat → Prop} {a w w2 : World} {b : Nat} (h : Fr S a w) (ht : w.mapTurned w2 b) (hb : S b ∨ a.heap.size ≤ b) : Fr S a w2 :=
  h.grown ht.grown (fun k e => by cases e; exact hb)

theorem LogAt.lt {w : World} {B lb bm n : Nat} {v : Value} {s : LogS} (h : LogAt w B lb bm v n s) : lb < w.heap.size := lt_of_block h.blk

theorem LogAt.ne {w : World} {B lb bm n : Nat} {v : Value} {s : LogS} (h : LogAt w B lb bm v n s) : lb ≠ bm := by
  intro e
  obtain ⟨D, ⟨es, clock, hb, _⟩, _⟩ := h.map
  have h1 := h.blk
  rw [e, hb] at h1
  cases h1

theorem LogAt.ne_row {w : World} {B lb bm n : Nat} {v : Value} {s : LogS} (h : LogAt w B lb bm v n s) : v.ownBlock ≠ some lb := by
  intro e
  rcases h.row.2 with ⟨rfl, _⟩ | ⟨g, cap, cur, rfl, _, hg, _⟩
  · simp [Value.ownBlock] at e
  · simp [Value.ownBlock] at e
    have h1 := h.blk
    rw [← e, hg] at h1
    cases h1

theorem LogAt.ne_row_map {w : World} {B lb bm n : Nat} {v : Value} {s : LogS} (h : LogAt w B lb bm v n s) : v.ownBlock ≠ some bm := by
  intro e
  obtain ⟨D, ⟨es, clock, hb, _⟩, _⟩ := h.map
  rcases h.row.2 with ⟨rfl, _⟩ | ⟨g, cap, cur, rfl, _, hg, _⟩
  · simp [Value.ownBlock] at e
  · simp [Value.ownBlock] at e
    rw [← e, hg] at hb
    cases hb

/-- A log is as it was while nothing of it is written. -/
theorem Fr.logAt {S : Nat → Prop} {w w2 : World} (f : Fr S w w2) {B lb bm n : Nat} {v : Value} {s : LogS} (h : LogAt w B lb bm v n s) (h1 : ¬ S lb) (h2 : ¬ S bm) (h3 : ∀ k, v.ownBlock = some k → ¬ S k) : LogAt w2 B lb bm v n s :=
  ⟨(f.block lb h.lt h1).trans h.blk, f.ownsRow h.row h3, f.mapFn h.map h2, h.hl, h.hm⟩

theorem LogAt.mono {w : World} {B lb bm n : Nat} {v : Value} {s : LogS} (h : LogAt w B lb bm v n s) {m : Nat} (hm : n ≤ m) : LogAt w B lb bm v m s :=
  ⟨h.blk, h.row, h.map.mono hm, h.hl, h.hm⟩

/-- Only the map has turned. -/
theorem LogAt.mapSet {w w2 : World} {B lb bm n : Nat} {v : Value} {s : LogS} {p t : Int} {o : Bool} (h : LogAt w B lb bm v n s) (f : Fr (fun k => k = bm) w w2) (hm : MapFn w2 Tryz.prog 3 bm (n + 1) (nwFn (s.set p t o).nw)) :
    LogAt w2 B lb bm v (n + 1) (s.set p t o) :=
  ⟨(f.block lb h.lt h.ne).trans h.blk, f.ownsRow h.row (fun k hk e => h.ne_row_map (by rw [hk, e])), hm, h.hl, h.hm⟩

theorem nofr {w : World} (o : Obj) : Fr (fun _ => False) w (w.alloc o) := (Fr.refl _ _).alloc _

set_option maxRecDepth 20000 in
set_option maxHeartbeats 400000 in
theorem open_any {w : World} {B lb bm n : Nat} {v : Value} {s : LogS} (h : LogAt w B lb bm v n s) (p t : Int) (hp : (Lit.int .i64 p).wf = true) (hn : n < maxLen) :
    Calls Tryz.prog 126 #[.pointer (some ⟨lb, 0, none⟩), .int .i64 p, .int .i64 t] w fun e w' => e = .returned (.bool (s.canOpen p t)) ∧ LogAt w' B lb bm v (n + 1) (s.opened p t) ∧ Fr (fun k => k = bm) w w' := by
  have c2 : w.cell? ⟨lb, 2, none⟩ = some (.map (some bm)) := by rw [cell_of_cells h.blk]; rfl
  have hkey := keyOf_int_mk Tryz.underlying3 hp
  have hlk := h.map.look_ok law3 Tryz.underlying161 (zero75 w) hkey
  have hlt := h.lt
  have c3 := World.new_ne w ⟨lb, 2, none⟩ c2
  have H : Hid (LogAt w B lb bm v n s) := h
  have HN : Hid (n < maxLen) := hn
  have HK : Hid (keyOf Tryz.prog 3 (.int .i64 p) = some (.int .i64 p)) := hkey
  rcases hx : s.nw p with _ | ⟨t', o⟩
  · rw [show nwFn s.nw (.int .i64 p) = none by simp [nwFn, hx]] at hlk
    simp only [Option.getD_none, Option.isSome_none] at hlk
    have hc : s.canOpen p t = true := by simp [LogS.canOpen, hx]
    rw [show s.opened p t = s.set p t true by simp [LogS.opened, hc], hc]
    clear h hx hc hp hn hkey
    go_enter Tryz.func126, Tryz.ntmps126
    go_wp2_with (at_mapUpdate; refine wpList_store_fn _ rfl _ _ _ 161 rfl 3 189 law3 Tryz.underlying161 bm n (nwFn s.nw) rfl (by exact (nofr _).mapFn H.out.map id) HN.out _ _ _ rfl rfl HK.out (nwFn (s.set p t true).nw) (nwFn_set1 _ _ _ _) (nwFn_set2 _ _ _ _) ?_; intro w1 hm1 ht1)
    go_ret
    have hf : Fr (fun k => k = bm) w w1 := ((Fr.refl _ _).alloc _).turned ht1 (.inl rfl)
    exact ⟨rfl, H.out.mapSet hf hm1, hf⟩
  · rw [show nwFn s.nw (.int .i64 p) = some (.agg #[.int .i64 t', .bool o]) by simp [nwFn, hx]] at hlk
    simp only [Option.getD_some, Option.isSome_some] at hlk
    cases o
    · by_cases hlt2 : t' < t
      · have hc : s.canOpen p t = true := by simp [LogS.canOpen, hx, hlt2]
        rw [show s.opened p t = s.set p t true by simp [LogS.opened, hc], hc]
        have hge : ¬ (t ≤ t') := by omega
        clear h hx hc hp hn hkey
        go_enter Tryz.func126, Tryz.ntmps126
        go_wp2_with (at_mapUpdate; refine wpList_store_fn _ rfl _ _ _ 161 rfl 3 189 law3 Tryz.underlying161 bm n (nwFn s.nw) rfl (by exact (nofr _).mapFn H.out.map id) HN.out _ _ _ rfl rfl HK.out (nwFn (s.set p t true).nw) (nwFn_set1 _ _ _ _) (nwFn_set2 _ _ _ _) ?_; intro w1 hm1 ht1)
        go_ret
        have hf : Fr (fun k => k = bm) w w1 := ((Fr.refl _ _).alloc _).turned ht1 (.inl rfl)
        exact ⟨rfl, H.out.mapSet hf hm1, hf⟩
      · have hc : s.canOpen p t = false := by simp [LogS.canOpen, hx, hlt2]
        rw [show s.opened p t = s by simp [LogS.opened, hc], hc]
        have hge : t ≤ t' := by omega
        clear h hx hc hp hn hkey hlt2
        go_enter Tryz.func126, Tryz.ntmps126
        go_wp2
        go_ret
        exact ⟨rfl, (nofr _).logAt (H.out.mono (by omega)) id id (fun _ _ => id), (Fr.refl _ _).alloc _⟩
    · have hc : s.canOpen p t = false := by simp [LogS.canOpen, hx]
      rw [show s.opened p t = s by simp [LogS.opened, hc], hc]
      clear h hx hc hp hn hkey
      go_enter Tryz.func126, Tryz.ntmps126
      go_wp2
      go_ret
      exact ⟨rfl, (nofr _).logAt (H.out.mono (by omega)) id id (fun _ _ => id), (Fr.refl _ _).alloc _⟩
end Go.Proofs.YtkelpcjiediamaaGreat
