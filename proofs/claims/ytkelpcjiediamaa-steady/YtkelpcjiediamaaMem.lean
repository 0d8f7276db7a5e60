/-
  Memory: what stays of a world while some blocks are written, a map as a function from keys to values, and the cells of entries and records.
-/
import Derived.Test.YtkelpcjiediamaaRows
import Derived.WalkKit
import Derived.WalkSpells
import Derived.WalkLawsBesides
import Derived.Maps.OwnSet
import Derived.Deep.AppendLies
import Derived.DeepKeys4
namespace Go.Proofs.Ytkelpcjiediamaa
open Go.RowKit Go.Maps

/-- From w to w2 only blocks in S have turned, and new ones were made. -/
structure Fr (S : Nat → Prop) (w w2 : World) : Prop where
  os : w2.os = w.os
  tape : w2.tape = w.tape
  output : w2.output = w.output
  size : w.heap.size ≤ w2.heap.size
  block : ∀ k, k < w.heap.size → ¬ S k → w2.heap[k]? = w.heap[k]?

theorem Fr.refl (S : Nat → Prop) (w : World) : Fr S w w := ⟨rfl, rfl, rfl, Nat.le_refl _, fun _ _ _ => rfl⟩

theorem Fr.trans {S T : Nat → Prop} {a b c : World} (h : Fr S a b) (k : Fr T b c) (hT : ∀ i, T i → S i ∨ a.heap.size ≤ i) : Fr S a c :=
  ⟨k.os.trans h.os, k.tape.trans h.tape, k.output.trans h.output, Nat.le_trans h.size k.size,
   fun i hi hn => (k.block i (Nat.lt_of_lt_of_le hi h.size) (fun ht => by rcases hT i ht with h1 | h1; exact hn h1; omega)).trans (h.block i hi hn)⟩

theorem Fr.mono {S T : Nat → Prop} {a b : World} (h : Fr S a b) (hT : ∀ i, S i → T i ∨ a.heap.size ≤ i) : Fr T a b :=
  ⟨h.os, h.tape, h.output, h.size, fun i hi hn => h.block i hi (fun hs => by rcases hT i hs with h1 | h1; exact hn h1; omega)⟩

theorem Fr.drew {S : Nat → Prop} {a w : World} (h : Fr S a w) : Fr S a w.drew := ⟨h.os, h.tape, h.output, h.size, h.block⟩
theorem Fr.drewN {S : Nat → Prop} {a w : World} (h : Fr S a w) (n : Nat) : Fr S a (w.drewN n) := ⟨h.os, h.tape, h.output, h.size, h.block⟩

theorem Fr.alloc {S : Nat → Prop} {a w : World} (h : Fr S a w) (o : Obj) : Fr S a (w.alloc o) :=
  ⟨h.os, h.tape, h.output, by have := h.size; simp; omega, fun i hi hn => by
    have := h.size
    rw [Below.heap_alloc w o i (by omega)]
    exact h.block i hi hn⟩

theorem Fr.setCell {S : Nat → Prop} {a w : World} (h : Fr S a w) {p : Addr} (hp : S p.block ∨ a.heap.size ≤ p.block) (u : Value) : Fr S a (w.setCell p u) :=
  ⟨h.os, h.tape, h.output, by simpa using h.size, fun i hi hn => by
    rw [Below.heap_setCell w p u i (fun e => by subst e; rcases hp with h1 | h1; exact hn h1; omega)]
    exact h.block i hi hn⟩

theorem Fr.grown {S : Nat → Prop} {a w w2 : World} {row : Option Nat} (h : Fr S a w) (hg : w.grownBy w2 row) (hr : ∀ k, row = some k → S k ∨ a.heap.size ≤ k) : Fr S a w2 :=
  ⟨hg.os.trans h.os, hg.tape.trans h.tape, hg.output.trans h.output, Nat.le_trans h.size hg.size, fun i hi hn => by
    have := h.size
    rw [hg.block i (by omega) (fun e => by rcases hr i e.symm with h1 | h1; exact hn h1; omega)]
    exact h.block i hi hn⟩

theorem Fr.cell {S : Nat → Prop} {w w2 : World} (h : Fr S w w2) {p : Addr} (hp : p.block < w.heap.size) (hn : ¬ S p.block) : w2.cell? p = w.cell? p := World.cell?_of_block (w := w) (h.block p.block hp hn)

theorem Fr.below {S : Nat → Prop} {w w2 : World} (h : Fr S w w2) {B : Nat} (hB : B ≤ w.heap.size) (hS : ∀ i, S i → B ≤ i) : Below B w w2 :=
  ⟨h.os, h.tape, h.output, h.size, fun k hk => h.block k (by omega) (fun hs => by have := hS k hs; omega)⟩

theorem Fr.ownsRow {S : Nat → Prop} {w w2 : World} (h : Fr S w w2) {base : Nat} {e : TypeId} {size : Nat} {v : Value} {n : Nat} {xs : List Value} (ho : w.ownsRow base e size v n xs) (hn : ∀ k, v.ownBlock = some k → ¬ S k) : w2.ownsRow base e size v n xs := by
  have hlt := ho.lt
  refine ⟨ho.1, ?_⟩
  rcases ho.2 with h2 | ⟨g, cap, cur, rfl, hb, hg, r⟩
  · exact .inl h2
  · exact .inr ⟨g, cap, cur, rfl, hb, by rw [h.block g (hlt g rfl).2 (hn g rfl)]; exact hg, r⟩

theorem Fr.ownsMap {H : Type} {S : Nat → Prop} {w w2 : World} (h : Fr S w w2) {P : Program} {k : TypeId} {R : Value → Option (DataW H × List MemPlace)} {b n : Nat} {D : DataW H} (ho : w.ownsMap P k R b n D) (hn : ¬ S b) : w2.ownsMap P k R b n D := by
  have hlt := ho.lt
  obtain ⟨es, clock, hb, r⟩ := ho
  exact ⟨es, clock, (h.block b hlt hn).trans hb, r⟩

/-! a map as a function -/
def heldR : Value → Option (DataW Value × List MemPlace) := fun v => some (.held v, [])

/-- Block b is a map of at most n entries, and at each key that can be read it has what f says. -/
def MapFn (w : World) (P : Program) (k : TypeId) (b n : Nat) (f : Value → Option Value) : Prop :=
  ∃ D : DataW Value, w.ownsMap P k heldR b n D ∧ ∀ key kl, keyOf P k key = some kl → (∀ z, D.atKey kl (.held z) = .held ((f key).getD z)) ∧ Maps.has D kl = (f key).isSome

section
variable {P : Program} {k : TypeId} {w : World} {b n : Nat} {f : Value → Option Value}

theorem MapFn.lt (h : MapFn w P k b n f) : b < w.heap.size := by obtain ⟨D, h1, _⟩ := h; exact h1.lt

theorem MapFn.mono (h : MapFn w P k b n f) {m : Nat} (hm : n ≤ m) : MapFn w P k b m f := by obtain ⟨D, h1, h2⟩ := h; exact ⟨D, h1.mono hm, h2⟩

theorem MapFn.congr (h : MapFn w P k b n f) {g : Value → Option Value} (hg : ∀ key kl, keyOf P k key = some kl → g key = f key) : MapFn w P k b n g := by
  obtain ⟨D, h1, h2⟩ := h
  exact ⟨D, h1, fun key kl hk => by rw [hg key kl hk]; exact h2 key kl hk⟩

theorem Fr.mapFn {S : Nat → Prop} {w2 : World} (h : Fr S w w2) (ho : MapFn w P k b n f) (hn : ¬ S b) : MapFn w2 P k b n f := by
  obtain ⟨D, h1, h2⟩ := ho; exact ⟨D, h.ownsMap h1 hn, h2⟩

theorem MapFn.made (w : World) (P : Program) (k : TypeId) : MapFn (w.alloc (.map #[] 0)) P k w.heap.size 0 (fun _ => none) := by
  refine ⟨.map [], World.ownsMap_made w P k heldR, fun key kl _ => ⟨fun z => ?_, ?_⟩⟩
  · exact WideAt.atKey_none _ (by simp)
  · exact Maps.has_false_of_atKey (fun z => WideAt.atKey_none _ (by simp))

theorem MapFn.look (h : MapFn w P k b n f) (K : Keyed P k) {t e : TypeId} (ht : P.underlying t = some (.map k e)) {z : Value} (hz : (zeroValue e).run P w = .ok z w) {key : Value} {kl : Lit} (hkey : keyOf P k key = some kl) :
    (Instr.lookup t (.map (some b)) key false).run P w = .ok ((f key).getD z) w := by
  obtain ⟨D, h1, h2⟩ := h
  obtain ⟨v, ps, hr, hv⟩ := h1.lookup K ht hz (zd := .held z) (zp := []) rfl hkey
  rw [(h2 key kl hkey).1 z] at hv
  simp only [heldR, Option.some.injEq, Prod.mk.injEq, DataW.held.injEq] at hv
  rw [hr, hv.1]

theorem MapFn.look_ok (h : MapFn w P k b n f) (K : Keyed P k) {t e : TypeId} (ht : P.underlying t = some (.map k e)) {z : Value} (hz : (zeroValue e).run P w = .ok z w) {key : Value} {kl : Lit} (hkey : keyOf P k key = some kl) :
    (Instr.lookup t (.map (some b)) key true).run P w = .ok (.tuple #[(f key).getD z, .bool (f key).isSome]) w := by
  obtain ⟨D, h1, h2⟩ := h
  obtain ⟨v, ps, hr, hv⟩ := h1.look_ok K ht hz (zd := .held z) (zp := []) rfl hkey
  rw [(h2 key kl hkey).1 z] at hv
  simp only [heldR, Option.some.injEq, Prod.mk.injEq, DataW.held.injEq] at hv
  rw [hr, hv.1, (h2 key kl hkey).2]

theorem MapFn.store (h : MapFn w P k b n f) (K : Keyed P k) {t e : TypeId} (ht : P.underlying t = some (.map k e)) (hn : n < maxLen) {key val : Value} {kl : Lit} (hkey : keyOf P k key = some kl) {g : Value → Option Value}
    (hg1 : g key = some val) (hg2 : ∀ x, x ≠ key → g x = f x) :
    ∃ w2, (Instr.mapUpdate t (.map (some b)) key val).run P w = .ok () w2 ∧ MapFn w2 P k b (n + 1) g ∧ w.mapTurned w2 b := by
  obtain ⟨D, h1, h2⟩ := h
  obtain ⟨w2, hr, ho, ht2⟩ := h1.store K ht hn hkey (val := val) (d := .held val) (ps := []) rfl
  have hD := h1.isMap
  refine ⟨w2, hr, ⟨_, ho, fun x xl hx => ?_⟩, ht2⟩
  by_cases e : xl = kl
  · subst e
    obtain rfl := K.inj hx hkey
    rw [hg1]
    exact ⟨fun z => Maps.atKey_put_same hD (K.key hkey) _ _, Maps.has_put_same hD (K.key hkey) _⟩
  · have hne : x ≠ key := fun e2 => e (by subst e2; rw [hx] at hkey; exact Option.some.inj hkey)
    rw [hg2 x hne]
    exact ⟨fun z => by rw [Maps.atKey_put_other e]; exact (h2 x xl hx).1 z, by rw [Maps.has_put_other e]; exact (h2 x xl hx).2⟩
end

/-- A store into a map, at the operation, for the walk. -/
theorem wpList_store_fn {P : Program} (w : World) {ops : Array Oper} {rest : List Oper} {o : Oper} {a : Act} {Q : Exit → Act → World → Prop}
    (hg : o.guard = none) (m x v : Operand) (t : TypeId) (hop : o.op = Op.mapUpdate t m x v)
    (k e : TypeId) (K : Keyed P k) (ht : P.underlying t = some (.map k e)) (b n : Nat) (f : Value → Option Value)
    (hm : a.eval m = .map (some b)) (hown : MapFn w P k b n f) (hn : n < maxLen) (key val : Value) (kl : Lit) (hx : a.eval x = key) (hv : a.eval v = val) (hkey : keyOf P k key = some kl)
    (g : Value → Option Value) (hg1 : g key = some val) (hg2 : ∀ x, x ≠ key → g x = f x)
    (hK : ∀ w2, MapFn w2 P k b (n + 1) g → w.mapTurned w2 b → wpList P ops Q rest (a.put o.dst undef) w2) :
    wpList P ops Q (o :: rest) a w := by
  refine wpList_plain hg fun K2 hK2 => ?_
  obtain ⟨w2, hrun, r1, r2⟩ := hown.store K ht hn hkey hg1 hg2
  unfold Oper.wp
  simp [execOp, hop, hm, hx, hv, hrun, Result.andThen]
  exact hK2 _ _ (hK w2 r1 r2)

/-! blocks known whole -/
theorem cell_of_cells {w : World} {b : Nat} {cs : Array Value} {t : TypeId} {fr : Nat × Nat} (h : w.heap[b]? = some (.cells cs t fr)) (o : Nat) : w.cell? ⟨b, o, none⟩ = cs[o]? := by
  simp [World.cell?, h]

theorem frozen_of_cells {w : World} {b : Nat} {cs : Array Value} {t : TypeId} (h : w.heap[b]? = some (.cells cs t (0, 0))) (o : Nat) : w.frozen? ⟨b, o, none⟩ = false := by
  simp [World.frozen?, h]

theorem setCell_cells {w : World} {b : Nat} {cs : Array Value} {t : TypeId} {fr : Nat × Nat} (h : w.heap[b]? = some (.cells cs t fr)) (o : Nat) (u : Value) : (w.setCell ⟨b, o, none⟩ u).heap[b]? = some (.cells (cs.setIfInBounds o u) t fr) := by
  simp [World.setCell, Array.getElem?_modify, h]

theorem lt_of_block {w : World} {b : Nat} {o : Obj} (h : w.heap[b]? = some o) : b < w.heap.size := (Array.getElem?_eq_some_iff.1 h).1

#print axioms MapFn.store
end Go.Proofs.Ytkelpcjiediamaa
