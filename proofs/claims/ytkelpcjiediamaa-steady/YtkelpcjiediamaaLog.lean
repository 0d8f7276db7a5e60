/-
  The log of a part in memory, and what New, isOpen, Open, put, Append and Close do to it.
-/
import Derived.Test.YtkelpcjiediamaaMem
import Derived.Deep.RegionHeld3
import Derived.Deep.DrawnRows
namespace Go.Proofs.Ytkelpcjiediamaa
open Go.RowKit Go.Maps

/-- An entry of a log. -/
structure Ent where
  k : Int
  p : Int
  t : Int
  s : ByteArray

def Ent.cs (e : Ent) : List Value := [.int .i64 e.k, .int .i64 e.p, .int .i64 e.t, .string e.s]
def entCells (l : List Ent) : List Value := l.flatMap Ent.cs

/-- What a log knows. -/
structure LogS where
  es : List Ent
  d : Nat
  nw : Int → Option (Int × Bool)

def nwFn (nw : Int → Option (Int × Bool)) : Value → Option Value
  | .int .i64 p => (nw p).map fun x => .agg #[.int .i64 x.1, .bool x.2]
  | _ => none

def LogS.isOpen (s : LogS) (p t : Int) : Bool := decide (s.nw p = some (t, true))

structure LogAt (w : World) (B lb bm : Nat) (v : Value) (n : Nat) (s : LogS) : Prop where
  blk : w.heap[lb]? = some (.cells #[v, .int .i64 s.d, .map (some bm)] 56 (0, 0))
  row : w.ownsRow B 69 4 v s.es.length (entCells s.es)
  map : MapFn w Try.prog 3 bm n (nwFn s.nw)
  hl : B ≤ lb
  hm : B ≤ bm

theorem law3 : Keyed Try.prog 3 := int_keyed Try.underlying3
theorem zero75 (w : World) : (zeroValue 75).run Try.prog w = .ok (.agg #[.int .i64 0, .bool false]) w := by kernel_rfl

theorem eql75 (w : World) (a c : Int) (b d : Bool) : (binOp .eql 75 (.agg #[.int .i64 a, .bool b]) (.agg #[.int .i64 c, .bool d])).run Try.prog w = .ok (.bool (a == c && b == d)) w := by
  go_simp
  cases b <;> cases d <;> cases h : (a == c) <;> simp_all

theorem new_any (w : World) : Calls Try.prog 5 #[] w fun e w' => e = .returned (.pointer (some ⟨w.heap.size + 1, 0, none⟩)) ∧
    LogAt w' w.heap.size (w.heap.size + 1) w.heap.size (.slice none 0 0) 0 ⟨[], 0, fun _ => none⟩ ∧ Fr (fun _ => False) w w' := by
  have hmm := @run_makeMap Try.prog
  go_enter Try.func5, Try.ntmps5
  go_wp2
  go_ret
  refine ⟨rfl, ⟨?_, World.ownsRow_nil _ _ _ _, ?_, by omega, by omega⟩, ((Fr.refl _ _).alloc _).alloc _⟩
  · have := heap_alloc_new (w.alloc (.map #[] 0)) (.cells #[.slice none 0 0, .int .i64 0, .map (some w.heap.size)] 56)
    simpa using this
  · refine ((Fr.refl (fun _ => False) _).alloc _).mapFn (MapFn.congr (MapFn.made w Try.prog 3) ?_) (fun h => h)
    intro key kl _
    cases key <;> simp [nwFn]
    split <;> rfl

theorem isOpen_any {w : World} {B lb bm n : Nat} {v : Value} {s : LogS} (h : LogAt w B lb bm v n s) (p t : Int) (hp : (Lit.int .i64 p).wf = true) :
    Calls Try.prog 31 #[.pointer (some ⟨lb, 0, none⟩), .int .i64 p, .int .i64 t] w fun e w' => e = .returned (.bool (s.isOpen p t)) ∧ w' = w := by
  have c2 : w.cell? ⟨lb, 2, none⟩ = some (.map (some bm)) := by rw [cell_of_cells h.blk]; rfl
  have hlk := h.map.look law3 Try.underlying54 (zero75 w) (keyOf_int_mk Try.underlying3 hp)
  rcases hx : s.nw p with _ | ⟨t', o⟩
  · rw [show nwFn s.nw (.int .i64 p) = none by simp [nwFn, hx]] at hlk
    have hr : s.isOpen p t = false := by simp [LogS.isOpen, hx]
    simp only [Option.getD_none] at hlk
    rw [hr]
    clear h hx hr hp
    go_enter Try.func31, Try.ntmps31
    go_wp2
    go_ret
    exact ⟨rfl, rfl⟩
  · rw [show nwFn s.nw (.int .i64 p) = some (.agg #[.int .i64 t', .bool o]) by simp [nwFn, hx]] at hlk
    simp only [Option.getD_some] at hlk
    by_cases e : t' = t
    · subst e
      have hr : s.isOpen p t' = o := by
        simp only [LogS.isOpen, hx]
        cases o <;> simp
      rw [hr]
      clear h hx hr hp
      cases o
      all_goals
        go_enter Try.func31, Try.ntmps31
        go_wp2
        go_ret
        exact ⟨rfl, rfl⟩
    · have hr : s.isOpen p t = false := by
        simp only [LogS.isOpen, hx]
        cases o <;> simp [e]
      have hb : (t' == t) = false := by simp [e]
      rw [hr]
      clear h hx hr hp
      go_enter Try.func31, Try.ntmps31
      go_wp2
      go_ret
      exact ⟨rfl, rfl⟩

end Go.Proofs.Ytkelpcjiediamaa
