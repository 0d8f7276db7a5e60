/-
  within, where what was fetched is just what was committed.
-/
import Derived.Test.YtkelpcjiediamaaGreatSame
namespace Go.Proofs.YtkelpcjiediamaaGreat
open Go.RowKit Go.Maps

/-- A slice of entries in memory, to be read. -/
def EntsAt (w : World) (v : Value) (es : List Ent) : Prop :=
  (v = .slice none 0 0 ∧ es = []) ∨ ∃ g cap, v = .slice (some ⟨g, 0, none⟩) es.length cap ∧ es.length ≤ cap ∧ cap ≤ maxLen ∧
    ∀ (k : Nat) e, es[k]? = some e → w.cell? ⟨g, k * 4, none⟩ = some (.int .i64 e.k) ∧ w.cell? ⟨g, k * 4 + 1, none⟩ = some (.int .i64 e.p) ∧ w.cell? ⟨g, k * 4 + 2, none⟩ = some (.int .i64 e.t) ∧ w.cell? ⟨g, k * 4 + 3, none⟩ = some (.string e.s)

theorem entsAt_of {w : World} {B : Nat} {v : Value} {es : List Ent} (h : w.ownsRow B 55 4 v es.length (entCells es)) : EntsAt w v es := by
  rcases row_form h with ⟨rfl, rfl⟩ | ⟨g, cap, rfl, h1, h2, _⟩
  · exact .inl ⟨rfl, rfl⟩
  · exact .inr ⟨g, cap, rfl, h1, h2, fun k e hk => row_cells h hk⟩

def Ent.ends (x e : Ent) : Prop := x.k ≠ 1 ∧ x.p = e.p ∧ x.t = e.t

/-- The transaction of the entry e at i came to its end, by entries of kind q alone. -/
structure Settled (es : List Ent) (i : Nat) (e : Ent) (q : Int) : Prop where
  nz : q ≠ 0
  fate : fate es e.p e.t = some q
  late : ∃ (m : Nat) (x : Ent), i < m ∧ es[m]? = some x ∧ x.ends e
  all : ∀ x ∈ es, x.ends e → x.k = q

/-- What holds of a log whose first S entries are all decided. -/
def AllSettled (s : LogS) (S : Nat) : Prop := ∀ (i : Nat) e, i < S → s.es[i]? = some e → e.k = 1 → ∃ q, Settled s.es i e q

theorem LogS.got_at (s : LogS) {S i : Nat} {e : Ent} (hi : i < S) (he : s.es[i]? = some e) (hp : s.picks e = true) : (s.got 0 S)[(s.got 0 i).length]? = some ⟨i, e.p, e.s⟩ := by
  obtain ⟨t, ht⟩ := s.got_prefix (a := 0) (k := i + 1) (by omega) (S - (i + 1))
  rw [show i + 1 + (S - (i + 1)) = S by omega] at ht
  have h2 : s.got 0 (i + 1) = s.got 0 i ++ [⟨i, e.p, e.s⟩] := by
    rw [s.got_succ (by omega)]
    simp [LogS.pick, he, hp]
  rw [ht, h2, List.append_assoc, List.getElem?_append_right (Nat.le_refl _)]
  simp

theorem LogS.got_lt (s : LogS) {S i : Nat} {e : Ent} (hi : i < S) (he : s.es[i]? = some e) (hp : s.picks e = true) : (s.got 0 i).length < (s.got 0 S).length :=
  (List.getElem?_eq_some_iff.1 (s.got_at hi he hp)).1

end Go.Proofs.YtkelpcjiediamaaGreat
