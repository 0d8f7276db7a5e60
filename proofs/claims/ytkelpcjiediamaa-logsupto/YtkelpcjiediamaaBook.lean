/-
  The book of the lists that came out, in memory.
-/
import Derived.Test.YtkelpcjiediamaaOpened
namespace Go.Proofs.Ytkelpcjiediamaa
open Go.RowKit Go.Maps

def mkI (k : Nat) : List Value := [.int .i64 (-1 - k)]
def mkE (k : Nat) : List Value := [.int .i64 (-1 - k), .int .i64 0, .int .i64 0, .string ⟨#[]⟩]
def mkR (k : Nat) : List Value := [.int .i64 (-1 - k), .int .i64 0, .string ⟨#[]⟩]

def outCells (outs : List (Value × Nat)) : List Value := outs.flatMap fun o => [o.1, .int .i64 o.2]

theorem outCells_snoc (outs : List (Value × Nat)) (l : Value) (k : Nat) : outCells (outs ++ [(l, k)]) = outCells outs ++ [l, .int .i64 k] := by simp [outCells]

theorem outCells_length (outs : List (Value × Nat)) : (outCells outs).length = 2 * outs.length := by
  induction outs with
  | nil => rfl
  | cons x r ih => simp only [outCells, List.flatMap_cons, List.length_append] at ih ⊢; rw [ih]; simp; omega

theorem outCells_get : ∀ (l : List (Value × Nat)) (k : Nat) (e : Value × Nat), l[k]? = some e → (outCells l)[k * 2]? = some e.1 ∧ (outCells l)[k * 2 + 1]? = some (.int .i64 e.2)
  | [], k, e, h => by simp at h
  | x :: r, 0, e, h => by
    simp only [List.getElem?_cons_zero, Option.some.injEq] at h
    subst h
    simp [outCells]
  | x :: r, k + 1, e, h => by
    simp only [List.getElem?_cons_succ] at h
    have := outCells_get r k e h
    simp only [outCells, List.flatMap_cons] at this ⊢
    rw [List.getElem?_append_right (by simp; omega), List.getElem?_append_right (by simp; omega)]
    have e1 : (k + 1) * 2 - [x.1, Value.int .i64 x.2].length = k * 2 := by simp; omega
    have e2 : (k + 1) * 2 + 1 - [x.1, Value.int .i64 x.2].length = k * 2 + 1 := by simp; omega
    rw [e1, e2]
    exact this

/-- One of the book's three shelves. -/
structure Shelf (w : World) (B : Nat) (oty ty : TypeId) (wd : Nat) (mk : Nat → List Value) (v : Value) (outs : List (Value × Nat)) : Prop where
  row : w.ownsRow B oty 2 v outs.length (outCells outs)
  ok : ∀ o ∈ outs, ∃ len, w.ownsRow B ty wd o.1 len (rep len (mk o.2))

theorem Fr.shelf {S : Nat → Prop} {w w2 : World} (f : Fr S w w2) {B : Nat} {oty ty : TypeId} {wd : Nat} {mk : Nat → List Value} {v : Value} {outs : List (Value × Nat)} (h : Shelf w B oty ty wd mk v outs)
    (h1 : ∀ k, v.ownBlock = some k → ¬ S k) (h2 : ∀ o ∈ outs, ∀ k, o.1.ownBlock = some k → ¬ S k) : Shelf w2 B oty ty wd mk v outs :=
  ⟨f.ownsRow h.row h1, fun o ho => by obtain ⟨len, hl⟩ := h.ok o ho; exact ⟨len, f.ownsRow hl (h2 o ho)⟩⟩

/-- Rows of two types lie apart. -/
theorem rows_apart {w : World} {B B' : Nat} {ty ty' : TypeId} {wd wd' : Nat} {v v' : Value} {n n' : Nat} {xs xs' : List Value} (h : w.ownsRow B ty wd v n xs) (h' : w.ownsRow B' ty' wd' v' n' xs') (hne : ty ≠ ty') : ∀ k, v.ownBlock = some k → v'.ownBlock ≠ some k := by
  intro k hk hk'
  rcases h.2 with ⟨rfl, _⟩ | ⟨g, cap, cur, rfl, _, hg, _⟩
  · simp [Value.ownBlock] at hk
  · rcases h'.2 with ⟨rfl, _⟩ | ⟨g', cap', cur', rfl, _, hg', _⟩
    · simp [Value.ownBlock] at hk'
    · simp [Value.ownBlock] at hk hk'
      subst hk hk'
      rw [hg] at hg'
      cases hg'
      exact hne rfl

theorem row_block_apart {w : World} {B : Nat} {ty ty' : TypeId} {wd : Nat} {v : Value} {n b : Nat} {xs : List Value} {cs : Array Value} {fr : Nat × Nat} (h : w.ownsRow B ty wd v n xs) (hb : w.heap[b]? = some (.cells cs ty' fr)) (hne : ty ≠ ty') : v.ownBlock ≠ some b := by
  intro hk
  rcases h.2 with ⟨rfl, _⟩ | ⟨g, cap, cur, rfl, _, hg, _⟩
  · simp [Value.ownBlock] at hk
  · simp [Value.ownBlock] at hk
    subst hk
    rw [hg] at hb
    cases hb
    exact hne rfl

structure BookAt (w : World) (B bb : Nat) (vi ve vr : Value) (oi oe orr : List (Value × Nat)) : Prop where
  blk : w.heap[bb]? = some (.cells #[vi, ve, vr] 36 (0, 0))
  si : Shelf w B 65 3 1 mkI vi oi
  se : Shelf w B 67 69 4 mkE ve oe
  sr : Shelf w B 71 73 3 mkR vr orr
  hb : B ≤ bb

theorem BookAt.lt {w : World} {B bb : Nat} {vi ve vr : Value} {oi oe orr : List (Value × Nat)} (h : BookAt w B bb vi ve vr oi oe orr) : bb < w.heap.size := lt_of_block h.blk

/-- A list that is being handed over, and one that was handed over of it before. -/
def NewOK (w : World) (B : Nat) (ty : TypeId) (wd : Nat) (mc : List Value) (lv : Value) (nn : Nat) (l : Value) : Prop :=
  (∃ g cap m, lv = .slice (some ⟨g, 0, none⟩) nn cap ∧ m ≤ nn ∧ l = .slice (some ⟨g, 0, none⟩) m cap) ∨ ((∃ len, w.ownsRow B ty wd l len (rep len mc)) ∧ ∀ x, l.ownBlock = some x → lv.ownBlock ≠ some x)

theorem rep_take (mc : List Value) {m n wd : Nat} (hw : mc.length = wd) (h : m ≤ n) : rep m mc = (rep n mc).take (m * wd) := by
  subst hw
  obtain ⟨d, rfl⟩ := Nat.exists_eq_add_of_le h
  have : rep (m + d) mc = rep m mc ++ rep d mc := by simp only [rep, ← List.replicate_append_replicate, List.flatten_append]
  rw [this, ← rep_length m mc]
  exact List.take_left.symm

theorem NewOK.owns {w : World} {B : Nat} {ty : TypeId} {wd : Nat} {mc : List Value} {lv l : Value} {nn : Nat} (hw : mc.length = wd) (h : NewOK w B ty wd mc lv nn l) (ho : w.ownsRow B ty wd lv nn (rep nn mc)) : ∃ len, w.ownsRow B ty wd l len (rep len mc) := by
  rcases h with ⟨g, cap, m, rfl, hm, rfl⟩ | h
  · exact ⟨m, ownsRow_prefix ho hm (rep_take mc hw hm) rfl (Nat.le_refl _)⟩
  · exact h.1

theorem NewOK.step {w W w1 : World} {B : Nat} {ty : TypeId} {wd : Nat} {mc : List Value} {lv l : Value} {nn g cap : Nat} (hw : mc.length = wd) (h : NewOK w B ty wd mc lv nn l) (ho : w.ownsRow B ty wd lv nn (rep nn mc)) (f : Fr (fun _ => False) w W)
    (hc : (lv = .slice (some ⟨g, 0, none⟩) nn cap ∧ W.grownBy w1 (some g)) ∨ (g = W.heap.size ∧ W.grownBy w1 none)) : NewOK w1 B ty wd mc (.slice (some ⟨g, 0, none⟩) (nn + 1) cap) (nn + 1) l := by
  rcases hc with ⟨rfl, hg⟩ | ⟨rfl, hg⟩
  · rcases h with ⟨g', cap', m, e, hm, rfl⟩ | ⟨⟨len, hl⟩, hx⟩
    · simp only [Value.slice.injEq, Option.some.injEq, Addr.mk.injEq] at e
      obtain ⟨⟨rfl, _⟩, _, rfl⟩ := e
      exact .inl ⟨g, cap, m, rfl, by omega, rfl⟩
    · have f1 : Fr (fun k => k = g) w w1 := (f.mono (fun _ h => h.elim)).grown hg (fun k e => by cases e; exact .inl rfl)
      refine .inr ⟨⟨len, f1.ownsRow hl (fun k hk e => ?_)⟩, fun x hx2 => by simpa [Value.ownBlock] using hx x hx2⟩
      subst e
      exact hx k hk rfl
  · have f1 : Fr (fun _ => False) w w1 := f.grown hg (fun k e => by cases e)
    obtain ⟨len, hl⟩ := h.owns hw ho
    refine .inr ⟨⟨len, f1.ownsRow hl (fun _ _ => id)⟩, fun x hx => ?_⟩
    have := (hl.lt x hx).2
    have := f.size
    simp only [Value.ownBlock, ne_eq, Option.some.injEq]
    omega

/-- .. while other blocks are written. -/
theorem NewOK.keep {S : Nat → Prop} {w w1 : World} {B : Nat} {ty : TypeId} {wd : Nat} {mc : List Value} {lv l : Value} {nn : Nat} (h : NewOK w B ty wd mc lv nn l) (f : Fr S w w1) (hS : ∀ len xs, w.ownsRow B ty wd l len xs → ∀ k, l.ownBlock = some k → ¬ S k) : NewOK w1 B ty wd mc lv nn l := by
  rcases h with h | ⟨⟨len, hl⟩, hx⟩
  · exact .inl h
  · exact .inr ⟨⟨len, f.ownsRow hl (hS len _ hl)⟩, hx⟩

theorem rep_ext {ys mc : List Value} {n wd : Nat} (hw : mc.length = wd) (hl : ys.length = n * wd) (h : ∀ q, q < n * wd → ys[q]? = (rep n mc)[q]?) : ys = rep n mc := by
  apply List.ext_getElem?
  intro q
  by_cases hq : q < n * wd
  · exact h q hq
  · rw [List.getElem?_eq_none (by omega), List.getElem?_eq_none (by rw [rep_length, hw]; omega)]

end Go.Proofs.Ytkelpcjiediamaa
