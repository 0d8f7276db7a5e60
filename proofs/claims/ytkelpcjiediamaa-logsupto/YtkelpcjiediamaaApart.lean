/-
  Which blocks a log, the document's log and the book have: they lie apart, by what they hold.
-/
import Derived.Test.YtkelpcjiediamaaRel
import Derived.Test.YtkelpcjiediamaaOwnE
import Derived.Test.YtkelpcjiediamaaOwnI
import Derived.Test.YtkelpcjiediamaaOwnR
import Derived.Test.YtkelpcjiediamaaSteady
namespace Go.Proofs.Ytkelpcjiediamaa
open Go.RowKit Go.Maps

/-- What kind of thing a block holds. -/
def tag (w : World) (k : Nat) : Nat :=
  match w.heap[k]? with
  | some (.cells _ ty _) => ty
  | some (.map _ _) => 1000000
  | _ => 2000000

theorem tag_cells {w : World} {k : Nat} {cs : Array Value} {ty : TypeId} {fr : Nat × Nat} (h : w.heap[k]? = some (.cells cs ty fr)) : tag w k = ty := by simp [tag, h]

theorem tag_row {w : World} {B : Nat} {ty : TypeId} {wd : Nat} {v : Value} {n : Nat} {xs : List Value} (h : w.ownsRow B ty wd v n xs) {k : Nat} (hk : v.ownBlock = some k) : tag w k = ty := by
  rcases h.2 with ⟨rfl, _⟩ | ⟨g, cap, cur, rfl, _, hg, _⟩
  · simp [Value.ownBlock] at hk
  · simp [Value.ownBlock] at hk
    subst hk
    exact tag_cells hg

theorem tag_map {w : World} {P : Program} {kt : TypeId} {b n : Nat} {f : Value → Option Value} (h : MapFn w P kt b n f) : tag w b = 1000000 := by
  obtain ⟨D, ⟨es, clock, hb, _⟩, _⟩ := h
  simp [tag, hb]

def logFoot (lb bm : Nat) (v : Value) (k : Nat) : Prop := k = lb ∨ k = bm ∨ v.ownBlock = some k
def refFoot (yb : Nat) (u : Value) (k : Nat) : Prop := k = yb ∨ u.ownBlock = some k
def bookFoot (bb : Nat) (vi ve vr : Value) (k : Nat) : Prop := k = bb ∨ vi.ownBlock = some k ∨ ve.ownBlock = some k ∨ vr.ownBlock = some k

theorem LogAt.tags {w : World} {B lb bm n : Nat} {v : Value} {s : LogS} (h : LogAt w B lb bm v n s) {k : Nat} (hk : logFoot lb bm v k) : tag w k = 56 ∨ tag w k = 1000000 ∨ tag w k = 69 := by
  rcases hk with rfl | rfl | hk
  · exact .inl (tag_cells h.blk)
  · exact .inr (.inl (tag_map h.map))
  · exact .inr (.inr (tag_row h.row hk))

theorem RefAt.tags {w : World} {B yb : Nat} {u : Value} {L : List Ent} (h : RefAt w B yb u L) {k : Nat} (hk : refFoot yb u k) : tag w k = 29 ∨ tag w k = 84 := by
  rcases hk with rfl | hk
  · exact .inl (tag_cells h.blk)
  · exact .inr (tag_row h.row hk)

theorem BookAt.tags {w : World} {B bb : Nat} {vi ve vr : Value} {oi oe orr : List (Value × Nat)} (h : BookAt w B bb vi ve vr oi oe orr) {k : Nat} (hk : bookFoot bb vi ve vr k) : tag w k = 36 ∨ tag w k = 65 ∨ tag w k = 67 ∨ tag w k = 71 := by
  rcases hk with rfl | hk | hk | hk
  · exact .inl (tag_cells h.blk)
  · exact .inr (.inl (tag_row h.si.row hk))
  · exact .inr (.inr (.inl (tag_row h.se.row hk)))
  · exact .inr (.inr (.inr (tag_row h.sr.row hk)))

/-- The log stays while only blocks of other kinds are written. -/
theorem LogAt.stay {S : Nat → Prop} {w w2 : World} {B lb bm n : Nat} {v : Value} {s : LogS} (h : LogAt w B lb bm v n s) (f : Fr S w w2) (hS : ∀ k, S k → logFoot lb bm v k → False) : LogAt w2 B lb bm v n s :=
  f.logAt h (fun e => hS _ e (.inl rfl)) (fun e => hS _ e (.inr (.inl rfl))) (fun _ hk e => hS _ e (.inr (.inr hk)))

theorem RefAt.stay {S : Nat → Prop} {w w2 : World} {B yb : Nat} {u : Value} {L : List Ent} (h : RefAt w B yb u L) (f : Fr S w w2) (hS : ∀ k, S k → refFoot yb u k → False) : RefAt w2 B yb u L :=
  f.refAt h (fun e => hS _ e (.inl rfl)) (fun _ hk e => hS _ e (.inr hk))

theorem BookAt.stay {S : Nat → Prop} {w w2 : World} {B bb : Nat} {vi ve vr : Value} {oi oe orr : List (Value × Nat)} (h : BookAt w B bb vi ve vr oi oe orr) (f : Fr S w w2) (hS : ∀ k, S k → bookFoot bb vi ve vr k → False)
    (hL : ∀ o : Value × Nat, (o ∈ oi ∨ o ∈ oe ∨ o ∈ orr) → ∀ k, o.1.ownBlock = some k → ¬ S k) : BookAt w2 B bb vi ve vr oi oe orr :=
  ⟨(f.block bb h.lt (fun e => hS _ e (.inl rfl))).trans h.blk,
   f.shelf h.si (fun _ hk e => hS _ e (.inr (.inl hk))) (fun o ho => hL o (.inl ho)),
   f.shelf h.se (fun _ hk e => hS _ e (.inr (.inr (.inl hk)))) (fun o ho => hL o (.inr (.inl ho))),
   f.shelf h.sr (fun _ hk e => hS _ e (.inr (.inr (.inr hk)))) (fun o ho => hL o (.inr (.inr ho))), h.hb⟩

theorem log_ref {w : World} {B lb bm n yb : Nat} {v u : Value} {s : LogS} {L : List Ent} (h : LogAt w B lb bm v n s) (h2 : RefAt w B yb u L) : ∀ k, logFoot lb bm v k → refFoot yb u k → False := by
  intro k h3 h4
  rcases h.tags h3 with e | e | e <;> rcases h2.tags h4 with e2 | e2 <;> rw [e] at e2 <;> cases e2

theorem log_book {w : World} {B lb bm n bb : Nat} {v vi ve vr : Value} {s : LogS} {oi oe orr : List (Value × Nat)} (h : LogAt w B lb bm v n s) (h2 : BookAt w B bb vi ve vr oi oe orr) : ∀ k, logFoot lb bm v k → bookFoot bb vi ve vr k → False := by
  intro k h3 h4
  rcases h.tags h3 with e | e | e <;> rcases h2.tags h4 with e2 | e2 | e2 | e2 <;> rw [e] at e2 <;> cases e2

theorem ref_book {w : World} {B yb bb : Nat} {u vi ve vr : Value} {L : List Ent} {oi oe orr : List (Value × Nat)} (h : RefAt w B yb u L) (h2 : BookAt w B bb vi ve vr oi oe orr) : ∀ k, refFoot yb u k → bookFoot bb vi ve vr k → False := by
  intro k h3 h4
  rcases h.tags h3 with e | e <;> rcases h2.tags h4 with e2 | e2 | e2 | e2 <;> rw [e] at e2 <;> cases e2

/-- The lists of the book lie apart from the log. -/
theorem log_lists {w : World} {B lb bm n bb : Nat} {v vi ve vr : Value} {s : LogS} {oi oe orr : List (Value × Nat)} (h : LogAt w B lb bm v n s) (h2 : BookAt w B bb vi ve vr oi oe orr) (hd : ∀ o ∈ oe, ∀ k, o.1.ownBlock = some k → v.ownBlock ≠ some k) :
    ∀ o : Value × Nat, (o ∈ oi ∨ o ∈ oe ∨ o ∈ orr) → ∀ k, o.1.ownBlock = some k → ¬ logFoot lb bm v k := by
  intro o ho k hk h3
  rcases ho with ho | ho | ho
  · obtain ⟨len, hx⟩ := h2.si.ok o ho
    have e := tag_row hx hk
    rcases h.tags h3 with e2 | e2 | e2 <;> rw [e] at e2 <;> cases e2
  · obtain ⟨len, hx⟩ := h2.se.ok o ho
    have e := tag_row hx hk
    rcases h3 with rfl | rfl | h3
    · rw [tag_cells h.blk] at e; cases e
    · rw [tag_map h.map] at e; cases e
    · exact hd o ho k hk h3
  · obtain ⟨len, hx⟩ := h2.sr.ok o ho
    have e := tag_row hx hk
    rcases h.tags h3 with e2 | e2 | e2 <;> rw [e] at e2 <;> cases e2

theorem ref_lists {w : World} {B yb bb : Nat} {u vi ve vr : Value} {L : List Ent} {oi oe orr : List (Value × Nat)} (h : RefAt w B yb u L) (h2 : BookAt w B bb vi ve vr oi oe orr) :
    ∀ o : Value × Nat, (o ∈ oi ∨ o ∈ oe ∨ o ∈ orr) → ∀ k, o.1.ownBlock = some k → ¬ refFoot yb u k := by
  intro o ho k hk h3
  have key : ∃ ty : TypeId, tag w k = ty ∧ (ty = 3 ∨ ty = 69 ∨ ty = 73) := by
    rcases ho with ho | ho | ho
    · obtain ⟨len, hx⟩ := h2.si.ok o ho; exact ⟨_, tag_row hx hk, .inl rfl⟩
    · obtain ⟨len, hx⟩ := h2.se.ok o ho; exact ⟨_, tag_row hx hk, .inr (.inl rfl)⟩
    · obtain ⟨len, hx⟩ := h2.sr.ok o ho; exact ⟨_, tag_row hx hk, .inr (.inr rfl)⟩
  obtain ⟨ty, e, hty⟩ := key
  rcases h.tags h3 with e2 | e2 <;> rw [e] at e2 <;> subst e2 <;> rcases hty with h5 | h5 | h5 <;> cases h5

end Go.Proofs.Ytkelpcjiediamaa
