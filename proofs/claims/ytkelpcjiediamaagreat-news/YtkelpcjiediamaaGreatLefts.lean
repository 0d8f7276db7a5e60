/-
  What calls on a log leave, in short.
-/
import Derived.Test.YtkelpcjiediamaaGreatInv
namespace Go.Proofs.YtkelpcjiediamaaGreat
open Go.RowKit Go.Maps

theorem i64_0 : I64 0 := by show (Lit.int .i64 0).wf = true; decide
theorem i64_1 : I64 1 := by show (Lit.int .i64 1).wf = true; decide

theorem opened_len (s : LogS) (p t : Int) : (s.opened p t).es.length ≤ s.es.length + 1 := by unfold LogS.opened; split <;> simp [LogS.set]
theorem appended_len (s : LogS) (p t : Int) (x : ByteArray) : (s.appended p t x).es.length ≤ s.es.length + 1 := by unfold LogS.appended; split <;> simp [LogS.put]
theorem closed_len (s : LogS) (p t : Int) (c : Bool) : (s.closed p t c).es.length ≤ s.es.length + 1 := by unfold LogS.closed; split <;> simp [LogS.put, LogS.set]

theorem open_left {w : World} {B lb bm n : Nat} {v : Value} {s : LogS} (h : LogAt w B lb bm v n s) (p t : Int) (hp : I64 p) (hn : n < maxLen) :
    Calls Tryz.prog 126 #[.pointer (some ⟨lb, 0, none⟩), .int .i64 p, .int .i64 t] w fun e w' => e = .returned (.bool (s.canOpen p t)) ∧ Left w w' B lb bm v v (n + 1) (s.opened p t) :=
  (open_any h p t hp hn).mono fun _ _ ⟨h1, h2, h3⟩ => ⟨h1, h2, h3.mono (fun _ e => .inl (.inr (.inl e))), fun _ hk => .inl hk⟩

theorem append_left {w : World} {B lb bm n : Nat} {v : Value} {s : LogS} (h : LogAt w B lb bm v n s) (p t : Int) (x : ByteArray) (hp : I64 p) (hx : x.size ≤ maxLen) (hb : (s.es.length + 1) * 40 ≤ 140737488355328) :
    Calls Tryz.prog 136 #[.pointer (some ⟨lb, 0, none⟩), .int .i64 p, .int .i64 t, .string x] w fun e w' => e = .returned (.int .i64 (s.appendCode p t x)) ∧ ∃ v', Left w w' B lb bm v v' (n + 1) (s.appended p t x) :=
  (append_any h p t x hp hx hb).mono fun _ _ ⟨h1, v', h2⟩ => ⟨h1, v', h2.log.mono (by omega), h2.fr, h2.lies⟩

end Go.Proofs.YtkelpcjiediamaaGreat
