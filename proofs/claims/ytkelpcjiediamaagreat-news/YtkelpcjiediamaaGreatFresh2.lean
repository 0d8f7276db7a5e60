/-
  Two new heralds through a crash and a restart.
-/
import Derived.Test.YtkelpcjiediamaaGreatFresh
import Derived.Test.YtkelpcjiediamaaGreatLast
namespace Go.Proofs.YtkelpcjiediamaaGreat
open Go.RowKit Go.Maps

section
variable {w w' : World} {B xb yb wb : Nat} {h : HS} {y : RS}

/-- Both have turned into others of which the same holds. -/
structure FreshTo (w w' : World) (B xb yb wb : Nat) (h : HS) (y : RS) (up : Bool) (h' : HS) (y' : RS) : Prop where
  to : Fresh w' B xb yb h' y' up
  sx : ∀ k, h'.foot xb k → h.foot xb k
  sy : ∀ k, y'.foot yb k → y.foot yb k
  fr : Fr (fun k => duoF wb xb yb h y k ∧ k ≠ wb) w w'

theorem FreshTo.turned {up : Bool} {h' : HS} {y' : RS} (f : FreshTo w w' B xb yb wb h y up h' y') (hwl : wb < w.heap.size) : Turned (duoF wb xb yb h y) (duoF wb xb yb h' y') wb w w' :=
  ⟨f.fr, fun k hk => .inl (by
    rcases hk with hk | hk | hk
    · exact .inl hk
    · exact .inr (.inl (f.sx k hk))
    · exact .inr (.inr (f.sy k hk))), .inl rfl, fun k hk => by
    rcases hk with rfl | hk | hk
    · exact Nat.lt_of_lt_of_le hwl f.fr.size
    · exact (f.to.fx.foot_lt hk).1
    · exact (f.to.fy.foot_lt hk).1⟩

theorem Fresh.crash (f : Fresh w B xb yb h y true) (hw1 : ¬ h.foot xb wb) (hw2 : ¬ y.foot yb wb) :
    TwoCalls 44 45 (ptr xb) (ptr yb) (duoF wb xb yb h y) wb w fun _ _ w3 => ∃ h' y', FreshTo w w3 B xb yb wb h y false h' y' := by
  refine (crash_any f.fx).mono fun e w2 ⟨h1, h2, h3⟩ => ⟨_, h1, ?_, ?_⟩
  · exact h3.mono (fun k hk => .inl ⟨.inr (.inl (.inl hk)), fun e => hw1 (.inl (by rw [← e]; exact hk))⟩)
  · have y2 : YAt w2 B yb y := f.fy.stay h3 (fun k e hf => duo_apart f.fx f.fy f.ap (.inl e) hf)
    rw [if_pos f.fu] at h2
    refine (ycrash_any y2).mono fun e w3 ⟨k1, k2, k3⟩ => ⟨_, k1, h.fallen, y.crashed, ?_⟩
    have ec : y.crashed = { y with dn := true, br := false } := by simp [RS.crashed, f.fd]
    rw [ec] at k2 ⊢
    refine ⟨⟨h2.stay k3 (fun k e hf => duo_apart h2 y2 f.ap hf (.inl e)), k2, f.fP, f.fQ, rfl, rfl, f.fj, rfl, f.fl, f.fL, f.ft, f.fN, f.fG, f.fO, f.fv, f.fe⟩, fun k hk => hk, fun k hk => hk, ?_⟩
    · have g1 : Fr (fun k => duoF wb xb yb h y k ∧ k ≠ wb) w w2 := h3.mono (fun k hk => .inl ⟨.inr (.inl (.inl hk)), fun e => hw1 (.inl (by rw [← e]; exact hk))⟩)
      exact g1.trans k3 (fun k hk => .inl ⟨.inr (.inr (.inl hk)), fun e => hw2 (.inl (by rw [← e]; exact hk))⟩)

theorem Fresh.restart (f : Fresh w B xb yb h y false) (hw1 : ¬ h.foot xb wb) (hw2 : ¬ y.foot yb wb) :
    TwoCalls 29 46 (ptr xb) (ptr yb) (duoF wb xb yb h y) wb w fun r r2 w3 => (r = .int .i64 0 ∧ r2 = .int .i64 0) ∧ ∃ h' y', FreshTo w w3 B xb yb wb h y true h' y' := by
  refine (restart_nil f.fx f.fu f.fj).mono fun e w2 ⟨h1, h2, h3⟩ => ⟨_, h1, ?_, ?_⟩
  · exact h3.mono (fun k hk => .inl ⟨.inr (.inl (.inl hk)), fun e => hw1 (.inl (by rw [← e]; exact hk))⟩)
  · have y2 : YAt w2 B yb y := f.fy.stay h3 (fun k e hf => duo_apart f.fx f.fy f.ap (.inl e) hf)
    refine (yrestart_nil y2 f.fd f.fL).mono fun e w3 ⟨k1, ⟨H', k2⟩, k3⟩ => ⟨_, k1, ⟨rfl, rfl⟩, h.risen, y.risen H', ?_⟩
    have hk3 : ∀ k, (k = yb ∨ y.hv.ownBlock = some k) → y.foot yb k := fun k hk => by
      rcases hk with hk | hk
      · exact .inl hk
      · exact .inr (.inr (.inr (.inl hk)))
    refine ⟨⟨h2.stay k3 (fun k e hf => duo_apart h2 y2 f.ap hf (hk3 k e)), k2, f.fP, f.fQ, rfl, rfl, f.fj, f.fz, f.fl, f.fL, rfl, f.fN, f.fG, f.fO, f.fv, f.fe⟩, fun k hk => hk, fun k hk => ?_, ?_⟩
    · rcases hk with hk | hk | hk | hk | hk | hk | hk | hk
      · exact .inl hk
      · exact .inr (.inl hk)
      · simp [RS.risen, Value.ownBlock] at hk
      · exact .inr (.inr (.inr (.inl hk)))
      · exact .inr (.inr (.inr (.inr (.inl hk))))
      · exact .inr (.inr (.inr (.inr (.inr (.inl hk)))))
      · exact .inr (.inr (.inr (.inr (.inr (.inr (.inl hk))))))
      · exact .inr (.inr (.inr (.inr (.inr (.inr (.inr hk))))))
    · have g1 : Fr (fun k => duoF wb xb yb h y k ∧ k ≠ wb) w w2 := h3.mono (fun k hk => .inl ⟨.inr (.inl (.inl hk)), fun e => hw1 (.inl (by rw [← e]; exact hk))⟩)
      exact g1.trans k3 (fun k hk => .inl ⟨.inr (.inr (hk3 k hk)), fun e => hw2 (by rw [← e]; exact hk3 k hk)⟩)

/-- What 'last' asks of two new heralds. -/
theorem Fresh.last (f : Fresh w B xb yb h y true) (hw1 : ¬ h.foot xb wb) (hw2 : ¬ y.foot yb wb) (hwl : wb < w.heap.size) :
    ∀ w1, Keep (duoF wb xb yb h y) w w1 → TwoCalls 44 45 (ptr xb) (ptr yb) (duoF wb xb yb h y) wb w1 fun _ _ w3 => Down (ptr xb) (ptr yb) (duoF wb xb yb h y) wb w1 w3 := by
  intro w1 k1
  refine ((f.keep k1).crash hw1 hw2).mono fun e w2 ⟨r, e1, e2, e3⟩ => ⟨r, e1, e2, e3.mono fun e w3 ⟨r2, e4, h', y', t⟩ => ⟨r2, e4, ?_⟩⟩
  have hwl1 : wb < w1.heap.size := Nat.lt_of_lt_of_le hwl k1.size
  refine ⟨duoF wb xb yb h' y', t.turned hwl1, t.to.ask, fun w4 k4 => ?_⟩
  have hw1' : ¬ h'.foot xb wb := fun hf => hw1 (t.sx _ hf)
  have hw2' : ¬ y'.foot yb wb := fun hf => hw2 (t.sy _ hf)
  have hwl4 : wb < w4.heap.size := Nat.lt_of_lt_of_le hwl1 (Nat.le_trans t.fr.size k4.size)
  refine ((t.to.keep k4).restart hw1' hw2').mono fun e w5 ⟨r5, d1, d2, d3⟩ => ⟨r5, d1, d2, d3.mono fun e w6 ⟨r6, d4, d5, h'', y'', t2⟩ => ⟨r6, d4, ⟨0, d5⟩, duoF wb xb yb h'' y'', t2.turned hwl4, t2.to.ask⟩⟩
end

end Go.Proofs.YtkelpcjiediamaaGreat
