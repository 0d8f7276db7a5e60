/-
  What Append and Close do to a log in memory.
-/
import Derived.Test.YtkelpcjiediamaaPut
namespace Go.Proofs.Ytkelpcjiediamaa
open Go.RowKit Go.Maps

def LogS.appendCode (s : LogS) (p t : Int) (x : ByteArray) : Int :=
  if s.isOpen p t = false then 11 else if 8 < x.size then 4 else if 200 ≤ s.d then 12 else 0

def LogS.appended (s : LogS) (p t : Int) (x : ByteArray) : LogS :=
  if s.appendCode p t x = 0 then { (s.put ⟨1, p, t, x⟩) with d := s.d + 1 } else s

def LogS.closeKind (c : Bool) : Int := if c then 2 else 3

def LogS.closed (s : LogS) (p t : Int) (c : Bool) : LogS :=
  if s.isOpen p t then (s.put ⟨LogS.closeKind c, p, t, ⟨#[]⟩⟩).set p t false else s

theorem LogAt.setData {w : World} {B lb bm n d : Nat} {v : Value} {s : LogS} (h : LogAt w B lb bm v n s) :
    LogAt (w.setCell ⟨lb, 1, none⟩ (.int .i64 d)) B lb bm v n { s with d := d } ∧ Fr (fun k => k = lb) w (w.setCell ⟨lb, 1, none⟩ (.int .i64 d)) := by
  have hr : Fr (fun k => k = lb) w (w.setCell ⟨lb, 1, none⟩ (.int .i64 d)) := (Fr.refl (fun k => k = lb) w).setCell (p := ⟨lb, 1, none⟩) (.inl rfl) _
  refine ⟨⟨?_, hr.ownsRow h.row (fun k hk e => h.ne_row (by rw [hk, e])), hr.mapFn h.map (fun e => h.ne e.symm), h.hl, h.hm⟩, hr⟩
  rw [setCell_cells h.blk]; rfl

/-- What a call on a log leaves. -/
structure Left (w w' : World) (B lb bm : Nat) (v v' : Value) (n : Nat) (s' : LogS) : Prop where
  log : LogAt w' B lb bm v' n s'
  fr : Fr (fun k => k = lb ∨ k = bm ∨ v.ownBlock = some k) w w'
  lies : ∀ k, v'.ownBlock = some k → v.ownBlock = some k ∨ w.heap.size ≤ k

set_option maxRecDepth 100000 in
set_option maxHeartbeats 800000 in
theorem append_any {w : World} {B lb bm n : Nat} {v : Value} {s : LogS} (h : LogAt w B lb bm v n s) (p t : Int) (x : ByteArray) (hp : (Lit.int .i64 p).wf = true) (hx : x.size ≤ maxLen) (hb : (s.es.length + 1) * 40 ≤ 140737488355328) :
    Calls Try.prog 10 #[.pointer (some ⟨lb, 0, none⟩), .int .i64 p, .int .i64 t, .string x] w fun e w' => e = .returned (.int .i64 (s.appendCode p t x)) ∧
      ∃ v', Left w w' B lb bm v v' n (s.appended p t x) := by
  unfold maxLen at hx
  have c1 : w.cell? ⟨lb, 1, none⟩ = some (.int .i64 s.d) := by rw [cell_of_cells h.blk]; rfl
  have H : Hid (LogAt w B lb bm v n s) := h
  have HP : Hid ((Lit.int .i64 p).wf = true) := hp
  have HB : Hid ((s.es.length + 1) * 40 ≤ 140737488355328) := hb
  clear h hp hb
  by_cases ho : s.isOpen p t = true
  · by_cases h8 : 8 < x.size
    · have hc : s.appendCode p t x = 4 := by simp [LogS.appendCode, ho, h8]
      have hs : s.appended p t x = s := by simp [LogS.appended, hc]
      rw [hc, hs]
      clear hc hs
      go_enter Try.func10, Try.ntmps10
      go_wp2_with (go_at_call 31; refine (isOpen_any H.out _ _ HP.out).mono ?_; rintro e w' ⟨rfl, rfl⟩)
      go_ret
      exact ⟨rfl, v, H.out, Fr.refl _ _, fun k hk => .inl hk⟩
    · by_cases hd : 200 ≤ s.d
      · have hc : s.appendCode p t x = 12 := by simp [LogS.appendCode, ho, h8, hd]
        have hs : s.appended p t x = s := by simp [LogS.appended, hc]
        rw [hc, hs]
        clear hc hs
        go_enter Try.func10, Try.ntmps10
        go_wp2_with (go_at_call 31; refine (isOpen_any H.out _ _ HP.out).mono ?_; rintro e w' ⟨rfl, rfl⟩)
        go_ret
        exact ⟨rfl, v, H.out, Fr.refl _ _, fun k hk => .inl hk⟩
      · have hc : s.appendCode p t x = 0 := by simp [LogS.appendCode, ho, h8, hd]
        have hs : s.appended p t x = { (s.put ⟨1, p, t, x⟩) with d := s.d + 1 } := by simp [LogS.appended, hc]
        rw [hc, hs]
        clear hc hs
        go_enter Try.func10, Try.ntmps10
        go_wp2_with (first
          | (go_at_call 31; refine (isOpen_any H.out _ _ HP.out).mono ?_; rintro e w' ⟨rfl, rfl⟩)
          | (go_at_call 32; refine (put_any H.out ⟨1, p, t, x⟩ HB.out).mono ?_; rintro e w1 ⟨rfl, v', hl1, hf1, hv1⟩
             have k1 : w1.cell? ⟨lb, 1, none⟩ = some (.int .i64 s.d) := by rw [cell_of_cells hl1.blk]; rfl
             have k2 : w1.frozen? ⟨lb, 1, none⟩ = false := frozen_of_cells hl1.blk 1))
        go_ret
        obtain ⟨r1, r2⟩ := hl1.setData (d := s.d + 1)
        refine ⟨rfl, v', r1, ?_, hv1⟩
        exact (hf1.mono (fun k hk => .inl (by rcases hk with e | e; exact .inl e; exact .inr (.inr e)))).trans r2 (fun k hk => .inl (.inl hk))
  · have hc : s.appendCode p t x = 11 := by simp [LogS.appendCode, ho]
    have hs : s.appended p t x = s := by simp [LogS.appended, hc]
    rw [hc, hs]
    have ho' : s.isOpen p t = false := by simpa using ho
    clear hc hs ho
    go_enter Try.func10, Try.ntmps10
    go_wp2_with (go_at_call 31; refine (isOpen_any H.out _ _ HP.out).mono ?_; rintro e w' ⟨rfl, rfl⟩)
    go_ret
    exact ⟨rfl, v, H.out, Fr.refl _ _, fun k hk => .inl hk⟩

end Go.Proofs.Ytkelpcjiediamaa
