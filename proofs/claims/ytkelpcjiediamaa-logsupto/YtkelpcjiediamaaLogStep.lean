/-
  The walk of one step on both logs.
-/
import Derived.Test.YtkelpcjiediamaaStepLeft
namespace Go.Proofs.Ytkelpcjiediamaa
open Go.RowKit Go.Maps

theorem Left.box {w w1 : World} {B lb bm n n' : Nat} {v v' : Value} {s s' : LogS} {cs : Array Value} {ty : TypeId} (hx : LogAt w B lb bm v n s) (l : Left (w.alloc (.cells cs ty)) w1 B lb bm v v' n' s') (j : Nat) : w1.cell? ⟨w.heap.size, j, none⟩ = cs[j]? :=
  Fr.box (S := logFoot lb bm v) l.fr (fun h => by have := hx.foot_lt h; omega) j

theorem ref_after {w wb w1 : World} {B lb bm yb n n' : Nat} {v u v' : Value} {s s' : LogS} {L : List Ent} (hx : LogAt w B lb bm v n s) (hy : RefAt w B yb u L) (fb : Fr (fun _ => False) w wb) (l1 : Left wb w1 B lb bm v v' n' s') : RefAt w1 B yb u L := by
  have hyb := fb.refAt hy id (fun _ _ => id)
  have hxb := fb.logAt hx id id (fun _ _ => id)
  exact hyb.stay (S := logFoot lb bm v) l1.fr (fun k a b => log_ref hxb hyb k a b)

/-- Room for one step more. -/
structure Room (n : Nat) (oi oe orr : List (Value × Nat)) (s : LogS) (L : List Ent) : Prop where
  n : (n + 4) * 8 ≤ 140737488355328
  es : (s.es.length + 4) * 40 ≤ 140737488355328
  L : (L.length + 4) * 40 ≤ 140737488355328
  oi : (oi.length + 4) * 32 ≤ 140737488355328
  oe : (oe.length + 4) * 32 ≤ 140737488355328
  orr : (orr.length + 4) * 32 ≤ 140737488355328

theorem ret_bool {b : Bool} (h : b = true) : Ending.returned (.bool b) = .returned (.bool true) := by rw [h]

set_option maxRecDepth 100000 in
set_option maxHeartbeats 3200000 in
theorem logStep_write {w : World} {B lb bm yb bb n : Nat} {v u vi ve vr : Value} {oi oe orr : List (Value × Nat)} {s : LogS} {L : List Ent} (hx : LogAt w B lb bm v n s) (hy : RefAt w B yb u L) (hb : BookAt w B bb vi ve vr oi oe orr)
    (hd : ∀ o ∈ oe, ∀ k, o.1.ownBlock = some k → v.ownBlock ≠ some k) (hr : Rel s L) (x : Stp) (hp : I64 x.p) (ht : I64 x.t) (hs : x.s.size ≤ maxLen) (room : Room n oi oe orr s L) (hk : x.k = 1 ∨ x.k = 2 ∨ x.k = 3) :
    Calls Try.prog 7 #[.pointer (some ⟨lb, 0, none⟩), .pointer (some ⟨yb, 0, none⟩), .agg #[.int .i64 x.wh, .int .i64 x.k, .int .i64 x.p, .int .i64 x.t, .string x.s, .bool x.c], .pointer (some ⟨bb, 0, none⟩)] w fun e w' => e = .returned (.bool true) ∧
      ∃ v' u' vi' ve' vr' ni ne nr s' L', StepLeft w w' B lb bm yb bb n v u vi ve vr oi oe orr s L v' u' vi' ve' vr' ni ne nr s' L' := by
  obtain ⟨xw, xk, xp, xt, xs, xc⟩ := x
  simp only at hp ht hs hk
  have HX : Hid (LogAt w B lb bm v n s) := hx
  have HY : Hid (RefAt w B yb u L) := hy
  have HB : Hid (BookAt w B bb vi ve vr oi oe orr) := hb
  have HD : Hid (∀ o ∈ oe, ∀ k, o.1.ownBlock = some k → v.ownBlock ≠ some k) := hd
  have HR : Hid (Rel s L) := hr
  have HP : Hid (I64 xp) := hp
  have HT : Hid (I64 xt) := ht
  have HS : Hid (xs.size ≤ maxLen) := hs
  have HN : Hid (n < maxLen) := by have := room.n; show n < maxLen; simp only [maxLen]; omega
  have HE : Hid ((s.es.length + 1) * 40 ≤ 140737488355328) := by have := room.es; show (s.es.length + 1) * 40 ≤ 140737488355328; omega
  have HL : Hid ((L.length + 1) * 40 ≤ 140737488355328) := by have := room.L; show (L.length + 1) * 40 ≤ 140737488355328; omega
  clear hx hy hb hd hr hp ht hs room
  rcases hk with rfl | rfl | rfl
  · go_enter Try.func7, Try.ntmps7
    go_wp2_with (first
      | (go_at_call 9; refine (open_left (by exact (nofr _).logAt HX.out id id (fun _ _ => id)) xp xt HP.out HN.out).mono ?_; rintro e w1 ⟨rfl, hl1⟩
         have HL1 : Hid (Left (w.alloc (.cells #[.int .i64 xw, .int .i64 1, .int .i64 xp, .int .i64 xt, .string xs, .bool xc] 39)) w1 B lb bm v v (n + 1) (s.opened xp xt)) := hl1
         have y2 : w1.cell? ⟨w.heap.size, 2, none⟩ = some (.int .i64 xp) := hl1.box HX.out 2
         have y3 : w1.cell? ⟨w.heap.size, 3, none⟩ = some (.int .i64 xt) := hl1.box HX.out 3
         clear hl1)
      | (go_at_call 17; refine (rOpen_step (ref_after HX.out HY.out (nofr _) HL1.out) xp xt HL.out).mono ?_; rintro e w2 ⟨rfl, u2, hl2⟩
         have HL2 : Hid (RLeft w1 w2 B yb u u2 (rOpened L xp xt)) := hl2
         clear hl2))
    go_ret
    exact ⟨by refine ret_bool ?_; rw [HR.out.can]; simp, _, _, _, _, _, _, _, _, _, _, stepWrite HX.out HY.out HB.out HD.out (nofr _) HL1.out HL2.out (HR.out.opened xp xt HP.out HT.out) (opened_len _ _ _) (rOpened_len _ _ _)⟩
  · go_enter Try.func7, Try.ntmps7
    go_wp2_with (first
      | (go_at_call 10; refine (append_left (by exact (nofr _).logAt HX.out id id (fun _ _ => id)) xp xt xs HP.out HS.out HE.out).mono ?_; rintro e w1 ⟨rfl, v1, hl1⟩
         have HL1 : Hid (Left (w.alloc (.cells #[.int .i64 xw, .int .i64 2, .int .i64 xp, .int .i64 xt, .string xs, .bool xc] 39)) w1 B lb bm v v1 (n + 1) (s.appended xp xt xs)) := hl1
         have y2 : w1.cell? ⟨w.heap.size, 2, none⟩ = some (.int .i64 xp) := hl1.box HX.out 2
         have y3 : w1.cell? ⟨w.heap.size, 3, none⟩ = some (.int .i64 xt) := hl1.box HX.out 3
         have y4 : w1.cell? ⟨w.heap.size, 4, none⟩ = some (.string xs) := hl1.box HX.out 4
         clear hl1)
      | (go_at_call 18; refine (rAppend_step (ref_after HX.out HY.out (nofr _) HL1.out) xp xt xs HS.out HL.out).mono ?_; rintro e w2 ⟨rfl, u2, hl2⟩
         have HL2 : Hid (RLeft w1 w2 B yb u u2 (rAppended L xp xt xs)) := hl2
         clear hl2))
    go_ret
    exact ⟨by refine ret_bool ?_; rw [HR.out.code]; simp, _, _, _, _, _, _, _, _, _, _, stepWrite HX.out HY.out HB.out HD.out (nofr _) HL1.out HL2.out (HR.out.appended xp xt xs HP.out HT.out) (appended_len _ _ _ _) (rAppended_len _ _ _ _)⟩
  · go_enter Try.func7, Try.ntmps7
    go_wp2_with (first
      | (go_at_call 11; refine (close_any (by exact (nofr _).logAt HX.out id id (fun _ _ => id)) xp xt xc HP.out HN.out HE.out).mono ?_; rintro e w1 ⟨rfl, v1, hl1⟩
         have HL1 : Hid (Left (w.alloc (.cells #[.int .i64 xw, .int .i64 3, .int .i64 xp, .int .i64 xt, .string xs, .bool xc] 39)) w1 B lb bm v v1 (n + 1) (s.closed xp xt xc)) := hl1
         have y2 : w1.cell? ⟨w.heap.size, 2, none⟩ = some (.int .i64 xp) := hl1.box HX.out 2
         have y3 : w1.cell? ⟨w.heap.size, 3, none⟩ = some (.int .i64 xt) := hl1.box HX.out 3
         have y5 : w1.cell? ⟨w.heap.size, 5, none⟩ = some (.bool xc) := hl1.box HX.out 5
         clear hl1)
      | (go_at_call 19; refine (rClose_step (ref_after HX.out HY.out (nofr _) HL1.out) xp xt xc HL.out).mono ?_; rintro e w2 ⟨rfl, u2, hl2⟩
         have HL2 : Hid (RLeft w1 w2 B yb u u2 (rClosed L xp xt xc)) := hl2
         clear hl2))
    go_ret
    exact ⟨by refine ret_bool ?_; rw [HR.out.op]; simp, _, _, _, _, _, _, _, _, _, _, stepWrite HX.out HY.out HB.out HD.out (nofr _) HL1.out HL2.out (HR.out.closed xp xt xc HP.out HT.out) (closed_len _ _ _ _) (rClosed_len _ _ _ _)⟩

end Go.Proofs.Ytkelpcjiediamaa
