/-
  What Close does to a log in memory.
-/
import Derived.Test.YtkelpcjiediamaaAppend
namespace Go.Proofs.Ytkelpcjiediamaa
open Go.RowKit Go.Maps

set_option maxRecDepth 100000 in
set_option maxHeartbeats 800000 in
theorem close_any {w : World} {B lb bm n : Nat} {v : Value} {s : LogS} (h : LogAt w B lb bm v n s) (p t : Int) (c : Bool) (hp : (Lit.int .i64 p).wf = true) (hn : n < maxLen) (hb : (s.es.length + 1) * 40 ≤ 140737488355328) :
    Calls Try.prog 11 #[.pointer (some ⟨lb, 0, none⟩), .int .i64 p, .int .i64 t, .bool c] w fun e w' => e = .returned (.bool (s.isOpen p t)) ∧
      ∃ v', Left w w' B lb bm v v' (n + 1) (s.closed p t c) := by
  have H : Hid (LogAt w B lb bm v n s) := h
  have HP : Hid ((Lit.int .i64 p).wf = true) := hp
  have HN : Hid (n < maxLen) := hn
  have HK : Hid (keyOf Try.prog 3 (.int .i64 p) = some (.int .i64 p)) := keyOf_int_mk Try.underlying3 hp
  have HB : Hid ((s.es.length + 1) * 40 ≤ 140737488355328) := hb
  clear h hp hb hn
  by_cases ho : s.isOpen p t = true
  · cases c
    · have hs : s.closed p t false = (s.put ⟨3, p, t, ⟨#[]⟩⟩).set p t false := by simp [LogS.closed, ho, LogS.closeKind]
      rw [hs, ho]
      clear hs
      go_enter Try.func11, Try.ntmps11
      go_wp2_with (first
        | (go_at_call 31; refine (isOpen_any H.out _ _ HP.out).mono ?_; rintro e w' ⟨rfl, rfl⟩)
        | (go_at_call 32; refine (put_any H.out ⟨3, p, t, ⟨#[]⟩⟩ HB.out).mono ?_; rintro e w1 ⟨rfl, v', hl1, hf1, hv1⟩
           have k1 : w1.cell? ⟨lb, 2, none⟩ = some (.map (some bm)) := by rw [cell_of_cells hl1.blk]; rfl)
        | (at_mapUpdate; refine wpList_store_fn _ rfl _ _ _ 54 rfl 3 75 law3 Try.underlying54 bm n (nwFn s.nw) rfl (by exact hl1.map) HN.out _ _ _ rfl rfl HK.out (nwFn ((s.put ⟨3, p, t, ⟨#[]⟩⟩).set p t false).nw) (nwFn_set1 _ _ _ _) (nwFn_set2 _ _ _ _) ?_; intro w2 hm2 ht2))
      go_ret
      have f2 : Fr (fun k => k = bm) w1 w2 := (Fr.refl (fun k => k = bm) w1).turned ht2 (.inl rfl)
      refine ⟨rfl, v', hl1.mapSet f2 hm2, ?_, hv1⟩
      exact (hf1.mono (fun k hk => .inl (by rcases hk with e | e; exact .inl e; exact .inr (.inr e)))).trans f2 (fun k hk => .inl (.inr (.inl hk)))
    · have hs : s.closed p t true = (s.put ⟨2, p, t, ⟨#[]⟩⟩).set p t false := by simp [LogS.closed, ho, LogS.closeKind]
      rw [hs, ho]
      clear hs
      go_enter Try.func11, Try.ntmps11
      go_wp2_with (first
        | (go_at_call 31; refine (isOpen_any H.out _ _ HP.out).mono ?_; rintro e w' ⟨rfl, rfl⟩)
        | (go_at_call 32; refine (put_any H.out ⟨2, p, t, ⟨#[]⟩⟩ HB.out).mono ?_; rintro e w1 ⟨rfl, v', hl1, hf1, hv1⟩
           have k1 : w1.cell? ⟨lb, 2, none⟩ = some (.map (some bm)) := by rw [cell_of_cells hl1.blk]; rfl)
        | (at_mapUpdate; refine wpList_store_fn _ rfl _ _ _ 54 rfl 3 75 law3 Try.underlying54 bm n (nwFn s.nw) rfl (by exact hl1.map) HN.out _ _ _ rfl rfl HK.out (nwFn ((s.put ⟨2, p, t, ⟨#[]⟩⟩).set p t false).nw) (nwFn_set1 _ _ _ _) (nwFn_set2 _ _ _ _) ?_; intro w2 hm2 ht2))
      go_ret
      have f2 : Fr (fun k => k = bm) w1 w2 := (Fr.refl (fun k => k = bm) w1).turned ht2 (.inl rfl)
      refine ⟨rfl, v', hl1.mapSet f2 hm2, ?_, hv1⟩
      exact (hf1.mono (fun k hk => .inl (by rcases hk with e | e; exact .inl e; exact .inr (.inr e)))).trans f2 (fun k hk => .inl (.inr (.inl hk)))
  · have hs : s.closed p t c = s := by simp [LogS.closed, ho]
    have ho' : s.isOpen p t = false := by simpa using ho
    rw [hs, ho']
    clear hs ho
    go_enter Try.func11, Try.ntmps11
    go_wp2_with (go_at_call 31; refine (isOpen_any H.out _ _ HP.out).mono ?_; rintro e w' ⟨rfl, rfl⟩)
    go_ret
    exact ⟨rfl, v, H.out.mono (by omega), Fr.refl _ _, fun k hk => .inl hk⟩

end Go.Proofs.Ytkelpcjiediamaa
