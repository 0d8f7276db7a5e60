/-
  A list is handed over to the book (kind E).
-/
import Derived.Test.YtkelpcjiediamaaOwnPre
namespace Go.Proofs.Ytkelpcjiediamaa
open Go.RowKit Go.Maps

set_option maxRecDepth 100000 in
set_option maxHeartbeats 1600000 in
theorem ownE_any {w : World} {B bb : Nat} {vi ve vr l : Value} {oi oe orr : List (Value × Nat)} {n : Nat} {xs : List Value} (h : BookAt w B bb vi ve vr oi oe orr) (hl : w.ownsRow B 69 4 l n xs)
    (hold : ∀ o ∈ oe, ∀ k, o.1.ownBlock = some k → l.ownBlock ≠ some k) (hb1 : (oe.length + 4) * 32 ≤ 140737488355328) (hb2 : (n + 3) * 40 ≤ 140737488355328) :
    Calls Try.prog 22 #[.pointer (some ⟨bb, 0, none⟩), l] w fun e w' => e = .returned (.tuple #[]) ∧ ∃ v' news, OwnedE w w' B bb vi ve vr oi oe orr l v' news ∧ news.length = 4 ∧ ∀ o ∈ news, o.2 = oe.length := by
  obtain ⟨i0, hi0, hz0, hz1, hz2⟩ := info_parts info67
  obtain ⟨i1, hi1, hy0, hy1, hy2⟩ := info_parts info69
  obtain ⟨va, vcap, rfl, hvl⟩ := outRow_len h.se.row
  obtain ⟨la, lcap, rfl, hnl⟩ := anyRow_len hl
  unfold maxLen at hvl hnl
  have H : Hid (BookAt w B bb vi (.slice va oe.length vcap) vr oi oe orr) := h
  have HL : Hid (w.ownsRow B 69 4 (.slice la n lcap) n xs) := hl
  have HOLD : Hid (∀ o ∈ oe, ∀ k, o.1.ownBlock = some k → Value.ownBlock (.slice la n lcap) ≠ some k) := hold
  have HB1 : Hid ((oe.length + 4) * 32 ≤ 140737488355328) := hb1
  have HB2 : Hid ((n + 3) * 40 ≤ 140737488355328) := hb2
  have hK : (oe.length : Int) ≤ 140737488355328 := by omega
  have hbs := h.lt
  have k0 : w.cell? ⟨bb, 1, none⟩ = some (.slice va oe.length vcap) := by rw [cell_of_cells h.blk]; rfl
  clear h hl hold hb1 hb2
  go_enter Try.func22, Try.ntmps22
  go_wp2_with fail
  go_loopw [6] (fun i w' => ∃ (j : Nat) (ys : List Value), j ≤ n ∧ i = .int .i64 j ∧ w'.ownsRow B 69 4 (.slice la n lcap) n ys ∧ (∀ q, q < j * 4 → ys[q]? = (rep n (mkE oe.length))[q]?) ∧ Fr (fun x => Value.ownBlock (.slice la n lcap) = some x) (w.alloc (.cells #[.int .i64 (-1 - (oe.length : Int)), .int .i64 0, .int .i64 0, .string ⟨#[]⟩] 69)) w') (fun i _ => n - (intOf i).toNat)
  case atStart => exact ⟨0, xs, Nat.zero_le _, rfl, (nofr _).ownsRow HL.out (fun _ _ => id), fun q hq => by omega, Fr.refl _ _⟩
  case round =>
    obtain ⟨j, ys, hj, rfl, hys, hpt, hfr⟩ := hrel
    have HY : Hid (wr.ownsRow B 69 4 (.slice la n lcap) n ys) := hys
    have HP : Hid (∀ q, q < j * 4 → ys[q]? = (rep n (mkE oe.length))[q]?) := hpt
    have HF : Hid (Fr (fun x => Value.ownBlock (.slice la n lcap) = some x) (w.alloc (.cells #[.int .i64 (-1 - (oe.length : Int)), .int .i64 0, .int .i64 0, .string ⟨#[]⟩] 69)) wr) := hfr
    have hbox : wr.heap[w.heap.size]? = some (.cells #[.int .i64 (-1 - (oe.length : Int)), .int .i64 0, .int .i64 0, .string ⟨#[]⟩] 69 (0, 0)) := (hfr.block w.heap.size (by simp) (fun e => by have := (HL.out.lt _ e).2; omega)).trans (heap_alloc_new w _)
    have x0 : wr.cell? ⟨w.heap.size, 0, none⟩ = some (.int .i64 (-1 - (oe.length : Int))) := by rw [cell_of_cells hbox]; rfl
    have x1 : wr.cell? ⟨w.heap.size, 1, none⟩ = some (.int .i64 0) := by rw [cell_of_cells hbox]; rfl
    have x2 : wr.cell? ⟨w.heap.size, 2, none⟩ = some (.int .i64 0) := by rw [cell_of_cells hbox]; rfl
    have x3 : wr.cell? ⟨w.heap.size, 3, none⟩ = some (.string ⟨#[]⟩) := by rw [cell_of_cells hbox]; rfl
    have HBOX : Hid (wr.heap[w.heap.size]? = some (.cells #[.int .i64 (-1 - (oe.length : Int)), .int .i64 0, .int .i64 0, .string ⟨#[]⟩] 69 (0, 0))) := hbox
    clear hbox
    clear hys hpt hfr
    by_cases hlt : j < n
    · rcases HY.out.2 with ⟨e, h0⟩ | ⟨g, cap, cur, e, hBg, hg, hnc, hcm, hcs, htk⟩
      · omega
      · simp only [Value.slice.injEq] at e
        obtain ⟨rfl, _, rfl⟩ := e
        have fz : ∀ o, wr.frozen? ⟨g, o, none⟩ = false := fun o => frozen_of_cells hg o
        have cz : ∀ q, q < 4 → ∃ u, wr.cell? ⟨g, j * 4 + q, none⟩ = some u := fun q hq => by
          have hlt2 : j * 4 + q < ys.length := by rw [HY.out.1]; omega
          have := HY.out.cells (g := g) rfl (j * 4 + q) _ (List.getElem?_eq_getElem hlt2)
          rw [Addr.add_lit] at this
          exact ⟨_, by simpa using this⟩
        obtain ⟨u0x, c0⟩ := cz 0 (by omega)
        obtain ⟨u1x, c1⟩ := cz 1 (by omega)
        obtain ⟨u2x, c2⟩ := cz 2 (by omega)
        obtain ⟨u3x, c3⟩ := cz 3 (by omega)
        simp only [Nat.add_zero] at c0
        have HG : Hid (wr.heap[g]? = some (.cells cur 69 (0, 0))) := hg
        clear hg hcm hcs htk cz
        go_wp2
        go_roundw
        case rel =>
          have hset := ownsRow_setAll HY.out (o := j * 4) (mc := mkE oe.length) (by show j * 4 + 4 ≤ n * 4; omega)
          have hfrs := (Fr.refl (fun x => Value.ownBlock (.slice (some ⟨g, 0, none⟩) n lcap) = some x) wr).wset (g := g) (.inl rfl) (j * 4) (mkE oe.length)
          refine ⟨j + 1, setAll ys (j * 4) (mkE oe.length), by omega, by go_num, ?_, mark_step rfl HY.out.1 hlt HP.out, ?_⟩
          · exact hset
          · exact HF.out.trans hfrs (fun _ h => .inl h)
        case measure => simp [intOf]; omega
    · have hjn : j = n := by omega
      subst hjn
      have hrep : ys = rep j (mkE oe.length) := rep_ext rfl HY.out.1 HP.out
      have HFW : Hid (Fr (fun x => Value.ownBlock (.slice la j lcap) = some x) w wr) := ((Fr.refl _ _).alloc _).trans HF.out (fun _ h => .inl h)
      have HY2 : Hid (wr.ownsRow B 69 4 (.slice la j lcap) j (rep j (mkE oe.length))) := by have := HY.out; rw [hrep] at this; exact this
      have HB : Hid (BookAt wr B bb vi (.slice va oe.length vcap) vr oi oe orr) := by
        have h1 : BookAt w B bb vi (.slice va oe.length vcap) vr oi (oe ++ []) orr := by rw [List.append_nil]; exact H.out
        have := h1.growE HL.out HFW.out HOLD.out (by simp)
        rw [List.append_nil] at this
        exact this
      have k1 : wr.cell? ⟨bb, 1, none⟩ = some (.slice va oe.length vcap) := by rw [cell_of_cells HB.out.blk]; rfl
      have f1 : wr.frozen? ⟨bb, 1, none⟩ = false := frozen_of_cells HB.out.blk 1
      have hbw := HB.out.lt
      have hnr : Value.ownBlock (.slice va oe.length vcap) ≠ some bb := row_block_apart HB.out.se.row HB.out.blk (by decide)
      clear hrep HY HP
      go_wp2_with (at_builtin; refine wpList_append_lies _ rfl _ _ 33 rfl B 67 i0 _ 2 32 Try.underlying33 hi0 hz0 hz1 hz2 rfl (by decide) _ oe.length (outCells oe) rfl (by exact HB.out.se.row.alloc _) ⟨wr.heap.size, 0, none⟩ 1 1 [.slice la j lcap, .int .i64 oe.length] rfl rfl (World.news_of_block (cs := #[.slice la j lcap, .int .i64 oe.length]) (t := 67) (fr := (0, 0)) (heap_alloc_new _ _)) (by simp [Value.oneCell']) (by decide) (by have := HB1.out; simp only [maxLen]; omega) (by have := HB1.out; omega) (by have := HB.out.hb; simp; omega) (wr.heap.size + 1) (by simp) ?_; intro gg gcap w3 hown3 hgrow3 hat3 hlt3; have q0 := hgrow3.cell_far ⟨bb, 1, none⟩ (by simp; omega) (Ne.symm hnr); have q1 := hgrow3.frozen_far ⟨bb, 1, none⟩ (by simp; omega) (Ne.symm hnr); rw [World.cell?_alloc_past _ _ _ hbw, k1] at q0; rw [frozen_alloc hbw, f1] at q1)
      have hpp := HB.out.putE (l := .slice la j lcap) (K := oe.length) (nofr _) hgrow3 hown3 (lies_of hat3) ⟨_, HY2.out⟩
      obtain ⟨hp1, hp2⟩ := hpp
      have M0 : Hid (MidE w (w3.setCell ⟨bb, 1, none⟩ (.slice (some ⟨gg, 0, none⟩) (oe.length + 1) gcap)) B bb vi (.slice va oe.length vcap) vr oi oe orr (.slice la j lcap) (.slice la j lcap) (.slice (some ⟨gg, 0, none⟩) (oe.length + 1) gcap) [(.slice la j lcap, oe.length)] j (w.heap.size + 1)) := by
        have far : ∀ k, Value.ownBlock (.slice la j lcap) = some k → ¬ (k = bb ∨ Value.ownBlock (.slice va oe.length vcap) = some k) := fun k hk => by
          rintro (e | e)
          · subst e; exact row_block_apart HY2.out HB.out.blk (by decide) hk
          · exact rows_apart HY2.out HB.out.se.row (by decide) k hk e
        have hr := hp2.ownsRow HY2.out far
        refine ⟨⟨hp1, (HFW.out.mono (fun k h => .inl (.inr (.inr h)))).trans hp2 (fun k hk => .inl (by rcases hk with e | e; exact .inl e; exact .inr (.inl e))), fun o ho k hk => ?_, fun k hk => ?_⟩, hr, fun o ho => ?_, fun k hk => .inl hk⟩
        · simp only [List.mem_singleton] at ho; subst ho; exact .inl hk
        · rcases lies_of hat3 k hk with h1 | h1
          · exact .inl h1
          · exact .inr (Nat.le_trans HFW.out.size h1)
        · simp only [List.mem_singleton] at ho; subst ho; exact ⟨rfl, NewOK.self hr⟩
      have BX0 : Hid ((w3.setCell ⟨bb, 1, none⟩ (.slice (some ⟨gg, 0, none⟩) (oe.length + 1) gcap)).heap[w.heap.size]? = some (.cells #[.int .i64 (-1 - (oe.length : Int)), .int .i64 0, .int .i64 0, .string ⟨#[]⟩] 69 (0, 0))) := (hp2.block w.heap.size (lt_of_block HBOX.out) (by rintro (e | e); exact absurd e (by have := H.out.lt; omega); exact rows_apart_box HBOX.out HB.out.se.row (by decide) e)).trans HBOX.out
      clear hown3 hgrow3 hat3 hlt3 q0 q1 hp1 hp2 hlt
      rename World => wo
      go_loopw [1, 7] (fun lv iv w' => ∃ (c : Nat) (v' : Value) (news : List (Value × Nat)), c ≤ 3 ∧ iv = .int .i64 c ∧ news.length = c + 1 ∧ MidE w w' B bb vi (.slice va oe.length vcap) vr oi oe orr (.slice la j lcap) lv v' news (j + c) (w.heap.size + 1) ∧ w'.heap[w.heap.size]? = some (.cells #[.int .i64 (-1 - (oe.length : Int)), .int .i64 0, .int .i64 0, .string ⟨#[]⟩] 69 (0, 0))) (fun _ iv _ => 3 - (intOf iv).toNat)
      case atStart => exact ⟨0, _, _, by omega, rfl, rfl, M0.out, BX0.out⟩
      case round =>
        obtain ⟨c, v', news, hc3, rfl, hnews, hmid, hbx⟩ := hrel
        have HM : Hid (MidE w wr B bb vi (.slice va oe.length vcap) vr oi oe orr (.slice la j lcap) u1 v' news (j + c) (w.heap.size + 1)) := hmid
        obtain ⟨v2a, v2cap, hv2, hml⟩ := outRow_len hmid.own.book.se.row
        obtain ⟨N2, hN2⟩ : ∃ N2, (oe ++ news).length = N2 := ⟨_, rfl⟩
        rw [hN2] at hv2
        subst hv2
        have HN2 : Hid ((oe ++ news).length = N2) := hN2
        clear hml
        have hol : N2 = oe.length + (c + 1) := by rw [← hN2, List.length_append, hnews]
        clear hN2
        have HM : Hid (MidE w wr B bb vi (.slice va oe.length vcap) vr oi oe orr (.slice la j lcap) u1 (.slice v2a N2 v2cap) news (j + c) (w.heap.size + 1)) := hmid
        have HNW : Hid (news.length = c + 1) := hnews
        have hszw := hmid.own.fr.size
        have HBX : Hid (wr.heap[w.heap.size]? = some (.cells #[.int .i64 (-1 - (oe.length : Int)), .int .i64 0, .int .i64 0, .string ⟨#[]⟩] 69 (0, 0))) := hbx
        have b0 : wr.cell? ⟨w.heap.size, 0, none⟩ = some (.int .i64 (-1 - (oe.length : Int))) := by rw [cell_of_cells hbx]; rfl
        have b1 : wr.cell? ⟨w.heap.size, 1, none⟩ = some (.int .i64 0) := by rw [cell_of_cells hbx]; rfl
        have b2 : wr.cell? ⟨w.heap.size, 2, none⟩ = some (.int .i64 0) := by rw [cell_of_cells hbx]; rfl
        have b3 : wr.cell? ⟨w.heap.size, 3, none⟩ = some (.string ⟨#[]⟩) := by rw [cell_of_cells hbx]; rfl
        clear hmid hnews hbx
        by_cases hclt : c < 3
        · have HSZ : Hid (w.heap.size + 1 ≤ wr.heap.size) := lt_of_block HBX.out
          have HX1 : Hid (j + c + 1 ≤ maxLen) := bnd0 (b := 40) (by decide) HB2.out hclt
          have HX2 : Hid ((j + c + 1) * 40 ≤ 140737488355328) := bnd1 HB2.out hclt
          have HX3 : Hid (B ≤ wr.heap.size) := Nat.le_trans HM.out.own.book.hb (Nat.le_of_lt HM.out.own.book.lt)
          have HX4 : Hid (N2 + 1 ≤ maxLen) := bnd2 hol HB1.out hclt
          have HX5 : Hid ((N2 + 1) * 32 ≤ 140737488355328) := bnd3 hol HB1.out hclt
          have HX6 : ∀ m ∈ mkE oe.length, m.oneCell' = true := by simp [mkE, Value.oneCell']
          have HX7 : Hid (∀ m ∈ mkE oe.length, m.oneCell' = true) := HX6
          clear HX6 hol
          go_wp2_with (at_builtin; refine wpList_append_two _ rfl _ _ 49 rfl B 69 i1 _ 4 40 Try.underlying49 hi1 hy0 hy1 hy2 rfl _ (j + c) (rep (j + c) (mkE oe.length)) rfl (by exact HM.out.row.alloc _) ⟨wr.heap.size, 0, none⟩ 1 (mkE oe.length) rfl rfl (World.news_of_block (cs := #[.int .i64 (-1 - (oe.length : Int)), .int .i64 0, .int .i64 0, .string ⟨#[]⟩]) (t := 69) (fr := (0, 0)) (heap_alloc_new _ _)) HX7.out HX1.out HX2.out (by rw [World.size_alloc]; exact Nat.le_succ_of_le HX3.out) ?_)
          intro g4 cap4 w4 hown4 hc4
          have hc4 : (u1 = .slice (some ⟨g4, 0, none⟩) (j + c) cap4 ∧ (wr.alloc (.cells #[.int .i64 (-1 - (oe.length : Int)), .int .i64 0, .int .i64 0, .string ⟨#[]⟩] 69)).grownBy w4 (some g4)) ∨ (g4 = (wr.alloc (.cells #[.int .i64 (-1 - (oe.length : Int)), .int .i64 0, .int .i64 0, .string ⟨#[]⟩] 69)).heap.size ∧ (wr.alloc (.cells #[.int .i64 (-1 - (oe.length : Int)), .int .i64 0, .int .i64 0, .string ⟨#[]⟩] 69)).grownBy w4 none) := by
            rcases hc4 with h1 | ⟨h1, h2⟩
            · exact .inl h1
            · exact .inr ⟨by rw [World.size_alloc]; exact h1, h2⟩
          have HM4 : Hid (MidE w w4 B bb vi (.slice va oe.length vcap) vr oi oe orr (.slice la j lcap) (.slice (some ⟨g4, 0, none⟩) (j + c + 1) cap4) (.slice v2a N2 v2cap) news (j + c + 1) (w.heap.size + 1)) := HM.out.grown H.out (by omega) HSZ.out HOLD.out (nofr _) hown4 hc4
          have BX4 : Hid (w4.heap[w.heap.size]? = some (.cells #[.int .i64 (-1 - (oe.length : Int)), .int .i64 0, .int .i64 0, .string ⟨#[]⟩] 69 (0, 0))) := box_keep HBX.out HM.out.lvl HL.out (nofr _) hc4
          clear hown4 hc4
          have R4 : Hid (w4.ownsRow B 67 2 (.slice v2a N2 v2cap) N2 (outCells (oe ++ news))) := by have := HM4.out.own.book.se.row; rw [HN2.out] at this; exact this
          have k4 : w4.cell? ⟨bb, 1, none⟩ = some (.slice v2a N2 v2cap) := (by rw [cell_of_cells HM4.out.own.book.blk]; rfl)
          have f4 : w4.frozen? ⟨bb, 1, none⟩ = false := frozen_of_cells HM4.out.own.book.blk 1
          have hb4 := HM4.out.own.book.lt
          have hn4 : Value.ownBlock (.slice v2a N2 v2cap) ≠ some bb := row_block_apart HM4.out.own.book.se.row HM4.out.own.book.blk (by decide)
          go_wp2_with (at_builtin; refine wpList_append_lies _ rfl _ _ 33 rfl B 67 i0 _ 2 32 Try.underlying33 hi0 hz0 hz1 hz2 rfl (by decide) _ N2 (outCells (oe ++ news)) rfl (by exact R4.out.alloc _) ⟨w4.heap.size, 0, none⟩ 1 1 [.slice (some ⟨g4, 0, none⟩) (j + c + 1) cap4, .int .i64 oe.length] rfl rfl (World.news_of_block (cs := #[.slice (some ⟨g4, 0, none⟩) (j + c + 1) cap4, .int .i64 oe.length]) (t := 67) (fr := (0, 0)) (heap_alloc_new _ _)) (by simp [Value.oneCell']) (by decide) HX4.out HX5.out (by rw [World.size_alloc]; exact Nat.le_succ_of_le (Nat.le_trans HM4.out.own.book.hb (Nat.le_of_lt HM4.out.own.book.lt))) (w4.heap.size + 1) (by simp) ?_)
          intro g5 cap5 w5 hown5 hgrow5 hat5 hlt5
          have q0 := hgrow5.cell_far ⟨bb, 1, none⟩ (by simp; omega) (Ne.symm hn4)
          have q1 := hgrow5.frozen_far ⟨bb, 1, none⟩ (by simp; omega) (Ne.symm hn4)
          rw [World.cell?_alloc_past _ _ _ hb4, k4] at q0
          rw [frozen_alloc hb4, f4] at q1
          go_wp2
          have HM5 : Hid (MidE w (w5.setCell ⟨bb, 1, none⟩ (.slice (some ⟨g5, 0, none⟩) (N2 + 1) cap5)) B bb vi (.slice va oe.length vcap) vr oi oe orr (.slice la j lcap) (.slice (some ⟨g4, 0, none⟩) (j + c + 1) cap4) (.slice (some ⟨g5, 0, none⟩) (N2 + 1) cap5) (news ++ [(.slice (some ⟨g4, 0, none⟩) (j + c + 1) cap4, oe.length)]) (j + c + 1) (w.heap.size + 1)) := HM4.out.put (by omega) (nofr _) hgrow5 (by rw [HN2.out]; exact hown5) (lies_of hat5)
          have BX5 : Hid ((w5.setCell ⟨bb, 1, none⟩ (.slice (some ⟨g5, 0, none⟩) (N2 + 1) cap5)).heap[w.heap.size]? = some (.cells #[.int .i64 (-1 - (oe.length : Int)), .int .i64 0, .int .i64 0, .string ⟨#[]⟩] 69 (0, 0))) := box_keep2 BX4.out R4.out (by decide) (by have := H.out.lt; omega) (nofr _) hgrow5
          clear hown5 hgrow5 hat5 hlt5
          go_roundw
          case rel => exact ⟨c + 1, _, _, by omega, by go_num, by rw [List.length_append, HNW.out]; rfl, HM5.out, BX5.out⟩
          case measure => simp [intOf]; omega
        · have HC : Hid (c = 3) := by show c = 3; omega
          go_wp2
          go_end0
          exact ⟨rfl, _, _, HM.out.own, by rw [HNW.out, HC.out], fun o ho => (HM.out.new o ho).1⟩

end Go.Proofs.Ytkelpcjiediamaa
