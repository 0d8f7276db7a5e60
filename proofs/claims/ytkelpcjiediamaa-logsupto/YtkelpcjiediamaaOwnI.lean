/-
  A list is handed over to the book (kind I).
-/
import Derived.Test.YtkelpcjiediamaaOwnPre
namespace Go.Proofs.Ytkelpcjiediamaa
open Go.RowKit Go.Maps

set_option maxRecDepth 100000 in
set_option maxHeartbeats 1600000 in
theorem ownI_any {w : World} {B bb : Nat} {vi ve vr l : Value} {oi oe orr : List (Value × Nat)} {n : Nat} {xs : List Value} (h : BookAt w B bb vi ve vr oi oe orr) (hl : w.ownsRow B 3 1 l n xs)
    (hold : ∀ o ∈ oi, ∀ k, o.1.ownBlock = some k → l.ownBlock ≠ some k) (hb1 : (oi.length + 4) * 32 ≤ 140737488355328) (hb2 : (n + 3) * 8 ≤ 140737488355328) :
    Calls Try.prog 27 #[.pointer (some ⟨bb, 0, none⟩), l] w fun e w' => e = .returned (.tuple #[]) ∧ ∃ v' news, OwnedI w w' B bb vi ve vr oi oe orr l v' news ∧ news.length = 4 ∧ ∀ o ∈ news, o.2 = oi.length := by
  obtain ⟨i0, hi0, hz0, hz1, hz2⟩ := info_parts info65
  obtain ⟨i1, hi1, hy0, hy1, hy2⟩ := info_parts info3
  obtain ⟨va, vcap, rfl, hvl⟩ := outRow_len h.si.row
  obtain ⟨la, lcap, rfl, hnl⟩ := anyRow_len hl
  unfold maxLen at hvl hnl
  have H : Hid (BookAt w B bb (.slice va oi.length vcap) ve vr oi oe orr) := h
  have HL : Hid (w.ownsRow B 3 1 (.slice la n lcap) n xs) := hl
  have HOLD : Hid (∀ o ∈ oi, ∀ k, o.1.ownBlock = some k → Value.ownBlock (.slice la n lcap) ≠ some k) := hold
  have HB1 : Hid ((oi.length + 4) * 32 ≤ 140737488355328) := hb1
  have HB2 : Hid ((n + 3) * 8 ≤ 140737488355328) := hb2
  have hK : (oi.length : Int) ≤ 140737488355328 := by omega
  have hbs := h.lt
  have k0 : w.cell? ⟨bb, 0, none⟩ = some (.slice va oi.length vcap) := by rw [cell_of_cells h.blk]; rfl
  clear h hl hold hb1 hb2
  go_enter Try.func27, Try.ntmps27
  go_wp2_with fail
  go_loopw [5] (fun i w' => ∃ (j : Nat) (ys : List Value), j ≤ n ∧ i = .int .i64 j ∧ w'.ownsRow B 3 1 (.slice la n lcap) n ys ∧ (∀ q, q < j * 1 → ys[q]? = (rep n (mkI oi.length))[q]?) ∧ Fr (fun x => Value.ownBlock (.slice la n lcap) = some x) w w') (fun i _ => n - (intOf i).toNat)
  case atStart => exact ⟨0, xs, Nat.zero_le _, rfl, HL.out, fun q hq => by omega, Fr.refl _ _⟩
  case round =>
    obtain ⟨j, ys, hj, rfl, hys, hpt, hfr⟩ := hrel
    have HY : Hid (wr.ownsRow B 3 1 (.slice la n lcap) n ys) := hys
    have HP : Hid (∀ q, q < j * 1 → ys[q]? = (rep n (mkI oi.length))[q]?) := hpt
    have HF : Hid (Fr (fun x => Value.ownBlock (.slice la n lcap) = some x) w wr) := hfr
    clear hys hpt hfr
    by_cases hlt : j < n
    · rcases HY.out.2 with ⟨e, h0⟩ | ⟨g, cap, cur, e, hBg, hg, hnc, hcm, hcs, htk⟩
      · omega
      · simp only [Value.slice.injEq] at e
        obtain ⟨rfl, _, rfl⟩ := e
        have fz : ∀ o, wr.frozen? ⟨g, o, none⟩ = false := fun o => frozen_of_cells hg o
        have cz : ∀ q, q < 1 → ∃ u, wr.cell? ⟨g, j * 1 + q, none⟩ = some u := fun q hq => by
          have hlt2 : j * 1 + q < ys.length := by rw [HY.out.1]; omega
          have := HY.out.cells (g := g) rfl (j * 1 + q) _ (List.getElem?_eq_getElem hlt2)
          rw [Addr.add_lit] at this
          exact ⟨_, by simpa using this⟩
        obtain ⟨u0x, c0⟩ := cz 0 (by omega)
        simp only [Nat.mul_one, Nat.add_zero] at c0
        have HG : Hid (wr.heap[g]? = some (.cells cur 3 (0, 0))) := hg
        clear hg hcm hcs htk cz
        go_wp2
        go_roundw
        case rel =>
          have hset := ownsRow_setAll HY.out (o := j * 1) (mc := mkI oi.length) (by show j * 1 + 1 ≤ n * 1; omega)
          have hfrs := (Fr.refl (fun x => Value.ownBlock (.slice (some ⟨g, 0, none⟩) n lcap) = some x) wr).wset (g := g) (.inl rfl) (j * 1) (mkI oi.length)
          refine ⟨j + 1, setAll ys (j * 1) (mkI oi.length), by omega, by go_num, ?_, mark_step rfl HY.out.1 hlt HP.out, ?_⟩
          · simpa [wset, mkI] using hset
          · have := HF.out.trans hfrs (fun _ h => .inl h); simpa [wset, mkI] using this
        case measure => simp [intOf]; omega
    · have hjn : j = n := by omega
      subst hjn
      have hrep : ys = rep j (mkI oi.length) := rep_ext rfl HY.out.1 HP.out
      have HFW : Hid (Fr (fun x => Value.ownBlock (.slice la j lcap) = some x) w wr) := HF.out
      have HY2 : Hid (wr.ownsRow B 3 1 (.slice la j lcap) j (rep j (mkI oi.length))) := by have := HY.out; rw [hrep] at this; exact this
      have HB : Hid (BookAt wr B bb (.slice va oi.length vcap) ve vr oi oe orr) := by
        have h1 : BookAt w B bb (.slice va oi.length vcap) ve vr (oi ++ []) oe orr := by rw [List.append_nil]; exact H.out
        have := h1.growI HL.out HFW.out HOLD.out (by simp)
        rw [List.append_nil] at this
        exact this
      have k1 : wr.cell? ⟨bb, 0, none⟩ = some (.slice va oi.length vcap) := by rw [cell_of_cells HB.out.blk]; rfl
      have f1 : wr.frozen? ⟨bb, 0, none⟩ = false := frozen_of_cells HB.out.blk 0
      have hbw := HB.out.lt
      have hnr : Value.ownBlock (.slice va oi.length vcap) ≠ some bb := row_block_apart HB.out.si.row HB.out.blk (by decide)
      clear hrep HY HP
      go_wp2_with (at_builtin; refine wpList_append_lies _ rfl _ _ 32 rfl B 65 i0 _ 2 32 Try.underlying32 hi0 hz0 hz1 hz2 rfl (by decide) _ oi.length (outCells oi) rfl (by exact HB.out.si.row.alloc _) ⟨wr.heap.size, 0, none⟩ 1 1 [.slice la j lcap, .int .i64 oi.length] rfl rfl (World.news_of_block (cs := #[.slice la j lcap, .int .i64 oi.length]) (t := 65) (fr := (0, 0)) (heap_alloc_new _ _)) (by simp [Value.oneCell']) (by decide) (by have := HB1.out; simp only [maxLen]; omega) (by have := HB1.out; omega) (by have := HB.out.hb; simp; omega) (wr.heap.size + 1) (by simp) ?_; intro gg gcap w3 hown3 hgrow3 hat3 hlt3; have q0 := hgrow3.cell_far ⟨bb, 0, none⟩ (by simp; omega) (Ne.symm hnr); have q1 := hgrow3.frozen_far ⟨bb, 0, none⟩ (by simp; omega) (Ne.symm hnr); rw [World.cell?_alloc_past _ _ _ hbw, k1] at q0; rw [frozen_alloc hbw, f1] at q1)
      have hpp := HB.out.putI (l := .slice la j lcap) (K := oi.length) (nofr _) hgrow3 hown3 (lies_of hat3) ⟨_, HY2.out⟩
      obtain ⟨hp1, hp2⟩ := hpp
      have M0 : Hid (MidI w (w3.setCell ⟨bb, 0, none⟩ (.slice (some ⟨gg, 0, none⟩) (oi.length + 1) gcap)) B bb (.slice va oi.length vcap) ve vr oi oe orr (.slice la j lcap) (.slice la j lcap) (.slice (some ⟨gg, 0, none⟩) (oi.length + 1) gcap) [(.slice la j lcap, oi.length)] j (w.heap.size)) := by
        have far : ∀ k, Value.ownBlock (.slice la j lcap) = some k → ¬ (k = bb ∨ Value.ownBlock (.slice va oi.length vcap) = some k) := fun k hk => by
          rintro (e | e)
          · subst e; exact row_block_apart HY2.out HB.out.blk (by decide) hk
          · exact rows_apart HY2.out HB.out.si.row (by decide) k hk e
        have hr := hp2.ownsRow HY2.out far
        refine ⟨⟨hp1, (HFW.out.mono (fun k h => .inl (.inr (.inr h)))).trans hp2 (fun k hk => .inl (by rcases hk with e | e; exact .inl e; exact .inr (.inl e))), fun o ho k hk => ?_, fun k hk => ?_⟩, hr, fun o ho => ?_, fun k hk => .inl hk⟩
        · simp only [List.mem_singleton] at ho; subst ho; exact .inl hk
        · rcases lies_of hat3 k hk with h1 | h1
          · exact .inl h1
          · exact .inr (Nat.le_trans HFW.out.size h1)
        · simp only [List.mem_singleton] at ho; subst ho; exact ⟨rfl, NewOK.self hr⟩
      skip
      clear hown3 hgrow3 hat3 hlt3 q0 q1 hp1 hp2 hlt
      rename World => wo
      go_loopw [1, 6] (fun lv iv w' => ∃ (c : Nat) (v' : Value) (news : List (Value × Nat)), c ≤ 3 ∧ iv = .int .i64 c ∧ news.length = c + 1 ∧ MidI w w' B bb (.slice va oi.length vcap) ve vr oi oe orr (.slice la j lcap) lv v' news (j + c) (w.heap.size)) (fun _ iv _ => 3 - (intOf iv).toNat)
      case atStart => exact ⟨0, _, _, by omega, rfl, rfl, M0.out⟩
      case round =>
        obtain ⟨c, v', news, hc3, rfl, hnews, hmid⟩ := hrel
        have HM : Hid (MidI w wr B bb (.slice va oi.length vcap) ve vr oi oe orr (.slice la j lcap) u1 v' news (j + c) (w.heap.size)) := hmid
        obtain ⟨v2a, v2cap, hv2, hml⟩ := outRow_len hmid.own.book.si.row
        obtain ⟨N2, hN2⟩ : ∃ N2, (oi ++ news).length = N2 := ⟨_, rfl⟩
        rw [hN2] at hv2
        subst hv2
        have HN2 : Hid ((oi ++ news).length = N2) := hN2
        clear hml
        have hol : N2 = oi.length + (c + 1) := by rw [← hN2, List.length_append, hnews]
        clear hN2
        have HM : Hid (MidI w wr B bb (.slice va oi.length vcap) ve vr oi oe orr (.slice la j lcap) u1 (.slice v2a N2 v2cap) news (j + c) (w.heap.size)) := hmid
        have HNW : Hid (news.length = c + 1) := hnews
        have hszw := hmid.own.fr.size
        clear hmid hnews
        by_cases hclt : c < 3
        · have HSZ : Hid (w.heap.size ≤ wr.heap.size) := hszw
          have HX1 : Hid (j + c + 1 ≤ maxLen) := bnd0 (b := 8) (by decide) HB2.out hclt
          have HX2 : Hid ((j + c + 1) * 8 ≤ 140737488355328) := bnd1 HB2.out hclt
          have HX3 : Hid (B ≤ wr.heap.size) := Nat.le_trans HM.out.own.book.hb (Nat.le_of_lt HM.out.own.book.lt)
          have HX4 : Hid (N2 + 1 ≤ maxLen) := bnd2 hol HB1.out hclt
          have HX5 : Hid ((N2 + 1) * 32 ≤ 140737488355328) := bnd3 hol HB1.out hclt
          have HX6 : ∀ m ∈ mkI oi.length, m.oneCell' = true := by simp [mkI, Value.oneCell']
          have HX7 : Hid (∀ m ∈ mkI oi.length, m.oneCell' = true) := HX6
          clear HX6 hol
          go_wp2_with (at_builtin; refine wpList_append_two _ rfl _ _ 59 rfl B 3 i1 _ 1 8 Try.underlying59 hi1 hy0 hy1 hy2 rfl _ (j + c) (rep (j + c) (mkI oi.length)) rfl (by exact HM.out.row.alloc _) ⟨wr.heap.size, 0, none⟩ 1 (mkI oi.length) rfl rfl (World.news_of_block (cs := #[.int .i64 (-1 - (oi.length : Int))]) (t := 3) (fr := (0, 0)) (heap_alloc_new _ _)) HX7.out HX1.out HX2.out (by rw [World.size_alloc]; exact Nat.le_succ_of_le HX3.out) ?_)
          intro g4 cap4 w4 hown4 hc4
          have hc4 : (u1 = .slice (some ⟨g4, 0, none⟩) (j + c) cap4 ∧ (wr.alloc (.cells #[.int .i64 (-1 - (oi.length : Int))] 3)).grownBy w4 (some g4)) ∨ (g4 = (wr.alloc (.cells #[.int .i64 (-1 - (oi.length : Int))] 3)).heap.size ∧ (wr.alloc (.cells #[.int .i64 (-1 - (oi.length : Int))] 3)).grownBy w4 none) := by
            rcases hc4 with h1 | ⟨h1, h2⟩
            · exact .inl h1
            · exact .inr ⟨by rw [World.size_alloc]; exact h1, h2⟩
          have HM4 : Hid (MidI w w4 B bb (.slice va oi.length vcap) ve vr oi oe orr (.slice la j lcap) (.slice (some ⟨g4, 0, none⟩) (j + c + 1) cap4) (.slice v2a N2 v2cap) news (j + c + 1) (w.heap.size)) := HM.out.grown H.out (by omega) HSZ.out HOLD.out (nofr _) hown4 hc4
          clear hown4 hc4
          have R4 : Hid (w4.ownsRow B 65 2 (.slice v2a N2 v2cap) N2 (outCells (oi ++ news))) := by have := HM4.out.own.book.si.row; rw [HN2.out] at this; exact this
          have k4 : w4.cell? ⟨bb, 0, none⟩ = some (.slice v2a N2 v2cap) := (by rw [cell_of_cells HM4.out.own.book.blk]; rfl)
          have f4 : w4.frozen? ⟨bb, 0, none⟩ = false := frozen_of_cells HM4.out.own.book.blk 0
          have hb4 := HM4.out.own.book.lt
          have hn4 : Value.ownBlock (.slice v2a N2 v2cap) ≠ some bb := row_block_apart HM4.out.own.book.si.row HM4.out.own.book.blk (by decide)
          go_wp2_with (at_builtin; refine wpList_append_lies _ rfl _ _ 32 rfl B 65 i0 _ 2 32 Try.underlying32 hi0 hz0 hz1 hz2 rfl (by decide) _ N2 (outCells (oi ++ news)) rfl (by exact R4.out.alloc _) ⟨w4.heap.size, 0, none⟩ 1 1 [.slice (some ⟨g4, 0, none⟩) (j + c + 1) cap4, .int .i64 oi.length] rfl rfl (World.news_of_block (cs := #[.slice (some ⟨g4, 0, none⟩) (j + c + 1) cap4, .int .i64 oi.length]) (t := 65) (fr := (0, 0)) (heap_alloc_new _ _)) (by simp [Value.oneCell']) (by decide) HX4.out HX5.out (by rw [World.size_alloc]; exact Nat.le_succ_of_le (Nat.le_trans HM4.out.own.book.hb (Nat.le_of_lt HM4.out.own.book.lt))) (w4.heap.size + 1) (by simp) ?_)
          intro g5 cap5 w5 hown5 hgrow5 hat5 hlt5
          have q0 := hgrow5.cell_far ⟨bb, 0, none⟩ (by simp; omega) (Ne.symm hn4)
          have q1 := hgrow5.frozen_far ⟨bb, 0, none⟩ (by simp; omega) (Ne.symm hn4)
          rw [World.cell?_alloc_past _ _ _ hb4, k4] at q0
          rw [frozen_alloc hb4, f4] at q1
          go_wp2
          have HM5 : Hid (MidI w (w5.setCell ⟨bb, 0, none⟩ (.slice (some ⟨g5, 0, none⟩) (N2 + 1) cap5)) B bb (.slice va oi.length vcap) ve vr oi oe orr (.slice la j lcap) (.slice (some ⟨g4, 0, none⟩) (j + c + 1) cap4) (.slice (some ⟨g5, 0, none⟩) (N2 + 1) cap5) (news ++ [(.slice (some ⟨g4, 0, none⟩) (j + c + 1) cap4, oi.length)]) (j + c + 1) (w.heap.size)) := HM4.out.put (by omega) (nofr _) hgrow5 (by rw [HN2.out]; exact hown5) (lies_of hat5)
          clear hown5 hgrow5 hat5 hlt5
          go_roundw
          case rel => exact ⟨c + 1, _, _, by omega, by go_num, by rw [List.length_append, HNW.out]; rfl, HM5.out⟩
          case measure => simp [intOf]; omega
        · have HC : Hid (c = 3) := by show c = 3; omega
          go_wp2
          go_end0
          exact ⟨rfl, _, _, HM.out.own, by rw [HNW.out, HC.out], fun o ho => (HM.out.new o ho).1⟩

end Go.Proofs.Ytkelpcjiediamaa
