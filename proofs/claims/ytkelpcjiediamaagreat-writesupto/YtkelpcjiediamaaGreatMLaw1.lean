/-
  The document's Producer of one that is idle.
-/
import Derived.Test.YtkelpcjiediamaaGreatYProdr
import Derived.Test.YtkelpcjiediamaaGreatActs2
namespace Go.Proofs.YtkelpcjiediamaaGreat
open Go.RowKit Go.Maps

section
variable {w w' : World} {B yb : Nat} {y : RS}

set_option maxRecDepth 100000 in
set_option maxHeartbeats 3200000 in
theorem yproducer_idle (h : YAt w B yb y) (hF : y.Fine) {m : Int} (hm : 0 ≤ m ∧ m ≤ y.P - 1) (hd : y.dn = false) (hz0 : (stand y.L m).s = 0) :
    Calls Tryz.prog 93 #[.pointer (some ⟨yb, 0, none⟩), .int .i64 m] w fun r w' => r = .returned (.tuple #[.agg #[.int .i64 (stand y.L m).e, .int .i64 (stand y.L m).t, .int .i64 0, .slice none 0 0, .slice none 0 0], .int .i64 0]) ∧ Fr (fun _ => False) w w' := by
  have HM : Hid (decide (0 ≤ m ∧ m ≤ y.P - 1) = true) := decide_eq_true hm
  have H : Hid (YAt w B yb y) := h
  have HF : Hid y.Fine := hF
  have HB8 : Hid ((y.L.length + 1) * 8 ≤ 140737488355328) := by have := hF.lL; show (y.L.length + 1) * 8 ≤ 140737488355328; omega
  have c0 : w.cell? ⟨yb, 0, none⟩ = some (.int .i64 y.P) := h.c 0
  have c1 : w.cell? ⟨yb, 1, none⟩ = some (.int .i64 y.Q) := h.c 1
  have c4 : w.cell? ⟨yb, 4, none⟩ = some (.bool y.dn) := h.c 4
  rw [hd] at c4
  have hlt := lt_of_block h.blk
  have hp1 := h.hP.2.1
  have hp2 := h.hP.2.2
  have hq1 := h.hQ.2.2.1
  obtain ⟨z, hz⟩ : ∃ z, stand y.L m = z := ⟨_, rfl⟩
  have HZ : Hid (stand y.L m = z) := hz
  rw [hz] at hz0 ⊢
  have HS : Hid (z.s = 0) := hz0
  clear h hm hd hz hF hz0
  go_enter Tryz.func93, Tryz.ntmps93
  go_wp2_with (first
    | (go_at_call 72; refine (in_any _ _ _ _).mono ?_; rw [HM.out]; rintro e w1 ⟨rfl, rfl⟩)
    | (go_at_call 105; refine (stand_any (by exact H.out.after (nofr _)) m HF.out.arg HB8.out).mono ?_; rw [HZ.out, HS.out]; rintro e w2 ⟨v2, rfl, hv2, hf2⟩
       obtain ⟨va, vc, rfl, _⟩ := intRow_len hv2
       have F2 : Hid (Fr (fun _ => False) w w2) := (nofr _).trans hf2 (fun _ h => h.elim)
       have B2 : Hid (w2.heap[w.heap.size]? = some (.cells #[.int .i64 0, .int .i64 0, .int .i64 0, .slice none 0 0, .slice none 0 0] 58 (0, 0))) := (hf2.block _ (by simp) id).trans (heap_alloc_new _ _)
       clear hf2 hv2))
  go_loopw [8] (fun i w' => i = .int .i64 0 ∧ Fr (fun _ => False) w2 w' ∧ w'.heap[w2.heap.size]? = some (.cells #[.int .i64 z.e, .int .i64 z.t, .int .i64 0, .slice va z.ps.length vc] 157 (0, 0)) ∧ w'.heap[w2.heap.size + 1]? = some (.cells #[.int .i64 z.e, .int .i64 z.t, .int .i64 0, .slice none 0 0, .slice none 0 0] 58 (0, 0))) (fun _ _ => 0)
  case atStart => exact ⟨rfl, ((Fr.refl _ _).alloc _).alloc _, ((nofr _).block _ (by simp) id).trans (heap_alloc_new _ _), alloc_at _ (by simp)⟩
  case round =>
    obtain ⟨rfl, hf, hb1, hb2⟩ := hrel
    have HF2 : Hid (Fr (fun _ => False) w wr) := F2.out.trans hf (fun _ h => h.elim)
    have B3 : Hid (wr.heap[w.heap.size]? = some (.cells #[.int .i64 0, .int .i64 0, .int .i64 0, .slice none 0 0, .slice none 0 0] 58 (0, 0))) := (hf.block _ (lt_of_block B2.out) id).trans B2.out
    have d1 : wr.cell? ⟨yb, 1, none⟩ = some (.int .i64 y.Q) := (HF2.out.cell (p := ⟨yb, 1, none⟩) hlt id).trans c1
    have s2 : wr.cell? ⟨w2.heap.size, 2, none⟩ = some (.int .i64 0) := by rw [cell_of_cells hb1]; rfl
    have b0 : wr.cell? ⟨w2.heap.size + 1, 0, none⟩ = some (.int .i64 z.e) := by rw [cell_of_cells hb2]; rfl
    have b1 : wr.cell? ⟨w2.heap.size + 1, 1, none⟩ = some (.int .i64 z.t) := by rw [cell_of_cells hb2]; rfl
    have b2 : wr.cell? ⟨w2.heap.size + 1, 2, none⟩ = some (.int .i64 0) := by rw [cell_of_cells hb2]; rfl
    have b3 : wr.cell? ⟨w2.heap.size + 1, 3, none⟩ = some (.slice none 0 0) := by rw [cell_of_cells hb2]; rfl
    have b4 : wr.cell? ⟨w2.heap.size + 1, 4, none⟩ = some (.slice none 0 0) := by rw [cell_of_cells hb2]; rfl
    have a0 : wr.cell? ⟨w.heap.size, 0, none⟩ = some (.int .i64 0) := by rw [cell_of_cells B3.out]; rfl
    have a1 : wr.cell? ⟨w.heap.size, 1, none⟩ = some (.int .i64 0) := by rw [cell_of_cells B3.out]; rfl
    have a2 : wr.cell? ⟨w.heap.size, 2, none⟩ = some (.int .i64 0) := by rw [cell_of_cells B3.out]; rfl
    have a3 : wr.cell? ⟨w.heap.size, 3, none⟩ = some (.slice none 0 0) := by rw [cell_of_cells B3.out]; rfl
    have a4 : wr.cell? ⟨w.heap.size, 4, none⟩ = some (.slice none 0 0) := by rw [cell_of_cells B3.out]; rfl
    have af : ∀ o, wr.frozen? ⟨w.heap.size, o, none⟩ = false := frozen_of_cells B3.out
    clear hf hb1 hb2
    go_wp2
    have hb := setCell_cells (setCell_cells (setCell_cells (setCell_cells (setCell_cells B3.out 0 (.int .i64 z.e)) 1 (.int .i64 z.t)) 2 (.int .i64 0)) 3 (.slice none 0 0)) 4 (.slice none 0 0)
    refine bodyPost_ret (results_two rfl _ _ _ 58 _ (0, 0) _ rfl hb Tryz.underlying58 rfl info108) rfl ?_
    exact ⟨rfl, ((((HF2.out.setCell (.inr (Nat.le_refl _)) _).setCell (.inr (Nat.le_refl _)) _).setCell (.inr (Nat.le_refl _)) _).setCell (.inr (Nat.le_refl _)) _).setCell (.inr (Nat.le_refl _)) _⟩
end

end Go.Proofs.YtkelpcjiediamaaGreat

/-
  Two heralds that know the same answer alike whatever they are asked.
-/
namespace Go.Proofs.YtkelpcjiediamaaGreat
open Go.RowKit Go.Maps

theorem range_cut {α : Type} (f : Nat → Bool) (g : Nat → α) {k : Nat} (hk : k ≤ 4) (h : ∀ q, k ≤ q → q < 4 → f q = false) : ((List.range 4).filter f).map g = ((List.range k).filter f).map g := by
  have : List.range 4 = List.range k ++ (List.range (4 - k)).map (k + ·) := by rw [← List.range_add]; congr 1; omega
  rw [this, List.filter_append]
  have h2 : ((List.range (4 - k)).map (k + ·)).filter f = [] := by
    rw [List.filter_eq_nil_iff]
    intro q hq
    simp only [List.mem_map, List.mem_range] at hq
    obtain ⟨j, hj, rfl⟩ := hq
    rw [h (k + j) (by omega) (by omega)]
    simp
  rw [h2, List.append_nil]

theorem tied_parts {z : St} {ts : List Int} {k : Nat} (hk : k ≤ 4) (hq : ∀ q ∈ z.ps, 0 ≤ q ∧ q < (k : Int)) (h : ∀ q : Nat, q < 4 → (1 ≤ ts.getD q 0 ↔ (q : Int) ∈ z.ps)) : partsL z k = tiedL ts 1 4 := by
  unfold partsL tiedL
  rw [range_cut _ _ hk (fun q h1 h2 => ?_)]
  · congr 1
    apply List.filter_congr
    intro q hq2
    have := h q (by have := List.mem_range.1 hq2; omega)
    simp only [decide_eq_decide]
    exact this.symm
  · apply decide_eq_false
    rw [h q h2]
    intro hm
    have := (hq _ hm).2
    omega

theorem tied_one (x : PS) {q : Nat} (hq : q < 4) : (tiedL x.ties 2 4).filter (fun d => decide (d = (q : Int))) = if 2 ≤ x.ties.getD q 0 then [(q : Int)] else [] := by
  obtain ⟨e, t, s, a, b, c, d, si, wa, ga⟩ := x
  have hr : List.range 4 = [0, 1, 2, 3] := rfl
  have hq' : q = 0 ∨ q = 1 ∨ q = 2 ∨ q = 3 := by omega
  rcases hq' with rfl | rfl | rfl | rfl <;>
  by_cases ha : 2 ≤ a <;> by_cases hb : 2 ≤ b <;> by_cases hc : 2 ≤ c <;> by_cases hd : 2 ≤ d <;>
    simp [tiedL, hr, PS.ties, ha, hb, hc, hd, List.filter]

theorem pend_tied {D : List Du} {m tm wa ga : Int} {x : PS} {k : Nat} (hk : k ≤ 4) (hD : D.filter (fun d => decide (d.p = m)) = (tiedL x.ties 2 4).map fun q => ⟨m, q, tm + wa, ga⟩) (hhi : ∀ q : Nat, k ≤ q → q < 4 → x.ties.getD q 0 < 2) : pendL D m k = tiedL x.ties 2 4 := by
  have h1 : ∀ q : Nat, q < 4 → (D.filter fun d => decide (d.p = m ∧ d.q = (q : Int))).map (fun _ => (q : Int)) = if 2 ≤ x.ties.getD q 0 then [(q : Int)] else [] := fun q hq => by
    have e1 : (D.filter fun d => decide (d.p = m ∧ d.q = (q : Int))) = (D.filter fun d => decide (d.p = m)).filter fun d => decide (d.q = (q : Int)) := by
      rw [List.filter_filter]
      apply List.filter_congr
      intro d _
      by_cases a : d.p = m <;> by_cases b : d.q = (q : Int) <;> simp [a, b]
    rw [e1, hD, List.filter_map, List.map_map]
    have e2 : ((fun d : Du => decide (d.q = (q : Int))) ∘ fun q => (⟨m, q, tm + wa, ga⟩ : Du)) = fun d : Int => decide (d = (q : Int)) := rfl
    rw [e2, tied_one x hq]
    split <;> rfl
  have e3 : tiedL x.ties 2 4 = (List.range k).flatMap fun q => if 2 ≤ x.ties.getD q 0 then [(q : Int)] else [] := by
    unfold tiedL
    rw [range_cut _ _ hk (fun q a b => decide_eq_false (by have := hhi q a b; omega))]
    generalize List.range k = l
    induction l with
    | nil => rfl
    | cons a l ih =>
      by_cases hc : 2 ≤ x.ties.getD a 0
      · rw [List.filter_cons_of_pos (by simpa using hc), List.map_cons, List.flatMap_cons, if_pos hc, ih]; rfl
      · rw [List.filter_cons_of_neg (by simpa using hc), List.flatMap_cons, if_neg hc, ih]; rfl
  rw [e3]
  unfold pendL
  have key : ∀ l : List Nat, (∀ q ∈ l, q < 4) → (l.flatMap fun (q : Nat) => (D.filter fun d => decide (d.p = m ∧ d.q = (q : Int))).map fun _ => (q : Int)) = l.flatMap fun q => if 2 ≤ x.ties.getD q 0 then [(q : Int)] else [] := by
    intro l
    induction l with
    | nil => intro _; rfl
    | cons a l ih =>
      intro hl
      rw [List.flatMap_cons, List.flatMap_cons, h1 a (hl a (by simp)), ih (fun q hq => hl q (by simp [hq]))]
  exact key _ (fun q hq => by have := List.mem_range.1 hq; omega)

theorem txt_eq {s s' : ByteArray} {l : List UInt8} (h : Txt s l) (h' : Txt s' l) : s = s' := by
  have h1 : s.data.toList = s'.data.toList := h.1.trans h'.1.symm
  cases s; cases s'
  simp only at h1
  congr 1
  exact Array.toList_inj.1 h1

section
variable {w w' : World} {B xb yb wb N : Nat} {h : HS} {y : RS}

theorem Both.keepF (b : Both w B xb yb N h y) (k : Keep (duoF wb xb yb h y) w w') : Both w' B xb yb N h y := b.keep (k.mono (fun _ hq => .inl (fun e => hq (.inr e))))

theorem Both.askP (b : Both w B xb yb N h y) (hN : N ≤ 10000000) (m : Int) : ∃ (e t s er : Int) (A C : List Int), (0 ≤ e ∧ e ≤ (N : Int)) ∧ A.length ≤ 4 ∧ C.length ≤ 4 ∧ ∀ w1, Keep (duoF wb xb yb h y) w w1 → AskP (ptr xb) (ptr yb) m w1 e t s er A C := by
  obtain ⟨tl, c0⟩ := b.know.core
  by_cases hm : 0 ≤ m ∧ m < h.P
  · have hmy : 0 ≤ m ∧ m ≤ y.P - 1 := by rw [c0.P]; omega
    rcases b.know with ⟨c, u⟩ | ⟨tl, c, d⟩
    · obtain ⟨i, rfl⟩ := Int.eq_ofNat_of_zero_le hm.1
      obtain ⟨x, hi, hx, hh, hr⟩ := b.prod c u hm.2
      have hf := c.valid.fine i
      have hfi := c.fine (by omega)
      obtain ⟨Qn, hQn⟩ := Int.eq_ofNat_of_zero_le (show 0 ≤ h.Q by have := c.Q1; omega)
      have hQt : y.Q.toNat = Qn := by rw [c.Q]; omega
      have hQ4 : Qn ≤ 4 := by have := c.Q1.2; omega
      have hps : ∀ q ∈ (stand y.L i).ps, 0 ≤ q ∧ q < (Qn : Int) := fun q hq => by have := hf.ps q hq; omega
      refine ⟨x.e, x.t, x.s, 0, tiedL x.ties 1 4, tiedL x.ties 2 4, ⟨by rw [hr.e]; exact hf.e0, by rw [hr.e]; have := hf.e1; have := c.few; omega⟩, tiedL_len _ _ _, tiedL_len _ _ _, fun w1 k => ⟨?_, ?_⟩⟩
      · exact producer_up (b.keepF k).xa hm.2 u.up hx
      · have hs0 := hf.s0
        have hs3 := hf.s1
        have hxs := hr.s
        by_cases hz : (stand y.L i).s = 0
        · have hn := hr.none (by omega)
          have hz0 : ∀ q : Nat, x.ties.getD q 0 = 0 := fun q => by
            by_cases hq : q < 4
            · rw [getD4 x q hq]; simp only [hn]; split <;> (try split) <;> (try split) <;> rfl
            · exact ties_of_ge _ _ (by omega)
          have t1 : tiedL x.ties 1 4 = [] := tiedL_none 4 (fun q => by rw [hz0 q]; omega)
          have t2 : tiedL x.ties 2 4 = [] := tiedL_none 4 (fun q => by rw [hz0 q]; omega)
          refine (yproducer_idle (b.keepF k).ya hfi hmy u.dn hz).mono fun _ w2 ⟨h1, h2⟩ => ⟨.slice none 0 0, .slice none 0 0, h1.trans ?_, ?_, ?_, h2⟩
          · rw [hr.e, hr.t, hr.s, hz]
          · rw [t1]; exact newInts_nil _ _
          · rw [t2]; exact newInts_nil _ _
        · refine (yproducer_up (b.keepF k).ya hfi hmy u.dn (by omega) (by have := c.dl; omega)).mono fun _ w2 ⟨va, vb, h1, h2, h3, h4⟩ => ⟨va, vb, h1.trans ?_, ?_, ?_, h4⟩
          · rw [hr.e, hr.t, hr.s]
          · rw [hQt, tied_parts (ts := x.ties) hQ4 hps (fun q hq => hr.some (by omega) q hq)] at h2
            exact h2
          · have hp : pendS (stand y.L i).s y.D i y.Q.toNat = tiedL x.ties 2 4 := by
              unfold pendS
              rw [hQt]
              split
              · refine pend_tied hQ4 hr.due (fun q a b => ?_)
                have hf1 := (hr.few q).2.1
                by_cases h1 : 1 ≤ x.ties.getD q 0
                · have := (hr.some (by omega) q b).1 h1
                  have := (hps _ this).2
                  omega
                · omega
              · symm
                exact tiedL_none 4 (fun q => by have := (hr.few q).2.2 (by omega); omega)
            rw [hp] at h3
            exact h3
    · refine ⟨0, 0, 0, 5, [], [], by omega, by simp, by simp, fun w1 k => ⟨?_, ?_⟩⟩
      · exact (producer_down (b.keepF k).xa hm d.up).mono fun _ w2 ⟨h1, h2⟩ => ⟨_, _, h1, newInts_nil _ _, newInts_nil _ _, fun k hk => by simp [Value.ownBlock] at hk, h2⟩
      · exact (yproducer_down (b.keepF k).ya hmy d.dn).mono fun _ w2 ⟨h1, h2⟩ => ⟨_, _, h1, newInts_nil _ _, newInts_nil _ _, h2⟩
  · have hmy : ¬ (0 ≤ m ∧ m ≤ y.P - 1) := by rw [c0.P]; omega
    refine ⟨0, 0, 0, 2, [], [], by omega, by simp, by simp, fun w1 k => ⟨?_, ?_⟩⟩
    · exact (producer_none (b.keepF k).xa hm).mono fun _ w2 ⟨h1, h2⟩ => ⟨_, _, h1, newInts_nil _ _, newInts_nil _ _, fun k hk => by simp [Value.ownBlock] at hk, h2⟩
    · exact (yproducer_none (b.keepF k).ya hmy).mono fun _ w2 ⟨h1, h2⟩ => ⟨_, _, h1, newInts_nil _ _, newInts_nil _ _, h2⟩

theorem pick_len (s : LogS) (k : Nat) : (s.pick k).length ≤ 1 := by
  unfold LogS.pick
  split
  · split <;> simp
  · simp

theorem fetch_len {s : LogS} (f m : Int) : (s.fetch f m).length ≤ s.es.length := by
  have h1 : ∀ l : List Nat, (l.flatMap s.pick).length ≤ l.length := fun l => by
    induction l with
    | nil => simp
    | cons a l ih =>
      have := pick_len s a
      rw [List.flatMap_cons, List.length_append, List.length_cons]
      omega
  have h2 : s.stable ≤ s.es.length := by unfold LogS.stable; exact List.findIdx_le_length
  unfold LogS.fetch LogS.got
  rw [List.length_take]
  have := h1 (List.range' (LogS.start f) (s.stable - LogS.start f))
  rw [List.length_range'] at this
  omega

/-- Whatever they are asked, but for messages. -/
theorem Both.ask (b : Both w B xb yb N h y) (hN : N ≤ 10000000) (hmess : ∀ k, I64 k → ∃ a b c d er f, ∀ w1, Keep (duoF wb xb yb h y) w w1 → AskM (ptr xb) (ptr yb) k w1 a b c d er f) : Ask w (duoF wb xb yb h y) (ptr xb) (ptr yb) := by
  obtain ⟨tl, c⟩ := b.know.core
  have notin : ∀ {m : Int}, ¬ (0 ≤ m ∧ m < h.pl.length) → ¬ (0 ≤ m ∧ m ≤ y.Q - 1) := fun hm => by rw [c.Q, b.xa.hQ.1]; omega
  refine ⟨fun m _ => by obtain ⟨e, t, s, er, A, C, _, h2⟩ := b.askP (wb := wb) hN m; exact ⟨e, t, s, er, A, C, h2⟩, fun m _ => ?_, fun m f1 f2 _ => ?_, fun m _ => ?_, ?_, ?_, hmess⟩
  · by_cases hm : 0 ≤ m ∧ m < h.pl.length
    · obtain ⟨q, rfl⟩ := Int.eq_ofNat_of_zero_le hm.1
      obtain ⟨p, g, hp, hg, hout, hrl, hll, _, _, _⟩ := b.part c hm.2
      have hel := es_len hrl
      refine ⟨p.out, p.s.es.length, p.s.stable, 0, IsOpened N p.s, fun S hS => by have := hS.2.1; omega, fun w1 kk => ⟨part_ok (b.keepF kk).xa hp hrl.inv (by omega) (by omega), fun S hS => ypart_ok (b.keepF kk).ya hg hout hrl hS (by omega) (by omega)⟩⟩
    · refine ⟨false, 0, 0, 3, fun S => S = [], fun S hS => by rw [hS]; simp, fun w1 kk => ⟨?_, fun S hS => ?_⟩⟩
      · exact (part_none (b.keepF kk).xa hm).mono fun _ w2 ⟨h1, h2⟩ => ⟨_, [], h1, rfl, newInts_nil _ _, h2⟩
      · rw [hS]
        exact (ypart_none (b.keepF kk).ya (notin hm)).mono fun _ w2 ⟨h1, h2⟩ => ⟨_, h1, newInts_nil _ _, h2⟩
  · by_cases hm : 0 ≤ m ∧ m < h.pl.length
    · obtain ⟨q, rfl⟩ := Int.eq_ofNat_of_zero_le hm.1
      obtain ⟨p, g, hp, hg, hout, hrl, hll, _, _, _⟩ := b.part c hm.2
      have hel := es_len hrl
      exact ⟨0, p.s.fetch f1 f2, by have := fetch_len (s := p.s) f1 f2; omega, fun w1 kk => ⟨fetch_ok (b.keepF kk).xa hp f1 f2 hrl.inv (by omega), yfetch_ok (b.keepF kk).ya hg hrl f1 f2 (by omega)⟩⟩
    · refine ⟨3, [], by simp, fun w1 kk => ⟨?_, ?_⟩⟩
      · exact (fetch_none (b.keepF kk).xa f1 f2 hm).mono fun _ w2 ⟨h1, h2⟩ => ⟨_, h1, World.ownsRow_nil _ _ _ _, h2⟩
      · exact (yfetch_none (b.keepF kk).ya f1 f2 (notin hm)).mono fun _ w2 ⟨h1, h2⟩ => ⟨_, h1, World.ownsRow_nil _ _ _ _, h2⟩
  · by_cases hm : 0 ≤ m ∧ m < h.pl.length
    · obtain ⟨q, rfl⟩ := Int.eq_ofNat_of_zero_le hm.1
      obtain ⟨p, g, hp, hg, hout, hrl, hll, _, _, _⟩ := b.part c hm.2
      have hel := es_len hrl
      exact ⟨0, p.s.es, by omega, fun w1 kk => ⟨ents_ok (b.keepF kk).xa hp (by omega), yents_ok (b.keepF kk).ya hg hrl (by omega)⟩⟩
    · refine ⟨3, [], by simp, fun w1 kk => ⟨?_, ?_⟩⟩
      · exact (ents_none (b.keepF kk).xa hm).mono fun _ w2 ⟨h1, h2⟩ => ⟨_, h1, World.ownsRow_nil _ _ _ _, h2⟩
      · exact (yents_none (b.keepF kk).ya (notin hm)).mono fun _ w2 ⟨h1, h2⟩ => ⟨_, h1, World.ownsRow_nil _ _ _ _, h2⟩
  · have hfi := c.fine (by omega)
    have hfew := c.few
    have ht := c.t16
    let l := y.L.flatMap rbytes ++ tl
    have hl : Txt ⟨l.toArray⟩ l := ⟨by simp, by simp [ByteArray.size]⟩
    refine ⟨⟨l.toArray⟩, fun w1 kk => ⟨?_, ?_⟩⟩
    · exact (journal_any (b.keepF kk).xa c.jb).mono fun _ w2 ⟨⟨s, h1, h2⟩, h3⟩ => ⟨by rw [h2, txt_eq h1 hl], h3⟩
    · exact (yjournal_any (b.keepF kk).ya hfi.ok c.torn (by omega)).mono fun _ w2 ⟨s, h1, h2, h3⟩ => ⟨by rw [h1, txt_eq h2 hl], h3⟩
  · refine ⟨y.N.length, c.fl100, fun w1 kk => ⟨?_, yflight_any (b.keepF kk).ya⟩⟩
    have := flight_any (b.keepF kk).xa
    rw [c.fl] at this
    exact this

theorem Both.mess_nil (b : Both w B xb yb N h y) (hnil : y.N = []) : ∀ k, I64 k → ∃ a b c d er f, ∀ w1, Keep (duoF wb xb yb h y) w w1 → AskM (ptr xb) (ptr yb) k w1 a b c d er f := by
  obtain ⟨tl, c⟩ := b.know.core
  intro m _
  exact ⟨0, 0, 0, 0, 8, false, fun w1 k => ⟨message_none (b.keepF k).xa (by rw [c.fl, hnil]; simp), ymessage_nil (b.keepF k).ya hnil m⟩⟩
end

end Go.Proofs.YtkelpcjiediamaaGreat

/-
  The law's world with two heralds that know the same; by which epoch a producer speaks; what producers do.
-/
namespace Go.Proofs.YtkelpcjiediamaaGreat
open Go.RowKit Go.Maps

/-- The law's world: two heralds that know the same, and the book. -/
structure Game (w : World) (B wb xb yb bb N n : Nat) (h : HS) (y : RS) (o : BookS) : Prop where
  both : Both w B xb yb N h y
  scn : Scn w B (duoF wb xb yb h y) wb xb yb bb n o
  hw1 : ¬ h.foot xb wb
  hw2 : ¬ y.foot yb wb

def actV (k p q m : Int) (ts : ByteArray) (fl : Bool) : Value := .agg #[.int .i64 k, .int .i64 p, .int .i64 q, .int .i64 m, .string ts, .bool fl]

section
variable {w w' : World} {B wb xb yb bb N n : Nat} {h h' : HS} {y y' : RS} {o : BookS}

theorem Game.lt (g : Game w B wb xb yb bb N n h y o) : wb < w.heap.size := lt_of_block g.scn.blk

theorem Game.turned (g : Game w B wb xb yb bb N n h y o) {M : Nat} (t : BothTo w w' B xb yb h y M h' y') : Turned (duoF wb xb yb h y) (duoF wb xb yb h' y') wb w w' := by
  refine ⟨t.fr.mono (fun k hk => .inl ⟨.inr hk, fun e => ?_⟩), fun k hk => ?_, .inl rfl, fun k hk => ?_⟩
  · subst e
    rcases hk with hk | hk
    · exact g.hw1 hk
    · exact g.hw2 hk
  · rcases hk with hk | hk
    · exact .inl (.inl hk)
    · rcases t.sub k hk with a | a
      · exact .inl (.inr a)
      · exact .inr a
  · rcases hk with rfl | hk | hk
    · exact Nat.lt_of_lt_of_le g.lt t.fr.size
    · exact (t.to.xa.foot_lt hk).1
    · exact (t.to.ya.foot_lt hk).1

theorem Game.step (g : Game w B wb xb yb bb N n h y o) {M : Nat} (t : BothTo w w' B xb yb h y M h' y') : Game w' B wb xb yb bb M n h' y' o := by
  have hl := g.lt
  refine ⟨t.to, g.scn.turn (g.turned t), fun e => ?_, fun e => ?_⟩
  · rcases t.sub wb (.inl e) with (a | a) | a
    · exact g.hw1 a
    · exact g.hw2 a
    · omega
  · rcases t.sub wb (.inr e) with (a | a) | a
    · exact g.hw1 a
    · exact g.hw2 a
    · omega

theorem Game.after (g : Game w B wb xb yb bb N n h y o) (f : Fr (fun _ => False) w w') : Game w' B wb xb yb bb N n h y o :=
  ⟨(g.both.still f).to, g.scn.after f, g.hw1, g.hw2⟩

/-- A box that lies behind both is not touched by them. -/
theorem Game.apart (g : Game w B wb xb yb bb N n h y o) {k : Nat} (hk : h.foot xb k ∨ y.foot yb k) : k < w.heap.size := by
  rcases hk with hk | hk
  · exact (g.both.xa.foot_lt hk).1
  · exact (g.both.ya.foot_lt hk).1

/-- What an act on both leaves. -/
def Acted (w : World) (B xb yb : Nat) (h : HS) (y : RS) (N : Nat) (e : Ending) (w' : World) : Prop := e = .returned (.bool true) ∧ ∃ h' y', BothTo w w' B xb yb h y N h' y'

theorem BothTo.behind {w1 : World} {M : Nat} (f : Fr (fun _ => False) w w1) (t : BothTo w1 w' B xb yb h y M h' y') : BothTo w w' B xb yb h y M h' y' :=
  ⟨t.to, (f.mono (fun _ h => h.elim)).trans t.fr (fun _ => .inl), fun k hk => by
    rcases t.sub k hk with e | e
    · exact .inl e
    · exact .inr (Nat.le_trans f.size e), t.net⟩

theorem BothTo.after {w1 : World} {M : Nat} (t : BothTo w w1 B xb yb h y M h' y') (f : Fr (fun _ => False) w1 w') : BothTo w w' B xb yb h y M h' y' :=
  ⟨(t.to.still f).to, t.fr.trans f (fun _ h => h.elim), t.sub, t.net⟩

set_option maxRecDepth 100000 in
set_option maxHeartbeats 1600000 in
theorem epoch_any (g : Game w B wb xb yb bb N n h y o) (hN : N ≤ 10000000) (k p q m : Int) (ts : ByteArray) (fl : Bool) :
    Calls Tryz.prog 73 #[ptr wb, actV k p q m ts fl] w fun e w' => (∃ c : Int, e = .returned (.int .i64 c)) ∧ Fr (fun _ => False) w w' := by
  obtain ⟨ee, t, s, er, A, C, he, _, _, hask⟩ := g.both.askP (wb := wb) hN p
  have HA : Hid (∀ w1, Keep (duoF wb xb yb h y) w w1 → AskP (ptr xb) (ptr yb) p w1 ee t s er A C) := hask
  obtain ⟨c0, c1, c2⟩ := g.scn.cells
  have hwlt := g.lt
  unfold ptr at c0 c1 HA ⊢
  unfold actV
  clear hask c2 c0
  by_cases h3 : 3 ≤ m
  · go_enter Tryz.func73, Tryz.ntmps73
    go_wp2_with fail
    go_ret
    exact ⟨⟨m, rfl⟩, nofr _⟩
  · by_cases h0 : m < 0
    · go_enter Tryz.func73, Tryz.ntmps73
      go_wp2_with fail
      go_ret
      exact ⟨⟨m, rfl⟩, nofr _⟩
    · go_enter Tryz.func73, Tryz.ntmps73
      go_wp2_with fail
      go_region_law
        ((go_simp; go_at_call 93; refine (HA.out _ (by first | exact ((nofr _).drew).keep | exact (((nofr _).drew).alloc _).keep)).b.mono ?_; rintro e w3 ⟨va, vb, rfl, hv1, hv2, hf3⟩
          obtain ⟨aa, ac, rfl, _⟩ := intRow_len hv1
          obtain ⟨ba, bc, rfl, _⟩ := intRow_len hv2
          try (have zb : w3.heap[w.heap.size + 1]? = some (.cells #[.int .i64 0, .int .i64 0, .int .i64 0, .slice none 0 0, .slice none 0 0] 58 (0, 0)) := (hf3.block _ (by simp) id).trans (alloc_at _ (by simp))
               have z0 : w3.cell? ⟨w.heap.size + 1, 0, none⟩ = some (.int .i64 0) := cell_of_cells zb 0
               have z1 : w3.cell? ⟨w.heap.size + 1, 1, none⟩ = some (.int .i64 0) := cell_of_cells zb 1
               have z2 : w3.cell? ⟨w.heap.size + 1, 2, none⟩ = some (.int .i64 0) := cell_of_cells zb 2
               have z3 : w3.cell? ⟨w.heap.size + 1, 3, none⟩ = some (.slice none 0 0) := cell_of_cells zb 3
               have z4 : w3.cell? ⟨w.heap.size + 1, 4, none⟩ = some (.slice none 0 0) := cell_of_cells zb 4
               have zf : ∀ o, w3.frozen? ⟨w.heap.size + 1, o, none⟩ = false := frozen_of_cells zb
               clear zb)
          have mb : w3.heap[w.heap.size]? = some (.cells #[.int .i64 k, .int .i64 p, .int .i64 q, .int .i64 m, .string ts, .bool fl] 28 (0, 0)) := (hf3.block _ (by simp <;> omega) id).trans (by first | exact heap_alloc_new _ _ | exact ((nofr _).block _ (by simp) id).trans (heap_alloc_new _ _))
          have m3 : w3.cell? ⟨w.heap.size, 3, none⟩ = some (.int .i64 m) := cell_of_cells mb 3
          have F3 : Hid (Fr (fun _ => False) w w3) := (by first | exact ((nofr _).drew).trans hf3 (fun _ h => h.elim) | exact (((nofr _).drew).alloc _).trans hf3 (fun _ h => h.elim))
          have hz3 : w.heap.size < w3.heap.size := lt_of_block mb
          clear hv1 hv2 hf3 mb))
      all_goals
        go_wp2_with fail
        go_ret
        refine ⟨⟨_, rfl⟩, ?_⟩
        first
          | with_reducible exact F3.out.alloc _
          | with_reducible exact ((((F3.out.setCell (p := ⟨w.heap.size + 1, 0, none⟩) (.inr (by show _ ≤ w.heap.size + 1; omega)) _).setCell (p := ⟨w.heap.size + 1, 1, none⟩) (.inr (by show _ ≤ w.heap.size + 1; omega)) _).setCell (p := ⟨w.heap.size + 1, 2, none⟩) (.inr (by show _ ≤ w.heap.size + 1; omega)) _).setCell (p := ⟨w.heap.size + 1, 3, none⟩) (.inr (by show _ ≤ w.heap.size + 1; omega)) _).setCell (p := ⟨w.heap.size + 1, 4, none⟩) (.inr (by show _ ≤ w.heap.size + 1; omega)) _
end

end Go.Proofs.YtkelpcjiediamaaGreat
