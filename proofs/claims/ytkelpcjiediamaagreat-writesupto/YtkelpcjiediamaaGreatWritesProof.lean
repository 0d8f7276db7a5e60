/-
  What is proved: where the Config and the script are together of bulk at most 1,048,576, whatever producers do, whatever befalls the keeper and the parts, and whatever is asked, out of a script (its ticks and rounds left out), every answer of the program is the document's, also behind a crash and a restart, and no list that came out changes behind its owner's writing: Writes answers true, and the Config and the script read behind the call as they did before.
-/
import Derived.Test.YtkelpcjiediamaaGreatMLaw7
import Derived.ProofKit
import Derived.Conc.LeavingOf
import Derived.SizedLaws
import Derived.Deep.Slices
import Derived.JoinedCond
namespace Go.Proofs.YtkelpcjiediamaaGreat
open Go.ChangeShapes Go.WideShapes Go.ChangeAt Go.RowKit

theorem ownKnob4 : ownKnob Tryz.prog.godebug = none := by kernel_rfl
theorem cells23 : Tryz.prog.cellsOf 23 = 4 := by kernel_rfl
theorem cells28 : Tryz.prog.cellsOf 28 = 6 := by kernel_rfl
theorem cells9 : Tryz.prog.cellsOf 9 = 1 := by kernel_rfl
theorem cells4 : Tryz.prog.cellsOf 4 = 1 := by kernel_rfl

set_option maxRecDepth 100000 in
theorem open_conf {H : Type} {enc : TypeId × Value → H} {w : World} {spare : Nat → Bool} {held : Bool} {n : Nat} {cs : List Value} {x : DataW H × List MemPlace} (h : DataW.trod enc Tryz.prog w 0 spare held n 23 cs = some x) :
    ∃ P Q T K : Int, cs = [.int .i64 P, .int .i64 Q, .int .i64 T, .int .i64 K] := by
  obtain ⟨xs, m, _, _, hl, hx, hf⟩ := DataW.trod_struct Tryz.underlying23 h
  rw [cells23] at hl
  match cs, hl with
  | [c0, c1, c2, c3], _ =>
    have f0 : DataW.trod enc Tryz.prog w 0 spare held m 3 (([c0, c1, c2, c3].drop 0).take (Tryz.prog.cellsOf 3)) = xs[0]? := hf 0 _ rfl
    have f1 : DataW.trod enc Tryz.prog w 0 spare held m 3 (([c0, c1, c2, c3].drop 1).take (Tryz.prog.cellsOf 3)) = xs[1]? := hf 1 _ rfl
    have f2 : DataW.trod enc Tryz.prog w 0 spare held m 3 (([c0, c1, c2, c3].drop 2).take (Tryz.prog.cellsOf 3)) = xs[2]? := hf 2 _ rfl
    have f3 : DataW.trod enc Tryz.prog w 0 spare held m 3 (([c0, c1, c2, c3].drop 3).take (Tryz.prog.cellsOf 3)) = xs[3]? := hf 3 _ rfl
    match xs, hx with
    | [x0, x1, x2, x3], _ =>
      simp only [cells3, List.drop_zero, List.drop_succ_cons, List.take_succ_cons, List.take_zero, List.getElem?_cons_zero, List.getElem?_cons_succ] at f0 f1 f2 f3
      obtain ⟨a0, e0, _, _⟩ := DataW.trod_int Tryz.underlying3 f0
      obtain ⟨a1, e1, _, _⟩ := DataW.trod_int Tryz.underlying3 f1
      obtain ⟨a2, e2, _, _⟩ := DataW.trod_int Tryz.underlying3 f2
      obtain ⟨a3, e3, _, _⟩ := DataW.trod_int Tryz.underlying3 f3
      simp only [List.cons.injEq, and_true] at e0 e1 e2 e3
      subst e0 e1 e2 e3
      exact ⟨a0, a1, a2, a3, rfl⟩

set_option maxRecDepth 100000 in
theorem open_act {H : Type} {enc : TypeId × Value → H} {w : World} {spare : Nat → Bool} {held : Bool} {n : Nat} {cs : List Value} {x : DataW H × List MemPlace} (h : DataW.trod enc Tryz.prog w 0 spare held n 28 cs = some x) :
    ∃ y : Actn, cs = [.int .i64 y.k, .int .i64 y.p, .int .i64 y.q, .int .i64 y.m, .string y.s, .bool y.c] ∧ I64 y.p ∧ I64 y.q ∧ I64 y.m ∧ ∃ xs : List (DataW H), x.1 = .agg xs ∧ xs[4]? = some (.lit (.string y.s.data.toList)) := by
  obtain ⟨xs, m, _, hx1, hl, hx, hf⟩ := DataW.trod_struct Tryz.underlying28 h
  rw [cells28] at hl
  match cs, hl with
  | [c0, c1, c2, c3, c4, c5], _ =>
    have f0 : DataW.trod enc Tryz.prog w 0 spare held m 3 (([c0, c1, c2, c3, c4, c5].drop 0).take (Tryz.prog.cellsOf 3)) = xs[0]? := hf 0 _ rfl
    have f1 : DataW.trod enc Tryz.prog w 0 spare held m 3 (([c0, c1, c2, c3, c4, c5].drop 1).take (Tryz.prog.cellsOf 3)) = xs[1]? := hf 1 _ rfl
    have f2 : DataW.trod enc Tryz.prog w 0 spare held m 3 (([c0, c1, c2, c3, c4, c5].drop 2).take (Tryz.prog.cellsOf 3)) = xs[2]? := hf 2 _ rfl
    have f3 : DataW.trod enc Tryz.prog w 0 spare held m 3 (([c0, c1, c2, c3, c4, c5].drop 3).take (Tryz.prog.cellsOf 3)) = xs[3]? := hf 3 _ rfl
    have f4 : DataW.trod enc Tryz.prog w 0 spare held m 9 (([c0, c1, c2, c3, c4, c5].drop 4).take (Tryz.prog.cellsOf 9)) = xs[4]? := hf 4 _ rfl
    have f5 : DataW.trod enc Tryz.prog w 0 spare held m 4 (([c0, c1, c2, c3, c4, c5].drop 5).take (Tryz.prog.cellsOf 4)) = xs[5]? := hf 5 _ rfl
    match xs, hx with
    | [x0, x1, x2, x3, x4, x5], _ =>
      simp only [cells3, cells4, cells9, List.drop_zero, List.drop_succ_cons, List.take_succ_cons, List.take_zero, List.getElem?_cons_zero, List.getElem?_cons_succ] at f0 f1 f2 f3 f4 f5
      obtain ⟨a0, e0, _, _⟩ := DataW.trod_int Tryz.underlying3 f0
      obtain ⟨a1, e1, _, w1⟩ := DataW.trod_int Tryz.underlying3 f1
      obtain ⟨a2, e2, _, w2⟩ := DataW.trod_int Tryz.underlying3 f2
      obtain ⟨a3, e3, _, w3⟩ := DataW.trod_int Tryz.underlying3 f3
      obtain ⟨a4, e4, d4, _⟩ := DataW.trod_string Tryz.underlying9 f4
      obtain ⟨a5, e5, _⟩ := DataW.trod_bool Tryz.underlying4 f5
      simp only [List.cons.injEq, and_true] at e0 e1 e2 e3 e4 e5
      subst e0 e1 e2 e3 e4 e5
      refine ⟨⟨a0, a1, a2, a3, a4, a5⟩, rfl, w1, w2, w3, _, by rw [hx1], ?_⟩
      simp [d4]

theorem bulk_one {H : Type} (d : DataW H) : 1 ≤ Rows.uptoBulk d := by
  cases d with
  | lit l => cases l <;> simp [Rows.uptoBulk]
  | _ => simp [Rows.uptoBulk]

theorem bulk_len {H : Type} : ∀ l : List (DataW H), l.length ≤ Rows.uptoBulkAll l
  | [] => Nat.zero_le _
  | x :: r => by
    have h1 := bulk_one x
    have h2 := bulk_len r
    simp only [Rows.uptoBulkAll, List.length_cons]
    omega

theorem bulk_at {H : Type} : ∀ (l : List (DataW H)) (i : Nat) (d : DataW H), l[i]? = some d → Rows.uptoBulk d ≤ Rows.uptoBulkAll l
  | [], i, d, h => by simp at h
  | x :: r, 0, d, h => by
    simp only [List.getElem?_cons_zero, Option.some.injEq] at h
    subst h
    simp only [Rows.uptoBulkAll]
    omega
  | x :: r, i + 1, d, h => by
    simp only [List.getElem?_cons_succ] at h
    have := bulk_at r i d h
    simp only [Rows.uptoBulkAll]
    omega

theorem list_of_fn {α : Type} {p : Nat → α → Prop} : ∀ (n : Nat), (∀ i, i < n → ∃ x, p i x) → ∃ l : List α, l.length = n ∧ ∀ (i : Nat) x, l[i]? = some x → p i x
  | 0, _ => ⟨[], rfl, fun i x h => by simp at h⟩
  | n + 1, h => by
    obtain ⟨l, hl, hp⟩ := list_of_fn n (fun i hi => h i (by omega))
    obtain ⟨x, hx⟩ := h n (by omega)
    refine ⟨l ++ [x], by simp [hl], fun i y hy => ?_⟩
    by_cases hi : i < l.length
    · rw [List.getElem?_append_left hi] at hy
      exact hp i y hy
    · rw [List.getElem?_append_right (by omega)] at hy
      have h0 : i - l.length = 0 := by
        have := (List.getElem?_eq_some_iff.mp hy).1
        simp at this
        omega
      rw [h0] at hy
      obtain rfl : x = y := by simpa using hy
      have : i = n := by omega
      subst this
      exact hx

/-- The script, opened. -/
theorem open_script {H : Type} {enc : TypeId × Value → H} {w : World} {n : Nat} {v : Value} {x : DataW H × List MemPlace} (h : DataW.trod enc Tryz.prog w 0 (fun _ => true) true n 26 v.cells.toList = some x) (hv : ∃ a l c, v = .slice a l c) :
    ∃ ao cap, ∃ l : List Actn, v = .slice ao l.length cap ∧ ActsAt w ao l ∧ l.length ≤ Rows.uptoBulk x.1 ∧ ∀ y ∈ l, I64 y.p ∧ I64 y.q ∧ I64 y.m ∧ y.s.size ≤ Rows.uptoBulk x.1 := by
  obtain ⟨a0, l0, c0, rfl⟩ := hv
  rcases Deep.open_slice Tryz.underlying26 h with ⟨hcs, rfl⟩ | ⟨a, len, cap, m, k, D, Pl, hcs, _, hl, hm, hmm, rfl, hel⟩
  · simp [Value.cells] at hcs
    obtain ⟨rfl, rfl, rfl⟩ := hcs
    exact ⟨none, 0, [], rfl, fun i x hx => by simp at hx, Nat.zero_le _, fun y hy => by cases hy⟩
  · simp [Value.cells] at hcs
    obtain ⟨rfl, rfl, rfl⟩ := hcs
    simp only [if_true] at hmm
    subst hmm
    rw [cells28] at hel
    obtain ⟨l, hls, hst⟩ := list_of_fn (p := fun i (y : Actn) => i < l0 ∧ (∃ sb so, some a = some (⟨sb, so, none⟩ : Addr) ∧ sb < w.heap.size ∧ y.at_ w sb (so + i * 6)) ∧ I64 y.p ∧ I64 y.q ∧ I64 y.m ∧ y.s.size ≤ Rows.uptoBulk (D i)) l0 (fun i hi => by
      obtain ⟨cs, h1, h2⟩ := hel i (by omega)
      obtain ⟨y, rfl, w1, w2, w3, xs, hD, hs⟩ := open_act h2
      obtain ⟨_, _, hcell⟩ := World.cells?_some h1
      obtain ⟨cs0, g1, g2⟩ := hel 0 (by omega)
      obtain ⟨y0, rfl, _⟩ := open_act g2
      obtain ⟨_, _, gcell⟩ := World.cells?_some g1
      obtain ⟨sb, so, spot⟩ := a
      have h0 := gcell 0 (by omega)
      have hspot : spot = none := by
        have := World.cell?_spot h0
        simpa [Addr.add] using this
      subst hspot
      have hc : ∀ j u, j < 6 → [Value.int .i64 y.k, .int .i64 y.p, .int .i64 y.q, .int .i64 y.m, .string y.s, .bool y.c][j]? = some u → w.cell? ⟨sb, so + i * 6 + j, none⟩ = some u := fun j u hj hu => by
        have := hcell j hj
        rw [Addr.add_lit, Addr.add_lit] at this
        rw [this]; exact hu
      refine ⟨y, hi, ⟨sb, so, rfl, World.block_lt_of_cell? w ⟨sb, so + i * 6 + 0, none⟩ (hc 0 _ (by omega) rfl), ⟨hc 0 _ (by omega) rfl, hc 1 _ (by omega) rfl, hc 2 _ (by omega) rfl, hc 3 _ (by omega) rfl, hc 4 _ (by omega) rfl, hc 5 _ (by omega) rfl⟩⟩, w1, w2, w3, ?_⟩
      have hb := bulk_at xs 4 _ hs
      have hD' : D i = .agg xs := hD
      have hz : y.s.data.toList.length = y.s.size := Array.length_toList
      rw [hD']
      simp only [Rows.uptoBulk] at hb ⊢
      omega)
    have hbig : Rows.uptoBulkAll ((List.range l0).map D) ≤ Rows.uptoBulk (DataW.slice ((List.range l0).map D) ((List.range (m - l0)).map fun j => D (l0 + j))) := by
      simp only [Rows.uptoBulk]
      omega
    refine ⟨some a, _, l, by rw [hls], fun i x hx => (hst i x hx).2.1, ?_, fun y hy => ?_⟩
    · have := bulk_len ((List.range l0).map D)
      simp only [List.length_map, List.length_range] at this
      exact Nat.le_trans (by omega) hbig
    · obtain ⟨i, hi, rfl⟩ := List.getElem_of_mem hy
      obtain ⟨hi0, _, w1, w2, w3, hs⟩ := hst i _ (List.getElem?_eq_getElem hi)
      have hb := bulk_at ((List.range l0).map D) i (D i) (by simp [hi0])
      exact ⟨w1, w2, w3, Nat.le_trans hs (Nat.le_trans hb hbig)⟩

/-- The row of Writes, of a machine whose others have ended. -/
def rowAlone : OpenClaim := { Rows.writesUptoRow with leaving := false }

set_option maxRecDepth 100000 in
theorem writes_lifted (os : Os) (started : os.Started) (H : Type) (enc : TypeId × Value → H) (F : Stop.Interp) :
    ReturnsInHanded {} Tryz.checked os 4 .any ((Rows.OpenSpec.upto Rows.writesSpec).pre6 enc Tryz.prog Tryz.f4 rowAlone.domain false) (((Rows.OpenSpec.upto Rows.writesSpec).at F).post enc Tryz.prog Tryz.f4 false true false false) := by
  refine returnsInHanded_of_cond (C := Tryz.checked) (s := Rows.OpenSpec.upto Rows.writesSpec) (k := Rows.uptoSmall) rfl ownKnob4 started (by kernel_rfl) Tryz.func4
    (OpenSpec.witness (enc := enc) (C := Tryz.checked) (s := Rows.OpenSpec.upto Rows.writesSpec) (k := Rows.uptoSmall) rfl false ⟨#[], #[.agg #[.int .i64 0, .int .i64 0, .int .i64 0, .int .i64 0], .slice none 0 0], []⟩ 8 (by kernel_rfl) (by kernel_rfl) (by kernel_rfl)
      (x := ([.agg [.lit (.int .i64 0), .lit (.int .i64 0), .lit (.int .i64 0), .lit (.int .i64 0)], .nil], [], [])) (by kernel_rfl) rfl (by kernel_rfl)) ?_
  intro W base args ds gs before hval0 hW _ hk _
  have hval : ∀ (j : Nat) t v, Tryz.f4.params[j]? = some t → args[j]? = some v → Value.okWide Tryz.prog W .any base t v := hval0
  have hW' := hW
  obtain ⟨p, q, hA0, hV, rfl, _, _⟩ := hW
  have hA : DataW.TrodAll enc Tryz.prog W 0 (fun _ => true) true Tryz.f4.params.toList args.toList ds p := hA0
  rw [Tryz.params4] at hA hval
  obtain ⟨v0, v1, d0, d1, p0, p1, rfl, rfl, rfl, h0, h1⟩ := trodAll_two hA
  obtain ⟨rfl, rfl⟩ := trodVars_none hV
  have hok := hval 0 23 v0 rfl rfl
  obtain ⟨a0, len, cap, hv1⟩ := okWide_slice Tryz.underlying26 (hval 1 26 v1 rfl rfl)
  have h0k := h0
  have h1k := h1
  obtain ⟨fuel, hf⟩ := h0
  obtain ⟨fuel1, hf1⟩ := h1
  clear hA0 hval0
  simp only [List.append_nil] at hW' hk
  have hlt : ∀ x ∈ p0 ++ p1, x.block < W.heap.size := fun x hx => by simpa using hW'.lt x hx
  have hargs0 : ∀ (W' : World), Below W.heap.size W W' → DataW.Trod enc Tryz.prog W' 0 (fun b => decide (b < W.heap.size)) true 23 v0 d0 p0 :=
    fun W' hn => Below.trod laidOut (by kernel_rfl) (of_decide_eq_true (by kernel_rfl)) h0k hn (fun x hx => hlt x (List.mem_append_left _ hx))
  have hargs1 : ∀ (W' : World), Below W.heap.size W W' → DataW.Trod enc Tryz.prog W' 0 (fun b => decide (b < W.heap.size)) true 26 v1 d1 p1 :=
    fun W' hn => Below.trod laidOut (by kernel_rfl) (of_decide_eq_true (by kernel_rfl)) h1k hn (fun x hx => hlt x (List.mem_append_right _ hx))
  obtain ⟨P, Q, T, K, hcs⟩ := open_conf hf
  have hv : v0 = conf P Q T K := by
    obtain ⟨cs, rfl, _⟩ := okWide_struct Tryz.underlying23 hok
    have e : cs.toList = [.int .i64 P, .int .i64 Q, .int .i64 T, .int .i64 K] := hcs
    have e2 : cs = #[.int .i64 P, .int .i64 Q, .int .i64 T, .int .i64 K] := by rw [← Array.toList_inj, e]
    rw [e2]
    rfl
  subst hv
  obtain ⟨ao, cap', l, rfl, hst, hl, hls⟩ := open_script hf1 ⟨a0, len, cap, hv1⟩
  have hsmall : Rows.uptoBulk d1 ≤ 1048576 := by
    have h1 : Rows.uptoBulkAll [d0, d1] ≤ 1048576 := of_decide_eq_true hk
    simp only [Rows.uptoBulkAll] at h1
    omega
  refine (writes_any (cap := cap') W P Q T K hst (fun x hx => ?_) (Nat.le_trans hl hsmall)).mono fun e W' ⟨he, hb⟩ => ?_
  · obtain ⟨w1, w2, w3, w4⟩ := hls x hx
    exact ⟨w1, w2, w3, by have : x.s.size ≤ Rows.uptoBulk d1 := w4; omega⟩
  subst he
  refine ⟨_, rfl, _, _, _, [], p0 ++ p1, [], hW', ?_, ?_, rfl, hb.frame _, fun h => by cases h⟩
  · exact trodAll_mk1 (shut_bool Tryz.underlying4 _)
  · exact trodAll_mk2 (hargs0 _ hb) (hargs1 _ hb)

theorem writes_alone : rowAlone.holds Tryz.pinned (Rows.OpenSpec.upto Rows.writesSpec) :=
  OpenClaim.holds_of_cond 4 Tryz.f4 rfl rfl rfl rfl rfl rfl rfl ⟨rfl, rfl, rfl, rfl, rfl⟩ rfl rfl rfl rfl rfl (by kernel_rfl) Tryz.func4 (by kernel_rfl)
    (of_decide_eq_true (by kernel_rfl)) (by unfold Func.isWrapper; first | (rw [if_pos (by decide +kernel)]; kernel_rfl) | (rw [if_neg (by decide +kernel)]; exact ⟨rfl, rfl⟩))
    (fun os started H enc _ F => writes_lifted os started H enc F)

/-- Whoever has ended leaves. -/
theorem leaves_of_alone {P : Program} {m : Machine} {w : World} {t : Trace} (h : aloneAtReturn P m w t) : leavingAtReturn P m w t := by
  refine ⟨h.2.1, ⟨fun g hg => ⟨0, ?_⟩, h.1.2⟩, h.2.2⟩
  have h1 := h.1.1
  unfold Machine.othersDone at h1
  rw [List.all_eq_true] at h1
  show g.status = .finished
  simpa using h1 g hg

theorem writes_holds : Rows.WritesUptoSaid := by
  obtain ⟨_, h2, h3, h4, h5, h6, h7, h8, f, fn, h9, h10, h11, h12, h13, h14, h15, h16, h17, h18, h19, h20, h21, h22, h23, h24, h25, h26, h27, h28, h29, L, h30, h31⟩ := writes_alone
  refine ⟨by kernel_rfl, h2, h3, h4, h5, h6, h7, h8, f, fn, h9, h10, h11, h12, h13, h14, h15, h16, h17, h18, h19, h20, h21, h22, h23, h24, h25, h26, h27, h28, h29, L, h30, fun os st hq H enc inj => ?_⟩
  have h : ∀ F : Stop.Interp, _ := h31 os st hq H enc inj
  exact fun F => ReturnsInOpen.mono (atReturn := aloneAtReturn Tryz.pinned.checked.prog) (fun _ _ _ x => leaves_of_alone x) (fun _ x => x) (h F)

#print axioms writes_holds

end Go.Proofs.YtkelpcjiediamaaGreat

