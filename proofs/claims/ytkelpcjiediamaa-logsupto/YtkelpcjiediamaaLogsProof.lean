/-
  What is proved: where the script is of bulk at most 1,048,576, whatever is done to two logs of package part by it, every answer is the document's, and no list that came out changes behind its owner's writing: Logs answers true, and the script reads behind the call as it did before.
-/
import Derived.Test.YtkelpcjiediamaaLogs
import Derived.Test.YtkelpcjiediamaaSteadyProof
import Derived.JoinedCond
namespace Go.Proofs.Ytkelpcjiediamaa
open Go.ChangeShapes Go.WideShapes Go.ChangeAt Go.RowKit

set_option maxRecDepth 100000 in
theorem step_which {H : Type} {enc : TypeId × Value → H} {w : World} {spare : Nat → Bool} {held : Bool} {n : Nat} {c0 c1 c2 c3 c4 c5 : Value} {x : DataW H × List MemPlace} (h : DataW.trod enc Try.prog w 0 spare held n 39 [c0, c1, c2, c3, c4, c5] = some x) :
    ∃ a : Int, c0 = .int .i64 a ∧ I64 a := by
  obtain ⟨xs, m, _, _, hl, hx, hf⟩ := DataW.trod_struct Try.underlying39 h
  have f0 : DataW.trod enc Try.prog w 0 spare held m 3 (([c0, c1, c2, c3, c4, c5].drop 0).take (Try.prog.cellsOf 3)) = xs[0]? := hf 0 _ rfl
  match xs, hx with
  | [x0, x1, x2, x3, x4, x5], _ =>
    simp only [cells3, List.drop_zero, List.take_succ_cons, List.take_zero, List.getElem?_cons_zero] at f0
    obtain ⟨a0, e0, _, w0⟩ := DataW.trod_int Try.underlying3 f0
    simp only [List.cons.injEq, and_true] at e0
    exact ⟨a0, e0, w0⟩

/-- The script's choices, opened. -/
theorem script_which {H : Type} {enc : TypeId × Value → H} {w : World} {n : Nat} {ao : Option Addr} {cap : Nat} {sts : List Stp} {x : DataW H × List MemPlace} (h : DataW.trod enc Try.prog w 0 (fun _ => true) true n 22 (Value.slice ao sts.length cap).cells.toList = some x) (hst : StepsAt w ao sts) : ∀ y ∈ sts, I64 y.wh := by
  intro y hy
  obtain ⟨i, hi, rfl⟩ := List.getElem_of_mem hy
  obtain ⟨sb, so, rfl, _, hat, _⟩ := hst i _ (List.getElem?_eq_getElem hi)
  rcases Deep.open_slice Try.underlying22 h with ⟨hcs, _⟩ | ⟨a, len, cap', m, k, D, Pl, hcs, _, hl, hm, hmm, _, hel⟩
  · simp [Value.cells] at hcs
  · simp [Value.cells] at hcs
    obtain ⟨rfl, rfl, rfl⟩ := hcs
    simp only [if_true] at hmm
    subst hmm
    rw [cells39] at hel
    obtain ⟨cs, h1, h2⟩ := hel i (by omega)
    obtain ⟨z, rfl, _⟩ := open_step h2
    obtain ⟨b, hb, hw⟩ := step_which h2
    obtain ⟨_, _, hcell⟩ := World.cells?_some h1
    have := hcell 0 (by omega)
    rw [Addr.add_lit, Addr.add_lit] at this
    have h3 : some (Value.int .i64 z.wh) = some (.int .i64 (sts[i]).wh) := this.symm.trans hat.1
    simp only [Option.some.injEq, Value.int.injEq, true_and] at h3 hb
    rw [← h3, hb]
    exact hw

theorem bulk_one {H : Type} (d : DataW H) : 1 ≤ Rows.uptoBulk d := by
  cases d with
  | lit l => cases l <;> simp [Rows.uptoBulk]
  | _ => simp [Rows.uptoBulk]

theorem bulk_len {H : Type} : ∀ l : List (DataW H), l.length ≤ Rows.uptoBulkAll l
  | [] => Nat.zero_le _
  | x :: r => by
    have h1 := bulk_one x
    have h2 := bulk_len r
    simp only [Rows.uptoBulkAll, List.length_cons]
    omega

set_option maxRecDepth 100000 in
theorem logs_lifted (os : Os) (started : os.Started) (H : Type) (enc : TypeId × Value → H) (F : Stop.Interp) :
    ReturnsInHanded {} Try.checked os 3 .any ((Rows.OpenSpec.upto Rows.logsSpec).pre6 enc Try.prog Try.f3 Rows.logsUptoRow.domain false) (((Rows.OpenSpec.upto Rows.logsSpec).at F).post enc Try.prog Try.f3 false true false false) := by
  refine returnsInHanded_of_cond (C := Try.checked) (s := Rows.OpenSpec.upto Rows.logsSpec) (k := Rows.uptoSmall) rfl ownKnob4 started (by kernel_rfl) Try.func3
    (OpenSpec.witness (enc := enc) (C := Try.checked) (s := Rows.OpenSpec.upto Rows.logsSpec) (k := Rows.uptoSmall) rfl false ⟨#[], #[.slice none 0 0], []⟩ 8 (by kernel_rfl) (by kernel_rfl) (by kernel_rfl)
      (x := ([.nil], [], [])) (by kernel_rfl) rfl (by kernel_rfl)) ?_
  intro W base args ds gs before hval0 hW _ hk _
  have hval : ∀ (j : Nat) t v, Try.f3.params[j]? = some t → args[j]? = some v → Value.okWide Try.prog W .any base t v := hval0
  have hW' := hW
  obtain ⟨p, q, hA0, hV, rfl, _, _⟩ := hW
  have hA : DataW.TrodAll enc Try.prog W 0 (fun _ => true) true Try.f3.params.toList args.toList ds p := hA0
  rw [Try.params3] at hA hval
  obtain ⟨v0, d0, rfl, rfl, h0⟩ := trodAll_one hA
  obtain ⟨rfl, rfl⟩ := trodVars_none hV
  obtain ⟨a0, len, cap, hv0⟩ := okWide_slice Try.underlying22 (hval 0 22 v0 rfl rfl)
  have h0k := h0
  obtain ⟨fuel, hf⟩ := h0
  clear hA0 hval0
  simp only [List.append_nil] at hW' hk
  have hlt : ∀ x ∈ p, x.block < W.heap.size := fun x hx => by simpa using hW'.lt x hx
  have hargs : ∀ (W' : World), Below W.heap.size W W' → DataW.Trod enc Try.prog W' 0 (fun b => decide (b < W.heap.size)) true 22 v0 d0 p :=
    fun W' hn => Below.trod laidOut (by kernel_rfl) (of_decide_eq_true (by kernel_rfl)) h0k hn hlt
  obtain ⟨ao, cap', sts, rfl, hst, hd⟩ := open_script hf ⟨a0, len, cap, hv0⟩ hlt
  have hsmall : sts.length ≤ 1048576 := by
    rcases hd with ⟨_, rfl⟩ | ⟨el, sp, rfl, hel⟩
    · simp
    · have h1 : Rows.uptoBulkAll [DataW.slice el sp] ≤ 1048576 := of_decide_eq_true hk
      have h2 := bulk_len el
      simp only [Rows.uptoBulkAll, Rows.uptoBulk] at h1
      omega
  refine (logs_any (cap := cap') hst (script_which hf hst) hsmall).mono fun e W' ⟨he, hb⟩ => ?_
  subst he
  refine ⟨_, rfl, _, _, _, [], p, [], hW', ?_, ?_, rfl, hb.frame _, fun h => by cases h⟩
  · exact trodAll_mk1 (shut_bool Try.underlying4 _)
  · exact trodAll_mk1 (hargs _ hb)

theorem logs_holds : Rows.LogsUptoSaid :=
  OpenClaim.holds_of_cond 3 Try.f3 rfl rfl rfl rfl rfl rfl rfl ⟨rfl, rfl, rfl, rfl, rfl⟩ rfl rfl rfl rfl rfl (by kernel_rfl) Try.func3 (by kernel_rfl)
    (of_decide_eq_true (by kernel_rfl)) (by unfold Func.isWrapper; first | (rw [if_pos (by decide +kernel)]; kernel_rfl) | (rw [if_neg (by decide +kernel)]; exact ⟨rfl, rfl⟩))
    (fun os started H enc _ F => logs_lifted os started H enc F)

#print axioms logs_holds

end Go.Proofs.Ytkelpcjiediamaa
