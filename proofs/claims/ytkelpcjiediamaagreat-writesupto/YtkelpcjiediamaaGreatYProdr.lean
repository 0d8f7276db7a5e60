/-
  The document's Producer in every state.
-/
import Derived.Test.YtkelpcjiediamaaGreatYAdd2
import Derived.Test.YtkelpcjiediamaaGreatDeeds
namespace Go.Proofs.YtkelpcjiediamaaGreat
open Go.RowKit Go.Maps

/-- The parts of a transaction, by rising numbers. -/
def partsL (z : St) (k : Nat) : List Int := ((List.range k).filter fun (i : Nat) => decide ((i : Int) ∈ z.ps)).map Int.ofNat
/-- Those that are pending. -/
def pendL (D : List Du) (m : Int) (k : Nat) : List Int := (List.range k).flatMap fun (q : Nat) => (D.filter fun d => decide (d.p = m ∧ d.q = (q : Int))).map fun _ => (q : Int)

/-- .. if there was a decision. -/
def pendS (s : Int) (D : List Du) (m : Int) (k : Nat) : List Int := if 1 < s then pendL D m k else []
/-- .. and the first j dues gone through for part k. -/
def pendJ (s : Int) (D : List Du) (m : Int) (k j : Nat) : List Int := if 1 < s then pendL D m k ++ ((D.take j).filter fun d => decide (d.p = m ∧ d.q = (k : Int))).map (fun _ => (k : Int)) else []

theorem partsL_succ (z : St) (k : Nat) : partsL z (k + 1) = partsL z k ++ if (k : Int) ∈ z.ps then [(k : Int)] else [] := by
  unfold partsL
  rw [List.range_succ, List.filter_append, List.map_append]
  congr 1
  by_cases h : (k : Int) ∈ z.ps
  · rw [if_pos h, List.filter_cons_of_pos (by simpa using h)]; rfl
  · rw [if_neg h, List.filter_cons_of_neg (by simpa using h)]; rfl

theorem partsL_len (z : St) (k : Nat) : (partsL z k).length ≤ k := by
  unfold partsL
  rw [List.length_map]
  exact Nat.le_trans (List.length_filter_le _ _) (by simp)

theorem pendL_succ (D : List Du) (m : Int) (k : Nat) : pendL D m (k + 1) = pendL D m k ++ (D.filter fun d => decide (d.p = m ∧ d.q = (k : Int))).map fun _ => (k : Int) := by
  unfold pendL
  rw [List.range_succ, List.flatMap_append]
  simp

theorem pendL_len (D : List Du) (m : Int) : ∀ k, (pendL D m k).length ≤ k * D.length
  | 0 => by simp [pendL]
  | k + 1 => by
    rw [pendL_succ, List.length_append, List.length_map, Nat.add_mul]
    have := pendL_len D m k
    have := List.length_filter_le (fun d : Du => decide (d.p = m ∧ d.q = (k : Int))) D
    omega

/-- While a producer's parts are gathered. -/
structure PInv (w w' : World) (z : St) (va : Option Addr) (vc sb ob : Nat) (A Bl : List Int) (pv bv : Value) : Prop where
  fr : Fr (fun _ => False) w w'
  res : w'.heap[w.heap.size]? = some (.cells #[.int .i64 0, .int .i64 0, .int .i64 0, .slice none 0 0, .slice none 0 0] 58 (0, 0))
  sblk : w'.heap[sb]? = some (.cells #[.int .i64 z.e, .int .i64 z.t, .int .i64 z.s, .slice va z.ps.length vc] 157 (0, 0))
  prow : w'.ownsRow w.heap.size 3 1 (.slice va z.ps.length vc) z.ps.length (intCells z.ps)
  oblk : w'.heap[ob]? = some (.cells #[.int .i64 z.e, .int .i64 z.t, .int .i64 z.s, pv, bv] 58 (0, 0))
  ra : w'.ownsRow w.heap.size 3 1 pv A.length (intCells A)
  rb : w'.ownsRow w.heap.size 3 1 bv Bl.length (intCells Bl)
  ab : ∀ q, pv.ownBlock = some q → bv.ownBlock ≠ some q
  apa : ∀ q, Value.ownBlock (.slice va z.ps.length vc) = some q → pv.ownBlock ≠ some q
  apb : ∀ q, Value.ownBlock (.slice va z.ps.length vc) = some q → bv.ownBlock ≠ some q
  nso : sb ≠ ob
  nro : w.heap.size ≠ ob
  hob : w.heap.size ≤ ob

section
variable {w w' : World} {z : St} {va : Option Addr} {vc sb ob : Nat} {A Bl : List Int} {pv bv : Value}


theorem PInv.addA {W w3 : World} {x : Int} {v' : Value} (h : PInv w w' z va vc sb ob A Bl pv bv) (fW : Fr (fun _ => False) w' W) (hg : W.grownBy w3 pv.ownBlock) (hown : w3.ownsRow w.heap.size 3 1 v' (A.length + 1) (intCells A ++ [.int .i64 x])) (hat : ∀ q, v'.ownBlock = some q → pv.ownBlock = some q ∨ w'.heap.size ≤ q) :
    PInv w (w3.setCell ⟨ob, 3, none⟩ v') z va vc sb ob (A ++ [x]) Bl v' bv := by
  have f3 : Fr (fun q => pv.ownBlock = some q) w' w3 := (fW.mono (fun _ h => h.elim)).grown hg (fun q e => .inl e)
  have nob : pv.ownBlock ≠ some ob := row_ne_blk h.ra h.oblk (by decide)
  have nsb : pv.ownBlock ≠ some sb := row_ne_blk h.ra h.sblk (by decide)
  have nrb : pv.ownBlock ≠ some w.heap.size := row_ne_blk h.ra h.res (by decide)
  have ho := lt_of_block h.oblk
  have fs : Fr (fun q => q = ob) w3 (w3.setCell ⟨ob, 3, none⟩ v') := (Fr.refl (fun q => q = ob) w3).setCell (p := ⟨ob, 3, none⟩) (.inl rfl) _
  have f4 : Fr (fun q => q = ob ∨ pv.ownBlock = some q) w' (w3.setCell ⟨ob, 3, none⟩ v') := (f3.mono (fun q e => .inl (.inr e))).trans fs (fun q e => .inl (.inl e))
  have row : ∀ {u : Value} {m : Nat} {xs : List Value}, w'.ownsRow w.heap.size 3 1 u m xs → (∀ q, u.ownBlock = some q → pv.ownBlock ≠ some q) → (w3.setCell ⟨ob, 3, none⟩ v').ownsRow w.heap.size 3 1 u m xs := fun hr hn => f4.ownsRow hr (fun q hq e => by
    rcases e with e | e
    · exact row_ne_blk hr h.oblk (by decide) (by rw [hq, e])
    · exact hn q hq e)
  have lt' : ∀ {u : Value} {m : Nat} {xs : List Value} {q : Nat}, w'.ownsRow w.heap.size 3 1 u m xs → u.ownBlock = some q → q < w'.heap.size := fun hr hq => (hr.lt _ hq).2
  have hn3 : (w3.setCell ⟨ob, 3, none⟩ v').ownsRow w.heap.size 3 1 v' (A ++ [x]).length (intCells (A ++ [x])) := by
    rw [List.length_append, show intCells (A ++ [x]) = intCells A ++ [.int .i64 x] by simp [intCells]]
    refine fs.ownsRow hown (fun q hq e => ?_)
    subst e
    rcases hat q hq with a | a
    · exact nob a
    · omega
  refine ⟨h.fr.trans f4 (fun q hq => .inr ?_), (f4.block _ (lt_of_block h.res) ?_).trans h.res, (f4.block _ (lt_of_block h.sblk) ?_).trans h.sblk, row h.prow ?_, ?_, ?_, ?_, ?_, ?_, ?_, h.nso, h.nro, h.hob⟩
  · rcases hq with hq | hq
    · rw [hq]; exact h.hob
    · exact (h.ra.lt q hq).1
  · intro e
    rcases e with e | e
    · exact h.nro e
    · exact nrb e
  · intro e
    rcases e with e | e
    · exact h.nso e
    · exact nsb e
  · intro q hq e
    exact h.apa q hq e
  · rw [setCell_cells ((f3.block _ ho nob).trans h.oblk)]
    rfl
  · exact hn3
  · exact row h.rb (fun q hq e => h.ab q e hq)
  · intro q h1 h2
    rcases hat q h1 with a | a
    · exact h.ab q a h2
    · have := lt' h.rb h2; omega
  · intro q h1 h2
    rcases hat q h2 with a | a
    · exact h.apa q h1 a
    · have := lt' h.prow h1; omega
  · intro q h1 h2
    exact h.apb q h1 h2

theorem PInv.addB {W w3 : World} {x : Int} {v' : Value} (h : PInv w w' z va vc sb ob A Bl pv bv) (fW : Fr (fun _ => False) w' W) (hg : W.grownBy w3 bv.ownBlock) (hown : w3.ownsRow w.heap.size 3 1 v' (Bl.length + 1) (intCells Bl ++ [.int .i64 x])) (hat : ∀ q, v'.ownBlock = some q → bv.ownBlock = some q ∨ w'.heap.size ≤ q) :
    PInv w (w3.setCell ⟨ob, 4, none⟩ v') z va vc sb ob A (Bl ++ [x]) pv v' := by
  have f3 : Fr (fun q => bv.ownBlock = some q) w' w3 := (fW.mono (fun _ h => h.elim)).grown hg (fun q e => .inl e)
  have nob : bv.ownBlock ≠ some ob := row_ne_blk h.rb h.oblk (by decide)
  have nsb : bv.ownBlock ≠ some sb := row_ne_blk h.rb h.sblk (by decide)
  have nrb : bv.ownBlock ≠ some w.heap.size := row_ne_blk h.rb h.res (by decide)
  have ho := lt_of_block h.oblk
  have fs : Fr (fun q => q = ob) w3 (w3.setCell ⟨ob, 4, none⟩ v') := (Fr.refl (fun q => q = ob) w3).setCell (p := ⟨ob, 4, none⟩) (.inl rfl) _
  have f4 : Fr (fun q => q = ob ∨ bv.ownBlock = some q) w' (w3.setCell ⟨ob, 4, none⟩ v') := (f3.mono (fun q e => .inl (.inr e))).trans fs (fun q e => .inl (.inl e))
  have row : ∀ {u : Value} {m : Nat} {xs : List Value}, w'.ownsRow w.heap.size 3 1 u m xs → (∀ q, u.ownBlock = some q → bv.ownBlock ≠ some q) → (w3.setCell ⟨ob, 4, none⟩ v').ownsRow w.heap.size 3 1 u m xs := fun hr hn => f4.ownsRow hr (fun q hq e => by
    rcases e with e | e
    · exact row_ne_blk hr h.oblk (by decide) (by rw [hq, e])
    · exact hn q hq e)
  have lt' : ∀ {u : Value} {m : Nat} {xs : List Value} {q : Nat}, w'.ownsRow w.heap.size 3 1 u m xs → u.ownBlock = some q → q < w'.heap.size := fun hr hq => (hr.lt _ hq).2
  have hn3 : (w3.setCell ⟨ob, 4, none⟩ v').ownsRow w.heap.size 3 1 v' (Bl ++ [x]).length (intCells (Bl ++ [x])) := by
    rw [List.length_append, show intCells (Bl ++ [x]) = intCells Bl ++ [.int .i64 x] by simp [intCells]]
    refine fs.ownsRow hown (fun q hq e => ?_)
    subst e
    rcases hat q hq with a | a
    · exact nob a
    · omega
  refine ⟨h.fr.trans f4 (fun q hq => .inr ?_), (f4.block _ (lt_of_block h.res) ?_).trans h.res, (f4.block _ (lt_of_block h.sblk) ?_).trans h.sblk, row h.prow ?_, ?_, ?_, ?_, ?_, ?_, ?_, h.nso, h.nro, h.hob⟩
  · rcases hq with hq | hq
    · rw [hq]; exact h.hob
    · exact (h.rb.lt q hq).1
  · intro e
    rcases e with e | e
    · exact h.nro e
    · exact nrb e
  · intro e
    rcases e with e | e
    · exact h.nso e
    · exact nsb e
  · intro q hq e
    exact h.apb q hq e
  · rw [setCell_cells ((f3.block _ ho nob).trans h.oblk)]
    rfl
  · exact row h.ra (fun q hq e => h.ab q hq e)
  · exact hn3
  · intro q h1 h2
    rcases hat q h2 with a | a
    · exact h.ab q h1 a
    · have := lt' h.ra h1; omega
  · intro q h1 h2
    exact h.apa q h1 h2
  · intro q h1 h2
    rcases hat q h2 with a | a
    · exact h.apb q h1 a
    · have := lt' h.prow h1; omega
end

section
variable {w w' : World} {B yb : Nat} {y : RS}

set_option maxRecDepth 100000 in
set_option maxHeartbeats 6400000 in
theorem yproducer_up (h : YAt w B yb y) (hF : y.Fine) {m : Int} (hm : 0 ≤ m ∧ m ≤ y.P - 1) (hd : y.dn = false) (hz0 : 0 < (stand y.L m).s) (hD : y.D.length ≤ 1000000) :
    Calls Tryz.prog 93 #[.pointer (some ⟨yb, 0, none⟩), .int .i64 m] w fun r w' => ∃ va vb, r = .returned (.tuple #[.agg #[.int .i64 (stand y.L m).e, .int .i64 (stand y.L m).t, .int .i64 (stand y.L m).s, va, vb], .int .i64 0]) ∧
      NewInts w w' va (partsL (stand y.L m) y.Q.toNat) ∧ NewInts w w' vb (pendS (stand y.L m).s y.D m y.Q.toNat) ∧ Fr (fun _ => False) w w' := by
  obtain ⟨i0, hi0, hzz0, hzz1, hzz2⟩ := info_parts info3
  have HM : Hid (decide (0 ≤ m ∧ m ≤ y.P - 1) = true) := decide_eq_true hm
  have H : Hid (YAt w B yb y) := h
  have HF : Hid y.Fine := hF
  have HB8 : Hid ((y.L.length + 1) * 8 ≤ 140737488355328) := by have := hF.lL; show (y.L.length + 1) * 8 ≤ 140737488355328; omega
  have c0 : w.cell? ⟨yb, 0, none⟩ = some (.int .i64 y.P) := h.c 0
  have c1 : w.cell? ⟨yb, 1, none⟩ = some (.int .i64 y.Q) := h.c 1
  have c4 : w.cell? ⟨yb, 4, none⟩ = some (.bool y.dn) := h.c 4
  have c10 : w.cell? ⟨yb, 10, none⟩ = some y.dv := h.c 10
  rw [hd] at c4
  obtain ⟨da, dc, hdv, hdl⟩ := anyRow_len h.dues
  rw [hdv] at c10
  have HDV : Hid (y.dv = .slice da y.D.length dc) := hdv
  have hlt := lt_of_block h.blk
  have hp1 := h.hP.2.1
  have hp2 := h.hP.2.2
  have hq1 := h.hQ.2.2.1
  have hq2 := h.hQ.2.2.2
  obtain ⟨qn, hqn⟩ := Int.eq_ofNat_of_zero_le (show 0 ≤ y.Q by omega)
  have hqt : y.Q.toNat = qn := by omega
  rw [hqt]
  rw [hqn] at c1 hq1 hq2
  obtain ⟨z, hz⟩ : ∃ z, stand y.L m = z := ⟨_, rfl⟩
  have HZ : Hid (stand y.L m = z) := hz
  rw [hz] at hz0 ⊢
  have HDL : Hid (y.D.length ≤ 1000000) := hD
  clear h hm hd hz hF hqt hqn hdv
  go_enter Tryz.func93, Tryz.ntmps93
  go_wp2_with (first
    | (go_at_call 72; refine (in_any _ _ _ _).mono ?_; rw [HM.out]; rintro e w1 ⟨rfl, rfl⟩)
    | (go_at_call 105; refine (stand_any (by exact H.out.after (nofr _)) m HF.out.arg HB8.out).mono ?_; rw [HZ.out]; rintro e w2 ⟨v2, rfl, hv2, hf2⟩
       obtain ⟨va, vc, rfl, _⟩ := intRow_len hv2
       have F2 : Hid (Fr (fun _ => False) w w2) := (nofr _).trans hf2 (fun _ h => h.elim)
       have V2 : Hid (w2.ownsRow w.heap.size 3 1 (.slice va z.ps.length vc) z.ps.length (intCells z.ps)) := ownsRow_base hv2 (by simp)
       have B2 : Hid (w2.heap[w.heap.size]? = some (.cells #[.int .i64 0, .int .i64 0, .int .i64 0, .slice none 0 0, .slice none 0 0] 58 (0, 0))) := (hf2.block _ (by simp) id).trans (heap_alloc_new _ _)
       have hzw : w.heap.size < w2.heap.size := Nat.lt_of_lt_of_le (by simp) hf2.size
       clear hf2 hv2))
  go_loopw [8] (fun i w' => ∃ k : Nat, k ≤ qn ∧ i = .int .i64 k ∧ ∃ pv bv, PInv w w' z va vc w2.heap.size (w2.heap.size + 1) (partsL z k) (pendS z.s y.D m k) pv bv) (fun i _ => qn - (intOf i).toNat)
  case atStart =>
    refine ⟨0, Nat.zero_le _, rfl, .slice none 0 0, .slice none 0 0, ((F2.out.alloc _).alloc _), ((((Fr.refl (fun _ => False) w2).alloc _).alloc _).block _ (lt_of_block B2.out) id).trans B2.out, ((nofr _).block _ (by simp) id).trans (heap_alloc_new _ _), (((Fr.refl (fun _ => False) w2).alloc _).alloc _).ownsRow V2.out (fun _ _ => id), alloc_at _ (by simp), World.ownsRow_nil _ _ _ _, ?_, fun q hq => by simp [Value.ownBlock] at hq, fun q _ hq => by simp [Value.ownBlock] at hq, fun q _ hq => by simp [Value.ownBlock] at hq, by omega, by omega, by omega⟩
    have : pendS z.s y.D m 0 = [] := by unfold pendS; split <;> rfl
    rw [this]
    exact World.ownsRow_nil _ _ _ _
  case round =>
    obtain ⟨k, hk, rfl, pv, bv, hinv⟩ := hrel
    have HI : Hid (PInv w wr z va vc w2.heap.size (w2.heap.size + 1) (partsL z k) (pendS z.s y.D m k) pv bv) := hinv
    have d1 : wr.cell? ⟨yb, 1, none⟩ = some (.int .i64 qn) := (hinv.fr.cell (p := ⟨yb, 1, none⟩) hlt id).trans c1
    have s2 : wr.cell? ⟨w2.heap.size, 2, none⟩ = some (.int .i64 z.s) := by rw [cell_of_cells hinv.sblk]; rfl
    have s3 : wr.cell? ⟨w2.heap.size, 3, none⟩ = some (.slice va z.ps.length vc) := by rw [cell_of_cells hinv.sblk]; rfl
    have o3 : wr.cell? ⟨w2.heap.size + 1, 3, none⟩ = some pv := by rw [cell_of_cells hinv.oblk]; rfl
    have of_ : ∀ o, wr.frozen? ⟨w2.heap.size + 1, o, none⟩ = false := frozen_of_cells hinv.oblk
    have hol := lt_of_block hinv.oblk
    have HPR : Hid (wr.ownsRow w.heap.size 3 1 (.slice va z.ps.length vc) z.ps.length (intCells z.ps)) := hinv.prow
    by_cases hlt2 : k < qn
    · have hkq : (k : Int) < (qn : Int) := by omega
      have HAL : Hid ((partsL z k).length ≤ 4) := by show (partsL z k).length ≤ 4; have := partsL_len z k; omega
      obtain ⟨pa, pc, hpv, hpl⟩ := intRow_len hinv.ra
      have HPV : Hid (pv = .slice pa (partsL z k).length pc) := hpv
      rw [hpv] at o3
      have hno : Value.ownBlock (.slice pa (partsL z k).length pc) ≠ some (w2.heap.size + 1) := by rw [← hpv]; exact row_ne_blk hinv.ra hinv.oblk (by decide)
      have HRA : Hid (wr.ownsRow w.heap.size 3 1 (.slice pa (partsL z k).length pc) (partsL z k).length (intCells (partsL z k))) := by have := hinv.ra; rw [hpv] at this; exact this
      clear hinv hpv hpl
      by_cases hin : (k : Int) ∈ z.ps
      · have HIN : Hid (decide ((k : Int) ∈ z.ps) = true) := decide_eq_true hin
        have HPS : Hid (partsL z (k + 1) = partsL z k ++ [(k : Int)]) := by show partsL z (k + 1) = _; rw [partsL_succ, if_pos hin]
        clear hin
        go_wp2_with (first
          | (go_at_call 133; refine (has_any HPR.out k).mono ?_; rw [HIN.out]; rintro e w4 ⟨rfl, rfl⟩)
          | (at_builtin; refine wpList_append_lies _ rfl _ _ 43 rfl w.heap.size 3 i0 _ 1 8 Tryz.underlying43 hi0 hzz0 hzz1 hzz2 rfl (by decide) _ (partsL z k).length (intCells (partsL z k)) rfl (by exact (nofr _).ownsRow HRA.out (fun _ _ => id)) ⟨wr.heap.size, 0, none⟩ 1 1 [.int .i64 k] rfl rfl (World.news_of_block (cs := #[.int .i64 k]) (t := 3) (fr := (0, 0)) (heap_alloc_new _ _)) (by simp [Value.oneCell']) (by decide) (by have := HAL.out; simp only [maxLen]; omega) (by have := HAL.out; omega) (by have := HI.out.fr.size; simp; omega) (wr.heap.size + 1) (by simp) ?_; intro gg gcap w3 hown3 hgrow3 hat3 hlt3
             have q0 := hgrow3.cell_far ⟨w2.heap.size + 1, 3, none⟩ (by simp; omega) (Ne.symm hno)
             have q1 := hgrow3.frozen_far ⟨w2.heap.size + 1, 3, none⟩ (by simp; omega) (Ne.symm hno)
             rw [World.cell?_alloc_past _ _ _ hol, o3] at q0
             rw [frozen_alloc hol, of_] at q1))
        have hA := HI.out.addA (W := wr.alloc (.cells #[.int .i64 k] 3)) (x := k) (v' := .slice (some ⟨gg, 0, none⟩) ((partsL z k).length + 1) gcap) (nofr _) (by rw [HPV.out]; exact hgrow3) hown3 (fun q hq => by
          simp only [Value.ownBlock, Option.some.injEq] at hq
          subst hq
          rcases hat3 with a | a
          · exact .inl (by rw [HPV.out]; exact a)
          · exact .inr (by omega))
        rw [← HPS.out] at hA
        generalize (Value.slice (some ⟨gg, 0, none⟩) ((partsL z k).length + 1) gcap) = pv2 at hA ⊢
        generalize w3.setCell ⟨w2.heap.size + 1, 3, none⟩ pv2 = W at hA ⊢
        have HA : Hid (PInv w W z va vc w2.heap.size (w2.heap.size + 1) (partsL z (k + 1)) (pendS z.s y.D m k) pv2 bv) := hA
        clear hA hown3 hgrow3 hat3 hlt3 q0 q1 HI HPR HRA o3 s2 s3 of_ d1
        have ws2 : W.cell? ⟨w2.heap.size, 2, none⟩ = some (.int .i64 z.s) := by rw [cell_of_cells HA.out.sblk]; rfl
        have wd10 : W.cell? ⟨yb, 10, none⟩ = some (.slice da y.D.length dc) := (HA.out.fr.cell (p := ⟨yb, 10, none⟩) hlt id).trans c10
        go_wp2_with fail
        go_loopw [10] (fun i w' => ∃ j : Nat, j ≤ y.D.length ∧ i = .int .i64 j ∧ ∃ bv', PInv w w' z va vc w2.heap.size (w2.heap.size + 1) (partsL z (k + 1)) (pendJ z.s y.D m k j) pv2 bv') (fun i _ => y.D.length - (intOf i).toNat)
        case atStart =>
          refine ⟨0, Nat.zero_le _, rfl, bv, ?_⟩
          have : pendJ z.s y.D m k 0 = pendS z.s y.D m k := by simp [pendJ, pendS]
          rw [this]
          exact HA.out
        case round =>
          obtain ⟨j, hj, rfl, bv2, hi2⟩ := hrel
          have HQ : Hid (PInv w wr z va vc w2.heap.size (w2.heap.size + 1) (partsL z (k + 1)) (pendJ z.s y.D m k j) pv2 bv2) := hi2
          have e10 : wr.cell? ⟨yb, 10, none⟩ = some (.slice da y.D.length dc) := (hi2.fr.cell (p := ⟨yb, 10, none⟩) hlt id).trans c10
          have t2 : wr.cell? ⟨w2.heap.size, 2, none⟩ = some (.int .i64 z.s) := by rw [cell_of_cells hi2.sblk]; rfl
          by_cases hjl : j < y.D.length
          · have hjl' : (j : Int) < (y.D.length : Int) := by omega
            by_cases h1 : 1 < z.s
            · obtain ⟨d, hdj⟩ : ∃ d, y.D[j]? = some d := ⟨_, List.getElem?_eq_getElem hjl⟩
              have HTK : Hid ((y.D.take (j + 1)).filter (fun d => decide (d.p = m ∧ d.q = (k : Int))) = (y.D.take j).filter (fun d => decide (d.p = m ∧ d.q = (k : Int))) ++ if d.p = m ∧ d.q = (k : Int) then [d] else []) := by
                show (y.D.take (j + 1)).filter _ = _
                rw [List.take_add_one, hdj, Option.toList_some, List.filter_append]
                congr 1
                by_cases hc : d.p = m ∧ d.q = (k : Int)
                · rw [if_pos hc, List.filter_cons_of_pos (by simpa using hc)]; rfl
                · rw [if_neg hc, List.filter_cons_of_neg (by simpa using hc)]; rfl
              have hdr := hi2.fr.ownsRow H.out.dues (fun _ _ => id)
              rw [HDV.out] at hdr
              obtain ⟨dg, dcap, hdg, hdcap⟩ := row_some hdr (by omega)
              simp only [Value.slice.injEq] at hdg
              obtain ⟨rfl, _, rfl⟩ := hdg
              obtain ⟨u0, u1, _, _⟩ := rowDu_cells hdr hdj
              have hj0 : (0 : Int) ≤ (j : Int) := by omega
              by_cases hp : d.p = m
              · by_cases hq : d.q = (k : Int)
                · have HE : Hid ((y.D.take (j + 1)).filter (fun d => decide (d.p = m ∧ d.q = (k : Int))) = (y.D.take j).filter (fun d => decide (d.p = m ∧ d.q = (k : Int))) ++ [d]) := by show _ = _; rw [HTK.out, if_pos ⟨hp, hq⟩]
                  have hpb : (d.p == m) = true := by simpa using hp
                  have hqb : (d.q == (k : Int)) = true := by simpa using hq
                  obtain ⟨Z, hZ⟩ : ∃ Z, pendL y.D m k ++ ((y.D.take j).filter fun d => decide (d.p = m ∧ d.q = (k : Int))).map (fun _ => (k : Int)) = Z := ⟨_, rfl⟩
                  have hZl : Z.length ≤ 10000000 := by
                    rw [← hZ, List.length_append, List.length_map]
                    have a1 := pendL_len y.D m k
                    have a2 := List.length_filter_le (fun d : Du => decide (d.p = m ∧ d.q = (k : Int))) (y.D.take j)
                    have a3 : (y.D.take j).length ≤ y.D.length := by rw [List.length_take]; omega
                    have a4 := HDL.out
                    have a5 : k * y.D.length ≤ 4 * 1000000 := Nat.mul_le_mul (by omega) a4
                    omega
                  have HZZ : Hid (pendL y.D m k ++ ((y.D.take j).filter fun d => decide (d.p = m ∧ d.q = (k : Int))).map (fun _ => (k : Int)) = Z) := hZ
                  have HZL : Hid (Z.length ≤ 10000000) := hZl
                  rw [show pendJ z.s y.D m k j = Z by rw [pendJ, if_pos h1, hZ]] at hi2
                  have HQ2 : Hid (PInv w wr z va vc w2.heap.size (w2.heap.size + 1) (partsL z (k + 1)) Z pv2 bv2) := hi2
                  obtain ⟨ba, bc, hbv, _⟩ := intRow_len hi2.rb
                  have HBV : Hid (bv2 = .slice ba Z.length bc) := hbv
                  have o4 : wr.cell? ⟨w2.heap.size + 1, 4, none⟩ = some (.slice ba Z.length bc) := by rw [cell_of_cells hi2.oblk, ← hbv]; rfl
                  have of4 : ∀ o, wr.frozen? ⟨w2.heap.size + 1, o, none⟩ = false := frozen_of_cells hi2.oblk
                  have hol4 := lt_of_block hi2.oblk
                  have hno4 : Value.ownBlock (.slice ba Z.length bc) ≠ some (w2.heap.size + 1) := by rw [← hbv]; exact row_ne_blk hi2.rb hi2.oblk (by decide)
                  have HRB : Hid (wr.ownsRow w.heap.size 3 1 (.slice ba Z.length bc) Z.length (intCells Z)) := by have := hi2.rb; rw [hbv] at this; exact this
                  clear hi2 hdr hdj hbv hZ hZl hp hq
                  go_wp2_with (first
                    | (at_builtin; refine wpList_append_lies _ rfl _ _ 43 rfl w.heap.size 3 i0 _ 1 8 Tryz.underlying43 hi0 hzz0 hzz1 hzz2 rfl (by decide) _ Z.length (intCells Z) rfl (by exact (nofr _).ownsRow HRB.out (fun _ _ => id)) ⟨wr.heap.size, 0, none⟩ 1 1 [.int .i64 k] rfl rfl (World.news_of_block (cs := #[.int .i64 k]) (t := 3) (fr := (0, 0)) (heap_alloc_new _ _)) (by simp [Value.oneCell']) (by decide) (by have := HZL.out; simp only [maxLen]; omega) (by have := HZL.out; omega) (by have := HQ2.out.fr.size; simp; omega) (wr.heap.size + 1) (by simp) ?_; intro gg4 gcap4 w5 hown5 hgrow5 hat5 hlt5
                       have q04 := hgrow5.cell_far ⟨w2.heap.size + 1, 4, none⟩ (by simp; omega) (Ne.symm hno4)
                       have q14 := hgrow5.frozen_far ⟨w2.heap.size + 1, 4, none⟩ (by simp; omega) (Ne.symm hno4)
                       rw [World.cell?_alloc_past _ _ _ hol4, o4] at q04
                       rw [frozen_alloc hol4, of4] at q14))
                  go_roundw
                  case rel =>
                    have hB := HQ2.out.addB (W := wr.alloc (.cells #[.int .i64 k] 3)) (x := k) (v' := .slice (some ⟨gg4, 0, none⟩) (Z.length + 1) gcap4) (nofr _) (by rw [HBV.out]; exact hgrow5) hown5 (fun q hq => by
                      simp only [Value.ownBlock, Option.some.injEq] at hq
                      subst hq
                      rcases hat5 with a | a
                      · exact .inl (by rw [HBV.out]; exact a)
                      · exact .inr (by omega))
                    refine ⟨j + 1, by omega, by go_num, .slice (some ⟨gg4, 0, none⟩) (Z.length + 1) gcap4, ?_⟩
                    rw [show pendJ z.s y.D m k (j + 1) = Z ++ [(k : Int)] by rw [pendJ, if_pos h1, HE.out, List.map_append, ← List.append_assoc, HZZ.out]; rfl]
                    exact hB
                  case measure => simp [intOf]; omega
                · have HE : Hid ((y.D.take (j + 1)).filter (fun d => decide (d.p = m ∧ d.q = (k : Int))) = (y.D.take j).filter (fun d => decide (d.p = m ∧ d.q = (k : Int)))) := by show _ = _; rw [HTK.out, if_neg (fun e => hq e.2), List.append_nil]
                  have hpb : (d.p == m) = true := by simpa using hp
                  have hqb : (d.q == (k : Int)) = false := by simpa using hq
                  clear hi2 hdr hdj hp hq
                  go_wp2_with fail
                  go_roundw
                  case rel => exact ⟨j + 1, by omega, by go_num, bv2, by rw [show pendJ z.s y.D m k (j + 1) = pendJ z.s y.D m k j by unfold pendJ; rw [HE.out]]; exact HQ.out⟩
                  case measure => simp [intOf]; omega
              · have HE : Hid ((y.D.take (j + 1)).filter (fun d => decide (d.p = m ∧ d.q = (k : Int))) = (y.D.take j).filter (fun d => decide (d.p = m ∧ d.q = (k : Int)))) := by show _ = _; rw [HTK.out, if_neg (fun e => hp e.1), List.append_nil]
                have hpb : (d.p == m) = false := by simpa using hp
                clear hi2 hdr hdj hp
                go_wp2_with fail
                go_roundw
                case rel => exact ⟨j + 1, by omega, by go_num, bv2, by rw [show pendJ z.s y.D m k (j + 1) = pendJ z.s y.D m k j by unfold pendJ; rw [HE.out]]; exact HQ.out⟩
                case measure => simp [intOf]; omega
            · have HN1 : Hid (¬ 1 < z.s) := h1
              clear hi2
              go_wp2_with fail
              go_roundw
              case rel =>
                refine ⟨k + 1, by omega, by go_num, pv2, bv2, ?_⟩
                rw [show pendS z.s y.D m (k + 1) = pendJ z.s y.D m k j by rw [pendS, pendJ, if_neg HN1.out, if_neg HN1.out]]
                exact HQ.out
              case measure => simp [intOf]; omega
          · have hjL : j = y.D.length := by omega
            subst hjL
            have HT : Hid (y.D.take y.D.length = y.D) := List.take_of_length_le (Nat.le_refl _)
            clear hi2
            go_wp2_with fail
            go_roundw
            case rel =>
              refine ⟨k + 1, by omega, by go_num, pv2, bv2, ?_⟩
              rw [show pendS z.s y.D m (k + 1) = pendJ z.s y.D m k y.D.length by unfold pendS pendJ; rw [HT.out, pendL_succ]]
              exact HQ.out
            case measure => simp [intOf]; omega
      · have HIN : Hid (decide ((k : Int) ∈ z.ps) = false) := decide_eq_false hin
        have HA : Hid (PInv w wr z va vc w2.heap.size (w2.heap.size + 1) (partsL z (k + 1)) (pendS z.s y.D m k) pv bv) := by
          show PInv _ _ _ _ _ _ _ _ _ _ _
          rw [partsL_succ, if_neg hin, List.append_nil]
          exact HI.out
        clear hin
        go_wp2_with (go_at_call 133; refine (has_any HPR.out k).mono ?_; rw [HIN.out]; rintro e w4 ⟨rfl, rfl⟩)
        clear HI HRA o3 s3 of_ d1
        have ws2 : wr.cell? ⟨w2.heap.size, 2, none⟩ = some (.int .i64 z.s) := by rw [cell_of_cells HA.out.sblk]; rfl
        have wd10 : wr.cell? ⟨yb, 10, none⟩ = some (.slice da y.D.length dc) := (HA.out.fr.cell (p := ⟨yb, 10, none⟩) hlt id).trans c10
        go_wp2_with fail
        go_loopw [10] (fun i w' => ∃ j : Nat, j ≤ y.D.length ∧ i = .int .i64 j ∧ ∃ bv', PInv w w' z va vc w2.heap.size (w2.heap.size + 1) (partsL z (k + 1)) (pendJ z.s y.D m k j) pv bv') (fun i _ => y.D.length - (intOf i).toNat)
        case atStart =>
          refine ⟨0, Nat.zero_le _, rfl, bv, ?_⟩
          have : pendJ z.s y.D m k 0 = pendS z.s y.D m k := by simp [pendJ, pendS]
          rw [this]
          exact HA.out
        case round =>
          obtain ⟨j, hj, rfl, bv2, hi2⟩ := hrel
          have HQ : Hid (PInv w wr z va vc w2.heap.size (w2.heap.size + 1) (partsL z (k + 1)) (pendJ z.s y.D m k j) pv bv2) := hi2
          have e10 : wr.cell? ⟨yb, 10, none⟩ = some (.slice da y.D.length dc) := (hi2.fr.cell (p := ⟨yb, 10, none⟩) hlt id).trans c10
          have t2 : wr.cell? ⟨w2.heap.size, 2, none⟩ = some (.int .i64 z.s) := by rw [cell_of_cells hi2.sblk]; rfl
          by_cases hjl : j < y.D.length
          · have hjl' : (j : Int) < (y.D.length : Int) := by omega
            by_cases h1 : 1 < z.s
            · obtain ⟨d, hdj⟩ : ∃ d, y.D[j]? = some d := ⟨_, List.getElem?_eq_getElem hjl⟩
              have HTK : Hid ((y.D.take (j + 1)).filter (fun d => decide (d.p = m ∧ d.q = (k : Int))) = (y.D.take j).filter (fun d => decide (d.p = m ∧ d.q = (k : Int))) ++ if d.p = m ∧ d.q = (k : Int) then [d] else []) := by
                show (y.D.take (j + 1)).filter _ = _
                rw [List.take_add_one, hdj, Option.toList_some, List.filter_append]
                congr 1
                by_cases hc : d.p = m ∧ d.q = (k : Int)
                · rw [if_pos hc, List.filter_cons_of_pos (by simpa using hc)]; rfl
                · rw [if_neg hc, List.filter_cons_of_neg (by simpa using hc)]; rfl
              have hdr := hi2.fr.ownsRow H.out.dues (fun _ _ => id)
              rw [HDV.out] at hdr
              obtain ⟨dg, dcap, hdg, hdcap⟩ := row_some hdr (by omega)
              simp only [Value.slice.injEq] at hdg
              obtain ⟨rfl, _, rfl⟩ := hdg
              obtain ⟨u0, u1, _, _⟩ := rowDu_cells hdr hdj
              have hj0 : (0 : Int) ≤ (j : Int) := by omega
              by_cases hp : d.p = m
              · by_cases hq : d.q = (k : Int)
                · have HE : Hid ((y.D.take (j + 1)).filter (fun d => decide (d.p = m ∧ d.q = (k : Int))) = (y.D.take j).filter (fun d => decide (d.p = m ∧ d.q = (k : Int))) ++ [d]) := by show _ = _; rw [HTK.out, if_pos ⟨hp, hq⟩]
                  have hpb : (d.p == m) = true := by simpa using hp
                  have hqb : (d.q == (k : Int)) = true := by simpa using hq
                  obtain ⟨Z, hZ⟩ : ∃ Z, pendL y.D m k ++ ((y.D.take j).filter fun d => decide (d.p = m ∧ d.q = (k : Int))).map (fun _ => (k : Int)) = Z := ⟨_, rfl⟩
                  have hZl : Z.length ≤ 10000000 := by
                    rw [← hZ, List.length_append, List.length_map]
                    have a1 := pendL_len y.D m k
                    have a2 := List.length_filter_le (fun d : Du => decide (d.p = m ∧ d.q = (k : Int))) (y.D.take j)
                    have a3 : (y.D.take j).length ≤ y.D.length := by rw [List.length_take]; omega
                    have a4 := HDL.out
                    have a5 : k * y.D.length ≤ 4 * 1000000 := Nat.mul_le_mul (by omega) a4
                    omega
                  have HZZ : Hid (pendL y.D m k ++ ((y.D.take j).filter fun d => decide (d.p = m ∧ d.q = (k : Int))).map (fun _ => (k : Int)) = Z) := hZ
                  have HZL : Hid (Z.length ≤ 10000000) := hZl
                  rw [show pendJ z.s y.D m k j = Z by rw [pendJ, if_pos h1, hZ]] at hi2
                  have HQ2 : Hid (PInv w wr z va vc w2.heap.size (w2.heap.size + 1) (partsL z (k + 1)) Z pv bv2) := hi2
                  obtain ⟨ba, bc, hbv, _⟩ := intRow_len hi2.rb
                  have HBV : Hid (bv2 = .slice ba Z.length bc) := hbv
                  have o4 : wr.cell? ⟨w2.heap.size + 1, 4, none⟩ = some (.slice ba Z.length bc) := by rw [cell_of_cells hi2.oblk, ← hbv]; rfl
                  have of4 : ∀ o, wr.frozen? ⟨w2.heap.size + 1, o, none⟩ = false := frozen_of_cells hi2.oblk
                  have hol4 := lt_of_block hi2.oblk
                  have hno4 : Value.ownBlock (.slice ba Z.length bc) ≠ some (w2.heap.size + 1) := by rw [← hbv]; exact row_ne_blk hi2.rb hi2.oblk (by decide)
                  have HRB : Hid (wr.ownsRow w.heap.size 3 1 (.slice ba Z.length bc) Z.length (intCells Z)) := by have := hi2.rb; rw [hbv] at this; exact this
                  clear hi2 hdr hdj hbv hZ hZl hp hq
                  go_wp2_with (first
                    | (at_builtin; refine wpList_append_lies _ rfl _ _ 43 rfl w.heap.size 3 i0 _ 1 8 Tryz.underlying43 hi0 hzz0 hzz1 hzz2 rfl (by decide) _ Z.length (intCells Z) rfl (by exact (nofr _).ownsRow HRB.out (fun _ _ => id)) ⟨wr.heap.size, 0, none⟩ 1 1 [.int .i64 k] rfl rfl (World.news_of_block (cs := #[.int .i64 k]) (t := 3) (fr := (0, 0)) (heap_alloc_new _ _)) (by simp [Value.oneCell']) (by decide) (by have := HZL.out; simp only [maxLen]; omega) (by have := HZL.out; omega) (by have := HQ2.out.fr.size; simp; omega) (wr.heap.size + 1) (by simp) ?_; intro gg4 gcap4 w5 hown5 hgrow5 hat5 hlt5
                       have q04 := hgrow5.cell_far ⟨w2.heap.size + 1, 4, none⟩ (by simp; omega) (Ne.symm hno4)
                       have q14 := hgrow5.frozen_far ⟨w2.heap.size + 1, 4, none⟩ (by simp; omega) (Ne.symm hno4)
                       rw [World.cell?_alloc_past _ _ _ hol4, o4] at q04
                       rw [frozen_alloc hol4, of4] at q14))
                  go_roundw
                  case rel =>
                    have hB := HQ2.out.addB (W := wr.alloc (.cells #[.int .i64 k] 3)) (x := k) (v' := .slice (some ⟨gg4, 0, none⟩) (Z.length + 1) gcap4) (nofr _) (by rw [HBV.out]; exact hgrow5) hown5 (fun q hq => by
                      simp only [Value.ownBlock, Option.some.injEq] at hq
                      subst hq
                      rcases hat5 with a | a
                      · exact .inl (by rw [HBV.out]; exact a)
                      · exact .inr (by omega))
                    refine ⟨j + 1, by omega, by go_num, .slice (some ⟨gg4, 0, none⟩) (Z.length + 1) gcap4, ?_⟩
                    rw [show pendJ z.s y.D m k (j + 1) = Z ++ [(k : Int)] by rw [pendJ, if_pos h1, HE.out, List.map_append, ← List.append_assoc, HZZ.out]; rfl]
                    exact hB
                  case measure => simp [intOf]; omega
                · have HE : Hid ((y.D.take (j + 1)).filter (fun d => decide (d.p = m ∧ d.q = (k : Int))) = (y.D.take j).filter (fun d => decide (d.p = m ∧ d.q = (k : Int)))) := by show _ = _; rw [HTK.out, if_neg (fun e => hq e.2), List.append_nil]
                  have hpb : (d.p == m) = true := by simpa using hp
                  have hqb : (d.q == (k : Int)) = false := by simpa using hq
                  clear hi2 hdr hdj hp hq
                  go_wp2_with fail
                  go_roundw
                  case rel => exact ⟨j + 1, by omega, by go_num, bv2, by rw [show pendJ z.s y.D m k (j + 1) = pendJ z.s y.D m k j by unfold pendJ; rw [HE.out]]; exact HQ.out⟩
                  case measure => simp [intOf]; omega
              · have HE : Hid ((y.D.take (j + 1)).filter (fun d => decide (d.p = m ∧ d.q = (k : Int))) = (y.D.take j).filter (fun d => decide (d.p = m ∧ d.q = (k : Int)))) := by show _ = _; rw [HTK.out, if_neg (fun e => hp e.1), List.append_nil]
                have hpb : (d.p == m) = false := by simpa using hp
                clear hi2 hdr hdj hp
                go_wp2_with fail
                go_roundw
                case rel => exact ⟨j + 1, by omega, by go_num, bv2, by rw [show pendJ z.s y.D m k (j + 1) = pendJ z.s y.D m k j by unfold pendJ; rw [HE.out]]; exact HQ.out⟩
                case measure => simp [intOf]; omega
            · have HN1 : Hid (¬ 1 < z.s) := h1
              clear hi2
              go_wp2_with fail
              go_roundw
              case rel =>
                refine ⟨k + 1, by omega, by go_num, pv, bv2, ?_⟩
                rw [show pendS z.s y.D m (k + 1) = pendJ z.s y.D m k j by rw [pendS, pendJ, if_neg HN1.out, if_neg HN1.out]]
                exact HQ.out
              case measure => simp [intOf]; omega
          · have hjL : j = y.D.length := by omega
            subst hjL
            have HT : Hid (y.D.take y.D.length = y.D) := List.take_of_length_le (Nat.le_refl _)
            clear hi2
            go_wp2_with fail
            go_roundw
            case rel =>
              refine ⟨k + 1, by omega, by go_num, pv, bv2, ?_⟩
              rw [show pendS z.s y.D m (k + 1) = pendJ z.s y.D m k y.D.length by unfold pendS pendJ; rw [HT.out, pendL_succ]]
              exact HQ.out
            case measure => simp [intOf]; omega
    · have hkq : k = qn := by omega
      subst hkq
      obtain ⟨Zb, hZb⟩ : ∃ Zb, (pendS z.s y.D m k) = Zb := ⟨_, rfl⟩
      have HZB : Hid ((pendS z.s y.D m k) = Zb) := hZb
      rw [hZb] at hinv
      obtain ⟨Za, hZa⟩ : ∃ Za, partsL z k = Za := ⟨_, rfl⟩
      have HZA : Hid (partsL z k = Za) := hZa
      rw [hZa] at hinv
      clear hZb hZa o3 HI
      have HI : Hid (PInv w wr z va vc w2.heap.size (w2.heap.size + 1) Za Zb pv bv) := hinv
      have o3 : wr.cell? ⟨w2.heap.size + 1, 3, none⟩ = some pv := by rw [cell_of_cells hinv.oblk]; rfl
      have b0 : wr.cell? ⟨w2.heap.size + 1, 0, none⟩ = some (.int .i64 z.e) := by rw [cell_of_cells hinv.oblk]; rfl
      have b1 : wr.cell? ⟨w2.heap.size + 1, 1, none⟩ = some (.int .i64 z.t) := by rw [cell_of_cells hinv.oblk]; rfl
      have b2 : wr.cell? ⟨w2.heap.size + 1, 2, none⟩ = some (.int .i64 z.s) := by rw [cell_of_cells hinv.oblk]; rfl
      have b4 : wr.cell? ⟨w2.heap.size + 1, 4, none⟩ = some bv := by rw [cell_of_cells hinv.oblk]; rfl
      have a0 : wr.cell? ⟨w.heap.size, 0, none⟩ = some (.int .i64 0) := by rw [cell_of_cells hinv.res]; rfl
      have a1 : wr.cell? ⟨w.heap.size, 1, none⟩ = some (.int .i64 0) := by rw [cell_of_cells hinv.res]; rfl
      have a2 : wr.cell? ⟨w.heap.size, 2, none⟩ = some (.int .i64 0) := by rw [cell_of_cells hinv.res]; rfl
      have a3 : wr.cell? ⟨w.heap.size, 3, none⟩ = some (.slice none 0 0) := by rw [cell_of_cells hinv.res]; rfl
      have a4 : wr.cell? ⟨w.heap.size, 4, none⟩ = some (.slice none 0 0) := by rw [cell_of_cells hinv.res]; rfl
      have af : ∀ o, wr.frozen? ⟨w.heap.size, o, none⟩ = false := frozen_of_cells hinv.res
      obtain ⟨pa, pc, hpv, _⟩ := intRow_len hinv.ra
      obtain ⟨ba, bc, hbv, _⟩ := intRow_len hinv.rb
      subst hpv hbv
      clear hinv
      go_wp2_with fail
      have hres := HI.out.res
      have hb := setCell_cells (setCell_cells (setCell_cells (setCell_cells (setCell_cells hres 0 (.int .i64 z.e)) 1 (.int .i64 z.t)) 2 (.int .i64 z.s)) 3 (.slice pa Za.length pc)) 4 (.slice ba Zb.length bc)
      have fs : Fr (fun q => q = w.heap.size) wr _ := (((((Fr.refl (fun q => q = w.heap.size) wr).setCell (p := ⟨w.heap.size, 0, none⟩) (.inl rfl) (.int .i64 z.e)).setCell (p := ⟨w.heap.size, 1, none⟩) (.inl rfl) (.int .i64 z.t)).setCell (p := ⟨w.heap.size, 2, none⟩) (.inl rfl) (.int .i64 z.s)).setCell (p := ⟨w.heap.size, 3, none⟩) (.inl rfl) (.slice pa Za.length pc)).setCell (p := ⟨w.heap.size, 4, none⟩) (.inl rfl) (.slice ba Zb.length bc)
      refine bodyPost_ret (results_two rfl _ _ _ 58 _ (0, 0) _ rfl hb Tryz.underlying58 rfl info108) rfl ?_
      have hza := HZA.out
      have hzb := HZB.out
      subst hza hzb
      refine ⟨_, _, rfl, fs.ownsRow HI.out.ra (fun q hq e => row_ne_blk HI.out.ra hres (by decide) (by rw [hq, e])), fs.ownsRow HI.out.rb (fun q hq e => row_ne_blk HI.out.rb hres (by decide) (by rw [hq, e])), HI.out.fr.trans fs (fun q e => .inr (by omega))⟩
end

end Go.Proofs.YtkelpcjiediamaaGreat
