/-
  The program's Add; what becomes of the herald where one of its logs turns.
-/
import Derived.Test.YtkelpcjiediamaaGreatMInit
import Derived.Test.YtkelpcjiediamaaGreatMYerS
namespace Go.Proofs.YtkelpcjiediamaaGreat
open Go.RowKit Go.Maps

/-- Log k has become another. -/
def HS.setL (h : HS) (k : Nat) (p : PL) : HS := { h with pl := h.pl.set k p }

section
variable {w w' : World} {B xb n : Nat} {h : HS}

theorem plCells_set_same : ∀ (l : List PL) (k : Nat) (p p' : PL), l[k]? = some p → p'.lb = p.lb → p'.out = p.out → plCells (l.set k p') = plCells l
  | [], k, p, p', h, _, _ => by simp at h
  | x :: r, 0, p, p', h, h1, h2 => by
    simp only [List.getElem?_cons_zero, Option.some.injEq] at h
    subst h
    simp [plCells, PL.cs, h1, h2]
  | x :: r, k + 1, p, p', h, h1, h2 => by
    simp only [List.getElem?_cons_succ] at h
    have := plCells_set_same r k p p' h h1 h2
    simp only [plCells, List.set_cons_succ, List.flatMap_cons] at this ⊢
    rw [this]

theorem HAt.mono (hh : HAt w B xb n h) {m : Nat} (hm : n ≤ m) : HAt w B xb m h :=
  ⟨hh.blk, hh.jour, hh.places, hh.flight, fun p hp => (hh.logs p hp).mono hm, hh.hx, hh.hP, hh.hQ, hh.h6⟩

/-- One log has turned. -/
theorem HAt.logDone (hh : HAt w B xb n h) (ha : PlApart h.pl) {k : Nat} {p : PL} (hk : h.pl[k]? = some p) {v' : Value} {s' : LogS} {m : Nat} (hm : n ≤ m) (hl : Left w w' B p.lb p.bm p.v v' m s') :
    Moved w w' B xb n h m (h.setL k ⟨p.lb, p.bm, v', s', p.out⟩) ∧ PlApart (h.setL k ⟨p.lb, p.bm, v', s', p.out⟩).pl := by
  have hkl := (List.getElem?_eq_some_iff.1 hk).1
  have hpm := List.mem_of_getElem? hk
  have hlg := hh.logs p hpm
  have fr : Fr (logFoot p.lb p.bm p.v) w w' := hl.fr.mono (fun _ e => .inl e)
  have row : ∀ {ty : TypeId} {wd : Nat} {v : Value} {j : Nat} {xs : List Value}, w.ownsRow B ty wd v j xs → ty ≠ 163 → ty ≠ 1000000 → ty ≠ 55 → w'.ownsRow B ty wd v j xs := fun ho h1 h2 h3 => fr.ownsRow ho (fun q hq e => by
    have t0 := tag_row ho hq
    rcases hlg.tags e with t1 | t1 | t1 <;> rw [t0] at t1
    · exact h1 t1
    · exact h2 t1
    · exact h3 t1)
  have mem : ∀ q, q ∈ (h.pl.set k ⟨p.lb, p.bm, v', s', p.out⟩) → q = ⟨p.lb, p.bm, v', s', p.out⟩ ∨ ∃ j, j ≠ k ∧ h.pl[j]? = some q := fun q hq => by
    obtain ⟨j, hj⟩ := List.mem_iff_getElem?.1 hq
    by_cases e : j = k
    · subst e
      rw [List.getElem?_set_self hkl] at hj
      exact .inl (Option.some.inj hj).symm
    · rw [List.getElem?_set_ne (fun e2 => e e2.symm)] at hj
      exact .inr ⟨j, e, hj⟩
  have hfoot : ∀ x, logFoot p.lb p.bm v' x → logFoot p.lb p.bm p.v x ∨ w.heap.size ≤ x := fun x hx => by
    rcases hx with e | e | e
    · exact .inl (.inl e)
    · exact .inl (.inr (.inl e))
    · rcases hl.lies x e with a | a
      · exact .inl (.inr (.inr a))
      · exact .inr a
  have hold : ∀ q ∈ h.pl, ∀ x, logFoot q.lb q.bm q.v x → x < w.heap.size := fun q hq x hx => (hh.foot_lt (.inr (.inr (.inr (.inr ⟨q, hq, hx⟩))))).1
  refine ⟨⟨⟨(fr.block xb (lt_of_block hh.blk) (hh.ne_l hpm)).trans hh.blk, row hh.jour (by decide) (by decide) (by decide), ?_, row hh.flight (by decide) (by decide) (by decide), ?_, hh.hx, hh.hP, ?_, hh.h6⟩, ?_, ?_⟩, ?_⟩
  · show w'.ownsRow B 98 2 h.pv (h.pl.set k _).length (plCells (h.pl.set k _))
    rw [List.length_set, plCells_set_same h.pl k p ⟨p.lb, p.bm, v', s', p.out⟩ hk rfl rfl]
    exact row hh.places (by decide) (by decide) (by decide)
  · intro q hq
    rcases mem q hq with rfl | ⟨j, hj, hjq⟩
    · exact hl.log
    · exact ((hh.logs q (List.mem_of_getElem? hjq)).stay fr (fun x e hf => ha k j p q (fun e2 => hj e2.symm) hk hjq x e hf)).mono hm
  · show h.Q = ((h.pl.set k _).length : Int) ∧ _
    rw [List.length_set]
    exact hh.hQ
  · exact fr.mono (fun x e => .inl (.inr (.inr (.inr (.inr ⟨p, hpm, e⟩)))))
  · intro x hx
    rcases hx with e | e | e | e | ⟨q, hq, hf⟩
    · exact .inl (.inl e)
    · exact .inl (.inr (.inl e))
    · exact .inl (.inr (.inr (.inl e)))
    · exact .inl (.inr (.inr (.inr (.inl e))))
    · rcases mem q hq with rfl | ⟨j, hj, hjq⟩
      · rcases hfoot x hf with a | a
        · exact .inl (.inr (.inr (.inr (.inr ⟨p, hpm, a⟩))))
        · exact .inr a
      · exact .inl (.inr (.inr (.inr (.inr ⟨q, List.mem_of_getElem? hjq, hf⟩))))
  · intro i j a b hij hi hj x h1 h2
    have pick : ∀ {i : Nat} {a : PL}, (h.pl.set k ⟨p.lb, p.bm, v', s', p.out⟩)[i]? = some a → (i = k ∧ a = ⟨p.lb, p.bm, v', s', p.out⟩) ∨ (i ≠ k ∧ h.pl[i]? = some a) := fun {i a} hi => by
      by_cases e : i = k
      · subst e
        rw [List.getElem?_set_self hkl] at hi
        exact .inl ⟨rfl, (Option.some.inj hi).symm⟩
      · rw [List.getElem?_set_ne (fun e2 => e e2.symm)] at hi
        exact .inr ⟨e, hi⟩
    rcases pick hi with ⟨e1, rfl⟩ | ⟨e1, hi'⟩ <;> rcases pick hj with ⟨e2, rfl⟩ | ⟨e2, hj'⟩
    · omega
    · rcases hfoot x h1 with c | c
      · exact ha k j p b (fun e => e2 e.symm) hk hj' x c h2
      · have := hold b (List.mem_of_getElem? hj') x h2; omega
    · rcases hfoot x h2 with c | c
      · exact ha i k a p e1 hi' hk x h1 c
      · have := hold a (List.mem_of_getElem? hi') x h1; omega
    · exact ha i j a b hij hi' hj' x h1 h2
end

end Go.Proofs.YtkelpcjiediamaaGreat

/-
  The law's questions for a part, for what is fetched and for the entries, on both sides.
-/
namespace Go.Proofs.YtkelpcjiediamaaGreat
open Go.RowKit Go.Maps

section
variable {w : World} {B : Nat} {F : Nat → Prop} {wb xb yb bb n : Nat} {o : BookS}

theorem Asked.of_owned {w4 w5 : World} {l : Value} {o5 : BookS} (h4 : Scn w4 B F wb xb yb bb n o) (f : Fr (fun _ => False) w w4) (p : Owned w4 w5 B F wb xb yb bb n o l o5) (hF : ∀ k, l.ownBlock = some k → ¬ F k) (hB : ∀ k, l.ownBlock = some k → B ≤ k) : Asked w w5 B F wb xb yb bb (n + 1) :=
  ⟨⟨_, p.scn⟩, f.keep.trans (p.keep h4 hF), (f.mono (fun _ h => h.elim)).trans (p.far h4 hB) (fun _ => .inl)⟩

set_option maxRecDepth 100000 in
set_option maxHeartbeats 3200000 in
theorem part_any (h : Scn w B F wb xb yb bb n o) (ha : Ask w F (ptr xb) (ptr yb)) (hn : n ≤ 9000000) (m : Int) (hm : I64 m) :
    Calls Tryz.prog 39 #[ptr wb, .int .i64 m] w fun e w' => e = .returned (.bool true) ∧ Asked w w' B F wb xb yb bb (n + 1) := by
  obtain ⟨qo, qe, qs, qer, Pr, hA, hask⟩ := ha.part m hm
  have HA : Hid (∀ w1, Keep F w w1 → AskQ (ptr xb) (ptr yb) m w1 qo qe qs qer Pr) := hask
  have HS : Hid (Scn w B F wb xb yb bb n o) := h
  have HN : Hid (n ≤ 9000000) := hn
  have HLP : Hid (∀ S : List Int, Pr S → S.length ≤ 100000000) := hA
  obtain ⟨c0, c1, c2⟩ := h.cells
  have hwlt := lt_of_block h.blk
  clear h ha hask hn hm hA
  unfold ptr at c0 c1 c2 HA ⊢
  go_enter Tryz.func39, Tryz.ntmps39
  go_wp2_with (first
    | (go_at_call 23; refine (HA.out _ (Fr.refl _ _)).a.mono ?_; rintro e w1 ⟨va, A, rfl, hpr, hv1, hf1⟩
       obtain ⟨aa, ac, rfl, ha1⟩ := intRow_len hv1
       have HPR : Hid (Pr A) := hpr
       have HLA : Hid (A.length ≤ 100000000) := HLP.out A hpr
       have F1 : Hid (Fr (fun _ => False) w w1) := hf1
       have V1 : Hid (NewInts w w1 (.slice aa A.length ac) A) := hv1
       have d1 : w1.cell? ⟨wb, 1, none⟩ = some (.pointer (some ⟨yb, 0, none⟩)) := (hf1.cell (p := ⟨wb, 1, none⟩) hwlt id).trans c1
       have hw1 : wb < w1.heap.size := Nat.lt_of_lt_of_le hwlt hf1.size
       clear hf1 hv1 ha1 hpr)
    | (go_at_call 96; refine ((HA.out _ (by exact (F1.out.alloc _).keep)).b A HPR.out).mono ?_; rintro e w2 ⟨va, rfl, hv1, hf2⟩
       obtain ⟨xa, xc, rfl, ha1⟩ := intRow_len hv1
       have F2 : Hid (Fr (fun _ => False) w w2) := (F1.out.alloc _).trans hf2 (fun _ h => h.elim)
       have F12 : Hid (Fr (fun _ => False) w1 w2) := (nofr _).trans hf2 (fun _ h => h.elim)
       have U1 : Hid (w2.ownsRow w1.heap.size 3 1 (.slice xa A.length xc) A.length (intCells A)) := ownsRow_base hv1 (by simp)
       have k0 : w2.cell? ⟨w1.heap.size, 0, none⟩ = some (.bool qo) := Fr.box (S := fun _ => False) hf2 id 0
       have k1 : w2.cell? ⟨w1.heap.size, 1, none⟩ = some (.int .i64 qe) := Fr.box (S := fun _ => False) hf2 id 1
       have k2 : w2.cell? ⟨w1.heap.size, 2, none⟩ = some (.int .i64 qs) := Fr.box (S := fun _ => False) hf2 id 2
       have k3 : w2.cell? ⟨w1.heap.size, 3, none⟩ = some (.slice aa A.length ac) := Fr.box (S := fun _ => False) hf2 id 3
       have hw2 : w1.heap.size < w2.heap.size := Nat.lt_of_lt_of_le (by simp) hf2.size
       have d2 : w2.cell? ⟨wb, 2, none⟩ = some (.pointer (some ⟨bb, 0, none⟩)) := (F2.out.cell (p := ⟨wb, 2, none⟩) hwlt id).trans c2
       have hw3 : wb < w2.heap.size := Nat.lt_trans hw1 hw2
       clear hf2 hv1 ha1)
    | (go_at_call 94; refine (sameI_any (by exact (F12.out.alloc _).ownsRow V1.out (fun _ _ => id)) (by exact (nofr _).ownsRow U1.out (fun _ _ => id))).mono ?_; rintro e w4 ⟨rfl, q4, hq4⟩
       have F24 : Hid (Fr (fun _ => False) w2 w4) := by rw [hq4]; exact (nofr _).drewN _
       have S4 : Hid (Scn w4 B F wb xb yb bb n o) := HS.out.after (F2.out.trans F24.out (fun _ h => h.elim))
       have R1 : Hid (w4.ownsRow w.heap.size 3 1 (.slice aa A.length ac) A.length (intCells A)) := (F12.out.trans F24.out (fun _ h => h.elim)).ownsRow V1.out (fun _ _ => id)
       have m0 : w4.cell? ⟨w1.heap.size, 0, none⟩ = some (.bool qo) := (F24.out.cell (p := ⟨w1.heap.size, 0, none⟩) hw2 id).trans k0
       have m1 : w4.cell? ⟨w1.heap.size, 1, none⟩ = some (.int .i64 qe) := (F24.out.cell (p := ⟨w1.heap.size, 1, none⟩) hw2 id).trans k1
       have m2 : w4.cell? ⟨w1.heap.size, 2, none⟩ = some (.int .i64 qs) := (F24.out.cell (p := ⟨w1.heap.size, 2, none⟩) hw2 id).trans k2
       have m3 : w4.cell? ⟨w1.heap.size, 3, none⟩ = some (.slice aa A.length ac) := (F24.out.cell (p := ⟨w1.heap.size, 3, none⟩) hw2 id).trans k3
       have m5 : w4.cell? ⟨wb, 2, none⟩ = some (.pointer (some ⟨bb, 0, none⟩)) := (F24.out.cell (p := ⟨wb, 2, none⟩) hw3 id).trans d2
       have n0 : w4.cell? ⟨w2.heap.size, 0, none⟩ = some (.bool qo) := by rw [hq4]; simp
       have n1 : w4.cell? ⟨w2.heap.size, 1, none⟩ = some (.int .i64 qe) := by rw [hq4]; simp
       have n2 : w4.cell? ⟨w2.heap.size, 2, none⟩ = some (.int .i64 qs) := by rw [hq4]; simp
       have hz4 : w2.heap.size < w4.heap.size := by rw [hq4]; simp
       clear hq4))
  go_region_held3 (fun w' => w'.cell? ⟨wb, 2, none⟩ = some (.pointer (some ⟨bb, 0, none⟩)) ∧ w'.cell? ⟨w1.heap.size, 3, none⟩ = some (.slice aa A.length ac))
    (first | go_keep | exact ⟨c5a, c5b⟩)
    ((go_at_call 95; refine ((S4.out.after (Fr.dr _)).ownI (by have := HN.out; omega) (ownsRow_base ((Fr.dr _).ownsRow R1.out (fun _ _ => id)) HS.out.base) (fresh_notF HS.out (Nat.le_refl _) R1.out) (fresh_notA HS.out (Nat.le_refl _) R1.out) HLA.out).mono ?_; rintro x w5 ⟨rfl, o5, h5⟩
      have H5 : Hid (Owned w4.drew w5 B F wb xb yb bb n o (.slice aa A.length ac) o5) := h5
      have c5a : w5.cell? ⟨wb, 2, none⟩ = some (.pointer (some ⟨bb, 0, none⟩)) := h5.scn.cells.2.2
      have c5b : w5.cell? ⟨w1.heap.size, 3, none⟩ = some (.slice aa A.length ac) := (h5.cell (Nat.lt_trans hw2 hz4) (HS.out.notA F1.out.size) (row_ne V1.out)).trans m3
      clear h5))
  go_wp2
  go_ret
  exact ⟨rfl, Asked.of_owned (S4.out.after (Fr.dr _)) (F2.out.trans F24.out (fun _ h => h.elim)).drew H5.out (fresh_notF HS.out (Nat.le_refl _) R1.out) (fun k hk => Nat.le_trans HS.out.base (R1.out.lt k hk).1)⟩

set_option maxRecDepth 100000 in
set_option maxHeartbeats 3200000 in
theorem fetch_both (h : Scn w B F wb xb yb bb n o) (ha : Ask w F (ptr xb) (ptr yb)) (hn : n ≤ 9000000) (m f1 f2 : Int) (hm : I64 m) :
    Calls Tryz.prog 40 #[ptr wb, .int .i64 m, .int .i64 f1, .int .i64 f2] w fun e w' => e = .returned (.bool true) ∧ Asked w w' B F wb xb yb bb (n + 1) := by
  obtain ⟨qer, A, hA, hask⟩ := ha.fetch m f1 f2 hm
  have HA : Hid (∀ w1, Keep F w w1 → AskF (ptr xb) (ptr yb) m f1 f2 w1 qer A) := hask
  have HS : Hid (Scn w B F wb xb yb bb n o) := h
  have HN : Hid (n ≤ 9000000) := hn
  have HLA : Hid (A.length ≤ 100000000) := hA
  obtain ⟨c0, c1, c2⟩ := h.cells
  have hwlt := lt_of_block h.blk
  clear h ha hask hn hm hA
  unfold ptr at c0 c1 c2 HA ⊢
  go_enter Tryz.func40, Tryz.ntmps40
  go_wp2_with (first
    | (go_at_call 57; refine (HA.out _ (Fr.refl _ _)).a.mono ?_; rintro e w1 ⟨va, rfl, hv1, hf1⟩
       obtain ⟨aa, ac, rfl, ha1⟩ := anyRow_len hv1
       have F1 : Hid (Fr (fun _ => False) w w1) := hf1
       have V1 : Hid (w1.ownsRow w.heap.size 94 3 (.slice aa A.length ac) A.length (recCells A)) := hv1
       have d1 : w1.cell? ⟨wb, 1, none⟩ = some (.pointer (some ⟨yb, 0, none⟩)) := (hf1.cell (p := ⟨wb, 1, none⟩) hwlt id).trans c1
       have d3 : w1.cell? ⟨wb, 2, none⟩ = some (.pointer (some ⟨bb, 0, none⟩)) := (hf1.cell (p := ⟨wb, 2, none⟩) hwlt id).trans c2
       have hw1 : wb < w1.heap.size := Nat.lt_of_lt_of_le hwlt hf1.size
       clear hf1 hv1 ha1)
    | (go_at_call 97; refine (HA.out _ (by exact F1.out.keep)).b.mono ?_; rintro e w2 ⟨va, rfl, hv1, hf2⟩
       obtain ⟨xa, xc, rfl, ha1⟩ := anyRow_len hv1
       have F2 : Hid (Fr (fun _ => False) w w2) := F1.out.trans hf2 (fun _ h => h.elim)
       have V2 : Hid (w2.ownsRow w.heap.size 94 3 (.slice aa A.length ac) A.length (recCells A)) := hf2.ownsRow V1.out (fun _ _ => id)
       have U1 : Hid (w2.ownsRow w1.heap.size 94 3 (.slice xa A.length xc) A.length (recCells A)) := hv1
       have d2 : w2.cell? ⟨wb, 2, none⟩ = some (.pointer (some ⟨bb, 0, none⟩)) := (hf2.cell (p := ⟨wb, 2, none⟩) hw1 id).trans d3
       clear hf2 hv1 ha1)
    | (go_at_call 98; refine (same_any (recsAt_of V2.out) (recsAt_of U1.out)).mono ?_; rintro e w4 ⟨rfl, q4, hq4⟩
       have F4 : Hid (Fr (fun _ => False) w w4) := by rw [hq4]; exact F2.out.drewN _
       have S4 : Hid (Scn w4 B F wb xb yb bb n o) := HS.out.after F4.out
       have R1 : Hid (w4.ownsRow w.heap.size 94 3 (.slice aa A.length ac) A.length (recCells A)) := by rw [hq4]; exact ((Fr.refl (fun _ => False) _).drewN _).ownsRow V2.out (fun _ _ => id)
       have m5 : w4.cell? ⟨wb, 2, none⟩ = some (.pointer (some ⟨bb, 0, none⟩)) := S4.out.cells.2.2
       clear hq4)
    | (go_at_call 99; refine (S4.out.ownR (by have := HN.out; omega) (ownsRow_base R1.out HS.out.base) (fresh_notF HS.out (Nat.le_refl _) R1.out) (fresh_notA HS.out (Nat.le_refl _) R1.out) HLA.out).mono ?_; rintro x w5 ⟨rfl, o5, h5⟩
       have H5 : Hid (Owned w4 w5 B F wb xb yb bb n o (.slice aa A.length ac) o5) := h5
       clear h5))
  go_ret
  exact ⟨by simp, Asked.of_owned S4.out F4.out H5.out (fresh_notF HS.out (Nat.le_refl _) R1.out) (fun k hk => Nat.le_trans HS.out.base (R1.out.lt k hk).1)⟩

set_option maxRecDepth 100000 in
set_option maxHeartbeats 3200000 in
theorem entries_both (h : Scn w B F wb xb yb bb n o) (ha : Ask w F (ptr xb) (ptr yb)) (hn : n ≤ 9000000) (m : Int) (hm : I64 m) :
    Calls Tryz.prog 41 #[ptr wb, .int .i64 m] w fun e w' => e = .returned (.bool true) ∧ Asked w w' B F wb xb yb bb (n + 1) := by
  obtain ⟨qer, A, hA, hask⟩ := ha.ents m hm
  have HA : Hid (∀ w1, Keep F w w1 → AskE (ptr xb) (ptr yb) m w1 qer A) := hask
  have HS : Hid (Scn w B F wb xb yb bb n o) := h
  have HN : Hid (n ≤ 9000000) := hn
  have HLA : Hid (A.length ≤ 100000000) := hA
  obtain ⟨c0, c1, c2⟩ := h.cells
  have hwlt := lt_of_block h.blk
  clear h ha hask hn hm hA
  unfold ptr at c0 c1 c2 HA ⊢
  go_enter Tryz.func41, Tryz.ntmps41
  go_wp2_with (first
    | (go_at_call 17; refine (HA.out _ (Fr.refl _ _)).a.mono ?_; rintro e w1 ⟨va, rfl, hv1, hf1⟩
       obtain ⟨aa, ac, rfl, ha1⟩ := anyRow_len hv1
       have F1 : Hid (Fr (fun _ => False) w w1) := hf1
       have V1 : Hid (w1.ownsRow w.heap.size 55 4 (.slice aa A.length ac) A.length (entCells A)) := hv1
       have d1 : w1.cell? ⟨wb, 1, none⟩ = some (.pointer (some ⟨yb, 0, none⟩)) := (hf1.cell (p := ⟨wb, 1, none⟩) hwlt id).trans c1
       have d3 : w1.cell? ⟨wb, 2, none⟩ = some (.pointer (some ⟨bb, 0, none⟩)) := (hf1.cell (p := ⟨wb, 2, none⟩) hwlt id).trans c2
       have hw1 : wb < w1.heap.size := Nat.lt_of_lt_of_le hwlt hf1.size
       clear hf1 hv1 ha1)
    | (go_at_call 100; refine (HA.out _ (by exact F1.out.keep)).b.mono ?_; rintro e w2 ⟨va, rfl, hv1, hf2⟩
       obtain ⟨xa, xc, rfl, ha1⟩ := anyRow_len hv1
       have F2 : Hid (Fr (fun _ => False) w w2) := F1.out.trans hf2 (fun _ h => h.elim)
       have V2 : Hid (w2.ownsRow w.heap.size 55 4 (.slice aa A.length ac) A.length (entCells A)) := hf2.ownsRow V1.out (fun _ _ => id)
       have U1 : Hid (w2.ownsRow w1.heap.size 55 4 (.slice xa A.length xc) A.length (entCells A)) := hv1
       have d2 : w2.cell? ⟨wb, 2, none⟩ = some (.pointer (some ⟨bb, 0, none⟩)) := (hf2.cell (p := ⟨wb, 2, none⟩) hw1 id).trans d3
       clear hf2 hv1 ha1)
    | (go_at_call 101; refine (sameE_any (entsAt_of V2.out) (entsAt_of U1.out)).mono ?_; rintro e w4 ⟨rfl, q4, hq4⟩
       have F4 : Hid (Fr (fun _ => False) w w4) := by rw [hq4]; exact F2.out.drewN _
       have S4 : Hid (Scn w4 B F wb xb yb bb n o) := HS.out.after F4.out
       have R1 : Hid (w4.ownsRow w.heap.size 55 4 (.slice aa A.length ac) A.length (entCells A)) := by rw [hq4]; exact ((Fr.refl (fun _ => False) _).drewN _).ownsRow V2.out (fun _ _ => id)
       have m5 : w4.cell? ⟨wb, 2, none⟩ = some (.pointer (some ⟨bb, 0, none⟩)) := S4.out.cells.2.2
       clear hq4)
    | (go_at_call 102; refine (S4.out.ownE (by have := HN.out; omega) (ownsRow_base R1.out HS.out.base) (fresh_notF HS.out (Nat.le_refl _) R1.out) (fresh_notA HS.out (Nat.le_refl _) R1.out) HLA.out).mono ?_; rintro x w5 ⟨rfl, o5, h5⟩
       have H5 : Hid (Owned w4 w5 B F wb xb yb bb n o (.slice aa A.length ac) o5) := h5
       clear h5))
  go_ret
  exact ⟨by simp, Asked.of_owned S4.out F4.out H5.out (fresh_notF HS.out (Nat.le_refl _) R1.out) (fun k hk => Nat.le_trans HS.out.base (R1.out.lt k hk).1)⟩
end

end Go.Proofs.YtkelpcjiediamaaGreat
