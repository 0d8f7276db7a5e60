/-
  The law's question for a producer, on both sides.
-/
import Derived.Test.YtkelpcjiediamaaGreatAsk
import Derived.Test.YtkelpcjiediamaaGreatMYerR
namespace Go.Proofs.YtkelpcjiediamaaGreat
open Go.RowKit Go.Maps

/-- What a question leaves. -/
structure Asked (w w' : World) (B : Nat) (F : Nat → Prop) (wb xb yb bb n : Nat) : Prop where
  scn : ∃ o', Scn w' B F wb xb yb bb n o'
  keep : Keep F w w'
  far : Fr (fun k => B ≤ k) w w'

section
variable {w : World} {B : Nat} {F : Nat → Prop} {wb xb yb bb n : Nat} {o : BookS}

theorem fresh_notF {w1 w2 : World} (h : Scn w1 B F wb xb yb bb n o) {b : Nat} (hb : w1.heap.size ≤ b) {ty : TypeId} {wd : Nat} {v : Value} {len : Nat} {xs : List Value} (hv : w2.ownsRow b ty wd v len xs) : ∀ k, v.ownBlock = some k → ¬ F k :=
  fun k hk hf => by have h1 := (hv.lt k hk).1; have h2 := h.flt k hf; omega

theorem fresh_notA {w1 w2 : World} (h : Scn w1 B F wb xb yb bb n o) {b : Nat} (hb : w1.heap.size ≤ b) {ty : TypeId} {wd : Nat} {v : Value} {len : Nat} {xs : List Value} (hv : w2.ownsRow b ty wd v len xs) : ∀ k, v.ownBlock = some k → ¬ o.all bb k :=
  fun k hk ha => by have h1 := (hv.lt k hk).1; have h2 := (h.book.all_lt ha).1; omega

theorem Scn.base {w1 : World} (h : Scn w1 B F wb xb yb bb n o) : B ≤ w1.heap.size := Nat.le_of_lt (Nat.lt_of_le_of_lt h.book.hb h.book.lt)

theorem Owned.cell {w' : World} {l : Value} {o' : BookS} (p : Owned w w' B F wb xb yb bb n o l o') {b off : Nat} (hb : b < w.heap.size) (h1 : ¬ o.all bb b) (h2 : l.ownBlock ≠ some b) : w'.cell? ⟨b, off, none⟩ = w.cell? ⟨b, off, none⟩ :=
  p.fr.cell (p := ⟨b, off, none⟩) hb (fun hk => by rcases hk with hk | hk; exact h1 hk; exact h2 hk)

theorem Scn.notA (h : Scn w B F wb xb yb bb n o) {b : Nat} (hb : w.heap.size ≤ b) : ¬ o.all bb b := fun ha => by have := (h.book.all_lt ha).1; omega

theorem row_ne {w1 : World} {b : Nat} {ty : TypeId} {wd : Nat} {v : Value} {len : Nat} {xs : List Value} (h : w1.ownsRow b ty wd v len xs) : v.ownBlock ≠ some w1.heap.size := fun e => by have := (h.lt _ e).2; omega

theorem Fr.dr (w : World) : Fr (fun _ => False) w w.drew := (Fr.refl _ _).drew

set_option maxRecDepth 100000 in
set_option maxHeartbeats 3200000 in
theorem producer_any (h : Scn w B F wb xb yb bb n o) (ha : Ask w F (ptr xb) (ptr yb)) (hn : n ≤ 9000000) (m : Int) (hm : I64 m) :
    Calls Tryz.prog 38 #[ptr wb, .int .i64 m] w fun e w' => e = .returned (.bool true) ∧ Asked w w' B F wb xb yb bb (n + 2) := by
  obtain ⟨pe, pt, ps, per, A, C, hA, hC, hask⟩ := ha.prod m hm
  have HA : Hid (∀ w1, Keep F w w1 → AskP (ptr xb) (ptr yb) m w1 pe pt ps per A C) := hask
  have HS : Hid (Scn w B F wb xb yb bb n o) := h
  have HN : Hid (n ≤ 9000000) := hn
  have HLA : Hid (A.length ≤ 4) := hA
  have HLC : Hid (C.length ≤ 4) := hC
  obtain ⟨c0, c1, c2⟩ := h.cells
  have hwlt := lt_of_block h.blk
  clear h ha hask hn hm hA hC
  unfold ptr at c0 c1 c2 HA ⊢
  go_enter Tryz.func38, Tryz.ntmps38
  go_wp2_with (first
    | (go_at_call 30; refine (HA.out _ (Fr.refl _ _)).a.mono ?_; rintro e w1 ⟨va, vb, rfl, hv1, hv2, hv3, hf1⟩
       obtain ⟨aa, ac, rfl, ha1⟩ := intRow_len hv1
       obtain ⟨ba, bc, rfl, hb1⟩ := intRow_len hv2
       have F1 : Hid (Fr (fun _ => False) w w1) := hf1
       have V1 : Hid (NewInts w w1 (.slice aa A.length ac) A) := hv1
       have V2 : Hid (NewInts w w1 (.slice ba C.length bc) C) := hv2
       have V3 : Hid (∀ k, (Value.slice aa A.length ac).ownBlock = some k → (Value.slice ba C.length bc).ownBlock ≠ some k) := hv3
       have d1 : w1.cell? ⟨wb, 1, none⟩ = some (.pointer (some ⟨yb, 0, none⟩)) := (hf1.cell (p := ⟨wb, 1, none⟩) hwlt id).trans c1
       have hw1 : wb < w1.heap.size := Nat.lt_of_lt_of_le hwlt hf1.size
       clear hf1 hv1 hv2 hv3 ha1 hb1)
    | (go_at_call 93; refine (HA.out _ (by exact (F1.out.alloc _).keep)).b.mono ?_; rintro e w2 ⟨va, vb, rfl, hv1, hv2, hf2⟩
       obtain ⟨xa, xc, rfl, ha1⟩ := intRow_len hv1
       obtain ⟨ya, yc, rfl, hb1⟩ := intRow_len hv2
       have F2 : Hid (Fr (fun _ => False) w w2) := (F1.out.alloc _).trans hf2 (fun _ h => h.elim)
       have F12 : Hid (Fr (fun _ => False) w1 w2) := (nofr _).trans hf2 (fun _ h => h.elim)
       have U1 : Hid (w2.ownsRow w1.heap.size 3 1 (.slice xa A.length xc) A.length (intCells A)) := ownsRow_base hv1 (by simp)
       have U2 : Hid (w2.ownsRow w1.heap.size 3 1 (.slice ya C.length yc) C.length (intCells C)) := ownsRow_base hv2 (by simp)
       have k0 : w2.cell? ⟨w1.heap.size, 0, none⟩ = some (.int .i64 pe) := Fr.box (S := fun _ => False) hf2 id 0
       have k1 : w2.cell? ⟨w1.heap.size, 1, none⟩ = some (.int .i64 pt) := Fr.box (S := fun _ => False) hf2 id 1
       have k2 : w2.cell? ⟨w1.heap.size, 2, none⟩ = some (.int .i64 ps) := Fr.box (S := fun _ => False) hf2 id 2
       have k3 : w2.cell? ⟨w1.heap.size, 3, none⟩ = some (.slice aa A.length ac) := Fr.box (S := fun _ => False) hf2 id 3
       have k4 : w2.cell? ⟨w1.heap.size, 4, none⟩ = some (.slice ba C.length bc) := Fr.box (S := fun _ => False) hf2 id 4
       have hw2 : w1.heap.size < w2.heap.size := Nat.lt_of_lt_of_le (by simp) hf2.size
       have d2 : w2.cell? ⟨wb, 2, none⟩ = some (.pointer (some ⟨bb, 0, none⟩)) := (F2.out.cell (p := ⟨wb, 2, none⟩) hwlt id).trans c2
       have hw3 : wb < w2.heap.size := Nat.lt_trans hw1 hw2
       clear hf2 hv1 hv2 ha1 hb1)
    | (go_at_call 94; refine (sameI_any (by exact (F12.out.alloc _).ownsRow V1.out (fun _ _ => id)) (by exact (nofr _).ownsRow U1.out (fun _ _ => id))).mono ?_; rintro e w3 ⟨rfl, q3, rfl⟩)
    | (go_at_call 94; refine (sameI_any (by exact (((F12.out.alloc _).drewN _)).ownsRow V2.out (fun _ _ => id)) (by exact ((nofr _).drewN _).ownsRow U2.out (fun _ _ => id))).mono ?_; rintro e w4 ⟨rfl, q4, hq4⟩
       have F24 : Hid (Fr (fun _ => False) w2 w4) := by rw [hq4]; exact ((nofr _).drewN _).drewN _
       have S4 : Hid (Scn w4 B F wb xb yb bb n o) := HS.out.after (F2.out.trans F24.out (fun _ h => h.elim))
       have R1 : Hid (w4.ownsRow w.heap.size 3 1 (.slice aa A.length ac) A.length (intCells A)) := (F12.out.trans F24.out (fun _ h => h.elim)).ownsRow V1.out (fun _ _ => id)
       have R2 : Hid (w4.ownsRow w.heap.size 3 1 (.slice ba C.length bc) C.length (intCells C)) := (F12.out.trans F24.out (fun _ h => h.elim)).ownsRow V2.out (fun _ _ => id)
       have m0 : w4.cell? ⟨w1.heap.size, 0, none⟩ = some (.int .i64 pe) := (F24.out.cell (p := ⟨w1.heap.size, 0, none⟩) hw2 id).trans k0
       have m1 : w4.cell? ⟨w1.heap.size, 1, none⟩ = some (.int .i64 pt) := (F24.out.cell (p := ⟨w1.heap.size, 1, none⟩) hw2 id).trans k1
       have m2 : w4.cell? ⟨w1.heap.size, 2, none⟩ = some (.int .i64 ps) := (F24.out.cell (p := ⟨w1.heap.size, 2, none⟩) hw2 id).trans k2
       have m3 : w4.cell? ⟨w1.heap.size, 3, none⟩ = some (.slice aa A.length ac) := (F24.out.cell (p := ⟨w1.heap.size, 3, none⟩) hw2 id).trans k3
       have m4 : w4.cell? ⟨w1.heap.size, 4, none⟩ = some (.slice ba C.length bc) := (F24.out.cell (p := ⟨w1.heap.size, 4, none⟩) hw2 id).trans k4
       have m5 : w4.cell? ⟨wb, 2, none⟩ = some (.pointer (some ⟨bb, 0, none⟩)) := (F24.out.cell (p := ⟨wb, 2, none⟩) hw3 id).trans d2
       have n0 : w4.cell? ⟨w2.heap.size, 0, none⟩ = some (.int .i64 pe) := by rw [hq4]; simp
       have n1 : w4.cell? ⟨w2.heap.size, 1, none⟩ = some (.int .i64 pt) := by rw [hq4]; simp
       have n2 : w4.cell? ⟨w2.heap.size, 2, none⟩ = some (.int .i64 ps) := by rw [hq4]; simp
       have hz4 : w2.heap.size < w4.heap.size := by rw [hq4]; simp
       clear hq4))
  go_region_held3 (fun w' => w'.cell? ⟨wb, 2, none⟩ = some (.pointer (some ⟨bb, 0, none⟩)) ∧ w'.cell? ⟨w1.heap.size, 3, none⟩ = some (.slice aa A.length ac))
    (first | go_keep | exact ⟨c5a, c5b⟩)
    ((go_at_call 95; refine ((S4.out.after (Fr.dr _)).ownI (by have := HN.out; omega) (ownsRow_base ((Fr.dr _).ownsRow R1.out (fun _ _ => id)) HS.out.base) (fresh_notF HS.out (Nat.le_refl _) R1.out) (fresh_notA HS.out (Nat.le_refl _) R1.out) (by have := HLA.out; omega)).mono ?_; rintro x w5 ⟨rfl, o5, h5⟩
      have H5 : Hid (Owned w4.drew w5 B F wb xb yb bb n o (.slice aa A.length ac) o5) := h5
      have c5a : w5.cell? ⟨wb, 2, none⟩ = some (.pointer (some ⟨bb, 0, none⟩)) := h5.scn.cells.2.2
      have c5b : w5.cell? ⟨w1.heap.size, 3, none⟩ = some (.slice aa A.length ac) := (h5.cell (Nat.lt_trans hw2 hz4) (HS.out.notA F1.out.size) (row_ne V1.out)).trans m3
      have c5c : w5.cell? ⟨w1.heap.size, 4, none⟩ = some (.slice ba C.length bc) := (h5.cell (Nat.lt_trans hw2 hz4) (HS.out.notA F1.out.size) (row_ne V1.out)).trans m4
      have hz5 : w4.heap.size ≤ w5.heap.size := h5.fr.size
      have R5 : Hid (w5.ownsRow w.heap.size 3 1 (.slice ba C.length bc) C.length (intCells C)) := h5.fr.ownsRow ((Fr.dr _).ownsRow R2.out (fun _ _ => id)) (fun k hk hs => by
        rcases hs with hs | hs
        · exact fresh_notA HS.out (Nat.le_refl _) R2.out k hk hs
        · exact V3.out k hs hk)
      have A5 : Hid (∀ k, (Value.slice ba C.length bc).ownBlock = some k → ¬ o5.all bb k) := fun k hk hs => by
        rcases h5.lies k hs with hs | hs | hs
        · exact fresh_notA HS.out (Nat.le_refl _) R2.out k hk hs
        · exact V3.out k hs hk
        · have := (R2.out.lt k hk).2; simp at hs; omega
      clear h5))
  go_wp2_with fail
  go_region_held3 (fun w' => w'.cell? ⟨wb, 2, none⟩ = some (.pointer (some ⟨bb, 0, none⟩)) ∧ w'.cell? ⟨w1.heap.size, 4, none⟩ = some (.slice ba C.length bc))
    (first | go_keep | exact ⟨c6a, c6b⟩)
    ((go_at_call 95; refine ((H5.out.scn.after (Fr.dr _)).ownI (by have := HN.out; omega) (ownsRow_base ((Fr.dr _).ownsRow R5.out (fun _ _ => id)) HS.out.base) (fresh_notF HS.out (Nat.le_refl _) R2.out) A5.out (by have := HLC.out; omega)).mono ?_; rintro x w6 ⟨rfl, o6, h6⟩
      have H6 : Hid (Owned w5.drew w6 B F wb xb yb bb (n + 1) o5 (.slice ba C.length bc) o6) := h6
      have c6a : w6.cell? ⟨wb, 2, none⟩ = some (.pointer (some ⟨bb, 0, none⟩)) := h6.scn.cells.2.2
      have c6b : w6.cell? ⟨w1.heap.size, 4, none⟩ = some (.slice ba C.length bc) := (h6.cell (Nat.lt_of_lt_of_le (Nat.lt_trans hw2 hz4) hz5) (fun ha => by
        rcases H5.out.lies _ ha with hs | hs | hs
        · exact HS.out.notA F1.out.size hs
        · exact row_ne V1.out hs
        · simp at hs; omega) (row_ne V2.out)).trans c5c
      clear h6))
  go_wp2
  go_ret
  refine ⟨rfl, ⟨_, H6.out.scn⟩, ?_, ?_⟩
  · exact (((F2.out.trans F24.out (fun _ h => h.elim)).drew.keep.trans (H5.out.keep (S4.out.after (Fr.dr _)) (fresh_notF HS.out (Nat.le_refl _) R1.out))).trans (Fr.dr _).keep).trans (H6.out.keep (H5.out.scn.after (Fr.dr _)) (fresh_notF HS.out (Nat.le_refl _) R2.out))
  · refine Fr.trans (((F2.out.trans F24.out (fun _ h => h.elim)).drew.mono (fun _ h => h.elim)) : Fr (fun k => B ≤ k) w w4.drew) ((H5.out.far (S4.out.after (Fr.dr _)) (fun k hk => Nat.le_trans HS.out.base (R1.out.lt k hk).1)).drew) (fun _ => .inl) |>.trans (H6.out.far (H5.out.scn.after (Fr.dr _)) (fun k hk => Nat.le_trans HS.out.base (R2.out.lt k hk).1)) (fun _ => .inl)
end

end Go.Proofs.YtkelpcjiediamaaGreat

/-
  The document's Crash, and its Restart where nothing was written.
-/
namespace Go.Proofs.YtkelpcjiediamaaGreat
open Go.RowKit Go.Maps

section
variable {w w' : World} {B yb : Nat} {y : RS}

theorem row_ne_blk {ty : TypeId} {wd : Nat} {v : Value} {n : Nat} {xs : List Value} {b : Nat} {cs : Array Value} {t : TypeId} {fr : Nat × Nat} (h : w.ownsRow B ty wd v n xs) (hb : w.heap[b]? = some (.cells cs t fr)) (hne : ty ≠ t) : v.ownBlock ≠ some b := fun e => by
  have h1 := tag_row h e
  rw [tag_cells hb] at h1
  exact hne h1.symm

theorem YAt.ne_ref (h : YAt w B yb y) {g : GL} (hg : g ∈ y.G) : ¬ refFoot g.yb g.u yb := fun e => by
  have h0 := tag_cells h.blk
  rcases (h.refs g hg).tags e with h1 | h1 <;> rw [h0] at h1 <;> cases h1

/-- The herald's own block is written, nothing else. -/
theorem YAt.put {y' : RS} (h : YAt w B yb y) (f : Fr (fun k => k = yb) w w') (hb : w'.heap[yb]? = some (.cells y'.cells 138 (0, 0))) (h1 : y'.lv = y.lv) (h2 : y'.L = y.L) (h3 : w'.ownsRow B 204 4 y'.dv y'.D.length (y'.D.flatMap Du.cs)) (h5 : y'.hv = y.hv) (h6 : y'.H = y.H) (h7 : y'.gv = y.gv) (h8 : y'.G = y.G) (h9 : y'.ov = y.ov) (h10 : y'.O = y.O) (h11 : y'.nv = y.nv) (h12 : y'.N = y.N) (h13 : y'.P = y.P) (h14 : y'.Q = y.Q) : YAt w' B yb y' :=
  ⟨hb, by rw [h1, h2]; exact f.ownsRow h.recs (fun k hk e => row_ne_blk h.recs h.blk (by decide) (by subst e; exact hk)), h3, by rw [h5, h6]; exact f.ownsRow h.heard (fun k hk e => row_ne_blk h.heard h.blk (by decide) (by subst e; exact hk)), by rw [h7, h8]; exact f.ownsRow h.logs (fun k hk e => row_ne_blk h.logs h.blk (by decide) (by subst e; exact hk)),
   by rw [h9, h10]; exact f.ownsRow h.outs (fun k hk e => row_ne_blk h.outs h.blk (by decide) (by subst e; exact hk)), by rw [h11, h12]; exact f.ownsRow h.net (fun k hk e => row_ne_blk h.net h.blk (by decide) (by subst e; exact hk)),
   fun g hg => by rw [h8] at hg; exact (h.refs g hg).stay f (fun k e hf => h.ne_ref hg (by subst e; exact hf)), h.hy, by rw [h13, h6]; exact h.hP, by rw [h14, h8, h10]; exact h.hQ⟩

def RS.crashed (y : RS) : RS := if y.dn then y else { y with dn := true, br := false }

set_option maxRecDepth 100000 in
theorem ycrash_any (h : YAt w B yb y) : Calls Tryz.prog 45 #[.pointer (some ⟨yb, 0, none⟩)] w fun r w' => r = .returned (.int .i64 (if y.dn then 5 else 0)) ∧ YAt w' B yb y.crashed ∧ Fr (fun k => k = yb) w w' := by
  have H : Hid (YAt w B yb y) := h
  have c4 : w.cell? ⟨yb, 4, none⟩ = some (.bool y.dn) := h.c 4
  have c5 : w.cell? ⟨yb, 5, none⟩ = some (.bool y.br) := h.c 5
  have hf : ∀ o, w.frozen? ⟨yb, o, none⟩ = false := frozen_of_cells h.blk
  clear h
  cases hd : y.dn
  · rw [hd] at c4
    go_enter Tryz.func45, Tryz.ntmps45
    go_wp2
    go_ret
    have fr : Fr (fun k => k = yb) w ((w.setCell ⟨yb, 4, none⟩ (.bool true)).setCell ⟨yb, 5, none⟩ (.bool false)) := ((Fr.refl (fun k => k = yb) w).setCell (p := ⟨yb, 4, none⟩) (.inl rfl) _).setCell (p := ⟨yb, 5, none⟩) (.inl rfl) _
    have e : y.crashed = { y with dn := true, br := false } := by simp [RS.crashed, hd]
    rw [e]
    refine ⟨rfl, H.out.put fr (setCell_cells (setCell_cells H.out.blk 4 (.bool true)) 5 (.bool false)) rfl rfl ?_ rfl rfl rfl rfl rfl rfl rfl rfl rfl rfl, fr⟩
    exact fr.ownsRow H.out.dues (fun k hk e => row_ne_blk H.out.dues H.out.blk (by decide) (by subst e; exact hk))
  · rw [hd] at c4
    go_enter Tryz.func45, Tryz.ntmps45
    go_wp2
    go_ret
    have e : y.crashed = y := by simp [RS.crashed, hd]
    rw [e]
    exact ⟨rfl, H.out, Fr.refl _ _⟩

theorem yrestart_up (h : YAt w B yb y) (hd : y.dn = false) : Calls Tryz.prog 46 #[.pointer (some ⟨yb, 0, none⟩)] w fun r w' => r = .returned (.int .i64 6) ∧ w = w' := by
  have c4 : w.cell? ⟨yb, 4, none⟩ = some (.bool y.dn) := h.c 4
  rw [hd] at c4
  clear h
  go_enter Tryz.func46, Tryz.ntmps46
  go_wp2
  go_ret
  exact ⟨rfl, rfl⟩

/-- .. taken up, where there is no record. -/
def RS.risen (y : RS) (H : List Int) : RS := { y with dn := false, torn := ⟨#[]⟩, dv := .slice none 0 0, D := [], H := H }

set_option maxRecDepth 100000 in
set_option maxHeartbeats 1600000 in
theorem yrestart_nil (h : YAt w B yb y) (hd : y.dn = true) (hL : y.L = []) :
    Calls Tryz.prog 46 #[.pointer (some ⟨yb, 0, none⟩)] w fun r w' => r = .returned (.int .i64 0) ∧ (∃ H', YAt w' B yb (y.risen H')) ∧ Fr (fun k => k = yb ∨ y.hv.ownBlock = some k) w w' := by
  have H : Hid (YAt w B yb y) := h
  have HL : Hid (y.L = []) := hL
  have c4 : w.cell? ⟨yb, 4, none⟩ = some (.bool y.dn) := h.c 4
  have c9 : w.cell? ⟨yb, 9, none⟩ = some (.string y.torn) := h.c 9
  have c10 : w.cell? ⟨yb, 10, none⟩ = some y.dv := h.c 10
  have hf : ∀ o, w.frozen? ⟨yb, o, none⟩ = false := frozen_of_cells h.blk
  rw [hd] at c4
  have hp1 := h.hP.2.1
  have hp2 := h.hP.2.2
  clear h hd hL
  go_enter Tryz.func46, Tryz.ntmps46
  go_wp2_with fail
  go_loopw [3] (fun i w' => ∃ k : Nat, (k : Int) ≤ y.P ∧ i = .int .i64 k ∧ (∃ H', YAt w' B yb (y.risen H')) ∧ Fr (fun k => k = yb ∨ y.hv.ownBlock = some k) w w') (fun i _ => (y.P - intOf i).toNat)
  case atStart =>
    have fr : Fr (fun k => k = yb) w (((w.setCell ⟨yb, 4, none⟩ (.bool false)).setCell ⟨yb, 9, none⟩ (.string ⟨#[]⟩)).setCell ⟨yb, 10, none⟩ (.slice none 0 0)) := (((Fr.refl (fun k => k = yb) w).setCell (p := ⟨yb, 4, none⟩) (.inl rfl) _).setCell (p := ⟨yb, 9, none⟩) (.inl rfl) _).setCell (p := ⟨yb, 10, none⟩) (.inl rfl) _
    refine ⟨0, by omega, rfl, ⟨y.H, H.out.put fr (setCell_cells (setCell_cells (setCell_cells H.out.blk 4 (.bool false)) 9 (.string ⟨#[]⟩)) 10 (.slice none 0 0)) rfl rfl (World.ownsRow_nil _ _ _ _) rfl rfl rfl rfl rfl rfl rfl rfl rfl rfl⟩, fr.mono (fun k hk => .inl (.inl hk))⟩
  case round =>
    obtain ⟨k, hk, rfl, ⟨H', hy⟩, hfr⟩ := hrel
    have HY : Hid (YAt wr B yb (y.risen H')) := hy
    have HF : Hid (Fr (fun k => k = yb ∨ y.hv.ownBlock = some k) w wr) := hfr
    have d0 : wr.cell? ⟨yb, 0, none⟩ = some (.int .i64 y.P) := hy.c 0
    have d7 : wr.cell? ⟨yb, 7, none⟩ = some (.int .i64 y.tm) := hy.c 7
    have d11 : wr.cell? ⟨yb, 11, none⟩ = some y.hv := hy.c 11
    have hPH : y.P = H'.length := hy.hP.1
    have hz := lt_of_block hy.blk
    clear hfr
    by_cases hlt : (k : Int) < y.P
    · have hk2 : k < H'.length := by omega
      rcases hy.heard.2 with ⟨hv, h0⟩ | ⟨g, cap, cur, hv, hb, hg, h1, h2, _⟩
      · have : H'.length = 0 := h0
        omega
      · have hv' : y.hv = .slice (some ⟨g, 0, none⟩) H'.length cap := hv
        have HV : Hid (y.hv = .slice (some ⟨g, 0, none⟩) H'.length cap) := hv'
        rw [hv'] at d11
        have hgy : g ≠ yb := fun e => row_ne_blk hy.heard hy.blk (by decide) (by rw [hv, e]; rfl)
        have hgl := lt_of_block hg
        have hrow := hy.heard
        rw [hv] at hrow
        have HROW : Hid (wr.ownsRow B 3 1 (.slice (some ⟨g, 0, none⟩) H'.length cap) H'.length (intCells H')) := hrow
        obtain ⟨x, hx⟩ : ∃ x, H'[k]? = some x := ⟨_, List.getElem?_eq_getElem hk2⟩
        have dk : wr.cell? ⟨g, k, none⟩ = some (.int .i64 x) := by
          have := hrow.cells (g := g) rfl k (.int .i64 x) (by unfold intCells; rw [List.getElem?_map]; show Option.map _ (H'[k]?) = _; rw [hx]; rfl)
          rw [Addr.add_lit] at this
          simpa using this
        have fk : ∀ o, wr.frozen? ⟨g, o, none⟩ = false := frozen_of_cells hg
        have HG : Hid (wr.heap[g]? = some (.cells cur 3 (0, 0))) := hg
        have hki : (k : Int) < (H'.length : Int) := by omega
        have hk0 : (0 : Int) ≤ (k : Int) := by omega
        clear hy hrow hv hv' h1 h2 hx hPH hb hg
        go_wp2_with fail
        go_region_held3 (fun w' => w'.cell? ⟨yb, 7, none⟩ = some (.int .i64 y.tm) ∧ w'.cell? ⟨yb, 11, none⟩ = some (.slice (some ⟨g, 0, none⟩) H'.length cap))
          (first | go_keep | (simp only [cell_set_ne _ _ (Ne.symm hgy), World.cell?_drew]; with_reducible exact ⟨d7, d11⟩))
          (fail)
        have hrow2 := ownsRow_set HROW.out (j := k) (by simpa using hk2) (.int .i64 y.tm)
        have fg : Fr (fun q => q = g) wr (wr.setCell ⟨g, k, none⟩ (.int .i64 y.tm)).drew := ((Fr.refl (fun q => q = g) wr).setCell (p := ⟨g, k, none⟩) (.inl rfl) _).drew
        have HY2 : Hid (YAt (wr.setCell ⟨g, k, none⟩ (.int .i64 y.tm)).drew B yb (y.risen (H'.set k y.tm))) := by
          have hy := HY.out
          refine ⟨(fg.block yb hz (fun e => hgy e.symm)).trans hy.blk, fg.ownsRow hy.recs (fun q hq e => row_ne_blk hy.recs HG.out (by decide) (by subst e; exact hq)), World.ownsRow_nil _ _ _ _, ?_, fg.ownsRow hy.logs (fun q hq e => row_ne_blk hy.logs HG.out (by decide) (by subst e; exact hq)), fg.ownsRow hy.outs (fun q hq e => row_ne_blk hy.outs HG.out (by decide) (by subst e; exact hq)), fg.ownsRow hy.net (fun q hq e => row_ne_blk hy.net HG.out (by decide) (by subst e; exact hq)), fun r hr => (hy.refs r hr).stay fg (fun q e hf => ?_), hy.hy, ?_, hy.hQ⟩
          · show (wr.setCell ⟨g, k, none⟩ (.int .i64 y.tm)).drew.ownsRow B 3 1 y.hv (H'.set k y.tm).length (intCells (H'.set k y.tm))
            rw [HV.out, List.length_set, show intCells (H'.set k y.tm) = (intCells H').set k (.int .i64 y.tm) from List.map_set]
            exact (Fr.dr _).ownsRow hrow2 (fun _ _ => id)
          · have h0 := tag_cells HG.out
            subst e
            rcases (hy.refs r hr).tags hf with h1 | h1 <;> rw [h0] at h1 <;> cases h1
          · show y.P = ((H'.set k y.tm).length : Int) ∧ _
            rw [List.length_set]
            exact hy.hP
        have HF2 : Hid (Fr (fun k => k = yb ∨ y.hv.ownBlock = some k) w (wr.setCell ⟨g, k, none⟩ (.int .i64 y.tm)).drew) := HF.out.trans fg (fun q hq => .inl (.inr (by rw [HV.out, hq]; rfl)))
        clear hrow2 fg
        go_wp2_with (go_at_call 105; refine (stand_nil (y := y.risen (H'.set k y.tm)) (by exact HY2.out) HL.out _).mono ?_; rintro e w2 ⟨rfl, hf2⟩; have HF3 : Hid (Fr (fun _ => False) (wr.setCell ⟨g, k, none⟩ (.int .i64 y.tm)).drew w2) := hf2; clear hf2)
        go_roundw
        case rel => exact ⟨k + 1, by omega, by go_num, ⟨_, HY2.out.after (HF3.out.alloc _)⟩, HF2.out.trans (HF3.out.alloc _) (fun _ h => h.elim)⟩
        case measure => simp [intOf]; omega
    · clear hy
      go_wp2
      go_ret
      exact ⟨rfl, ⟨_, HY.out⟩, HF.out⟩
end

end Go.Proofs.YtkelpcjiediamaaGreat
