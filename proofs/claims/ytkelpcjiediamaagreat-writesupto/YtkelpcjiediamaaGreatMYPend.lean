/-
  The document's clear: a part is pending no more; who may speak.
-/
import Derived.Test.YtkelpcjiediamaaGreatMYTorn
namespace Go.Proofs.YtkelpcjiediamaaGreat
open Go.RowKit Go.Maps

theorem info156 : (Tryz.prog.info? 204).map (fun i => (i.zero, i.size, i.bytes)) = some (some (.agg #[.int .i64 0, .int .i64 0, .int .i64 0, .int .i64 0]), 4, 32) := by kernel_rfl

theorem duCells_get : ∀ (l : List Du) (k : Nat) (e : Du) (j : Nat), l[k]? = some e → j < 4 → (l.flatMap Du.cs)[k * 4 + j]? = e.cs[j]?
  | [], k, e, j, h, _ => by simp at h
  | x :: r, 0, e, j, h, hj => by
    simp only [List.getElem?_cons_zero, Option.some.injEq] at h
    subst h
    simp only [List.flatMap_cons]
    rw [List.getElem?_append_left (by simp [Du.cs]; omega)]
    simp
  | x :: r, k + 1, e, j, h, hj => by
    simp only [List.getElem?_cons_succ] at h
    have := duCells_get r k e j h hj
    simp only [List.flatMap_cons] at this ⊢
    rw [List.getElem?_append_right (by simp [Du.cs]; omega), ← this]
    congr 1
    simp [Du.cs]; omega

theorem rowDu_cells {w : World} {B g n cap : Nat} {l : List Du} (h : w.ownsRow B 204 4 (.slice (some ⟨g, 0, none⟩) n cap) l.length (l.flatMap Du.cs)) {k : Nat} {e : Du} (hk : l[k]? = some e) :
    w.cell? ⟨g, k * 4, none⟩ = some (.int .i64 e.p) ∧ w.cell? ⟨g, k * 4 + 1, none⟩ = some (.int .i64 e.q) ∧ w.cell? ⟨g, k * 4 + 2, none⟩ = some (.int .i64 e.t) ∧ w.cell? ⟨g, k * 4 + 3, none⟩ = some (.int .i64 e.g) := by
  have hc := h.cells (g := g) rfl
  have key : ∀ j u, j < 4 → e.cs[j]? = some u → w.cell? ⟨g, k * 4 + j, none⟩ = some u := fun j u hj hu => by
    have := hc (k * 4 + j) u ((duCells_get l k e j hk hj).trans hu)
    rw [Addr.add_lit] at this
    simpa using this
  exact ⟨key 0 _ (by omega) rfl, key 1 _ (by omega) rfl, key 2 _ (by omega) rfl, key 3 _ (by omega) rfl⟩

/-- Does a marker stay? -/
def Du.stays (p q : Int) (d : Du) : Bool := decide (d.p ≠ p) || (decide (0 ≤ q) && decide (d.q ≠ q))

section
variable {w w' : World} {B yb : Nat} {y : RS}

theorem RS.set_dv (y : RS) (dv : Value) (D : List Du) : y.cells.setIfInBounds 10 dv = ({ y with dv := dv, D := D } : RS).cells := by
  obtain ⟨P, Q, T, K, dn, br, kp, tm, lv0, L, torn, dv0, D0, hv, H, gv, G, ov, O, nv, N⟩ := y
  kernel_rfl

set_option maxRecDepth 100000 in
set_option maxHeartbeats 1600000 in
theorem yclear_any (h : YAt w B yb y) (p q : Int) (hb : (y.D.length + 1) * 32 ≤ 140737488355328) :
    Calls Tryz.prog 151 #[.pointer (some ⟨yb, 0, none⟩), .int .i64 p, .int .i64 q] w fun e w' => e = .returned (.tuple #[]) ∧ ∃ dv, YAt w' B yb { y with dv := dv, D := y.D.filter (Du.stays p q) } ∧ Fr (fun k => k = yb) w w' ∧ (∀ k, dv.ownBlock = some k → w.heap.size ≤ k) := by
  obtain ⟨i0, hi0, hz0, hz1, hz2⟩ := info_parts info156
  have H : Hid (YAt w B yb y) := h
  have HB : Hid ((y.D.length + 1) * 32 ≤ 140737488355328) := hb
  have c10 : w.cell? ⟨yb, 10, none⟩ = some y.dv := h.c 10
  obtain ⟨la, lc, hl, hll⟩ := anyRow_len h.dues
  unfold maxLen at hll
  rw [hl] at c10
  have HDV : Hid (y.dv = .slice la y.D.length lc) := hl
  have hlt := lt_of_block h.blk
  have hBw : B ≤ w.heap.size := Nat.le_of_lt (Nat.lt_of_le_of_lt h.hy hlt)
  clear h hb hl
  go_enter Tryz.func151, Tryz.ntmps151
  go_wp2_with fail
  go_loopw [6, 7] (fun v i w' => ∃ k : Nat, k ≤ y.D.length ∧ i = .int .i64 k ∧ w'.ownsRow w.heap.size 204 4 v ((y.D.take k).filter (Du.stays p q)).length (((y.D.take k).filter (Du.stays p q)).flatMap Du.cs) ∧ Fr (fun _ => False) w w') (fun _ i _ => y.D.length - (intOf i).toNat)
  case atStart => exact ⟨0, Nat.zero_le _, rfl, World.ownsRow_nil _ _ _ _, Fr.refl _ _⟩
  case round =>
    obtain ⟨k, hk, rfl, hv, hf⟩ := hrel
    have HF : Hid (Fr (fun _ => False) w wr) := hf
    obtain ⟨va, vc, rfl, _⟩ := anyRow_len hv
    have HLE : Hid (((y.D.take k).filter (Du.stays p q)).length ≤ k) := Nat.le_trans (List.length_filter_le _ _) (by simp; omega)
    have HX : ∀ d, y.D[k]? = some d → (y.D.take (k + 1)).filter (Du.stays p q) = (y.D.take k).filter (Du.stays p q) ++ (if d.stays p q then [d] else []) := fun d hd => by
      rw [List.take_add_one, hd, Option.toList_some, List.filter_append]
      congr 1
      cases hs : d.stays p q <;> simp [hs]
    generalize hF : (y.D.take k).filter (Du.stays p q) = X at hv HX HLE
    have HV : Hid (wr.ownsRow w.heap.size 204 4 (.slice va X.length vc) X.length (X.flatMap Du.cs)) := hv
    have d10 : wr.cell? ⟨yb, 10, none⟩ = some (.slice la y.D.length lc) := (hf.cell (p := ⟨yb, 10, none⟩) hlt id).trans c10
    have HROW : Hid (wr.ownsRow B 204 4 (.slice la y.D.length lc) y.D.length (y.D.flatMap Du.cs)) := by have := hf.ownsRow H.out.dues (fun _ _ => id); rw [HDV.out] at this; exact this
    have hyr : yb < wr.heap.size := Nat.lt_of_lt_of_le hlt hf.size
    have hwr := hf.size
    have cf : ∀ o, wr.frozen? ⟨yb, o, none⟩ = false := frozen_of_cells ((hf.block _ hlt id).trans H.out.blk)
    clear hv hf
    by_cases hlt2 : k < y.D.length
    · obtain ⟨d, hd⟩ : ∃ d, y.D[k]? = some d := ⟨_, List.getElem?_eq_getElem hlt2⟩
      have HX1 := HX d hd
      rcases HROW.out.2 with ⟨_, h0⟩ | ⟨g, cap, cur, hv, hb2, hg, h1, h2, _⟩
      · omega
      · simp only [Value.slice.injEq] at hv
        obtain ⟨rfl, _, rfl⟩ := hv
        obtain ⟨r0, r1, r2, r3⟩ := rowDu_cells HROW.out hd
        have hki : (k : Int) < (y.D.length : Int) := by omega
        clear hd hg h2 hb2 HX hF
        by_cases hs : d.stays p q = true
        · have HX2 : Hid ((y.D.take (k + 1)).filter (Du.stays p q) = X ++ [d]) := by rw [hs] at HX1; exact HX1
          clear HX1
          have fin : ∀ (w3 : World) (gg gcap : Nat), w3.ownsRow w.heap.size 204 4 (.slice (some ⟨gg, 0, none⟩) (X.length + 1) gcap) (X.length + 1) (X.flatMap Du.cs ++ [.int .i64 d.p, .int .i64 d.q, .int .i64 d.t, .int .i64 d.g]) → Hid (w3.ownsRow w.heap.size 204 4 (.slice (some ⟨gg, 0, none⟩) (X.length + 1) gcap) ((y.D.take (k + 1)).filter (Du.stays p q)).length (((y.D.take (k + 1)).filter (Du.stays p q)).flatMap Du.cs)) := fun w3 gg gcap hh => by
            show w3.ownsRow _ _ _ _ _ _
            rw [HX2.out, List.length_append, List.flatMap_append]
            simpa [Du.cs] using hh
          by_cases e1 : d.p = p
          · have e2 : 0 ≤ q ∧ d.q ≠ q := by simpa [Du.stays, e1] using hs
            have e3 : (d.q == q) = false := by simpa using e2.2
            have e4 : (0 : Int) ≤ q := e2.1
            clear e2 hs
            subst e1
            go_wp2_with (at_builtin; refine wpList_append_lies _ rfl _ _ 135 rfl w.heap.size 204 i0 _ 4 32 Tryz.underlying135 hi0 hz0 hz1 hz2 rfl (by decide) (.slice va X.length vc) X.length (X.flatMap Du.cs) rfl (by exact ((nofr _).alloc _).ownsRow HV.out (fun _ _ => id)) ⟨wr.heap.size + 1, 0, none⟩ 1 1 [.int .i64 d.p, .int .i64 d.q, .int .i64 d.t, .int .i64 d.g] rfl rfl (World.news_of_block (cs := #[.int .i64 d.p, .int .i64 d.q, .int .i64 d.t, .int .i64 d.g]) (t := 204) (fr := (0, 0)) (alloc_at _ (by simp))) (by simp [Value.oneCell']) (by decide) (by have := HLE.out; have := HB.out; simp only [maxLen]; omega) (by have := HLE.out; have := HB.out; omega) (by simp; omega) (wr.heap.size + 1 + 1) (by simp) ?_; intro gg gcap w3 hown3 hgrow3 hat3 hlt3)
            go_roundw
            case rel => exact ⟨k + 1, by omega, by go_num, (fin w3 gg gcap hown3).out, HF.out.trans (((Fr.refl (fun q => Value.ownBlock (.slice va X.length vc) = some q) wr).alloc _ |>.alloc _).grown hgrow3 (fun q e => .inl e)) (fun q hq => .inr (HV.out.lt q hq).1)⟩
            case measure => simp [intOf]; omega
          · have e1' : (d.p == p) = false := by simpa using e1
            clear hs
            go_wp2_with (at_builtin; refine wpList_append_lies _ rfl _ _ 135 rfl w.heap.size 204 i0 _ 4 32 Tryz.underlying135 hi0 hz0 hz1 hz2 rfl (by decide) (.slice va X.length vc) X.length (X.flatMap Du.cs) rfl (by exact ((nofr _).alloc _).ownsRow HV.out (fun _ _ => id)) ⟨wr.heap.size + 1, 0, none⟩ 1 1 [.int .i64 d.p, .int .i64 d.q, .int .i64 d.t, .int .i64 d.g] rfl rfl (World.news_of_block (cs := #[.int .i64 d.p, .int .i64 d.q, .int .i64 d.t, .int .i64 d.g]) (t := 204) (fr := (0, 0)) (alloc_at _ (by simp))) (by simp [Value.oneCell']) (by decide) (by have := HLE.out; have := HB.out; simp only [maxLen]; omega) (by have := HLE.out; have := HB.out; omega) (by simp; omega) (wr.heap.size + 1 + 1) (by simp) ?_; intro gg gcap w3 hown3 hgrow3 hat3 hlt3)
            go_roundw
            case rel => exact ⟨k + 1, by omega, by go_num, (fin w3 gg gcap hown3).out, HF.out.trans (((Fr.refl (fun q => Value.ownBlock (.slice va X.length vc) = some q) wr).alloc _ |>.alloc _).grown hgrow3 (fun q e => .inl e)) (fun q hq => .inr (HV.out.lt q hq).1)⟩
            case measure => simp [intOf]; omega
        · have hs' : d.stays p q = false := by simpa using hs
          have HX2 : Hid ((y.D.take (k + 1)).filter (Du.stays p q) = X) := by show (y.D.take (k + 1)).filter (Du.stays p q) = X; rw [hs'] at HX1; simpa using HX1
          have e1 : d.p = p := by
            by_cases e : d.p = p
            · exact e
            · simp [Du.stays, e] at hs'
          have e2 : 0 ≤ q → d.q = q := fun hq => by
            by_cases e : d.q = q
            · exact e
            · simp [Du.stays, e, hq] at hs'
          clear HX1 hs hs'
          subst e1
          by_cases e4 : 0 ≤ q
          · have e3 : (d.q == q) = true := by simpa using e2 e4
            clear e2
            go_wp2_with fail
            go_roundw
            case rel => exact ⟨k + 1, by omega, by go_num, by rw [HX2.out]; exact (nofr _).ownsRow HV.out (fun _ _ => id), HF.out.alloc _⟩
            case measure => simp [intOf]; omega
          · clear e2
            go_wp2_with fail
            go_roundw
            case rel => exact ⟨k + 1, by omega, by go_num, by rw [HX2.out]; exact (nofr _).ownsRow HV.out (fun _ _ => id), HF.out.alloc _⟩
            case measure => simp [intOf]; omega
    · have HXX : Hid (y.D.filter (Du.stays p q) = X) := by show y.D.filter (Du.stays p q) = X; rw [← hF, List.take_of_length_le (by omega)]
      clear hF HX
      go_wp2
      go_end0
      have fs : Fr (fun k => k = yb) wr (wr.setCell ⟨yb, 10, none⟩ (.slice va X.length vc)) := (Fr.refl (fun k => k = yb) wr).setCell (p := ⟨yb, 10, none⟩) (.inl rfl) _
      have hy := H.out.after HF.out
      rw [HXX.out]
      refine ⟨rfl, _, hy.put fs ?_ rfl rfl ?_ rfl rfl rfl rfl rfl rfl rfl rfl rfl rfl, (HF.out.mono (fun _ h => h.elim) : Fr (fun k => k = yb) w wr).trans fs (fun _ hk => .inl hk), fun k hk => (HV.out.lt k hk).1⟩
      · rw [setCell_cells hy.blk, RS.set_dv y _ X]
      · refine fs.ownsRow (ownsRow_base HV.out hBw) (fun q hq e => ?_)
        subst e
        have := (HV.out.lt _ hq).1
        omega
end

end Go.Proofs.YtkelpcjiediamaaGreat

/-
  The document's pend, and who may speak.
-/
namespace Go.Proofs.YtkelpcjiediamaaGreat
open Go.RowKit Go.Maps

section
variable {w w' : World} {B yb : Nat} {y : RS}

def speaks (dn : Bool) (e epoch : Int) : Int := if dn then 5 else if epoch = 0 ∨ e ≠ epoch then 7 else 0

set_option maxRecDepth 100000 in
theorem yspeaks_any (h : YAt w B yb y) (e t s : Int) (va : Option Addr) (vl vc : Nat) (epoch : Int) :
    Calls Tryz.prog 132 #[.pointer (some ⟨yb, 0, none⟩), .agg #[.int .i64 e, .int .i64 t, .int .i64 s, .slice va vl vc], .int .i64 epoch] w fun r w' => r = .returned (.int .i64 (speaks y.dn e epoch)) ∧ Fr (fun _ => False) w w' := by
  have c4 : w.cell? ⟨yb, 4, none⟩ = some (.bool y.dn) := h.c 4
  have hlt := lt_of_block h.blk
  clear h
  cases hd : y.dn
  · rw [hd] at c4
    by_cases h0 : epoch = 0
    · subst h0
      go_enter Tryz.func132, Tryz.ntmps132
      go_wp2
      go_ret
      exact ⟨rfl, nofr _⟩
    · have h0' : (epoch == 0) = false := by simpa using h0
      by_cases h1 : e = epoch
      · subst h1
        have HS : Hid (speaks false e e = 0) := by show speaks false e e = 0; simp [speaks, h0]
        go_enter Tryz.func132, Tryz.ntmps132
        go_wp2
        go_ret
        exact ⟨by rw [HS.out] <;> rfl, nofr _⟩
      · have h1' : (e == epoch) = false := by simpa using h1
        have HS : Hid (speaks false e epoch = 7) := by show speaks false e epoch = 7; simp [speaks, h1]
        go_enter Tryz.func132, Tryz.ntmps132
        go_wp2
        go_ret
        exact ⟨by rw [HS.out] <;> rfl, nofr _⟩
  · rw [hd] at c4
    go_enter Tryz.func132, Tryz.ntmps132
    go_wp2
    go_ret
    exact ⟨rfl, nofr _⟩

/-- The markers that come to be due. -/
def newDues (p t : Int) (ps : List Int) (k : Nat) : List Du := ((List.range k).filter fun (i : Nat) => decide ((i : Int) ∈ ps)).map fun (i : Nat) => ⟨p, (i : Int), t + 1, 1⟩

theorem newDues_succ (p t : Int) (ps : List Int) (k : Nat) : newDues p t ps (k + 1) = newDues p t ps k ++ (if (k : Int) ∈ ps then [⟨p, k, t + 1, 1⟩] else []) := by
  unfold newDues
  rw [List.range_succ, List.filter_append, List.map_append]
  congr 1
  by_cases h : (k : Int) ∈ ps
  · rw [if_pos h, List.filter_cons_of_pos (by simpa using h)]; rfl
  · rw [if_neg h, List.filter_cons_of_neg (by simpa using h)]; rfl

theorem newDues_len (p t : Int) (ps : List Int) (k : Nat) : (newDues p t ps k).length ≤ k := by
  unfold newDues
  rw [List.length_map]
  exact Nat.le_trans (List.length_filter_le _ _) (by simp)

theorem YAt.dueDone {W w3 : World} {d : Du} {dv : Value} (h : YAt w B yb y) (fW : Fr (fun _ => False) w W) (hg : W.grownBy w3 y.dv.ownBlock) (hown : w3.ownsRow B 204 4 dv (y.D.length + 1) (y.D.flatMap Du.cs ++ d.cs)) (hat : ∀ q, dv.ownBlock = some q → y.dv.ownBlock = some q ∨ w.heap.size ≤ q) :
    YAt (w3.setCell ⟨yb, 10, none⟩ dv) B yb { y with dv := dv, D := y.D ++ [d] } ∧ Fr (fun k => k = yb ∨ y.dv.ownBlock = some k) w (w3.setCell ⟨yb, 10, none⟩ dv) := by
  have f3 : Fr (fun q => y.dv.ownBlock = some q) w w3 := (fW.mono (fun _ h => h.elim)).grown hg (fun q e => .inl e)
  have hz := lt_of_block h.blk
  have n1 : y.dv.ownBlock ≠ some yb := row_ne_blk h.dues h.blk (by decide)
  have fs : Fr (fun q => q = yb) w3 (w3.setCell ⟨yb, 10, none⟩ dv) := (Fr.refl (fun q => q = yb) w3).setCell (p := ⟨yb, 10, none⟩) (.inl rfl) _
  have f4 : Fr (fun q => q = yb ∨ y.dv.ownBlock = some q) w (w3.setCell ⟨yb, 10, none⟩ dv) := (f3.mono (fun q e => .inl (.inr e))).trans fs (fun q e => .inl (.inl e))
  have key : ∀ {ty : TypeId} {wd : Nat} {v : Value} {n : Nat} {xs : List Value}, w.ownsRow B ty wd v n xs → ty ≠ 204 → ty ≠ 138 → ∀ q, v.ownBlock = some q → ¬ (q = yb ∨ y.dv.ownBlock = some q) := fun {ty wd v n xs} hr h1 h2 q hq e => by
    have ht := tag_row hr hq
    rcases e with e | e
    · subst e; rw [tag_cells h.blk] at ht; exact h2 ht.symm
    · have := tag_row h.dues e; rw [ht] at this; exact h1 this
  refine ⟨⟨?_, f4.ownsRow h.recs (key h.recs (by decide) (by decide)), ?_, f4.ownsRow h.heard (key h.heard (by decide) (by decide)), f4.ownsRow h.logs (key h.logs (by decide) (by decide)), f4.ownsRow h.outs (key h.outs (by decide) (by decide)), f4.ownsRow h.net (key h.net (by decide) (by decide)), fun g hgm => ?_, h.hy, h.hP, h.hQ⟩, f4⟩
  · rw [setCell_cells ((f3.block _ hz n1).trans h.blk), RS.set_dv y dv (y.D ++ [d])]
  · show (w3.setCell ⟨yb, 10, none⟩ dv).ownsRow B 204 4 dv (y.D ++ [d]).length ((y.D ++ [d]).flatMap Du.cs)
    rw [List.length_append, List.flatMap_append, show [d].flatMap Du.cs = d.cs by simp]
    refine fs.ownsRow hown (fun q hq e => ?_)
    subst e
    rcases hat _ hq with a | a
    · exact n1 a
    · omega
  · refine (h.refs g hgm).stay f4 (fun q hq hf => ?_)
    rcases hq with hq | hq
    · have h0 := tag_cells h.blk
      subst hq
      rcases (h.refs g hgm).tags hf with h1 | h1 <;> rw [h0] at h1 <;> cases h1
    · have h0 := tag_row h.dues hq
      rcases (h.refs g hgm).tags hf with h1 | h1 <;> rw [h0] at h1 <;> cases h1

/-- The herald with other dues. -/
def RS.dues (y : RS) (dv : Value) (D : List Du) : RS := { y with dv := dv, D := D }

/-- While markers come to be due. -/
structure Pends (w w' : World) (B yb : Nat) (y : RS) (D : List Du) (dv : Value) : Prop where
  at_ : YAt w' B yb (y.dues dv D)
  fr : Fr (fun k => k = yb) w w'
  lies : ∀ k, dv.ownBlock = some k → w.heap.size ≤ k

set_option maxRecDepth 100000 in
set_option maxHeartbeats 1600000 in
theorem ypend_any (h : YAt w B yb y) (p : Int) (hR : ∀ r ∈ y.L, 0 ≤ r.a ∧ r.a ≤ 4) (hb : (y.L.length + 1) * 8 ≤ 140737488355328) (hb2 : (y.D.length + 8) * 32 ≤ 140737488355328) (ht : y.tm + 1 < 9223372036854775808 ∧ 0 ≤ y.tm) :
    Calls Tryz.prog 106 #[.pointer (some ⟨yb, 0, none⟩), .int .i64 p] w fun e w' => e = .returned (.tuple #[]) ∧ ∃ dv, Pends w w' B yb y (y.D.filter (Du.stays p (-1)) ++ newDues p y.tm (stand y.L p).ps y.Q.toNat) dv := by
  obtain ⟨i0, hi0, hz0, hz1, hz2⟩ := info_parts info156
  have H : Hid (YAt w B yb y) := h
  have HR : Hid (∀ r ∈ y.L, 0 ≤ r.a ∧ r.a ≤ 4) := hR
  have HB : Hid ((y.L.length + 1) * 8 ≤ 140737488355328) := hb
  have HB2 : Hid ((y.D.length + 8) * 32 ≤ 140737488355328) := hb2
  have HD1 : Hid ((y.D.length + 1) * 32 ≤ 140737488355328) := by show (y.D.length + 1) * 32 ≤ 140737488355328; omega
  have HFL : Hid ((y.D.filter (Du.stays p (-1))).length ≤ y.D.length) := List.length_filter_le _ _
  have hlt := lt_of_block h.blk
  have hq1 := h.hQ.2.2.1
  have hq2 := h.hQ.2.2.2
  obtain ⟨qn, hqn⟩ := Int.eq_ofNat_of_zero_le (show 0 ≤ y.Q by omega)
  have hqt : y.Q.toNat = qn := by omega
  have hwt : IntKind.i64.wrap (y.tm + 1) = y.tm + 1 := by have := ht.1; have := ht.2; exact wrap_i64 (by omega) (by omega)
  rw [hqt]
  have HQ : Hid (y.Q = (qn : Int)) := hqn
  have hq4 : (qn : Int) ≤ 4 := by omega
  clear h hR hb hb2 hq1 hq2 hqn hqt
  go_enter Tryz.func106, Tryz.ntmps106
  go_wp2_with (first
    | (go_at_call 151; refine (yclear_any H.out p (-1) HD1.out).mono ?_; rintro e w1 ⟨rfl, dv1, hy1, hf1, hl1⟩
       have Y1 : Hid (Pends w w1 B yb y (y.D.filter (Du.stays p (-1))) dv1) := ⟨hy1, hf1, hl1⟩
       clear hy1 hf1 hl1)
    | (go_at_call 105; refine (show Calls Tryz.prog 105 #[.pointer (some ⟨yb, 0, none⟩), .int .i64 p] w1 (fun r w' => ∃ v, r = .returned (.agg #[.int .i64 (stand y.L p).e, .int .i64 (stand y.L p).t, .int .i64 (stand y.L p).s, v]) ∧ NewInts w1 w' v (stand y.L p).ps ∧ Fr (fun _ => False) w1 w') from stand_any (y := y.dues dv1 (y.D.filter (Du.stays p (-1)))) Y1.out.at_ p HR.out HB.out).mono ?_; rintro e w2 ⟨v2, rfl, hv2, hf2⟩
       obtain ⟨va, vc, rfl, _⟩ := intRow_len hv2
       have V2 : Hid (w2.ownsRow w1.heap.size 3 1 (.slice va (stand y.L p).ps.length vc) (stand y.L p).ps.length (intCells (stand y.L p).ps)) := hv2
       have Y2 : Hid (Pends w w2 B yb y (y.D.filter (Du.stays p (-1))) dv1) := ⟨Y1.out.at_.after hf2, Y1.out.fr.trans hf2 (fun _ h => h.elim), Y1.out.lies⟩
       clear hv2 hf2))
  have HZ2 : Hid (w.heap.size ≤ w2.heap.size) := Y2.out.fr.size
  generalize hst : stand y.L p = st at V2 ⊢
  obtain ⟨se, stt, ss, ps⟩ := st
  simp only at V2 ⊢
  generalize hX : y.D.filter (Du.stays p (-1)) = X at Y2 HFL ⊢
  have HST : Hid (stand y.L p = ⟨se, stt, ss, ps⟩) := hst
  have HXX : Hid (y.D.filter (Du.stays p (-1)) = X) := hX
  clear Y1 hX hst
  go_loopw [5] (fun i w' => ∃ k : Nat, k ≤ qn ∧ i = .int .i64 k ∧ (∃ dv, Pends w w' B yb y (X ++ newDues p y.tm ps k) dv) ∧ w'.heap[w2.heap.size]? = some (.cells #[.int .i64 se, .int .i64 stt, .int .i64 ss, .slice va ps.length vc] 157 (0, 0)) ∧ w'.ownsRow w1.heap.size 3 1 (.slice va ps.length vc) ps.length (intCells ps)) (fun i _ => qn - (intOf i).toNat)
  case atStart => exact ⟨0, Nat.zero_le _, rfl, ⟨dv1, by simpa [newDues] using Y2.out.at_.after (nofr _), Y2.out.fr.trans (nofr _) (fun _ h => h.elim), Y2.out.lies⟩, heap_alloc_new _ _, (nofr _).ownsRow V2.out (fun _ _ => id)⟩
  case round =>
    obtain ⟨k, hk, rfl, ⟨dv, hp⟩, hblk, hrow⟩ := hrel
    have HP : Hid (Pends w wr B yb y (X ++ newDues p y.tm ps k) dv) := hp
    have HBL : Hid (wr.heap[w2.heap.size]? = some (.cells #[.int .i64 se, .int .i64 stt, .int .i64 ss, .slice va ps.length vc] 157 (0, 0))) := hblk
    have HRW : Hid (wr.ownsRow w1.heap.size 3 1 (.slice va ps.length vc) ps.length (intCells ps)) := hrow
    have d1 : wr.cell? ⟨yb, 1, none⟩ = some (.int .i64 qn) := (hp.at_.c 1).trans (by show some (Value.int .i64 y.Q) = _; rw [HQ.out])
    have d3 : wr.cell? ⟨w2.heap.size, 3, none⟩ = some (.slice va ps.length vc) := cell_of_cells hblk 3
    have d7 : wr.cell? ⟨yb, 7, none⟩ = some (.int .i64 y.tm) := hp.at_.c 7
    have d10 : wr.cell? ⟨yb, 10, none⟩ = some dv := hp.at_.c 10
    have df : ∀ o, wr.frozen? ⟨yb, o, none⟩ = false := frozen_of_cells hp.at_.blk
    obtain ⟨da, dc, hdv, _⟩ := anyRow_len hp.at_.dues
    have hdv' : dv = .slice da (X ++ newDues p y.tm ps k).length dc := hdv
    subst hdv'
    have HL : Hid ((X ++ newDues p y.tm ps k).length ≤ y.D.length + k) := by have := newDues_len p y.tm ps k; have := HFL.out; show (X ++ newDues p y.tm ps k).length ≤ y.D.length + k; rw [List.length_append]; omega
    have HND := newDues_succ p y.tm ps k
    clear hp hblk hrow hdv
    by_cases hlt2 : k < qn
    · have hki : (k : Int) < (qn : Int) := by omega
      by_cases hm : (k : Int) ∈ ps
      · have HM : Hid (decide ((k : Int) ∈ ps) = true) := decide_eq_true hm
        have HE : Hid (X ++ newDues p y.tm ps (k + 1) = (X ++ newDues p y.tm ps k) ++ [⟨p, k, y.tm + 1, 1⟩]) := by show X ++ newDues p y.tm ps (k + 1) = _; rw [HND, if_pos hm, List.append_assoc]
        have HDU : Hid (wr.ownsRow B 204 4 (.slice da (X ++ newDues p y.tm ps k).length dc) (X ++ newDues p y.tm ps k).length ((X ++ newDues p y.tm ps k).flatMap Du.cs)) := HP.out.at_.dues
        generalize X ++ newDues p y.tm ps k = Z at HP HE HDU HL d10
        clear HND hm
        go_wp2_with (go_at_call 133; refine (has_any HRW.out k).mono ?_; rw [HM.out]; rintro e w4 ⟨rfl, rfl⟩)
        have hn1 : Value.ownBlock (.slice da Z.length dc) ≠ some yb := row_ne_blk HDU.out HP.out.at_.blk (by decide)
        have hyr := lt_of_block HP.out.at_.blk
        have hBr : B ≤ wr.heap.size := Nat.le_of_lt (Nat.lt_of_le_of_lt HP.out.at_.hy hyr)
        go_region_law
          ((refine step_append_lies _ (by rfl) _ _ _ (by rfl) B 204 i0 _ 4 32 Tryz.underlying135 hi0 hz0 hz1 hz2 rfl (by omega) (.slice da Z.length dc) Z.length (Z.flatMap Du.cs) (by rfl) (by exact ((nofr _).drew).ownsRow HDU.out (fun _ _ => id))
              ⟨wr.heap.size, 0, none⟩ 1 1 [.int .i64 p, .int .i64 k, .int .i64 (y.tm + 1), .int .i64 1] (by rfl) (by rfl) (World.news_of_block (cs := #[.int .i64 p, .int .i64 k, .int .i64 (y.tm + 1), .int .i64 1]) (t := 204) (fr := (0, 0)) (by show (wr.alloc _).heap[_]? = _; exact alloc_at _ (by simp))) (by simp [Value.oneCell'])
              (by omega) (by have := HL.out; have := HB2.out; simp only [maxLen]; omega) (by have := HL.out; have := HB2.out; omega) (by simp; omega) (wr.heap.size + 1) (by simp) ?_; intro gg cap w3 hown hgrow hat hlt3
            have hb3 := (hgrow.block yb (by simp; omega) (Ne.symm hn1)).trans (((nofr _).drew.block _ hyr id).trans HP.out.at_.blk)
            have k0 : w3.cell? ⟨yb, 10, none⟩ = some (.slice da Z.length dc) := cell_of_cells hb3 10
            have k1 : ∀ o, w3.frozen? ⟨yb, o, none⟩ = false := frozen_of_cells hb3
            clear hb3))
        all_goals
          go_wp2
          go_roundw
          case rel =>
            have l := HP.out.at_.dueDone (d := ⟨p, k, y.tm + 1, 1⟩) (dv := .slice (some ⟨gg, 0, none⟩) (Z.length + 1) cap) (W := (wr.alloc (.cells #[.int .i64 p, .int .i64 k, .int .i64 (y.tm + 1), .int .i64 1] 204)).drew) ((nofr _).drew) hgrow hown (fun q hq => by
              simp only [Value.ownBlock, Option.some.injEq] at hq
              subst hq
              rcases hat with a | a
              · exact .inl a
              · exact .inr (by omega))
            have hlies : ∀ q, (q = yb ∨ Value.ownBlock (.slice da Z.length dc) = some q) → q = yb ∨ w.heap.size ≤ q := fun q hq => by
              rcases hq with hq | hq
              · exact .inl hq
              · exact .inr (HP.out.lies q hq)
            refine ⟨k + 1, by omega, by go_num, ⟨.slice (some ⟨gg, 0, none⟩) (Z.length + 1) cap, ?_⟩, ?_, ?_⟩
            · rw [HE.out]
              refine ⟨l.1, HP.out.fr.trans l.2 (fun q hq => hlies q hq), fun q hq => ?_⟩
              simp only [Value.ownBlock, Option.some.injEq] at hq
              subst hq
              rcases hat with a | a
              · exact HP.out.lies _ a
              · have := HP.out.fr.size; omega
            · refine (l.2.block _ (lt_of_block HBL.out) (fun e => ?_)).trans HBL.out
              rcases e with e | e
              · have := HZ2.out; omega
              · exact row_ne_blk HDU.out HBL.out (by decide) e
            · refine l.2.ownsRow HRW.out (fun q hq e => ?_)
              have t1 := tag_row HRW.out hq
              rcases e with e | e
              · subst e; rw [tag_cells HP.out.at_.blk] at t1; cases t1
              · have t2 := tag_row HDU.out e; rw [t1] at t2; cases t2
          case measure => simp [intOf]; omega
      · have HM : Hid (decide ((k : Int) ∈ ps) = false) := decide_eq_false hm
        have HE : Hid (newDues p y.tm ps (k + 1) = newDues p y.tm ps k) := by show newDues p y.tm ps (k + 1) = _; rw [HND, if_neg hm, List.append_nil]
        clear HND hm
        go_wp2_with (go_at_call 133; refine (has_any HRW.out k).mono ?_; rw [HM.out]; rintro e w4 ⟨rfl, rfl⟩)
        go_roundw
        case rel => exact ⟨k + 1, by omega, by go_num, ⟨_, by rw [HE.out]; exact HP.out⟩, HBL.out, HRW.out⟩
        case measure => simp [intOf]; omega
    · have hkq : k = qn := by omega
      subst hkq
      go_wp2
      go_end0
      rw [HXX.out, HST.out]
      exact ⟨rfl, _, HP.out⟩
end

end Go.Proofs.YtkelpcjiediamaaGreat
