/-
  The document's End and Out; what becomes of it where a log turns, or a producer is heard.
-/
import Derived.Test.YtkelpcjiediamaaGreatMYMove
namespace Go.Proofs.YtkelpcjiediamaaGreat
open Go.RowKit Go.Maps

section
variable {w w' : World} {B yb : Nat} {y : RS}

set_option maxRecDepth 100000 in
theorem yend_none (h : YAt w B yb y) {m : Int} (hm : ¬ (0 ≤ m ∧ m ≤ y.P - 1)) (ep : Int) (c : Bool) :
    Calls Tryz.prog 79 #[.pointer (some ⟨yb, 0, none⟩), .int .i64 m, .int .i64 ep, .bool c] w fun r w' => r = .returned (.int .i64 2) ∧ w = w' := by
  have HM : Hid (decide (0 ≤ m ∧ m ≤ y.P - 1) = false) := decide_eq_false hm
  have c0 : w.cell? ⟨yb, 0, none⟩ = some (.int .i64 y.P) := h.c 0
  have hp1 := h.hP.2.1
  have hp2 := h.hP.2.2
  clear h hm
  go_enter Tryz.func79, Tryz.ntmps79
  go_wp2_with (go_at_call 72; refine (in_any _ _ _ _).mono ?_; rw [HM.out]; rintro e w1 ⟨rfl, rfl⟩)
  go_ret
  exact ⟨rfl, rfl⟩

/-- The code with which End turns a producer away, or 0. -/
def turned (y : RS) (m ep : Int) : Int := if speaks y.dn (stand y.L m).e ep ≠ 0 then speaks y.dn (stand y.L m).e ep else if (stand y.L m).s = 0 then 8 else if 1 < (stand y.L m).s then 9 else 0

set_option maxRecDepth 100000 in
set_option maxHeartbeats 800000 in
theorem yend_away (h : YAt w B yb y) (hF : y.Fine) {m : Int} (hm : 0 ≤ m ∧ m ≤ y.P - 1) {ep : Int} (ht : turned y m ep ≠ 0) (c : Bool) :
    Calls Tryz.prog 79 #[.pointer (some ⟨yb, 0, none⟩), .int .i64 m, .int .i64 ep, .bool c] w fun r w' => r = .returned (.int .i64 (turned y m ep)) ∧ Fr (fun _ => False) w w' := by
  have H : Hid (YAt w B yb y) := h
  have HF : Hid y.Fine := hF
  have HB8 : Hid ((y.L.length + 1) * 8 ≤ 140737488355328) := by have := hF.lL; show (y.L.length + 1) * 8 ≤ 140737488355328; omega
  have HM : Hid (decide (0 ≤ m ∧ m ≤ y.P - 1) = true) := decide_eq_true hm
  have c0 : w.cell? ⟨yb, 0, none⟩ = some (.int .i64 y.P) := h.c 0
  have hp1 := h.hP.2.1
  have hp2 := h.hP.2.2
  have hlt := lt_of_block h.blk
  obtain ⟨z, hz⟩ : ∃ z, stand y.L m = z := ⟨_, rfl⟩
  have HZ : Hid (stand y.L m = z) := hz
  unfold turned at ht ⊢
  rw [hz] at ht ⊢
  obtain ⟨sp, hsp⟩ : ∃ sp, speaks y.dn z.e ep = sp := ⟨_, rfl⟩
  have HSP : Hid (speaks y.dn z.e ep = sp) := hsp
  rw [hsp] at ht ⊢
  clear h hm hF hz hsp
  by_cases h0 : sp ≠ 0
  · rw [if_pos h0]
    have h0' : (sp == 0) = false := by simpa using h0
    clear ht h0
    go_enter Tryz.func79, Tryz.ntmps79
    go_wp2_with (first
      | (go_at_call 72; refine (in_any _ _ _ _).mono ?_; rw [HM.out]; rintro e w1 ⟨rfl, rfl⟩)
      | (go_at_call 105; refine (stand_any H.out m HF.out.arg HB8.out).mono ?_; rw [HZ.out]; rintro e w1 ⟨v1, rfl, hv1, hf1⟩
         obtain ⟨va, vc, rfl, _⟩ := intRow_len hv1
         have F1 : Hid (Fr (fun _ => False) w w1) := hf1
         clear hv1 hf1)
      | (go_at_call 132; refine (yspeaks_any (by exact H.out.after (F1.out.alloc _)) _ _ _ _ _ _ ep).mono ?_; rw [HSP.out]; rintro e w2 ⟨rfl, hf2⟩
         have F2 : Hid (Fr (fun _ => False) w w2) := (F1.out.alloc _).trans hf2 (fun _ h => h.elim)
         clear hf2))
    go_ret
    exact ⟨rfl, F2.out⟩
  · have h0 : sp = 0 := by omega
    subst h0
    rw [if_neg (by omega)] at ht ⊢
    by_cases h1 : z.s = 0
    · rw [if_pos h1]
      have HS : Hid (z.s = 0) := h1
      clear ht h1 h0
      go_enter Tryz.func79, Tryz.ntmps79
      go_wp2_with (first
        | (go_at_call 72; refine (in_any _ _ _ _).mono ?_; rw [HM.out]; rintro e w1 ⟨rfl, rfl⟩)
        | (go_at_call 105; refine (stand_any H.out m HF.out.arg HB8.out).mono ?_; rw [HZ.out, HS.out]; rintro e w1 ⟨v1, rfl, hv1, hf1⟩
           obtain ⟨va, vc, rfl, _⟩ := intRow_len hv1
           have F1 : Hid (Fr (fun _ => False) w w1) := hf1
           clear hv1 hf1)
        | (go_at_call 132; refine (yspeaks_any (by exact H.out.after (F1.out.alloc _)) _ _ _ _ _ _ ep).mono ?_; rw [HSP.out]; rintro e w2 ⟨rfl, hf2⟩
           have k2 : w2.cell? ⟨w1.heap.size, 2, none⟩ = some (.int .i64 0) := Fr.box (S := fun _ => False) hf2 id 2
           have F2 : Hid (Fr (fun _ => False) w w2) := (F1.out.alloc _).trans hf2 (fun _ h => h.elim)
           clear hf2))
      go_ret
      exact ⟨rfl, F2.out⟩
    · rw [if_neg h1] at ht ⊢
      have h2 : 1 < z.s := by
        by_cases h2 : 1 < z.s
        · exact h2
        · rw [if_neg h2] at ht; exact absurd rfl ht
      rw [if_pos h2]
      have h1' : (z.s == 0) = false := by simpa using h1
      clear ht h1 h0
      go_enter Tryz.func79, Tryz.ntmps79
      go_wp2_with (first
        | (go_at_call 72; refine (in_any _ _ _ _).mono ?_; rw [HM.out]; rintro e w1 ⟨rfl, rfl⟩)
        | (go_at_call 105; refine (stand_any H.out m HF.out.arg HB8.out).mono ?_; rw [HZ.out]; rintro e w1 ⟨v1, rfl, hv1, hf1⟩
           obtain ⟨va, vc, rfl, _⟩ := intRow_len hv1
           have F1 : Hid (Fr (fun _ => False) w w1) := hf1
           clear hv1 hf1)
        | (go_at_call 132; refine (yspeaks_any (by exact H.out.after (F1.out.alloc _)) _ _ _ _ _ _ ep).mono ?_; rw [HSP.out]; rintro e w2 ⟨rfl, hf2⟩
           have k2 : w2.cell? ⟨w1.heap.size, 2, none⟩ = some (.int .i64 z.s) := Fr.box (S := fun _ => False) hf2 id 2
           have F2 : Hid (Fr (fun _ => False) w w2) := (F1.out.alloc _).trans hf2 (fun _ h => h.elim)
           clear hf2))
      go_ret
      exact ⟨rfl, F2.out⟩

/-- What a decision by End leaves. -/
inductive YEOut (y : RS) (p : Int) (c : Bool) (w : World) (B yb : Nat) : Ending → World → Prop
  | ok {y' : RS} {w' : World} (ho : DOut y p c true y') (hm : YMoved w w' B yb y y') : YEOut y p c w B yb (.returned (.int .i64 0)) w'
  | broke {y' : RS} {w' : World} (ho : DOut y p c false y') (hm : YMoved w w' B yb y y') : YEOut y p c w B yb (.returned (.int .i64 5)) w'

set_option maxRecDepth 100000 in
set_option maxHeartbeats 800000 in
theorem yend_going (h : YAt w B yb y) (hF : y.Fine) {m : Int} (hm : 0 ≤ m ∧ m ≤ y.P - 1) {ep : Int} (hsp : speaks y.dn (stand y.L m).e ep = 0) (hs : (stand y.L m).s = 1) (c : Bool) (hO : (endRec y m c).Ok) :
    Calls Tryz.prog 79 #[.pointer (some ⟨yb, 0, none⟩), .int .i64 m, .int .i64 ep, .bool c] w (YEOut y m c w B yb) := by
  have H : Hid (YAt w B yb y) := h
  have HF : Hid y.Fine := hF
  have HB8 : Hid ((y.L.length + 1) * 8 ≤ 140737488355328) := by have := hF.lL; show (y.L.length + 1) * 8 ≤ 140737488355328; omega
  have HM : Hid (decide (0 ≤ m ∧ m ≤ y.P - 1) = true) := decide_eq_true hm
  have c0 : w.cell? ⟨yb, 0, none⟩ = some (.int .i64 y.P) := h.c 0
  have hp1 := h.hP.2.1
  have hp2 := h.hP.2.2
  have hlt := lt_of_block h.blk
  have HO : Hid (endRec y m c).Ok := hO
  have HSP : Hid (speaks y.dn (stand y.L m).e ep = 0) := hsp
  have HS : Hid ((stand y.L m).s = 1) := hs
  clear h hm hF hsp hs hO
  go_enter Tryz.func79, Tryz.ntmps79
  go_wp2_with (first
    | (go_at_call 72; refine (in_any _ _ _ _).mono ?_; rw [HM.out]; rintro e w1 ⟨rfl, rfl⟩)
    | (go_at_call 105; refine (stand_any H.out m HF.out.arg HB8.out).mono ?_; rw [HS.out]; rintro e w1 ⟨v1, rfl, hv1, hf1⟩
       obtain ⟨va, vc, rfl, _⟩ := intRow_len hv1
       have F1 : Hid (Fr (fun _ => False) w w1) := hf1
       clear hv1 hf1)
    | (go_at_call 132; refine (yspeaks_any (by exact H.out.after (F1.out.alloc _)) _ _ _ _ _ _ ep).mono ?_; rw [HSP.out]; rintro e w2 ⟨rfl, hf2⟩
       have k2 : w2.cell? ⟨w1.heap.size, 2, none⟩ = some (.int .i64 1) := Fr.box (S := fun _ => False) hf2 id 2
       have F2 : Hid (Fr (fun _ => False) w w2) := (F1.out.alloc _).trans hf2 (fun _ h => h.elim)
       clear hf2)
    | (go_at_call 130; fail))
  refine (ydecide_any (by exact H.out.after F2.out) HF.out m c HO.out).mono ?_
  rintro e w3 ⟨ho, hmv⟩
  rename_i ok y'
  have R3 : Hid (DOut y m c ok y' ∧ YMoved w w3 B yb y y') := ⟨ho, hmv.behind F2.out⟩
  clear ho hmv
  cases ok
  · go_wp2_with fail
    go_ret
    exact .broke R3.out.1 R3.out.2
  · go_wp2_with fail
    go_ret
    exact .ok R3.out.1 R3.out.2

/-! Out -/
set_option maxRecDepth 100000 in
theorem yout_none (h : YAt w B yb y) {m : Int} (hm : ¬ (0 ≤ m ∧ m ≤ y.Q - 1)) (o : Bool) :
    Calls Tryz.prog 90 #[.pointer (some ⟨yb, 0, none⟩), .int .i64 m, .bool o] w fun r w' => r = .returned (.int .i64 3) ∧ w = w' := by
  have HM : Hid (decide (0 ≤ m ∧ m ≤ y.Q - 1) = false) := decide_eq_false hm
  have c1 : w.cell? ⟨yb, 1, none⟩ = some (.int .i64 y.Q) := h.c 1
  have hp1 := h.hQ.2.2.1
  have hp2 := h.hQ.2.2.2
  clear h hm
  go_enter Tryz.func90, Tryz.ntmps90
  go_wp2_with (go_at_call 72; refine (in_any _ _ _ _).mono ?_; rw [HM.out]; rintro e w1 ⟨rfl, rfl⟩)
  go_ret
  exact ⟨rfl, rfl⟩

def RS.setO (y : RS) (q : Nat) (o : Bool) : RS := { y with O := y.O.set q o }
def RS.setH (y : RS) (p : Nat) (t : Int) : RS := { y with H := y.H.set p t }
def RS.setG (y : RS) (q : Nat) (g : GL) : RS := { y with G := y.G.set q g }

/-- A cell of a row of the document's herald is written. -/
theorem YAt.rowDone (h : YAt w B yb y) {ty g j : Nat} {u : Value} (ht : tag w g = ty) (hne : ty = 3 ∨ ty = 4) :
    let w2 := w.setCell ⟨g, j, none⟩ u
    Fr (fun k => k = g) w w2 ∧ w2.heap[yb]? = some (.cells y.cells 138 (0, 0)) ∧ w2.ownsRow B 155 4 y.lv y.L.length (y.L.flatMap Rc.cs) ∧ w2.ownsRow B 204 4 y.dv y.D.length (y.D.flatMap Du.cs) ∧ (ty ≠ 3 → w2.ownsRow B 3 1 y.hv y.H.length (intCells y.H)) ∧ w2.ownsRow B 139 1 y.gv y.G.length (y.G.map fun g => ptr g.yb) ∧ (ty ≠ 4 → w2.ownsRow B 4 1 y.ov y.O.length (y.O.map Value.bool)) ∧ w2.ownsRow B 119 5 y.nv y.N.length (y.N.flatMap Ms.cs) ∧ (∀ a ∈ y.G, RefAt w2 B a.yb a.u a.L) := by
  intro w2
  have fs : Fr (fun k => k = g) w w2 := (Fr.refl (fun k => k = g) w).setCell (p := ⟨g, j, none⟩) (.inl rfl) _
  have row : ∀ {t2 : TypeId} {wd : Nat} {v : Value} {k : Nat} {xs : List Value}, w.ownsRow B t2 wd v k xs → t2 ≠ ty → w2.ownsRow B t2 wd v k xs := fun ho h5 => fs.ownsRow ho (fun q hq e => by
    have t0 := tag_row ho hq
    rw [e, ht] at t0
    exact h5 t0.symm)
  refine ⟨fs, (fs.block yb (lt_of_block h.blk) (fun e => ?_)).trans h.blk, row h.recs (by rcases hne with e | e <;> (rw [e]; decide)), row h.dues (by rcases hne with e | e <;> (rw [e]; decide)), fun e => row h.heard (fun e2 => e e2.symm), row h.logs (by rcases hne with e | e <;> (rw [e]; decide)), fun e => row h.outs (fun e2 => e e2.symm), row h.net (by rcases hne with e | e <;> (rw [e]; decide)), fun a ha => (h.refs a ha).stay fs (fun q e hf => ?_)⟩
  · have t0 := tag_cells h.blk
    rw [e, ht] at t0
    omega
  · rcases (h.refs a ha).tags hf with t1 | t1 <;> (rw [e, ht] at t1; omega)

theorem YAt.heardDone (h : YAt w B yb y) {g cap p : Nat} (hv : y.hv = .slice (some ⟨g, 0, none⟩) y.H.length cap) (hp : p < y.H.length) (t : Int) : YMoved w (w.setCell ⟨g, p, none⟩ (.int .i64 t)) B yb y (y.setH p t) := by
  have hr := h.heard
  have hob : y.hv.ownBlock = some g := by rw [hv]; rfl
  have ht := tag_row hr hob
  obtain ⟨fs, b, r1, r2, _, r4, r5, r6, r7⟩ := h.rowDone (j := p) (u := .int .i64 t) ht (.inl rfl)
  rw [hv] at hr
  have hs := ownsRow_set hr (j := p) (by omega) (.int .i64 t)
  refine ⟨⟨b, r1, r2, ?_, r4, r5 (by decide), r6, r7, h.hy, ?_, h.hQ⟩, fs.mono (fun k e => .inl (.inr (.inr (.inr (.inl (by rw [e]; exact hob)))))), fun k hk => .inl hk⟩
  · show (w.setCell ⟨g, p, none⟩ (.int .i64 t)).ownsRow B 3 1 y.hv (y.H.set p t).length (intCells (y.H.set p t))
    rw [hv, List.length_set, show intCells (y.H.set p t) = (intCells y.H).set p (.int .i64 t) from List.map_set]
    exact hs
  · show y.P = ((y.H.set p t).length : Int) ∧ _
    rw [List.length_set]
    exact h.hP

theorem YAt.outDone (h : YAt w B yb y) {g cap q : Nat} (hv : y.ov = .slice (some ⟨g, 0, none⟩) y.O.length cap) (hq : q < y.O.length) (o : Bool) : YMoved w (w.setCell ⟨g, q, none⟩ (.bool o)) B yb y (y.setO q o) := by
  have hr := h.outs
  have hob : y.ov.ownBlock = some g := by rw [hv]; rfl
  have ht := tag_row hr hob
  obtain ⟨fs, b, r1, r2, r3, r4, _, r6, r7⟩ := h.rowDone (j := q) (u := .bool o) ht (.inr rfl)
  rw [hv] at hr
  have hs := ownsRow_set hr (j := q) (by omega) (.bool o)
  refine ⟨⟨b, r1, r2, r3 (by decide), r4, ?_, r6, r7, h.hy, h.hP, ?_⟩, fs.mono (fun k e => .inl (.inr (.inr (.inr (.inr (.inr (.inl (by rw [e]; exact hob)))))))), fun k hk => .inl hk⟩
  · show (w.setCell ⟨g, q, none⟩ (.bool o)).ownsRow B 4 1 y.ov (y.O.set q o).length ((y.O.set q o).map Value.bool)
    rw [hv, List.length_set, List.map_set]
    exact hs
  · show y.Q = (y.G.length : Int) ∧ y.Q = ((y.O.set q o).length : Int) ∧ _
    rw [List.length_set]
    exact h.hQ

set_option maxRecDepth 100000 in
theorem yout_ok (h : YAt w B yb y) {q : Nat} (hq : q < y.O.length) (o : Bool) :
    Calls Tryz.prog 90 #[.pointer (some ⟨yb, 0, none⟩), .int .i64 q, .bool o] w fun r w' => r = .returned (.int .i64 0) ∧ YMoved w w' B yb y (y.setO q o) := by
  have H : Hid (YAt w B yb y) := h
  have c1 : w.cell? ⟨yb, 1, none⟩ = some (.int .i64 y.Q) := h.c 1
  have c13 : w.cell? ⟨yb, 13, none⟩ = some y.ov := h.c 13
  have hQ := h.hQ
  have HM : Hid (decide (0 ≤ (q : Int) ∧ (q : Int) ≤ y.Q - 1) = true) := decide_eq_true ⟨by omega, by omega⟩
  have hp1 := hQ.2.2.1
  have hp2 := hQ.2.2.2
  obtain ⟨ob, hob⟩ : ∃ ob, y.O[q]? = some ob := ⟨_, List.getElem?_eq_getElem hq⟩
  obtain ⟨g, cap, hv, hg, hc, k0⟩ := h.gout hob
  have HV : Hid (y.ov = .slice (some ⟨g, 0, none⟩) y.O.length cap) := hv
  have gf : ∀ o, w.frozen? ⟨g, o, none⟩ = false := by
    have hr := h.outs
    rw [hv] at hr
    exact fun o => hr.frozenAt o
  rw [hv] at c13
  have hq0 : (0 : Int) ≤ (q : Int) := by omega
  have hq1 : (q : Int) < y.O.length := by omega
  clear h hQ hv hob
  go_enter Tryz.func90, Tryz.ntmps90
  go_wp2_with (go_at_call 72; refine (in_any _ _ _ _).mono ?_; rw [HM.out]; rintro e w1 ⟨rfl, rfl⟩)
  go_ret
  exact ⟨rfl, H.out.outDone HV.out hq o⟩
end

end Go.Proofs.YtkelpcjiediamaaGreat

/-
  The document's Add.
-/
namespace Go.Proofs.YtkelpcjiediamaaGreat
open Go.RowKit Go.Maps

section
variable {w w' : World} {B yb : Nat} {y : RS}

theorem map_set_same (l : List GL) (k : Nat) (p p' : GL) (h : l[k]? = some p) (hy : p'.yb = p.yb) : (l.set k p').map (fun g => ptr g.yb) = l.map fun g => ptr g.yb := by
  rw [List.map_set, hy]
  apply List.ext_getElem?
  intro i
  by_cases e : i = k
  · subst e
    have hk := (List.getElem?_eq_some_iff.1 h).1
    rw [List.getElem?_set_self (by simpa using hk), List.getElem?_map, h]
    rfl
  · rw [List.getElem?_set_ne (fun e2 => e e2.symm)]

/-- One log of the document's has turned. -/
theorem YAt.logDone (h : YAt w B yb y) (ha : GApart y.G) {k : Nat} {p : GL} (hk : y.G[k]? = some p) {u' : Value} {L' : List Ent} (hl : RLeft w w' B p.yb p.u u' L') :
    YMoved w w' B yb y (y.setG k ⟨p.yb, u', L'⟩) ∧ GApart (y.setG k ⟨p.yb, u', L'⟩).G := by
  have hkl := (List.getElem?_eq_some_iff.1 hk).1
  have hpm := List.mem_of_getElem? hk
  have hlg := h.refs p hpm
  have fr : Fr (refFoot p.yb p.u) w w' := hl.fr.mono (fun _ e => .inl e)
  have row : ∀ {ty : TypeId} {wd : Nat} {v : Value} {j : Nat} {xs : List Value}, w.ownsRow B ty wd v j xs → ty ≠ 142 → ty ≠ 238 → w'.ownsRow B ty wd v j xs := fun ho h1 h2 => fr.ownsRow ho (fun q hq e => by
    have t0 := tag_row ho hq
    rcases hlg.tags e with t1 | t1 <;> rw [t0] at t1
    · exact h1 t1
    · exact h2 t1)
  have pick : ∀ {i : Nat} {a : GL}, (y.G.set k ⟨p.yb, u', L'⟩)[i]? = some a → (i = k ∧ a = ⟨p.yb, u', L'⟩) ∨ (i ≠ k ∧ y.G[i]? = some a) := fun {i a} hi => by
    by_cases e : i = k
    · subst e
      rw [List.getElem?_set_self hkl] at hi
      exact .inl ⟨rfl, (Option.some.inj hi).symm⟩
    · rw [List.getElem?_set_ne (fun e2 => e e2.symm)] at hi
      exact .inr ⟨e, hi⟩
  have mem : ∀ q, q ∈ (y.G.set k ⟨p.yb, u', L'⟩) → q = ⟨p.yb, u', L'⟩ ∨ ∃ j, j ≠ k ∧ y.G[j]? = some q := fun q hq => by
    obtain ⟨j, hj⟩ := List.mem_iff_getElem?.1 hq
    rcases pick hj with ⟨_, e⟩ | ⟨e, e2⟩
    · exact .inl e
    · exact .inr ⟨j, e, e2⟩
  have hfoot : ∀ x, refFoot p.yb u' x → refFoot p.yb p.u x ∨ w.heap.size ≤ x := fun x hx => by
    rcases hx with e | e
    · exact .inl (.inl e)
    · rcases hl.lies x e with a | a
      · exact .inl (.inr a)
      · exact .inr a
  have hold : ∀ q ∈ y.G, ∀ x, refFoot q.yb q.u x → x < w.heap.size := fun q hq x hx => (h.foot_lt (.inr (.inr (.inr (.inr (.inr (.inr (.inr ⟨q, hq, hx⟩)))))))).1
  refine ⟨⟨⟨(fr.block yb (lt_of_block h.blk) (h.ne_ref hpm)).trans h.blk, row h.recs (by decide) (by decide), row h.dues (by decide) (by decide), row h.heard (by decide) (by decide), ?_, row h.outs (by decide) (by decide), row h.net (by decide) (by decide), ?_, h.hy, h.hP, ?_⟩, ?_, ?_⟩, ?_⟩
  · show w'.ownsRow B 139 1 y.gv (y.G.set k _).length ((y.G.set k _).map fun g => ptr g.yb)
    rw [List.length_set, map_set_same y.G k p ⟨p.yb, u', L'⟩ hk rfl]
    exact row h.logs (by decide) (by decide)
  · intro q hq
    rcases mem q hq with rfl | ⟨j, hj, hjq⟩
    · exact hl.ref
    · exact (h.refs q (List.mem_of_getElem? hjq)).stay fr (fun x e hf => ha k j p q (fun e2 => hj e2.symm) hk hjq x e hf)
  · show y.Q = ((y.G.set k _).length : Int) ∧ _
    rw [List.length_set]
    exact h.hQ
  · exact fr.mono (fun x e => .inl (.inr (.inr (.inr (.inr (.inr (.inr (.inr ⟨p, hpm, e⟩))))))))
  · intro x hx
    rcases hx with e | e | e | e | e | e | e | ⟨q, hq, hf⟩
    · exact .inl (.inl e)
    · exact .inl (.inr (.inl e))
    · exact .inl (.inr (.inr (.inl e)))
    · exact .inl (.inr (.inr (.inr (.inl e))))
    · exact .inl (.inr (.inr (.inr (.inr (.inl e)))))
    · exact .inl (.inr (.inr (.inr (.inr (.inr (.inl e))))))
    · exact .inl (.inr (.inr (.inr (.inr (.inr (.inr (.inl e)))))))
    · rcases mem q hq with rfl | ⟨j, hj, hjq⟩
      · rcases hfoot x hf with a | a
        · exact .inl (.inr (.inr (.inr (.inr (.inr (.inr (.inr ⟨p, hpm, a⟩)))))))
        · exact .inr a
      · exact .inl (.inr (.inr (.inr (.inr (.inr (.inr (.inr ⟨q, List.mem_of_getElem? hjq, hf⟩)))))))
  · intro i j a b hij hi hj x h1 h2
    rcases pick hi with ⟨e1, rfl⟩ | ⟨e1, hi'⟩ <;> rcases pick hj with ⟨e2, rfl⟩ | ⟨e2, hj'⟩
    · omega
    · rcases hfoot x h1 with c | c
      · exact ha k j p b (fun e => e2 e.symm) hk hj' x c h2
      · have := hold b (List.mem_of_getElem? hj') x h2; omega
    · rcases hfoot x h2 with c | c
      · exact ha i k a p e1 hi' hk x h1 c
      · have := hold a (List.mem_of_getElem? hi') x h1; omega
    · exact ha i j a b hij hi' hj' x h1 h2

set_option maxRecDepth 100000 in
theorem yadd_none (h : YAt w B yb y) {m q : Int} (hm : ¬ (0 ≤ m ∧ m ≤ y.P - 1)) (ep : Int) :
    Calls Tryz.prog 76 #[.pointer (some ⟨yb, 0, none⟩), .int .i64 m, .int .i64 ep, .int .i64 q] w fun r w' => r = .returned (.int .i64 2) ∧ w = w' := by
  have HM : Hid (decide (0 ≤ m ∧ m ≤ y.P - 1) = false) := decide_eq_false hm
  have c0 : w.cell? ⟨yb, 0, none⟩ = some (.int .i64 y.P) := h.c 0
  have hp1 := h.hP.2.1
  have hp2 := h.hP.2.2
  clear h hm
  go_enter Tryz.func76, Tryz.ntmps76
  go_wp2_with (go_at_call 72; refine (in_any _ _ _ _).mono ?_; rw [HM.out]; rintro e w1 ⟨rfl, rfl⟩)
  go_ret
  exact ⟨rfl, rfl⟩

set_option maxRecDepth 100000 in
theorem yadd_nopart (h : YAt w B yb y) {m q : Int} (hm : 0 ≤ m ∧ m ≤ y.P - 1) (hq : ¬ (0 ≤ q ∧ q ≤ y.Q - 1)) (ep : Int) :
    Calls Tryz.prog 76 #[.pointer (some ⟨yb, 0, none⟩), .int .i64 m, .int .i64 ep, .int .i64 q] w fun r w' => r = .returned (.int .i64 3) ∧ w = w' := by
  have HM : Hid (decide (0 ≤ m ∧ m ≤ y.P - 1) = true) := decide_eq_true hm
  have HQ : Hid (decide (0 ≤ q ∧ q ≤ y.Q - 1) = false) := decide_eq_false hq
  have c0 : w.cell? ⟨yb, 0, none⟩ = some (.int .i64 y.P) := h.c 0
  have c1 : w.cell? ⟨yb, 1, none⟩ = some (.int .i64 y.Q) := h.c 1
  have hp1 := h.hP.2.1
  have hp2 := h.hP.2.2
  have hq1 := h.hQ.2.2.1
  have hq2 := h.hQ.2.2.2
  clear h hm hq
  go_enter Tryz.func76, Tryz.ntmps76
  go_wp2_with (go_at_call 72; refine (in_any _ _ _ _).mono ?_; (first | rw [HM.out] | rw [HQ.out]); rintro e w1 ⟨rfl, rfl⟩)
  go_ret
  exact ⟨rfl, rfl⟩

/-- The code with which Add turns a producer away, or 0. -/
def addTurned (y : RS) (m ep : Int) (out : Bool) : Int := if speaks y.dn (stand y.L m).e ep ≠ 0 then speaks y.dn (stand y.L m).e ep else if 1 < (stand y.L m).s then 9 else if out then 10 else 0

set_option maxRecDepth 100000 in
set_option maxHeartbeats 800000 in
theorem yadd_away (h : YAt w B yb y) (hF : y.Fine) {m : Int} (hm : 0 ≤ m ∧ m ≤ y.P - 1) {q : Nat} {o : Bool} (ho : y.O[q]? = some o) {ep : Int} (ht : addTurned y m ep o ≠ 0) :
    Calls Tryz.prog 76 #[.pointer (some ⟨yb, 0, none⟩), .int .i64 m, .int .i64 ep, .int .i64 q] w fun r w' => r = .returned (.int .i64 (addTurned y m ep o)) ∧ Fr (fun _ => False) w w' := by
  have H : Hid (YAt w B yb y) := h
  have HF : Hid y.Fine := hF
  have HB8 : Hid ((y.L.length + 1) * 8 ≤ 140737488355328) := by have := hF.lL; show (y.L.length + 1) * 8 ≤ 140737488355328; omega
  have hql := (List.getElem?_eq_some_iff.1 ho).1
  have hQ := h.hQ
  have HM : Hid (decide (0 ≤ m ∧ m ≤ y.P - 1) = true) := decide_eq_true hm
  have HQ : Hid (decide (0 ≤ (q : Int) ∧ (q : Int) ≤ y.Q - 1) = true) := decide_eq_true ⟨by omega, by omega⟩
  have c0 : w.cell? ⟨yb, 0, none⟩ = some (.int .i64 y.P) := h.c 0
  have c1 : w.cell? ⟨yb, 1, none⟩ = some (.int .i64 y.Q) := h.c 1
  have c13 : w.cell? ⟨yb, 13, none⟩ = some y.ov := h.c 13
  obtain ⟨g, cap, hv, hg, hc, k0⟩ := h.gout ho
  rw [hv] at c13
  have hp1 := h.hP.2.1
  have hp2 := h.hP.2.2
  have hq1 := h.hQ.2.2.1
  have hq2 := h.hQ.2.2.2
  have hlt := lt_of_block h.blk
  obtain ⟨z, hz⟩ : ∃ z, stand y.L m = z := ⟨_, rfl⟩
  have HZ : Hid (stand y.L m = z) := hz
  unfold addTurned at ht ⊢
  rw [hz] at ht ⊢
  obtain ⟨sp, hsp⟩ : ∃ sp, speaks y.dn z.e ep = sp := ⟨_, rfl⟩
  have HSP : Hid (speaks y.dn z.e ep = sp) := hsp
  rw [hsp] at ht ⊢
  have hqi0 : (0 : Int) ≤ (q : Int) := by omega
  have hqi1 : (q : Int) < y.O.length := by omega
  clear h hm hF hz hsp hQ ho hv
  by_cases h0 : sp ≠ 0
  · rw [if_pos h0]
    have h0' : (sp == 0) = false := by simpa using h0
    clear ht h0
    go_enter Tryz.func76, Tryz.ntmps76
    go_wp2_with (first
      | (go_at_call 72; refine (in_any _ _ _ _).mono ?_; (first | rw [HM.out] | rw [HQ.out]); rintro e w1 ⟨rfl, rfl⟩)
      | (go_at_call 105; refine (stand_any H.out m HF.out.arg HB8.out).mono ?_; rw [HZ.out]; rintro e w1 ⟨v1, rfl, hv1, hf1⟩
         obtain ⟨va, vc, rfl, _⟩ := intRow_len hv1
         have F1 : Hid (Fr (fun _ => False) w w1) := hf1
         clear hv1 hf1)
      | (go_at_call 132; refine (yspeaks_any (by exact H.out.after (F1.out.alloc _)) _ _ _ _ _ _ ep).mono ?_; rw [HSP.out]; rintro e w2 ⟨rfl, hf2⟩
         have F2 : Hid (Fr (fun _ => False) w w2) := (F1.out.alloc _).trans hf2 (fun _ h => h.elim)
         clear hf2))
    go_ret
    exact ⟨rfl, F2.out⟩
  · have h0 : sp = 0 := by omega
    subst h0
    rw [if_neg (by omega)] at ht ⊢
    by_cases h1 : 1 < z.s
    · rw [if_pos h1]
      clear ht h0
      go_enter Tryz.func76, Tryz.ntmps76
      go_wp2_with (first
        | (go_at_call 72; refine (in_any _ _ _ _).mono ?_; (first | rw [HM.out] | rw [HQ.out]); rintro e w1 ⟨rfl, rfl⟩)
        | (go_at_call 105; refine (stand_any H.out m HF.out.arg HB8.out).mono ?_; rw [HZ.out]; rintro e w1 ⟨v1, rfl, hv1, hf1⟩
           obtain ⟨va, vc, rfl, _⟩ := intRow_len hv1
           have F1 : Hid (Fr (fun _ => False) w w1) := hf1
           clear hv1 hf1)
        | (go_at_call 132; refine (yspeaks_any (by exact H.out.after (F1.out.alloc _)) _ _ _ _ _ _ ep).mono ?_; rw [HSP.out]; rintro e w2 ⟨rfl, hf2⟩
           have k2 : w2.cell? ⟨w1.heap.size, 2, none⟩ = some (.int .i64 z.s) := Fr.box (S := fun _ => False) hf2 id 2
           have F2 : Hid (Fr (fun _ => False) w w2) := (F1.out.alloc _).trans hf2 (fun _ h => h.elim)
           clear hf2))
      go_ret
      exact ⟨rfl, F2.out⟩
    · rw [if_neg h1] at ht ⊢
      have h2 : o = true := by
        cases o
        · exact absurd rfl ht
        · rfl
      rw [h2] at k0
      rw [if_pos h2]
      clear ht h0 h2
      go_enter Tryz.func76, Tryz.ntmps76
      go_wp2_with (first
        | (go_at_call 72; refine (in_any _ _ _ _).mono ?_; (first | rw [HM.out] | rw [HQ.out]); rintro e w1 ⟨rfl, rfl⟩)
        | (go_at_call 105; refine (stand_any H.out m HF.out.arg HB8.out).mono ?_; rw [HZ.out]; rintro e w1 ⟨v1, rfl, hv1, hf1⟩
           obtain ⟨va, vc, rfl, _⟩ := intRow_len hv1
           have F1 : Hid (Fr (fun _ => False) w w1) := hf1
           clear hv1 hf1)
        | (go_at_call 132; refine (yspeaks_any (by exact H.out.after (F1.out.alloc _)) _ _ _ _ _ _ ep).mono ?_; rw [HSP.out]; rintro e w2 ⟨rfl, hf2⟩
           have k2 : w2.cell? ⟨w1.heap.size, 2, none⟩ = some (.int .i64 z.s) := Fr.box (S := fun _ => False) hf2 id 2
           have F2 : Hid (Fr (fun _ => False) w w2) := (F1.out.alloc _).trans hf2 (fun _ h => h.elim)
           have d13 := (F2.out.cell (p := ⟨yb, 13, none⟩) hlt id).trans c13
           have d0 := (F2.out.cell (p := ⟨g, q, none⟩) hg id).trans k0
           clear hf2))
      go_ret
      exact ⟨rfl, F2.out⟩
end

end Go.Proofs.YtkelpcjiediamaaGreat
