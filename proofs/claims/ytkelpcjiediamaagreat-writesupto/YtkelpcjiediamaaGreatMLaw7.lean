/-
  The start and the end of a play.
-/
import Derived.Test.YtkelpcjiediamaaGreatLaw5
namespace Go.Proofs.YtkelpcjiediamaaGreat
open Go.RowKit Go.Maps

section
variable {w w' : World} {B wb xb yb bb N n : Nat} {h h' : HS} {y y' : RS} {o : BookS}

theorem BothTo.turned {M : Nat} (t : BothTo w w' B xb yb h y M h' y') (hw1 : ¬ h.foot xb wb) (hw2 : ¬ y.foot yb wb) (hwl : wb < w.heap.size) : Turned (duoF wb xb yb h y) (duoF wb xb yb h' y') wb w w' := by
  refine ⟨t.fr.mono (fun k hk => .inl ⟨.inr hk, fun e => ?_⟩), fun k hk => ?_, .inl rfl, fun k hk => ?_⟩
  · subst e
    rcases hk with hk | hk
    · exact hw1 hk
    · exact hw2 hk
  · rcases hk with hk | hk
    · exact .inl (.inl hk)
    · rcases t.sub k hk with a | a
      · exact .inl (.inr a)
      · exact .inr a
  · rcases hk with rfl | hk | hk
    · exact Nat.lt_of_lt_of_le hwl t.fr.size
    · exact (t.to.xa.foot_lt hk).1
    · exact (t.to.ya.foot_lt hk).1

theorem BothTo.off {M : Nat} (t : BothTo w w' B xb yb h y M h' y') (hw1 : ¬ h.foot xb wb) (hw2 : ¬ y.foot yb wb) (hwl : wb < w.heap.size) : ¬ h'.foot xb wb ∧ ¬ y'.foot yb wb := by
  refine ⟨fun e => ?_, fun e => ?_⟩
  · rcases t.sub wb (.inl e) with (a | a) | a
    · exact hw1 a
    · exact hw2 a
    · omega
  · rcases t.sub wb (.inr e) with (a | a) | a
    · exact hw1 a
    · exact hw2 a
    · omega

theorem TwoC.calls {f g : Nat} {post : Value → Value → World → Prop} (t : TwoC f g #[ptr xb] #[ptr yb] xb yb h y w post) (hw1 : ¬ h.foot xb wb) (hw2 : ¬ y.foot yb wb) : TwoCalls f g (ptr xb) (ptr yb) (duoF wb xb yb h y) wb w post := by
  refine t.mono fun e w2 ⟨r, e1, e2, e3⟩ => ⟨r, e1, e2.mono (fun k hk => .inl ⟨.inr hk, fun e => ?_⟩), e3 w2 (Fr.refl _ _)⟩
  subst e
  rcases hk with hk | hk
  · exact hw1 hk
  · exact hw2 hk

/-- What 'last' asks. -/
theorem Both.last (b : Both w B xb yb N h y) (hN : N ≤ 10000000) (hnil : y.N = []) (hw1 : ¬ h.foot xb wb) (hw2 : ¬ y.foot yb wb) (hwl : wb < w.heap.size) :
    ∀ w1, Keep (duoF wb xb yb h y) w w1 → TwoCalls 44 45 (ptr xb) (ptr yb) (duoF wb xb yb h y) wb w1 fun _ _ w3 => Down (ptr xb) (ptr yb) (duoF wb xb yb h y) wb w1 w3 := by
  intro w1 k1
  have hwl1 : wb < w1.heap.size := Nat.lt_of_lt_of_le hwl k1.size
  refine ((b.keepF k1).crash.calls hw1 hw2).mono fun e w2 ⟨r, e1, e2, e3⟩ => ⟨r, e1, e2, e3.mono fun e w3 ⟨r2, e4, _, h', y', t⟩ => ⟨r2, e4, ?_⟩⟩
  have hn' : y'.N = [] := t.net.trans hnil
  refine ⟨duoF wb xb yb h' y', t.turned hw1 hw2 hwl1, t.to.ask hN (t.to.mess_nil hn'), fun w4 k4 => ?_⟩
  obtain ⟨hw1', hw2'⟩ := t.off hw1 hw2 hwl1
  have hwl4 : wb < w4.heap.size := Nat.lt_of_lt_of_le hwl1 (Nat.le_trans t.fr.size k4.size)
  refine (((t.to.keepF k4).restart hN).calls hw1' hw2').mono fun e w5 ⟨r5, d1, d2, d3⟩ => ⟨r5, d1, d2, d3.mono fun e w6 ⟨r6, d4, ⟨a, d5⟩, h'', y'', t2⟩ => ⟨r6, d4, ⟨a, d5⟩, duoF wb xb yb h'' y'', t2.turned hw1' hw2' hwl4, t2.to.ask hN (t2.to.mess_nil (t2.net.trans hn'))⟩⟩

theorem Game.last (g : Game w B wb xb yb bb N n h y o) (hN : N ≤ 10000000) (hn : n ≤ 7000000) (hnil : y.N = []) :
    Calls Tryz.prog 14 #[ptr wb] w fun e w' => e = .returned (.bool true) ∧ Fr (fun k => B ≤ k) w w' :=
  last_any g.scn (g.ask hN hnil) hn (g.both.last hN hnil g.hw1 g.hw2 g.lt)
end

theorem zps_ties (q : Nat) : zps.ties.getD q 0 = 0 := by
  match q with
  | 0 | 1 | 2 | 3 => rfl
  | q + 4 => exact ties_of_ge zps (q + 4) (by omega)

theorem prel_new (i : Int) : PRel (stand [] i) [] 0 0 i zps :=
  ⟨rfl, rfl, rfl, fun _ => ⟨rfl, rfl, rfl, rfl⟩, fun h => absurd rfl h, fun q => by rw [zps_ties]; omega, by rw [tiedL_none 4 (fun q => by rw [zps_ties]; omega)]; rfl, fun h => by cases h⟩

/-- Two new heralds know the same. -/
theorem Begun.both {w w' : World} {wb xb yb bb : Nat} {h : HS} {y : RS} {o : BookS} (b : Begun w w' wb xb yb bb h y o) : Both w' w.heap.size xb yb 0 h y := by
  have f := b.fresh
  obtain ⟨e1, e2, e3, e4, e5, e6, e7, e8⟩ := b.free
  have q1 := f.fx.hQ.1
  have q2 := f.fy.hQ
  have q4 := f.fQ
  have p2 := f.fy.hP
  have p4 := f.fP
  have hlen : h.pl.length = y.G.length := by omega
  have hopn : Opn h.pl y.L h.P := fun q p hp i t hn => by
    have h1 := f.fl p (List.mem_of_getElem? hp)
    rw [h1.1] at hn
    cases hn
  have core : Core 0 h y [] := ⟨f.fP, f.fQ, e6.symm, e7.symm, by omega, by omega, by rw [f.fL]; exact .nil, by rw [f.fL]; exact Nat.le_refl _, by rw [e8, f.fL]; rfl, by simp, by rw [f.ft]; exact ⟨rfl, rfl⟩, by rw [e2]; omega, ⟨hlen, fun q p g hp hg => by
      have h1 := f.fl p (List.mem_of_getElem? hp)
      have h2 := f.fG g (List.mem_of_getElem? hg)
      rw [h1.1, h2]
      exact ⟨rel_empty, Nat.le_refl _⟩, fun q p hp => by
      have h1 := f.fl p (List.mem_of_getElem? hp)
      have hq : q < y.O.length := by
        have := (List.getElem?_eq_some_iff.mp hp).1
        omega
      rw [h1.2, List.getElem?_eq_getElem hq, f.fO _ (List.getElem_mem hq)]⟩, hopn, by rw [f.fe, f.fN], by rw [f.fN]; simp, by omega, by rw [e5]; omega, by rw [e4]; simp⟩
  have up : UpRel h y := ⟨f.fu, f.fd, e1.trans e3.symm, fun e => absurd (e3.symm.trans e) (by decide), fun i x hi hx hh => by
      have hz : hi = 0 := b.heard hi (List.mem_of_getElem? hh)
      have hi6 : i < 6 := by
        have := (List.getElem?_eq_some_iff.mp hh).1
        omega
      rw [f.fz, zps6_get hi6] at hx
      obtain rfl := Option.some.inj hx
      rw [hz, f.fL, e4, e5]
      exact prel_new i, fun d hd => by rw [e4] at hd; cases hd⟩
  exact ⟨f.fx, f.fy, b.apx, b.apy, fun k h1 _ => by rw [f.fv] at h1; simp [Value.ownBlock] at h1, .up core up⟩

theorem Begun.game {w w' : World} {wb xb yb bb : Nat} {h : HS} {y : RS} {o : BookS} (b : Begun w w' wb xb yb bb h y o) : Game w' w.heap.size wb xb yb bb 0 0 h y o :=
  ⟨b.both, b.scn, b.hw1, b.hw2⟩

/-- An act. -/
structure Actn where
  k : Int
  p : Int
  q : Int
  m : Int
  s : ByteArray
  c : Bool

def Actn.at_ (w : World) (sb o : Nat) (x : Actn) : Prop :=
  w.cell? ⟨sb, o, none⟩ = some (.int .i64 x.k) ∧ w.cell? ⟨sb, o + 1, none⟩ = some (.int .i64 x.p) ∧ w.cell? ⟨sb, o + 2, none⟩ = some (.int .i64 x.q) ∧
  w.cell? ⟨sb, o + 3, none⟩ = some (.int .i64 x.m) ∧ w.cell? ⟨sb, o + 4, none⟩ = some (.string x.s) ∧ w.cell? ⟨sb, o + 5, none⟩ = some (.bool x.c)

structure Actn.Ok (x : Actn) : Prop where
  p : I64 x.p
  q : I64 x.q
  m : I64 x.m
  s : x.s.size ≤ 140737488355328

/-- A script in memory. -/
def ActsAt (w : World) (ao : Option Addr) (l : List Actn) : Prop :=
  ∀ (i : Nat) x, l[i]? = some x → ∃ sb so, ao = some ⟨sb, so, none⟩ ∧ sb < w.heap.size ∧ x.at_ w sb (so + i * 6)

theorem Actn.at_keep {w w' : World} {sb o : Nat} {x : Actn} (h : x.at_ w sb o) {B : Nat} (f : Fr (fun k => B ≤ k) w w') (hB : w.heap.size ≤ B ∨ sb < B) (hs : sb < w.heap.size) : x.at_ w' sb o := by
  obtain ⟨c0, c1, c2, c3, c4, c5⟩ := h
  have k : ∀ o, w'.cell? ⟨sb, o, none⟩ = w.cell? ⟨sb, o, none⟩ := fun o => f.cell (p := ⟨sb, o, none⟩) hs (fun e => by have : B ≤ sb := e; omega)
  exact ⟨by rw [k]; exact c0, by rw [k]; exact c1, by rw [k]; exact c2, by rw [k]; exact c3, by rw [k]; exact c4, by rw [k]; exact c5⟩

/-- The play at a round. -/
structure Play (w : World) (B wb xb yb bb k : Nat) (wr : World) : Prop where
  game : ∃ h' y' o', Game wr B wb xb yb bb k (2 * k) h' y' o' ∧ y'.N = []
  far : Fr (fun j => B ≤ j) w wr

set_option maxRecDepth 100000 in
set_option maxHeartbeats 1600000 in
theorem plays_any (w : World) (P Q T K : Int) {ao : Option Addr} {cap : Nat} {l : List Actn} (hl : ActsAt w ao l) (ho : ∀ x ∈ l, x.Ok ∧ x.k ≠ 5 ∧ x.k ≠ 11) (hlen : l.length ≤ 1048576) :
    Calls Tryz.prog 10 #[conf P Q T K, .slice ao l.length cap] w fun r w' => r = .returned (.bool true) ∧ Fr (fun k => w.heap.size ≤ k) w w' := by
  by_cases h : Good P Q T K
  · obtain ⟨p, rfl⟩ := Int.eq_ofNat_of_zero_le (show 0 ≤ P by have := h.1.1; omega)
    obtain ⟨q, rfl⟩ := Int.eq_ofNat_of_zero_le (show 0 ≤ Q by have := h.2.1.1; omega)
    have HG : Hid (Good p q T K) := h
    have HL : Hid (ActsAt w ao l) := hl
    have HO : Hid (∀ x ∈ l, x.Ok ∧ x.k ≠ 5 ∧ x.k ≠ 11) := ho
    have HLEN : Hid (l.length ≤ 1048576) := hlen
    have ZW : Hid (∃ w0 : World, w0 = w.alloc (.cells #[.int .i64 p, .int .i64 q, .int .i64 T, .int .i64 K] 23)) := ⟨_, rfl⟩
    clear h hl ho
    unfold conf
    go_enter Tryz.func10, Tryz.ntmps10
    go_wp2_with (fail)
    obtain ⟨w0, ew0⟩ := ZW.out
    rw [← ew0]
    have F0 : Hid (Fr (fun _ => False) w w0) := by subst ew0; exact nofr _
    clear ZW ew0
    refine (show Calls Tryz.prog 11 #[conf p q T K] _ _ from made_good _ HG.out).mono ?_
    rintro e w1 ⟨wb, xb, yb, bb, hs, y, o, rfl, hb⟩
    have HP0 : Hid (Play w w0.heap.size wb xb yb bb 0 w1) := ⟨⟨hs, y, o, hb.game, hb.fresh.fN⟩, ((F0.out.trans hb.fr (fun _ h => h.elim)).mono (fun _ h => h.elim))⟩
    clear hb
    unfold ptr
    go_wp2_with (fail)
    go_loopw [6, 7] (fun b i w' => ∃ k : Nat, k ≤ l.length ∧ i = .int .i64 k ∧ b = .bool true ∧ Play w w0.heap.size wb xb yb bb k w') (fun _ i _ => (l.length - intOf i).toNat)
    case atStart => exact ⟨0, Nat.zero_le _, rfl, rfl, HP0.out⟩
    case round =>
      clear HP0
      obtain ⟨k, hk, rfl, rfl, hpl⟩ := hrel
      obtain ⟨⟨h', y', o', g, hnil⟩, hfar⟩ := hpl
      have G : Hid (Game wr w0.heap.size wb xb yb bb k (2 * k) h' y' o') := g
      have HNIL : Hid (y'.N = []) := hnil
      have FAR : Hid (Fr (fun j => w0.heap.size ≤ j) w wr) := hfar
      obtain ⟨c0, c1, c2⟩ := g.scn.cells
      unfold ptr at c2
      clear g hnil hfar c0 c1
      by_cases hlt : k < l.length
      · obtain ⟨x, hx⟩ : ∃ x, l[k]? = some x := ⟨_, List.getElem?_eq_getElem hlt⟩
        obtain ⟨⟨xp, xq, xm, xs⟩, x5, x11⟩ := HO.out x (List.mem_of_getElem? hx)
        obtain ⟨sb, so, rfl, hsb, hxa⟩ := HL.out k x hx
        obtain ⟨y0, y1, y2, y3, y4, y5⟩ := Actn.at_keep hxa FAR.out (.inr (Nat.lt_of_lt_of_le hsb F0.out.size)) hsb
        have HXP : Hid (I64 x.p) := xp
        have HXQ : Hid (I64 x.q) := xq
        have HXM : Hid (I64 x.m) := xm
        have HXS : Hid (x.s.size ≤ 140737488355328) := xs
        have HX5 : Hid (x.k ≠ 5) := x5
        have HX11 : Hid (x.k ≠ 11) := x11
        have HN : Hid (k ≤ 10000000) := by show k ≤ 10000000; have := HLEN.out; omega
        have Hn : Hid (2 * k ≤ 9000000) := by show 2 * k ≤ 9000000; have := HLEN.out; omega
        clear xp xq xm xs x5 x11 hx hxa
        go_wp2_with (fail)
        refine (show Calls Tryz.prog 12 #[ptr wb, actV x.k x.p x.q x.m x.s x.c] _ _ from act_any G.out HN.out Hn.out HNIL.out x.k x.p x.q x.m HXP.out HXQ.out HXM.out HXS.out x.c HX5.out HX11.out).mono ?_
        rintro e w2 ⟨rfl, ⟨⟨h2, y2', o2, g2, hnil2⟩, hfar2⟩⟩
        have G2 : Hid (Game w2 w0.heap.size wb xb yb bb (k + 1) (2 * k + 2) h2 y2' o2) := g2
        have HNIL2 : Hid (y2'.N = []) := hnil2
        have FAR2 : Hid (Fr (fun j => w0.heap.size ≤ j) w w2) := FAR.out.trans hfar2 (fun _ => .inl)
        obtain ⟨d0, d1, d2⟩ := g2.scn.cells
        unfold ptr at d2
        clear g2 hnil2 hfar2 d0 d1
        go_wp2_with (fail)
        refine (show Calls Tryz.prog 13 #[ptr bb] w2 _ from G2.out.scn.looks (by have := Hn.out; omega)).mono ?_
        rintro e w3 ⟨rfl, hf3⟩
        have P3 : Hid (Play w w0.heap.size wb xb yb bb (k + 1) w3) := ⟨⟨h2, y2', o2, (G2.out.after hf3).mono (Nat.le_refl _) (by omega), HNIL2.out⟩, FAR2.out.trans hf3 (fun _ h => h.elim)⟩
        clear hf3
        go_wp2_with (fail)
        go_roundw
        case rel => exact ⟨k + 1, by omega, by go_num, rfl, P3.out⟩
        case measure => simp [intOf]; omega
      · go_wp2_with (fail)
        refine (show Calls Tryz.prog 14 #[ptr wb] wr _ from G.out.last (by have := HLEN.out; omega) (by have := HLEN.out; omega) HNIL.out).mono ?_
        rintro e w2 ⟨rfl, hf2⟩
        have F2 : Hid (Fr (fun j => w0.heap.size ≤ j) w w2) := FAR.out.trans hf2 (fun _ => .inl)
        clear hf2
        go_wp2_with (fail)
        go_ret
        exact ⟨rfl, F2.out.mono (fun j hj => .inl (Nat.le_trans F0.out.size hj))⟩
  · have HG : Hid (¬ Good P Q T K) := h
    clear h hl ho hlen
    unfold conf
    go_enter Tryz.func10, Tryz.ntmps10
    go_wp2_with (go_at_call 11; refine (show Calls Tryz.prog 11 #[conf P Q T K] _ _ from made_bad _ HG.out).mono ?_; rintro e w1 ⟨rfl, hf1⟩; have F1 : Hid (Fr (fun _ => False) w w1) := (nofr _).trans hf1 (fun _ h => h.elim); clear hf1)
    go_ret
    exact ⟨rfl, F1.out.mono (fun _ h => h.elim)⟩

end Go.Proofs.YtkelpcjiediamaaGreat

/-
  The walk of Writes: ticks and rounds are left out, the rest is played.
-/
namespace Go.Proofs.YtkelpcjiediamaaGreat
open Go.RowKit Go.Maps
attribute [local go_sem ↓] Go.wp_at_zero Go.wp_at_succ

theorem info28 : (Tryz.prog.info? 28).map (fun i => (i.zero, i.size, i.bytes)) = some (some (.agg #[.int .i64 0, .int .i64 0, .int .i64 0, .int .i64 0, .string ⟨#[]⟩, .bool false]), 6, 56) := by kernel_rfl

def Actn.cs (x : Actn) : List Value := [.int .i64 x.k, .int .i64 x.p, .int .i64 x.q, .int .i64 x.m, .string x.s, .bool x.c]

def kept (l : List Actn) : List Actn := l.filter fun x => decide (x.k ≠ 5) && decide (x.k ≠ 11)

theorem kept_snoc (l : List Actn) (x : Actn) : kept (l ++ [x]) = kept l ++ if x.k ≠ 5 ∧ x.k ≠ 11 then [x] else [] := by
  by_cases h : x.k = 5 <;> by_cases h2 : x.k = 11 <;> simp [kept, List.filter_append, h, h2]

theorem actCells_get : ∀ (l : List Actn) (k : Nat) (e : Actn) (j : Nat), l[k]? = some e → j < 6 → (l.flatMap Actn.cs)[k * 6 + j]? = e.cs[j]?
  | [], k, e, j, h, _ => by simp at h
  | x :: r, 0, e, j, h, hj => by
    simp only [List.getElem?_cons_zero, Option.some.injEq] at h
    subst h
    simp only [List.flatMap_cons, Nat.zero_mul, Nat.zero_add]
    exact List.getElem?_append_left (by simpa [Actn.cs] using hj)
  | x :: r, k + 1, e, j, h, hj => by
    simp only [List.getElem?_cons_succ] at h
    have := actCells_get r k e j h hj
    rw [List.flatMap_cons, List.getElem?_append_right (by simp [Actn.cs]; omega)]
    rw [← this]
    congr 1
    simp [Actn.cs]
    omega

theorem actRow_at {w : World} {B : Nat} {v : Value} {l : List Actn} (h : w.ownsRow B 28 6 v l.length (l.flatMap Actn.cs)) : ∃ ao cap, v = .slice ao l.length cap ∧ ActsAt w ao l := by
  rcases h.2 with ⟨rfl, h0⟩ | ⟨g, cap, cur, rfl, _, _, _, _, _⟩
  · have hl : l = [] := by
      cases l with
      | nil => rfl
      | cons x r => simp at h0
    subst hl
    exact ⟨none, 0, rfl, fun i x hx => by simp at hx⟩
  · refine ⟨_, _, rfl, fun i x hx => ⟨g, 0, rfl, (h.lt g rfl).2, ?_⟩⟩
    have hc := h.cells (g := g) rfl
    have key : ∀ j u, j < 6 → x.cs[j]? = some u → w.cell? ⟨g, 0 + i * 6 + j, none⟩ = some u := fun j u hj hu => by
      have := hc (i * 6 + j) u ((actCells_get l i x j hx hj).trans hu)
      rw [Addr.add_lit] at this
      simpa using this
    exact ⟨key 0 _ (by omega) rfl, key 1 _ (by omega) rfl, key 2 _ (by omega) rfl, key 3 _ (by omega) rfl, key 4 _ (by omega) rfl, key 5 _ (by omega) rfl⟩

set_option maxRecDepth 100000 in
set_option maxHeartbeats 1600000 in
theorem writes_any (w : World) (P Q T K : Int) {ao : Option Addr} {cap : Nat} {l : List Actn} (hl : ActsAt w ao l) (ho : ∀ x ∈ l, x.Ok) (hlen : l.length ≤ 1048576) :
    Calls Tryz.prog 4 #[conf P Q T K, .slice ao l.length cap] w fun r w' => r = .returned (.bool true) ∧ Below w.heap.size w w' := by
  obtain ⟨i0, hi0, hz0, hz1, hz2⟩ := info_parts info28
  have HL : Hid (ActsAt w ao l) := hl
  have HO : Hid (∀ x ∈ l, x.Ok) := ho
  have HLEN : Hid (l.length ≤ 1048576) := hlen
  have ZW : Hid (∃ w0 : World, w0 = w.alloc (.cells #[.int .i64 P, .int .i64 Q, .int .i64 T, .int .i64 K] 23)) := ⟨_, rfl⟩
  clear hl ho
  unfold conf
  go_enter Tryz.func4, Tryz.ntmps4
  go_wp2_with (fail)
  obtain ⟨w0, ew0⟩ := ZW.out
  rw [← ew0]
  have F0 : Hid (Fr (fun _ => False) w w0) := by subst ew0; exact nofr _
  have BX : Hid (w0.heap[w.heap.size]? = some (.cells #[.int .i64 P, .int .i64 Q, .int .i64 T, .int .i64 K] 23 (0, 0))) := by subst ew0; exact heap_alloc_new _ _
  clear ZW ew0
  go_loopw [5, 6] (fun v i w' => ∃ k : Nat, k ≤ l.length ∧ i = .int .i64 k ∧ w'.ownsRow w0.heap.size 28 6 v (kept (l.take k)).length ((kept (l.take k)).flatMap Actn.cs) ∧ Fr (fun _ => False) w0 w') (fun _ i _ => (l.length - intOf i).toNat)
  case atStart => exact ⟨0, Nat.zero_le _, rfl, World.ownsRow_nil _ _ _ _, Fr.refl _ _⟩
  case round =>
    obtain ⟨k, hk, rfl, hown, hfr⟩ := hrel
    have HF : Hid (Fr (fun _ => False) w0 wr) := hfr
    have HR : Hid (wr.ownsRow w0.heap.size 28 6 u5 (kept (l.take k)).length ((kept (l.take k)).flatMap Actn.cs)) := hown
    have HG : Hid ((kept (l.take k)).length ≤ k) := Nat.le_trans (List.length_filter_le _ _) (by simp; omega)
    have hsz := hfr.size
    clear hfr hown
    by_cases hlt : k < l.length
    · obtain ⟨x, hx⟩ : ∃ x, l[k]? = some x := ⟨_, List.getElem?_eq_getElem hlt⟩
      have HT : Hid (kept (l.take (k + 1)) = kept (l.take k) ++ if x.k ≠ 5 ∧ x.k ≠ 11 then [x] else []) := by
        show kept (l.take (k + 1)) = _
        rw [List.take_add_one, hx, Option.toList_some, kept_snoc]
      obtain ⟨sb, so, rfl, hsb, hxa⟩ := HL.out k x hx
      have hfar : Fr (fun j => w.heap.size ≤ j) w wr := ((F0.out.trans HF.out (fun _ h => h.elim)).mono (fun _ h => h.elim))
      obtain ⟨y0, y1, y2, y3, y4, y5⟩ := Actn.at_keep hxa hfar (.inr hsb) hsb
      clear hx hxa hfar
      by_cases h5 : x.k = 5
      · go_wp2
        go_roundw
        case rel => exact ⟨k + 1, by omega, by go_num, by rw [HT.out, if_neg (by simp [h5]), List.append_nil]; exact HR.out, HF.out⟩
        case measure => simp [intOf]; omega
      · by_cases h11 : x.k = 11
        · go_wp2
          go_roundw
          case rel => exact ⟨k + 1, by omega, by go_num, by rw [HT.out, if_neg (by simp [h11]), List.append_nil]; exact HR.out, HF.out⟩
          case measure => simp [intOf]; omega
        · have b5 : (x.k != 5) = true := by simp [h5]
          have b11 : (x.k != 11) = true := by simp [h11]
          go_wp2_with (at_builtin; refine wpList_append_lies _ rfl _ _ 26 rfl w0.heap.size 28 i0 _ 6 56 Tryz.underlying26 hi0 hz0 hz1 hz2 rfl (by decide) _ (kept (l.take k)).length ((kept (l.take k)).flatMap Actn.cs) rfl (by exact HR.out.alloc _) ⟨wr.heap.size, 0, none⟩ 1 1 [.int .i64 x.k, .int .i64 x.p, .int .i64 x.q, .int .i64 x.m, .string x.s, .bool x.c] rfl rfl (World.news_of_block (cs := #[.int .i64 x.k, .int .i64 x.p, .int .i64 x.q, .int .i64 x.m, .string x.s, .bool x.c]) (t := 28) (fr := (0, 0)) (heap_alloc_new _ _)) (by simp [Value.oneCell']) (by decide) (by have := HG.out; have := HLEN.out; simp only [maxLen]; omega) (by have := HG.out; have := HLEN.out; omega) (by simp; omega) (wr.heap.size + 1) (by simp) ?_; intro gg gcap w3 hown3 hgrow3 hat3 hlt3)
          go_roundw
          case rel =>
            have hfr3 : Fr (fun q => u5.ownBlock = some q) wr w3 := ((Fr.refl _ _).alloc _).grown hgrow3 (fun q ex => .inl ex)
            refine ⟨k + 1, by omega, by go_num, ?_, HF.out.trans hfr3 (fun q hq => .inr (HR.out.lt q hq).1)⟩
            rw [HT.out, if_pos ⟨h5, h11⟩, List.flatMap_append, List.length_append]
            simpa [Actn.cs] using hown3
          case measure => simp [intOf]; omega
    · have HT : Hid (l.take k = l) := List.take_of_length_le (by omega)
      obtain ⟨a2, c2, e2, hat2⟩ := actRow_at HR.out
      subst e2
      have hbx := (HF.out.block w.heap.size (lt_of_block BX.out) id).trans BX.out
      have k0 : wr.cell? ⟨w.heap.size, 0, none⟩ = some (.int .i64 P) := cell_of_cells hbx 0
      have k1 : wr.cell? ⟨w.heap.size, 1, none⟩ = some (.int .i64 Q) := cell_of_cells hbx 1
      have k2 : wr.cell? ⟨w.heap.size, 2, none⟩ = some (.int .i64 T) := cell_of_cells hbx 2
      have k3 : wr.cell? ⟨w.heap.size, 3, none⟩ = some (.int .i64 K) := cell_of_cells hbx 3
      have HA2 : Hid (ActsAt wr a2 (kept (l.take k))) := hat2
      have HO2 : Hid (∀ x ∈ kept (l.take k), x.Ok ∧ x.k ≠ 5 ∧ x.k ≠ 11) := fun x hx => by
        have hx2 : x ∈ l.take k ∧ (x.k ≠ 5 ∧ x.k ≠ 11) := by simpa [kept] using hx
        exact ⟨HO.out x (List.mem_of_mem_take hx2.1), hx2.2⟩
      clear hat2 hbx
      go_wp2_with (fail)
      refine (show Calls Tryz.prog 10 #[conf P Q T K, .slice a2 (kept (l.take k)).length c2] wr _ from plays_any wr P Q T K HA2.out HO2.out (by have := HG.out; have := HLEN.out; omega)).mono ?_
      rintro e w4 ⟨rfl, hf4⟩
      have F4 : Hid (Fr (fun j => w.heap.size ≤ j) w w4) := ((F0.out.trans HF.out (fun _ h => h.elim)).mono (fun _ h => h.elim) : Fr (fun j => w.heap.size ≤ j) w wr).trans hf4 (fun j hj => .inl (Nat.le_trans F0.out.size (Nat.le_trans hsz hj)))
      clear hf4
      go_wp2_with (fail)
      go_ret
      exact ⟨rfl, F4.out.below (Nat.le_refl _) (fun _ h => h)⟩

end Go.Proofs.YtkelpcjiediamaaGreat
