/-
  Two new heralds answer alike, also behind a crash and a restart.
-/
import Derived.Test.YtkelpcjiediamaaGreatNewY
import Derived.Test.YtkelpcjiediamaaGreatMYInit
namespace Go.Proofs.YtkelpcjiediamaaGreat
open Go.RowKit Go.Maps

def HS.foot (h : HS) (xb k : Nat) : Prop := k = xb ∨ h.jv.ownBlock = some k ∨ h.pv.ownBlock = some k ∨ h.fv.ownBlock = some k ∨ ∃ p ∈ h.pl, logFoot p.lb p.bm p.v k
def RS.foot (y : RS) (yb k : Nat) : Prop := k = yb ∨ y.lv.ownBlock = some k ∨ y.dv.ownBlock = some k ∨ y.hv.ownBlock = some k ∨ y.gv.ownBlock = some k ∨ y.ov.ownBlock = some k ∨ y.nv.ownBlock = some k ∨ ∃ g ∈ y.G, refFoot g.yb g.u k

section
variable {w w' : World} {B xb yb n : Nat} {h : HS} {y : RS} {S : Nat → Prop}

theorem HAt.stay (hh : HAt w B xb n h) (f : Fr S w w') (hS : ∀ k, S k → h.foot xb k → False) : HAt w' B xb n h :=
  ⟨(f.block xb (lt_of_block hh.blk) (fun e => hS _ e (.inl rfl))).trans hh.blk, f.ownsRow hh.jour (fun k hk e => hS k e (.inr (.inl hk))), f.ownsRow hh.places (fun k hk e => hS k e (.inr (.inr (.inl hk)))), f.ownsRow hh.flight (fun k hk e => hS k e (.inr (.inr (.inr (.inl hk))))),
   fun p hp => (hh.logs p hp).stay f (fun k e hf => hS k e (.inr (.inr (.inr (.inr ⟨p, hp, hf⟩))))), hh.hx, hh.hP, hh.hQ, hh.h6⟩

theorem YAt.stay (hy : YAt w B yb y) (f : Fr S w w') (hS : ∀ k, S k → y.foot yb k → False) : YAt w' B yb y :=
  ⟨(f.block yb (lt_of_block hy.blk) (fun e => hS _ e (.inl rfl))).trans hy.blk, f.ownsRow hy.recs (fun k hk e => hS k e (.inr (.inl hk))), f.ownsRow hy.dues (fun k hk e => hS k e (.inr (.inr (.inl hk)))), f.ownsRow hy.heard (fun k hk e => hS k e (.inr (.inr (.inr (.inl hk))))),
   f.ownsRow hy.logs (fun k hk e => hS k e (.inr (.inr (.inr (.inr (.inl hk)))))), f.ownsRow hy.outs (fun k hk e => hS k e (.inr (.inr (.inr (.inr (.inr (.inl hk))))))), f.ownsRow hy.net (fun k hk e => hS k e (.inr (.inr (.inr (.inr (.inr (.inr (.inl hk)))))))),
   fun g hg => (hy.refs g hg).stay f (fun k e hf => hS k e (.inr (.inr (.inr (.inr (.inr (.inr (.inr ⟨g, hg, hf⟩)))))))), hy.hy, hy.hP, hy.hQ⟩

theorem HAt.foot_lt (hh : HAt w B xb n h) {k : Nat} (hk : h.foot xb k) : k < w.heap.size ∧ B ≤ k := by
  rcases hk with rfl | hk | hk | hk | ⟨p, hp, hk⟩
  · exact ⟨lt_of_block hh.blk, hh.hx⟩
  · exact ⟨(hh.jour.lt k hk).2, (hh.jour.lt k hk).1⟩
  · exact ⟨(hh.places.lt k hk).2, (hh.places.lt k hk).1⟩
  · exact ⟨(hh.flight.lt k hk).2, (hh.flight.lt k hk).1⟩
  · have hl := hh.logs p hp
    rcases hk with rfl | rfl | hk
    · exact ⟨hl.lt, hl.hl⟩
    · exact ⟨hl.map.lt, hl.hm⟩
    · exact ⟨(hl.row.lt k hk).2, (hl.row.lt k hk).1⟩

theorem YAt.foot_lt (hy : YAt w B yb y) {k : Nat} (hk : y.foot yb k) : k < w.heap.size ∧ B ≤ k := by
  rcases hk with rfl | hk | hk | hk | hk | hk | hk | ⟨g, hg, hk⟩
  · exact ⟨lt_of_block hy.blk, hy.hy⟩
  · exact ⟨(hy.recs.lt k hk).2, (hy.recs.lt k hk).1⟩
  · exact ⟨(hy.dues.lt k hk).2, (hy.dues.lt k hk).1⟩
  · exact ⟨(hy.heard.lt k hk).2, (hy.heard.lt k hk).1⟩
  · exact ⟨(hy.logs.lt k hk).2, (hy.logs.lt k hk).1⟩
  · exact ⟨(hy.outs.lt k hk).2, (hy.outs.lt k hk).1⟩
  · exact ⟨(hy.net.lt k hk).2, (hy.net.lt k hk).1⟩
  · have hl := hy.refs g hg
    rcases hk with rfl | hk
    · exact ⟨hl.lt, hl.hy⟩
    · exact ⟨(hl.row.lt k hk).2, (hl.row.lt k hk).1⟩

theorem HAt.ttags (hh : HAt w B xb n h) {k : Nat} (hk : h.foot xb k) : tag w k = 111 ∨ tag w k = 5 ∨ tag w k = 98 ∨ (tag w k = 119 ∧ h.fv.ownBlock = some k) ∨ tag w k = 163 ∨ tag w k = 1000000 ∨ tag w k = 55 := by
  rcases hk with rfl | hk | hk | hk | ⟨p, hp, hk⟩
  · exact .inl (tag_cells hh.blk)
  · exact .inr (.inl (tag_row hh.jour hk))
  · exact .inr (.inr (.inl (tag_row hh.places hk)))
  · exact .inr (.inr (.inr (.inl ⟨tag_row hh.flight hk, hk⟩)))
  · exact .inr (.inr (.inr (.inr ((hh.logs p hp).tags hk))))

theorem YAt.ttags (hy : YAt w B yb y) {k : Nat} (hk : y.foot yb k) : tag w k = 138 ∨ tag w k = 155 ∨ tag w k = 204 ∨ tag w k = 3 ∨ tag w k = 139 ∨ tag w k = 4 ∨ (tag w k = 119 ∧ y.nv.ownBlock = some k) ∨ tag w k = 142 ∨ tag w k = 238 := by
  rcases hk with rfl | hk | hk | hk | hk | hk | hk | ⟨g, hg, hk⟩
  · exact .inl (tag_cells hy.blk)
  · exact .inr (.inl (tag_row hy.recs hk))
  · exact .inr (.inr (.inl (tag_row hy.dues hk)))
  · exact .inr (.inr (.inr (.inl (tag_row hy.heard hk))))
  · exact .inr (.inr (.inr (.inr (.inl (tag_row hy.logs hk)))))
  · exact .inr (.inr (.inr (.inr (.inr (.inl (tag_row hy.outs hk))))))
  · exact .inr (.inr (.inr (.inr (.inr (.inr (.inl ⟨tag_row hy.net hk, hk⟩))))))
  · exact .inr (.inr (.inr (.inr (.inr (.inr (.inr ((hy.refs g hg).tags hk)))))))

/-- The two lie apart, if their messages do. -/
theorem duo_apart (hh : HAt w B xb n h) (hy : YAt w B yb y) (hn : ∀ k, h.fv.ownBlock = some k → y.nv.ownBlock = some k → False) {k : Nat} (h1 : h.foot xb k) (h2 : y.foot yb k) : False := by
  rcases hh.ttags h1 with e | e | e | ⟨e, f1⟩ | e | e | e <;> rcases hy.ttags h2 with e2 | e2 | e2 | e2 | e2 | e2 | ⟨e2, f2⟩ | e2 | e2 <;> first | exact hn k f1 f2 | (rw [e] at e2; cases e2)

/-- Two heralds on which nothing was done. -/
structure Fresh (w : World) (B xb yb : Nat) (h : HS) (y : RS) (up : Bool) : Prop where
  fx : HAt w B xb 0 h
  fy : YAt w B yb y
  fP : y.P = h.P
  fQ : y.Q = h.Q
  fu : h.up = up
  fd : y.dn = !up
  fj : h.jv = .slice none 0 0
  fz : h.ps = zps6
  fl : ∀ p ∈ h.pl, p.s = emptyLog ∧ p.out = false
  fL : y.L = []
  ft : y.torn = ⟨#[]⟩
  fN : y.N = []
  fG : ∀ g ∈ y.G, g.L = []
  fO : ∀ o ∈ y.O, o = false
  fv : h.fv = .slice none 0 0
  fe : h.fl = []

variable {up : Bool} {wb : Nat}

def duoF (wb xb yb : Nat) (h : HS) (y : RS) (k : Nat) : Prop := k = wb ∨ h.foot xb k ∨ y.foot yb k

theorem Fresh.keep (f : Fresh w B xb yb h y up) (k : Keep (duoF wb xb yb h y) w w') : Fresh w' B xb yb h y up :=
  ⟨f.fx.stay k (fun _ e hf => e (.inr (.inl hf))), f.fy.stay k (fun _ e hf => e (.inr (.inr hf))), f.fP, f.fQ, f.fu, f.fd, f.fj, f.fz, f.fl, f.fL, f.ft, f.fN, f.fG, f.fO, f.fv, f.fe⟩

theorem Fresh.ap (f : Fresh w B xb yb h y up) (k : Nat) (h1 : h.fv.ownBlock = some k) (_ : y.nv.ownBlock = some k) : False := by rw [f.fv] at h1; simp [Value.ownBlock] at h1

theorem zps6_get {k : Nat} (hk : k < 6) : zps6[k]? = some zps := by
  match k, hk with
  | 0, _ | 1, _ | 2, _ | 3, _ | 4, _ | 5, _ => rfl

theorem rel_empty : Rel emptyLog [] := rel_new

theorem newInts_nil (w1 w' : World) : NewInts w1 w' (.slice none 0 0) [] := World.ownsRow_nil _ _ _ _

theorem Fresh.prod (f : Fresh w B xb yb h y up) (m : Int) : ∃ er, ∀ w1, Keep (duoF wb xb yb h y) w w1 → AskP (ptr xb) (ptr yb) m w1 0 0 0 er [] [] := by
  by_cases hm : 0 ≤ m ∧ m < h.P
  · have hm2 : 0 ≤ m ∧ m ≤ y.P - 1 := by rw [f.fP]; omega
    cases up with
    | false =>
      refine ⟨5, fun w1 k => ⟨?_, ?_⟩⟩
      · exact (producer_down (f.keep k).fx hm f.fu).mono fun _ w2 ⟨h1, h2⟩ => ⟨_, _, h1, newInts_nil _ _, newInts_nil _ _, fun k hk => by simp [Value.ownBlock] at hk, h2⟩
      · exact (yproducer_down (f.keep k).fy hm2 f.fd).mono fun _ w2 ⟨h1, h2⟩ => ⟨_, _, h1, newInts_nil _ _, newInts_nil _ _, h2⟩
    | true =>
      refine ⟨0, fun w1 k => ⟨?_, ?_⟩⟩
      · obtain ⟨q, rfl⟩ := Int.eq_ofNat_of_zero_le hm.1
        exact (producer_up (f.keep k).fx hm.2 f.fu (by rw [f.fz]; exact zps6_get (by have := f.fx.hP.2; omega))).mono fun _ w2 h1 => h1
      · exact (yproducer_nil (f.keep k).fy hm2 f.fd f.fL).mono fun _ w2 ⟨h1, h2⟩ => ⟨_, _, h1, newInts_nil _ _, newInts_nil _ _, h2⟩
  · have hm2 : ¬ (0 ≤ m ∧ m ≤ y.P - 1) := by rw [f.fP]; omega
    refine ⟨2, fun w1 k => ⟨?_, ?_⟩⟩
    · exact (producer_none (f.keep k).fx hm).mono fun _ w2 ⟨h1, h2⟩ => ⟨_, _, h1, newInts_nil _ _, newInts_nil _ _, fun k hk => by simp [Value.ownBlock] at hk, h2⟩
    · exact (yproducer_none (f.keep k).fy hm2).mono fun _ w2 ⟨h1, h2⟩ => ⟨_, _, h1, newInts_nil _ _, newInts_nil _ _, h2⟩

/-- Which part is meant. -/
theorem Fresh.at_ (f : Fresh w B xb yb h y up) {m : Int} (hm : 0 ≤ m ∧ m < h.pl.length) : ∃ (k : Nat) (p : PL) (g : GL), m = k ∧ h.pl[k]? = some p ∧ y.G[k]? = some g ∧ y.O[k]? = some false ∧ p.s = emptyLog ∧ p.out = false ∧ g.L = [] := by
  obtain ⟨k, rfl⟩ := Int.eq_ofNat_of_zero_le hm.1
  have hk : k < h.pl.length := by omega
  have e1 := f.fx.hQ.1
  have e2 := f.fy.hQ.1
  have e3 := f.fy.hQ.2.1
  have e4 := f.fQ
  have hg : k < y.G.length := by omega
  have ho : k < y.O.length := by omega
  refine ⟨k, h.pl[k], y.G[k], rfl, List.getElem?_eq_getElem hk, List.getElem?_eq_getElem hg, ?_, (f.fl _ (List.getElem_mem hk)).1, (f.fl _ (List.getElem_mem hk)).2, f.fG _ (List.getElem_mem hg)⟩
  rw [List.getElem?_eq_getElem ho, f.fO _ (List.getElem_mem ho)]

theorem Fresh.notin (f : Fresh w B xb yb h y up) {m : Int} (hm : ¬ (0 ≤ m ∧ m < h.pl.length)) : ¬ (0 ≤ m ∧ m ≤ y.Q - 1) := by
  have e1 := f.fx.hQ.1
  have e4 := f.fQ
  omega

theorem Fresh.part (f : Fresh w B xb yb h y up) (m : Int) : ∃ er Pr, (∀ S : List Int, Pr S → S.length ≤ 100000000) ∧ ∀ w1, Keep (duoF wb xb yb h y) w w1 → AskQ (ptr xb) (ptr yb) m w1 false 0 0 er Pr := by
  by_cases hm : 0 ≤ m ∧ m < h.pl.length
  · obtain ⟨k, p, g, rfl, h1, h2, h3, h4, h5, h6⟩ := f.at_ hm
    refine ⟨0, IsOpened 0 emptyLog, fun S hS => by have := hS.2.1; omega, fun w1 kk => ⟨?_, fun S hS => ?_⟩⟩
    · have := part_ok (f.keep kk).fx h1 (by rw [h4]; exact inv_new) (by rw [h4]; simp [emptyLog]) (by omega)
      rw [h4, h5] at this
      exact this
    · exact ypart_ok (f.keep kk).fy h2 h3 (s := emptyLog) (by rw [h6]; exact rel_empty) hS (by rw [h6]; simp) (by omega)
  · refine ⟨3, fun S => S = [], fun S hS => by rw [hS]; simp, fun w1 kk => ⟨?_, fun S hS => ?_⟩⟩
    · exact (part_none (f.keep kk).fx hm).mono fun _ w2 ⟨h1, h2⟩ => ⟨_, [], h1, rfl, newInts_nil _ _, h2⟩
    · rw [hS]
      exact (ypart_none (f.keep kk).fy (f.notin hm)).mono fun _ w2 ⟨h1, h2⟩ => ⟨_, h1, newInts_nil _ _, h2⟩

theorem Fresh.fetch (f : Fresh w B xb yb h y up) (m f1 f2 : Int) : ∃ er rs, rs.length ≤ 100000000 ∧ ∀ w1, Keep (duoF wb xb yb h y) w w1 → AskF (ptr xb) (ptr yb) m f1 f2 w1 er rs := by
  by_cases hm : 0 ≤ m ∧ m < h.pl.length
  · obtain ⟨k, p, g, rfl, h1, h2, h3, h4, h5, h6⟩ := f.at_ hm
    refine ⟨0, emptyLog.fetch f1 f2, ?_, fun w1 kk => ⟨?_, ?_⟩⟩
    · have h1 : (emptyLog.fetch f1 f2).length ≤ 0 := by
        have : emptyLog.stable = 0 := rfl
        simp [LogS.fetch, LogS.got, this]
      omega
    · have := fetch_ok (f.keep kk).fx h1 f1 f2 (by rw [h4]; exact inv_new) (by rw [h4]; simp [emptyLog])
      rw [h4] at this
      exact this
    · exact yfetch_ok (f.keep kk).fy h2 (s := emptyLog) (by rw [h6]; exact rel_empty) f1 f2 (by rw [h6]; simp)
  · refine ⟨3, [], by simp, fun w1 kk => ⟨?_, ?_⟩⟩
    · exact (fetch_none (f.keep kk).fx f1 f2 hm).mono fun _ w2 ⟨h1, h2⟩ => ⟨_, h1, World.ownsRow_nil _ _ _ _, h2⟩
    · exact (yfetch_none (f.keep kk).fy f1 f2 (f.notin hm)).mono fun _ w2 ⟨h1, h2⟩ => ⟨_, h1, World.ownsRow_nil _ _ _ _, h2⟩

theorem Fresh.ents (f : Fresh w B xb yb h y up) (m : Int) : ∃ er es, es.length ≤ 100000000 ∧ ∀ w1, Keep (duoF wb xb yb h y) w w1 → AskE (ptr xb) (ptr yb) m w1 er es := by
  by_cases hm : 0 ≤ m ∧ m < h.pl.length
  · obtain ⟨k, p, g, rfl, h1, h2, h3, h4, h5, h6⟩ := f.at_ hm
    refine ⟨0, emptyLog.es, by simp [emptyLog], fun w1 kk => ⟨?_, ?_⟩⟩
    · have := ents_ok (f.keep kk).fx h1 (by rw [h4]; simp [emptyLog])
      rw [h4] at this
      exact this
    · exact yents_ok (f.keep kk).fy h2 (s := emptyLog) (by rw [h6]; exact rel_empty) (by rw [h6]; simp)
  · refine ⟨3, [], by simp, fun w1 kk => ⟨?_, ?_⟩⟩
    · exact (ents_none (f.keep kk).fx hm).mono fun _ w2 ⟨h1, h2⟩ => ⟨_, h1, World.ownsRow_nil _ _ _ _, h2⟩
    · exact (yents_none (f.keep kk).fy (f.notin hm)).mono fun _ w2 ⟨h1, h2⟩ => ⟨_, h1, World.ownsRow_nil _ _ _ _, h2⟩

theorem Fresh.ask (f : Fresh w B xb yb h y up) : Ask w (duoF wb xb yb h y) (ptr xb) (ptr yb) where
  prod m _ := by obtain ⟨er, h1⟩ := f.prod (wb := wb) m; exact ⟨0, 0, 0, er, [], [], by simp, by simp, h1⟩
  part m _ := by obtain ⟨er, Pr, h1, h2⟩ := f.part (wb := wb) m; exact ⟨false, 0, 0, er, Pr, h1, h2⟩
  fetch m f1 f2 _ := f.fetch m f1 f2
  ents m _ := f.ents m
  jour := ⟨⟨#[]⟩, fun w1 k => ⟨journal_nil (f.keep k).fx f.fj, yjournal_nil (f.keep k).fy f.fL f.ft⟩⟩
  num := ⟨0, by omega, fun w1 k => ⟨by have := flight_any (f.keep k).fx; rw [f.fe] at this; exact this, by have := yflight_any (f.keep k).fy; rw [f.fN] at this; exact this⟩⟩
  mess m _ := ⟨0, 0, 0, 0, 8, false, fun w1 k => ⟨message_none (f.keep k).fx (by rw [f.fe]; simp), ymessage_nil (f.keep k).fy f.fN m⟩⟩
end

end Go.Proofs.YtkelpcjiediamaaGreat

/-
  What the calls of the document's herald leave of its memory; its decide as one; Init, End.
-/
namespace Go.Proofs.YtkelpcjiediamaaGreat
open Go.RowKit Go.Maps

/-- The document's herald that knows y has become one that knows y'. -/
structure YMoved (w w' : World) (B yb : Nat) (y y' : RS) : Prop where
  at_ : YAt w' B yb y'
  fr : Fr (y.foot yb) w w'
  sub : ∀ k, y'.foot yb k → y.foot yb k ∨ w.heap.size ≤ k

section
variable {w w1 w2 w' : World} {B yb : Nat} {y y1 y2 : RS}

theorem YMoved.refl (h : YAt w B yb y) : YMoved w w B yb y y := ⟨h, Fr.refl _ _, fun _ => .inl⟩

theorem YMoved.trans (a : YMoved w w1 B yb y y1) (b : YMoved w1 w2 B yb y1 y2) : YMoved w w2 B yb y y2 :=
  ⟨b.at_, a.fr.trans b.fr (fun k hk => a.sub k hk), fun k hk => by
    rcases b.sub k hk with e | e
    · exact a.sub k e
    · exact .inr (Nat.le_trans a.fr.size e)⟩

theorem YMoved.after (a : YMoved w w1 B yb y y1) (f : Fr (fun _ => False) w1 w2) : YMoved w w2 B yb y y1 :=
  ⟨a.at_.after f, a.fr.trans f (fun _ h => h.elim), a.sub⟩

theorem YMoved.behind (f : Fr (fun _ => False) w w1) (a : YMoved w1 w2 B yb y y1) : YMoved w w2 B yb y y1 :=
  ⟨a.at_, (f.mono (fun _ h => h.elim)).trans a.fr (fun _ => .inl), fun k hk => by
    rcases a.sub k hk with e | e
    · exact .inl e
    · exact .inr (Nat.le_trans f.size e)⟩

theorem YMoved.of (h : YAt w' B yb y1) (f : Fr (fun k => k = yb ∨ y.lv.ownBlock = some k) w w') (hl : ∀ k, y1.lv.ownBlock = some k → y.lv.ownBlock = some k ∨ w.heap.size ≤ k) (hd : ∀ k, y1.dv.ownBlock = some k → y.dv.ownBlock = some k ∨ w.heap.size ≤ k)
    (hh : y1.hv = y.hv) (hg : y1.gv = y.gv) (ho : y1.ov = y.ov) (hn : y1.nv = y.nv) (hG : y1.G = y.G) : YMoved w w' B yb y y1 := by
  refine ⟨h, f.mono (fun k e => .inl ?_), fun k hk => ?_⟩
  · rcases e with e | e
    · exact .inl e
    · exact .inr (.inl e)
  · rcases hk with e | e | e | e | e | e | e | e
    · exact .inl (.inl e)
    · rcases hl k e with a | a
      · exact .inl (.inr (.inl a))
      · exact .inr a
    · rcases hd k e with a | a
      · exact .inl (.inr (.inr (.inl a)))
      · exact .inr a
    · rw [hh] at e; exact .inl (.inr (.inr (.inr (.inl e))))
    · rw [hg] at e; exact .inl (.inr (.inr (.inr (.inr (.inl e)))))
    · rw [ho] at e; exact .inl (.inr (.inr (.inr (.inr (.inr (.inl e))))))
    · rw [hn] at e; exact .inl (.inr (.inr (.inr (.inr (.inr (.inr (.inl e)))))))
    · rw [hG] at e; exact .inl (.inr (.inr (.inr (.inr (.inr (.inr (.inr e)))))))

theorem YOut.rest {r : Rc} {ok : Bool} {y' : RS} (h : YOut y r ok y') : y'.dv = y.dv ∧ y'.hv = y.hv ∧ y'.gv = y.gv ∧ y'.ov = y.ov ∧ y'.nv = y.nv ∧ y'.G = y.G := by
  cases h <;> exact ⟨rfl, rfl, rfl, rfl, rfl, rfl⟩

theorem ywrite_moved (h : YAt w B yb y) (r : Rc) (hr : r.Ok) (hb : (y.L.length + 1) * 32 ≤ 140737488355328) :
    Calls Tryz.prog 131 #[.pointer (some ⟨yb, 0, none⟩), .agg #[.int .i64 r.k, .int .i64 r.p, .int .i64 r.a, .int .i64 r.m]] w fun e w' => ∃ ok y', e = .returned (.bool ok) ∧ YOut y r ok y' ∧ YMoved w w' B yb y y' :=
  (ywrite_any h r hr hb).mono fun _ _ ⟨ok, y', h1, h2, h3, h4, h5⟩ => ⟨ok, y', h1, h2, by
    obtain ⟨a, b, c, d, e, f⟩ := h2.rest
    exact YMoved.of h3 h4 h5 (fun k hk => .inl (by rw [← a]; exact hk)) b c d e f⟩

/-- The dues behind a decision. -/
def RS.pended (y : RS) (p : Int) (c : Bool) : List Du := y.D.filter (Du.stays p (-1)) ++ newDues p y.tm (stand (y.L ++ [endRec y p c]) p).ps y.Q.toNat

/-- What a decision comes to. -/
inductive DOut (y : RS) (p : Int) (c : Bool) : Bool → RS → Prop
  | ok (lv dv : Value) (h : y.br = false) : DOut y p c true ((y.wrote (endRec y p c) lv).dues dv (y.pended p c))
  | broke {y' : RS} (h : YOut y (endRec y p c) false y') : DOut y p c false y'

/-- .. and what it leaves. -/
inductive DPost (y : RS) (p : Int) (c : Bool) (w : World) (B yb : Nat) : Ending → World → Prop
  | mk {ok : Bool} {y' : RS} {w' : World} (ho : DOut y p c ok y') (hm : YMoved w w' B yb y y') : DPost y p c w B yb (.returned (.bool ok)) w'

theorem ydecide_any (h : YAt w B yb y) (hF : y.Fine) (p : Int) (c : Bool) (hO : (endRec y p c).Ok) : Calls Tryz.prog 130 #[.pointer (some ⟨yb, 0, none⟩), .int .i64 p, .bool c] w (DPost y p c w B yb) := by
  cases hbr : y.br
  · refine (ydecide_ok h hF hbr p c).mono fun _ w2 ⟨h1, lv, dv, h2, h3, h4, h5⟩ => ?_
    rw [h1]
    exact .mk (.ok lv dv hbr) (YMoved.of h2 h3 h4 (fun k hk => .inr (h5 k hk)) rfl rfl rfl rfl rfl)
  · refine (ydecide_broken h hF hbr p c hO).mono fun _ w2 ⟨h1, y', h2, h3, h4, h5⟩ => ?_
    rw [h1]
    obtain ⟨a, b, c', d, e, f⟩ := h2.rest
    exact .mk (.broke h2) (YMoved.of h3 h4 h5 (fun k hk => .inl (by rw [← a]; exact hk)) b c' d e f)

/-! Init -/
inductive YIBusy (y : RS) (p : Int) (w : World) (B yb : Nat) : Ending → World → Prop
  | mk {ok : Bool} {y' : RS} {w' : World} (ho : DOut y p false ok y') (hm : YMoved w w' B yb y y') : YIBusy y p w B yb (.returned (.tuple #[.int .i64 0, .int .i64 9])) w'

set_option maxRecDepth 100000 in
set_option maxHeartbeats 800000 in
theorem yinit_busy (h : YAt w B yb y) (hF : y.Fine) {m : Int} (hm : 0 ≤ m ∧ m ≤ y.P - 1) (hd : y.dn = false) (h1 : (stand y.L m).s = 1) (hO : (endRec y m false).Ok) :
    Calls Tryz.prog 75 #[.pointer (some ⟨yb, 0, none⟩), .int .i64 m] w (YIBusy y m w B yb) := by
  have H : Hid (YAt w B yb y) := h
  have HF : Hid y.Fine := hF
  have HO : Hid (endRec y m false).Ok := hO
  have HB8 : Hid ((y.L.length + 1) * 8 ≤ 140737488355328) := by have := hF.lL; show (y.L.length + 1) * 8 ≤ 140737488355328; omega
  have HM : Hid (decide (0 ≤ m ∧ m ≤ y.P - 1) = true) := decide_eq_true hm
  have HS1 : Hid ((stand y.L m).s = 1) := h1
  have c0 : w.cell? ⟨yb, 0, none⟩ = some (.int .i64 y.P) := h.c 0
  have c4 : w.cell? ⟨yb, 4, none⟩ = some (.bool y.dn) := h.c 4
  rw [hd] at c4
  have hp1 := h.hP.2.1
  have hp2 := h.hP.2.2
  have hlt := lt_of_block h.blk
  clear h hm hF h1 hO
  go_enter Tryz.func75, Tryz.ntmps75
  go_wp2_with (first
    | (go_at_call 72; refine (in_any _ _ _ _).mono ?_; rw [HM.out]; rintro e w1 ⟨rfl, rfl⟩)
    | (go_at_call 105; refine (stand_any H.out m HF.out.arg HB8.out).mono ?_; rw [HS1.out]; rintro e w1 ⟨v1, rfl, hv1, hf1⟩
       obtain ⟨va, vc, rfl, _⟩ := intRow_len hv1
       have F1 : Hid (Fr (fun _ => False) w w1) := hf1
       have hz1 : w.heap.size ≤ w1.heap.size := hf1.size
       clear hv1 hf1)
    | (go_at_call 130; refine (ydecide_any (by exact H.out.after (F1.out.alloc _)) HF.out m false HO.out).mono ?_; rintro e w2 ⟨ho, hmv⟩
       rename_i ok y'
       have R2 : Hid (DOut y m false ok y' ∧ YMoved w w2 B yb y y') := ⟨ho, hmv.behind (F1.out.alloc _)⟩
       have b2 : w2.heap[w1.heap.size]? = some (.cells #[.int .i64 (stand y.L m).e, .int .i64 (stand y.L m).t, .int .i64 1, .slice va (stand y.L m).ps.length vc] 157 (0, 0)) := (hmv.fr.block _ (by simp) (fun hf => by have := (H.out.foot_lt hf).1; omega)).trans (heap_alloc_new _ _)
       have k2 : w2.cell? ⟨w1.heap.size, 2, none⟩ = some (.int .i64 1) := by rw [cell_of_cells b2]; rfl
       clear ho hmv b2))
  go_ret2
  exact .mk R2.out.1 R2.out.2

inductive YIIdle (y : RS) (r : Rc) (w : World) (B yb : Nat) : Ending → World → Prop
  | ok {y' : RS} {w' : World} (ho : YOut y r true y') (hm : YMoved w w' B yb y y') : YIIdle y r w B yb (.returned (.tuple #[.int .i64 r.m, .int .i64 0])) w'
  | broke {y' : RS} {w' : World} (ho : YOut y r false y') (hm : YMoved w w' B yb y y') : YIIdle y r w B yb (.returned (.tuple #[.int .i64 0, .int .i64 5])) w'

set_option maxRecDepth 100000 in
set_option maxHeartbeats 800000 in
theorem yinit_idle (h : YAt w B yb y) (hF : y.Fine) {m : Int} (hm : 0 ≤ m ∧ m ≤ y.P - 1) (hd : y.dn = false) (h1 : (stand y.L m).s = 0) (hO : (⟨1, m, 0, (stand y.L m).e + 1⟩ : Rc).Ok) :
    Calls Tryz.prog 75 #[.pointer (some ⟨yb, 0, none⟩), .int .i64 m] w (YIIdle y ⟨1, m, 0, (stand y.L m).e + 1⟩ w B yb) := by
  have H : Hid (YAt w B yb y) := h
  have HF : Hid y.Fine := hF
  obtain ⟨z, hz⟩ : ∃ z, stand y.L m = z := ⟨_, rfl⟩
  rw [hz] at h1 hO ⊢
  have HZ : Hid (stand y.L m = z) := hz
  have HO : Hid (⟨1, m, 0, z.e + 1⟩ : Rc).Ok := hO
  have hO' := hO
  obtain ⟨_, _, _, _, _, _, m0, m1⟩ := hO'
  simp only at m0 m1
  have HB32 : Hid ((y.L.length + 1) * 32 ≤ 140737488355328) := by have := hF.lL; show (y.L.length + 1) * 32 ≤ 140737488355328; omega
  have HB8 : Hid ((y.L.length + 1) * 8 ≤ 140737488355328) := by have := hF.lL; show (y.L.length + 1) * 8 ≤ 140737488355328; omega
  have HW : Hid (∀ W, YAt W B yb y → Calls Tryz.prog 131 #[.pointer (some ⟨yb, 0, none⟩), .agg #[.int .i64 1, .int .i64 m, .int .i64 0, .int .i64 (z.e + 1)]] W fun e w' => ∃ ok y', e = .returned (.bool ok) ∧ YOut y ⟨1, m, 0, z.e + 1⟩ ok y' ∧ YMoved W w' B yb y y') := fun W hW => ywrite_moved hW ⟨1, m, 0, z.e + 1⟩ HO.out HB32.out
  have HM : Hid (decide (0 ≤ m ∧ m ≤ y.P - 1) = true) := decide_eq_true hm
  have HS1 : Hid (z.s = 0) := h1
  have c0 : w.cell? ⟨yb, 0, none⟩ = some (.int .i64 y.P) := h.c 0
  have c4 : w.cell? ⟨yb, 4, none⟩ = some (.bool y.dn) := h.c 4
  rw [hd] at c4
  have hp1 := h.hP.2.1
  have hp2 := h.hP.2.2
  have hlt := lt_of_block h.blk
  clear h hm hF h1 hO hz
  go_enter Tryz.func75, Tryz.ntmps75
  go_wp2_with (first
    | (go_at_call 72; refine (in_any _ _ _ _).mono ?_; rw [HM.out]; rintro e w1 ⟨rfl, rfl⟩)
    | (go_at_call 105; refine (stand_any H.out m HF.out.arg HB8.out).mono ?_; rw [HZ.out, HS1.out]; rintro e w1 ⟨v1, rfl, hv1, hf1⟩
       obtain ⟨va, vc, rfl, _⟩ := intRow_len hv1
       have F1 : Hid (Fr (fun _ => False) w w1) := hf1
       have hz1 : w.heap.size ≤ w1.heap.size := hf1.size
       clear hv1 hf1)
    | (go_at_call 131; fail))
  refine (HW.out _ (by exact H.out.after (F1.out.alloc _))).mono ?_
  rintro e w2 ⟨ok, y', rfl, ho, hmv⟩
  have b2 : w2.heap[w1.heap.size]? = some (.cells #[.int .i64 z.e, .int .i64 z.t, .int .i64 0, .slice va z.ps.length vc] 157 (0, 0)) := (hmv.fr.block _ (by simp) (fun hf => by have := (H.out.foot_lt hf).1; omega)).trans (heap_alloc_new _ _)
  have k0 : w2.cell? ⟨w1.heap.size, 0, none⟩ = some (.int .i64 z.e) := by rw [cell_of_cells b2]; rfl
  have R2 : Hid (YOut y ⟨1, m, 0, z.e + 1⟩ ok y' ∧ YMoved w w2 B yb y y') := ⟨ho, hmv.behind (F1.out.alloc _)⟩
  clear ho hmv b2
  cases ok
  · go_wp2_with fail
    go_ret2
    exact .broke R2.out.1 R2.out.2
  · go_wp2_with fail
    go_ret2
    exact .ok R2.out.1 R2.out.2
end

end Go.Proofs.YtkelpcjiediamaaGreat
