/-
  Two new heralds answer alike, also behind a crash and a restart.
-/
import Derived.Test.YtkelpcjiediamaaGreatNewY
namespace Go.Proofs.YtkelpcjiediamaaGreat
open Go.RowKit Go.Maps

def HS.foot (h : HS) (xb k : Nat) : Prop := k = xb ∨ h.jv.ownBlock = some k ∨ h.pv.ownBlock = some k ∨ h.fv.ownBlock = some k ∨ ∃ p ∈ h.pl, logFoot p.lb p.bm p.v k
def RS.foot (y : RS) (yb k : Nat) : Prop := k = yb ∨ y.lv.ownBlock = some k ∨ y.dv.ownBlock = some k ∨ y.hv.ownBlock = some k ∨ y.gv.ownBlock = some k ∨ y.ov.ownBlock = some k ∨ y.nv.ownBlock = some k ∨ ∃ g ∈ y.G, refFoot g.yb g.u k

section
variable {w w' : World} {B xb yb n : Nat} {h : HS} {y : RS} {S : Nat → Prop}

theorem HAt.stay (hh : HAt w B xb n h) (f : Fr S w w') (hS : ∀ k, S k → h.foot xb k → False) : HAt w' B xb n h :=
  ⟨(f.block xb (lt_of_block hh.blk) (fun e => hS _ e (.inl rfl))).trans hh.blk, f.ownsRow hh.jour (fun k hk e => hS k e (.inr (.inl hk))), f.ownsRow hh.places (fun k hk e => hS k e (.inr (.inr (.inl hk)))), f.ownsRow hh.flight (fun k hk e => hS k e (.inr (.inr (.inr (.inl hk))))),
   fun p hp => (hh.logs p hp).stay f (fun k e hf => hS k e (.inr (.inr (.inr (.inr ⟨p, hp, hf⟩))))), hh.hx, hh.hP, hh.hQ, hh.h6⟩

theorem YAt.stay (hy : YAt w B yb y) (f : Fr S w w') (hS : ∀ k, S k → y.foot yb k → False) : YAt w' B yb y :=
  ⟨(f.block yb (lt_of_block hy.blk) (fun e => hS _ e (.inl rfl))).trans hy.blk, f.ownsRow hy.recs (fun k hk e => hS k e (.inr (.inl hk))), f.ownsRow hy.dues (fun k hk e => hS k e (.inr (.inr (.inl hk)))), f.ownsRow hy.heard (fun k hk e => hS k e (.inr (.inr (.inr (.inl hk))))),
   f.ownsRow hy.logs (fun k hk e => hS k e (.inr (.inr (.inr (.inr (.inl hk)))))), f.ownsRow hy.outs (fun k hk e => hS k e (.inr (.inr (.inr (.inr (.inr (.inl hk))))))), f.ownsRow hy.net (fun k hk e => hS k e (.inr (.inr (.inr (.inr (.inr (.inr (.inl hk)))))))),
   fun g hg => (hy.refs g hg).stay f (fun k e hf => hS k e (.inr (.inr (.inr (.inr (.inr (.inr (.inr ⟨g, hg, hf⟩)))))))), hy.hy, hy.hP, hy.hQ⟩

theorem HAt.foot_lt (hh : HAt w B xb n h) {k : Nat} (hk : h.foot xb k) : k < w.heap.size ∧ B ≤ k := by
  rcases hk with rfl | hk | hk | hk | ⟨p, hp, hk⟩
  · exact ⟨lt_of_block hh.blk, hh.hx⟩
  · exact ⟨(hh.jour.lt k hk).2, (hh.jour.lt k hk).1⟩
  · exact ⟨(hh.places.lt k hk).2, (hh.places.lt k hk).1⟩
  · exact ⟨(hh.flight.lt k hk).2, (hh.flight.lt k hk).1⟩
  · have hl := hh.logs p hp
    rcases hk with rfl | rfl | hk
    · exact ⟨hl.lt, hl.hl⟩
    · exact ⟨hl.map.lt, hl.hm⟩
    · exact ⟨(hl.row.lt k hk).2, (hl.row.lt k hk).1⟩

theorem YAt.foot_lt (hy : YAt w B yb y) {k : Nat} (hk : y.foot yb k) : k < w.heap.size ∧ B ≤ k := by
  rcases hk with rfl | hk | hk | hk | hk | hk | hk | ⟨g, hg, hk⟩
  · exact ⟨lt_of_block hy.blk, hy.hy⟩
  · exact ⟨(hy.recs.lt k hk).2, (hy.recs.lt k hk).1⟩
  · exact ⟨(hy.dues.lt k hk).2, (hy.dues.lt k hk).1⟩
  · exact ⟨(hy.heard.lt k hk).2, (hy.heard.lt k hk).1⟩
  · exact ⟨(hy.logs.lt k hk).2, (hy.logs.lt k hk).1⟩
  · exact ⟨(hy.outs.lt k hk).2, (hy.outs.lt k hk).1⟩
  · exact ⟨(hy.net.lt k hk).2, (hy.net.lt k hk).1⟩
  · have hl := hy.refs g hg
    rcases hk with rfl | hk
    · exact ⟨hl.lt, hl.hy⟩
    · exact ⟨(hl.row.lt k hk).2, (hl.row.lt k hk).1⟩

theorem HAt.ttags (hh : HAt w B xb n h) {k : Nat} (hk : h.foot xb k) : tag w k = 111 ∨ tag w k = 5 ∨ tag w k = 98 ∨ (tag w k = 119 ∧ h.fv.ownBlock = some k) ∨ tag w k = 163 ∨ tag w k = 1000000 ∨ tag w k = 55 := by
  rcases hk with rfl | hk | hk | hk | ⟨p, hp, hk⟩
  · exact .inl (tag_cells hh.blk)
  · exact .inr (.inl (tag_row hh.jour hk))
  · exact .inr (.inr (.inl (tag_row hh.places hk)))
  · exact .inr (.inr (.inr (.inl ⟨tag_row hh.flight hk, hk⟩)))
  · exact .inr (.inr (.inr (.inr ((hh.logs p hp).tags hk))))

theorem YAt.ttags (hy : YAt w B yb y) {k : Nat} (hk : y.foot yb k) : tag w k = 138 ∨ tag w k = 155 ∨ tag w k = 204 ∨ tag w k = 3 ∨ tag w k = 139 ∨ tag w k = 4 ∨ (tag w k = 119 ∧ y.nv.ownBlock = some k) ∨ tag w k = 142 ∨ tag w k = 238 := by
  rcases hk with rfl | hk | hk | hk | hk | hk | hk | ⟨g, hg, hk⟩
  · exact .inl (tag_cells hy.blk)
  · exact .inr (.inl (tag_row hy.recs hk))
  · exact .inr (.inr (.inl (tag_row hy.dues hk)))
  · exact .inr (.inr (.inr (.inl (tag_row hy.heard hk))))
  · exact .inr (.inr (.inr (.inr (.inl (tag_row hy.logs hk)))))
  · exact .inr (.inr (.inr (.inr (.inr (.inl (tag_row hy.outs hk))))))
  · exact .inr (.inr (.inr (.inr (.inr (.inr (.inl ⟨tag_row hy.net hk, hk⟩))))))
  · exact .inr (.inr (.inr (.inr (.inr (.inr (.inr ((hy.refs g hg).tags hk)))))))

/-- The two lie apart, if their messages do. -/
theorem duo_apart (hh : HAt w B xb n h) (hy : YAt w B yb y) (hn : ∀ k, h.fv.ownBlock = some k → y.nv.ownBlock = some k → False) {k : Nat} (h1 : h.foot xb k) (h2 : y.foot yb k) : False := by
  rcases hh.ttags h1 with e | e | e | ⟨e, f1⟩ | e | e | e <;> rcases hy.ttags h2 with e2 | e2 | e2 | e2 | e2 | e2 | ⟨e2, f2⟩ | e2 | e2 <;> first | exact hn k f1 f2 | (rw [e] at e2; cases e2)

/-- Two heralds on which nothing was done. -/
structure Fresh (w : World) (B xb yb : Nat) (h : HS) (y : RS) (up : Bool) : Prop where
  fx : HAt w B xb 0 h
  fy : YAt w B yb y
  fP : y.P = h.P
  fQ : y.Q = h.Q
  fu : h.up = up
  fd : y.dn = !up
  fj : h.jv = .slice none 0 0
  fz : h.ps = zps6
  fl : ∀ p ∈ h.pl, p.s = emptyLog ∧ p.out = false
  fL : y.L = []
  ft : y.torn = ⟨#[]⟩
  fN : y.N = []
  fG : ∀ g ∈ y.G, g.L = []
  fO : ∀ o ∈ y.O, o = false
  fv : h.fv = .slice none 0 0
  fe : h.fl = []

variable {up : Bool} {wb : Nat}

def duoF (wb xb yb : Nat) (h : HS) (y : RS) (k : Nat) : Prop := k = wb ∨ h.foot xb k ∨ y.foot yb k

theorem Fresh.keep (f : Fresh w B xb yb h y up) (k : Keep (duoF wb xb yb h y) w w') : Fresh w' B xb yb h y up :=
  ⟨f.fx.stay k (fun _ e hf => e (.inr (.inl hf))), f.fy.stay k (fun _ e hf => e (.inr (.inr hf))), f.fP, f.fQ, f.fu, f.fd, f.fj, f.fz, f.fl, f.fL, f.ft, f.fN, f.fG, f.fO, f.fv, f.fe⟩

theorem Fresh.ap (f : Fresh w B xb yb h y up) (k : Nat) (h1 : h.fv.ownBlock = some k) (_ : y.nv.ownBlock = some k) : False := by rw [f.fv] at h1; simp [Value.ownBlock] at h1

theorem zps6_get {k : Nat} (hk : k < 6) : zps6[k]? = some zps := by
  match k, hk with
  | 0, _ | 1, _ | 2, _ | 3, _ | 4, _ | 5, _ => rfl

theorem rel_empty : Rel emptyLog [] := rel_new

theorem newInts_nil (w1 w' : World) : NewInts w1 w' (.slice none 0 0) [] := World.ownsRow_nil _ _ _ _

theorem Fresh.prod (f : Fresh w B xb yb h y up) (m : Int) : ∃ er, ∀ w1, Keep (duoF wb xb yb h y) w w1 → AskP (ptr xb) (ptr yb) m w1 0 0 0 er [] [] := by
  by_cases hm : 0 ≤ m ∧ m < h.P
  · have hm2 : 0 ≤ m ∧ m ≤ y.P - 1 := by rw [f.fP]; omega
    cases up with
    | false =>
      refine ⟨5, fun w1 k => ⟨?_, ?_⟩⟩
      · exact (producer_down (f.keep k).fx hm f.fu).mono fun _ w2 ⟨h1, h2⟩ => ⟨_, _, h1, newInts_nil _ _, newInts_nil _ _, fun k hk => by simp [Value.ownBlock] at hk, h2⟩
      · exact (yproducer_down (f.keep k).fy hm2 f.fd).mono fun _ w2 ⟨h1, h2⟩ => ⟨_, _, h1, newInts_nil _ _, newInts_nil _ _, h2⟩
    | true =>
      refine ⟨0, fun w1 k => ⟨?_, ?_⟩⟩
      · obtain ⟨q, rfl⟩ := Int.eq_ofNat_of_zero_le hm.1
        exact (producer_up (f.keep k).fx hm.2 f.fu (by rw [f.fz]; exact zps6_get (by have := f.fx.hP.2; omega))).mono fun _ w2 h1 => h1
      · exact (yproducer_nil (f.keep k).fy hm2 f.fd f.fL).mono fun _ w2 ⟨h1, h2⟩ => ⟨_, _, h1, newInts_nil _ _, newInts_nil _ _, h2⟩
  · have hm2 : ¬ (0 ≤ m ∧ m ≤ y.P - 1) := by rw [f.fP]; omega
    refine ⟨2, fun w1 k => ⟨?_, ?_⟩⟩
    · exact (producer_none (f.keep k).fx hm).mono fun _ w2 ⟨h1, h2⟩ => ⟨_, _, h1, newInts_nil _ _, newInts_nil _ _, fun k hk => by simp [Value.ownBlock] at hk, h2⟩
    · exact (yproducer_none (f.keep k).fy hm2).mono fun _ w2 ⟨h1, h2⟩ => ⟨_, _, h1, newInts_nil _ _, newInts_nil _ _, h2⟩

/-- Which part is meant. -/
theorem Fresh.at_ (f : Fresh w B xb yb h y up) {m : Int} (hm : 0 ≤ m ∧ m < h.pl.length) : ∃ (k : Nat) (p : PL) (g : GL), m = k ∧ h.pl[k]? = some p ∧ y.G[k]? = some g ∧ y.O[k]? = some false ∧ p.s = emptyLog ∧ p.out = false ∧ g.L = [] := by
  obtain ⟨k, rfl⟩ := Int.eq_ofNat_of_zero_le hm.1
  have hk : k < h.pl.length := by omega
  have e1 := f.fx.hQ.1
  have e2 := f.fy.hQ.1
  have e3 := f.fy.hQ.2.1
  have e4 := f.fQ
  have hg : k < y.G.length := by omega
  have ho : k < y.O.length := by omega
  refine ⟨k, h.pl[k], y.G[k], rfl, List.getElem?_eq_getElem hk, List.getElem?_eq_getElem hg, ?_, (f.fl _ (List.getElem_mem hk)).1, (f.fl _ (List.getElem_mem hk)).2, f.fG _ (List.getElem_mem hg)⟩
  rw [List.getElem?_eq_getElem ho, f.fO _ (List.getElem_mem ho)]

theorem Fresh.notin (f : Fresh w B xb yb h y up) {m : Int} (hm : ¬ (0 ≤ m ∧ m < h.pl.length)) : ¬ (0 ≤ m ∧ m ≤ y.Q - 1) := by
  have e1 := f.fx.hQ.1
  have e4 := f.fQ
  omega

theorem Fresh.part (f : Fresh w B xb yb h y up) (m : Int) : ∃ er Pr, (∀ S : List Int, Pr S → S.length ≤ 100000000) ∧ ∀ w1, Keep (duoF wb xb yb h y) w w1 → AskQ (ptr xb) (ptr yb) m w1 false 0 0 er Pr := by
  by_cases hm : 0 ≤ m ∧ m < h.pl.length
  · obtain ⟨k, p, g, rfl, h1, h2, h3, h4, h5, h6⟩ := f.at_ hm
    refine ⟨0, IsOpened 0 emptyLog, fun S hS => by have := hS.2.1; omega, fun w1 kk => ⟨?_, fun S hS => ?_⟩⟩
    · have := part_ok (f.keep kk).fx h1 (by rw [h4]; exact inv_new) (by rw [h4]; simp [emptyLog]) (by omega)
      rw [h4, h5] at this
      exact this
    · exact ypart_ok (f.keep kk).fy h2 h3 (s := emptyLog) (by rw [h6]; exact rel_empty) hS (by rw [h6]; simp) (by omega)
  · refine ⟨3, fun S => S = [], fun S hS => by rw [hS]; simp, fun w1 kk => ⟨?_, fun S hS => ?_⟩⟩
    · exact (part_none (f.keep kk).fx hm).mono fun _ w2 ⟨h1, h2⟩ => ⟨_, [], h1, rfl, newInts_nil _ _, h2⟩
    · rw [hS]
      exact (ypart_none (f.keep kk).fy (f.notin hm)).mono fun _ w2 ⟨h1, h2⟩ => ⟨_, h1, newInts_nil _ _, h2⟩

theorem Fresh.fetch (f : Fresh w B xb yb h y up) (m f1 f2 : Int) : ∃ er rs, rs.length ≤ 100000000 ∧ ∀ w1, Keep (duoF wb xb yb h y) w w1 → AskF (ptr xb) (ptr yb) m f1 f2 w1 er rs := by
  by_cases hm : 0 ≤ m ∧ m < h.pl.length
  · obtain ⟨k, p, g, rfl, h1, h2, h3, h4, h5, h6⟩ := f.at_ hm
    refine ⟨0, emptyLog.fetch f1 f2, ?_, fun w1 kk => ⟨?_, ?_⟩⟩
    · have h1 : (emptyLog.fetch f1 f2).length ≤ 0 := by
        have : emptyLog.stable = 0 := rfl
        simp [LogS.fetch, LogS.got, this]
      omega
    · have := fetch_ok (f.keep kk).fx h1 f1 f2 (by rw [h4]; exact inv_new) (by rw [h4]; simp [emptyLog])
      rw [h4] at this
      exact this
    · exact yfetch_ok (f.keep kk).fy h2 (s := emptyLog) (by rw [h6]; exact rel_empty) f1 f2 (by rw [h6]; simp)
  · refine ⟨3, [], by simp, fun w1 kk => ⟨?_, ?_⟩⟩
    · exact (fetch_none (f.keep kk).fx f1 f2 hm).mono fun _ w2 ⟨h1, h2⟩ => ⟨_, h1, World.ownsRow_nil _ _ _ _, h2⟩
    · exact (yfetch_none (f.keep kk).fy f1 f2 (f.notin hm)).mono fun _ w2 ⟨h1, h2⟩ => ⟨_, h1, World.ownsRow_nil _ _ _ _, h2⟩

theorem Fresh.ents (f : Fresh w B xb yb h y up) (m : Int) : ∃ er es, es.length ≤ 100000000 ∧ ∀ w1, Keep (duoF wb xb yb h y) w w1 → AskE (ptr xb) (ptr yb) m w1 er es := by
  by_cases hm : 0 ≤ m ∧ m < h.pl.length
  · obtain ⟨k, p, g, rfl, h1, h2, h3, h4, h5, h6⟩ := f.at_ hm
    refine ⟨0, emptyLog.es, by simp [emptyLog], fun w1 kk => ⟨?_, ?_⟩⟩
    · have := ents_ok (f.keep kk).fx h1 (by rw [h4]; simp [emptyLog])
      rw [h4] at this
      exact this
    · exact yents_ok (f.keep kk).fy h2 (s := emptyLog) (by rw [h6]; exact rel_empty) (by rw [h6]; simp)
  · refine ⟨3, [], by simp, fun w1 kk => ⟨?_, ?_⟩⟩
    · exact (ents_none (f.keep kk).fx hm).mono fun _ w2 ⟨h1, h2⟩ => ⟨_, h1, World.ownsRow_nil _ _ _ _, h2⟩
    · exact (yents_none (f.keep kk).fy (f.notin hm)).mono fun _ w2 ⟨h1, h2⟩ => ⟨_, h1, World.ownsRow_nil _ _ _ _, h2⟩

theorem Fresh.ask (f : Fresh w B xb yb h y up) : Ask w (duoF wb xb yb h y) (ptr xb) (ptr yb) where
  prod m _ := by obtain ⟨er, h1⟩ := f.prod (wb := wb) m; exact ⟨0, 0, 0, er, [], [], by simp, by simp, h1⟩
  part m _ := by obtain ⟨er, Pr, h1, h2⟩ := f.part (wb := wb) m; exact ⟨false, 0, 0, er, Pr, h1, h2⟩
  fetch m f1 f2 _ := f.fetch m f1 f2
  ents m _ := f.ents m
  jour := ⟨⟨#[]⟩, fun w1 k => ⟨journal_nil (f.keep k).fx f.fj, yjournal_nil (f.keep k).fy f.fL f.ft⟩⟩
  num := ⟨0, by omega, fun w1 k => ⟨by have := flight_any (f.keep k).fx; rw [f.fe] at this; exact this, by have := yflight_any (f.keep k).fy; rw [f.fN] at this; exact this⟩⟩
  mess m _ := ⟨0, 0, 0, 0, 8, false, fun w1 k => ⟨message_none (f.keep k).fx (by rw [f.fe]; simp), ymessage_nil (f.keep k).fy f.fN m⟩⟩
end

end Go.Proofs.YtkelpcjiediamaaGreat
