/-
  Add, Produce, Out, Break, Crash, Restart on both heralds.
-/
import Derived.Test.YtkelpcjiediamaaGreatActs
namespace Go.Proofs.YtkelpcjiediamaaGreat
open Go.RowKit Go.Maps

section
variable {w w' w2 w3 : World} {B xb yb wb N : Nat} {h h' : HS} {y y' : RS}

/-- A part on both sides. -/
theorem Both.part (b : Both w B xb yb N h y) {tl : List UInt8} (c : Core N h y tl) {q : Nat} (hq : (q : Int) < h.pl.length) : ∃ p g, h.pl[q]? = some p ∧ y.G[q]? = some g ∧ y.O[q]? = some p.out ∧ Rel p.s g.L ∧ g.L.length ≤ N ∧ 0 ≤ (q : Int) ∧ (q : Int) ≤ y.Q - 1 ∧ (q : Int) < h.Q := by
  have h1 : q < h.pl.length := by omega
  have h2 : q < y.G.length := by rw [← c.logs.len]; exact h1
  have hQ := b.xa.hQ.1
  have := c.logs.rel q _ _ (List.getElem?_eq_getElem h1) (List.getElem?_eq_getElem h2)
  exact ⟨_, _, List.getElem?_eq_getElem h1, List.getElem?_eq_getElem h2, c.logs.out q _ (List.getElem?_eq_getElem h1), this.1, this.2, by omega, by rw [c.Q]; omega, by omega⟩

theorem es_len {s : LogS} {L : List Ent} (hr : Rel s L) : s.es.length ≤ L.length := by rw [hr.es]; unfold rEnts; exact List.length_filter_le _ _

theorem lacks_none {p q : Int} (hp : ¬ (0 ≤ p ∧ p < h.P)) : h.lacks p q = 2 := by unfold HS.lacks; rw [if_neg hp]
theorem lacks_part {p q : Int} (hp : 0 ≤ p ∧ p < h.P) (hq : ¬ (0 ≤ q ∧ q < h.pl.length)) : h.lacks p q = 3 := by unfold HS.lacks; rw [if_pos hp, if_neg hq]

/-! Add -/
theorem Both.add (b : Both w B xb yb N h y) (hN : N ≤ 10000000) (m ep q : Int) : TwoC 63 76 #[ptr xb, .int .i64 m, .int .i64 ep, .int .i64 q] #[ptr yb, .int .i64 m, .int .i64 ep, .int .i64 q] xb yb h y w (SameE B xb yb h y (N + 1) w) := by
  obtain ⟨tl, c0⟩ := b.know.core
  by_cases hm : 0 ≤ m ∧ m < h.P
  · obtain ⟨i, rfl⟩ := Int.eq_ofNat_of_zero_le hm.1
    have hmy : 0 ≤ (i : Int) ∧ (i : Int) ≤ y.P - 1 := by rw [c0.P]; omega
    have hmyP : (i : Int) < y.P := by omega
    have hfi := c0.fine (by omega)
    by_cases hq : 0 ≤ q ∧ q < h.pl.length
    · obtain ⟨qn, rfl⟩ := Int.eq_ofNat_of_zero_le hq.1
      obtain ⟨p, g, hp, hg, hout, hrl, hll, hq0, hq1, hqQ⟩ := b.part c0 hq.2
      have hql : qn < h.pl.length := by omega
      rcases b.know with ⟨c, u⟩ | ⟨tl, c, d⟩
      · obtain ⟨x, hi, hx, hh, hr⟩ := b.prod c u hm.2
        have hf := c.valid.fine i
        have hs0 := hf.s0
        have hs3 := hf.s1
        have hxs := hr.s
        have hbs := bars_speaks u hr.e ep
        by_cases hbar : h.bars x ep = 0
        · have hsp : speaks y.dn (stand y.L i).e ep = 0 := by rw [← hbs]; exact hbar
          by_cases h2 : 1 < (stand y.L i).s
          · have ht : addTurned y i ep p.out = 9 := by unfold addTurned; rw [if_neg (by omega), if_pos h2]
            refine b.twoE (add_busy b.xa hm.2 hql hx hbar (by omega)) (fun w2 hy => ?_)
            have := yadd_away hy hfi hmy hout (ep := ep) (by rw [ht]; decide)
            rw [ht] at this
            exact this
          · cases hpo : p.out with
            | true =>
              have ht : addTurned y i ep true = 10 := by unfold addTurned; rw [if_neg (by omega), if_neg h2]; rfl
              rw [hpo] at hout
              refine b.twoE (add_out b.xa hm.2 hp hpo hx hbar (by omega)) (fun w2 hy => ?_)
              have := yadd_away hy hfi hmy hout (ep := ep) (by rw [ht]; decide)
              rw [ht] at this
              exact this
            | false =>
              rw [hpo] at hout
              have hgl : (g.L.length + 1) * 40 ≤ 140737488355328 := by omega
              have hmx : N < maxLen := by unfold maxLen; omega
              have hq4 : qn < 4 := by have := c.Q1.2; omega
              by_cases ht : x.ties.getD qn 0 = 0
              · -- a record is written
                have hnx : x.next = if (stand y.L i).s = 0 then (stand y.L i).t + 1 else (stand y.L i).t := by unfold PS.next; rw [hr.s, hr.t]
                have hnotin : (stand y.L i).s = 1 → (qn : Int) ∉ (stand y.L i).ps := fun e hin => by
                  have := (hr.some (by omega) qn hq4).2 hin
                  omega
                have hn : Next h.P h.Q y.L ⟨2, i, qn, x.next⟩ := by
                  refine ⟨by simp only; omega, hm.2, .inr (.inl ⟨rfl, ⟨hq0, hqQ⟩, ?_⟩)⟩
                  simp only
                  rw [hnx]
                  rcases (show (stand y.L i).s = 0 ∨ (stand y.L i).s = 1 by omega) with e | e
                  · exact .inl ⟨e, by rw [if_pos e]⟩
                  · exact .inr ⟨e, by rw [if_neg (by omega)], hnotin e⟩
                refine (add_new b.xa b.ax hm.2 hp hpo hx hbar (by omega) ht hmx (c.may (by omega) hn)).mono fun e2 w2 hq => ?_
                have hyc : ∀ w2, YAt w2 B yb y → Calls Tryz.prog 76 #[ptr yb, .int .i64 i, .int .i64 ep, .int .i64 qn] w2 (YAddNew w2 B yb y i qn g x.next) := fun w2 hy => by
                  rcases (show (stand y.L i).s = 0 ∨ (stand y.L i).s = 1 by omega) with e | e
                  · rw [hnx, if_pos e] at hn ⊢
                    exact yadd_first hy hfi b.ay hmyP hg hout hsp e (c.ok (by omega) hn) hgl
                  · rw [hnx, if_neg (by omega)] at hn ⊢
                    exact yadd_more hy hfi b.ay hmyP hg hout hsp e (hnotin e) (c.ok (by omega) hn) hgl
                cases hq with
                | @ok h1 v' _ ho hmv hax =>
                  refine ⟨_, rfl, hmv.fr.mono (fun k e => .inl (.inl e)), fun W fW => ?_⟩
                  replace hmv := hmv.after fW
                  refine (hyc W (b.ystill hmv)).mono fun e3 w3 hq2 => ?_
                  cases hq2 with
                  | @ok y1 u' _ hyo hym hay =>
                    exact ⟨_, rfl, ⟨_, rfl, rfl⟩, _, _, b.join hmv hym hax hay ho.same.2 hyo.rest.2.2.2.2.1 hyo.net (by omega) (know_new c u b.xa.h6 hm.2 hx hp hg hn (by omega) ho hyo)⟩
                  | @broke y' _ hyo hym => have := ho.agree hyo u.br; cases this
                | @broke h' _ ho hmv =>
                  refine ⟨_, rfl, hmv.fr.mono (fun k e => .inl (.inl e)), fun W fW => ?_⟩
                  replace hmv := hmv.after fW
                  refine (hyc W (b.ystill hmv)).mono fun e3 w3 hq2 => ?_
                  cases hq2 with
                  | @ok y1 u' _ hyo hym hay => have := ho.agree hyo u.br; cases this
                  | @broke y' _ hyo hym =>
                    exact ⟨_, rfl, ⟨_, rfl, rfl⟩, _, _, b.joinW c u hn (fun e => by simp at e) ho hmv hyo hym (fun e => by cases e)⟩
              · -- the transaction has the part
                have hfew := (hr.few qn).1
                have hs1 : (stand y.L i).s = 1 := by
                  rcases (show (stand y.L i).s = 0 ∨ (stand y.L i).s = 1 by omega) with e | e
                  · have hz := hr.none (by omega)
                    rw [getD4 x qn hq4] at ht
                    simp only [hz] at ht
                    exact absurd (by split <;> (try split) <;> (try split) <;> rfl) ht
                  · exact e
                have hin := (hr.some (by omega) qn hq4).1 (by omega)
                refine (add_again b.xa b.ax hm.2 hp hpo hx hbar (by omega) ht hmx).mono fun e2 w2 hq => ?_
                cases hq with
                | @mk v' _ hmv hax =>
                  refine ⟨_, rfl, hmv.fr.mono (fun k e => .inl (.inl e)), fun W fW => ?_⟩
                  replace hmv := hmv.after fW
                  refine (yadd_again (b.ystill hmv) hfi b.ay hmyP hg hout hsp hs1 hin hgl).mono fun e3 w3 hq2 => ?_
                  cases hq2 with
                  | @mk u' _ hym hay =>
                    exact ⟨_, rfl, ⟨_, rfl, rfl⟩, _, _, b.join hmv hym hax hay rfl rfl rfl (by omega) (know_again c u hm.2 hx hp hg hs1 hin (by omega) hr.t)⟩
        · have ht : addTurned y i ep p.out = h.bars x ep := by unfold addTurned; rw [← hbs, if_pos hbar]
          refine b.twoE (same_fr (add_barred b.xa hm.2 hql hx hbar)) (fun w2 hy => ?_)
          have := yadd_away hy hfi hmy hout (ep := ep) (by rw [ht]; exact hbar)
          rw [ht] at this
          exact this
      · have h6 := b.xa.h6
        have hP6 := c.P1.2
        have hx : h.ps[i]? = some h.ps[i] := List.getElem?_eq_getElem (by omega)
        have hbar : h.bars h.ps[i] ep = 5 := by unfold HS.bars; rw [if_pos d.up]
        have ht : addTurned y i ep p.out = 5 := by unfold addTurned speaks; rw [d.dn]; simp
        have hb := add_barred b.xa hm.2 hql hx (ep := ep) (by rw [hbar]; decide)
        rw [hbar] at hb
        refine b.twoE (same_fr hb) (fun w2 hy => ?_)
        have := yadd_away hy hfi hmy hout (ep := ep) (by rw [ht]; decide)
        rw [ht] at this
        exact this
    · have hl := lacks_part hm hq
      have hqy : ¬ (0 ≤ q ∧ q ≤ y.Q - 1) := by rw [c0.Q, b.xa.hQ.1]; omega
      have hb := add_none b.xa (p := i) (q := q) (by rw [hl]; decide) ep
      rw [hl] at hb
      exact b.twoE (same_fr hb) (fun w2 hy => same_fr (yadd_nopart hy hmy hqy ep))
  · have hl := lacks_none (q := q) hm
    have hmy : ¬ (0 ≤ m ∧ m ≤ y.P - 1) := by rw [c0.P]; omega
    have hb := add_none b.xa (p := m) (q := q) (by rw [hl]; decide) ep
    rw [hl] at hb
    exact b.twoE (same_fr hb) (fun w2 hy => same_fr (yadd_none hy hmy ep))

/-! Produce -/
theorem Both.produce (b : Both w B xb yb N h y) (hN : N ≤ 10000000) (m ep q : Int) {ts : ByteArray} (hts : ts.size ≤ 140737488355328) : TwoC 77 78 #[ptr xb, .int .i64 m, .int .i64 ep, .int .i64 q, .string ts] #[ptr yb, .int .i64 m, .int .i64 ep, .int .i64 q, .string ts] xb yb h y w (SameE B xb yb h y (N + 1) w) := by
  obtain ⟨tl, c0⟩ := b.know.core
  by_cases hm : 0 ≤ m ∧ m < h.P
  · obtain ⟨i, rfl⟩ := Int.eq_ofNat_of_zero_le hm.1
    have hmy : 0 ≤ (i : Int) ∧ (i : Int) ≤ y.P - 1 := by rw [c0.P]; omega
    have hmyP : (i : Int) < y.P := by omega
    have hfi := c0.fine (by omega)
    by_cases hq : 0 ≤ q ∧ q < h.pl.length
    · obtain ⟨qn, rfl⟩ := Int.eq_ofNat_of_zero_le hq.1
      obtain ⟨p, g, hp, hg, hout, hrl, hll, hq0, hq1, hqQ⟩ := b.part c0 hq.2
      have hql : qn < h.pl.length := by omega
      have hlk : h.lacks i qn = 0 := lacks0 hm.2 hql
      by_cases h8 : 8 < ts.size
      · exact b.twoE (same_fr (produce_long b.xa hlk ep h8 hts)) (fun w2 hy => same_fr (yprod_long hy hmy ⟨hq0, hq1⟩ ep h8 hts))
      have h8 : ts.size ≤ 8 := by omega
      rcases b.know with ⟨c, u⟩ | ⟨tl, c, d⟩
      · obtain ⟨x, hi, hx, hh, hr⟩ := b.prod c u hm.2
        have hf := c.valid.fine i
        have hs0 := hf.s0
        have hs3 := hf.s1
        have hxs := hr.s
        have hbs := bars_speaks u hr.e ep
        by_cases hbar : h.bars x ep = 0
        · have hsp : speaks y.dn (stand y.L i).e ep = 0 := by rw [← hbs]; exact hbar
          by_cases hs1 : (stand y.L i).s = 1
          · have hgl : (g.L.length + 1) * 40 ≤ 140737488355328 := by omega
            have hq4 : qn < 4 := by have := c.Q1.2; omega
            have hel := es_len hrl
            have hyc : ∀ w2, YAt w2 B yb y → Calls Tryz.prog 78 #[ptr yb, .int .i64 i, .int .i64 ep, .int .i64 qn, .string ts] w2 (YPut w2 B yb y i qn g (stand y.L i).t ts p.out (stand y.L i).ps) := fun w2 hy => yprod_going hy hfi b.ay hmyP hg hout hsp hs1 hgl h8
            have hro : rOpen g.L i (stand y.L i).t = p.s.isOpen i (stand y.L i).t := hrl.op _ _
            by_cases ht : x.ties.getD qn 0 = 0
            · have hnin : (qn : Int) ∉ (stand y.L i).ps := fun hin => by
                have := (hr.some (by omega) qn hq4).2 hin
                omega
              refine b.twoE (produce_apart b.xa hm.2 hql hx hbar (by omega) ht h8) (fun w2 hy => (hyc w2 hy).mono fun e3 w3 hq2 => ?_)
              cases hq2 with
              | not hn f => exact ⟨rfl, f⟩
              | out hi' _ _ f => exact absurd hi' hnin
              | bad hi' _ _ _ _ _ => exact absurd hi' hnin
              | ok hi' _ _ _ _ _ => exact absurd hi' hnin
            · have hfew := (hr.few qn).1
              have hin := (hr.some (by omega) qn hq4).1 (by omega)
              refine (produce_within b.xa b.ax hm.2 hp hx hbar (by omega) ht h8 (by omega) (by omega)).mono fun e2 w2 hq2 => ?_
              have hcode : rCode g.L i (stand y.L i).t ts = p.s.appendCode i x.t ts := by rw [hr.t]; exact hrl.code _ _ _
              have hopen : ∀ t, p.s.nw i = some (t, true) → rOpen g.L i (stand y.L i).t = true := fun t hto => by
                have := (c.opn qn p hp i t hto).2.2.2.1
                rw [hro, this]
                exact isOpen_iff.2 hto
              have hshut : (∀ t, p.s.nw i ≠ some (t, true)) → rOpen g.L i (stand y.L i).t = false := fun hno => by
                rw [hro]
                exact isOpen_no.2 (hno _)
              cases hq2 with
              | not hno f =>
                refine ⟨_, rfl, f.mono (fun _ h => h.elim), fun W fW => ?_⟩
                replace f := f.trans fW (fun _ h => h.elim)
                refine (hyc W (b.ya.after f)).mono fun e3 w3 hq3 => ?_
                cases hq3 with
                | not hn f3 => exact ⟨_, rfl, ⟨_, rfl, rfl⟩, h, y, (b.still (f.trans f3 (fun _ h => h.elim))).mono (by omega)⟩
                | out _ hr3 _ _ => rw [hshut hno] at hr3; cases hr3
                | bad _ hr3 _ _ _ _ => rw [hshut hno] at hr3; cases hr3
                | ok _ hr3 _ _ _ _ => rw [hshut hno] at hr3; cases hr3
              | out ho hpo f =>
                refine ⟨_, rfl, f.mono (fun _ h => h.elim), fun W fW => ?_⟩
                replace f := f.trans fW (fun _ h => h.elim)
                refine (hyc W (b.ya.after f)).mono fun e3 w3 hq3 => ?_
                cases hq3 with
                | not hn f3 =>
                  rcases hn with hn | hn
                  · exact absurd hin hn
                  · rw [hopen _ ho] at hn; cases hn
                | out _ _ _ f3 => exact ⟨_, rfl, ⟨_, rfl, rfl⟩, h, y, (b.still (f.trans f3 (fun _ h => h.elim))).mono (by omega)⟩
                | bad _ _ ho3 _ _ _ => rw [hpo] at ho3; cases ho3
                | ok _ _ ho3 _ _ _ => rw [hpo] at ho3; cases ho3
              | bad ho hpo hc hmv hax =>
                refine ⟨_, rfl, hmv.fr.mono (fun k e => .inl (.inl e)), fun W fW => ?_⟩
                replace hmv := hmv.after fW
                refine (hyc W (b.ystill hmv)).mono fun e3 w3 hq3 => ?_
                cases hq3 with
                | not hn f3 =>
                  rcases hn with hn | hn
                  · exact absurd hin hn
                  · rw [hopen _ ho] at hn; cases hn
                | out _ _ ho3 _ => rw [hpo] at ho3; cases ho3
                | bad _ _ _ _ hym hay => exact ⟨_, rfl, ⟨_, rfl, by rw [hcode]⟩, _, _, b.join hmv hym hax hay rfl rfl rfl (by omega) (know_bad c u hm.2 hp hg (by omega) hr.t)⟩
                | ok _ _ _ hc3 _ _ => rw [hcode] at hc3; exact absurd hc3 hc
              | ok ho hpo hc hmv hax =>
                refine ⟨_, rfl, hmv.fr.mono (fun k e => .inl (.inl e)), fun W fW => ?_⟩
                replace hmv := hmv.after fW
                refine (hyc W (b.ystill hmv)).mono fun e3 w3 hq3 => ?_
                cases hq3 with
                | not hn f3 =>
                  rcases hn with hn | hn
                  · exact absurd hin hn
                  · rw [hopen _ ho] at hn; cases hn
                | out _ _ ho3 _ => rw [hpo] at ho3; cases ho3
                | bad _ _ _ hc3 _ _ => rw [hcode] at hc3; exact absurd hc hc3
                | ok _ _ _ _ hym hay => exact ⟨_, rfl, ⟨_, rfl, rfl⟩, _, _, b.join hmv hym hax hay rfl rfl rfl (by omega) (know_put c u hm.2 hx hp hg (by omega) hr.t)⟩
          · have ht : turned y i ep = if x.s = 0 then 8 else 9 := by
              unfold turned
              rw [if_neg (by omega), hr.s]
              split
              · rfl
              · rw [if_pos (by omega)]
            refine b.twoE (produce_still b.xa hm.2 hql hx hbar (by omega) h8) (fun w2 hy => ?_)
            have := yprod_away hy hfi hmy (q := qn) ⟨hq0, hq1⟩ (ep := ep) (by rw [ht]; split <;> decide) h8
            rw [ht] at this
            exact this
        · have ht : turned y i ep = h.bars x ep := by unfold turned; rw [← hbs, if_pos hbar]
          refine b.twoE (same_fr (produce_barred b.xa hm.2 hql hx hbar h8)) (fun w2 hy => ?_)
          have := yprod_away hy hfi hmy (q := qn) ⟨hq0, hq1⟩ (ep := ep) (by rw [ht]; exact hbar) h8
          rw [ht] at this
          exact this
      · have h6 := b.xa.h6
        have hP6 := c.P1.2
        have hx : h.ps[i]? = some h.ps[i] := List.getElem?_eq_getElem (by omega)
        have hbar : h.bars h.ps[i] ep = 5 := by unfold HS.bars; rw [if_pos d.up]
        have ht : turned y i ep = 5 := by unfold turned speaks; rw [d.dn]; simp
        have hb := produce_barred b.xa hm.2 hql hx (ep := ep) (by rw [hbar]; decide) h8
        rw [hbar] at hb
        refine b.twoE (same_fr hb) (fun w2 hy => ?_)
        have := yprod_away hy hfi hmy (q := qn) ⟨hq0, hq1⟩ (ep := ep) (by rw [ht]; decide) h8
        rw [ht] at this
        exact this
    · have hl := lacks_part hm hq
      have hqy : ¬ (0 ≤ q ∧ q ≤ y.Q - 1) := by rw [c0.Q, b.xa.hQ.1]; omega
      have hb := produce_none b.xa (p := i) (q := q) (by rw [hl]; decide) ep ts
      rw [hl] at hb
      exact b.twoE (same_fr hb) (fun w2 hy => same_fr (yprod_nopart hy hmy hqy ep ts))
  · have hl := lacks_none (q := q) hm
    have hmy : ¬ (0 ≤ m ∧ m ≤ y.P - 1) := by rw [c0.P]; omega
    have hb := produce_none b.xa (p := m) (q := q) (by rw [hl]; decide) ep ts
    rw [hl] at hb
    exact b.twoE (same_fr hb) (fun w2 hy => same_fr (yprod_none hy hmy ep ts))

/-! Out, Break, Crash, Restart -/
theorem YMoved.own {w w' : World} {y y1 : RS} (f : Fr (fun k => k = yb) w w') (hh : YAt w' B yb y1) (hs : ∀ k, y1.foot yb k → y.foot yb k) : YMoved w w' B yb y y1 :=
  ⟨hh, f.mono (fun _ e => .inl (.inl e)), fun k hk => .inl (hs k hk)⟩

theorem Both.out (b : Both w B xb yb N h y) (m : Int) (o : Bool) : TwoC 52 90 #[ptr xb, .int .i64 m, .bool o] #[ptr yb, .int .i64 m, .bool o] xb yb h y w (SameE B xb yb h y (N + 1) w) := by
  obtain ⟨tl, c0⟩ := b.know.core
  by_cases hq : 0 ≤ m ∧ m < h.pl.length
  · obtain ⟨q, rfl⟩ := Int.eq_ofNat_of_zero_le hq.1
    obtain ⟨p, g, hp, hg, hout, _, _, hq0, hq1, hqQ⟩ := b.part c0 hq.2
    refine (out_ok b.xa hp o).mono fun e2 w2 ⟨h1, hmv⟩ => ⟨_, h1, hmv.fr.mono (fun k e => .inl (.inl e)), fun W fW => (yout_ok (b.ystill (hmv.after fW)) (q := q) (List.getElem?_eq_some_iff.1 hout).1 o).mono fun e3 w3 ⟨k1, hym⟩ => ⟨_, k1, ⟨_, rfl, rfl⟩, _, _, b.join (hmv.after fW) hym (b.ax.out hp o) b.ay rfl rfl rfl (by omega) ((know_out b.know hp o).mono (by omega))⟩⟩
  · have hqy : ¬ (0 ≤ m ∧ m ≤ y.Q - 1) := by rw [c0.Q, b.xa.hQ.1]; omega
    exact b.twoE (same_fr (out_none b.xa hq o)) (fun w2 hy => same_fr (yout_none hy hqy o))

theorem Both.break_ (b : Both w B xb yb N h y) (k : Int) : TwoC 27 92 #[ptr xb, .int .i64 k] #[ptr yb, .int .i64 k] xb yb h y w (SameE B xb yb h y (N + 1) w) := by
  rcases b.know with ⟨c, u⟩ | ⟨tl, c, d⟩
  · refine (break_up b.xa u.up k).mono fun e2 w2 ⟨h1, hmv⟩ => ⟨_, h1, hmv.fr.mono (fun k e => .inl (.inl e)), fun W fW => (ybreak_any (b.ystill (hmv.after fW)) k).mono fun e3 w3 ⟨k1, k2, k3⟩ => ⟨_, k1, ?_, ?_⟩⟩
    · rw [u.dn]; exact ⟨0, rfl, rfl⟩
    · rw [u.dn] at k2
      simp only [Bool.false_eq_true, ↓reduceIte] at k2
      exact ⟨_, _, b.join (hmv.after fW) (YMoved.own k3 k2 (fun k hk => hk)) b.ax b.ay rfl rfl rfl (by omega) ((know_break c u k).mono (by omega))⟩
  · refine (break_down b.xa d.up k).mono fun e2 w2 ⟨h1, h2⟩ => ?_
    subst h2
    refine ⟨_, h1, Fr.refl _ _, fun W fW => (ybreak_any (b.ya.after fW) k).mono fun e3 w3 ⟨k1, k2, k3⟩ => ⟨_, k1, ?_, ?_⟩⟩
    · rw [d.dn]; exact ⟨5, rfl, rfl⟩
    · rw [d.dn] at k2
      simp only [↓reduceIte] at k2
      exact ⟨_, _, b.join ((Moved.refl b.xa).after fW) (YMoved.own k3 k2 (fun k hk => hk)) b.ax b.ay rfl rfl rfl (by omega) (b.know.mono (by omega))⟩

theorem Both.crash (b : Both w B xb yb N h y) : TwoC 44 45 #[ptr xb] #[ptr yb] xb yb h y w (fun r r2 w' => SameE B xb yb h y N w r r2 w') := by
  rcases b.know with ⟨c, u⟩ | ⟨tl, c, d⟩
  · refine (crash_any b.xa).mono fun e2 w2 ⟨h1, h2, h3⟩ => ?_
    rw [u.up] at h1 h2
    simp only [↓reduceIte] at h1 h2
    have hmv : Moved w w2 B xb N h N h.fallen := Moved.own h3 h2 (fun k hk => hk)
    refine ⟨_, h1, hmv.fr.mono (fun k e => .inl (.inl e)), fun W fW => ?_⟩
    replace hmv := hmv.after fW
    refine (ycrash_any (b.ystill hmv)).mono fun e3 w3 ⟨k1, k2, k3⟩ => ⟨_, k1, ?_, ?_⟩
    · rw [u.dn]; exact ⟨0, rfl, rfl⟩
    · have ec : y.crashed = { y with dn := true, br := false } := by simp [RS.crashed, u.dn]
      rw [ec] at k2
      exact ⟨_, _, b.join hmv (YMoved.own k3 k2 (fun k hk => hk)) b.ax b.ay rfl rfl rfl (Nat.le_refl _) (know_crash c)⟩
  · refine (crash_any b.xa).mono fun e2 w2 ⟨h1, h2, h3⟩ => ?_
    rw [d.up] at h1 h2
    simp only [Bool.false_eq_true, ↓reduceIte] at h1 h2
    have hmv : Moved w w2 B xb N h N h := Moved.own h3 h2 (fun k hk => hk)
    refine ⟨_, h1, hmv.fr.mono (fun k e => .inl (.inl e)), fun W fW => ?_⟩
    replace hmv := hmv.after fW
    refine (ycrash_any (b.ystill hmv)).mono fun e3 w3 ⟨k1, k2, k3⟩ => ⟨_, k1, ?_, ?_⟩
    · rw [d.dn]; exact ⟨5, rfl, rfl⟩
    · have ec : y.crashed = y := by simp [RS.crashed, d.dn]
      rw [ec] at k2
      exact ⟨_, _, b.join hmv (YMoved.own k3 k2 (fun k hk => hk)) b.ax b.ay rfl rfl rfl (Nat.le_refl _) b.know⟩

theorem Rising.moved {dv : Value} {H : List Int} (hr : Rising w w' B yb y y.H.length dv H) : YMoved w w' B yb y (y.rising y.H.length dv H) := by
  refine ⟨hr.at_, hr.fr.mono (fun k e => .inl ?_), fun k hk => ?_⟩
  · rcases e with e | e
    · exact .inl e
    · exact .inr (.inr (.inr (.inl e)))
  · rcases hk with e | e | e | e
    · exact .inl (.inl e)
    · exact .inl (.inr (.inl e))
    · exact .inr (hr.new k e)
    · exact .inl (.inr (.inr (.inr e)))

theorem Both.restart (b : Both w B xb yb N h y) (hN : N ≤ 10000000) : TwoC 29 46 #[ptr xb] #[ptr yb] xb yb h y w (fun r r2 w' => SameE B xb yb h y N w r r2 w') := by
  rcases b.know with ⟨c, u⟩ | ⟨tl, c, d⟩
  · refine (restart_up b.xa u.up).mono fun e2 w2 ⟨h1, h2⟩ => ?_
    subst h2
    exact ⟨_, h1, Fr.refl _ _, fun W fW => (yrestart_up (b.ya.after fW) u.dn).mono fun e3 w3 ⟨k1, k2⟩ => ⟨_, k1, ⟨_, rfl, rfl⟩, h, y, by rw [← k2]; exact b.still fW⟩⟩
  · refine (restart_any b.xa d.up d.ps (c.jour (by omega))).mono fun e2 w2 ⟨h1, jv, hmv⟩ => ⟨_, h1, hmv.fr.mono (fun k e => .inl (.inl e)), fun W fW => (yrestart_any (b.ystill (hmv.after fW)) d.dn (c.fine (by omega))).mono fun e3 w3 ⟨k1, dv, H, hr⟩ => ⟨_, k1, ⟨_, rfl, rfl⟩, _, _, b.join (hmv.after fW) hr.moved b.ax b.ay rfl rfl rfl (Nat.le_refl _) (know_restart c d jv dv hr.len hr.set)⟩⟩
end

end Go.Proofs.YtkelpcjiediamaaGreat
