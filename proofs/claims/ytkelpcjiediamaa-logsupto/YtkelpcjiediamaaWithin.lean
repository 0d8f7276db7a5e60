/-
  within, where what was fetched is just what was committed.
-/
import Derived.Test.YtkelpcjiediamaaSame
namespace Go.Proofs.Ytkelpcjiediamaa
open Go.RowKit Go.Maps

/-- A slice of entries in memory, to be read. -/
def EntsAt (w : World) (v : Value) (es : List Ent) : Prop :=
  (v = .slice none 0 0 ∧ es = []) ∨ ∃ g cap, v = .slice (some ⟨g, 0, none⟩) es.length cap ∧ es.length ≤ cap ∧ cap ≤ maxLen ∧
    ∀ (k : Nat) e, es[k]? = some e → w.cell? ⟨g, k * 4, none⟩ = some (.int .i64 e.k) ∧ w.cell? ⟨g, k * 4 + 1, none⟩ = some (.int .i64 e.p) ∧ w.cell? ⟨g, k * 4 + 2, none⟩ = some (.int .i64 e.t) ∧ w.cell? ⟨g, k * 4 + 3, none⟩ = some (.string e.s)

theorem entsAt_of {w : World} {B : Nat} {v : Value} {es : List Ent} (h : w.ownsRow B 69 4 v es.length (entCells es)) : EntsAt w v es := by
  rcases row_form h with ⟨rfl, rfl⟩ | ⟨g, cap, rfl, h1, h2, _⟩
  · exact .inl ⟨rfl, rfl⟩
  · exact .inr ⟨g, cap, rfl, h1, h2, fun k e hk => row_cells h hk⟩

def Ent.ends (x e : Ent) : Prop := x.k ≠ 1 ∧ x.p = e.p ∧ x.t = e.t

/-- The transaction of the entry e at i came to its end, by entries of kind q alone. -/
structure Settled (es : List Ent) (i : Nat) (e : Ent) (q : Int) : Prop where
  nz : q ≠ 0
  fate : fate es e.p e.t = some q
  late : ∃ (m : Nat) (x : Ent), i < m ∧ es[m]? = some x ∧ x.ends e
  all : ∀ x ∈ es, x.ends e → x.k = q

/-- What holds of a log whose first S entries are all decided. -/
def AllSettled (s : LogS) (S : Nat) : Prop := ∀ (i : Nat) e, i < S → s.es[i]? = some e → e.k = 1 → ∃ q, Settled s.es i e q

theorem LogS.got_at (s : LogS) {S i : Nat} {e : Ent} (hi : i < S) (he : s.es[i]? = some e) (hp : s.picks e = true) : (s.got 0 S)[(s.got 0 i).length]? = some ⟨i, e.p, e.s⟩ := by
  obtain ⟨t, ht⟩ := s.got_prefix (a := 0) (k := i + 1) (by omega) (S - (i + 1))
  rw [show i + 1 + (S - (i + 1)) = S by omega] at ht
  have h2 : s.got 0 (i + 1) = s.got 0 i ++ [⟨i, e.p, e.s⟩] := by
    rw [s.got_succ (by omega)]
    simp [LogS.pick, he, hp]
  rw [ht, h2, List.append_assoc, List.getElem?_append_right (Nat.le_refl _)]
  simp

theorem LogS.got_lt (s : LogS) {S i : Nat} {e : Ent} (hi : i < S) (he : s.es[i]? = some e) (hp : s.picks e = true) : (s.got 0 i).length < (s.got 0 S).length :=
  (List.getElem?_eq_some_iff.1 (s.got_at hi he hp)).1

set_option maxRecDepth 100000 in
set_option maxHeartbeats 1600000 in
theorem within_any {w : World} {vl vg : Value} {s : LogS} {S : Nat} (hl : EntsAt w vl s.es) (hg : RecsAt w vg (s.got 0 S)) (hS : S ≤ s.es.length) (hall : AllSettled s S) :
    Calls Try.prog 16 #[vl, .int .i64 S, vg] w fun e w' => e = .returned (.bool true) ∧ ∃ q, w' = w.drewN q := by
  obtain ⟨a1, c1, rfl, hc1⟩ : ∃ a1 c1, vl = .slice a1 s.es.length c1 ∧ s.es.length ≤ maxLen := by
    rcases hl with ⟨rfl, h0⟩ | ⟨g, cap, rfl, h1, h2, _⟩
    · exact ⟨none, 0, by rw [h0]; rfl, by rw [h0]; exact Nat.zero_le _⟩
    · exact ⟨_, _, rfl, Nat.le_trans h1 h2⟩
  obtain ⟨a2, c2, rfl, hc2⟩ : ∃ a2 c2, vg = .slice a2 (s.got 0 S).length c2 ∧ (s.got 0 S).length ≤ maxLen := by
    rcases hg with ⟨rfl, h0⟩ | ⟨g, cap, rfl, h1, h2, _⟩
    · exact ⟨none, 0, by rw [h0]; rfl, by rw [h0]; exact Nat.zero_le _⟩
    · exact ⟨_, _, rfl, Nat.le_trans h1 h2⟩
  unfold maxLen at hc1 hc2
  have HA : Hid (EntsAt w (.slice a1 s.es.length c1) s.es) := hl
  have HB : Hid (RecsAt w (.slice a2 (s.got 0 S).length c2) (s.got 0 S)) := hg
  have HS : Hid (AllSettled s S) := hall
  clear hl hg hall
  go_enter Try.func16, Try.ntmps16
  go_wp2_with fail
  go_loopw [7, 8] (fun at_ i w' => ∃ k : Nat, k ≤ S ∧ i = .int .i64 k ∧ at_ = .int .i64 (s.got 0 k).length ∧ ∃ q, w' = w.drewN q) (fun _ i _ => S - (intOf i).toNat)
  case atStart => exact ⟨0, Nat.zero_le _, rfl, by rw [s.got_nil]; rfl, 0, rfl⟩
  case round =>
    obtain ⟨k, hk, rfl, rfl, q, rfl⟩ := hrel
    by_cases hlt : k < S
    · obtain ⟨e, he⟩ : ∃ e, s.es[k]? = some e := ⟨_, List.getElem?_eq_getElem (by omega)⟩
      obtain ⟨g1, rfl, HC⟩ : ∃ g1, a1 = some ⟨g1, 0, none⟩ ∧ Hid (∀ (k : Nat) e, s.es[k]? = some e → w.cell? ⟨g1, k * 4, none⟩ = some (.int .i64 e.k) ∧ w.cell? ⟨g1, k * 4 + 1, none⟩ = some (.int .i64 e.p) ∧ w.cell? ⟨g1, k * 4 + 2, none⟩ = some (.int .i64 e.t) ∧ w.cell? ⟨g1, k * 4 + 3, none⟩ = some (.string e.s)) := by
        rcases HA.out with ⟨_, h0⟩ | ⟨g, cap, e1, h1, h2, h3⟩
        · rw [h0] at he; simp at he
        · simp only [Value.slice.injEq] at e1
          exact ⟨g, e1.1, h3⟩
      obtain ⟨x0, x1, x2, x3⟩ := HC.out k e he
      have HE : Hid (s.es[k]? = some e) := he
      have hke : k < s.es.length := by omega
      clear he
      by_cases h1 : e.k = 1
      · obtain ⟨qq, hq⟩ := HS.out k e hlt HE.out h1
        have HQ : Hid (Settled s.es k e qq) := hq
        clear hq
        go_wp2_with fail
        go_loopw [9, 10] (fun ft j w' => ∃ m : Nat, k + 1 ≤ m ∧ m ≤ s.es.length ∧ j = .int .i64 m ∧ (∃ q, w' = w.drewN q) ∧ ((ft = .int .i64 0 ∧ ∀ (m' : Nat) x, k < m' → m' < m → s.es[m']? = some x → ¬ x.ends e) ∨ ft = .int .i64 qq)) (fun _ j _ => s.es.length - (intOf j).toNat)
        case atStart => exact ⟨k + 1, Nat.le_refl _, by omega, by go_num, ⟨q, rfl⟩, .inl ⟨rfl, fun m' x h1 h2 => by omega⟩⟩
        case round =>
          clear q
          obtain ⟨m, hm1, hm2, rfl, ⟨q, rfl⟩, hft⟩ := hrel
          rcases hft with ⟨rfl, hno⟩ | rfl
          · have HNo : Hid (∀ (m' : Nat) x, k < m' → m' < m → s.es[m']? = some x → ¬ x.ends e) := hno
            clear hno
            by_cases hmlt : m < s.es.length
            · obtain ⟨x, hx⟩ : ∃ x, s.es[m]? = some x := ⟨_, List.getElem?_eq_getElem hmlt⟩
              obtain ⟨y0, y1, y2, y3⟩ := HC.out m x hx
              have HX : Hid (s.es[m]? = some x) := hx
              have step : ¬ x.ends e → Hid (∀ (m' : Nat) x, k < m' → m' < m + 1 → s.es[m']? = some x → ¬ x.ends e) := fun hne m' x' h3 h4 h5 => by
                by_cases em : m' = m
                · subst em
                  have := HX.out.symm.trans h5
                  cases this
                  exact hne
                · exact HNo.out m' x' h3 (by omega) h5
              clear hx
              by_cases hxk : x.k = 1
              · have HN2 := step (fun h => h.1 hxk)
                clear step
                go_wp2_with fail
                go_quiet (fail)
                go_wp2
                go_roundw
                case rel => exact ⟨m + 1, by omega, by omega, by go_num, ⟨q + nq, by simp [World.drewN]⟩, .inl ⟨rfl, HN2.out⟩⟩
                case measure => simp [intOf]; omega
              · have hxk' : (x.k == 1) = false := by simpa using hxk
                have hxn : (x.k != 1) = true := by simpa using hxk
                by_cases hxp : x.p = e.p
                · have hxp' : (x.p == e.p) = true := by simpa using hxp
                  by_cases hxt : x.t = e.t
                  · have hxt' : (x.t == e.t) = true := by simpa using hxt
                    have HV : Hid (x.k = qq) := HQ.out.all x (List.mem_of_getElem? HX.out) ⟨hxk, hxp, hxt⟩
                    clear step hxp hxt
                    go_wp2_with fail
                    go_quiet (fail)
                    go_wp2
                    go_roundw
                    case rel => exact ⟨m + 1, by omega, by omega, by go_num, ⟨q + nq, by simp [World.drewN]⟩, .inr (by rw [HV.out])⟩
                    case measure => simp [intOf]; omega
                  · have hxt' : (x.t == e.t) = false := by simpa using hxt
                    have HN2 := step (fun h => hxt h.2.2)
                    clear step hxp
                    go_wp2_with fail
                    go_quiet (fail)
                    go_wp2
                    go_roundw
                    case rel => exact ⟨m + 1, by omega, by omega, by go_num, ⟨q + nq, by simp [World.drewN]⟩, .inl ⟨rfl, HN2.out⟩⟩
                    case measure => simp [intOf]; omega
                · have hxp' : (x.p == e.p) = false := by simpa using hxp
                  have HN2 := step (fun h => hxp h.2.1)
                  clear step
                  go_wp2_with fail
                  go_quiet (fail)
                  go_wp2
                  go_roundw
                  case rel => exact ⟨m + 1, by omega, by omega, by go_num, ⟨q + nq, by simp [World.drewN]⟩, .inl ⟨rfl, HN2.out⟩⟩
                  case measure => simp [intOf]; omega
            · exfalso
              obtain ⟨m', x, h3, h4, h5⟩ := HQ.out.late
              exact HNo.out m' x h3 (by have := (List.getElem?_eq_some_iff.1 h4).1; omega) h4 h5
          · have hq0 : (qq == 0) = false := by have := HQ.out.nz; simpa using this
            by_cases hq2 : qq = 2
            · have hpk : s.picks e = true := by simp [LogS.picks, h1, HQ.out.fate, hq2]
              have HP : Hid (s.got 0 (k + 1) = s.got 0 k ++ [⟨k, e.p, e.s⟩]) := by
                show s.got 0 (k + 1) = s.got 0 k ++ [⟨k, e.p, e.s⟩]
                rw [s.got_succ (by omega)]
                have := HE.out
                simp [LogS.pick, this, hpk]
              have HR := s.got_at hlt HE.out hpk
              have hlt3 := s.got_lt hlt HE.out hpk
              obtain ⟨g2, rfl, z0, z1, z2⟩ : ∃ g1, a2 = some ⟨g1, 0, none⟩ ∧ w.cell? ⟨g1, (s.got 0 k).length * 3, none⟩ = some (.int .i64 k) ∧ w.cell? ⟨g1, (s.got 0 k).length * 3 + 1, none⟩ = some (.int .i64 e.p) ∧ w.cell? ⟨g1, (s.got 0 k).length * 3 + 2, none⟩ = some (.string e.s) := by
                rcases HB.out with ⟨_, h0⟩ | ⟨g, cap, e1, h1, h2, h3⟩
                · rw [h0] at hlt3; simp at hlt3
                · simp only [Value.slice.injEq] at e1
                  exact ⟨g, e1.1, h3 _ _ HR⟩
              clear HR hpk
              subst hq2
              have hnn : ∀ wx, (binOp .neq 73 (.agg #[.int .i64 k, .int .i64 e.p, .string e.s]) (.agg #[.int .i64 k, .int .i64 e.p, .string e.s])).run Try.prog wx = .ok (.bool false) wx := fun wx => neq73 wx _ _ _
              have hd : decide ((s.got 0 S).length ≤ (s.got 0 k).length) = false := by simp; omega
              have hd2 : decide (((s.got 0 S).length : Int) ≤ ((s.got 0 k).length : Int)) = false := by simp; omega
              by_cases hmlt : m < s.es.length
              all_goals
                go_wp2_with fail
                go_quiet (fail)
                go_wp2
                go_roundw
                case rel => exact ⟨k + 1, by omega, by go_num, by rw [HP.out]; simp, q + nq, by simp [World.drewN]⟩
                case measure => simp [intOf]; omega
            · have hq2' : (qq == 2) = false := by simpa using hq2
              have HP : Hid (s.got 0 (k + 1) = s.got 0 k) := by
                show s.got 0 (k + 1) = s.got 0 k
                rw [s.got_succ (by omega), LogS.pick_no HE.out (.inr (by rw [HQ.out.fate]; simpa using hq2)), List.append_nil]
              by_cases hmlt : m < s.es.length
              all_goals
                go_wp2
                go_roundw
                case rel => exact ⟨k + 1, by omega, by go_num, by rw [HP.out], q, rfl⟩
                case measure => simp [intOf]; omega
      · have h1' : (e.k == 1) = false := by simpa using h1
        have HP : Hid (s.got 0 (k + 1) = s.got 0 k) := by
          show s.got 0 (k + 1) = s.got 0 k
          rw [s.got_succ (by omega), LogS.pick_no HE.out (.inl h1), List.append_nil]
        go_wp2
        go_roundw
        case rel => exact ⟨k + 1, by omega, by go_num, by rw [HP.out], q, rfl⟩
        case measure => simp [intOf]; omega
    · have HK : Hid (k = S) := by show k = S; omega
      go_wp2
      go_ret
      exact ⟨by rw [HK.out]; simp, q, rfl⟩

end Go.Proofs.Ytkelpcjiediamaa
