/-
  What Fetch tells of a log in memory.
-/
import Derived.Test.YtkelpcjiediamaaEnds
namespace Go.Proofs.Ytkelpcjiediamaa
open Go.RowKit Go.Maps

/-- A record. -/
structure Rec where
  o : Int
  p : Int
  s : ByteArray

def Rec.cs (e : Rec) : List Value := [.int .i64 e.o, .int .i64 e.p, .string e.s]
def recCells (l : List Rec) : List Value := l.flatMap Rec.cs

theorem recCells_snoc (l : List Rec) (x : Rec) : recCells (l ++ [x]) = recCells l ++ x.cs := by simp [recCells]

theorem info73 : (Try.prog.info? 73).map (fun i => (i.zero, i.size, i.bytes)) = some (some (.agg #[.int .i64 0, .int .i64 0, .string ⟨#[]⟩]), 3, 32) := by kernel_rfl

def LogS.picks (s : LogS) (e : Ent) : Bool := decide (e.k = 1) && decide (fate s.es e.p e.t = some 2)

def LogS.pick (s : LogS) (i : Nat) : List Rec :=
  match s.es[i]? with
  | some e => if s.picks e then [⟨i, e.p, e.s⟩] else []
  | none => []

/-- What is fetched of the offsets from a on, ahead of b. -/
def LogS.got (s : LogS) (a b : Nat) : List Rec := (List.range' a (b - a)).flatMap s.pick

theorem LogS.got_nil (s : LogS) (a : Nat) : s.got a a = [] := by simp [LogS.got]

theorem LogS.got_succ (s : LogS) {a k : Nat} (h : a ≤ k) : s.got a (k + 1) = s.got a k ++ s.pick k := by
  unfold LogS.got
  rw [show k + 1 - a = (k - a) + 1 by omega, List.range'_concat, List.flatMap_append]
  simp [show a + (k - a) = k by omega]

theorem LogS.got_length (s : LogS) (a : Nat) : ∀ k, a ≤ k → (s.got a k).length ≤ k - a
  | 0, h => by
    have : a = 0 := by omega
    subst this
    simp [LogS.got]
  | k + 1, h => by
    by_cases e : a = k + 1
    · subst e; simp [LogS.got]
    · rw [s.got_succ (by omega), List.length_append]
      have := LogS.got_length s a k (by omega)
      have h2 : (s.pick k).length ≤ 1 := by
        unfold LogS.pick
        split
        · split <;> simp
        · simp
      omega

def LogS.start (f : Int) : Nat := (max f 0).toNat
def LogS.fetch (s : LogS) (f m : Int) : List Rec := (s.got (LogS.start f) s.stable).take m.toNat

theorem MapFn.ne_row {w : World} {P : Program} {k : TypeId} {b n : Nat} {f : Value → Option Value} (h : MapFn w P k b n f) {B : Nat} {e : TypeId} {size : Nat} {v : Value} {m : Nat} {xs : List Value} (ho : w.ownsRow B e size v m xs) : v.ownBlock ≠ some b := by
  intro ev
  obtain ⟨D, ⟨es, clock, hb, _⟩, _⟩ := h
  rcases ho.2 with ⟨rfl, _⟩ | ⟨g, cap, cur, rfl, _, hg, _⟩
  · simp [Value.ownBlock] at ev
  · simp [Value.ownBlock] at ev
    rw [← ev, hg] at hb
    cases hb

theorem row3_form {w : World} {B : Nat} {v : Value} {rs : List Rec} (h : w.ownsRow B 73 3 v rs.length (recCells rs)) :
    (v = .slice none 0 0 ∧ rs = []) ∨ ∃ g cap, v = .slice (some ⟨g, 0, none⟩) rs.length cap ∧ rs.length ≤ cap ∧ cap ≤ maxLen ∧ B ≤ g ∧ g < w.heap.size := by
  rcases h.2 with ⟨hv, h0⟩ | ⟨g, cap, cur, hv, hb, hg, h1, h2, _⟩
  · exact .inl ⟨hv, List.eq_nil_of_length_eq_zero h0⟩
  · exact .inr ⟨g, cap, hv, h1, h2, hb, lt_of_block hg⟩

theorem row3_len {w : World} {B : Nat} {v : Value} {rs : List Rec} (h : w.ownsRow B 73 3 v rs.length (recCells rs)) : ∃ a cap, v = .slice a rs.length cap := by
  rcases row3_form h with ⟨rfl, rfl⟩ | ⟨g, cap, rfl, _⟩
  · exact ⟨none, 0, rfl⟩
  · exact ⟨_, _, rfl⟩

theorem LogS.stable_le (s : LogS) : s.stable ≤ s.es.length := List.findIdx_le_length

theorem LogS.got_prefix (s : LogS) {a k : Nat} (h : a ≤ k) : ∀ d, ∃ t, s.got a (k + d) = s.got a k ++ t
  | 0 => ⟨[], by simp⟩
  | d + 1 => by
    obtain ⟨t, ht⟩ := LogS.got_prefix s h d
    exact ⟨t ++ s.pick (k + d), by rw [← Nat.add_assoc, s.got_succ (by omega), ht, List.append_assoc]⟩

theorem LogS.fetch_done (s : LogS) {f m : Int} {k : Nat} (h1 : LogS.start f ≤ k) (h2 : k ≤ LogS.start f ∨ k ≤ s.stable) (h3 : ((s.got (LogS.start f) k).length : Int) ≤ max m 0) (h4 : s.stable ≤ k ∨ m ≤ (s.got (LogS.start f) k).length) :
    s.fetch f m = s.got (LogS.start f) k := by
  unfold LogS.fetch
  generalize LogS.start f = a at *
  have hgot : s.stable ≤ k → s.got a s.stable = s.got a k := by
    intro h
    rcases h2 with h2 | h2
    · have : k = a := by omega
      subst this
      simp only [LogS.got]
      rw [show s.stable - k = 0 by omega, Nat.sub_self]
    · rw [show s.stable = k by omega]
  by_cases hk : s.stable ≤ k
  · rw [hgot hk]
    exact List.take_of_length_le (by omega)
  · obtain ⟨t, ht⟩ := s.got_prefix h1 (s.stable - k)
    rw [show k + (s.stable - k) = s.stable by omega] at ht
    rw [ht]
    have : m.toNat = (s.got a k).length := by omega
    rw [this]
    exact List.take_left

theorem LogS.pick_yes {s : LogS} {k : Nat} {e : Ent} (he : s.es[k]? = some e) (h1 : e.k = 1) (h2 : (fate s.es e.p e.t).getD 0 = 2) : s.pick k = [⟨k, e.p, e.s⟩] := by
  have : fate s.es e.p e.t = some 2 := by
    cases hq : fate s.es e.p e.t with
    | none => rw [hq] at h2; simp at h2
    | some q => rw [hq] at h2; simp at h2; rw [h2]
  simp [LogS.pick, he, LogS.picks, h1, this]

theorem LogS.pick_no {s : LogS} {k : Nat} {e : Ent} (he : s.es[k]? = some e) (h2 : e.k ≠ 1 ∨ (fate s.es e.p e.t).getD 0 ≠ 2) : s.pick k = [] := by
  have : s.picks e = false := by
    simp only [LogS.picks, Bool.and_eq_false_iff, decide_eq_false_iff_not]
    rcases h2 with h2 | h2
    · exact .inl h2
    · exact .inr (fun e2 => h2 (by rw [e2]; rfl))
  simp [LogS.pick, he, this]

theorem heap_alloc_new3 (w : World) (o o' : Obj) : ((w.alloc o).alloc o').heap[w.heap.size + 1]? = some o' := heap_alloc_new2 w o o'

/-- The loop's relation. -/
def FetchRel (s : LogS) (w : World) (f m : Int) (r i : Value) (w' : World) : Prop :=
  ∃ k : Nat, LogS.start f ≤ k ∧ i = .int .i64 k ∧ (k ≤ LogS.start f ∨ k ≤ s.stable) ∧ Fr (fun _ => False) w w' ∧
    w'.ownsRow w.heap.size 73 3 r (s.got (LogS.start f) k).length (recCells (s.got (LogS.start f) k)) ∧
    MapFn w' Try.prog 82 w.heap.size s.es.length (endsFn s.es) ∧ ((s.got (LogS.start f) k).length : Int) ≤ max m 0

set_option maxRecDepth 100000 in
set_option maxHeartbeats 1600000 in
theorem fetch_any {w : World} {B lb bm n : Nat} {v : Value} {s : LogS} (h : LogAt w B lb bm v n s) (hwf : s.Wf) (hb : s.es.length * 40 ≤ 140737488355328) (f m : Int) :
    Calls Try.prog 14 #[.pointer (some ⟨lb, 0, none⟩), .int .i64 f, .int .i64 m] w fun e w' => ∃ v', e = .returned v' ∧ w'.ownsRow w.heap.size 73 3 v' (s.fetch f m).length (recCells (s.fetch f m)) ∧ Fr (fun _ => False) w w' := by
  obtain ⟨i0, hi0, hz0, hz1, hz2⟩ := info_parts info73
  have H : Hid (LogAt w B lb bm v n s) := h
  have HW : Hid s.Wf := hwf
  have HB : Hid (s.es.length * 40 ≤ 140737488355328) := hb
  have HS : Hid (s.stable ≤ s.es.length) := s.stable_le
  have hlw := h.lt
  clear h hwf hb
  go_enter Try.func14, Try.ntmps14
  go_wp2_with (first
    | (go_at_call 34; refine (ends_any H.out HW.out).mono ?_; rintro e w1 ⟨rfl, hm1, hf1⟩; have HM1 : Hid (MapFn w1 Try.prog 82 w.heap.size s.es.length (endsFn s.es)) := hm1; have HF1 : Hid (Fr (fun _ => False) w w1) := hf1; clear hm1 hf1)
    | (go_at_call 12; refine (stable_any (by exact HF1.out.logAt H.out id id (fun _ _ => id)) HW.out).mono ?_; rintro e w2 ⟨rfl, hf2⟩; have HF2 : Hid (Fr (fun _ => False) w1 w2) := hf2; clear hf2))
  all_goals
    go_loopw [9, 10] (fun r i w' => FetchRel s w f m r i w') (fun _ i _ => s.stable - (intOf i).toNat)
    case atStart => exact ⟨LogS.start f, Nat.le_refl _, by simp [LogS.start]; omega, .inl (Nat.le_refl _), HF1.out.trans HF2.out (fun _ h => h.elim), by rw [s.got_nil]; exact World.ownsRow_nil _ _ _ _, HF2.out.mapFn HM1.out id, by rw [s.got_nil]; simp; omega⟩
    case round =>
      obtain ⟨k, hk1, rfl, hk2, hfr, hown, hmap, hlen⟩ := hrel
      obtain ⟨ra, rcap, rfl⟩ := row3_len hown
      have HO : Hid (wr.ownsRow w.heap.size 73 3 (.slice ra (s.got (LogS.start f) k).length rcap) (s.got (LogS.start f) k).length (recCells (s.got (LogS.start f) k))) := hown
      have HF : Hid (Fr (fun _ => False) w wr) := hfr
      have HM : Hid (MapFn wr Try.prog 82 w.heap.size s.es.length (endsFn s.es)) := hmap
      have HL : Hid (LogAt wr B lb bm v n s) := hfr.logAt H.out id id (fun _ _ => id)
      have HN : Hid (((s.got (LogS.start f) k).length : Int) ≤ max m 0) := hlen
      have HG : Hid ((s.got (LogS.start f) k).length ≤ k - LogS.start f) := s.got_length _ _ hk1
      have hsz := hfr.size
      have k0 : wr.cell? ⟨lb, 0, none⟩ = some v := by rw [cell_of_cells HL.out.blk]; rfl
      clear hown hfr hmap hlen
      by_cases hst : k < s.stable
      · by_cases hm2 : ((s.got (LogS.start f) k).length : Int) < m
        · have hke : k < s.es.length := Nat.lt_of_lt_of_le hst HS.out
          obtain ⟨e, he⟩ : ∃ e, s.es[k]? = some e := ⟨_, List.getElem?_eq_getElem hke⟩
          rcases row_form HL.out.row with ⟨_, h0⟩ | ⟨g, cap, rfl, hlc, hcm, hBg, hg⟩
          · rw [h0] at hke; simp at hke
          · unfold maxLen at hcm
            obtain ⟨r0, r1, r2, r3⟩ := row_cells HL.out.row he
            obtain ⟨kl, hkl⟩ := key82 (HW.out e (List.mem_of_getElem? he)).1 (HW.out e (List.mem_of_getElem? he)).2
            have hlk : ∀ o, (Instr.lookup 79 (.map (some w.heap.size)) (.agg #[.int .i64 e.p, .int .i64 e.t]) false).run Try.prog (wr.alloc o) = .ok (.int .i64 ((fate s.es e.p e.t).getD 0)) (wr.alloc o) := fun o => by
              have := ((nofr o).mapFn HM.out id).look law82 Try.underlying79 (zero3 _) hkl
              rw [endsFn_at] at this
              rw [this]
              cases fate s.es e.p e.t <;> rfl
            have HE : Hid (s.es[k]? = some e) := he
            clear he hkl
            by_cases h1 : e.k = 1
            · by_cases h2 : (fate s.es e.p e.t).getD 0 = 2
              · have HP : Hid (s.got (LogS.start f) (k + 1) = s.got (LogS.start f) k ++ [⟨k, e.p, e.s⟩]) := by
                  show s.got (LogS.start f) (k + 1) = s.got (LogS.start f) k ++ [⟨k, e.p, e.s⟩]
                  rw [s.got_succ hk1, LogS.pick_yes HE.out h1 h2]
                rw [h2] at hlk
                have HK : Hid (k < s.es.length) := hke
                clear h2
                go_wp2_with (at_builtin; refine wpList_append_lies _ rfl _ _ 47 rfl w.heap.size 73 i0 _ 3 32 Try.underlying47 hi0 hz0 hz1 hz2 rfl (by decide) _ (s.got (LogS.start f) k).length (recCells (s.got (LogS.start f) k)) rfl (by exact (HO.out.alloc _).alloc _) ⟨wr.heap.size + 1, 0, none⟩ 1 1 [.int .i64 k, .int .i64 e.p, .string e.s] rfl rfl (World.news_of_block (cs := #[.int .i64 k, .int .i64 e.p, .string e.s]) (t := 73) (fr := (0, 0)) (heap_alloc_new3 _ _ _)) (by simp [Value.oneCell']) (by decide) (by have := HG.out; have := HB.out; have := HK.out; simp only [maxLen]; omega) (by have := HG.out; have := HB.out; have := HK.out; omega) (by simp; omega) (wr.heap.size + 2) (by simp) ?_; intro gg gcap w3 hown3 hgrow3 hat3 hlt3)
                go_roundw
                case rel =>
                  have hfr3 : Fr (fun x => Value.ownBlock (.slice ra (s.got (LogS.start f) k).length rcap) = some x) wr w3 := (((Fr.refl _ _).alloc _).alloc _).grown hgrow3 (fun x ex => .inl ex)
                  refine ⟨k + 1, by omega, by go_num, .inr (by omega), HF.out.trans hfr3 (fun x hx => .inr (HO.out.lt x hx).1), ?_, hfr3.mapFn HM.out (HM.out.ne_row HO.out), ?_⟩
                  · rw [HP.out, recCells_snoc]; simpa [Rec.cs] using hown3
                  · rw [HP.out]; simp; omega
                case measure => simp [intOf]; omega
              · have h2' : ((fate s.es e.p e.t).getD 0 == 2) = false := by simpa using h2
                have HP : Hid (s.got (LogS.start f) (k + 1) = s.got (LogS.start f) k) := by
                  show s.got (LogS.start f) (k + 1) = s.got (LogS.start f) k
                  rw [s.got_succ hk1, LogS.pick_no HE.out (.inr h2), List.append_nil]
                clear h2
                generalize (fate s.es e.p e.t).getD 0 = q at hlk h2'
                go_wp2
                go_roundw
                case rel => exact ⟨k + 1, by omega, by go_num, .inr (by omega), HF.out.alloc _, by rw [HP.out]; exact HO.out.alloc _, (nofr _).mapFn HM.out id, by rw [HP.out]; exact HN.out⟩
                case measure => simp [intOf]; omega
            · have h1' : (e.k == 1) = false := by simpa using h1
              have HP : Hid (s.got (LogS.start f) (k + 1) = s.got (LogS.start f) k) := by
                show s.got (LogS.start f) (k + 1) = s.got (LogS.start f) k
                rw [s.got_succ hk1, LogS.pick_no HE.out (.inl h1), List.append_nil]
              clear hlk
              go_wp2
              go_roundw
              case rel => exact ⟨k + 1, by omega, by go_num, .inr (by omega), HF.out.alloc _, by rw [HP.out]; exact HO.out.alloc _, (nofr _).mapFn HM.out id, by rw [HP.out]; exact HN.out⟩
              case measure => simp [intOf]; omega
        · have HD : Hid (s.fetch f m = s.got (LogS.start f) k) := s.fetch_done hk1 hk2 HN.out (.inr (by omega))
          go_wp2
          go_ret
          exact ⟨_, rfl, by rw [HD.out]; exact HO.out, HF.out⟩
      · have HD : Hid (s.fetch f m = s.got (LogS.start f) k) := s.fetch_done hk1 hk2 HN.out (.inl (by omega))
        go_wp2
        go_ret
        exact ⟨_, rfl, by rw [HD.out]; exact HO.out, HF.out⟩

end Go.Proofs.Ytkelpcjiediamaa
