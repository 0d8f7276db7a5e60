/-
  The walk of Steady.
-/
import Derived.Test.YtkelpcjiediamaaInv
import Derived.Deep.DeepCutAuto
namespace Go.Proofs.Ytkelpcjiediamaa
open Go.RowKit Go.Maps
attribute [local go_sem ↓] Go.wp_at_zero Go.wp_at_succ

/-- A step of a script. -/
structure Stp where
  wh : Int
  k : Int
  p : Int
  t : Int
  s : ByteArray
  c : Bool

def Stp.at_ (w : World) (sb o : Nat) (x : Stp) : Prop :=
  w.cell? ⟨sb, o, none⟩ = some (.int .i64 x.wh) ∧ w.cell? ⟨sb, o + 1, none⟩ = some (.int .i64 x.k) ∧ w.cell? ⟨sb, o + 2, none⟩ = some (.int .i64 x.p) ∧
  w.cell? ⟨sb, o + 3, none⟩ = some (.int .i64 x.t) ∧ w.cell? ⟨sb, o + 4, none⟩ = some (.string x.s) ∧ w.cell? ⟨sb, o + 5, none⟩ = some (.bool x.c)

/-- A script in memory. -/
def StepsAt (w : World) (ao : Option Addr) (sts : List Stp) : Prop :=
  ∀ (i : Nat) x, sts[i]? = some x → ∃ sb so, ao = some ⟨sb, so, none⟩ ∧ sb < w.heap.size ∧ x.at_ w sb (so + i * 6) ∧ I64 x.p ∧ I64 x.t ∧ x.s.size ≤ maxLen

theorem StepsAt.keep {w w' : World} {ao : Option Addr} {sts : List Stp} (h : StepsAt w ao sts) (hb : Below w.heap.size w w') : StepsAt w' ao sts := by
  intro i x hx
  obtain ⟨sb, so, h1, h2, ⟨c0, c1, c2, c3, c4, c5⟩, h4⟩ := h i x hx
  have k : ∀ o, w'.cell? ⟨sb, o, none⟩ = w.cell? ⟨sb, o, none⟩ := fun o => hb.cell (p := ⟨sb, o, none⟩) h2
  exact ⟨sb, so, h1, Nat.lt_of_lt_of_le h2 hb.size, ⟨by rw [k]; exact c0, by rw [k]; exact c1, by rw [k]; exact c2, by rw [k]; exact c3, by rw [k]; exact c4, by rw [k]; exact c5⟩, h4⟩

def firstText : ByteArray := ⟨#[102, 105, 114, 115, 116]⟩
def S0 : LogS := ⟨[], 0, fun _ => none⟩
def S1 : LogS := S0.opened 0 1
def S2 : LogS := S1.appended 0 1 firstText
def S3 : LogS := S2.closed 0 1 true

theorem S0_can : S0.canOpen 0 1 = true := rfl
theorem S1_eq : S1 = S0.set 0 1 true := by simp [S1, LogS.opened, S0_can]
theorem S1_code : S1.appendCode 0 1 firstText = 0 := by
  have h1 : S1.isOpen 0 1 = true := by rw [S1_eq]; simp [LogS.isOpen, LogS.set]
  have h2 : S1.d = 0 := by rw [S1_eq]; simp [LogS.set, S0]
  have h3 : firstText.size = 5 := rfl
  simp [LogS.appendCode, h1, h2, h3]
theorem S2_eq : S2 = { (S1.put ⟨1, 0, 1, firstText⟩) with d := S1.d + 1 } := by simp [S2, LogS.appended, S1_code]
theorem S2_open : S2.isOpen 0 1 = true := by
  rw [S2_eq, S1_eq]
  simp [LogS.isOpen, LogS.put, LogS.set]
theorem S3_eq : S3 = (S2.put ⟨2, 0, 1, ⟨#[]⟩⟩).set 0 1 false := by simp [S3, LogS.closed, S2_open, LogS.closeKind]
theorem S3_es : S3.es = [⟨1, 0, 1, firstText⟩, ⟨2, 0, 1, ⟨#[]⟩⟩] := by
  rw [S3_eq, S2_eq, S1_eq]
  simp [LogS.put, LogS.set, S0]
theorem S3_nw : S3.nw 0 = some (1, false) := by rw [S3_eq]; simp [LogS.set]

theorem i64_0 : I64 0 := by show (Lit.int .i64 0).wf = true; decide
theorem i64_1 : I64 1 := by show (Lit.int .i64 1).wf = true; decide

theorem S3_inv : Inv S3 := (closed_ok (appended_ok (opened_ok inv_new 0 1).1 0 1 firstText i64_0 i64_1).1 0 1 true i64_0 i64_1).1

theorem S3_got : 1 ≤ (S3.got 0 S3.stable).length := by
  have hs : S3.stable = 2 := by
    refine (findIdx_none _ _ (fun j x hx => ?_)).trans (by rw [S3_es]; rfl)
    rw [S3_es] at hx
    have ho : S3.isOpen 0 1 = false := by rw [isOpen_no, S3_nw]; simp
    match j, hx with
    | 0, hx => simp at hx; subst hx; simp [LogS.blocked, ho]
    | 1, hx => simp at hx; subst hx; simp [LogS.blocked]
    | j + 2, hx => simp at hx
  have hf : fate S3.es 0 1 = some 2 := by rw [S3_es]; simp [fate]
  have hp : S3.pick 0 = [⟨0, 0, firstText⟩] := by
    have h0 : S3.es[0]? = some ⟨1, 0, 1, firstText⟩ := by rw [S3_es]; rfl
    simp [LogS.pick, h0, LogS.picks, hf]
  obtain ⟨t, ht⟩ := S3.got_prefix (a := 0) (k := 1) (by omega) 1
  rw [hs, ht, S3.got_succ (by omega), hp]
  simp
  omega

/-- The loop's relation. -/
structure SRel (w : World) (sts : List Stp) (s : LogS) (v gv : Value) (rs : List Rec) (k sst n0 : Nat) (w' : World) : Prop where
  kl : k ≤ sts.length + 1
  log : LogAt w' w.heap.size (w.heap.size + 1) w.heap.size v (k + 3) s
  inv : Inv s
  len : s.es.length ≤ k + 2
  fr : Fr (fun x => w.heap.size ≤ x) w w'
  row : w'.ownsRow w.heap.size 73 3 gv rs.length (recCells rs)
  pre : ∃ t, s.got 0 s.stable = rs ++ t
  st : sst ≤ s.stable
  n0 : n0 ≤ s.es.length
  one : 1 ≤ (s.got 0 s.stable).length

/-- Behind the switch. -/
structure SMid (w : World) (s s' : LogS) (v gv : Value) (rs : List Rec) (k : Nat) (w' : World) : Prop where
  log : LogAt w' w.heap.size (w.heap.size + 1) w.heap.size v (k + 4) s'
  inv : Inv s'
  len : s'.es.length ≤ k + 3
  ext : Ext s s'
  fr : Fr (fun x => w.heap.size ≤ x) w w'
  row : w'.ownsRow w.heap.size 73 3 gv rs.length (recCells rs)

theorem row73_ne {w : World} {B B' lb bm n : Nat} {v gv : Value} {s : LogS} {rs : List Rec} (h : LogAt w B lb bm v n s) (hr : w.ownsRow B' 73 3 gv rs.length (recCells rs)) :
    ∀ k, gv.ownBlock = some k → ¬ (k = lb ∨ k = bm ∨ v.ownBlock = some k) := by
  intro k hk
  rcases hr.2 with ⟨rfl, _⟩ | ⟨g, cap, cur, rfl, _, hg, _⟩
  · simp [Value.ownBlock] at hk
  · simp [Value.ownBlock] at hk
    subst hk
    rintro (e | e | e)
    · have h1 := h.blk
      rw [← e, hg] at h1
      cases h1
    · subst e
      obtain ⟨D, ⟨es, clock, hb, _⟩, _⟩ := h.map
      rw [hg] at hb; cases hb
    · rcases h.row.2 with ⟨rfl, _⟩ | ⟨g2, cap2, cur2, rfl, _, hg2, _⟩
      · simp [Value.ownBlock] at e
      · simp [Value.ownBlock] at e
        subst e
        rw [hg] at hg2; cases hg2

theorem Left.far {w0 w w' : World} {lb bm n n' : Nat} {v v' : Value} {s s' : LogS} (h : LogAt w w0.heap.size lb bm v n s) (l : Left w w' w0.heap.size lb bm v v' n' s') (f : Fr (fun x => w0.heap.size ≤ x) w0 w) : Fr (fun x => w0.heap.size ≤ x) w0 w' :=
  f.trans l.fr (fun i hi => .inl (by
    rcases hi with e | e | e
    · rw [e]; exact h.hl
    · rw [e]; exact h.hm
    · exact (h.row.lt i e).1))

theorem SRel.mid {w w1 w' : World} {sts : List Stp} {s s' : LogS} {v v' gv : Value} {rs : List Rec} {k sst n0 : Nat} (h : SRel w sts s v gv rs k sst n0 w1) (l : Left w1 w' w.heap.size (w.heap.size + 1) w.heap.size v v' (k + 4) s')
    (hi : Inv s' ∧ Ext s s') (hlen : s'.es.length ≤ s.es.length + 1) : SMid w s s' v' gv rs k w' :=
  ⟨l.log, hi.1, by have := h.len; omega, hi.2, l.far h.log h.fr, l.fr.ownsRow h.row (row73_ne h.log h.row)⟩

theorem SRel.drew {w w1 : World} {sts : List Stp} {s : LogS} {v gv : Value} {rs : List Rec} {k sst n0 : Nat} (h : SRel w sts s v gv rs k sst n0 w1) : SRel w sts s v gv rs k sst n0 w1.drew :=
  have f : Fr (fun _ => False) w1 w1.drew := (Fr.refl _ _).drew
  ⟨h.kl, f.logAt h.log id id (fun _ _ => id), h.inv, h.len, h.fr.drew, f.ownsRow h.row (fun _ _ => id), h.pre, h.st, h.n0, h.one⟩

theorem Left.cell {w w' : World} {B lb bm n : Nat} {v v' : Value} {s s' : LogS} (l : Left w w' B lb bm v v' n s') {n0 : Nat} (h : LogAt w B lb bm v n0 s) {sb o : Nat} (hsb : sb < B) : w'.cell? ⟨sb, o, none⟩ = w.cell? ⟨sb, o, none⟩ :=
  l.fr.cell (p := ⟨sb, o, none⟩) (by have := h.lt; have := h.hl; show sb < _; omega) (by
    rintro (e | e | e)
    · have := h.hl; simp only at e; omega
    · have := h.hm; simp only at e; omega
    · have := (h.row.lt _ e).1; simp only at this; omega)

theorem SRel.stay {w w1 : World} {sts : List Stp} {s : LogS} {v gv : Value} {rs : List Rec} {k sst n0 : Nat} (h : SRel w sts s v gv rs k sst n0 w1) (q : Nat) : SMid w s s v gv rs k (w1.drewN q) :=
  have f : Fr (fun _ => False) w1 (w1.drewN q) := (Fr.refl _ _).drewN q
  ⟨f.logAt (h.log.mono (by omega)) id id (fun _ _ => id), h.inv, by have := h.len; omega, Ext.refl s, h.fr.drewN q, f.ownsRow h.row (fun _ _ => id)⟩

theorem opened_len (s : LogS) (p t : Int) : (s.opened p t).es.length ≤ s.es.length + 1 := by unfold LogS.opened; split <;> simp [LogS.set]
theorem appended_len (s : LogS) (p t : Int) (x : ByteArray) : (s.appended p t x).es.length ≤ s.es.length + 1 := by unfold LogS.appended; split <;> simp [LogS.put]
theorem closed_len (s : LogS) (p t : Int) (c : Bool) : (s.closed p t c).es.length ≤ s.es.length + 1 := by unfold LogS.closed; split <;> simp [LogS.put, LogS.set]

theorem open_left {w : World} {B lb bm n : Nat} {v : Value} {s : LogS} (h : LogAt w B lb bm v n s) (p t : Int) (hp : I64 p) (hn : n < maxLen) :
    Calls Try.prog 9 #[.pointer (some ⟨lb, 0, none⟩), .int .i64 p, .int .i64 t] w fun e w' => e = .returned (.bool (s.canOpen p t)) ∧ Left w w' B lb bm v v (n + 1) (s.opened p t) :=
  (open_any h p t hp hn).mono fun _ _ ⟨h1, h2, h3⟩ => ⟨h1, h2, h3.mono (fun _ e => .inl (.inr (.inl e))), fun _ hk => .inl hk⟩

theorem append_left {w : World} {B lb bm n : Nat} {v : Value} {s : LogS} (h : LogAt w B lb bm v n s) (p t : Int) (x : ByteArray) (hp : I64 p) (hx : x.size ≤ maxLen) (hb : (s.es.length + 1) * 40 ≤ 140737488355328) :
    Calls Try.prog 10 #[.pointer (some ⟨lb, 0, none⟩), .int .i64 p, .int .i64 t, .string x] w fun e w' => e = .returned (.int .i64 (s.appendCode p t x)) ∧ ∃ v', Left w w' B lb bm v v' (n + 1) (s.appended p t x) :=
  (append_any h p t x hp hx hb).mono fun _ _ ⟨h1, v', h2⟩ => ⟨h1, v', h2.log.mono (by omega), h2.fr, h2.lies⟩

set_option maxRecDepth 100000 in
set_option maxHeartbeats 1600000 in
theorem steady_any {w : World} {ao : Option Addr} {cap : Nat} {sts : List Stp} (hst : StepsAt w ao sts) (hlen : sts.length * 56 ≤ 140737488351232) :
    Calls Try.prog 4 #[.slice ao sts.length cap] w fun e w' => e = .returned (.bool true) ∧ Below w.heap.size w w' := by
  have HS : Hid (StepsAt w ao sts) := hst
  have hnil : ∀ (wx : World) (a : Addr), (binOp .eql 23 (.pointer (some a)) (.pointer none)).run Try.prog wx = .ok (.bool false) wx := fun wx a => by go_simp
  clear hst
  go_enter Try.func4, Try.ntmps4
  go_wp2_with (first
    | (go_at_call 5; refine (new_any _).mono ?_; rintro e w1 ⟨rfl, hl1, hf1⟩; have HL1 : Hid (LogAt w1 w.heap.size (w.heap.size + 1) w.heap.size (.slice none 0 0) 0 S0) := hl1; have HF1 : Hid (Fr (fun _ => False) w w1) := hf1; clear hl1 hf1)
    | (go_at_call 9; refine (open_left HL1.out 0 1 i64_0 (by decide)).mono ?_; rintro e w2 ⟨rfl, hl2⟩; rw [S0_can]; have HL2 : Hid (Left w1 w2 w.heap.size (w.heap.size + 1) w.heap.size (.slice none 0 0) (.slice none 0 0) 1 S1) := hl2; clear hl2)
    | (go_at_call 10; refine (append_left HL2.out.log 0 1 firstText i64_0 (by decide) (by decide)).mono ?_; rintro e w3 ⟨rfl, v3, hl3⟩; rw [S1_code]; have HL3 : Hid (Left w2 w3 w.heap.size (w.heap.size + 1) w.heap.size (.slice none 0 0) v3 2 S2) := hl3; clear hl3)
    | (go_at_call 11; refine (close_any HL3.out.log 0 1 true i64_0 (by decide) (by decide)).mono ?_; rintro e w4 ⟨rfl, v4, hl4⟩; rw [S2_open]; have HL4 : Hid (Left w3 w4 w.heap.size (w.heap.size + 1) w.heap.size v3 v4 3 S3) := hl4; clear hl4))
  go_loopw [7, 8, 9, 10] (fun st gv nn iv w' => ∃ s v rs k sst n0, ∃ i : Int, SRel w sts s v gv rs k sst n0 w' ∧ st = .int .i64 (sst : Nat) ∧ nn = .int .i64 (n0 : Nat) ∧ iv = .int .i64 i ∧ i = (k : Int) - 1) (fun _ _ _ iv _ => (sts.length - intOf iv).toNat)
  case atStart =>
    refine ⟨S3, v4, [], 0, 0, 0, -1, ⟨by omega, HL4.out.log, S3_inv, by rw [S3_es]; simp, ?_, World.ownsRow_nil _ _ _ _, ⟨_, rfl⟩, by omega, by omega, S3_got⟩, rfl, rfl, rfl, rfl⟩
    exact HL4.out.far HL3.out.log (HL3.out.far HL2.out.log (HL2.out.far HL1.out (HF1.out.mono (fun _ h => h.elim))))
  case round =>
    obtain ⟨s, v, rs, k, sst, n0, i, hrel, rfl, rfl, rfl, hi⟩ := hrel
    have HR : Hid (SRel w sts s v u8 rs k sst n0 wr) := hrel
    have HI : Hid (i = (k : Int) - 1) := hi
    have hkl := hrel.kl
    have hi0 : -1 ≤ i := by omega
    have hi1 : i ≤ (sts.length : Int) := by omega
    clear hrel hi
    by_cases hlt : i < (sts.length : Int)
    · go_upto_if 42 with (fail)
      go_cut [] (fun wc => ∃ v' s', SMid w s s' v' u8 rs k wc)
      case first =>
        by_cases hneg : 0 ≤ i
        · obtain ⟨j, rfl⟩ := Int.eq_ofNat_of_zero_le hneg
          obtain ⟨x, hx⟩ : ∃ x, sts[j]? = some x := ⟨_, List.getElem?_eq_getElem (by omega)⟩
          have hbel : Below w.heap.size w wr := HR.out.fr.below (Nat.le_refl _) (fun _ h => h)
          obtain ⟨sb, so, rfl, hsb, ⟨x0, x1, x2, x3, x4, x5⟩, hxp, hxt, hxs⟩ := HS.out j x hx
          have kk : ∀ o, wr.cell? ⟨sb, o, none⟩ = w.cell? ⟨sb, o, none⟩ := fun o => hbel.cell (p := ⟨sb, o, none⟩) hsb
          have y1 := (kk _).trans x1
          have y2 := (kk _).trans x2
          have y3 := (kk _).trans x3
          have y4 := (kk _).trans x4
          have y5 := (kk _).trans x5
          have HXP : Hid (I64 x.p) := hxp
          have HXT : Hid (I64 x.t) := hxt
          have HXS : Hid (x.s.size ≤ maxLen) := hxs
          have HN : Hid (k + 3 < maxLen) := by show k + 3 < maxLen; simp only [maxLen]; omega
          have HB : Hid ((s.es.length + 1) * 40 ≤ 140737488355328) := by have := HR.out.len; show (s.es.length + 1) * 40 ≤ 140737488355328; omega
          clear x0 x1 x2 x3 x4 x5 kk hx hxp hxt hxs hbel
          go_wp2_with fail
          · go_region_held3 (fun w' => w'.cell? ⟨sb, so + j * 6 + 2, none⟩ = some (.int .i64 x.p) ∧ w'.cell? ⟨sb, so + j * 6 + 3, none⟩ = some (.int .i64 x.t))
              (first
                | go_keep
                | (go_split_ands
                   refine ⟨?_, ?_⟩
                   · (rw [hl2.cell HR.out.drew.log hsb]; assumption)
                   · (rw [hl2.cell HR.out.drew.log hsb]; assumption)))
              ((go_at_call 9; refine (open_left HR.out.drew.log x.p x.t HXP.out HN.out).mono ?_; rintro e w2 ⟨rfl, hl2⟩))
            go_wp2
            go_meet
            case rel => exact ⟨v, _, HR.out.drew.mid hl2 (opened_ok HR.out.inv _ _) (opened_len _ _ _)⟩
          · go_region_held3 (fun w' => w'.cell? ⟨sb, so + j * 6 + 2, none⟩ = some (.int .i64 x.p) ∧ w'.cell? ⟨sb, so + j * 6 + 3, none⟩ = some (.int .i64 x.t) ∧ w'.cell? ⟨sb, so + j * 6 + 4, none⟩ = some (.string x.s))
              (first
                | go_keep
                | (go_split_ands
                   refine ⟨?_, ?_, ?_⟩
                   · (rw [hl2.cell HR.out.drew.log hsb]; assumption)
                   · (rw [hl2.cell HR.out.drew.log hsb]; assumption)
                   · (rw [hl2.cell HR.out.drew.log hsb]; assumption)))
              ((go_at_call 10; refine (append_left HR.out.drew.log x.p x.t x.s HXP.out HXS.out HB.out).mono ?_; rintro e w2 ⟨rfl, v2, hl2⟩))
            go_wp2
            go_meet
            case rel => exact ⟨v2, _, HR.out.drew.mid hl2 (appended_ok HR.out.inv _ _ _ HXP.out HXT.out) (appended_len _ _ _ _)⟩
          · go_region_held3 (fun w' => w'.cell? ⟨sb, so + j * 6 + 2, none⟩ = some (.int .i64 x.p) ∧ w'.cell? ⟨sb, so + j * 6 + 3, none⟩ = some (.int .i64 x.t) ∧ w'.cell? ⟨sb, so + j * 6 + 5, none⟩ = some (.bool x.c))
              (first
                | go_keep
                | (go_split_ands
                   refine ⟨?_, ?_, ?_⟩
                   · (rw [hl2.cell HR.out.drew.log hsb]; assumption)
                   · (rw [hl2.cell HR.out.drew.log hsb]; assumption)
                   · (rw [hl2.cell HR.out.drew.log hsb]; assumption)))
              ((go_at_call 11; refine (close_any HR.out.drew.log x.p x.t x.c HXP.out HN.out HB.out).mono ?_; rintro e w2 ⟨rfl, v2, hl2⟩))
            go_wp2
            go_meet
            case rel => exact ⟨v2, _, HR.out.drew.mid hl2 (closed_ok HR.out.inv _ _ _ HXP.out HXT.out) (closed_len _ _ _ _)⟩
          · go_meet
            case rel => exact ⟨v, s, HR.out.stay 0⟩
        · go_wp2
          go_meet
          case rel => exact ⟨v, s, HR.out.stay 0⟩
      case rest =>
        obtain ⟨v', s', hmid⟩ := hcut
        have HM : Hid (SMid w s s' v' u8 rs k wc) := hmid
        have HB : Hid (s'.es.length * 40 ≤ 140737488355328) := by have := hmid.len; show s'.es.length * 40 ≤ 140737488355328; omega
        clear hmid
        obtain ⟨t1, ht1⟩ := HR.out.pre
        obtain ⟨t2, ht2⟩ := HM.out.ext.got
        have HG : Hid (s'.got 0 s'.stable = rs ++ (t1 ++ t2)) := by show s'.got 0 s'.stable = rs ++ (t1 ++ t2); rw [ht2, ht1, List.append_assoc]
        have HFA := fetch_all HM.out.inv
        have hst : sst ≤ s'.stable := Nat.le_trans HR.out.st HM.out.ext.stable
        have hn0 : n0 ≤ s'.es.length := Nat.le_trans HR.out.n0 HM.out.ext.length
        have hone : 1 ≤ (s'.got 0 s'.stable).length := by have := HR.out.one; rw [ht2]; simp; omega
        have hsl := s'.stable_le
        clear ht1 ht2
        go_wp2_with fail
        refine (stable_any HM.out.log HM.out.inv.wf).mono ?_
        rintro e w5 ⟨rfl, hf5⟩
        have L5 : Hid (LogAt w5 w.heap.size (w.heap.size + 1) w.heap.size v' (k + 4) s') := hf5.logAt HM.out.log id id (fun _ _ => id)
        have R5 : Hid (w5.ownsRow w.heap.size 73 3 u8 rs.length (recCells rs)) := hf5.ownsRow HM.out.row (fun _ _ => id)
        have F5 : Hid (Fr (fun x => w.heap.size ≤ x) w w5) := HM.out.fr.trans hf5 (fun _ h => h.elim)
        clear hf5
        go_wp2_with fail
        refine (entries_any L5.out HB.out).mono ?_
        rintro e w6 ⟨v6, rfl, ho6, hf6⟩
        have L6 : Hid (LogAt w6 w.heap.size (w.heap.size + 1) w.heap.size v' (k + 4) s') := hf6.logAt L5.out id id (fun _ _ => id)
        have R6 : Hid (w6.ownsRow w.heap.size 73 3 u8 rs.length (recCells rs)) := hf6.ownsRow R5.out (fun _ _ => id)
        have F6 : Hid (Fr (fun x => w.heap.size ≤ x) w w6) := F5.out.trans hf6 (fun _ h => h.elim)
        have O6 : Hid (w6.ownsRow w5.heap.size 69 4 v6 s'.es.length (entCells s'.es)) := ho6
        obtain ⟨a6, c6, rfl⟩ : ∃ a c, v6 = .slice a s'.es.length c := by
          rcases row_form ho6 with ⟨h1, h2⟩ | ⟨g, cap, h1, _⟩
          · exact ⟨none, 0, by rw [h1, h2]; rfl⟩
          · exact ⟨_, _, h1⟩
        clear hf6 ho6
        go_wp2_with fail
        refine (fetch_any L6.out HM.out.inv.wf HB.out 0 1000).mono ?_
        rintro e w7 ⟨v7, rfl, ho7, hf7⟩
        rw [HFA] at ho7
        have L7 : Hid (LogAt w7 w.heap.size (w.heap.size + 1) w.heap.size v' (k + 4) s') := hf7.logAt L6.out id id (fun _ _ => id)
        have R7 : Hid (w7.ownsRow w.heap.size 73 3 u8 rs.length (recCells rs)) := hf7.ownsRow R6.out (fun _ _ => id)
        have F7 : Hid (Fr (fun x => w.heap.size ≤ x) w w7) := F6.out.trans hf7 (fun _ h => h.elim)
        have O7 : Hid (w7.ownsRow w5.heap.size 69 4 (.slice a6 s'.es.length c6) s'.es.length (entCells s'.es)) := hf7.ownsRow O6.out (fun _ _ => id)
        have P7 : Hid (w7.ownsRow w6.heap.size 73 3 v7 (s'.got 0 s'.stable).length (recCells (s'.got 0 s'.stable))) := ho7
        have Z7 : Hid (w.heap.size ≤ w6.heap.size) := F6.out.size
        obtain ⟨a7, c7, rfl⟩ := row3_len ho7
        clear hf7 ho7
        go_wp2_with fail
        refine (begins_any (recsAt_of R7.out) (by have := recsAt_of P7.out; rw [HG.out] at this; rw [HG.out]; exact this)).mono ?_
        rintro e w8 ⟨rfl, q8, rfl⟩
        have D8 : Fr (fun _ => False) w7 (w7.drewN q8) := (Fr.refl _ _).drewN q8
        have O8 : Hid ((w7.drewN q8).ownsRow w5.heap.size 69 4 (.slice a6 s'.es.length c6) s'.es.length (entCells s'.es)) := D8.ownsRow O7.out (fun _ _ => id)
        have P8 : Hid ((w7.drewN q8).ownsRow w6.heap.size 73 3 (.slice a7 (s'.got 0 s'.stable).length c7) (s'.got 0 s'.stable).length (recCells (s'.got 0 s'.stable))) := D8.ownsRow P7.out (fun _ _ => id)
        clear D8
        go_wp2_with fail
        refine (within_any (entsAt_of O8.out) (recsAt_of P8.out) hsl (settled_ok HM.out.inv)).mono ?_
        rintro e w9 ⟨rfl, q9, rfl⟩
        have D9 : Fr (fun _ => False) w7 (w7.drewN (q8 + q9)) := (Fr.refl _ _).drewN (q8 + q9)
        have X9 : Hid (SRel w sts s' v' (.slice a7 (s'.got 0 s'.stable).length c7) (s'.got 0 s'.stable) (k + 1) s'.stable s'.es.length (w7.drewN (q8 + q9))) := by
          have hP := P7.out
          refine ⟨by have := HI.out; omega, D9.logAt L7.out id id (fun _ _ => id), HM.out.inv, by have := HM.out.len; omega, F7.out.trans D9 (fun _ h => h.elim), D9.ownsRow ?_ (fun _ _ => id), ⟨[], by simp⟩, Nat.le_refl _, Nat.le_refl _, hone⟩
          refine ⟨hP.1, ?_⟩
          rcases hP.2 with h1 | ⟨g, cap, cur, h1, h2, h3⟩
          · exact .inl h1
          · exact .inr ⟨g, cap, cur, h1, Nat.le_trans Z7.out h2, h3⟩
        clear D9 HFA
        generalize (s'.got 0 s'.stable) = gs at *
        go_wp2
        go_roundw
        case rel => exact ⟨s', v', gs, k + 1, s'.stable, s'.es.length, i + 1, X9.out, rfl, rfl, rfl, by have := HI.out; omega⟩
        case measure => simp [intOf]; omega
    · go_wp2
      go_ret
      exact ⟨rfl, HR.out.fr.below (Nat.le_refl _) (fun _ h => h)⟩

end Go.Proofs.Ytkelpcjiediamaa
