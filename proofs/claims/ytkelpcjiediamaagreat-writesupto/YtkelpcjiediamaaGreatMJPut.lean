/-
  Numbers and their bytes.
-/
import Derived.Test.YtkelpcjiediamaaGreatMBytes
import Derived.Test.YtkelpcjiediamaaGreatDeeds
namespace Go.Proofs.YtkelpcjiediamaaGreat
open Go.RowKit Go.Maps

/-- A number's bytes, the highest first. -/
theorem wbytes_cons (m k : Nat) : wbytes m (k + 1) = UInt8.ofNat (m / 256 ^ k % 256) :: wbytes m k := by
  induction k generalizing m with
  | zero => simp [wbytes]
  | succ k ih =>
    rw [wbytes, ih (m / 256)]
    show UInt8.ofNat (m / 256 / 256 ^ k % 256) :: wbytes (m / 256) k ++ [UInt8.ofNat (m % 256)] = _
    rw [Nat.div_div_eq_div_mul, Nat.pow_succ, Nat.mul_comm]
    rfl

theorem wbytes_get (m k i : Nat) (h : i < k) : (wbytes m k)[i]? = some (UInt8.ofNat (m / 256 ^ (k - 1 - i) % 256)) := by
  induction k generalizing i with
  | zero => omega
  | succ k ih =>
    rw [wbytes_cons]
    match i with
    | 0 => simp
    | i + 1 =>
      rw [List.getElem?_cons_succ, ih i (by omega)]
      have : k - 1 - i = k + 1 - 1 - (i + 1) := by omega
      rw [this]

/-- The number that bytes spell. -/
def numOf (l : List UInt8) : Nat := l.foldl (fun n x => n * 256 + x.toNat) 0

theorem numOf_snoc (l : List UInt8) (x : UInt8) : numOf (l ++ [x]) = numOf l * 256 + x.toNat := by simp [numOf, List.foldl_append]

theorem numOf_lt (l : List UInt8) : numOf l < 256 ^ l.length := by
  suffices h : ∀ (k : Nat) (l : List UInt8), l.length = k → numOf l < 256 ^ k from h _ l rfl
  intro k
  induction k with
  | zero => intro l hl; rw [List.length_eq_zero_iff.1 hl]; simp [numOf]
  | succ k ih =>
    intro l hl
    have hne : l ≠ [] := fun e => by simp [e] at hl
    rw [← List.dropLast_concat_getLast hne, numOf_snoc]
    have h1 := ih l.dropLast (by simp [hl])
    have h2 := (l.getLast hne).toNat_lt
    rw [Nat.pow_succ]
    simp at h2
    omega

theorem numOf_wbytes (m k : Nat) : numOf (wbytes m k) = m % 256 ^ k := by
  induction k generalizing m with
  | zero => simp [wbytes, numOf, Nat.mod_one]
  | succ k ih =>
    rw [wbytes, numOf_snoc, ih, Nat.pow_succ, Nat.mul_comm (256 ^ k), Nat.mod_mul]
    simp
    omega

theorem numOf_wbytes_of_lt {m k : Nat} (h : m < 256 ^ k) : numOf (wbytes m k) = m := by rw [numOf_wbytes, Nat.mod_eq_of_lt h]

end Go.Proofs.YtkelpcjiediamaaGreat

/-
  The program's journal: sums and numbers out of bytes; whether a record is whole.
-/
namespace Go.Proofs.YtkelpcjiediamaaGreat
open Go.RowKit Go.Maps

def asum (l : List UInt8) : Int := (adler l).2 * 65536 + (adler l).1

theorem wrap_u32 {n : Int} (h0 : 0 ≤ n) (hm : n < 4294967296) : IntKind.u32.wrap n = n := by
  unfold IntKind.wrap
  simp [IntKind.bits, IntKind.signed]
  omega
theorem wrap_u64 {n : Int} (h0 : 0 ≤ n) (hm : n < 18446744073709551616) : IntKind.u64.wrap n = n := by
  unfold IntKind.wrap
  simp [IntKind.bits, IntKind.signed]
  omega

/-- The cells from ⟨g, o⟩ on hold these bytes. -/
def Bts (w : World) (g o : Nat) (l : List UInt8) : Prop := ∀ j x, l[j]? = some x → w.cell? ⟨g, o + j, none⟩ = some (.int .u8 x.toNat)

set_option maxRecDepth 100000 in
set_option maxHeartbeats 800000 in
theorem sum_any {w : World} {g o cap : Nat} {l : List UInt8} (h : Bts w g o l) (hl : l.length ≤ 1000) :
    Calls Tryz.prog 195 #[.slice (some ⟨g, o, none⟩) l.length cap] w fun e w' => e = .returned (.int .u32 (asum l)) ∧ w = w' := by
  have HB : Hid (Bts w g o l) := h
  obtain ⟨n, hn⟩ : ∃ n, l.length = n := ⟨_, rfl⟩
  rw [hn] at hl ⊢
  clear h
  go_enter Tryz.func195, Tryz.ntmps195
  go_wp2_with fail
  go_loopw [3, 4, 9] (fun a b i w' => ∃ k : Nat, k ≤ n ∧ i = .int .i64 k ∧ a = .int .u32 (adler (l.take k)).1 ∧ b = .int .u32 (adler (l.take k)).2 ∧ w = w') (fun _ _ i _ => (n - intOf i).toNat)
  case atStart => exact ⟨0, by omega, rfl, rfl, rfl, rfl⟩
  case round =>
    obtain ⟨k, hk, rfl, rfl, rfl, rfl⟩ := hrel
    by_cases hlt : k < n
    · obtain ⟨c, hc⟩ : ∃ c, l[k]? = some c := ⟨_, List.getElem?_eq_getElem (by omega)⟩
      have hcell := HB.out k c hc
      have HA : Hid (adler (l.take (k + 1)) = adl (adler (l.take k)) c) := by show adler (l.take (k + 1)) = _; rw [List.take_add_one, hc, Option.toList_some, adler_snoc]
      have HIN := adler_in (l.take k)
      generalize adler (l.take k) = ab at HA HIN
      obtain ⟨a, b⟩ := ab
      simp only at HIN ⊢
      obtain ⟨i1, i2, i3, i4⟩ := HIN
      obtain ⟨x, hx⟩ : ∃ x : Int, (c.toNat : Int) = x := ⟨_, rfl⟩
      rw [hx] at hcell
      have hx0 : 0 ≤ x := by omega
      have hx1 : x < 256 := by have := c.toNat_lt; omega
      obtain ⟨a1, ha1⟩ : ∃ a1 : Int, (a + x) % 65521 = a1 := ⟨_, rfl⟩
      obtain ⟨b1, hb1⟩ : ∃ b1 : Int, (b + a1) % 65521 = b1 := ⟨_, rfl⟩
      have q1 : IntKind.u32.wrap (a + x) = a + x := wrap_u32 (by omega) (by omega)
      have q2 : (a + x).tmod 65521 = a1 := by rw [Int.tmod_eq_emod_of_nonneg (by omega)]; exact ha1
      have q3 : IntKind.u32.wrap (b + a1) = b + a1 := wrap_u32 (by omega) (by omega)
      have q4 : (b + a1).tmod 65521 = b1 := by rw [Int.tmod_eq_emod_of_nonneg (by omega)]; exact hb1
      have q5 : IntKind.u32.wrap x = x := wrap_u32 hx0 (by omega)
      have q6 : IntKind.u32.wrap a1 = a1 := wrap_u32 (by omega) (by omega)
      have q7 : IntKind.u32.wrap b1 = b1 := wrap_u32 (by omega) (by omega)
      have HA2 : Hid (adler (l.take (k + 1)) = (a1, b1)) := by show adler (l.take (k + 1)) = (a1, b1); rw [HA.out]; simp only [adl]; rw [hx, ha1, hb1]
      have hk0 : (0 : Int) ≤ (k : Int) := by omega
      have hk1 : (k : Int) < n := by omega
      clear HA ha1 hb1 i1 i2 i3 i4 hx0 hx1 hc
      go_wp2_with fail

      go_roundw
      case rel => exact ⟨k + 1, by omega, by go_num, by rw [HA2.out], by rw [HA2.out], trivial⟩
      case measure => simp [intOf]; omega
    · have hkn : k = n := by omega
      have HT : Hid (l.take k = l) := List.take_of_length_le (by omega)
      subst hkn
      have HIN := adler_in l
      have HE : Hid (asum l = (adler l).2 * 65536 + (adler l).1) := rfl
      rw [HT.out]
      generalize adler l = ab at HIN HE
      obtain ⟨a, b⟩ := ab
      simp only at HIN ⊢
      obtain ⟨i1, i2, i3, i4⟩ := HIN
      have q1 : IntKind.u32.wrap (b * 65536) = b * 65536 := wrap_u32 (by omega) (by omega)
      have q2 : IntKind.u32.wrap (b * 65536 + a) = b * 65536 + a := wrap_u32 (by omega) (by omega)
      clear i1 i2 i3 i4
      go_wp2_with fail
      go_ret
      exact ⟨by rw [HE.out]; rfl, rfl⟩

theorem or_u64 {n x : Nat} (hn : n < 72057594037927936) (hx : x < 256) : (BitVec.ofInt 64 ((n : Int) * 256) ||| BitVec.ofInt 64 (x : Int)).toNat = n * 256 + x := by
  have e1 : BitVec.ofInt 64 ((n : Int) * 256) = BitVec.ofNat 64 (n * 256) := by
    apply BitVec.eq_of_toNat_eq
    simp
    omega
  have e2 : BitVec.ofInt 64 (x : Int) = BitVec.ofNat 64 x := by
    apply BitVec.eq_of_toNat_eq
    simp
  rw [e1, e2, BitVec.toNat_or, BitVec.toNat_ofNat, BitVec.toNat_ofNat, Nat.mod_eq_of_lt (by omega), Nat.mod_eq_of_lt (by omega)]
  have := Nat.two_pow_add_eq_or_of_lt (i := 8) (show x < 2 ^ 8 by omega) n
  rw [Nat.mul_comm n 256]
  exact this.symm

theorem bits_or {n x : Nat} (hn : n < 72057594037927936) (hx : x < 256) : bits .or .u64 ((n : Int) * 256) (x : Int) = ((n * 256 + x : Nat) : Int) := by
  have := or_u64 hn hx
  show IntKind.u64.wrap _ = _
  rw [show (BitVec.ofInt IntKind.u64.bits ((n : Int) * 256) ||| BitVec.ofInt IntKind.u64.bits (x : Int)).toNat = n * 256 + x from this]
  exact wrap_u64 (by omega) (by omega)

set_option maxRecDepth 100000 in
set_option maxHeartbeats 800000 in
theorem number_any {w : World} {g o cap : Nat} {l : List UInt8} (h : Bts w g o l) (hl : l.length ≤ 8) :
    Calls Tryz.prog 178 #[.slice (some ⟨g, o, none⟩) l.length cap] w fun e w' => e = .returned (.int .u64 (numOf l)) ∧ w = w' := by
  have HB : Hid (Bts w g o l) := h
  obtain ⟨n, hn⟩ : ∃ n, l.length = n := ⟨_, rfl⟩
  rw [hn] at hl ⊢
  clear h
  go_enter Tryz.func178, Tryz.ntmps178
  go_wp2_with fail
  go_loopw [3, 8] (fun a i w' => ∃ k : Nat, k ≤ n ∧ i = .int .i64 k ∧ a = .int .u64 (numOf (l.take k)) ∧ w = w') (fun _ i _ => (n - intOf i).toNat)
  case atStart => exact ⟨0, by omega, rfl, rfl, rfl⟩
  case round =>
    obtain ⟨k, hk, rfl, rfl, rfl⟩ := hrel
    by_cases hlt : k < n
    · obtain ⟨c, hc⟩ : ∃ c, l[k]? = some c := ⟨_, List.getElem?_eq_getElem (by omega)⟩
      have hcell := HB.out k c hc
      have HA : Hid (numOf (l.take (k + 1)) = numOf (l.take k) * 256 + c.toNat) := by show numOf (l.take (k + 1)) = _; rw [List.take_add_one, hc, Option.toList_some, numOf_snoc]
      have hlt2 := numOf_lt (l.take k)
      have hp : 256 ^ (l.take k).length ≤ 256 ^ 7 := Nat.pow_le_pow_right (by omega) (by simp; omega)
      generalize numOf (l.take k) = m at HA hlt2 ⊢
      have hm : m < 72057594037927936 := by omega
      obtain ⟨x, hx⟩ : ∃ x : Nat, c.toNat = x := ⟨_, rfl⟩
      rw [hx] at hcell HA
      have hx1 : x < 256 := by have := c.toNat_lt; omega
      clear hlt2 hp hx hc
      go_wp2_with fail
      go_roundw
      case rel => exact ⟨k + 1, by omega, by go_num, by rw [HA.out, bits_or hm hx1], trivial⟩
      case measure => simp [intOf]; omega
    · have hkn : k = n := by omega
      have HT : Hid (l.take k = l) := List.take_of_length_le (by omega)
      subst hkn
      rw [HT.out]
      go_wp2_with fail
      go_ret
      exact ⟨rfl, rfl⟩

theorem Bts.sub {w : World} {g o : Nat} {l : List UInt8} (h : Bts w g o l) (i n : Nat) : Bts w g (o + i) ((l.drop i).take n) := fun j x hj => by
  rw [List.getElem?_take] at hj
  split at hj
  · rw [List.getElem?_drop] at hj
    rw [Nat.add_assoc]
    exact h _ _ hj
  · cases hj

def wholeB (l : List UInt8) : Bool := decide (((numOf ((l.drop 12).take 4) : Nat) : Int) = asum (l.take 12))

theorem isWhole_short (w : World) (a : Option Addr) {n cap : Nat} (hn : n < 16) : Calls Tryz.prog 177 #[.slice a n cap] w fun r w' => r = .returned (.bool false) ∧ Fr (fun _ => False) w w' := by
  match n, hn with
  | 0, _ | 1, _ | 2, _ | 3, _ | 4, _ | 5, _ | 6, _ | 7, _ | 8, _ | 9, _ | 10, _ | 11, _ | 12, _ | 13, _ | 14, _ | 15, _ =>
    go_enter Tryz.func177, Tryz.ntmps177
    go_wp2_with fail
    go_quiet (fail)
    go_wp2
    go_ret
    exact ⟨rfl, (Fr.refl _ _).drewN _⟩
  | n + 16, h => omega

set_option maxRecDepth 100000 in
set_option maxHeartbeats 800000 in
theorem isWhole_any {w : World} {g o cap : Nat} {l : List UInt8} (h : Bts w g o l) (hl : 16 ≤ l.length) (hcap : l.length ≤ cap) :
    Calls Tryz.prog 177 #[.slice (some ⟨g, o, none⟩) l.length cap] w fun e w' => e = .returned (.bool (wholeB l)) ∧ Fr (fun _ => False) w w' := by
  have H1 : Hid (Bts w g (o + 12) ((l.drop 12).take 4)) := h.sub 12 4
  have H2 : Hid (Bts w g o (l.take 12)) := by have := h.sub 0 12; simp at this; exact this
  have L1 : Hid (((l.drop 12).take 4).length = 4) := by show ((l.drop 12).take 4).length = 4; simp; omega
  have L2 : Hid ((l.take 12).length = 12) := by show (l.take 12).length = 12; simp; omega
  have HW : Hid (wholeB l = decide (((numOf ((l.drop 12).take 4) : Nat) : Int) = asum (l.take 12))) := rfl
  obtain ⟨n, hn⟩ : ∃ n, l.length = n := ⟨_, rfl⟩
  rw [hn] at hl hcap ⊢
  generalize (l.drop 12).take 4 = l1 at H1 L1 HW
  generalize l.take 12 = l2 at H2 L2 HW
  have hn2 : (16 : Int) ≤ n := by omega
  have hin := adler_in l2
  have as0 : 0 ≤ asum l2 := by unfold asum; omega
  have as1 : asum l2 < 4294967296 := by unfold asum; omega
  have as2 : IntKind.u64.wrap (asum l2) = asum l2 := wrap_u64 as0 (by omega)
  have hc1 : (16 : Int) ≤ cap := by omega
  have hc2 : (12 : Int) ≤ cap := by omega
  have hc3 : ¬ cap = 12 := by omega
  clear h hin
  go_enter Tryz.func177, Tryz.ntmps177
  go_wp2_with fail
  go_region_held3 (fun _ => True) (first | trivial | go_keep)
    (first
      | (go_at_call 178; refine (show Calls Tryz.prog 178 _ _ _ from by have := number_any (w := w.drew) (cap := cap - 12) H1.out (by have := L1.out; omega); rw [L1.out] at this; exact this).mono ?_; rintro e w1 ⟨rfl, rfl⟩)
      | (go_at_call 195; refine (show Calls Tryz.prog 195 _ _ _ from by have := sum_any (w := w.drew) (cap := cap) H2.out (by have := L2.out; omega); rw [L2.out] at this; exact this).mono ?_; rintro e w2 ⟨rfl, rfl⟩))
  go_wp2
  go_ret
  exact ⟨by rw [HW.out]; exact congrArg (fun b => Ending.returned (.bool b)) rfl, (Fr.refl _ _).drew⟩

end Go.Proofs.YtkelpcjiediamaaGreat

/-
  The program's journal: a record as its bytes.
-/
namespace Go.Proofs.YtkelpcjiediamaaGreat
open Go.RowKit Go.Maps

theorem info5 : (Tryz.prog.info? 5).map (fun i => (i.zero, i.size, i.bytes)) = some (some (.int .u8 0), 1, 1) := by kernel_rfl

/-- Bytes as they lie in memory. -/
def bcs (l : List UInt8) : List Value := l.map fun b => .int .u8 b.toNat

theorem bcs_len (l : List UInt8) : (bcs l).length = l.length := by simp [bcs]
theorem bcs_app (l m : List UInt8) : bcs (l ++ m) = bcs l ++ bcs m := by simp [bcs]

theorem byte_of (m j : Nat) : ((m : Int) / 2 ^ (8 * j) % 256) = ((UInt8.ofNat (m / 256 ^ j % 256)).toNat : Int) := by
  rw [UInt8.toNat_ofNat']
  have : (2 : Int) ^ (8 * j) = ((256 ^ j : Nat) : Int) := by
    rw [Int.pow_mul]; simp
  rw [this]
  omega

set_option maxRecDepth 100000 in
set_option maxHeartbeats 800000 in
theorem bput_any {w : World} {B : Nat} {v : Value} {l : List UInt8} {m k : Nat} (h : w.ownsRow B 5 1 v l.length (bcs l)) (hk : k ≤ 8) (hl : l.length ≤ 1000) (hB : B ≤ w.heap.size) :
    Calls Tryz.prog 194 #[v, .int .u64 m, .int .i64 k] w fun e w' => ∃ v', e = .returned v' ∧ w'.ownsRow B 5 1 v' (l ++ wbytes m k).length (bcs (l ++ wbytes m k)) ∧ Fr (fun x => B ≤ x) w w' := by
  have HV : Hid (w.ownsRow B 5 1 v l.length (bcs l)) := h
  obtain ⟨i0, hi0, hz0, hz1, hz2⟩ := info_parts info5
  clear h
  go_enter Tryz.func194, Tryz.ntmps194
  go_wp2_with fail
  go_loopw [0, 9] (fun v' i w' => ∃ j : Nat, j ≤ k ∧ i = .int .i64 j ∧ w'.ownsRow B 5 1 v' (l ++ (wbytes m k).take j).length (bcs (l ++ (wbytes m k).take j)) ∧ Fr (fun x => B ≤ x) w w') (fun _ i _ => (k - intOf i).toNat)
  case atStart => exact ⟨0, by omega, rfl, by simpa using HV.out, Fr.refl _ _⟩
  case round =>
    obtain ⟨j, hj, rfl, hrow, hfr⟩ := hrel
    have HF : Hid (Fr (fun x => B ≤ x) w wr) := hfr
    obtain ⟨p, hp⟩ : ∃ p, l ++ (wbytes m k).take j = p := ⟨_, rfl⟩
    rw [hp] at hrow
    have HP : Hid (l ++ (wbytes m k).take j = p) := hp
    have hpl : p.length = l.length + j := by rw [← hp]; simp [wbytes_len]; omega
    have hsz := hfr.size
    have hpb : p.length ≤ 1008 := by omega
    obtain ⟨va, vc, rfl, _⟩ := anyRow_len hrow
    obtain ⟨pl, hpl2⟩ : ∃ pl, p.length = pl := ⟨_, rfl⟩
    have HW : Hid (wr.ownsRow B 5 1 (.slice va pl vc) pl (bcs p)) := by rw [← hpl2]; exact hrow
    rw [hpl2] at hpb ⊢
    have HPL : Hid (p.length = pl) := hpl2
    by_cases hlt : j < k
    · have HG : Hid (l ++ (wbytes m k).take (j + 1) = p ++ [UInt8.ofNat (m / 256 ^ (k - 1 - j) % 256)]) := by
        show l ++ (wbytes m k).take (j + 1) = _
        rw [List.take_add_one, wbytes_get m k j hlt, Option.toList_some, ← List.append_assoc, HP.out]
      have HBY : Hid ((m : Int) / 2 ^ (8 * (k - 1 - j)) % 256 = ((UInt8.ofNat (m / 256 ^ (k - 1 - j) % 256)).toNat : Int)) := byte_of m (k - 1 - j)
      clear hfr hp hpl hpl2 hrow
      have hj1 : (j : Int) < k := by omega
      have q1 : (0 : Int) ≤ (k : Int) - 1 - j := by omega
      go_wp2_with (at_builtin; refine wpList_append_lies _ rfl _ _ 99 rfl B 5 i0 _ 1 1 Tryz.underlying99 hi0 hz0 hz1 hz2 rfl (by decide) _ _ (bcs p) rfl (by exact HW.out.alloc _) ⟨wr.heap.size, 0, none⟩ 1 1 [.int .u8 ((m : Int) / 2 ^ (8 * (k - 1 - j)) % 256)] rfl rfl (World.news_of_block (cs := #[.int .u8 ((m : Int) / 2 ^ (8 * (k - 1 - j)) % 256)]) (t := 5) (fr := (0, 0)) (heap_alloc_new _ _)) (by simp [Value.oneCell']) (by decide) (by simp only [maxLen]; omega) (by omega) (by simp; omega) (wr.heap.size + 1) (by simp) ?_; intro gg gcap w3 hown3 hgrow3 hat3 hlt3)
      go_roundw
      case rel =>
        have hfr3 : Fr (fun x => B ≤ x) wr w3 := ((Fr.refl _ _).alloc _).grown hgrow3 (fun x ex => .inl (HW.out.lt x ex).1)
        refine ⟨j + 1, by omega, by go_num, ?_, HF.out.trans hfr3 (fun _ h => .inl h)⟩
        rw [HG.out, List.length_append, HPL.out, bcs_app]
        rw [HBY.out] at hown3
        exact hown3
      case measure => simp [intOf]; omega
    · have hjk : j = k := by omega
      have HT : Hid (l ++ wbytes m k = p) := by have := HP.out; rw [List.take_of_length_le (by rw [wbytes_len]; omega)] at this; exact this
      clear hfr hp hpl hpl2 hrow
      subst hjk
      go_wp2_with fail
      go_ret
      exact ⟨_, rfl, by rw [HT.out, HPL.out]; exact HW.out, HF.out⟩

theorem Bts.of_row {w : World} {B g n cap : Nat} {l : List UInt8} (h : w.ownsRow B 5 1 (.slice (some ⟨g, 0, none⟩) n cap) l.length (bcs l)) : Bts w g 0 l := fun j x hj => by
  have := h.cells (g := g) rfl j (.int .u8 x.toNat) (by simp [bcs, hj])
  rw [Addr.add_lit] at this
  exact this

theorem wrap_byte {x : Int} (h0 : 0 ≤ x) (h1 : x < 256) : IntKind.u8.wrap x = x := by
  unfold IntKind.wrap
  simp [IntKind.bits, IntKind.signed]
  omega

theorem byte_one {x : Int} (h0 : 0 ≤ x) (h1 : x < 256) : wbytes x.toNat 1 = [UInt8.ofNat x.toNat] := by
  simp [wbytes]
  congr 1
  omega

theorem toNat_one {x : Int} (h0 : 0 ≤ x) (h1 : x < 256) : ((UInt8.ofNat x.toNat).toNat : Int) = x := by
  rw [UInt8.toNat_ofNat']
  omega

set_option maxRecDepth 100000 in
set_option maxHeartbeats 1600000 in
theorem jbytes_any (w : World) {r : Rc} {n : Nat} (h : r.Small n) (hn : n < 1000000000000) :
    Calls Tryz.prog 171 #[.agg #[.int .i64 r.k, .int .i64 r.p, .int .i64 r.a, .int .i64 r.m]] w fun e w' => ∃ v, e = .returned v ∧ w'.ownsRow w.heap.size 5 1 v 16 (bcs (rbytes r)) ∧ Fr (fun _ => False) w w' := by
  obtain ⟨k0, k1, p0, p1, a0, a1, m0, m1⟩ := h
  have q1 : IntKind.u8.wrap r.k = r.k := wrap_byte (by omega) (by omega)
  have q2 : IntKind.u8.wrap r.p = r.p := wrap_byte (by omega) (by omega)
  have q3 : IntKind.u8.wrap r.a = r.a := wrap_byte (by omega) (by omega)
  have q4 : IntKind.u64.wrap r.m = r.m := wrap_u64 (by omega) (by omega)
  obtain ⟨l4, hl4⟩ : ∃ l4 : List UInt8, l4 = [UInt8.ofNat r.k.toNat, UInt8.ofNat r.p.toNat, UInt8.ofNat r.a.toNat, 0] := ⟨_, rfl⟩
  have HB4 : Hid (bcs l4 = [.int .u8 r.k, .int .u8 r.p, .int .u8 r.a, .int .u8 0]) := by
    show bcs l4 = _
    rw [hl4]
    simp only [bcs, List.map_cons, List.map_nil]
    rw [toNat_one (by omega) (by omega), toNat_one (by omega) (by omega), toNat_one (by omega) (by omega)]
    rfl
  have HL4 : Hid (l4.length = 4) := by show l4.length = 4; rw [hl4]; rfl
  have HH : Hid (l4 ++ wbytes r.m.toNat 8 = rhead r) := by
    show l4 ++ wbytes r.m.toNat 8 = rhead r
    unfold rhead
    rw [hl4, byte_one (by omega) (by omega), byte_one (by omega) (by omega), byte_one (by omega) (by omega)]
    rfl
  have HM : Hid (r.m = (r.m.toNat : Int)) := by show r.m = (r.m.toNat : Int); omega
  have hin := adler_in (rhead r)
  have as0 : 0 ≤ asum (rhead r) := by unfold asum; omega
  have as1 : asum (rhead r) < 4294967296 := by unfold asum; omega
  have as2 : IntKind.u64.wrap (asum (rhead r)) = asum (rhead r) := wrap_u64 as0 (by omega)
  have HS : Hid (asum (rhead r) = ((asum (rhead r)).toNat : Int)) := by show asum (rhead r) = ((asum (rhead r)).toNat : Int); omega
  have HR : Hid (rhead r ++ wbytes (asum (rhead r)).toNat 4 = rbytes r) := rfl
  clear hl4 hin as0 as1 k0 k1 p0 p1 a0 a1 m0 m1
  go_enter Tryz.func171, Tryz.ntmps171
  go_wp2_with fail
  obtain ⟨W, hW⟩ : ∃ W, ((w.alloc (.cells #[.int .i64 r.k, .int .i64 r.p, .int .i64 r.a, .int .i64 r.m] 184)).alloc (.cells #[.int .u8 r.k, .int .u8 r.p, .int .u8 r.a, .int .u8 0] 5)) = W := ⟨_, rfl⟩
  have HWF : Hid (Fr (fun _ => False) w W) := by rw [← hW]; exact (nofr _).alloc _
  have HW0 : W.ownsRow w.heap.size 5 1 (.slice (some ⟨w.heap.size + 1, 0, none⟩) 4 4) l4.length (bcs l4) := by
    rw [← hW, HL4.out, HB4.out]
    have := World.ownsRow_lit (base := w.heap.size) (e := 5) (size := 1) (w.alloc (.cells #[.int .i64 r.k, .int .i64 r.p, .int .i64 r.a, .int .i64 r.m] 184)) #[.int .u8 r.k, .int .u8 r.p, .int .u8 r.a, .int .u8 0] 4 (by simp) (by decide) (by simp)
    simpa using this
  have HW : Hid (W.ownsRow w.heap.size 5 1 (.slice (some ⟨w.heap.size + 1, 0, none⟩) 4 4) l4.length (bcs l4)) := HW0
  rw [hW]
  clear hW HW0
  have HC1 : Hid (Calls Tryz.prog 194 #[.slice (some ⟨w.heap.size + 1, 0, none⟩) 4 4, .int .u64 r.m, .int .i64 8] W fun e w' => ∃ v', e = .returned v' ∧ w'.ownsRow w.heap.size 5 1 v' (rhead r).length (bcs (rhead r)) ∧ Fr (fun x => w.heap.size ≤ x) W w') := by
    have := bput_any (m := r.m.toNat) (k := 8) HW.out (by decide) (by have := HL4.out; omega) HWF.out.size
    rw [← HM.out, HH.out] at this
    exact this
  refine HC1.out.mono ?_
  rintro e w1 ⟨v1, rfl, hv1, hf1⟩
  have F1 : Hid (Fr (fun _ => False) w w1) := HWF.out.trans hf1 (fun _ h => .inr h)
  have V1 : Hid (w1.ownsRow w.heap.size 5 1 v1 (rhead r).length (bcs (rhead r))) := hv1
  obtain ⟨g, cap, rfl, hcap⟩ := row_some hv1 (by rw [rhead_len]; decide)
  have HB : Hid (Bts w1 g 0 (rhead r)) := Bts.of_row hv1
  have HRL : Hid ((rhead r).length = 12) := rhead_len r
  have hz1 := F1.out.size
  clear hv1 hf1 HC1
  have HC2 : Hid (Calls Tryz.prog 195 #[.slice (some ⟨g, 0, none⟩) (rhead r).length cap] w1 fun e w' => e = .returned (.int .u32 (asum (rhead r))) ∧ w1 = w') := sum_any HB.out (by rw [rhead_len]; decide)
  have HC3 : Hid (Calls Tryz.prog 194 #[.slice (some ⟨g, 0, none⟩) (rhead r).length cap, .int .u64 (asum (rhead r)), .int .i64 4] w1 fun e w' => ∃ v', e = .returned v' ∧ w'.ownsRow w.heap.size 5 1 v' (rbytes r).length (bcs (rbytes r)) ∧ Fr (fun x => w.heap.size ≤ x) w1 w') := by
    have := bput_any (m := (asum (rhead r)).toNat) (k := 4) V1.out (by decide) (by have := HRL.out; omega) hz1
    rw [← HS.out, HR.out] at this
    exact this
  go_wp2_with (first
    | (go_at_call 195; (with_reducible refine HC2.out.mono ?_); rintro e w2 ⟨rfl, rfl⟩)
    | (go_at_call 194; (with_reducible refine HC3.out.mono ?_); rintro e w3 ⟨v3, rfl, hv3, hf3⟩; have V3 : Hid (w3.ownsRow w.heap.size 5 1 v3 (rbytes r).length (bcs (rbytes r))) := hv3; have F3 : Hid (Fr (fun x => w.heap.size ≤ x) w1 w3) := hf3; clear hv3 hf3))
  go_ret
  refine ⟨_, rfl, ?_, F1.out.trans F3.out (fun _ h => .inr h)⟩
  have := V3.out
  rw [rbytes_len] at this
  exact this

end Go.Proofs.YtkelpcjiediamaaGreat
