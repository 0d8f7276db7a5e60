/-
  A number as so many bytes; a record as its bytes (the document's).
-/
import Derived.Test.YtkelpcjiediamaaGreatStand
import Derived.Laws.BytesString
namespace Go.Proofs.YtkelpcjiediamaaGreat
open Go.RowKit Go.Maps

def wbytes (m : Nat) : Nat → List UInt8
  | 0 => []
  | k + 1 => wbytes (m / 256) k ++ [UInt8.ofNat (m % 256)]

theorem wbytes_len (m k : Nat) : (wbytes m k).length = k := by
  induction k generalizing m with
  | zero => rfl
  | succ k ih => simp [wbytes, ih]

def str (l : List UInt8) : Value := .string ⟨l.toArray⟩

/-- A text of these bytes. -/
def Txt (s : ByteArray) (l : List UInt8) : Prop := s.data.toList = l ∧ s.size = l.length

def Wr (k : Nat) : Prop := ∀ (n : Int) (w : World), 0 ≤ n → n ≤ 9223372036854775807 → Calls Tryz.prog 150 #[.int .i64 n, .int .i64 k] w fun r w' => ∃ s, r = .returned (.string s) ∧ Txt s (wbytes n.toNat k) ∧ Fr (fun _ => False) w w'

set_option maxRecDepth 100000 in
theorem written_0 : Wr 0 := by
  intro n w _ _
  go_enter Tryz.func150, Tryz.ntmps150
  go_wp2
  go_ret
  exact ⟨_, rfl, ⟨rfl, rfl⟩, Fr.refl _ _⟩

theorem quo256 {n : Int} (h0 : 0 ≤ n) (hm : n ≤ 9223372036854775807) : IntKind.i64.wrap (n.tdiv 256) = n / 256 := by
  rw [Int.tdiv_eq_ediv_of_nonneg h0]
  simp only [IntKind.wrap, IntKind.bits, IntKind.signed]
  simp
  omega
theorem wrap_nat {k : Nat} (hk : k ≤ 8) : IntKind.i64.wrap (k : Int) = k := by
  simp only [IntKind.wrap, IntKind.bits, IntKind.signed]
  simp
  omega
theorem wrap_u8 {n : Int} (h0 : 0 ≤ n) (hm : n < 256) : IntKind.u8.wrap n = n := by
  simp only [IntKind.wrap, IntKind.bits, IntKind.signed]
  simp
  omega
theorem conv699 (w : World) {b : Nat} {n : Int} (h : w.cell? ⟨b, 0, none⟩ = some (.int .u8 n)) : (convert 99 9 (.slice (some ⟨b, 0, none⟩) 1 1)).run Tryz.prog w = .ok (str [UInt8.ofNat n.toNat]) w := by
  have hl := run_loadCells_list (P := Tryz.prog) w ⟨b, 0, none⟩ [.int .u8 n] (fun j v hv => by
    match j with
    | 0 => rw [Addr.add_lit, ← hv]; simpa using h
    | j + 1 => simp at hv)
  rw [run_convert_bytes_string w 99 9 5 _ 1 1 Tryz.underlying99 Tryz.underlying5 Tryz.underlying9, run_bytesToString w _ 1 1 [n] hl]
  rfl

theorem Txt.app {s t : ByteArray} {l m : List UInt8} (h : Txt s l) (h2 : Txt t m) : Txt (s ++ t) (l ++ m) := by
  refine ⟨?_, ?_⟩
  · rw [ByteArray.data_append, Array.toList_append, h.1, h2.1]
  · rw [ByteArray.size_append, h.2, h2.2, List.length_append]

set_option maxRecDepth 100000 in
set_option maxHeartbeats 200000 in
theorem written_succ {k : Nat} (hk : k ≤ 8) (ih : Wr k) (n : Int) (w : World) (h0 : 0 ≤ n) (hm : n ≤ 9223372036854775807) : Calls Tryz.prog 150 #[.int .i64 n, .int .i64 ((k : Int) + 1)] w fun r w' => ∃ s, r = .returned (.string s) ∧ Txt s (wbytes n.toNat (k + 1)) ∧ Fr (fun _ => False) w w' := by
  have HQ : Hid (∀ w, Calls Tryz.prog 150 #[.int .i64 (n / 256), .int .i64 k] w fun r w' => ∃ s, r = .returned (.string s) ∧ (Txt s (wbytes (n / 256).toNat k) ∧ s.size ≤ 8) ∧ Fr (fun _ => False) w w') := fun w => (ih (n / 256) w (by omega) (by omega)).mono fun _ _ ⟨s, h1, h2, h3⟩ => ⟨s, h1, ⟨h2, by rw [h2.2, wbytes_len]; exact hk⟩, h3⟩
  have HB : Hid (wbytes n.toNat (k + 1) = wbytes (n / 256).toNat k ++ [UInt8.ofNat (n % 256).toNat]) := by
    show wbytes (n.toNat / 256) k ++ [UInt8.ofNat (n.toNat % 256)] = _
    rw [show (n / 256).toNat = n.toNat / 256 by omega, show (n % 256).toNat = n.toNat % 256 by omega]
  have hq := quo256 h0 hm
  have hr := Int.tmod_eq_emod_of_nonneg (b := 256) h0
  have hc := wrap_u8 (n := n % 256) (by omega) (by omega)
  have hwk := wrap_nat hk
  have hne : ((k : Int) + 1 == 0) = false := by simp; omega
  generalize n / 256 = q at HQ HB hq
  generalize n % 256 = r at HB hr hc
  obtain ⟨t, ht, hs⟩ : ∃ t : ByteArray, Txt t [UInt8.ofNat r.toNat] ∧ ∀ (W : World) (b : Nat), W.cell? ⟨b, 0, none⟩ = some (.int .u8 r) → (convert 99 9 (.slice (some ⟨b, 0, none⟩) 1 1)).run Tryz.prog W = .ok (.string t) W := ⟨⟨#[UInt8.ofNat r.toNat]⟩, ⟨rfl, rfl⟩, fun W b h => conv699 W h⟩
  have HT : Hid (Txt t [UInt8.ofNat r.toNat]) := ht
  have ht1 : t.size = 1 := ht.2
  generalize wbytes q.toNat k = l at HQ HB
  generalize [UInt8.ofNat r.toNat] = l2 at HB HT ht
  have HSS : Hid (∀ (W : World) (b : Nat), W.cell? ⟨b, 0, none⟩ = some (.int .u8 r) → (convert 99 9 (.slice (some ⟨b, 0, none⟩) 1 1)).run Tryz.prog W = .ok (.string t) W) := hs
  have hs1 : ∀ W : World, (convert 99 9 (.slice (some ⟨W.heap.size, 0, none⟩) 1 1)).run Tryz.prog (W.alloc (.cells #[.int .u8 r] 5)) = .ok (.string t) (W.alloc (.cells #[.int .u8 r] 5)) := fun W => hs _ _ (by simp)
  have hs3 : ∀ W : World, (convert 99 9 (.slice (some ⟨W.heap.size, 0, none⟩) 1 1)).run Tryz.prog (W.alloc (.cells #[.int .u8 r] 5)).drew = .ok (.string t) (W.alloc (.cells #[.int .u8 r] 5)).drew := fun W => hs _ _ (by simp)
  clear ih h0 hm ht hs
  go_enter Tryz.func150, Tryz.ntmps150
  go_wp2_with fail
  go_region_law
    ((go_simp; go_at_call 150; with_reducible refine (HQ.out _).mono ?_; rintro e w1 ⟨s1, rfl, ⟨hx1, hs2⟩, hf1⟩
      have T1 : Hid (Txt s1 l) := hx1
      have hlen : ¬ (9223372036854775807 < s1.size + 1) := by omega
      have hlen2 : s1.size + 1 ≤ 9223372036854775807 := by omega
      first
        | (have F1 : Hid (Fr (fun _ => False) w w1) := (Fr.dr _).trans hf1 (fun _ h => h.elim); clear hx1 hf1)
        | (have F1 : Hid (Fr (fun _ => False) w w1) := ((nofr _).drew).trans hf1 (fun _ h => h.elim)
           have hsw := HSS.out w1 w.heap.size ((hf1.cell (p := ⟨w.heap.size, 0, none⟩) (by simp) id).trans (by simp))
           clear hx1 hf1)))
  all_goals
    go_wp2
    go_ret
    refine ⟨_, rfl, ?_, ?_⟩
    · rw [HB.out]; exact T1.out.app HT.out
    · first | exact F1.out | exact F1.out.alloc _ | exact F1.out.drew | exact (F1.out.alloc _).drew

theorem written_any : ∀ k, k ≤ 9 → Wr k
  | 0, _ => written_0
  | k + 1, hk => fun n w h0 hm => written_succ (by omega) (written_any k (by omega)) n w h0 hm

end Go.Proofs.YtkelpcjiediamaaGreat

/-
  A record as its bytes (the document's).
-/
namespace Go.Proofs.YtkelpcjiediamaaGreat
open Go.RowKit Go.Maps

/-- Adler-32's two sums. -/
def adl (x : Int × Int) (b : UInt8) : Int × Int := ((x.1 + b.toNat) % 65521, (x.2 + (x.1 + b.toNat) % 65521) % 65521)
def adler (l : List UInt8) : Int × Int := l.foldl adl (1, 0)

theorem adler_snoc (l : List UInt8) (b : UInt8) : adler (l ++ [b]) = adl (adler l) b := by simp [adler, List.foldl_append]

theorem adler_in (l : List UInt8) : 0 ≤ (adler l).1 ∧ (adler l).1 < 65521 ∧ 0 ≤ (adler l).2 ∧ (adler l).2 < 65521 := by
  have key : ∀ (l : List UInt8) (x : Int × Int), (0 ≤ x.1 ∧ x.1 < 65521 ∧ 0 ≤ x.2 ∧ x.2 < 65521) → (0 ≤ (l.foldl adl x).1 ∧ (l.foldl adl x).1 < 65521 ∧ 0 ≤ (l.foldl adl x).2 ∧ (l.foldl adl x).2 < 65521) := by
    intro l
    induction l with
    | nil => intro x h; exact h
    | cons b l ih => intro x h; exact ih _ ⟨by simp only [adl]; omega, by simp only [adl]; omega, by simp only [adl]; omega, by simp only [adl]; omega⟩
  exact key l (1, 0) (by simp)

/-- The first twelve bytes. -/
def rhead (r : Rc) : List UInt8 := wbytes r.k.toNat 1 ++ wbytes r.p.toNat 1 ++ wbytes r.a.toNat 1 ++ wbytes 0 1 ++ wbytes r.m.toNat 8
def rbytes (r : Rc) : List UInt8 := rhead r ++ wbytes ((adler (rhead r)).2 * 65536 + (adler (rhead r)).1).toNat 4

theorem rhead_len (r : Rc) : (rhead r).length = 12 := by simp [rhead, wbytes_len]
theorem rbytes_len (r : Rc) : (rbytes r).length = 16 := by simp [rbytes, rhead_len, wbytes_len]

structure Rc.Ok (r : Rc) : Prop where
  k0 : 0 ≤ r.k
  k1 : r.k ≤ 9223372036854775807
  p0 : 0 ≤ r.p
  p1 : r.p ≤ 9223372036854775807
  a0 : 0 ≤ r.a
  a1 : r.a ≤ 9223372036854775807
  m0 : 0 ≤ r.m
  m1 : r.m ≤ 9223372036854775807

theorem Txt.get {s : ByteArray} {l : List UInt8} (h : Txt s l) {k : Nat} {c : UInt8} (hk : l[k]? = some c) (hs : k < s.size) : s[k] = c := by
  have h1 : s.data.toList[k]? = some c := by rw [h.1]; exact hk
  rw [Array.getElem?_toList] at h1
  exact (Array.getElem?_eq_some_iff.1 h1).2

theorem wrap_i64 {n : Int} (h0 : 0 ≤ n) (hm : n < 9223372036854775808) : IntKind.i64.wrap n = n := by
  simp only [IntKind.wrap, IntKind.bits, IntKind.signed]
  simp
  omega

set_option maxRecDepth 100000 in
set_option maxHeartbeats 800000 in
theorem bytes_any (w : World) (r : Rc) (h : r.Ok) : Calls Tryz.prog 103 #[.agg #[.int .i64 r.k, .int .i64 r.p, .int .i64 r.a, .int .i64 r.m]] w fun e w' => ∃ s, e = .returned (.string s) ∧ Txt s (rbytes r) ∧ Fr (fun _ => False) w w' := by
  have HO : Hid r.Ok := h
  clear h
  go_enter Tryz.func103, Tryz.ntmps103
  go_wp2_with fail
  have z0 : (w.alloc (.cells #[.int .i64 r.k, .int .i64 r.p, .int .i64 r.a, .int .i64 r.m] 155)).heap[w.heap.size]? = some (.cells #[.int .i64 r.k, .int .i64 r.p, .int .i64 r.a, .int .i64 r.m] 155 (0, 0)) := heap_alloc_new _ _
  have HZ : Hid ((w.alloc (.cells #[.int .i64 r.k, .int .i64 r.p, .int .i64 r.a, .int .i64 r.m] 155)).drew.heap[w.heap.size]? = some (.cells #[.int .i64 r.k, .int .i64 r.p, .int .i64 r.a, .int .i64 r.m] 155 (0, 0))) := z0
  clear z0
  go_region_held3 (fun w' => w'.cell? ⟨w.heap.size, 0, none⟩ = some (.int .i64 r.k) ∧ w'.cell? ⟨w.heap.size, 1, none⟩ = some (.int .i64 r.p) ∧ w'.cell? ⟨w.heap.size, 2, none⟩ = some (.int .i64 r.a) ∧ w'.cell? ⟨w.heap.size, 3, none⟩ = some (.int .i64 r.m))
    (first | with_reducible exact C5 | with_reducible exact C4 | with_reducible exact C3 | with_reducible exact C2 | with_reducible exact C1 | go_keep)
    (first
      | (go_at_call 150; have _ := F4.out; refine (show Calls Tryz.prog 150 _ _ _ from written_any 8 (by decide) r.m _ HO.out.m0 HO.out.m1).mono ?_; rintro e w5 ⟨s5, rfl, hx, hf⟩
         have T5 : Hid (Txt s5 (wbytes r.m.toNat 8)) := hx
         have F5 : Hid (Fr (fun _ => False) (w.alloc (.cells #[.int .i64 r.k, .int .i64 r.p, .int .i64 r.a, .int .i64 r.m] 155)).drew w5) := F4.out.trans hf (fun _ h => h.elim)
         have B5 := (F5.out.block _ (lt_of_block HZ.out) id).trans HZ.out
         have C5 : w5.cell? ⟨w.heap.size, 0, none⟩ = some (.int .i64 r.k) ∧ w5.cell? ⟨w.heap.size, 1, none⟩ = some (.int .i64 r.p) ∧ w5.cell? ⟨w.heap.size, 2, none⟩ = some (.int .i64 r.a) ∧ w5.cell? ⟨w.heap.size, 3, none⟩ = some (.int .i64 r.m) := ⟨cell_of_cells B5 0, cell_of_cells B5 1, cell_of_cells B5 2, cell_of_cells B5 3⟩
         have n5 : s5.size = 8 := hx.2.trans (wbytes_len _ _)
         have e5 : ¬ (9223372036854775807 < s1.size + s2.size + s3.size + s4.size + s5.size) := by omega
         clear hx hf B5)
      | (go_at_call 150; have _ := F3.out; refine (show Calls Tryz.prog 150 _ _ _ from written_any 1 (by decide) 0 _ (by decide) (by decide)).mono ?_; rintro e w4 ⟨s4, rfl, hx, hf⟩
         have T4 : Hid (Txt s4 (wbytes 0 1)) := hx
         have F4 : Hid (Fr (fun _ => False) (w.alloc (.cells #[.int .i64 r.k, .int .i64 r.p, .int .i64 r.a, .int .i64 r.m] 155)).drew w4) := F3.out.trans hf (fun _ h => h.elim)
         have B4 := (F4.out.block _ (lt_of_block HZ.out) id).trans HZ.out
         have C4 : w4.cell? ⟨w.heap.size, 0, none⟩ = some (.int .i64 r.k) ∧ w4.cell? ⟨w.heap.size, 1, none⟩ = some (.int .i64 r.p) ∧ w4.cell? ⟨w.heap.size, 2, none⟩ = some (.int .i64 r.a) ∧ w4.cell? ⟨w.heap.size, 3, none⟩ = some (.int .i64 r.m) := ⟨cell_of_cells B4 0, cell_of_cells B4 1, cell_of_cells B4 2, cell_of_cells B4 3⟩
         have n4 : s4.size = 1 := hx.2.trans (wbytes_len _ _)
         clear hx hf B4)
      | (go_at_call 150; have _ := F2.out; refine (show Calls Tryz.prog 150 _ _ _ from written_any 1 (by decide) r.a _ HO.out.a0 HO.out.a1).mono ?_; rintro e w3 ⟨s3, rfl, hx, hf⟩
         have T3 : Hid (Txt s3 (wbytes r.a.toNat 1)) := hx
         have F3 : Hid (Fr (fun _ => False) (w.alloc (.cells #[.int .i64 r.k, .int .i64 r.p, .int .i64 r.a, .int .i64 r.m] 155)).drew w3) := F2.out.trans hf (fun _ h => h.elim)
         have B3 := (F3.out.block _ (lt_of_block HZ.out) id).trans HZ.out
         have C3 : w3.cell? ⟨w.heap.size, 0, none⟩ = some (.int .i64 r.k) ∧ w3.cell? ⟨w.heap.size, 1, none⟩ = some (.int .i64 r.p) ∧ w3.cell? ⟨w.heap.size, 2, none⟩ = some (.int .i64 r.a) ∧ w3.cell? ⟨w.heap.size, 3, none⟩ = some (.int .i64 r.m) := ⟨cell_of_cells B3 0, cell_of_cells B3 1, cell_of_cells B3 2, cell_of_cells B3 3⟩
         have n3 : s3.size = 1 := hx.2.trans (wbytes_len _ _)
         clear hx hf B3)
      | (go_at_call 150; have _ := F1.out; refine (show Calls Tryz.prog 150 _ _ _ from written_any 1 (by decide) r.p _ HO.out.p0 HO.out.p1).mono ?_; rintro e w2 ⟨s2, rfl, hx, hf⟩
         have T2 : Hid (Txt s2 (wbytes r.p.toNat 1)) := hx
         have F2 : Hid (Fr (fun _ => False) (w.alloc (.cells #[.int .i64 r.k, .int .i64 r.p, .int .i64 r.a, .int .i64 r.m] 155)).drew w2) := F1.out.trans hf (fun _ h => h.elim)
         have B2 := (F2.out.block _ (lt_of_block HZ.out) id).trans HZ.out
         have C2 : w2.cell? ⟨w.heap.size, 0, none⟩ = some (.int .i64 r.k) ∧ w2.cell? ⟨w.heap.size, 1, none⟩ = some (.int .i64 r.p) ∧ w2.cell? ⟨w.heap.size, 2, none⟩ = some (.int .i64 r.a) ∧ w2.cell? ⟨w.heap.size, 3, none⟩ = some (.int .i64 r.m) := ⟨cell_of_cells B2 0, cell_of_cells B2 1, cell_of_cells B2 2, cell_of_cells B2 3⟩
         have n2 : s2.size = 1 := hx.2.trans (wbytes_len _ _)
         clear hx hf B2)
      | (go_at_call 150; refine (show Calls Tryz.prog 150 _ _ _ from written_any 1 (by decide) r.k _ HO.out.k0 HO.out.k1).mono ?_; rintro e w1 ⟨s1, rfl, hx, hf⟩
         have T1 : Hid (Txt s1 (wbytes r.k.toNat 1)) := hx
         have F1 : Hid (Fr (fun _ => False) (w.alloc (.cells #[.int .i64 r.k, .int .i64 r.p, .int .i64 r.a, .int .i64 r.m] 155)).drew w1) := hf
         have B1 := (F1.out.block _ (lt_of_block HZ.out) id).trans HZ.out
         have C1 : w1.cell? ⟨w.heap.size, 0, none⟩ = some (.int .i64 r.k) ∧ w1.cell? ⟨w.heap.size, 1, none⟩ = some (.int .i64 r.p) ∧ w1.cell? ⟨w.heap.size, 2, none⟩ = some (.int .i64 r.a) ∧ w1.cell? ⟨w.heap.size, 3, none⟩ = some (.int .i64 r.m) := ⟨cell_of_cells B1 0, cell_of_cells B1 1, cell_of_cells B1 2, cell_of_cells B1 3⟩
         have n1 : s1.size = 1 := hx.2.trans (wbytes_len _ _)
         clear hx hf B1))
  have TS : Txt (s1 ++ s2 ++ s3 ++ s4 ++ s5) (rhead r) := (((T1.out.app T2.out).app T3.out).app T4.out).app T5.out
  have FS : Hid (Fr (fun _ => False) w w5) := ((nofr _).drew).trans F5.out (fun _ h => h.elim)
  generalize s1 ++ s2 ++ s3 ++ s4 ++ s5 = s at TS ⊢
  have hn : s.size = 12 := TS.2.trans (rhead_len r)
  have HTS : Hid (Txt s (rhead r)) := TS
  clear TS n1 n2 n3 n4 n5 e5 C1 C2 C3 C4 C5
  go_wp2_with fail
  go_loopw [4, 5, 6] (fun a b i w' => ∃ k : Nat, k ≤ 12 ∧ i = .int .i64 k ∧ a = .int .i64 (adler ((rhead r).take k)).1 ∧ b = .int .i64 (adler ((rhead r).take k)).2 ∧ w' = w5) (fun _ _ i _ => (12 - intOf i).toNat)
  case atStart => exact ⟨0, by omega, rfl, rfl, rfl, rfl⟩
  case round =>
    obtain ⟨k, hk, rfl, rfl, rfl, rfl⟩ := hrel
    by_cases hlt : k < 12
    · obtain ⟨c, hc⟩ : ∃ c, (rhead r)[k]? = some c := ⟨_, List.getElem?_eq_getElem (by rw [rhead_len]; exact hlt)⟩
      have hsk : k < s.size := by omega
      have hget := HTS.out.get hc hsk
      have HA : Hid (adler ((rhead r).take (k + 1)) = adl (adler ((rhead r).take k)) c) := by show adler ((rhead r).take (k + 1)) = _; rw [List.take_add_one, hc, Option.toList_some, adler_snoc]
      have HIN := adler_in ((rhead r).take k)
      generalize adler ((rhead r).take k) = ab at HA HIN
      obtain ⟨a, b⟩ := ab
      simp only at HIN ⊢
      obtain ⟨i1, i2, i3, i4⟩ := HIN
      obtain ⟨x, hx⟩ : ∃ x : Int, (c.toNat : Int) = x := ⟨_, rfl⟩
      have hx0 : 0 ≤ x := by omega
      have hx1 : x < 256 := by have := c.toNat_lt; omega
      obtain ⟨a1, ha1⟩ : ∃ a1 : Int, (a + x) % 65521 = a1 := ⟨_, rfl⟩
      obtain ⟨b1, hb1⟩ : ∃ b1 : Int, (b + a1) % 65521 = b1 := ⟨_, rfl⟩
      have q1 : IntKind.i64.wrap (a + x) = a + x := wrap_i64 (by omega) (by omega)
      have q2 : (a + x).tmod 65521 = a1 := by rw [Int.tmod_eq_emod_of_nonneg (by omega)]; exact ha1
      have q3 : IntKind.i64.wrap (b + a1) = b + a1 := wrap_i64 (by omega) (by omega)
      have q4 : (b + a1).tmod 65521 = b1 := by rw [Int.tmod_eq_emod_of_nonneg (by omega)]; exact hb1
      have q5 : IntKind.i64.wrap x = x := wrap_i64 hx0 (by omega)
      have HA2 : Hid (adler ((rhead r).take (k + 1)) = (a1, b1)) := by show adler ((rhead r).take (k + 1)) = (a1, b1); rw [HA.out]; simp only [adl]; rw [hx, ha1, hb1]
      have hk0 : (0 : Int) ≤ (k : Int) := by omega
      have hk1 : (k : Int) < 12 := by omega
      clear HA ha1 hb1 i1 i2 i3 i4 hx0 hx1 hc
      go_wp2_with fail
      go_roundw
      case rel => exact ⟨k + 1, by omega, by go_num, by rw [HA2.out], by rw [HA2.out], trivial⟩
      case measure => simp [intOf]; omega
    · have hk12 : k = 12 := by omega
      have HT : Hid ((rhead r).take k = rhead r) := List.take_of_length_le (by rw [rhead_len]; omega)
      subst hk12
      have HIN := adler_in (rhead r)
      have HRB : Hid (rbytes r = rhead r ++ wbytes ((adler (rhead r)).2 * 65536 + (adler (rhead r)).1).toNat 4) := rfl
      rw [HT.out]
      generalize adler (rhead r) = ab at HIN HRB
      obtain ⟨a, b⟩ := ab
      simp only at HIN HRB ⊢
      obtain ⟨i1, i2, i3, i4⟩ := HIN
      have q1 : IntKind.i64.wrap (b * 65536) = b * 65536 := wrap_i64 (by omega) (by omega)
      have q2 : IntKind.i64.wrap (b * 65536 + a) = b * 65536 + a := wrap_i64 (by omega) (by omega)
      have HN : Hid (0 ≤ b * 65536 + a ∧ b * 65536 + a ≤ 9223372036854775807) := ⟨by omega, by omega⟩
      have HW : Hid (∀ w, Calls Tryz.prog 150 #[.int .i64 (b * 65536 + a), .int .i64 4] w fun r w' => ∃ s, r = .returned (.string s) ∧ Txt s (wbytes (b * 65536 + a).toNat 4) ∧ Fr (fun _ => False) w w') := fun w => written_any 4 (by decide) _ w HN.out.1 HN.out.2
      clear i1 i2 i3 i4
      go_wp2_with (go_at_call 150; refine (HW.out _).mono ?_; rintro e w6 ⟨s6, rfl, hx, hf⟩; have T6 : Hid (Txt s6 (wbytes (b * 65536 + a).toNat 4)) := hx; have F6 : Hid (Fr (fun _ => False) w w6) := FS.out.trans hf (fun _ h => h.elim); have n6 : s6.size = 4 := hx.2.trans (wbytes_len _ _); clear hx hf)
      go_ret
      refine ⟨_, rfl, ?_, F6.out⟩
      rw [HRB.out]
      exact HTS.out.app T6.out

end Go.Proofs.YtkelpcjiediamaaGreat
