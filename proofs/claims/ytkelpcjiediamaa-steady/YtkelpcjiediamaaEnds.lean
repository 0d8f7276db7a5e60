/-
  What ends tells of a log in memory: a new map from transactions to the kinds that closed them.
-/
import Derived.Test.YtkelpcjiediamaaEntries
namespace Go.Proofs.Ytkelpcjiediamaa
open Go.RowKit Go.Maps

def fate (es : List Ent) (p t : Int) : Option Int := es.foldl (fun o e => if e.k ≠ 1 ∧ e.p = p ∧ e.t = t then some e.k else o) none

theorem fate_snoc (es : List Ent) (x : Ent) (p t : Int) : fate (es ++ [x]) p t = if x.k ≠ 1 ∧ x.p = p ∧ x.t = t then some x.k else fate es p t := by
  simp [fate, List.foldl_append]

def endsFn (es : List Ent) : Value → Option Value
  | .agg cs => match cs.toList with
    | [.int .i64 p, .int .i64 t] => (fate es p t).map (Value.int .i64)
    | _ => none
  | _ => none

theorem endsFn_at (es : List Ent) (p t : Int) : endsFn es (.agg #[.int .i64 p, .int .i64 t]) = (fate es p t).map (Value.int .i64) := rfl

theorem endsFn_same (es : List Ent) (x : Ent) (h : x.k = 1) : endsFn (es ++ [x]) = endsFn es := by
  funext v
  unfold endsFn
  split
  · split
    · rw [fate_snoc, if_neg (by simp [h])]
    · rfl
  · rfl

theorem endsFn_hit (es : List Ent) (x : Ent) (h : x.k ≠ 1) : endsFn (es ++ [x]) (.agg #[.int .i64 x.p, .int .i64 x.t]) = some (.int .i64 x.k) := by
  rw [endsFn_at, fate_snoc, if_pos ⟨h, rfl, rfl⟩]; rfl

theorem endsFn_miss (es : List Ent) (x : Ent) (v : Value) (hv : v ≠ .agg #[.int .i64 x.p, .int .i64 x.t]) : endsFn (es ++ [x]) v = endsFn es v := by
  unfold endsFn
  split
  · split
    · rename_i cs _ p t hcs
      rw [fate_snoc, if_neg]
      rintro ⟨_, rfl, rfl⟩
      exact hv (by rw [show cs = #[.int .i64 x.p, .int .i64 x.t] from by rw [← Array.toList_inj, hcs]])
    · rfl
  · rfl

theorem laidOut : laidOutB Try.prog = true := by kernel_rfl
theorem row82 : (82 : TypeId) < Try.prog.types.size := of_decide_eq_true (by kernel_rfl)
theorem size82 : Try.prog.types.size = 125 := by kernel_rfl
theorem cells3 : Try.prog.cellsOf 3 = 1 := by kernel_rfl
theorem cells82 : Try.prog.cellsOf 82 = 2 := by kernel_rfl
theorem wide82 : (match Try.prog.underlying 82 with | some (.array _ _) | some (.struct _) => true | _ => false) = true := by rw [Try.underlying82]
theorem deep82 : Try.prog.keyTypeAt 3 82 = true := by kernel_rfl
set_option maxRecDepth 100000 in
theorem law82 : Keyed Try.prog 82 := Keyed.of_law (deep_law_laid (P := Try.prog) laidOut (m := 3) (by decide) (k := 82) row82 deep82 wide82)
theorem zero3 (w : World) : (zeroValue 3).run Try.prog w = .ok (.int .i64 0) w := by kernel_rfl
theorem key82type : Try.prog.keyType 82 = true := by kernel_rfl

theorem lits82 (d : Nat) {p t : Int} (hp : (Lit.int .i64 p).wf = true) (ht : (Lit.int .i64 t).wf = true) : Try.prog.keyLits (d + 2) 82 [.int .i64 p, .int .i64 t] = some [.int .i64 p, .int .i64 t] := by
  simp [Program.keyLits, Try.underlying82, cells3, cells82, Try.underlying3, hp, ht]

theorem key82 {p t : Int} (hp : (Lit.int .i64 p).wf = true) (ht : (Lit.int .i64 t).wf = true) : ∃ kl, keyOf Try.prog 82 (.agg #[.int .i64 p, .int .i64 t]) = some kl := by
  have hf : (Value.agg #[.int .i64 p, .int .i64 t]).formed Try.prog 82 = true := by
    simp [Value.formed, Try.underlying82, cells82]
  have hl := lits82 124 hp ht
  unfold keyOf
  rw [Try.underlying82, key82type, hf, size82]
  exact ⟨_, by
    simp only [Bool.and_self, if_true]
    rw [show (Value.agg #[.int .i64 p, .int .i64 t]).cells.toList = [.int .i64 p, .int .i64 t] from rfl, hl]
    rfl⟩

set_option maxRecDepth 100000 in
set_option maxHeartbeats 800000 in
theorem ends_any {w : World} {B lb bm n : Nat} {v : Value} {s : LogS} (h : LogAt w B lb bm v n s) (hwf : s.Wf) :
    Calls Try.prog 34 #[.pointer (some ⟨lb, 0, none⟩)] w fun e w' => e = .returned (.map (some w.heap.size)) ∧ MapFn w' Try.prog 82 w.heap.size s.es.length (endsFn s.es) ∧ Fr (fun _ => False) w w' := by
  have c0 : w.cell? ⟨lb, 0, none⟩ = some v := by rw [cell_of_cells h.blk]; rfl
  have hlt := h.lt
  have hmm := @run_makeMap Try.prog
  have nb := World.new_ne w ⟨lb, 0, none⟩ c0
  have HM0 : Hid (MapFn (w.alloc (.map #[] 0)) Try.prog 82 w.heap.size 0 (endsFn [])) := (MapFn.made w Try.prog 82).congr (fun key kl _ => by
    unfold endsFn
    split
    · split <;> rfl
    · rfl)
  rcases row_form h.row with ⟨rfl, he⟩ | ⟨g, cap, rfl, hlc, hcm, hBg, hg⟩
  · rw [he]
    clear h hwf he
    go_enter Try.func34, Try.ntmps34
    go_wp2_with fail
    go_loopw [12] (fun i w' => i = .int .i64 0 ∧ w' = w.alloc (.map #[] 0)) (fun _ _ => 0)
    case atStart => exact ⟨rfl, rfl⟩
    case round =>
      obtain ⟨rfl, rfl⟩ := hrel
      go_wp2
      go_ret
      exact ⟨rfl, HM0.out, nofr _⟩
  · have HC : Hid (cap ≤ maxLen) := hcm
    unfold maxLen at hcm
    have H : Hid (LogAt w B lb bm (.slice (some ⟨g, 0, none⟩) s.es.length cap) n s) := h
    have HW : Hid s.Wf := hwf
    clear h hwf
    go_enter Try.func34, Try.ntmps34
    go_wp2_with fail
    go_loopw [12] (fun i w' => ∃ k : Nat, k ≤ s.es.length ∧ i = .int .i64 k ∧ Fr (fun _ => False) w w' ∧ MapFn w' Try.prog 82 w.heap.size k (endsFn (s.es.take k))) (fun i _ => s.es.length - (intOf i).toNat)
    case atStart => exact ⟨0, Nat.zero_le _, rfl, nofr _, by simpa using HM0.out⟩
    case round =>
      obtain ⟨k, hk, rfl, hfr, hmap⟩ := hrel
      have HL : Hid (LogAt wr B lb bm (.slice (some ⟨g, 0, none⟩) s.es.length cap) n s) := hfr.logAt H.out id id (fun _ _ => id)
      have k0 : wr.cell? ⟨lb, 0, none⟩ = some (.slice (some ⟨g, 0, none⟩) s.es.length cap) := by rw [cell_of_cells HL.out.blk]; rfl
      have hsz := hfr.size
      have HF : Hid (Fr (fun _ => False) w wr) := hfr
      have HM : Hid (MapFn wr Try.prog 82 w.heap.size k (endsFn (s.es.take k))) := hmap
      clear hfr hmap
      by_cases hlt2 : k < s.es.length
      · obtain ⟨e, he⟩ : ∃ e, s.es[k]? = some e := ⟨_, List.getElem?_eq_getElem hlt2⟩
        obtain ⟨r0, r1, r2, r3⟩ := row_cells HL.out.row he
        have HT : Hid (s.es.take (k + 1) = s.es.take k ++ [e]) := by
          show s.es.take (k + 1) = s.es.take k ++ [e]
          rw [List.take_add_one, he]; rfl
        obtain ⟨kl, hkl⟩ := key82 (HW.out e (List.mem_of_getElem? he)).1 (HW.out e (List.mem_of_getElem? he)).2
        have HK : Hid (keyOf Try.prog 82 (.agg #[.int .i64 e.p, .int .i64 e.t]) = some kl) := hkl
        clear he hkl
        by_cases h1 : e.k = 1
        · have HM2 : Hid (MapFn wr Try.prog 82 w.heap.size (k + 1) (endsFn (s.es.take (k + 1)))) := by
            show MapFn wr Try.prog 82 w.heap.size (k + 1) (endsFn (s.es.take (k + 1)))
            rw [HT.out, endsFn_same _ _ h1]
            exact HM.out.mono (by omega)
          go_wp2
          go_roundw
          case rel => exact ⟨k + 1, by omega, by go_num, HF.out.alloc _, (nofr _).mapFn HM2.out id⟩
          case measure => simp [intOf]; omega
        · have h1' : (e.k == 1) = false := by simpa using h1
          have HN : Hid (k < maxLen) := Nat.lt_of_lt_of_le hlt2 (Nat.le_trans hlc HC.out)
          go_wp2_with (at_mapUpdate; refine wpList_store_fn _ rfl _ _ _ 79 rfl 82 3 law82 Try.underlying79 w.heap.size k (endsFn (s.es.take k)) rfl (by exact (nofr _).mapFn HM.out id) HN.out _ _ kl rfl rfl HK.out (endsFn (s.es.take k ++ [e])) (endsFn_hit _ _ h1) (endsFn_miss _ _) ?_; intro w2 hm2 ht2)
          go_roundw
          case rel => exact ⟨k + 1, by omega, by go_num, (HF.out.alloc _).turned ht2 (.inr (Nat.le_refl _)), by rw [HT.out]; exact hm2⟩
          case measure => simp [intOf]; omega
      · have HT : Hid (s.es.take k = s.es) := List.take_of_length_le (by omega)
        have HK : Hid (k = s.es.length) := by show k = s.es.length; omega
        go_wp2
        go_ret
        exact ⟨rfl, by have := HM.out; rw [HT.out, HK.out] at this; exact this, HF.out⟩

end Go.Proofs.Ytkelpcjiediamaa
