/-
  looks: every list that the book has reads as it was written.
-/
import Derived.Test.YtkelpcjiediamaaOwnPre
import Derived.Test.YtkelpcjiediamaaSame2
namespace Go.Proofs.Ytkelpcjiediamaa
open Go.RowKit Go.Maps

theorem Fr.bookF {w w2 : World} (f : Fr (fun _ => False) w w2) {B bb : Nat} {vi ve vr : Value} {oi oe orr : List (Value × Nat)} (h : BookAt w B bb vi ve vr oi oe orr) : BookAt w2 B bb vi ve vr oi oe orr :=
  ⟨(f.block bb h.lt id).trans h.blk, f.shelf h.si (fun _ _ => id) (fun _ _ _ _ => id), f.shelf h.se (fun _ _ => id) (fun _ _ _ _ => id), f.shelf h.sr (fun _ _ => id) (fun _ _ _ _ => id), h.hb⟩

theorem shelf_at {w : World} {B : Nat} {oty ty : TypeId} {wd : Nat} {mk : Nat → List Value} {a : Option Addr} {c : Nat} {outs : List (Value × Nat)} (h : Shelf w B oty ty wd mk (.slice a outs.length c) outs) {i : Nat} {o : Value × Nat} (ho : outs[i]? = some o) :
    ∃ vg, a = some ⟨vg, 0, none⟩ ∧ outs.length ≤ c ∧ w.cell? ⟨vg, i * 2, none⟩ = some o.1 ∧ w.cell? ⟨vg, i * 2 + 1, none⟩ = some (.int .i64 o.2) := by
  rcases h.row.2 with ⟨e, h0⟩ | ⟨g, cap, cur, e, _, hg, h1, _⟩
  · have : outs = [] := List.eq_nil_of_length_eq_zero h0
    rw [this] at ho; simp at ho
  · simp only [Value.slice.injEq] at e
    obtain ⟨rfl, _, rfl⟩ := e
    have hc := h.row.cells (g := g) rfl
    obtain ⟨e1, e2⟩ := outCells_get outs i o ho
    have h3 := hc _ _ e1
    have h4 := hc _ _ e2
    rw [Addr.add_lit] at h3 h4
    exact ⟨g, rfl, h1, by simpa using h3, by simpa using h4⟩

theorem list_at {w : World} {B : Nat} {ty : TypeId} {wd : Nat} {mc : List Value} {a : Option Addr} {len c : Nat} (h : w.ownsRow B ty wd (.slice a len c) len (rep len mc)) (hw : mc.length = wd) {k : Nat} (hk : k < len) :
    ∃ g, a = some ⟨g, 0, none⟩ ∧ len ≤ c ∧ ∀ q, q < wd → w.cell? ⟨g, k * wd + q, none⟩ = mc[q]? := by
  subst hw
  rcases h.2 with ⟨e, h0⟩ | ⟨g, cap, cur, e, _, hg, h1, _⟩
  · omega
  · simp only [Value.slice.injEq] at e
    obtain ⟨rfl, _, rfl⟩ := e
    refine ⟨g, rfl, h1, fun q hq => ?_⟩
    have hc := h.cells (g := g) rfl (k * mc.length + q) _ ((rep_get mc len k q hk hq).trans (List.getElem?_eq_getElem hq))
    rw [Addr.add_lit] at hc
    rw [List.getElem?_eq_getElem hq]
    simpa using hc

set_option maxRecDepth 100000 in
set_option maxHeartbeats 3200000 in
theorem looks_any {w : World} {B bb : Nat} {vi ve vr : Value} {oi oe orr : List (Value × Nat)} (h : BookAt w B bb vi ve vr oi oe orr) (hm : ∀ o : Value × Nat, (o ∈ oi ∨ o ∈ oe ∨ o ∈ orr) → (o.2 : Int) ≤ 140737488355328) :
    Calls Try.prog 8 #[.pointer (some ⟨bb, 0, none⟩)] w fun e w' => e = .returned (.bool true) ∧ Fr (fun _ => False) w w' := by
  obtain ⟨via, vic, rfl, hil⟩ := outRow_len h.si.row
  obtain ⟨vea, vec, rfl, hel⟩ := outRow_len h.se.row
  obtain ⟨vra, vrc, rfl, hrl⟩ := outRow_len h.sr.row
  unfold maxLen at hil hel hrl
  have H : Hid (BookAt w B bb (.slice via oi.length vic) (.slice vea oe.length vec) (.slice vra orr.length vrc) oi oe orr) := h
  have HMK : Hid (∀ o : Value × Nat, (o ∈ oi ∨ o ∈ oe ∨ o ∈ orr) → (o.2 : Int) ≤ 140737488355328) := hm
  clear h hm
  go_enter Try.func8, Try.ntmps8
  go_wp2_with fail
  go_loopw [3] (fun iv w' => ∃ i : Nat, i ≤ oi.length ∧ iv = .int .i64 i ∧ Fr (fun _ => False) w w') (fun iv _ => oi.length - (intOf iv).toNat)
  case atStart => exact ⟨0, Nat.zero_le _, rfl, Fr.refl _ _⟩
  case round =>
    obtain ⟨i, hi, rfl, hfr⟩ := hrel
    rename World => woI
    have HFI : Hid (Fr (fun _ => False) w woI) := hfr
    have HB : Hid (BookAt woI B bb (.slice via oi.length vic) (.slice vea oe.length vec) (.slice vra orr.length vrc) oi oe orr) := hfr.bookF H.out
    have k0 : woI.cell? ⟨bb, 0, none⟩ = some (.slice via oi.length vic) := by rw [cell_of_cells HB.out.blk]; rfl
    clear hfr
    by_cases hlt : i < oi.length
    · obtain ⟨o, ho⟩ : ∃ o, oi[i]? = some o := ⟨_, List.getElem?_eq_getElem hlt⟩
      have HOI : Hid (oi[i]? = some o) := ho
      obtain ⟨vg, hv, hvc, r0, r1⟩ := shelf_at HB.out.si ho
      subst hv
      have hmk := HMK.out o (.inl (List.mem_of_getElem? ho))
      obtain ⟨len, hl0⟩ := H.out.si.ok o (List.mem_of_getElem? ho)
      obtain ⟨la, lcap, hol, hlm⟩ := anyRow_len hl0
      obtain ⟨o1, o2⟩ := o
      simp only at hol r0 r1 hmk hl0
      subst hol
      unfold maxLen at hlm
      have HL0 : Hid (w.ownsRow B 3 1 (.slice la len lcap) len (rep len (mkI o2))) := hl0
      clear hl0 ho
      go_wp2_with fail
      go_loopw [4] (fun kv w' => ∃ k : Nat, k ≤ len ∧ kv = .int .i64 k ∧ Fr (fun _ => False) woI w') (fun kv _ => len - (intOf kv).toNat)
      case atStart => exact ⟨0, Nat.zero_le _, rfl, Fr.refl _ _⟩
      case round =>
        obtain ⟨k, hk, rfl, hfr2⟩ := hrel
        have HFN : Hid (Fr (fun _ => False) woI wr) := hfr2
        have HF2 : Hid (Fr (fun _ => False) w wr) := HFI.out.trans hfr2 (fun _ h => h.elim)
        have HB2 : Hid (BookAt wr B bb (.slice (some ⟨vg, 0, none⟩) oi.length vic) (.slice vea oe.length vec) (.slice vra orr.length vrc) oi oe orr) := HF2.out.bookF H.out
        have kk0 : wr.cell? ⟨bb, 0, none⟩ = some (.slice (some ⟨vg, 0, none⟩) oi.length vic) := by rw [cell_of_cells HB2.out.blk]; rfl
        obtain ⟨vg2, hv2, _, rr0, rr1⟩ := shelf_at HB2.out.si HOI.out
        simp only [Option.some.injEq, Addr.mk.injEq, and_true] at hv2
        subst hv2
        simp only at rr0 rr1
        clear hfr2
        by_cases hk2 : k < len
        · obtain ⟨g, rfl, hlc, hcell⟩ := list_at (HF2.out.ownsRow HL0.out (fun _ _ => id)) rfl hk2
          have c0 : wr.cell? ⟨g, k, none⟩ = some (.int .i64 (-1 - (o2 : Int))) := by have := hcell 0 (by decide); simpa [mkI] using this
          clear hcell
          go_wp2_with fail
          go_quiet (fail)
          go_wp2
          go_roundw
          case rel => exact ⟨k + 1, by omega, by go_num, HFN.out.drewN nq⟩
          case measure => simp [intOf]; omega
        · go_wp2
          go_roundw
          case rel => exact ⟨i + 1, by omega, by go_num, HF2.out⟩
          case measure => simp [intOf]; omega
    · skip
      go_wp2_with fail
      clear hlt k0
      go_loopw [5] (fun iv w' => ∃ i : Nat, i ≤ oe.length ∧ iv = .int .i64 i ∧ Fr (fun _ => False) w w') (fun iv _ => oe.length - (intOf iv).toNat)
      case atStart => exact ⟨0, Nat.zero_le _, rfl, HFI.out⟩
      case round =>
        obtain ⟨i, hi, rfl, hfr⟩ := hrel
        rename World => woE
        have HFE : Hid (Fr (fun _ => False) w woE) := hfr
        have HB : Hid (BookAt woE B bb (.slice via oi.length vic) (.slice vea oe.length vec) (.slice vra orr.length vrc) oi oe orr) := hfr.bookF H.out
        have k0 : woE.cell? ⟨bb, 1, none⟩ = some (.slice vea oe.length vec) := by rw [cell_of_cells HB.out.blk]; rfl
        clear hfr
        by_cases hlt : i < oe.length
        · obtain ⟨o, ho⟩ : ∃ o, oe[i]? = some o := ⟨_, List.getElem?_eq_getElem hlt⟩
          have HOI : Hid (oe[i]? = some o) := ho
          obtain ⟨vg, hv, hvc, r0, r1⟩ := shelf_at HB.out.se ho
          subst hv
          have hmk := HMK.out o (.inr (.inl (List.mem_of_getElem? ho)))
          obtain ⟨len, hl0⟩ := H.out.se.ok o (List.mem_of_getElem? ho)
          obtain ⟨la, lcap, hol, hlm⟩ := anyRow_len hl0
          obtain ⟨o1, o2⟩ := o
          simp only at hol r0 r1 hmk hl0
          subst hol
          unfold maxLen at hlm
          have HL0 : Hid (w.ownsRow B 69 4 (.slice la len lcap) len (rep len (mkE o2))) := hl0
          clear hl0 ho
          go_wp2_with fail
          go_loopw [7] (fun kv w' => ∃ k : Nat, k ≤ len ∧ kv = .int .i64 k ∧ Fr (fun _ => False) (woE.alloc (.cells #[.int .i64 (-1 - (o2 : Int)), .int .i64 0, .int .i64 0, .string ⟨#[]⟩] 69)) w') (fun kv _ => len - (intOf kv).toNat)
          case atStart => exact ⟨0, Nat.zero_le _, rfl, Fr.refl _ _⟩
          case round =>
            obtain ⟨k, hk, rfl, hfr2⟩ := hrel
            have HFN : Hid (Fr (fun _ => False) (woE.alloc (.cells #[.int .i64 (-1 - (o2 : Int)), .int .i64 0, .int .i64 0, .string ⟨#[]⟩] 69)) wr) := hfr2
            have HF2 : Hid (Fr (fun _ => False) w wr) := (HFE.out.alloc _).trans hfr2 (fun _ h => h.elim)
            have HB2 : Hid (BookAt wr B bb (.slice via oi.length vic) (.slice (some ⟨vg, 0, none⟩) oe.length vec) (.slice vra orr.length vrc) oi oe orr) := HF2.out.bookF H.out
            have kk0 : wr.cell? ⟨bb, 1, none⟩ = some (.slice (some ⟨vg, 0, none⟩) oe.length vec) := by rw [cell_of_cells HB2.out.blk]; rfl
            obtain ⟨vg2, hv2, _, rr0, rr1⟩ := shelf_at HB2.out.se HOI.out
            simp only [Option.some.injEq, Addr.mk.injEq, and_true] at hv2
            subst hv2
            simp only at rr0 rr1
            have hbox : wr.heap[woE.heap.size]? = some (.cells #[.int .i64 (-1 - (o2 : Int)), .int .i64 0, .int .i64 0, .string ⟨#[]⟩] 69 (0, 0)) := (hfr2.block woE.heap.size (by simp) id).trans (heap_alloc_new woE _)
            have b0 : wr.cell? ⟨woE.heap.size, 0, none⟩ = some (.int .i64 (-1 - (o2 : Int))) := by rw [cell_of_cells hbox]; rfl
            have b1 : wr.cell? ⟨woE.heap.size, 1, none⟩ = some (.int .i64 0) := by rw [cell_of_cells hbox]; rfl
            have b2 : wr.cell? ⟨woE.heap.size, 2, none⟩ = some (.int .i64 0) := by rw [cell_of_cells hbox]; rfl
            have b3 : wr.cell? ⟨woE.heap.size, 3, none⟩ = some (.string ⟨#[]⟩) := by rw [cell_of_cells hbox]; rfl
            clear hbox
            clear hfr2
            by_cases hk2 : k < len
            · obtain ⟨g, rfl, hlc, hcell⟩ := list_at (HF2.out.ownsRow HL0.out (fun _ _ => id)) rfl hk2
              have c0 : wr.cell? ⟨g, k * 4, none⟩ = some (.int .i64 (-1 - (o2 : Int))) := by have := hcell 0 (by decide); exact this
              have c1 : wr.cell? ⟨g, k * 4 + 1, none⟩ = some (.int .i64 0) := by have := hcell 1 (by decide); exact this
              have c2 : wr.cell? ⟨g, k * 4 + 2, none⟩ = some (.int .i64 0) := by have := hcell 2 (by decide); exact this
              have c3 : wr.cell? ⟨g, k * 4 + 3, none⟩ = some (.string ⟨#[]⟩) := by have := hcell 3 (by decide); exact this
              clear hcell
              have hnn : ∀ wx, (binOp .neq 69 (.agg #[.int .i64 (-1 - (o2 : Int)), .int .i64 0, .int .i64 0, .string ⟨#[]⟩]) (.agg #[.int .i64 (-1 - (o2 : Int)), .int .i64 0, .int .i64 0, .string ⟨#[]⟩])).run Try.prog wx = .ok (.bool false) wx := fun wx => neq69 wx _ _ _ _
              go_wp2_with fail
              go_quiet (fail)
              go_wp2
              go_roundw
              case rel => exact ⟨k + 1, by omega, by go_num, HFN.out.drewN nq⟩
              case measure => simp [intOf]; omega
            · go_wp2
              go_roundw
              case rel => exact ⟨i + 1, by omega, by go_num, HF2.out⟩
              case measure => simp [intOf]; omega
        · skip
          go_wp2_with fail
          clear hlt k0
          go_loopw [8] (fun iv w' => ∃ i : Nat, i ≤ orr.length ∧ iv = .int .i64 i ∧ Fr (fun _ => False) w w') (fun iv _ => orr.length - (intOf iv).toNat)
          case atStart => exact ⟨0, Nat.zero_le _, rfl, HFE.out⟩
          case round =>
            obtain ⟨i, hi, rfl, hfr⟩ := hrel
            rename World => woR
            have HFR : Hid (Fr (fun _ => False) w woR) := hfr
            have HB : Hid (BookAt woR B bb (.slice via oi.length vic) (.slice vea oe.length vec) (.slice vra orr.length vrc) oi oe orr) := hfr.bookF H.out
            have k0 : woR.cell? ⟨bb, 2, none⟩ = some (.slice vra orr.length vrc) := by rw [cell_of_cells HB.out.blk]; rfl
            clear hfr
            by_cases hlt : i < orr.length
            · obtain ⟨o, ho⟩ : ∃ o, orr[i]? = some o := ⟨_, List.getElem?_eq_getElem hlt⟩
              have HOI : Hid (orr[i]? = some o) := ho
              obtain ⟨vg, hv, hvc, r0, r1⟩ := shelf_at HB.out.sr ho
              subst hv
              have hmk := HMK.out o (.inr (.inr (List.mem_of_getElem? ho)))
              obtain ⟨len, hl0⟩ := H.out.sr.ok o (List.mem_of_getElem? ho)
              obtain ⟨la, lcap, hol, hlm⟩ := anyRow_len hl0
              obtain ⟨o1, o2⟩ := o
              simp only at hol r0 r1 hmk hl0
              subst hol
              unfold maxLen at hlm
              have HL0 : Hid (w.ownsRow B 73 3 (.slice la len lcap) len (rep len (mkR o2))) := hl0
              clear hl0 ho
              go_wp2_with fail
              go_loopw [10] (fun kv w' => ∃ k : Nat, k ≤ len ∧ kv = .int .i64 k ∧ Fr (fun _ => False) (woR.alloc (.cells #[.int .i64 (-1 - (o2 : Int)), .int .i64 0, .string ⟨#[]⟩] 73)) w') (fun kv _ => len - (intOf kv).toNat)
              case atStart => exact ⟨0, Nat.zero_le _, rfl, Fr.refl _ _⟩
              case round =>
                obtain ⟨k, hk, rfl, hfr2⟩ := hrel
                have HFN : Hid (Fr (fun _ => False) (woR.alloc (.cells #[.int .i64 (-1 - (o2 : Int)), .int .i64 0, .string ⟨#[]⟩] 73)) wr) := hfr2
                have HF2 : Hid (Fr (fun _ => False) w wr) := (HFR.out.alloc _).trans hfr2 (fun _ h => h.elim)
                have HB2 : Hid (BookAt wr B bb (.slice via oi.length vic) (.slice vea oe.length vec) (.slice (some ⟨vg, 0, none⟩) orr.length vrc) oi oe orr) := HF2.out.bookF H.out
                have kk0 : wr.cell? ⟨bb, 2, none⟩ = some (.slice (some ⟨vg, 0, none⟩) orr.length vrc) := by rw [cell_of_cells HB2.out.blk]; rfl
                obtain ⟨vg2, hv2, _, rr0, rr1⟩ := shelf_at HB2.out.sr HOI.out
                simp only [Option.some.injEq, Addr.mk.injEq, and_true] at hv2
                subst hv2
                simp only at rr0 rr1
                have hbox : wr.heap[woR.heap.size]? = some (.cells #[.int .i64 (-1 - (o2 : Int)), .int .i64 0, .string ⟨#[]⟩] 73 (0, 0)) := (hfr2.block woR.heap.size (by simp) id).trans (heap_alloc_new woR _)
                have b0 : wr.cell? ⟨woR.heap.size, 0, none⟩ = some (.int .i64 (-1 - (o2 : Int))) := by rw [cell_of_cells hbox]; rfl
                have b1 : wr.cell? ⟨woR.heap.size, 1, none⟩ = some (.int .i64 0) := by rw [cell_of_cells hbox]; rfl
                have b2 : wr.cell? ⟨woR.heap.size, 2, none⟩ = some (.string ⟨#[]⟩) := by rw [cell_of_cells hbox]; rfl
                clear hbox
                clear hfr2
                by_cases hk2 : k < len
                · obtain ⟨g, rfl, hlc, hcell⟩ := list_at (HF2.out.ownsRow HL0.out (fun _ _ => id)) rfl hk2
                  have c0 : wr.cell? ⟨g, k * 3, none⟩ = some (.int .i64 (-1 - (o2 : Int))) := by have := hcell 0 (by decide); exact this
                  have c1 : wr.cell? ⟨g, k * 3 + 1, none⟩ = some (.int .i64 0) := by have := hcell 1 (by decide); exact this
                  have c2 : wr.cell? ⟨g, k * 3 + 2, none⟩ = some (.string ⟨#[]⟩) := by have := hcell 2 (by decide); exact this
                  clear hcell
                  have hnn : ∀ wx, (binOp .neq 73 (.agg #[.int .i64 (-1 - (o2 : Int)), .int .i64 0, .string ⟨#[]⟩]) (.agg #[.int .i64 (-1 - (o2 : Int)), .int .i64 0, .string ⟨#[]⟩])).run Try.prog wx = .ok (.bool false) wx := fun wx => neq73 wx _ _ _
                  go_wp2_with fail
                  go_quiet (fail)
                  go_wp2
                  go_roundw
                  case rel => exact ⟨k + 1, by omega, by go_num, HFN.out.drewN nq⟩
                  case measure => simp [intOf]; omega
                · go_wp2
                  go_roundw
                  case rel => exact ⟨i + 1, by omega, by go_num, HF2.out⟩
                  case measure => simp [intOf]; omega
            · skip
              go_wp2
              go_ret
              exact ⟨rfl, HFR.out⟩

end Go.Proofs.Ytkelpcjiediamaa
