/-
  The book of the lists: one list more, and a list that grows.
-/
import Derived.Test.YtkelpcjiediamaaBook
namespace Go.Proofs.Ytkelpcjiediamaa
open Go.RowKit Go.Maps

theorem BookAt.putE {w W w1 : World} {B bb : Nat} {vi ve vr v' l : Value} {oi oe orr : List (Value × Nat)} {K : Nat} (h : BookAt w B bb vi ve vr oi oe orr) (f : Fr (fun _ => False) w W) (hg : W.grownBy w1 ve.ownBlock)
    (hown : w1.ownsRow B 67 2 v' (oe.length + 1) (outCells oe ++ [l, .int .i64 K])) (hat : ∀ k, v'.ownBlock = some k → ve.ownBlock = some k ∨ w.heap.size ≤ k) (hl : ∃ len, w.ownsRow B 69 4 l len (rep len (mkE K))) :
    BookAt (w1.setCell ⟨bb, 1, none⟩ v') B bb vi v' vr oi (oe ++ [(l, K)]) orr ∧ Fr (fun k => k = bb ∨ ve.ownBlock = some k) w (w1.setCell ⟨bb, 1, none⟩ v') := by
  have f1 : Fr (fun k => ve.ownBlock = some k) w w1 := (f.mono (fun _ h => h.elim)).grown hg (fun k e => .inl e)
  have f2 : Fr (fun k => k = bb ∨ ve.ownBlock = some k) w (w1.setCell ⟨bb, 1, none⟩ v') := (f1.mono (fun k h => .inl (.inr h))).setCell (.inl (.inl rfl)) _
  have hnb : ve.ownBlock ≠ some bb := row_block_apart h.se.row h.blk (by decide)
  have b1 : w1.heap[bb]? = some (.cells #[vi, ve, vr] 36 (0, 0)) := (f1.block bb h.lt hnb).trans h.blk
  have far : ∀ {ty : TypeId} {wd n : Nat} {y : Value} {xs : List Value}, w.ownsRow B ty wd y n xs → ty ≠ 36 → ty ≠ 67 → ∀ k, y.ownBlock = some k → ¬ (k = bb ∨ ve.ownBlock = some k) := fun hy h1 h2 k hk => by
    rintro (e | e)
    · subst e; exact row_block_apart hy h.blk h1 hk
    · exact rows_apart hy h.se.row h2 k hk e
  have sh1 := f2.shelf h.si (far h.si.row (by decide) (by decide)) (fun o ho k hk => by obtain ⟨len, hx⟩ := h.si.ok o ho; exact far hx (by decide) (by decide) k hk)
  have sh2 := f2.shelf h.sr (far h.sr.row (by decide) (by decide)) (fun o ho k hk => by obtain ⟨len, hx⟩ := h.sr.ok o ho; exact far hx (by decide) (by decide) k hk)
  have hb2 : (w1.setCell ⟨bb, 1, none⟩ v').heap[bb]? = some (.cells #[vi,v',vr] 36 (0, 0)) := by rw [setCell_cells b1]; rfl
  have hr : Fr (fun k => k = bb) w1 (w1.setCell ⟨bb, 1, none⟩ v') := (Fr.refl (fun k => k = bb) w1).setCell (p := ⟨bb, 1, none⟩) (.inl rfl) _
  have sh0 : Shelf (w1.setCell ⟨bb, 1, none⟩ v') B 67 69 4 mkE v' (oe ++ [(l, K)]) := by
    refine ⟨?_, fun o ho => ?_⟩
    · have := hr.ownsRow hown (fun k hk e => by
        subst e
        rcases hat _ hk with h1 | h1
        · exact hnb h1
        · have := h.lt; omega)
      simpa [outCells_snoc] using this
    · simp only [List.mem_append, List.mem_singleton] at ho
      rcases ho with ho | rfl
      · obtain ⟨len, hx⟩ := h.se.ok o ho
        exact ⟨len, f2.ownsRow hx (far hx (by decide) (by decide))⟩
      · obtain ⟨len, hx⟩ := hl
        exact ⟨len, f2.ownsRow hx (far hx (by decide) (by decide))⟩
  exact ⟨⟨hb2, sh1, sh0, sh2, h.hb⟩, f2⟩

theorem BookAt.growE {w w1 : World} {B bb nn : Nat} {vi ve vr lv : Value} {oi oe orr news : List (Value × Nat)} {xs : List Value} (h : BookAt w B bb vi ve vr oi (oe ++ news) orr) (hlv : w.ownsRow B 69 4 lv nn xs) (f : Fr (fun k => lv.ownBlock = some k) w w1)
    (hold : ∀ o ∈ oe, ∀ k, o.1.ownBlock = some k → lv.ownBlock ≠ some k) (hnew : ∀ o ∈ news, ∃ len, w1.ownsRow B 69 4 o.1 len (rep len (mkE o.2))) : BookAt w1 B bb vi ve vr oi (oe ++ news) orr := by
  have hnb : lv.ownBlock ≠ some bb := row_block_apart hlv h.blk (by decide)
  have far : ∀ {ty : TypeId} {wd n : Nat} {y : Value} {xs : List Value}, w.ownsRow B ty wd y n xs → ty ≠ 69 → ∀ k, y.ownBlock = some k → ¬ lv.ownBlock = some k := fun hy h1 k hk => rows_apart hy hlv h1 k hk
  have sh1 := f.shelf h.si (far h.si.row (by decide)) (fun o ho k hk => by obtain ⟨len, hx⟩ := h.si.ok o ho; exact far hx (by decide) k hk)
  have sh2 := f.shelf h.sr (far h.sr.row (by decide)) (fun o ho k hk => by obtain ⟨len, hx⟩ := h.sr.ok o ho; exact far hx (by decide) k hk)
  have sh0 : Shelf w1 B 67 69 4 mkE ve (oe ++ news) := ⟨f.ownsRow h.se.row (far h.se.row (by decide)), fun o ho => by
    rcases List.mem_append.1 ho with ho | ho
    · obtain ⟨len, hx⟩ := h.se.ok o (List.mem_append_left _ ho)
      exact ⟨len, f.ownsRow hx (hold o ho)⟩
    · exact hnew o ho⟩
  exact ⟨(f.block bb h.lt hnb).trans h.blk, sh1, sh0, sh2, h.hb⟩

theorem BookAt.putI {w W w1 : World} {B bb : Nat} {vi ve vr v' l : Value} {oi oe orr : List (Value × Nat)} {K : Nat} (h : BookAt w B bb vi ve vr oi oe orr) (f : Fr (fun _ => False) w W) (hg : W.grownBy w1 vi.ownBlock)
    (hown : w1.ownsRow B 65 2 v' (oi.length + 1) (outCells oi ++ [l, .int .i64 K])) (hat : ∀ k, v'.ownBlock = some k → vi.ownBlock = some k ∨ w.heap.size ≤ k) (hl : ∃ len, w.ownsRow B 3 1 l len (rep len (mkI K))) :
    BookAt (w1.setCell ⟨bb, 0, none⟩ v') B bb v' ve vr (oi ++ [(l, K)]) oe orr ∧ Fr (fun k => k = bb ∨ vi.ownBlock = some k) w (w1.setCell ⟨bb, 0, none⟩ v') := by
  have f1 : Fr (fun k => vi.ownBlock = some k) w w1 := (f.mono (fun _ h => h.elim)).grown hg (fun k e => .inl e)
  have f2 : Fr (fun k => k = bb ∨ vi.ownBlock = some k) w (w1.setCell ⟨bb, 0, none⟩ v') := (f1.mono (fun k h => .inl (.inr h))).setCell (.inl (.inl rfl)) _
  have hnb : vi.ownBlock ≠ some bb := row_block_apart h.si.row h.blk (by decide)
  have b1 : w1.heap[bb]? = some (.cells #[vi, ve, vr] 36 (0, 0)) := (f1.block bb h.lt hnb).trans h.blk
  have far : ∀ {ty : TypeId} {wd n : Nat} {y : Value} {xs : List Value}, w.ownsRow B ty wd y n xs → ty ≠ 36 → ty ≠ 65 → ∀ k, y.ownBlock = some k → ¬ (k = bb ∨ vi.ownBlock = some k) := fun hy h1 h2 k hk => by
    rintro (e | e)
    · subst e; exact row_block_apart hy h.blk h1 hk
    · exact rows_apart hy h.si.row h2 k hk e
  have sh1 := f2.shelf h.se (far h.se.row (by decide) (by decide)) (fun o ho k hk => by obtain ⟨len, hx⟩ := h.se.ok o ho; exact far hx (by decide) (by decide) k hk)
  have sh2 := f2.shelf h.sr (far h.sr.row (by decide) (by decide)) (fun o ho k hk => by obtain ⟨len, hx⟩ := h.sr.ok o ho; exact far hx (by decide) (by decide) k hk)
  have hb2 : (w1.setCell ⟨bb, 0, none⟩ v').heap[bb]? = some (.cells #[v',ve,vr] 36 (0, 0)) := by rw [setCell_cells b1]; rfl
  have hr : Fr (fun k => k = bb) w1 (w1.setCell ⟨bb, 0, none⟩ v') := (Fr.refl (fun k => k = bb) w1).setCell (p := ⟨bb, 0, none⟩) (.inl rfl) _
  have sh0 : Shelf (w1.setCell ⟨bb, 0, none⟩ v') B 65 3 1 mkI v' (oi ++ [(l, K)]) := by
    refine ⟨?_, fun o ho => ?_⟩
    · have := hr.ownsRow hown (fun k hk e => by
        subst e
        rcases hat _ hk with h1 | h1
        · exact hnb h1
        · have := h.lt; omega)
      simpa [outCells_snoc] using this
    · simp only [List.mem_append, List.mem_singleton] at ho
      rcases ho with ho | rfl
      · obtain ⟨len, hx⟩ := h.si.ok o ho
        exact ⟨len, f2.ownsRow hx (far hx (by decide) (by decide))⟩
      · obtain ⟨len, hx⟩ := hl
        exact ⟨len, f2.ownsRow hx (far hx (by decide) (by decide))⟩
  exact ⟨⟨hb2, sh0, sh1, sh2, h.hb⟩, f2⟩

theorem BookAt.growI {w w1 : World} {B bb nn : Nat} {vi ve vr lv : Value} {oi oe orr news : List (Value × Nat)} {xs : List Value} (h : BookAt w B bb vi ve vr (oi ++ news) oe orr) (hlv : w.ownsRow B 3 1 lv nn xs) (f : Fr (fun k => lv.ownBlock = some k) w w1)
    (hold : ∀ o ∈ oi, ∀ k, o.1.ownBlock = some k → lv.ownBlock ≠ some k) (hnew : ∀ o ∈ news, ∃ len, w1.ownsRow B 3 1 o.1 len (rep len (mkI o.2))) : BookAt w1 B bb vi ve vr (oi ++ news) oe orr := by
  have hnb : lv.ownBlock ≠ some bb := row_block_apart hlv h.blk (by decide)
  have far : ∀ {ty : TypeId} {wd n : Nat} {y : Value} {xs : List Value}, w.ownsRow B ty wd y n xs → ty ≠ 3 → ∀ k, y.ownBlock = some k → ¬ lv.ownBlock = some k := fun hy h1 k hk => rows_apart hy hlv h1 k hk
  have sh1 := f.shelf h.se (far h.se.row (by decide)) (fun o ho k hk => by obtain ⟨len, hx⟩ := h.se.ok o ho; exact far hx (by decide) k hk)
  have sh2 := f.shelf h.sr (far h.sr.row (by decide)) (fun o ho k hk => by obtain ⟨len, hx⟩ := h.sr.ok o ho; exact far hx (by decide) k hk)
  have sh0 : Shelf w1 B 65 3 1 mkI vi (oi ++ news) := ⟨f.ownsRow h.si.row (far h.si.row (by decide)), fun o ho => by
    rcases List.mem_append.1 ho with ho | ho
    · obtain ⟨len, hx⟩ := h.si.ok o (List.mem_append_left _ ho)
      exact ⟨len, f.ownsRow hx (hold o ho)⟩
    · exact hnew o ho⟩
  exact ⟨(f.block bb h.lt hnb).trans h.blk, sh0, sh1, sh2, h.hb⟩

theorem BookAt.putR {w W w1 : World} {B bb : Nat} {vi ve vr v' l : Value} {oi oe orr : List (Value × Nat)} {K : Nat} (h : BookAt w B bb vi ve vr oi oe orr) (f : Fr (fun _ => False) w W) (hg : W.grownBy w1 vr.ownBlock)
    (hown : w1.ownsRow B 71 2 v' (orr.length + 1) (outCells orr ++ [l, .int .i64 K])) (hat : ∀ k, v'.ownBlock = some k → vr.ownBlock = some k ∨ w.heap.size ≤ k) (hl : ∃ len, w.ownsRow B 73 3 l len (rep len (mkR K))) :
    BookAt (w1.setCell ⟨bb, 2, none⟩ v') B bb vi ve v' oi oe (orr ++ [(l, K)]) ∧ Fr (fun k => k = bb ∨ vr.ownBlock = some k) w (w1.setCell ⟨bb, 2, none⟩ v') := by
  have f1 : Fr (fun k => vr.ownBlock = some k) w w1 := (f.mono (fun _ h => h.elim)).grown hg (fun k e => .inl e)
  have f2 : Fr (fun k => k = bb ∨ vr.ownBlock = some k) w (w1.setCell ⟨bb, 2, none⟩ v') := (f1.mono (fun k h => .inl (.inr h))).setCell (.inl (.inl rfl)) _
  have hnb : vr.ownBlock ≠ some bb := row_block_apart h.sr.row h.blk (by decide)
  have b1 : w1.heap[bb]? = some (.cells #[vi, ve, vr] 36 (0, 0)) := (f1.block bb h.lt hnb).trans h.blk
  have far : ∀ {ty : TypeId} {wd n : Nat} {y : Value} {xs : List Value}, w.ownsRow B ty wd y n xs → ty ≠ 36 → ty ≠ 71 → ∀ k, y.ownBlock = some k → ¬ (k = bb ∨ vr.ownBlock = some k) := fun hy h1 h2 k hk => by
    rintro (e | e)
    · subst e; exact row_block_apart hy h.blk h1 hk
    · exact rows_apart hy h.sr.row h2 k hk e
  have sh1 := f2.shelf h.si (far h.si.row (by decide) (by decide)) (fun o ho k hk => by obtain ⟨len, hx⟩ := h.si.ok o ho; exact far hx (by decide) (by decide) k hk)
  have sh2 := f2.shelf h.se (far h.se.row (by decide) (by decide)) (fun o ho k hk => by obtain ⟨len, hx⟩ := h.se.ok o ho; exact far hx (by decide) (by decide) k hk)
  have hb2 : (w1.setCell ⟨bb, 2, none⟩ v').heap[bb]? = some (.cells #[vi,ve,v'] 36 (0, 0)) := by rw [setCell_cells b1]; rfl
  have hr : Fr (fun k => k = bb) w1 (w1.setCell ⟨bb, 2, none⟩ v') := (Fr.refl (fun k => k = bb) w1).setCell (p := ⟨bb, 2, none⟩) (.inl rfl) _
  have sh0 : Shelf (w1.setCell ⟨bb, 2, none⟩ v') B 71 73 3 mkR v' (orr ++ [(l, K)]) := by
    refine ⟨?_, fun o ho => ?_⟩
    · have := hr.ownsRow hown (fun k hk e => by
        subst e
        rcases hat _ hk with h1 | h1
        · exact hnb h1
        · have := h.lt; omega)
      simpa [outCells_snoc] using this
    · simp only [List.mem_append, List.mem_singleton] at ho
      rcases ho with ho | rfl
      · obtain ⟨len, hx⟩ := h.sr.ok o ho
        exact ⟨len, f2.ownsRow hx (far hx (by decide) (by decide))⟩
      · obtain ⟨len, hx⟩ := hl
        exact ⟨len, f2.ownsRow hx (far hx (by decide) (by decide))⟩
  exact ⟨⟨hb2, sh1, sh2, sh0, h.hb⟩, f2⟩

theorem BookAt.growR {w w1 : World} {B bb nn : Nat} {vi ve vr lv : Value} {oi oe orr news : List (Value × Nat)} {xs : List Value} (h : BookAt w B bb vi ve vr oi oe (orr ++ news)) (hlv : w.ownsRow B 73 3 lv nn xs) (f : Fr (fun k => lv.ownBlock = some k) w w1)
    (hold : ∀ o ∈ orr, ∀ k, o.1.ownBlock = some k → lv.ownBlock ≠ some k) (hnew : ∀ o ∈ news, ∃ len, w1.ownsRow B 73 3 o.1 len (rep len (mkR o.2))) : BookAt w1 B bb vi ve vr oi oe (orr ++ news) := by
  have hnb : lv.ownBlock ≠ some bb := row_block_apart hlv h.blk (by decide)
  have far : ∀ {ty : TypeId} {wd n : Nat} {y : Value} {xs : List Value}, w.ownsRow B ty wd y n xs → ty ≠ 73 → ∀ k, y.ownBlock = some k → ¬ lv.ownBlock = some k := fun hy h1 k hk => rows_apart hy hlv h1 k hk
  have sh1 := f.shelf h.si (far h.si.row (by decide)) (fun o ho k hk => by obtain ⟨len, hx⟩ := h.si.ok o ho; exact far hx (by decide) k hk)
  have sh2 := f.shelf h.se (far h.se.row (by decide)) (fun o ho k hk => by obtain ⟨len, hx⟩ := h.se.ok o ho; exact far hx (by decide) k hk)
  have sh0 : Shelf w1 B 71 73 3 mkR vr (orr ++ news) := ⟨f.ownsRow h.sr.row (far h.sr.row (by decide)), fun o ho => by
    rcases List.mem_append.1 ho with ho | ho
    · obtain ⟨len, hx⟩ := h.sr.ok o (List.mem_append_left _ ho)
      exact ⟨len, f.ownsRow hx (hold o ho)⟩
    · exact hnew o ho⟩
  exact ⟨(f.block bb h.lt hnb).trans h.blk, sh1, sh2, sh0, h.hb⟩

end Go.Proofs.Ytkelpcjiediamaa
