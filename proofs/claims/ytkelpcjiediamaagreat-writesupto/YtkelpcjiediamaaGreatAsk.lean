/-
  Two heralds that answer alike, the book, and what handing a list over leaves.
-/
import Derived.Test.YtkelpcjiediamaaGreatMApart
namespace Go.Proofs.YtkelpcjiediamaaGreat
open Go.RowKit Go.Maps

/-- What the book holds. -/
structure BookS where
  vi : Value
  ve : Value
  vr : Value
  oi : List (Value × Nat)
  oe : List (Value × Nat)
  orr : List (Value × Nat)

def BookS.all (o : BookS) (bb k : Nat) : Prop := bookFoot bb o.vi o.ve o.vr k ∨ ∃ q : Value × Nat, (q ∈ o.oi ∨ q ∈ o.oe ∨ q ∈ o.orr) ∧ q.1.ownBlock = some k

def ptr (b : Nat) : Value := .pointer (some ⟨b, 0, none⟩)

/-- A new list of numbers. -/
abbrev NewInts (w1 w' : World) (v : Value) (l : List Int) : Prop := w'.ownsRow w1.heap.size 3 1 v l.length (intCells l)

/-- Nothing in F has turned. -/
abbrev Keep (F : Nat → Prop) (w w1 : World) : Prop := Fr (fun k => ¬ F k) w w1

theorem Keep.trans {F : Nat → Prop} {w w1 w2 : World} (h : Keep F w w1) (h2 : Keep F w1 w2) : Keep F w w2 := Fr.trans h h2 (fun _ => .inl)

theorem Fr.keep {F : Nat → Prop} {w w1 : World} (f : Fr (fun _ => False) w w1) : Keep F w w1 := f.mono (fun _ h => h.elim)

structure AskP (x y : Value) (n : Int) (w1 : World) (e t s er : Int) (A B : List Int) : Prop where
  a : Calls Tryz.prog 30 #[x, .int .i64 n] w1 fun r w' => ∃ va vb, r = .returned (.tuple #[.agg #[.int .i64 e, .int .i64 t, .int .i64 s, va, vb], .int .i64 er]) ∧ NewInts w1 w' va A ∧ NewInts w1 w' vb B ∧ (∀ k, va.ownBlock = some k → vb.ownBlock ≠ some k) ∧ Fr (fun _ => False) w1 w'
  b : Calls Tryz.prog 93 #[y, .int .i64 n] w1 fun r w' => ∃ va vb, r = .returned (.tuple #[.agg #[.int .i64 e, .int .i64 t, .int .i64 s, va, vb], .int .i64 er]) ∧ NewInts w1 w' va A ∧ NewInts w1 w' vb B ∧ Fr (fun _ => False) w1 w'

structure AskQ (x y : Value) (n : Int) (w1 : World) (o : Bool) (en st er : Int) (Pr : List Int → Prop) : Prop where
  a : Calls Tryz.prog 23 #[x, .int .i64 n] w1 fun r w' => ∃ va S, r = .returned (.tuple #[.agg #[.bool o, .int .i64 en, .int .i64 st, va], .int .i64 er]) ∧ Pr S ∧ NewInts w1 w' va S ∧ Fr (fun _ => False) w1 w'
  b : ∀ S, Pr S → Calls Tryz.prog 96 #[y, .int .i64 n] w1 fun r w' => ∃ va, r = .returned (.tuple #[.agg #[.bool o, .int .i64 en, .int .i64 st, va], .int .i64 er]) ∧ NewInts w1 w' va S ∧ Fr (fun _ => False) w1 w'

structure AskF (x y : Value) (n f m : Int) (w1 : World) (er : Int) (rs : List Rec) : Prop where
  a : Calls Tryz.prog 57 #[x, .int .i64 n, .int .i64 f, .int .i64 m] w1 fun r w' => ∃ va, r = .returned (.tuple #[va, .int .i64 er]) ∧ w'.ownsRow w1.heap.size 94 3 va rs.length (recCells rs) ∧ Fr (fun _ => False) w1 w'
  b : Calls Tryz.prog 97 #[y, .int .i64 n, .int .i64 f, .int .i64 m] w1 fun r w' => ∃ va, r = .returned (.tuple #[va, .int .i64 er]) ∧ w'.ownsRow w1.heap.size 94 3 va rs.length (recCells rs) ∧ Fr (fun _ => False) w1 w'

structure AskE (x y : Value) (n : Int) (w1 : World) (er : Int) (es : List Ent) : Prop where
  a : Calls Tryz.prog 17 #[x, .int .i64 n] w1 fun r w' => ∃ va, r = .returned (.tuple #[va, .int .i64 er]) ∧ w'.ownsRow w1.heap.size 55 4 va es.length (entCells es) ∧ Fr (fun _ => False) w1 w'
  b : Calls Tryz.prog 100 #[y, .int .i64 n] w1 fun r w' => ∃ va, r = .returned (.tuple #[va, .int .i64 er]) ∧ w'.ownsRow w1.heap.size 55 4 va es.length (entCells es) ∧ Fr (fun _ => False) w1 w'

structure AskJ (x y : Value) (w1 : World) (s : ByteArray) : Prop where
  a : Calls Tryz.prog 26 #[x] w1 fun r w' => r = .returned (.string s) ∧ Fr (fun _ => False) w1 w'
  b : Calls Tryz.prog 42 #[y] w1 fun r w' => r = .returned (.string s) ∧ Fr (fun _ => False) w1 w'

structure AskN (x y : Value) (w1 : World) (n : Nat) : Prop where
  a : Calls Tryz.prog 36 #[x] w1 fun r w' => r = .returned (.int .i64 n) ∧ Fr (fun _ => False) w1 w'
  b : Calls Tryz.prog 37 #[y] w1 fun r w' => r = .returned (.int .i64 n) ∧ Fr (fun _ => False) w1 w'

structure AskM (x y : Value) (k : Int) (w1 : World) (m1 m2 m3 m4 er : Int) (f : Bool) : Prop where
  a : Calls Tryz.prog 87 #[x, .int .i64 k] w1 fun r w' => r = .returned (.tuple #[.agg #[.int .i64 m1, .int .i64 m2, .int .i64 m3, .int .i64 m4, .bool f], .int .i64 er]) ∧ Fr (fun _ => False) w1 w'
  b : Calls Tryz.prog 88 #[y, .int .i64 k] w1 fun r w' => r = .returned (.tuple #[.agg #[.int .i64 m1, .int .i64 m2, .int .i64 m3, .int .i64 m4, .bool f], .int .i64 er]) ∧ Fr (fun _ => False) w1 w'

/-- Two heralds, at x and y, whose memory lies in F, answer alike whatever they are asked. -/
structure Ask (w : World) (F : Nat → Prop) (x y : Value) : Prop where
  prod : ∀ n, I64 n → ∃ e t s er A B, A.length ≤ 4 ∧ B.length ≤ 4 ∧ ∀ w1, Keep F w w1 → AskP x y n w1 e t s er A B
  part : ∀ n, I64 n → ∃ o en st er Pr, (∀ S : List Int, Pr S → S.length ≤ 100000000) ∧ ∀ w1, Keep F w w1 → AskQ x y n w1 o en st er Pr
  fetch : ∀ n f m, I64 n → ∃ er rs, rs.length ≤ 100000000 ∧ ∀ w1, Keep F w w1 → AskF x y n f m w1 er rs
  ents : ∀ n, I64 n → ∃ er es, es.length ≤ 100000000 ∧ ∀ w1, Keep F w w1 → AskE x y n w1 er es
  jour : ∃ s, ∀ w1, Keep F w w1 → AskJ x y w1 s
  num : ∃ n : Nat, n ≤ 100 ∧ ∀ w1, Keep F w w1 → AskN x y w1 n
  mess : ∀ k, I64 k → ∃ a b c d er f, ∀ w1, Keep F w w1 → AskM x y k w1 a b c d er f

theorem Ask.keep {w w' : World} {F : Nat → Prop} {x y : Value} (h : Ask w F x y) (k : Keep F w w') : Ask w' F x y where
  prod n hn := by obtain ⟨e, t, s, er, A, B, h1, h2, h3⟩ := h.prod n hn; exact ⟨e, t, s, er, A, B, h1, h2, fun w1 k1 => h3 w1 (k.trans k1)⟩
  part n hn := by obtain ⟨o, en, st, er, S, h1, h3⟩ := h.part n hn; exact ⟨o, en, st, er, S, h1, fun w1 k1 => h3 w1 (k.trans k1)⟩
  fetch n f m hn := by obtain ⟨er, rs, h1, h3⟩ := h.fetch n f m hn; exact ⟨er, rs, h1, fun w1 k1 => h3 w1 (k.trans k1)⟩
  ents n hn := by obtain ⟨er, rs, h1, h3⟩ := h.ents n hn; exact ⟨er, rs, h1, fun w1 k1 => h3 w1 (k.trans k1)⟩
  jour := by obtain ⟨s, h3⟩ := h.jour; exact ⟨s, fun w1 k1 => h3 w1 (k.trans k1)⟩
  num := by obtain ⟨s, h1, h3⟩ := h.num; exact ⟨s, h1, fun w1 k1 => h3 w1 (k.trans k1)⟩
  mess n hn := by obtain ⟨a, b, c, d, er, f, h3⟩ := h.mess n hn; exact ⟨a, b, c, d, er, f, fun w1 k1 => h3 w1 (k.trans k1)⟩

/-- The law's world: two heralds and the book. -/
structure Scn (w : World) (B : Nat) (F : Nat → Prop) (wb xb yb bb n : Nat) (o : BookS) : Prop where
  blk : w.heap[wb]? = some (.cells #[ptr xb, ptr yb, ptr bb] 37 (0, 0))
  hw : F wb
  book : BookAt w B bb o.vi o.ve o.vr o.oi o.oe o.orr
  ap : ∀ k, F k → o.all bb k → False
  flt : ∀ k, F k → k < w.heap.size
  fB : ∀ k, F k → B ≤ k
  ci : o.oi.length ≤ 4 * n
  ce : o.oe.length ≤ 4 * n
  cr : o.orr.length ≤ 4 * n
  mks : ∀ q : Value × Nat, (q ∈ o.oi ∨ q ∈ o.oe ∨ q ∈ o.orr) → q.2 ≤ 4 * n

section
variable {w w' : World} {B : Nat} {F : Nat → Prop} {wb xb yb bb n : Nat} {o : BookS}

theorem BookAt.all_lt {vi ve vr : Value} {oi oe orr : List (Value × Nat)} (h : BookAt w B bb vi ve vr oi oe orr) {k : Nat} (hk : BookS.all ⟨vi, ve, vr, oi, oe, orr⟩ bb k) : k < w.heap.size ∧ B ≤ k := by
  rcases hk with (rfl | hk | hk | hk) | ⟨q, hq, hk⟩
  · exact ⟨h.lt, h.hb⟩
  · exact ⟨(h.si.row.lt k hk).2, (h.si.row.lt k hk).1⟩
  · exact ⟨(h.se.row.lt k hk).2, (h.se.row.lt k hk).1⟩
  · exact ⟨(h.sr.row.lt k hk).2, (h.sr.row.lt k hk).1⟩
  · rcases hq with hq | hq | hq
    · obtain ⟨len, hx⟩ := h.si.ok q hq; exact ⟨(hx.lt k hk).2, (hx.lt k hk).1⟩
    · obtain ⟨len, hx⟩ := h.se.ok q hq; exact ⟨(hx.lt k hk).2, (hx.lt k hk).1⟩
    · obtain ⟨len, hx⟩ := h.sr.ok q hq; exact ⟨(hx.lt k hk).2, (hx.lt k hk).1⟩

theorem Scn.cells (h : Scn w B F wb xb yb bb n o) : w.cell? ⟨wb, 0, none⟩ = some (ptr xb) ∧ w.cell? ⟨wb, 1, none⟩ = some (ptr yb) ∧ w.cell? ⟨wb, 2, none⟩ = some (ptr bb) := by
  refine ⟨?_, ?_, ?_⟩ <;> (rw [cell_of_cells h.blk]; rfl)

/-- While nothing of the book is written either. -/
theorem Scn.after (h : Scn w B F wb xb yb bb n o) (f : Fr (fun _ => False) w w') : Scn w' B F wb xb yb bb n o :=
  ⟨(f.block wb (lt_of_block h.blk) id).trans h.blk, h.hw, f.bookF h.book, h.ap, fun k hk => Nat.lt_of_lt_of_le (h.flt k hk) f.size, h.fB, h.ci, h.ce, h.cr, h.mks⟩

theorem Scn.room (h : Scn w B F wb xb yb bb n o) (hn : n ≤ 10000000) : (o.oi.length + 4) * 32 ≤ 140737488355328 ∧ (o.oe.length + 4) * 32 ≤ 140737488355328 ∧ (o.orr.length + 4) * 32 ≤ 140737488355328 := by
  have h3 := h.ci
  have h4 := h.ce
  have h5 := h.cr
  omega

/-- What a list that is handed over leaves. -/
structure Owned (w w' : World) (B : Nat) (F : Nat → Prop) (wb xb yb bb n : Nat) (o : BookS) (l : Value) (o' : BookS) : Prop where
  scn : Scn w' B F wb xb yb bb (n + 1) o'
  fr : Fr (fun k => o.all bb k ∨ l.ownBlock = some k) w w'
  lies : ∀ k, o'.all bb k → o.all bb k ∨ l.ownBlock = some k ∨ w.heap.size ≤ k

theorem Owned.keep {l : Value} {o' : BookS} (h : Scn w B F wb xb yb bb n o) (hF : ∀ k, l.ownBlock = some k → ¬ F k) (p : Owned w w' B F wb xb yb bb n o l o') : Keep F w w' :=
  p.fr.mono (fun k hk => .inl (fun hf => by
    rcases hk with hk | hk
    · exact h.ap k hf hk
    · exact hF k hk hf))

theorem Owned.far {l : Value} {o' : BookS} (h : Scn w B F wb xb yb bb n o) (hl : ∀ k, l.ownBlock = some k → B ≤ k) (p : Owned w w' B F wb xb yb bb n o l o') : Fr (fun k => B ≤ k) w w' :=
  p.fr.mono (fun k hk => .inl (by
    rcases hk with hk | hk
    · exact (h.book.all_lt hk).2
    · exact hl k hk))

theorem Scn.ownI {l : Value} {len : Nat} {xs : List Value} (h : Scn w B F wb xb yb bb n o) (hn : n ≤ 10000000) (hl : w.ownsRow B 3 1 l len xs) (hF : ∀ k, l.ownBlock = some k → ¬ F k) (hA : ∀ k, l.ownBlock = some k → ¬ o.all bb k) (hlen : len ≤ 100000000) :
    Calls Tryz.prog 95 #[ptr bb, l] w fun e w' => e = .returned (.tuple #[]) ∧ ∃ o', Owned w w' B F wb xb yb bb n o l o' := by
  refine (ownI_any h.book hl (fun q hq k hk e => hA k e (.inr ⟨q, .inl hq, hk⟩)) (h.room hn).1 (by omega)).mono fun _ w' ⟨h1, v', news, h2, h3, h4⟩ => ⟨h1, ⟨v', o.ve, o.vr, o.oi ++ news, o.oe, o.orr⟩, ?_⟩
  have fr : Fr (fun k => o.all bb k ∨ l.ownBlock = some k) w w' := h2.fr.mono (fun k hk => .inl (by
    rcases hk with hk | hk | hk
    · exact .inl (.inl (.inl hk))
    · exact .inl (.inl (.inr (.inl hk)))
    · exact .inr hk))
  have lies : ∀ k, BookS.all ⟨v', o.ve, o.vr, o.oi ++ news, o.oe, o.orr⟩ bb k → o.all bb k ∨ l.ownBlock = some k ∨ w.heap.size ≤ k := by
    intro k hk
    rcases hk with (hk | hk | hk | hk) | ⟨q, hq, hk⟩
    · exact .inl (.inl (.inl hk))
    · rcases h2.vlies k hk with a | a
      · exact .inl (.inl (.inr (.inl a)))
      · exact .inr (.inr a)
    · exact .inl (.inl (.inr (.inr (.inl hk))))
    · exact .inl (.inl (.inr (.inr (.inr hk))))
    · simp only [List.mem_append] at hq
      rcases hq with (hq | hq) | hq | hq
      · exact .inl (.inr ⟨q, .inl hq, hk⟩)
      · exact .inr (h2.lies q hq k hk)
      · exact .inl (.inr ⟨q, .inr (.inl hq), hk⟩)
      · exact .inl (.inr ⟨q, .inr (.inr hq), hk⟩)
  have hci := h.ci
  refine ⟨⟨(fr.block wb (lt_of_block h.blk) (fun hk => ?_)).trans h.blk, h.hw, h2.book, fun k hf hk => ?_, fun k hk => Nat.lt_of_lt_of_le (h.flt k hk) fr.size, h.fB, ?_, ?_, ?_, ?_⟩, fr, lies⟩
  · rcases hk with hk | hk
    · exact h.ap wb h.hw hk
    · exact hF wb hk h.hw
  · rcases lies k hk with a | a | a
    · exact h.ap k hf a
    · exact hF k a hf
    · have := h.flt k hf; omega
  · simp only [List.length_append]; omega
  · have := h.ce; simp only; omega
  · have := h.cr; simp only; omega
  · intro q hq
    simp only [List.mem_append] at hq
    rcases hq with (hq | hq) | hq
    · have := h.mks q (.inl hq); omega
    · have := h4 q hq; omega
    · have := h.mks q (.inr hq); omega

theorem Scn.ownE {l : Value} {len : Nat} {xs : List Value} (h : Scn w B F wb xb yb bb n o) (hn : n ≤ 10000000) (hl : w.ownsRow B 55 4 l len xs) (hF : ∀ k, l.ownBlock = some k → ¬ F k) (hA : ∀ k, l.ownBlock = some k → ¬ o.all bb k) (hlen : len ≤ 100000000) :
    Calls Tryz.prog 102 #[ptr bb, l] w fun e w' => e = .returned (.tuple #[]) ∧ ∃ o', Owned w w' B F wb xb yb bb n o l o' := by
  refine (ownE_any h.book hl (fun q hq k hk e => hA k e (.inr ⟨q, .inr (.inl hq), hk⟩)) (h.room hn).2.1 (by omega)).mono fun _ w' ⟨h1, v', news, h2, h3, h4⟩ => ⟨h1, ⟨o.vi, v', o.vr, o.oi, o.oe ++ news, o.orr⟩, ?_⟩
  have fr : Fr (fun k => o.all bb k ∨ l.ownBlock = some k) w w' := h2.fr.mono (fun k hk => .inl (by
    rcases hk with hk | hk | hk
    · exact .inl (.inl (.inl hk))
    · exact .inl (.inl (.inr (.inr (.inl hk))))
    · exact .inr hk))
  have lies : ∀ k, BookS.all ⟨o.vi, v', o.vr, o.oi, o.oe ++ news, o.orr⟩ bb k → o.all bb k ∨ l.ownBlock = some k ∨ w.heap.size ≤ k := by
    intro k hk
    rcases hk with (hk | hk | hk | hk) | ⟨q, hq, hk⟩
    · exact .inl (.inl (.inl hk))
    · exact .inl (.inl (.inr (.inl hk)))
    · rcases h2.vlies k hk with a | a
      · exact .inl (.inl (.inr (.inr (.inl a))))
      · exact .inr (.inr a)
    · exact .inl (.inl (.inr (.inr (.inr hk))))
    · simp only [List.mem_append] at hq
      rcases hq with hq | (hq | hq) | hq
      · exact .inl (.inr ⟨q, .inl hq, hk⟩)
      · exact .inl (.inr ⟨q, .inr (.inl hq), hk⟩)
      · exact .inr (h2.lies q hq k hk)
      · exact .inl (.inr ⟨q, .inr (.inr hq), hk⟩)
  have hce := h.ce
  refine ⟨⟨(fr.block wb (lt_of_block h.blk) (fun hk => ?_)).trans h.blk, h.hw, h2.book, fun k hf hk => ?_, fun k hk => Nat.lt_of_lt_of_le (h.flt k hk) fr.size, h.fB, ?_, ?_, ?_, ?_⟩, fr, lies⟩
  · rcases hk with hk | hk
    · exact h.ap wb h.hw hk
    · exact hF wb hk h.hw
  · rcases lies k hk with a | a | a
    · exact h.ap k hf a
    · exact hF k a hf
    · have := h.flt k hf; omega
  · have := h.ci; simp only; omega
  · simp only [List.length_append]; omega
  · have := h.cr; simp only; omega
  · intro q hq
    simp only [List.mem_append] at hq
    rcases hq with hq | (hq | hq) | hq
    · have := h.mks q (.inl hq); omega
    · have := h.mks q (.inr (.inl hq)); omega
    · have := h4 q hq; omega
    · have := h.mks q (.inr (.inr hq)); omega

theorem Scn.ownR {l : Value} {len : Nat} {xs : List Value} (h : Scn w B F wb xb yb bb n o) (hn : n ≤ 10000000) (hl : w.ownsRow B 94 3 l len xs) (hF : ∀ k, l.ownBlock = some k → ¬ F k) (hA : ∀ k, l.ownBlock = some k → ¬ o.all bb k) (hlen : len ≤ 100000000) :
    Calls Tryz.prog 99 #[ptr bb, l] w fun e w' => e = .returned (.tuple #[]) ∧ ∃ o', Owned w w' B F wb xb yb bb n o l o' := by
  refine (ownR_any h.book hl (fun q hq k hk e => hA k e (.inr ⟨q, .inr (.inr hq), hk⟩)) (h.room hn).2.2 (by omega)).mono fun _ w' ⟨h1, v', news, h2, h3, h4⟩ => ⟨h1, ⟨o.vi, o.ve, v', o.oi, o.oe, o.orr ++ news⟩, ?_⟩
  have fr : Fr (fun k => o.all bb k ∨ l.ownBlock = some k) w w' := h2.fr.mono (fun k hk => .inl (by
    rcases hk with hk | hk | hk
    · exact .inl (.inl (.inl hk))
    · exact .inl (.inl (.inr (.inr (.inr hk))))
    · exact .inr hk))
  have lies : ∀ k, BookS.all ⟨o.vi, o.ve, v', o.oi, o.oe, o.orr ++ news⟩ bb k → o.all bb k ∨ l.ownBlock = some k ∨ w.heap.size ≤ k := by
    intro k hk
    rcases hk with (hk | hk | hk | hk) | ⟨q, hq, hk⟩
    · exact .inl (.inl (.inl hk))
    · exact .inl (.inl (.inr (.inl hk)))
    · exact .inl (.inl (.inr (.inr (.inl hk))))
    · rcases h2.vlies k hk with a | a
      · exact .inl (.inl (.inr (.inr (.inr a))))
      · exact .inr (.inr a)
    · simp only [List.mem_append] at hq
      rcases hq with hq | hq | (hq | hq)
      · exact .inl (.inr ⟨q, .inl hq, hk⟩)
      · exact .inl (.inr ⟨q, .inr (.inl hq), hk⟩)
      · exact .inl (.inr ⟨q, .inr (.inr hq), hk⟩)
      · exact .inr (h2.lies q hq k hk)
  have hcr := h.cr
  refine ⟨⟨(fr.block wb (lt_of_block h.blk) (fun hk => ?_)).trans h.blk, h.hw, h2.book, fun k hf hk => ?_, fun k hk => Nat.lt_of_lt_of_le (h.flt k hk) fr.size, h.fB, ?_, ?_, ?_, ?_⟩, fr, lies⟩
  · rcases hk with hk | hk
    · exact h.ap wb h.hw hk
    · exact hF wb hk h.hw
  · rcases lies k hk with a | a | a
    · exact h.ap k hf a
    · exact hF k a hf
    · have := h.flt k hf; omega
  · have := h.ci; simp only; omega
  · have := h.ce; simp only; omega
  · simp only [List.length_append]; omega
  · intro q hq
    simp only [List.mem_append] at hq
    rcases hq with hq | hq | (hq | hq)
    · have := h.mks q (.inl hq); omega
    · have := h.mks q (.inr (.inl hq)); omega
    · have := h.mks q (.inr (.inr hq)); omega
    · have := h4 q hq; omega

theorem Scn.looks (h : Scn w B F wb xb yb bb n o) (hn : n ≤ 10000000) : Calls Tryz.prog 13 #[ptr bb] w fun e w' => e = .returned (.bool true) ∧ Fr (fun _ => False) w w' :=
  looks_any h.book (fun q hq => by have := h.mks q hq; omega)
end

end Go.Proofs.YtkelpcjiediamaaGreat

