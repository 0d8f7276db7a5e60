/-
  Two logs, the document's two, and the book.
-/
import Derived.Test.YtkelpcjiediamaaLogAsk
namespace Go.Proofs.Ytkelpcjiediamaa
open Go.RowKit Go.Maps

/-- A log and the document's. -/
structure Side where
  lb : Nat
  bm : Nat
  yb : Nat
  v : Value
  u : Value
  s : LogS
  L : List Ent

/-- What the book holds. -/
structure BookS where
  vi : Value
  ve : Value
  vr : Value
  oi : List (Value × Nat)
  oe : List (Value × Nat)
  orr : List (Value × Nat)

def Side.foot (a : Side) (k : Nat) : Prop := logFoot a.lb a.bm a.v k ∨ refFoot a.yb a.u k

structure Side.At (a : Side) (w : World) (B n : Nat) : Prop where
  log : LogAt w B a.lb a.bm a.v n a.s
  ref : RefAt w B a.yb a.u a.L
  rel : Rel a.s a.L
  les : a.s.es.length ≤ n
  lL : a.L.length ≤ n

theorem Side.At.foot_lt {a : Side} {w : World} {B n : Nat} (h : a.At w B n) {k : Nat} (hk : a.foot k) : k < w.heap.size := by
  rcases hk with hk | hk
  · exact h.log.foot_lt hk
  · exact h.ref.foot_lt hk

structure State (w : World) (B bb n : Nat) (a b : Side) (o : BookS) : Prop where
  sa : a.At w B n
  sb : b.At w B n
  book : BookAt w B bb o.vi o.ve o.vr o.oi o.oe o.orr
  ap : ∀ k, a.foot k → b.foot k → False
  da : ∀ q ∈ o.oe, ∀ k, q.1.ownBlock = some k → a.v.ownBlock ≠ some k
  db : ∀ q ∈ o.oe, ∀ k, q.1.ownBlock = some k → b.v.ownBlock ≠ some k
  ci : o.oi.length ≤ 4 * n
  ce : o.oe.length ≤ 4 * n
  cr : o.orr.length ≤ 4 * n
  mks : ∀ q : Value × Nat, (q ∈ o.oi ∨ q ∈ o.oe ∨ q ∈ o.orr) → q.2 ≤ 4 * n

theorem State.swap {w : World} {B bb n : Nat} {a b : Side} {o : BookS} (h : State w B bb n a b o) : State w B bb n b a o :=
  ⟨h.sb, h.sa, h.book, fun k x y => h.ap k y x, h.db, h.da, h.ci, h.ce, h.cr, h.mks⟩

theorem State.room {w : World} {B bb n : Nat} {a b : Side} {o : BookS} (h : State w B bb n a b o) (hn : n ≤ 2097152) : Room n o.oi o.oe o.orr a.s a.L := by
  have h1 := h.sa.les
  have h2 := h.sa.lL
  have h3 := h.ci
  have h4 := h.ce
  have h5 := h.cr
  exact ⟨by omega, by omega, by omega, by omega, by omega, by omega⟩

theorem Fr.side {w w2 : World} (f : Fr (fun _ => False) w w2) {a : Side} {B n : Nat} (h : a.At w B n) : a.At w2 B n :=
  ⟨f.logAt h.log id id (fun _ _ => id), f.refAt h.ref id (fun _ _ => id), h.rel, h.les, h.lL⟩

theorem Fr.state {w w2 : World} (f : Fr (fun _ => False) w w2) {B bb n : Nat} {a b : Side} {o : BookS} (h : State w B bb n a b o) : State w2 B bb n a b o :=
  ⟨f.side h.sa, f.side h.sb, f.bookF h.book, h.ap, h.da, h.db, h.ci, h.ce, h.cr, h.mks⟩

/-- What a step keeps. -/
structure Kept (w w' : World) (B : Nat) : Prop where
  fr : Fr (fun k => B ≤ k) w w'
  sl : ∀ (k : Nat) (cs : Array Value) (ty : TypeId) (f : Nat × Nat), w.heap[k]? = some (Obj.cells cs ty f) → (ty = 23 ∨ ty = 26) → w'.heap[k]? = some (Obj.cells cs ty f)

theorem Kept.trans {w w1 w2 : World} {B : Nat} (h : Kept w w1 B) (h2 : Kept w1 w2 B) : Kept w w2 B :=
  ⟨h.fr.trans h2.fr (fun _ => .inl), fun k cs ty fr e ht => h2.sl k cs ty fr (h.sl k cs ty fr e ht) ht⟩

theorem Fr.kept {w w2 : World} (f : Fr (fun _ => False) w w2) (B : Nat) : Kept w w2 B :=
  ⟨f.mono (fun _ h => h.elim), fun k _ _ _ e _ => (f.block k (lt_of_block e) id).trans e⟩

theorem State.foots {w : World} {B bb n : Nat} {a b : Side} {o : BookS} (h : State w B bb n a b o) {k : Nat} (hk : stepFoot a.lb a.bm a.yb bb a.v a.u o.vi o.ve o.vr k) : B ≤ k := by
  rcases hk with (rfl | rfl | e) | (rfl | e) | (rfl | e | e | e)
  · exact h.sa.log.hl
  · exact h.sa.log.hm
  · exact (h.sa.log.row.lt k e).1
  · exact h.sa.ref.hy
  · exact (h.sa.ref.row.lt k e).1
  · exact h.book.hb
  · exact (h.book.si.row.lt k e).1
  · exact (h.book.se.row.lt k e).1
  · exact (h.book.sr.row.lt k e).1

theorem State.step {w w' : World} {B bb n : Nat} {a b : Side} {o : BookS} (h : State w B bb n a b o) (e : StepEnd w w' B a.lb a.bm a.yb bb n a.v a.u o.vi o.ve o.vr o.oi o.oe o.orr a.s a.L) :
    ∃ a' o', State w' B bb (n + 1) a' b o' ∧ a'.lb = a.lb ∧ a'.yb = a.yb ∧ Kept w w' B := by
  obtain ⟨v', u', vi', ve', vr', ni, ne, nr, s', L', l⟩ := e
  have hno : ∀ k, stepFoot a.lb a.bm a.yb bb a.v a.u o.vi o.ve o.vr k → b.foot k → False := by
    intro k hk hb
    rcases hk with hk | hk | hk
    · exact h.ap k (.inl hk) hb
    · exact h.ap k (.inr hk) hb
    · rcases hb with hb | hb
      · exact log_book h.sb.log h.book k hb hk
      · exact ref_book h.sb.ref h.book k hb hk
  have hles := h.sa.les
  have hlL := h.sa.lL
  have hci := h.ci
  have hce := h.ce
  have hcr := h.cr
  refine ⟨⟨a.lb, a.bm, a.yb, v', u', s', L'⟩, ⟨vi', ve', vr', o.oi ++ ni, o.oe ++ ne, o.orr ++ nr⟩, ⟨⟨l.log, l.ref, l.rel, ?_, ?_⟩, ⟨?_, ?_, h.sb.rel, ?_, ?_⟩, l.book, ?_, l.dis, ?_, ?_, ?_, ?_, ?_⟩, rfl, rfl, l.fr.mono (fun k hk => .inl (h.foots hk)), ?_⟩
  · have := l.les; simp only; omega
  · have := l.lL; simp only; omega
  · exact (h.sb.log.stay l.fr (fun k x y => hno k x (.inl y))).mono (by omega)
  · exact h.sb.ref.stay l.fr (fun k x y => hno k x (.inr y))
  · have := h.sb.les; omega
  · have := h.sb.lL; omega
  · intro k hk hb
    have hlt := h.sb.foot_lt hb
    rcases hk with (hk | hk | hk) | (hk | hk)
    · exact h.ap k (.inl (.inl hk)) hb
    · exact h.ap k (.inl (.inr (.inl hk))) hb
    · rcases l.lv k hk with h1 | h1
      · exact h.ap k (.inl (.inr (.inr h1))) hb
      · omega
    · exact h.ap k (.inr (.inl hk)) hb
    · rcases l.lu k hk with h1 | h1
      · exact h.ap k (.inr (.inr h1)) hb
      · omega
  · intro q hq k hk hv
    rcases List.mem_append.1 hq with hq | hq
    · exact h.db q hq k hk hv
    · have h1 := l.lne q hq k hk
      have h2 := h.sb.foot_lt (.inl (.inr (.inr hv)))
      omega
  · have := l.cni; simp only [List.length_append]; omega
  · have := l.cne; simp only [List.length_append]; omega
  · have := l.cnr; simp only [List.length_append]; omega
  · intro q hq
    simp only [List.mem_append] at hq
    have hm := h.mks q
    rcases hq with (hq | hq) | (hq | hq) | (hq | hq)
    · have := hm (.inl hq); omega
    · have := l.mi q hq; omega
    · have := hm (.inr (.inl hq)); omega
    · have := l.me q hq; omega
    · have := hm (.inr (.inr hq)); omega
    · have := l.mr q hq; omega
  · intro k cs ty fr hk ht
    rw [l.fr.block k (lt_of_block hk) (fun hf => ?_)]
    · exact hk
    · have e0 := tag_cells hk
      rcases hf with hf | hf | hf
      · rcases h.sa.log.tags hf with e | e | e <;> rw [e0] at e <;> subst e <;> rcases ht with ht | ht <;> cases ht
      · rcases h.sa.ref.tags hf with e | e <;> rw [e0] at e <;> subst e <;> rcases ht with ht | ht <;> cases ht
      · rcases h.book.tags hf with e | e | e | e <;> rw [e0] at e <;> subst e <;> rcases ht with ht | ht <;> cases ht

theorem State.looks {w : World} {B bb n : Nat} {a b : Side} {o : BookS} (h : State w B bb n a b o) (hn : n ≤ 2097152) : ∀ q : Value × Nat, (q ∈ o.oi ∨ q ∈ o.oe ∨ q ∈ o.orr) → (q.2 : Int) ≤ 140737488355328 := by
  intro q hq
  have := h.mks q hq
  omega

/-- The two slices. -/
structure Slices (w : World) (xb yb l0 l1 y0 y1 : Nat) : Prop where
  x : w.heap[xb]? = some (.cells #[.pointer (some ⟨l0, 0, none⟩), .pointer (some ⟨l1, 0, none⟩)] 23 (0, 0))
  y : w.heap[yb]? = some (.cells #[.pointer (some ⟨y0, 0, none⟩), .pointer (some ⟨y1, 0, none⟩)] 26 (0, 0))

theorem Slices.keep {w w' : World} {B xb yb l0 l1 y0 y1 : Nat} (h : Slices w xb yb l0 l1 y0 y1) (k : Kept w w' B) : Slices w' xb yb l0 l1 y0 y1 :=
  ⟨k.sl _ _ _ _ h.x (.inl rfl), k.sl _ _ _ _ h.y (.inr rfl)⟩

/-- All of it. -/
structure Scene (w : World) (B xb yb l0 l1 y0 y1 bb n : Nat) (w' : World) : Prop where
  st : ∃ a b o, State w' B bb n a b o ∧ a.lb = l0 ∧ b.lb = l1 ∧ a.yb = y0 ∧ b.yb = y1
  sl : Slices w' xb yb l0 l1 y0 y1
  fr : Fr (fun k => B ≤ k) w w'

theorem Scene.after {w w1 w2 : World} {B xb yb l0 l1 y0 y1 bb n : Nat} (h : Scene w B xb yb l0 l1 y0 y1 bb n w1) (f : Fr (fun _ => False) w1 w2) : Scene w B xb yb l0 l1 y0 y1 bb n w2 := by
  obtain ⟨a, b, o, hs, h2⟩ := h.st
  exact ⟨⟨a, b, o, f.state hs, h2⟩, h.sl.keep (f.kept B), h.fr.trans f (fun _ h => h.elim)⟩

/-- A step on one of the two logs. -/
theorem Scene.step {w w1 : World} {B xb yb l0 l1 y0 y1 bb n : Nat} (h : Scene w B xb yb l0 l1 y0 y1 bb n w1) (hn : n ≤ 2097152) (k : Nat) (x : Stp) (hp : I64 x.p) (ht : I64 x.t) (hs : x.s.size ≤ maxLen) :
    Calls Try.prog 7 #[.pointer (some ⟨if k = 0 then l0 else l1, 0, none⟩), .pointer (some ⟨if k = 0 then y0 else y1, 0, none⟩), .agg #[.int .i64 x.wh, .int .i64 x.k, .int .i64 x.p, .int .i64 x.t, .string x.s, .bool x.c], .pointer (some ⟨bb, 0, none⟩)] w1 fun e w' => e = .returned (.bool true) ∧ Scene w B xb yb l0 l1 y0 y1 bb (n + 1) w' := by
  obtain ⟨a, b, o, hst, rfl, rfl, rfl, rfl⟩ := h.st
  by_cases e : k = 0
  · rw [if_pos e, if_pos e]
    refine (logStep_any hst.sa.log hst.sa.ref hst.book hst.da hst.sa.rel x hp ht hs (hst.room hn)).mono fun _ w' ⟨h1, h2⟩ => ⟨h1, ?_⟩
    obtain ⟨a', o', h3, h4, h5, h6⟩ := hst.step h2
    exact ⟨⟨a', b, o', h3, h4, rfl, h5, rfl⟩, h.sl.keep h6, h.fr.trans h6.fr (fun _ => .inl)⟩
  · rw [if_neg e, if_neg e]
    have hst' := hst.swap
    refine (logStep_any hst'.sa.log hst'.sa.ref hst'.book hst'.da hst'.sa.rel x hp ht hs (hst'.room hn)).mono fun _ w' ⟨h1, h2⟩ => ⟨h1, ?_⟩
    obtain ⟨a', o', h3, h4, h5, h6⟩ := hst'.step h2
    exact ⟨⟨a, a', o', h3.swap, rfl, h4, rfl, h5⟩, h.sl.keep h6, h.fr.trans h6.fr (fun _ => .inl)⟩

theorem Scene.looks {w w1 : World} {B xb yb l0 l1 y0 y1 bb n : Nat} (h : Scene w B xb yb l0 l1 y0 y1 bb n w1) (hn : n ≤ 2097152) :
    Calls Try.prog 8 #[.pointer (some ⟨bb, 0, none⟩)] w1 fun e w' => e = .returned (.bool true) ∧ Scene w B xb yb l0 l1 y0 y1 bb n w' := by
  obtain ⟨a, b, o, hst, _⟩ := h.st
  exact (looks_any hst.book (hst.looks hn)).mono fun _ w' ⟨h1, h2⟩ => ⟨h1, h.after h2⟩

theorem Scene.xs {w w1 : World} {B xb yb l0 l1 y0 y1 bb n : Nat} (h : Scene w B xb yb l0 l1 y0 y1 bb n w1) {k : Nat} (hk : k < 2) :
    w1.cell? ⟨xb, k, none⟩ = some (.pointer (some ⟨if k = 0 then l0 else l1, 0, none⟩)) ∧ w1.cell? ⟨yb, k, none⟩ = some (.pointer (some ⟨if k = 0 then y0 else y1, 0, none⟩)) := by
  rw [cell_of_cells h.sl.x, cell_of_cells h.sl.y]
  match k, hk with
  | 0, _ => exact ⟨rfl, rfl⟩
  | 1, _ => exact ⟨rfl, rfl⟩

/-- Which of the two is meant. -/
structure Sel (w : World) (B xb yb l0 l1 y0 y1 bb k lx ly : Nat) : Prop where
  cx : ∀ n w1, Scene w B xb yb l0 l1 y0 y1 bb n w1 → w1.cell? ⟨xb, k, none⟩ = some (.pointer (some ⟨lx, 0, none⟩))
  cy : ∀ n w1, Scene w B xb yb l0 l1 y0 y1 bb n w1 → w1.cell? ⟨yb, k, none⟩ = some (.pointer (some ⟨ly, 0, none⟩))
  call : ∀ n w1, Scene w B xb yb l0 l1 y0 y1 bb n w1 → n ≤ 2097152 → ∀ x : Stp, I64 x.p → I64 x.t → x.s.size ≤ maxLen →
    Calls Try.prog 7 #[.pointer (some ⟨lx, 0, none⟩), .pointer (some ⟨ly, 0, none⟩), .agg #[.int .i64 x.wh, .int .i64 x.k, .int .i64 x.p, .int .i64 x.t, .string x.s, .bool x.c], .pointer (some ⟨bb, 0, none⟩)] w1 fun e w' => e = .returned (.bool true) ∧ Scene w B xb yb l0 l1 y0 y1 bb (n + 1) w'

theorem sel (w : World) (B xb yb l0 l1 y0 y1 bb : Nat) {k : Nat} (hk : k < 2) : ∃ lx ly, Sel w B xb yb l0 l1 y0 y1 bb k lx ly :=
  ⟨_, _, fun _ _ h => (h.xs hk).1, fun _ _ h => (h.xs hk).2, fun _ _ h hn x hp ht hs => h.step hn k x hp ht hs⟩

theorem Scene.at_ {w w1 : World} {B xb yb l0 l1 y0 y1 bb n : Nat} (h : Scene w B xb yb l0 l1 y0 y1 bb n w1) {x : Stp} {sb o : Nat} (hx : x.at_ w sb o) (hsb : sb < w.heap.size) (hB : sb < B) : x.at_ w1 sb o := by
  have k : ∀ o, w1.cell? ⟨sb, o, none⟩ = w.cell? ⟨sb, o, none⟩ := fun o => h.fr.cell (p := ⟨sb, o, none⟩) hsb (Nat.not_le.2 hB)
  obtain ⟨c0, c1, c2, c3, c4, c5⟩ := hx
  exact ⟨by rw [k]; exact c0, by rw [k]; exact c1, by rw [k]; exact c2, by rw [k]; exact c3, by rw [k]; exact c4, by rw [k]; exact c5⟩

theorem alloc_at {w : World} (o : Obj) {k : Nat} (hk : k = w.heap.size) : (w.alloc o).heap[k]? = some o := by subst hk; exact heap_alloc_new w o
theorem alloc_old {w : World} (o : Obj) {k : Nat} {x : Obj} (h : w.heap[k]? = some x) : (w.alloc o).heap[k]? = some x := ((nofr o).block k (lt_of_block h) id).trans h

/-- How it begins. -/
theorem scene_new {w w1 w2 : World} (h1 : LogAt w1 w.heap.size (w.heap.size + 1) w.heap.size (.slice none 0 0) 0 ⟨[], 0, fun _ => none⟩) (f1 : Fr (fun _ => False) w w1)
    (h2 : LogAt w2 w1.heap.size (w1.heap.size + 1) w1.heap.size (.slice none 0 0) 0 ⟨[], 0, fun _ => none⟩) (f2 : Fr (fun _ => False) w1 w2) :
    Scene w w.heap.size w2.heap.size (w2.heap.size + 1 + 1 + 1) (w.heap.size + 1) (w1.heap.size + 1) (w2.heap.size + 1) (w2.heap.size + 1 + 1) (w2.heap.size + 1 + 1 + 1 + 1) 0
      (((((w2.alloc (.cells #[.pointer (some ⟨w.heap.size + 1, 0, none⟩), .pointer (some ⟨w1.heap.size + 1, 0, none⟩)] 23)).alloc (.cells #[.slice none 0 0] 29)).alloc (.cells #[.slice none 0 0] 29)).alloc (.cells #[.pointer (some ⟨w2.heap.size + 1, 0, none⟩), .pointer (some ⟨w2.heap.size + 1 + 1, 0, none⟩)] 26)).alloc (.cells #[.slice none 0 0, .slice none 0 0, .slice none 0 0] 36)) := by
  have z1 := f1.size
  have z2 := f2.size
  have k1 := h1.lt
  have F : Fr (fun _ => False) w2 (((((w2.alloc (.cells #[.pointer (some ⟨w.heap.size + 1, 0, none⟩), .pointer (some ⟨w1.heap.size + 1, 0, none⟩)] 23)).alloc (.cells #[.slice none 0 0] 29)).alloc (.cells #[.slice none 0 0] 29)).alloc (.cells #[.pointer (some ⟨w2.heap.size + 1, 0, none⟩), .pointer (some ⟨w2.heap.size + 1 + 1, 0, none⟩)] 26)).alloc (.cells #[.slice none 0 0, .slice none 0 0, .slice none 0 0] 36)) :=
    (((((Fr.refl _ _).alloc _).alloc _).alloc _).alloc _).alloc _
  have g1 := F.logAt (f2.logAt h1 id id (fun _ _ => id)) id id (fun _ _ => id)
  have g2 := F.logAt h2 id id (fun _ _ => id)
  have hb : LogAt (((((w2.alloc (.cells #[.pointer (some ⟨w.heap.size + 1, 0, none⟩), .pointer (some ⟨w1.heap.size + 1, 0, none⟩)] 23)).alloc (.cells #[.slice none 0 0] 29)).alloc (.cells #[.slice none 0 0] 29)).alloc (.cells #[.pointer (some ⟨w2.heap.size + 1, 0, none⟩), .pointer (some ⟨w2.heap.size + 1 + 1, 0, none⟩)] 26)).alloc (.cells #[.slice none 0 0, .slice none 0 0, .slice none 0 0] 36))
      w.heap.size (w1.heap.size + 1) w1.heap.size (.slice none 0 0) 0 ⟨[], 0, fun _ => none⟩ := ⟨g2.blk, ownsRow_base g2.row z1, g2.map, by have := g2.hl; omega, by have := g2.hm; omega⟩
  refine ⟨⟨⟨w.heap.size + 1, w.heap.size, w2.heap.size + 1, .slice none 0 0, .slice none 0 0, ⟨[], 0, fun _ => none⟩, []⟩, ⟨w1.heap.size + 1, w1.heap.size, w2.heap.size + 1 + 1, .slice none 0 0, .slice none 0 0, ⟨[], 0, fun _ => none⟩, []⟩, ⟨.slice none 0 0, .slice none 0 0, .slice none 0 0, [], [], []⟩,
    ⟨⟨g1, ⟨?_, World.ownsRow_nil _ _ _ _, by simp only; omega⟩, rel_new, by simp, by simp⟩, ⟨hb, ⟨?_, World.ownsRow_nil _ _ _ _, by simp only; omega⟩, rel_new, by simp, by simp⟩, ⟨?_, ⟨World.ownsRow_nil _ _ _ _, fun o ho => by simp at ho⟩, ⟨World.ownsRow_nil _ _ _ _, fun o ho => by simp at ho⟩, ⟨World.ownsRow_nil _ _ _ _, fun o ho => by simp at ho⟩, by omega⟩, ?_, fun q hq => by simp at hq, fun q hq => by simp at hq, by simp, by simp, by simp, fun q hq => by simp at hq⟩, rfl, rfl, rfl, rfl⟩, ⟨?_, ?_⟩, ?_⟩
  · exact alloc_old _ (alloc_old _ (alloc_old _ (alloc_at _ (by simp))))
  · exact alloc_old _ (alloc_old _ (alloc_at _ (by simp)))
  · exact alloc_at _ (by simp)
  · intro k ha hb
    simp only [Side.foot, logFoot, refFoot, Value.ownBlock] at ha hb
    have k2 := h2.lt
    have e0 : ∀ k : Nat, ¬ ((none : Option Nat) = some k) := fun k e => by cases e
    simp at ha hb
    omega
  · exact alloc_old _ (alloc_old _ (alloc_old _ (alloc_old _ (alloc_at _ rfl))))
  · exact alloc_old _ (alloc_at _ (by simp))
  · exact ((f1.trans f2 (fun _ h => h.elim)).trans F (fun _ h => h.elim)).mono (fun _ h => h.elim)

end Go.Proofs.Ytkelpcjiediamaa
