/-
  A list is handed over to the book: it is written full of its mark, and three more are put behind it.
-/
import Derived.Test.YtkelpcjiediamaaBookPut
namespace Go.Proofs.Ytkelpcjiediamaa
open Go.RowKit Go.Maps

theorem info65 : (Try.prog.info? 65).map (fun i => (i.zero, i.size, i.bytes)) = some (some (.agg #[.slice none 0 0, .int .i64 0]), 2, 32) := by kernel_rfl
theorem info67 : (Try.prog.info? 67).map (fun i => (i.zero, i.size, i.bytes)) = some (some (.agg #[.slice none 0 0, .int .i64 0]), 2, 32) := by kernel_rfl
theorem info71 : (Try.prog.info? 71).map (fun i => (i.zero, i.size, i.bytes)) = some (some (.agg #[.slice none 0 0, .int .i64 0]), 2, 32) := by kernel_rfl

theorem anyRow_len {w : World} {B : Nat} {ty : TypeId} {wd : Nat} {v : Value} {n : Nat} {xs : List Value} (h : w.ownsRow B ty wd v n xs) : ∃ a cap, v = .slice a n cap ∧ n ≤ maxLen := by
  rcases h.2 with ⟨rfl, rfl⟩ | ⟨g, cap, cur, rfl, _, _, h1, h2, _⟩
  · exact ⟨none, 0, rfl, Nat.zero_le _⟩
  · exact ⟨_, _, rfl, Nat.le_trans h1 h2⟩

theorem outRow_len {w : World} {B : Nat} {ty : TypeId} {v : Value} {outs : List (Value × Nat)} (h : w.ownsRow B ty 2 v outs.length (outCells outs)) : ∃ a cap, v = .slice a outs.length cap ∧ outs.length ≤ maxLen := anyRow_len h

theorem bnd1 {j c b : Nat} (h : (j + 3) * b ≤ 140737488355328) (hc : c < 3) : (j + c + 1) * b ≤ 140737488355328 := Nat.le_trans (Nat.mul_le_mul_right _ (by omega)) h
theorem bnd0 {j c b : Nat} (hb : 0 < b) (h : (j + 3) * b ≤ 140737488355328) (hc : c < 3) : j + c + 1 ≤ maxLen := by
  have h1 := bnd1 h hc
  have h2 : (j + c + 1) * 1 ≤ (j + c + 1) * b := Nat.mul_le_mul_left _ hb
  simp only [maxLen]
  omega
theorem bnd3 {n m c : Nat} (hm : m = n + (c + 1)) (h : (n + 4) * 32 ≤ 140737488355328) (hc : c < 3) : (m + 1) * 32 ≤ 140737488355328 := by omega
theorem bnd2 {n m c : Nat} (hm : m = n + (c + 1)) (h : (n + 4) * 32 ≤ 140737488355328) (hc : c < 3) : m + 1 ≤ maxLen := by
  simp only [maxLen]
  omega

theorem rows_apart_box {w : World} {B : Nat} {ty ty' : TypeId} {wd : Nat} {v : Value} {n b : Nat} {xs : List Value} {cs : Array Value} {fr : Nat × Nat} (hb : w.heap[b]? = some (.cells cs ty' fr)) (h : w.ownsRow B ty wd v n xs) (hne : ty ≠ ty') : ¬ v.ownBlock = some b := row_block_apart h hb hne

theorem box_keep {w w' W w1 : World} {B : Nat} {o : Obj} {l lv : Value} {ty : TypeId} {wd n nn g cap : Nat} {xs : List Value} (hb : w'.heap[w.heap.size]? = some o) (hlv : ∀ k, lv.ownBlock = some k → l.ownBlock = some k ∨ w.heap.size + 1 ≤ k) (hl : w.ownsRow B ty wd l n xs) (f : Fr (fun _ => False) w' W)
    (hc : (lv = .slice (some ⟨g, 0, none⟩) nn cap ∧ W.grownBy w1 (some g)) ∨ (g = W.heap.size ∧ W.grownBy w1 none)) : w1.heap[w.heap.size]? = some o := by
  have f1 : Fr (fun k => lv.ownBlock = some k) w' w1 := by
    rcases hc with ⟨rfl, hg⟩ | ⟨rfl, hg⟩
    · exact (f.mono (fun _ h => h.elim)).grown hg (fun k e => by cases e; exact .inl rfl)
    · exact (f.mono (fun _ h => h.elim)).grown hg (fun k e => by cases e)
  rw [f1.block _ (lt_of_block hb) (fun e => ?_)]
  · exact hb
  · rcases hlv _ e with h1 | h1
    · have := (hl.lt _ h1).2; omega
    · omega

theorem box_keep2 {w4 W w5 : World} {B b bb off : Nat} {cs : Array Value} {ty ty' : TypeId} {wd n : Nat} {v v2 : Value} {xs : List Value} (hb : w4.heap[b]? = some (.cells cs ty (0, 0))) (hr : w4.ownsRow B ty' wd v n xs) (hne : ty' ≠ ty) (hbb : b ≠ bb) (f : Fr (fun _ => False) w4 W) (hg : W.grownBy w5 v.ownBlock) : (w5.setCell ⟨bb, off, none⟩ v2).heap[b]? = some (.cells cs ty (0, 0)) := by
  have f1 : Fr (fun k => k = bb ∨ v.ownBlock = some k) w4 (w5.setCell ⟨bb, off, none⟩ v2) := (((f.mono (fun _ h => h.elim)).grown hg (fun k e => .inl (.inr e)))).setCell (.inl (.inl rfl)) _
  rw [f1.block b (lt_of_block hb) (by rintro (e | e); exact hbb e; exact row_block_apart hr hb hne e)]
  exact hb

def setAll : List Value → Nat → List Value → List Value
  | ys, _, [] => ys
  | ys, o, a :: r => setAll (ys.set o a) (o + 1) r

def wset : World → Nat → Nat → List Value → World
  | w, _, _, [] => w
  | w, g, o, a :: r => wset (w.setCell ⟨g, o, none⟩ a) g (o + 1) r

theorem setAll_length : ∀ (mc ys : List Value) (o : Nat), (setAll ys o mc).length = ys.length
  | [], _, _ => rfl
  | a :: r, ys, o => by simp [setAll, setAll_length r]

theorem setAll_get : ∀ (mc ys : List Value) (o q : Nat), o + mc.length ≤ ys.length → (setAll ys o mc)[q]? = if o ≤ q ∧ q < o + mc.length then mc[q - o]? else ys[q]?
  | [], ys, o, q, _ => by
    rw [if_neg (by simp only [List.length_nil]; omega)]; rfl
  | a :: r, ys, o, q, h => by
    simp only [List.length_cons] at h
    rw [setAll, setAll_get r (ys.set o a) (o + 1) q (by simp; omega)]
    by_cases e : q = o
    · subst e
      rw [if_neg (by omega), if_pos (by simp only [List.length_cons]; omega), List.getElem?_set_self (by omega)]
      simp
    · by_cases hq : o + 1 ≤ q ∧ q < o + 1 + r.length
      · rw [if_pos hq, if_pos (by simp only [List.length_cons]; omega), show q - o = (q - (o + 1)) + 1 by omega]
        simp
      · rw [if_neg hq, if_neg (by simp only [List.length_cons]; omega), List.getElem?_set_ne (by omega)]

theorem mark_step {ys mc : List Value} {n j wd : Nat} (hw : mc.length = wd) (hl : ys.length = n * wd) (hj : j < n) (h : ∀ q, q < j * wd → ys[q]? = (rep n mc)[q]?) : ∀ q, q < (j + 1) * wd → (setAll ys (j * wd) mc)[q]? = (rep n mc)[q]? := by
  intro q hq
  subst hw
  have hle : (j + 1) * mc.length ≤ n * mc.length := Nat.mul_le_mul_right _ hj
  rw [Nat.add_mul, Nat.one_mul] at hle hq
  rw [setAll_get mc ys _ q (by omega)]
  by_cases hc : j * mc.length ≤ q
  · rw [if_pos ⟨hc, hq⟩]
    have := rep_get mc n j (q - j * mc.length) hj (by omega)
    rw [show j * mc.length + (q - j * mc.length) = q by omega] at this
    exact this.symm
  · rw [if_neg (by omega)]
    exact h q (by omega)

theorem ownsRow_setAll {B : Nat} {ty : TypeId} {wd g n cap : Nat} : ∀ {mc : List Value} {w : World} {ys : List Value} {o : Nat}, w.ownsRow B ty wd (.slice (some ⟨g, 0, none⟩) n cap) n ys → o + mc.length ≤ n * wd → (wset w g o mc).ownsRow B ty wd (.slice (some ⟨g, 0, none⟩) n cap) n (setAll ys o mc)
  | [], _, _, _, h, _ => h
  | a :: r, w, ys, o, h, hl => by
    simp only [List.length_cons] at hl
    exact ownsRow_setAll (mc := r) (w := w.setCell ⟨g, o, none⟩ a) (ys := ys.set o a) (o := o + 1) (ownsRow_set h (j := o) (by omega) a) (by omega)

theorem Fr.wset {S : Nat → Prop} {a : World} {g : Nat} : ∀ {w : World} (_ : Fr S a w) (_ : S g ∨ a.heap.size ≤ g) (o : Nat) (mc : List Value), Fr S a (wset w g o mc)
  | _, h, _, _, [] => h
  | _, h, hg, o, u :: r => Fr.wset (h.setCell (p := ⟨g, o, none⟩) hg u) hg (o + 1) r

theorem NewOK.self {w : World} {B : Nat} {ty : TypeId} {wd : Nat} {mc : List Value} {l : Value} {n : Nat} (h : w.ownsRow B ty wd l n (rep n mc)) : NewOK w B ty wd mc l n l := by
  rcases h.2 with ⟨rfl, rfl⟩ | ⟨g, cap, cur, rfl, _⟩
  · exact .inr ⟨⟨0, h⟩, fun x hx => by simp [Value.ownBlock] at hx⟩
  · exact .inl ⟨g, cap, n, rfl, Nat.le_refl _, rfl⟩

/-- What is left when a list has been handed over. -/
structure OwnedE (w w' : World) (B bb : Nat) (vi ve vr : Value) (oi oe orr : List (Value × Nat)) (l v' : Value) (news : List (Value × Nat)) : Prop where
  book : BookAt w' B bb vi v' vr oi (oe ++ news) orr
  fr : Fr (fun k => k = bb ∨ ve.ownBlock = some k ∨ l.ownBlock = some k) w w'
  lies : ∀ o ∈ news, ∀ k, o.1.ownBlock = some k → l.ownBlock = some k ∨ w.heap.size ≤ k
  vlies : ∀ k, v'.ownBlock = some k → ve.ownBlock = some k ∨ w.heap.size ≤ k

/-- While the three more are put behind it. -/
structure MidE (w w' : World) (B bb : Nat) (vi ve vr : Value) (oi oe orr : List (Value × Nat)) (l lv v' : Value) (news : List (Value × Nat)) (nn hi : Nat) : Prop where
  own : OwnedE w w' B bb vi ve vr oi oe orr l v' news
  row : w'.ownsRow B 69 4 lv nn (rep nn (mkE oe.length))
  new : ∀ o ∈ news, o.2 = oe.length ∧ NewOK w' B 69 4 (mkE oe.length) lv nn o.1
  lvl : ∀ k, lv.ownBlock = some k → l.ownBlock = some k ∨ hi ≤ k

theorem MidE.fresh {w w' : World} {B bb : Nat} {vi ve vr : Value} {oi oe orr : List (Value × Nat)} {l lv v' : Value} {news : List (Value × Nat)} {nn hi : Nat} (h : MidE w w' B bb vi ve vr oi oe orr l lv v' news nn hi) (hw : BookAt w B bb vi ve vr oi oe orr) (hhi : w.heap.size ≤ hi)
    (hold : ∀ o ∈ oe, ∀ k, o.1.ownBlock = some k → l.ownBlock ≠ some k) : ∀ o ∈ oe, ∀ k, o.1.ownBlock = some k → lv.ownBlock ≠ some k := by
  intro o ho k hk e
  rcases h.lvl k e with h1 | h1
  · exact hold o ho k hk h1
  · obtain ⟨len, hx⟩ := hw.se.ok o ho
    have := (hx.lt k hk).2
    omega

/-- The list has grown by one. -/
theorem MidE.grown {w w' W w1 : World} {B bb : Nat} {vi ve vr : Value} {oi oe orr : List (Value × Nat)} {l lv v' : Value} {news : List (Value × Nat)} {nn hi g cap : Nat} (h : MidE w w' B bb vi ve vr oi oe orr l lv v' news nn hi) (hw : BookAt w B bb vi ve vr oi oe orr) (hhi : w.heap.size ≤ hi) (hhi2 : hi ≤ w'.heap.size)
    (hold : ∀ o ∈ oe, ∀ k, o.1.ownBlock = some k → l.ownBlock ≠ some k) (f : Fr (fun _ => False) w' W) (hown : w1.ownsRow B 69 4 (.slice (some ⟨g, 0, none⟩) (nn + 1) cap) (nn + 1) (rep nn (mkE oe.length) ++ mkE oe.length))
    (hc : (lv = .slice (some ⟨g, 0, none⟩) nn cap ∧ W.grownBy w1 (some g)) ∨ (g = W.heap.size ∧ W.grownBy w1 none)) : MidE w w1 B bb vi ve vr oi oe orr l (.slice (some ⟨g, 0, none⟩) (nn + 1) cap) v' news (nn + 1) hi := by
  have f1 : Fr (fun k => lv.ownBlock = some k) w' w1 := by
    rcases hc with ⟨rfl, hg⟩ | ⟨rfl, hg⟩
    · exact (f.mono (fun _ h => h.elim)).grown hg (fun k e => by cases e; exact .inl rfl)
    · exact (f.mono (fun _ h => h.elim)).grown hg (fun k e => by cases e)
  have hnew : ∀ o ∈ news, o.2 = oe.length ∧ NewOK w1 B 69 4 (mkE oe.length) (.slice (some ⟨g, 0, none⟩) (nn + 1) cap) (nn + 1) o.1 := fun o ho => ⟨(h.new o ho).1, (h.new o ho).2.step rfl h.row f hc⟩
  have hrow : w1.ownsRow B 69 4 (.slice (some ⟨g, 0, none⟩) (nn + 1) cap) (nn + 1) (rep (nn + 1) (mkE oe.length)) := by rw [rep_succ]; exact hown
  refine ⟨⟨h.own.book.growE h.row f1 (h.fresh hw hhi hold) (fun o ho => ?_), h.own.fr.trans f1 (fun k hk => ?_), h.own.lies, h.own.vlies⟩, hrow, hnew, fun k hk => ?_⟩
  · rw [(hnew o ho).1]; exact (hnew o ho).2.owns rfl hrow
  · rcases h.lvl k hk with h1 | h1
    · exact .inl (.inr (.inr h1))
    · exact .inr (by omega)
  · rcases hc with ⟨rfl, hg⟩ | ⟨rfl, hg⟩
    · exact h.lvl k hk
    · simp only [Value.ownBlock, Option.some.injEq] at hk
      have := f.size
      exact .inr (by omega)

/-- .. and has been put into the book. -/
theorem MidE.put {w w' W w1 : World} {B bb : Nat} {vi ve vr : Value} {oi oe orr : List (Value × Nat)} {l lv v' v2 : Value} {news : List (Value × Nat)} {nn hi : Nat} (h : MidE w w' B bb vi ve vr oi oe orr l lv v' news nn hi) (hhi : w.heap.size ≤ hi) (f : Fr (fun _ => False) w' W) (hg : W.grownBy w1 v'.ownBlock)
    (hown : w1.ownsRow B 67 2 v2 ((oe ++ news).length + 1) (outCells (oe ++ news) ++ [lv, .int .i64 oe.length])) (hat : ∀ k, v2.ownBlock = some k → v'.ownBlock = some k ∨ w'.heap.size ≤ k) :
    MidE w (w1.setCell ⟨bb, 1, none⟩ v2) B bb vi ve vr oi oe orr l lv v2 (news ++ [(lv, oe.length)]) nn hi := by
  have hp := h.own.book.putE (l := lv) (K := oe.length) f hg hown hat ⟨_, h.row⟩
  obtain ⟨hp1, hp2⟩ := hp
  have far : ∀ {n : Nat} {y : Value} {xs : List Value}, w'.ownsRow B 69 4 y n xs → ∀ k, y.ownBlock = some k → ¬ (k = bb ∨ v'.ownBlock = some k) := fun hy k hk => by
    rintro (e | e)
    · subst e; exact row_block_apart hy h.own.book.blk (by decide) hk
    · exact rows_apart hy h.own.book.se.row (by decide) k hk e
  have hsz := h.own.fr.size
  refine ⟨⟨by rw [← List.append_assoc]; exact hp1, h.own.fr.trans hp2 (fun k hk => ?_), fun o ho k hk => ?_, fun k hk => ?_⟩, hp2.ownsRow h.row (far h.row), fun o ho => ?_, h.lvl⟩
  · rcases hk with e | e
    · exact .inl (.inl e)
    · rcases h.own.vlies k e with h1 | h1
      · exact .inl (.inr (.inl h1))
      · exact .inr h1
  · simp only [List.mem_append, List.mem_singleton] at ho
    rcases ho with ho | rfl
    · exact h.own.lies o ho k hk
    · rcases h.lvl k hk with h1 | h1
      · exact .inl h1
      · exact .inr (by omega)
  · rcases hat k hk with h1 | h1
    · exact h.own.vlies k h1
    · exact .inr (by omega)
  · simp only [List.mem_append, List.mem_singleton] at ho
    rcases ho with ho | rfl
    · exact ⟨(h.new o ho).1, (h.new o ho).2.keep hp2 (fun len xs hx => far hx)⟩
    · exact ⟨rfl, NewOK.self (hp2.ownsRow h.row (far h.row))⟩

/-- What is left when a list has been handed over. -/
structure OwnedI (w w' : World) (B bb : Nat) (vi ve vr : Value) (oi oe orr : List (Value × Nat)) (l v' : Value) (news : List (Value × Nat)) : Prop where
  book : BookAt w' B bb v' ve vr (oi ++ news) oe orr
  fr : Fr (fun k => k = bb ∨ vi.ownBlock = some k ∨ l.ownBlock = some k) w w'
  lies : ∀ o ∈ news, ∀ k, o.1.ownBlock = some k → l.ownBlock = some k ∨ w.heap.size ≤ k
  vlies : ∀ k, v'.ownBlock = some k → vi.ownBlock = some k ∨ w.heap.size ≤ k

/-- While the three more are put behind it. -/
structure MidI (w w' : World) (B bb : Nat) (vi ve vr : Value) (oi oe orr : List (Value × Nat)) (l lv v' : Value) (news : List (Value × Nat)) (nn hi : Nat) : Prop where
  own : OwnedI w w' B bb vi ve vr oi oe orr l v' news
  row : w'.ownsRow B 3 1 lv nn (rep nn (mkI oi.length))
  new : ∀ o ∈ news, o.2 = oi.length ∧ NewOK w' B 3 1 (mkI oi.length) lv nn o.1
  lvl : ∀ k, lv.ownBlock = some k → l.ownBlock = some k ∨ hi ≤ k

theorem MidI.fresh {w w' : World} {B bb : Nat} {vi ve vr : Value} {oi oe orr : List (Value × Nat)} {l lv v' : Value} {news : List (Value × Nat)} {nn hi : Nat} (h : MidI w w' B bb vi ve vr oi oe orr l lv v' news nn hi) (hw : BookAt w B bb vi ve vr oi oe orr) (hhi : w.heap.size ≤ hi)
    (hold : ∀ o ∈ oi, ∀ k, o.1.ownBlock = some k → l.ownBlock ≠ some k) : ∀ o ∈ oi, ∀ k, o.1.ownBlock = some k → lv.ownBlock ≠ some k := by
  intro o ho k hk e
  rcases h.lvl k e with h1 | h1
  · exact hold o ho k hk h1
  · obtain ⟨len, hx⟩ := hw.si.ok o ho
    have := (hx.lt k hk).2
    omega

/-- The list has grown by one. -/
theorem MidI.grown {w w' W w1 : World} {B bb : Nat} {vi ve vr : Value} {oi oe orr : List (Value × Nat)} {l lv v' : Value} {news : List (Value × Nat)} {nn hi g cap : Nat} (h : MidI w w' B bb vi ve vr oi oe orr l lv v' news nn hi) (hw : BookAt w B bb vi ve vr oi oe orr) (hhi : w.heap.size ≤ hi) (hhi2 : hi ≤ w'.heap.size)
    (hold : ∀ o ∈ oi, ∀ k, o.1.ownBlock = some k → l.ownBlock ≠ some k) (f : Fr (fun _ => False) w' W) (hown : w1.ownsRow B 3 1 (.slice (some ⟨g, 0, none⟩) (nn + 1) cap) (nn + 1) (rep nn (mkI oi.length) ++ mkI oi.length))
    (hc : (lv = .slice (some ⟨g, 0, none⟩) nn cap ∧ W.grownBy w1 (some g)) ∨ (g = W.heap.size ∧ W.grownBy w1 none)) : MidI w w1 B bb vi ve vr oi oe orr l (.slice (some ⟨g, 0, none⟩) (nn + 1) cap) v' news (nn + 1) hi := by
  have f1 : Fr (fun k => lv.ownBlock = some k) w' w1 := by
    rcases hc with ⟨rfl, hg⟩ | ⟨rfl, hg⟩
    · exact (f.mono (fun _ h => h.elim)).grown hg (fun k e => by cases e; exact .inl rfl)
    · exact (f.mono (fun _ h => h.elim)).grown hg (fun k e => by cases e)
  have hnew : ∀ o ∈ news, o.2 = oi.length ∧ NewOK w1 B 3 1 (mkI oi.length) (.slice (some ⟨g, 0, none⟩) (nn + 1) cap) (nn + 1) o.1 := fun o ho => ⟨(h.new o ho).1, (h.new o ho).2.step rfl h.row f hc⟩
  have hrow : w1.ownsRow B 3 1 (.slice (some ⟨g, 0, none⟩) (nn + 1) cap) (nn + 1) (rep (nn + 1) (mkI oi.length)) := by rw [rep_succ]; exact hown
  refine ⟨⟨h.own.book.growI h.row f1 (h.fresh hw hhi hold) (fun o ho => ?_), h.own.fr.trans f1 (fun k hk => ?_), h.own.lies, h.own.vlies⟩, hrow, hnew, fun k hk => ?_⟩
  · rw [(hnew o ho).1]; exact (hnew o ho).2.owns rfl hrow
  · rcases h.lvl k hk with h1 | h1
    · exact .inl (.inr (.inr h1))
    · exact .inr (by omega)
  · rcases hc with ⟨rfl, hg⟩ | ⟨rfl, hg⟩
    · exact h.lvl k hk
    · simp only [Value.ownBlock, Option.some.injEq] at hk
      have := f.size
      exact .inr (by omega)

/-- .. and has been put into the book. -/
theorem MidI.put {w w' W w1 : World} {B bb : Nat} {vi ve vr : Value} {oi oe orr : List (Value × Nat)} {l lv v' v2 : Value} {news : List (Value × Nat)} {nn hi : Nat} (h : MidI w w' B bb vi ve vr oi oe orr l lv v' news nn hi) (hhi : w.heap.size ≤ hi) (f : Fr (fun _ => False) w' W) (hg : W.grownBy w1 v'.ownBlock)
    (hown : w1.ownsRow B 65 2 v2 ((oi ++ news).length + 1) (outCells (oi ++ news) ++ [lv, .int .i64 oi.length])) (hat : ∀ k, v2.ownBlock = some k → v'.ownBlock = some k ∨ w'.heap.size ≤ k) :
    MidI w (w1.setCell ⟨bb, 0, none⟩ v2) B bb vi ve vr oi oe orr l lv v2 (news ++ [(lv, oi.length)]) nn hi := by
  have hp := h.own.book.putI (l := lv) (K := oi.length) f hg hown hat ⟨_, h.row⟩
  obtain ⟨hp1, hp2⟩ := hp
  have far : ∀ {n : Nat} {y : Value} {xs : List Value}, w'.ownsRow B 3 1 y n xs → ∀ k, y.ownBlock = some k → ¬ (k = bb ∨ v'.ownBlock = some k) := fun hy k hk => by
    rintro (e | e)
    · subst e; exact row_block_apart hy h.own.book.blk (by decide) hk
    · exact rows_apart hy h.own.book.si.row (by decide) k hk e
  have hsz := h.own.fr.size
  refine ⟨⟨by rw [← List.append_assoc]; exact hp1, h.own.fr.trans hp2 (fun k hk => ?_), fun o ho k hk => ?_, fun k hk => ?_⟩, hp2.ownsRow h.row (far h.row), fun o ho => ?_, h.lvl⟩
  · rcases hk with e | e
    · exact .inl (.inl e)
    · rcases h.own.vlies k e with h1 | h1
      · exact .inl (.inr (.inl h1))
      · exact .inr h1
  · simp only [List.mem_append, List.mem_singleton] at ho
    rcases ho with ho | rfl
    · exact h.own.lies o ho k hk
    · rcases h.lvl k hk with h1 | h1
      · exact .inl h1
      · exact .inr (by omega)
  · rcases hat k hk with h1 | h1
    · exact h.own.vlies k h1
    · exact .inr (by omega)
  · simp only [List.mem_append, List.mem_singleton] at ho
    rcases ho with ho | rfl
    · exact ⟨(h.new o ho).1, (h.new o ho).2.keep hp2 (fun len xs hx => far hx)⟩
    · exact ⟨rfl, NewOK.self (hp2.ownsRow h.row (far h.row))⟩

/-- What is left when a list has been handed over. -/
structure OwnedR (w w' : World) (B bb : Nat) (vi ve vr : Value) (oi oe orr : List (Value × Nat)) (l v' : Value) (news : List (Value × Nat)) : Prop where
  book : BookAt w' B bb vi ve v' oi oe (orr ++ news)
  fr : Fr (fun k => k = bb ∨ vr.ownBlock = some k ∨ l.ownBlock = some k) w w'
  lies : ∀ o ∈ news, ∀ k, o.1.ownBlock = some k → l.ownBlock = some k ∨ w.heap.size ≤ k
  vlies : ∀ k, v'.ownBlock = some k → vr.ownBlock = some k ∨ w.heap.size ≤ k

/-- While the three more are put behind it. -/
structure MidR (w w' : World) (B bb : Nat) (vi ve vr : Value) (oi oe orr : List (Value × Nat)) (l lv v' : Value) (news : List (Value × Nat)) (nn hi : Nat) : Prop where
  own : OwnedR w w' B bb vi ve vr oi oe orr l v' news
  row : w'.ownsRow B 73 3 lv nn (rep nn (mkR orr.length))
  new : ∀ o ∈ news, o.2 = orr.length ∧ NewOK w' B 73 3 (mkR orr.length) lv nn o.1
  lvl : ∀ k, lv.ownBlock = some k → l.ownBlock = some k ∨ hi ≤ k

theorem MidR.fresh {w w' : World} {B bb : Nat} {vi ve vr : Value} {oi oe orr : List (Value × Nat)} {l lv v' : Value} {news : List (Value × Nat)} {nn hi : Nat} (h : MidR w w' B bb vi ve vr oi oe orr l lv v' news nn hi) (hw : BookAt w B bb vi ve vr oi oe orr) (hhi : w.heap.size ≤ hi)
    (hold : ∀ o ∈ orr, ∀ k, o.1.ownBlock = some k → l.ownBlock ≠ some k) : ∀ o ∈ orr, ∀ k, o.1.ownBlock = some k → lv.ownBlock ≠ some k := by
  intro o ho k hk e
  rcases h.lvl k e with h1 | h1
  · exact hold o ho k hk h1
  · obtain ⟨len, hx⟩ := hw.sr.ok o ho
    have := (hx.lt k hk).2
    omega

/-- The list has grown by one. -/
theorem MidR.grown {w w' W w1 : World} {B bb : Nat} {vi ve vr : Value} {oi oe orr : List (Value × Nat)} {l lv v' : Value} {news : List (Value × Nat)} {nn hi g cap : Nat} (h : MidR w w' B bb vi ve vr oi oe orr l lv v' news nn hi) (hw : BookAt w B bb vi ve vr oi oe orr) (hhi : w.heap.size ≤ hi) (hhi2 : hi ≤ w'.heap.size)
    (hold : ∀ o ∈ orr, ∀ k, o.1.ownBlock = some k → l.ownBlock ≠ some k) (f : Fr (fun _ => False) w' W) (hown : w1.ownsRow B 73 3 (.slice (some ⟨g, 0, none⟩) (nn + 1) cap) (nn + 1) (rep nn (mkR orr.length) ++ mkR orr.length))
    (hc : (lv = .slice (some ⟨g, 0, none⟩) nn cap ∧ W.grownBy w1 (some g)) ∨ (g = W.heap.size ∧ W.grownBy w1 none)) : MidR w w1 B bb vi ve vr oi oe orr l (.slice (some ⟨g, 0, none⟩) (nn + 1) cap) v' news (nn + 1) hi := by
  have f1 : Fr (fun k => lv.ownBlock = some k) w' w1 := by
    rcases hc with ⟨rfl, hg⟩ | ⟨rfl, hg⟩
    · exact (f.mono (fun _ h => h.elim)).grown hg (fun k e => by cases e; exact .inl rfl)
    · exact (f.mono (fun _ h => h.elim)).grown hg (fun k e => by cases e)
  have hnew : ∀ o ∈ news, o.2 = orr.length ∧ NewOK w1 B 73 3 (mkR orr.length) (.slice (some ⟨g, 0, none⟩) (nn + 1) cap) (nn + 1) o.1 := fun o ho => ⟨(h.new o ho).1, (h.new o ho).2.step rfl h.row f hc⟩
  have hrow : w1.ownsRow B 73 3 (.slice (some ⟨g, 0, none⟩) (nn + 1) cap) (nn + 1) (rep (nn + 1) (mkR orr.length)) := by rw [rep_succ]; exact hown
  refine ⟨⟨h.own.book.growR h.row f1 (h.fresh hw hhi hold) (fun o ho => ?_), h.own.fr.trans f1 (fun k hk => ?_), h.own.lies, h.own.vlies⟩, hrow, hnew, fun k hk => ?_⟩
  · rw [(hnew o ho).1]; exact (hnew o ho).2.owns rfl hrow
  · rcases h.lvl k hk with h1 | h1
    · exact .inl (.inr (.inr h1))
    · exact .inr (by omega)
  · rcases hc with ⟨rfl, hg⟩ | ⟨rfl, hg⟩
    · exact h.lvl k hk
    · simp only [Value.ownBlock, Option.some.injEq] at hk
      have := f.size
      exact .inr (by omega)

/-- .. and has been put into the book. -/
theorem MidR.put {w w' W w1 : World} {B bb : Nat} {vi ve vr : Value} {oi oe orr : List (Value × Nat)} {l lv v' v2 : Value} {news : List (Value × Nat)} {nn hi : Nat} (h : MidR w w' B bb vi ve vr oi oe orr l lv v' news nn hi) (hhi : w.heap.size ≤ hi) (f : Fr (fun _ => False) w' W) (hg : W.grownBy w1 v'.ownBlock)
    (hown : w1.ownsRow B 71 2 v2 ((orr ++ news).length + 1) (outCells (orr ++ news) ++ [lv, .int .i64 orr.length])) (hat : ∀ k, v2.ownBlock = some k → v'.ownBlock = some k ∨ w'.heap.size ≤ k) :
    MidR w (w1.setCell ⟨bb, 2, none⟩ v2) B bb vi ve vr oi oe orr l lv v2 (news ++ [(lv, orr.length)]) nn hi := by
  have hp := h.own.book.putR (l := lv) (K := orr.length) f hg hown hat ⟨_, h.row⟩
  obtain ⟨hp1, hp2⟩ := hp
  have far : ∀ {n : Nat} {y : Value} {xs : List Value}, w'.ownsRow B 73 3 y n xs → ∀ k, y.ownBlock = some k → ¬ (k = bb ∨ v'.ownBlock = some k) := fun hy k hk => by
    rintro (e | e)
    · subst e; exact row_block_apart hy h.own.book.blk (by decide) hk
    · exact rows_apart hy h.own.book.sr.row (by decide) k hk e
  have hsz := h.own.fr.size
  refine ⟨⟨by rw [← List.append_assoc]; exact hp1, h.own.fr.trans hp2 (fun k hk => ?_), fun o ho k hk => ?_, fun k hk => ?_⟩, hp2.ownsRow h.row (far h.row), fun o ho => ?_, h.lvl⟩
  · rcases hk with e | e
    · exact .inl (.inl e)
    · rcases h.own.vlies k e with h1 | h1
      · exact .inl (.inr (.inl h1))
      · exact .inr h1
  · simp only [List.mem_append, List.mem_singleton] at ho
    rcases ho with ho | rfl
    · exact h.own.lies o ho k hk
    · rcases h.lvl k hk with h1 | h1
      · exact .inl h1
      · exact .inr (by omega)
  · rcases hat k hk with h1 | h1
    · exact h.own.vlies k h1
    · exact .inr (by omega)
  · simp only [List.mem_append, List.mem_singleton] at ho
    rcases ho with ho | rfl
    · exact ⟨(h.new o ho).1, (h.new o ho).2.keep hp2 (fun len xs hx => far hx)⟩
    · exact ⟨rfl, NewOK.self (hp2.ownsRow h.row (far h.row))⟩

end Go.Proofs.Ytkelpcjiediamaa
