/-
  One step on both logs: every answer is the document's, and the lists that came out are in the book.
-/
import Derived.Test.YtkelpcjiediamaaApart
namespace Go.Proofs.Ytkelpcjiediamaa
open Go.RowKit Go.Maps

def stepFoot (lb bm yb bb : Nat) (v u vi ve vr : Value) (k : Nat) : Prop := logFoot lb bm v k ∨ refFoot yb u k ∨ bookFoot bb vi ve vr k

/-- What a step leaves. -/
structure StepLeft (w w' : World) (B lb bm yb bb n : Nat) (v u vi ve vr : Value) (oi oe orr : List (Value × Nat)) (s : LogS) (L : List Ent) (v' u' vi' ve' vr' : Value) (ni ne nr : List (Value × Nat)) (s' : LogS) (L' : List Ent) : Prop where
  log : LogAt w' B lb bm v' (n + 1) s'
  ref : RefAt w' B yb u' L'
  book : BookAt w' B bb vi' ve' vr' (oi ++ ni) (oe ++ ne) (orr ++ nr)
  rel : Rel s' L'
  les : s'.es.length ≤ s.es.length + 1
  lL : L'.length ≤ L.length + 1
  cni : ni.length ≤ 4
  cne : ne.length ≤ 4
  cnr : nr.length ≤ 4
  mi : ∀ o ∈ ni, o.2 = oi.length
  me : ∀ o ∈ ne, o.2 = oe.length
  mr : ∀ o ∈ nr, o.2 = orr.length
  fr : Fr (stepFoot lb bm yb bb v u vi ve vr) w w'
  lv : ∀ k, v'.ownBlock = some k → v.ownBlock = some k ∨ w.heap.size ≤ k
  lu : ∀ k, u'.ownBlock = some k → u.ownBlock = some k ∨ w.heap.size ≤ k
  lvi : ∀ k, vi'.ownBlock = some k → vi.ownBlock = some k ∨ w.heap.size ≤ k
  lve : ∀ k, ve'.ownBlock = some k → ve.ownBlock = some k ∨ w.heap.size ≤ k
  lvr : ∀ k, vr'.ownBlock = some k → vr.ownBlock = some k ∨ w.heap.size ≤ k
  lne : ∀ o ∈ ne, ∀ k, o.1.ownBlock = some k → w.heap.size ≤ k
  dis : ∀ o ∈ oe ++ ne, ∀ k, o.1.ownBlock = some k → v'.ownBlock ≠ some k

theorem LogAt.foot_lt {w : World} {B lb bm n : Nat} {v : Value} {s : LogS} (h : LogAt w B lb bm v n s) {k : Nat} (hk : logFoot lb bm v k) : k < w.heap.size := by
  rcases hk with rfl | rfl | hk
  · exact h.lt
  · exact h.map.lt
  · exact (h.row.lt k hk).2

theorem RefAt.foot_lt {w : World} {B yb : Nat} {u : Value} {L : List Ent} (h : RefAt w B yb u L) {k : Nat} (hk : refFoot yb u k) : k < w.heap.size := by
  rcases hk with rfl | hk
  · exact h.lt
  · exact (h.row.lt k hk).2

theorem BookAt.list_lt {w : World} {B bb : Nat} {vi ve vr : Value} {oi oe orr : List (Value × Nat)} (h : BookAt w B bb vi ve vr oi oe orr) {o : Value × Nat} (ho : o ∈ oi ∨ o ∈ oe ∨ o ∈ orr) {k : Nat} (hk : o.1.ownBlock = some k) : k < w.heap.size := by
  rcases ho with ho | ho | ho
  · obtain ⟨len, hx⟩ := h.si.ok o ho; exact (hx.lt k hk).2
  · obtain ⟨len, hx⟩ := h.se.ok o ho; exact (hx.lt k hk).2
  · obtain ⟨len, hx⟩ := h.sr.ok o ho; exact (hx.lt k hk).2

theorem up {S : Nat → Prop} {w w3 : World} (f : Fr S w w3) {p : Prop} {k : Nat} (h : p ∨ w3.heap.size ≤ k) : p ∨ w.heap.size ≤ k := by
  rcases h with h | h
  · exact .inl h
  · exact .inr (Nat.le_trans f.size h)

/-- Both logs have been written, the book has not. -/
theorem stepWrite {w wb w1 w2 : World} {B lb bm yb bb n : Nat} {v u vi ve vr v' u' : Value} {oi oe orr : List (Value × Nat)} {s s' : LogS} {L L' : List Ent} (hx : LogAt w B lb bm v n s) (hy : RefAt w B yb u L) (hb : BookAt w B bb vi ve vr oi oe orr)
    (hd : ∀ o ∈ oe, ∀ k, o.1.ownBlock = some k → v.ownBlock ≠ some k) (fb : Fr (fun _ => False) w wb) (l1 : Left wb w1 B lb bm v v' (n + 1) s') (l2 : RLeft w1 w2 B yb u u' L') (hr : Rel s' L') (h1 : s'.es.length ≤ s.es.length + 1) (h2 : L'.length ≤ L.length + 1) :
    StepLeft w w2 B lb bm yb bb n v u vi ve vr oi oe orr s L v' u' vi ve vr [] [] [] s' L' := by
  have hyb := fb.refAt hy id (fun _ _ => id)
  have hxb := fb.logAt hx id id (fun _ _ => id)
  have hbb := fb.bookF hb
  have f1 : Fr (logFoot lb bm v) wb w1 := l1.fr
  have hy1 : RefAt w1 B yb u L := hyb.stay f1 (fun k a b => log_ref hxb hyb k a b)
  have hb1 : BookAt w1 B bb vi ve vr oi oe orr := hbb.stay f1 (fun k a b => log_book hxb hbb k a b) (log_lists hxb hbb hd)
  have f2 : Fr (refFoot yb u) w1 w2 := l2.fr
  have hx2 : LogAt w2 B lb bm v' (n + 1) s' := l1.log.stay f2 (fun k a b => log_ref l1.log hy1 k b a)
  have hb2 : BookAt w2 B bb vi ve vr oi oe orr := hb1.stay f2 (fun k a b => ref_book hy1 hb1 k a b) (ref_lists hy1 hb1)
  have g0 : Fr (stepFoot lb bm yb bb v u vi ve vr) w wb := fb.mono (fun _ h => h.elim)
  have g1 : Fr (stepFoot lb bm yb bb v u vi ve vr) w w1 := g0.trans f1 (fun _ hk => .inl (.inl hk))
  have g2 : Fr (stepFoot lb bm yb bb v u vi ve vr) w w2 := g1.trans f2 (fun _ hk => .inl (.inr (.inl hk)))
  exact ⟨hx2, l2.ref, by simpa using hb2, hr, h1, h2, by simp, by simp, by simp, fun o ho => by simp at ho, fun o ho => by simp at ho, fun o ho => by simp at ho, g2, fun k hk => up g0 (l1.lies k hk), fun k hk => up g1 (l2.lies k hk), fun _ hk => .inl hk, fun _ hk => .inl hk, fun _ hk => .inl hk, fun o ho => by simp at ho, fun q hq k hk hv => by
    rw [List.append_nil] at hq
    rcases l1.lies k hv with h3 | h3
    · exact hd q hq k hk h3
    · have h4 := hb.list_lt (.inr (.inl hq)) hk
      have := fb.size
      omega⟩

/-- Nothing has been written. -/
theorem stepRead {w w2 : World} {B lb bm yb bb n : Nat} {v u vi ve vr : Value} {oi oe orr : List (Value × Nat)} {s : LogS} {L : List Ent} (hx : LogAt w B lb bm v n s) (hy : RefAt w B yb u L) (hb : BookAt w B bb vi ve vr oi oe orr)
    (hd : ∀ o ∈ oe, ∀ k, o.1.ownBlock = some k → v.ownBlock ≠ some k) (hr : Rel s L) (f : Fr (fun _ => False) w w2) : StepLeft w w2 B lb bm yb bb n v u vi ve vr oi oe orr s L v u vi ve vr [] [] [] s L :=
  ⟨(f.logAt hx id id (fun _ _ => id)).mono (by omega), f.refAt hy id (fun _ _ => id), by simpa using f.bookF hb, hr, by omega, by omega, by simp, by simp, by simp, fun o ho => by simp at ho, fun o ho => by simp at ho, fun o ho => by simp at ho, f.mono (fun _ h => h.elim), fun _ hk => .inl hk, fun _ hk => .inl hk, fun _ hk => .inl hk, fun _ hk => .inl hk, fun _ hk => .inl hk, fun o ho => by simp at ho, fun q hq => by rw [List.append_nil] at hq; exact hd q hq⟩

theorem stepAskE {w w3 w4 : World} {B lb bm yb bb n : Nat} {v u vi ve vr l ve' : Value} {oi oe orr news : List (Value × Nat)} {s : LogS} {L : List Ent} (hx : LogAt w B lb bm v n s) (hy : RefAt w B yb u L) (hb : BookAt w B bb vi ve vr oi oe orr)
    (hd : ∀ o ∈ oe, ∀ k, o.1.ownBlock = some k → v.ownBlock ≠ some k) (hr : Rel s L) (f : Fr (fun _ => False) w w3) (hl : ∀ k, l.ownBlock = some k → w.heap.size ≤ k) (o : OwnedE w3 w4 B bb vi ve vr oi oe orr l ve' news) (hc : news.length = 4) (hm : ∀ o ∈ news, o.2 = oe.length) :
    StepLeft w w4 B lb bm yb bb n v u vi ve vr oi oe orr s L v u vi ve' vr [] news [] s L := by
  have hx3 := f.logAt hx id id (fun _ _ => id)
  have hy3 := f.refAt hy id (fun _ _ => id)
  have hb3 := f.bookF hb
  have hbf : ∀ k, (k = bb ∨ ve.ownBlock = some k ∨ l.ownBlock = some k) → bookFoot bb vi ve vr k ∨ w.heap.size ≤ k := fun k hk => by
    rcases hk with a | a | a
    · exact .inl (.inl a)
    · exact .inl (.inr (.inr (.inl a)))
    · exact .inr (hl k a)
  have hx4 : LogAt w4 B lb bm v n s := hx3.stay o.fr (fun k a b => by
    rcases hbf k a with a | a
    · exact log_book hx3 hb3 k b a
    · have := hx.foot_lt b; omega)
  have hy4 : RefAt w4 B yb u L := hy3.stay o.fr (fun k a b => by
    rcases hbf k a with a | a
    · exact ref_book hy3 hb3 k b a
    · have := hy.foot_lt b; omega)
  have g1 : Fr (stepFoot lb bm yb bb v u vi ve vr) w w4 := (f.mono (fun _ h => h.elim)).trans o.fr (fun k hk => by
    rcases hbf k hk with a | a
    · exact .inl (.inr (.inr a))
    · exact .inr a)
  exact ⟨hx4.mono (by omega), hy4, by simpa using o.book, hr, by omega, by omega, by simp, by omega, by simp, fun q hq => by simp at hq, hm, fun q hq => by simp at hq, g1, fun _ hk => .inl hk, fun _ hk => .inl hk, fun _ hk => .inl hk, fun k hk => up f (o.vlies k hk), fun _ hk => .inl hk, fun q hq k hk => by
      rcases o.lies q hq k hk with h2 | h2
      · exact hl k h2
      · have := f.size; omega, fun q hq k hk hv => by
      rcases List.mem_append.1 hq with hq | hq
      · exact hd q hq k hk hv
      · have h1 := hx.foot_lt (.inr (.inr hv))
        rcases o.lies q hq k hk with h2 | h2
        · have := hl k h2; omega
        · have := f.size; omega⟩

theorem stepAskI {w w3 w4 : World} {B lb bm yb bb n : Nat} {v u vi ve vr l vi' : Value} {oi oe orr news : List (Value × Nat)} {s : LogS} {L : List Ent} (hx : LogAt w B lb bm v n s) (hy : RefAt w B yb u L) (hb : BookAt w B bb vi ve vr oi oe orr)
    (hd : ∀ o ∈ oe, ∀ k, o.1.ownBlock = some k → v.ownBlock ≠ some k) (hr : Rel s L) (f : Fr (fun _ => False) w w3) (hl : ∀ k, l.ownBlock = some k → w.heap.size ≤ k) (o : OwnedI w3 w4 B bb vi ve vr oi oe orr l vi' news) (hc : news.length = 4) (hm : ∀ o ∈ news, o.2 = oi.length) :
    StepLeft w w4 B lb bm yb bb n v u vi ve vr oi oe orr s L v u vi' ve vr news [] [] s L := by
  have hx3 := f.logAt hx id id (fun _ _ => id)
  have hy3 := f.refAt hy id (fun _ _ => id)
  have hb3 := f.bookF hb
  have hbf : ∀ k, (k = bb ∨ vi.ownBlock = some k ∨ l.ownBlock = some k) → bookFoot bb vi ve vr k ∨ w.heap.size ≤ k := fun k hk => by
    rcases hk with a | a | a
    · exact .inl (.inl a)
    · exact .inl (.inr (.inl a))
    · exact .inr (hl k a)
  have hx4 : LogAt w4 B lb bm v n s := hx3.stay o.fr (fun k a b => by
    rcases hbf k a with a | a
    · exact log_book hx3 hb3 k b a
    · have := hx.foot_lt b; omega)
  have hy4 : RefAt w4 B yb u L := hy3.stay o.fr (fun k a b => by
    rcases hbf k a with a | a
    · exact ref_book hy3 hb3 k b a
    · have := hy.foot_lt b; omega)
  have g1 : Fr (stepFoot lb bm yb bb v u vi ve vr) w w4 := (f.mono (fun _ h => h.elim)).trans o.fr (fun k hk => by
    rcases hbf k hk with a | a
    · exact .inl (.inr (.inr a))
    · exact .inr a)
  exact ⟨hx4.mono (by omega), hy4, by simpa using o.book, hr, by omega, by omega, by omega, by simp, by simp, hm, fun q hq => by simp at hq, fun q hq => by simp at hq, g1, fun _ hk => .inl hk, fun _ hk => .inl hk, fun k hk => up f (o.vlies k hk), fun _ hk => .inl hk, fun _ hk => .inl hk, fun q hq => by simp at hq, fun q hq => by rw [List.append_nil] at hq; exact hd q hq⟩

theorem stepAskR {w w3 w4 : World} {B lb bm yb bb n : Nat} {v u vi ve vr l vr' : Value} {oi oe orr news : List (Value × Nat)} {s : LogS} {L : List Ent} (hx : LogAt w B lb bm v n s) (hy : RefAt w B yb u L) (hb : BookAt w B bb vi ve vr oi oe orr)
    (hd : ∀ o ∈ oe, ∀ k, o.1.ownBlock = some k → v.ownBlock ≠ some k) (hr : Rel s L) (f : Fr (fun _ => False) w w3) (hl : ∀ k, l.ownBlock = some k → w.heap.size ≤ k) (o : OwnedR w3 w4 B bb vi ve vr oi oe orr l vr' news) (hc : news.length = 4) (hm : ∀ o ∈ news, o.2 = orr.length) :
    StepLeft w w4 B lb bm yb bb n v u vi ve vr oi oe orr s L v u vi ve vr' [] [] news s L := by
  have hx3 := f.logAt hx id id (fun _ _ => id)
  have hy3 := f.refAt hy id (fun _ _ => id)
  have hb3 := f.bookF hb
  have hbf : ∀ k, (k = bb ∨ vr.ownBlock = some k ∨ l.ownBlock = some k) → bookFoot bb vi ve vr k ∨ w.heap.size ≤ k := fun k hk => by
    rcases hk with a | a | a
    · exact .inl (.inl a)
    · exact .inl (.inr (.inr (.inr a)))
    · exact .inr (hl k a)
  have hx4 : LogAt w4 B lb bm v n s := hx3.stay o.fr (fun k a b => by
    rcases hbf k a with a | a
    · exact log_book hx3 hb3 k b a
    · have := hx.foot_lt b; omega)
  have hy4 : RefAt w4 B yb u L := hy3.stay o.fr (fun k a b => by
    rcases hbf k a with a | a
    · exact ref_book hy3 hb3 k b a
    · have := hy.foot_lt b; omega)
  have g1 : Fr (stepFoot lb bm yb bb v u vi ve vr) w w4 := (f.mono (fun _ h => h.elim)).trans o.fr (fun k hk => by
    rcases hbf k hk with a | a
    · exact .inl (.inr (.inr a))
    · exact .inr a)
  exact ⟨hx4.mono (by omega), hy4, by simpa using o.book, hr, by omega, by omega, by simp, by simp, by omega, fun q hq => by simp at hq, fun q hq => by simp at hq, hm, g1, fun _ hk => .inl hk, fun _ hk => .inl hk, fun _ hk => .inl hk, fun _ hk => .inl hk, fun k hk => up f (o.vlies k hk), fun q hq => by simp at hq, fun q hq => by rw [List.append_nil] at hq; exact hd q hq⟩

end Go.Proofs.Ytkelpcjiediamaa
