/-
  The walk of one step that asks both logs.
-/
import Derived.Test.YtkelpcjiediamaaLogStep
namespace Go.Proofs.Ytkelpcjiediamaa
open Go.RowKit Go.Maps

theorem LogS.fetch_len (s : LogS) (f m : Int) : (s.fetch f m).length ≤ s.es.length := by
  have h : ∀ i, (s.got (LogS.start f) i).length ≤ i := by
    intro i
    induction i with
    | zero => simp [LogS.got]
    | succ i ih =>
      by_cases ha : LogS.start f ≤ i
      · rw [s.got_succ ha]
        have : (s.pick i).length ≤ 1 := by unfold LogS.pick; split <;> (try split) <;> simp
        simp only [List.length_append]; omega
      · have : i + 1 - LogS.start f = 0 := by omega
        simp [LogS.got, this]
  unfold LogS.fetch
  have h1 := h s.stable
  have h2 := s.stable_le
  simp only [List.length_take]
  omega

theorem rEntries_rel {w : World} {B yb : Nat} {u : Value} {s : LogS} {L : List Ent} (hr : Rel s L) (h : RefAt w B yb u L) (hb : L.length * 40 ≤ 140737488355328) :
    Calls Try.prog 20 #[.pointer (some ⟨yb, 0, none⟩)] w fun e w' => ∃ v', e = .returned v' ∧ w'.ownsRow w.heap.size 69 4 v' s.es.length (entCells s.es) ∧ Fr (fun _ => False) w w' := by
  rw [hr.es]; exact rEntries_any h hb

theorem rFetch_rel {w : World} {B yb : Nat} {u : Value} {s : LogS} {L : List Ent} (hr : Rel s L) (h : RefAt w B yb u L) (hb : L.length * 40 ≤ 140737488355328) (f m : Int) :
    Calls Try.prog 28 #[.pointer (some ⟨yb, 0, none⟩), .int .i64 f, .int .i64 m] w fun e w' => ∃ v', e = .returned v' ∧ w'.ownsRow w.heap.size 73 3 v' (s.fetch f m).length (recCells (s.fetch f m)) ∧ Fr (fun _ => False) w w' := by
  rw [← hr.fetch]; exact rFetch_any h hb f m

/-- What a step ends with. -/
def StepEnd (w w' : World) (B lb bm yb bb n : Nat) (v u vi ve vr : Value) (oi oe orr : List (Value × Nat)) (s : LogS) (L : List Ent) : Prop :=
  ∃ v' u' vi' ve' vr' ni ne nr s' L', StepLeft w w' B lb bm yb bb n v u vi ve vr oi oe orr s L v' u' vi' ve' vr' ni ne nr s' L'

theorem askE_own {w w3 : World} {B B' lb bm yb bb n : Nat} {v u vi ve vr l : Value} {oi oe orr : List (Value × Nat)} {s : LogS} {L : List Ent} {len : Nat} {xs : List Value} (hx : LogAt w B lb bm v n s) (hy : RefAt w B yb u L) (hb : BookAt w B bb vi ve vr oi oe orr)
    (hd : ∀ o ∈ oe, ∀ k, o.1.ownBlock = some k → v.ownBlock ≠ some k) (hr : Rel s L) (room : Room n oi oe orr s L) (f : Fr (fun _ => False) w w3) (hl : w3.ownsRow B' 69 4 l len xs) (hB : w.heap.size ≤ B') (hlen : (len + 3) * 40 ≤ 140737488355328) :
    Calls Try.prog 22 #[.pointer (some ⟨bb, 0, none⟩), l] w3 fun e w' => e = .returned (.tuple #[]) ∧ StepEnd w w' B lb bm yb bb n v u vi ve vr oi oe orr s L :=
  have hBw : B ≤ w.heap.size := Nat.le_of_lt (Nat.lt_of_le_of_lt hb.hb hb.lt)
  have hlb : ∀ k, l.ownBlock = some k → w.heap.size ≤ k := fun k hk => Nat.le_trans hB (hl.lt k hk).1
  (ownE_any (f.bookF hb) (ownsRow_base hl (Nat.le_trans hBw hB)) (fun o ho k hk e => by have h1 := hb.list_lt (.inr (.inl ho)) hk; have h2 := hlb k e; omega) room.oe hlen).mono
    fun _ _ ⟨h1, v', news, h2, h3, h4⟩ => ⟨h1, _, _, _, _, _, _, _, _, _, _, stepAskE hx hy hb hd hr f hlb h2 h3 h4⟩

theorem askI_own {w w3 : World} {B B' lb bm yb bb n : Nat} {v u vi ve vr l : Value} {oi oe orr : List (Value × Nat)} {s : LogS} {L : List Ent} {len : Nat} {xs : List Value} (hx : LogAt w B lb bm v n s) (hy : RefAt w B yb u L) (hb : BookAt w B bb vi ve vr oi oe orr)
    (hd : ∀ o ∈ oe, ∀ k, o.1.ownBlock = some k → v.ownBlock ≠ some k) (hr : Rel s L) (room : Room n oi oe orr s L) (f : Fr (fun _ => False) w w3) (hl : w3.ownsRow B' 3 1 l len xs) (hB : w.heap.size ≤ B') (hlen : (len + 3) * 8 ≤ 140737488355328) :
    Calls Try.prog 27 #[.pointer (some ⟨bb, 0, none⟩), l] w3 fun e w' => e = .returned (.tuple #[]) ∧ StepEnd w w' B lb bm yb bb n v u vi ve vr oi oe orr s L :=
  have hBw : B ≤ w.heap.size := Nat.le_of_lt (Nat.lt_of_le_of_lt hb.hb hb.lt)
  have hlb : ∀ k, l.ownBlock = some k → w.heap.size ≤ k := fun k hk => Nat.le_trans hB (hl.lt k hk).1
  (ownI_any (f.bookF hb) (ownsRow_base hl (Nat.le_trans hBw hB)) (fun o ho k hk e => by have h1 := hb.list_lt (.inl ho) hk; have h2 := hlb k e; omega) room.oi hlen).mono
    fun _ _ ⟨h1, v', news, h2, h3, h4⟩ => ⟨h1, _, _, _, _, _, _, _, _, _, _, stepAskI hx hy hb hd hr f hlb h2 h3 h4⟩

theorem askR_own {w w3 : World} {B B' lb bm yb bb n : Nat} {v u vi ve vr l : Value} {oi oe orr : List (Value × Nat)} {s : LogS} {L : List Ent} {len : Nat} {xs : List Value} (hx : LogAt w B lb bm v n s) (hy : RefAt w B yb u L) (hb : BookAt w B bb vi ve vr oi oe orr)
    (hd : ∀ o ∈ oe, ∀ k, o.1.ownBlock = some k → v.ownBlock ≠ some k) (hr : Rel s L) (room : Room n oi oe orr s L) (f : Fr (fun _ => False) w w3) (hl : w3.ownsRow B' 73 3 l len xs) (hB : w.heap.size ≤ B') (hlen : (len + 3) * 32 ≤ 140737488355328) :
    Calls Try.prog 30 #[.pointer (some ⟨bb, 0, none⟩), l] w3 fun e w' => e = .returned (.tuple #[]) ∧ StepEnd w w' B lb bm yb bb n v u vi ve vr oi oe orr s L :=
  have hBw : B ≤ w.heap.size := Nat.le_of_lt (Nat.lt_of_le_of_lt hb.hb hb.lt)
  have hlb : ∀ k, l.ownBlock = some k → w.heap.size ≤ k := fun k hk => Nat.le_trans hB (hl.lt k hk).1
  (ownR_any (f.bookF hb) (ownsRow_base hl (Nat.le_trans hBw hB)) (fun o ho k hk e => by have h1 := hb.list_lt (.inr (.inr ho)) hk; have h2 := hlb k e; omega) room.orr hlen).mono
    fun _ _ ⟨h1, v', news, h2, h3, h4⟩ => ⟨h1, _, _, _, _, _, _, _, _, _, _, stepAskR hx hy hb hd hr f hlb h2 h3 h4⟩

set_option maxRecDepth 100000 in
set_option maxHeartbeats 3200000 in
theorem logStep_ents {w : World} {B lb bm yb bb n : Nat} {v u vi ve vr : Value} {oi oe orr : List (Value × Nat)} {s : LogS} {L : List Ent} (hx : LogAt w B lb bm v n s) (hy : RefAt w B yb u L) (hb : BookAt w B bb vi ve vr oi oe orr)
    (hd : ∀ o ∈ oe, ∀ k, o.1.ownBlock = some k → v.ownBlock ≠ some k) (hr : Rel s L) (xw xk xp xt : Int) (xs : ByteArray) (xc : Bool) (room : Room n oi oe orr s L) (hk : xk = 4) :
    Calls Try.prog 7 #[.pointer (some ⟨lb, 0, none⟩), .pointer (some ⟨yb, 0, none⟩), .agg #[.int .i64 xw, .int .i64 xk, .int .i64 xp, .int .i64 xt, .string xs, .bool xc], .pointer (some ⟨bb, 0, none⟩)] w fun e w' => e = .returned (.bool true) ∧ StepEnd w w' B lb bm yb bb n v u vi ve vr oi oe orr s L := by
  have HX : Hid (LogAt w B lb bm v n s) := hx
  have HY : Hid (RefAt w B yb u L) := hy
  have HB : Hid (BookAt w B bb vi ve vr oi oe orr) := hb
  have HD : Hid (∀ o ∈ oe, ∀ k, o.1.ownBlock = some k → v.ownBlock ≠ some k) := hd
  have HR : Hid (Rel s L) := hr
  have RM : Hid (Room n oi oe orr s L) := room
  have HE : Hid (s.es.length * 40 ≤ 140737488355328) := by have := room.es; show s.es.length * 40 ≤ 140737488355328; omega
  have HL : Hid (L.length * 40 ≤ 140737488355328) := by have := room.L; show L.length * 40 ≤ 140737488355328; omega
  clear hx hy hb hd hr room
  subst hk
  go_enter Try.func7, Try.ntmps7
  go_wp2_with (first
    | (go_at_call 13; refine (entries_any (by exact (nofr _).logAt HX.out id id (fun _ _ => id)) HE.out).mono ?_; rintro e w1 ⟨l, rfl, hl1, hf1⟩
       have F1 : Hid (Fr (fun _ => False) w w1) := (nofr _).trans hf1 (fun _ h => h.elim)
       have Z1 : Hid (w.heap.size ≤ (w.alloc (.cells #[.int .i64 xw, .int .i64 4, .int .i64 xp, .int .i64 xt, .string xs, .bool xc] 39)).heap.size) := (nofr _).size
       have O1 : Hid (w1.ownsRow (w.alloc (.cells #[.int .i64 xw, .int .i64 4, .int .i64 xp, .int .i64 xt, .string xs, .bool xc] 39)).heap.size 69 4 l s.es.length (entCells s.es)) := hl1
       clear hl1 hf1)
    | (go_at_call 20; refine (rEntries_rel HR.out (by exact F1.out.refAt HY.out id (fun _ _ => id)) HL.out).mono ?_; rintro e w2 ⟨m, rfl, hl2, hf2⟩
       have F2 : Hid (Fr (fun _ => False) w w2) := F1.out.trans hf2 (fun _ h => h.elim)
       have O2 : Hid (w2.ownsRow (w.alloc (.cells #[.int .i64 xw, .int .i64 4, .int .i64 xp, .int .i64 xt, .string xs, .bool xc] 39)).heap.size 69 4 l s.es.length (entCells s.es)) := hf2.ownsRow O1.out (fun _ _ => id)
       have M2 : Hid (w2.ownsRow w1.heap.size 69 4 m s.es.length (entCells s.es)) := hl2
       clear hl2 hf2)
    | (go_at_call 21; refine (sameE_any (entsAt_of O2.out) (entsAt_of M2.out)).mono ?_; rintro e w3 ⟨rfl, q3, hq3⟩
       have F3 : Hid (Fr (fun _ => False) w w3) := by rw [hq3]; exact F2.out.drewN q3
       have O3 : Hid (w3.ownsRow (w.alloc (.cells #[.int .i64 xw, .int .i64 4, .int .i64 xp, .int .i64 xt, .string xs, .bool xc] 39)).heap.size 69 4 l s.es.length (entCells s.es)) := by rw [hq3]; exact ((Fr.refl (fun _ => False) _).drewN q3).ownsRow O2.out (fun _ _ => id)
       clear hq3)
    | (go_at_call 22; refine (askE_own HX.out HY.out HB.out HD.out HR.out RM.out F3.out O3.out Z1.out (by have := RM.out.es; omega)).mono ?_; rintro e w4 ⟨rfl, h4⟩
       have H4 : Hid (StepEnd w w4 B lb bm yb bb n v u vi ve vr oi oe orr s L) := h4
       clear h4))
  go_ret
  exact ⟨rfl, H4.out⟩

set_option maxRecDepth 100000 in
set_option maxHeartbeats 3200000 in
theorem logStep_opened {w : World} {B lb bm yb bb n : Nat} {v u vi ve vr : Value} {oi oe orr : List (Value × Nat)} {s : LogS} {L : List Ent} (hx : LogAt w B lb bm v n s) (hy : RefAt w B yb u L) (hb : BookAt w B bb vi ve vr oi oe orr)
    (hd : ∀ o ∈ oe, ∀ k, o.1.ownBlock = some k → v.ownBlock ≠ some k) (hr : Rel s L) (xw xk xp xt : Int) (xs : ByteArray) (xc : Bool) (room : Room n oi oe orr s L) (hk : xk = 6) :
    Calls Try.prog 7 #[.pointer (some ⟨lb, 0, none⟩), .pointer (some ⟨yb, 0, none⟩), .agg #[.int .i64 xw, .int .i64 xk, .int .i64 xp, .int .i64 xt, .string xs, .bool xc], .pointer (some ⟨bb, 0, none⟩)] w fun e w' => e = .returned (.bool true) ∧ StepEnd w w' B lb bm yb bb n v u vi ve vr oi oe orr s L := by
  have HX : Hid (LogAt w B lb bm v n s) := hx
  have HY : Hid (RefAt w B yb u L) := hy
  have HB : Hid (BookAt w B bb vi ve vr oi oe orr) := hb
  have HD : Hid (∀ o ∈ oe, ∀ k, o.1.ownBlock = some k → v.ownBlock ≠ some k) := hd
  have HR : Hid (Rel s L) := hr
  have RM : Hid (Room n oi oe orr s L) := room
  have HE : Hid (s.es.length * 40 ≤ 140737488355328) := by have := room.es; show s.es.length * 40 ≤ 140737488355328; omega
  have HL : Hid (L.length * 40 ≤ 140737488355328) := by have := room.L; show L.length * 40 ≤ 140737488355328; omega
  clear hx hy hb hd hr room
  subst hk
  go_enter Try.func7, Try.ntmps7
  go_wp2_with (first
    | (go_at_call 24; refine (opened_ask (by exact (nofr _).logAt HX.out id id (fun _ _ => id)) (by have := RM.out.n; omega)).mono ?_; rintro e w1 ⟨l, S, rfl, hl1, hf1, hs1, hs2, hs3, hs4⟩; have HOS : Hid (Opens L S) := HR.out.opens hs1 hs3 hs4; have HSL : Hid (S.length ≤ n) := hs2; clear hs1 hs2 hs3 hs4
       have F1 : Hid (Fr (fun _ => False) w w1) := (nofr _).trans hf1 (fun _ h => h.elim)
       have Z1 : Hid (w.heap.size ≤ (w.alloc (.cells #[.int .i64 xw, .int .i64 6, .int .i64 xp, .int .i64 xt, .string xs, .bool xc] 39)).heap.size) := (nofr _).size
       have O1 : Hid (w1.ownsRow (w.alloc (.cells #[.int .i64 xw, .int .i64 6, .int .i64 xp, .int .i64 xt, .string xs, .bool xc] 39)).heap.size 3 1 l S.length (intCells S)) := hl1
       clear hl1 hf1)
    | (go_at_call 25; refine (rOpened_any (by exact F1.out.refAt HY.out id (fun _ _ => id)) HOS.out (by have := HSL.out; have := RM.out.n; omega)).mono ?_; rintro e w2 ⟨m, rfl, hl2, hf2⟩
       have F2 : Hid (Fr (fun _ => False) w w2) := F1.out.trans hf2 (fun _ h => h.elim)
       have O2 : Hid (w2.ownsRow (w.alloc (.cells #[.int .i64 xw, .int .i64 6, .int .i64 xp, .int .i64 xt, .string xs, .bool xc] 39)).heap.size 3 1 l S.length (intCells S)) := hf2.ownsRow O1.out (fun _ _ => id)
       have M2 : Hid (w2.ownsRow w1.heap.size 3 1 m S.length (intCells S)) := hl2
       clear hl2 hf2)
    | (go_at_call 26; refine (sameI_any O2.out M2.out).mono ?_; rintro e w3 ⟨rfl, q3, hq3⟩
       have F3 : Hid (Fr (fun _ => False) w w3) := by rw [hq3]; exact F2.out.drewN q3
       have O3 : Hid (w3.ownsRow (w.alloc (.cells #[.int .i64 xw, .int .i64 6, .int .i64 xp, .int .i64 xt, .string xs, .bool xc] 39)).heap.size 3 1 l S.length (intCells S)) := by rw [hq3]; exact ((Fr.refl (fun _ => False) _).drewN q3).ownsRow O2.out (fun _ _ => id)
       clear hq3)
    | (go_at_call 27; refine (askI_own HX.out HY.out HB.out HD.out HR.out RM.out F3.out O3.out Z1.out (by have := HSL.out; have := RM.out.n; omega)).mono ?_; rintro e w4 ⟨rfl, h4⟩
       have H4 : Hid (StepEnd w w4 B lb bm yb bb n v u vi ve vr oi oe orr s L) := h4
       clear h4))
  go_ret
  exact ⟨rfl, H4.out⟩

set_option maxRecDepth 100000 in
set_option maxHeartbeats 3200000 in
theorem logStep_fetch {w : World} {B lb bm yb bb n : Nat} {v u vi ve vr : Value} {oi oe orr : List (Value × Nat)} {s : LogS} {L : List Ent} (hx : LogAt w B lb bm v n s) (hy : RefAt w B yb u L) (hb : BookAt w B bb vi ve vr oi oe orr)
    (hd : ∀ o ∈ oe, ∀ k, o.1.ownBlock = some k → v.ownBlock ≠ some k) (hr : Rel s L) (xw xk xp xt : Int) (xs : ByteArray) (xc : Bool) (room : Room n oi oe orr s L) (hk : xk = 7) :
    Calls Try.prog 7 #[.pointer (some ⟨lb, 0, none⟩), .pointer (some ⟨yb, 0, none⟩), .agg #[.int .i64 xw, .int .i64 xk, .int .i64 xp, .int .i64 xt, .string xs, .bool xc], .pointer (some ⟨bb, 0, none⟩)] w fun e w' => e = .returned (.bool true) ∧ StepEnd w w' B lb bm yb bb n v u vi ve vr oi oe orr s L := by
  have HX : Hid (LogAt w B lb bm v n s) := hx
  have HY : Hid (RefAt w B yb u L) := hy
  have HB : Hid (BookAt w B bb vi ve vr oi oe orr) := hb
  have HD : Hid (∀ o ∈ oe, ∀ k, o.1.ownBlock = some k → v.ownBlock ≠ some k) := hd
  have HR : Hid (Rel s L) := hr
  have RM : Hid (Room n oi oe orr s L) := room
  have HE : Hid (s.es.length * 40 ≤ 140737488355328) := by have := room.es; show s.es.length * 40 ≤ 140737488355328; omega
  have HL : Hid (L.length * 40 ≤ 140737488355328) := by have := room.L; show L.length * 40 ≤ 140737488355328; omega
  clear hx hy hb hd hr room
  subst hk
  go_enter Try.func7, Try.ntmps7
  go_wp2_with (first
    | (go_at_call 14; refine (fetch_any (by exact (nofr _).logAt HX.out id id (fun _ _ => id)) HR.out.inv.wf HE.out xp xt).mono ?_; rintro e w1 ⟨l, rfl, hl1, hf1⟩
       have F1 : Hid (Fr (fun _ => False) w w1) := (nofr _).trans hf1 (fun _ h => h.elim)
       have Z1 : Hid (w.heap.size ≤ (w.alloc (.cells #[.int .i64 xw, .int .i64 7, .int .i64 xp, .int .i64 xt, .string xs, .bool xc] 39)).heap.size) := (nofr _).size
       have O1 : Hid (w1.ownsRow (w.alloc (.cells #[.int .i64 xw, .int .i64 7, .int .i64 xp, .int .i64 xt, .string xs, .bool xc] 39)).heap.size 73 3 l (s.fetch xp xt).length (recCells (s.fetch xp xt))) := hl1
       have y2 : w1.cell? ⟨w.heap.size, 2, none⟩ = some (.int .i64 xp) := Fr.box (S := fun _ => False) hf1 id 2
       have y3 : w1.cell? ⟨w.heap.size, 3, none⟩ = some (.int .i64 xt) := Fr.box (S := fun _ => False) hf1 id 3
       clear hl1 hf1)
    | (go_at_call 28; refine (rFetch_rel HR.out (by exact F1.out.refAt HY.out id (fun _ _ => id)) HL.out xp xt).mono ?_; rintro e w2 ⟨m, rfl, hl2, hf2⟩
       have F2 : Hid (Fr (fun _ => False) w w2) := F1.out.trans hf2 (fun _ h => h.elim)
       have O2 : Hid (w2.ownsRow (w.alloc (.cells #[.int .i64 xw, .int .i64 7, .int .i64 xp, .int .i64 xt, .string xs, .bool xc] 39)).heap.size 73 3 l (s.fetch xp xt).length (recCells (s.fetch xp xt))) := hf2.ownsRow O1.out (fun _ _ => id)
       have M2 : Hid (w2.ownsRow w1.heap.size 73 3 m (s.fetch xp xt).length (recCells (s.fetch xp xt))) := hl2
       clear hl2 hf2)
    | (go_at_call 29; refine (same_any (recsAt_of O2.out) (recsAt_of M2.out)).mono ?_; rintro e w3 ⟨rfl, q3, hq3⟩
       have F3 : Hid (Fr (fun _ => False) w w3) := by rw [hq3]; exact F2.out.drewN q3
       have O3 : Hid (w3.ownsRow (w.alloc (.cells #[.int .i64 xw, .int .i64 7, .int .i64 xp, .int .i64 xt, .string xs, .bool xc] 39)).heap.size 73 3 l (s.fetch xp xt).length (recCells (s.fetch xp xt))) := by rw [hq3]; exact ((Fr.refl (fun _ => False) _).drewN q3).ownsRow O2.out (fun _ _ => id)
       clear hq3)
    | (go_at_call 30; refine (askR_own HX.out HY.out HB.out HD.out HR.out RM.out F3.out O3.out Z1.out (by have := RM.out.es; have := s.fetch_len xp xt; omega)).mono ?_; rintro e w4 ⟨rfl, h4⟩
       have H4 : Hid (StepEnd w w4 B lb bm yb bb n v u vi ve vr oi oe orr s L) := h4
       clear h4))
  go_ret
  exact ⟨rfl, H4.out⟩

set_option maxRecDepth 100000 in
set_option maxHeartbeats 3200000 in
theorem logStep_stable {w : World} {B lb bm yb bb n : Nat} {v u vi ve vr : Value} {oi oe orr : List (Value × Nat)} {s : LogS} {L : List Ent} (hx : LogAt w B lb bm v n s) (hy : RefAt w B yb u L) (hb : BookAt w B bb vi ve vr oi oe orr)
    (hd : ∀ o ∈ oe, ∀ k, o.1.ownBlock = some k → v.ownBlock ≠ some k) (hr : Rel s L) (xw xk xp xt : Int) (xs : ByteArray) (xc : Bool) (room : Room n oi oe orr s L) (hk : xk = 5) :
    Calls Try.prog 7 #[.pointer (some ⟨lb, 0, none⟩), .pointer (some ⟨yb, 0, none⟩), .agg #[.int .i64 xw, .int .i64 xk, .int .i64 xp, .int .i64 xt, .string xs, .bool xc], .pointer (some ⟨bb, 0, none⟩)] w fun e w' => e = .returned (.bool true) ∧ StepEnd w w' B lb bm yb bb n v u vi ve vr oi oe orr s L := by
  have HX : Hid (LogAt w B lb bm v n s) := hx
  have HY : Hid (RefAt w B yb u L) := hy
  have HB : Hid (BookAt w B bb vi ve vr oi oe orr) := hb
  have HD : Hid (∀ o ∈ oe, ∀ k, o.1.ownBlock = some k → v.ownBlock ≠ some k) := hd
  have HR : Hid (Rel s L) := hr
  have RM : Hid (Room n oi oe orr s L) := room
  have HE : Hid (s.es.length * 40 ≤ 140737488355328) := by have := room.es; show s.es.length * 40 ≤ 140737488355328; omega
  have HL : Hid (L.length * 40 ≤ 140737488355328) := by have := room.L; show L.length * 40 ≤ 140737488355328; omega
  clear hx hy hb hd hr room
  subst hk
  go_enter Try.func7, Try.ntmps7
  go_wp2_with (first
    | (go_at_call 12; refine (stable_any (by exact (nofr _).logAt HX.out id id (fun _ _ => id)) HR.out.inv.wf).mono ?_; rintro e w1 ⟨rfl, hf1⟩
       have F1 : Hid (Fr (fun _ => False) w w1) := (nofr _).trans hf1 (fun _ h => h.elim)
       clear hf1)
    | (go_at_call 23; refine (rStable_any (by exact F1.out.refAt HY.out id (fun _ _ => id)) HL.out).mono ?_; rintro e w2 ⟨rfl, hf2⟩
       have F2 : Hid (Fr (fun _ => False) w w2) := F1.out.trans hf2 (fun _ h => h.elim)
       clear hf2))
  go_ret
  exact ⟨by refine ret_bool ?_; rw [HR.out.stable]; simp, _, _, _, _, _, _, _, _, _, _, stepRead HX.out HY.out HB.out HD.out HR.out F2.out⟩

set_option maxRecDepth 100000 in
set_option maxHeartbeats 3200000 in
theorem logStep_none {w : World} {B lb bm yb bb n : Nat} {v u vi ve vr : Value} {oi oe orr : List (Value × Nat)} {s : LogS} {L : List Ent} (hx : LogAt w B lb bm v n s) (hy : RefAt w B yb u L) (hb : BookAt w B bb vi ve vr oi oe orr)
    (hd : ∀ o ∈ oe, ∀ k, o.1.ownBlock = some k → v.ownBlock ≠ some k) (hr : Rel s L) (xw xk xp xt : Int) (xs : ByteArray) (xc : Bool) (room : Room n oi oe orr s L) (hk : xk ≠ 1 ∧ xk ≠ 2 ∧ xk ≠ 3 ∧ xk ≠ 4 ∧ xk ≠ 5 ∧ xk ≠ 6 ∧ xk ≠ 7) :
    Calls Try.prog 7 #[.pointer (some ⟨lb, 0, none⟩), .pointer (some ⟨yb, 0, none⟩), .agg #[.int .i64 xw, .int .i64 xk, .int .i64 xp, .int .i64 xt, .string xs, .bool xc], .pointer (some ⟨bb, 0, none⟩)] w fun e w' => e = .returned (.bool true) ∧ StepEnd w w' B lb bm yb bb n v u vi ve vr oi oe orr s L := by
  have HX : Hid (LogAt w B lb bm v n s) := hx
  have HY : Hid (RefAt w B yb u L) := hy
  have HB : Hid (BookAt w B bb vi ve vr oi oe orr) := hb
  have HD : Hid (∀ o ∈ oe, ∀ k, o.1.ownBlock = some k → v.ownBlock ≠ some k) := hd
  have HR : Hid (Rel s L) := hr
  have RM : Hid (Room n oi oe orr s L) := room
  have _HE : Hid (s.es.length * 40 ≤ 140737488355328) := by have := room.es; show s.es.length * 40 ≤ 140737488355328; omega
  have _HL : Hid (L.length * 40 ≤ 140737488355328) := by have := room.L; show L.length * 40 ≤ 140737488355328; omega
  clear hx hy hb hd hr room
  obtain ⟨h1, h2, h3, h4, h5, h6, h7⟩ := hk
  go_enter Try.func7, Try.ntmps7
  go_wp2_with fail
  go_ret
  exact ⟨rfl, _, _, _, _, _, _, _, _, _, _, stepRead HX.out HY.out HB.out HD.out HR.out (nofr _)⟩

theorem logStep_any {w : World} {B lb bm yb bb n : Nat} {v u vi ve vr : Value} {oi oe orr : List (Value × Nat)} {s : LogS} {L : List Ent} (hx : LogAt w B lb bm v n s) (hy : RefAt w B yb u L) (hb : BookAt w B bb vi ve vr oi oe orr)
    (hd : ∀ o ∈ oe, ∀ k, o.1.ownBlock = some k → v.ownBlock ≠ some k) (hr : Rel s L) (x : Stp) (hp : I64 x.p) (ht : I64 x.t) (hs : x.s.size ≤ maxLen) (room : Room n oi oe orr s L) :
    Calls Try.prog 7 #[.pointer (some ⟨lb, 0, none⟩), .pointer (some ⟨yb, 0, none⟩), .agg #[.int .i64 x.wh, .int .i64 x.k, .int .i64 x.p, .int .i64 x.t, .string x.s, .bool x.c], .pointer (some ⟨bb, 0, none⟩)] w fun e w' => e = .returned (.bool true) ∧ StepEnd w w' B lb bm yb bb n v u vi ve vr oi oe orr s L := by
  by_cases h1 : x.k = 1
  · exact logStep_write hx hy hb hd hr x hp ht hs room (.inl h1)
  by_cases h2 : x.k = 2
  · exact logStep_write hx hy hb hd hr x hp ht hs room (.inr (.inl h2))
  by_cases h3 : x.k = 3
  · exact logStep_write hx hy hb hd hr x hp ht hs room (.inr (.inr h3))
  by_cases h4 : x.k = 4
  · exact logStep_ents hx hy hb hd hr _ _ _ _ _ _ room h4
  by_cases h5 : x.k = 5
  · exact logStep_stable hx hy hb hd hr _ _ _ _ _ _ room h5
  by_cases h6 : x.k = 6
  · exact logStep_opened hx hy hb hd hr _ _ _ _ _ _ room h6
  by_cases h7 : x.k = 7
  · exact logStep_fetch hx hy hb hd hr _ _ _ _ _ _ room h7
  exact logStep_none hx hy hb hd hr _ _ _ _ _ _ room ⟨h1, h2, h3, h4, h5, h6, h7⟩

end Go.Proofs.Ytkelpcjiediamaa
