/-
  One act on both heralds, where nothing is in flight.
-/
import Derived.Test.YtkelpcjiediamaaGreatMLaw4
namespace Go.Proofs.YtkelpcjiediamaaGreat
open Go.RowKit Go.Maps

theorem Scn.mono {w : World} {B : Nat} {F : Nat → Prop} {wb xb yb bb n m : Nat} {o : BookS} (h : Scn w B F wb xb yb bb n o) (hm : n ≤ m) : Scn w B F wb xb yb bb m o :=
  ⟨h.blk, h.hw, h.book, h.ap, h.flt, h.fB, by have := h.ci; omega, by have := h.ce; omega, by have := h.cr; omega, fun q hq => by have := h.mks q hq; omega⟩

section
variable {w w' : World} {B wb xb yb bb N n : Nat} {h h' : HS} {y y' : RS} {o : BookS}

/-- What an act leaves. -/
structure Went (w w' : World) (B wb xb yb bb N n : Nat) : Prop where
  game : ∃ h' y' o', Game w' B wb xb yb bb N n h' y' o' ∧ y'.N = []
  far : Fr (fun k => B ≤ k) w w'

def WentTo (w : World) (B wb xb yb bb N n : Nat) (e : Ending) (w' : World) : Prop := e = .returned (.bool true) ∧ Went w w' B wb xb yb bb N n

theorem Game.mono (g : Game w B wb xb yb bb N n h y o) {M m : Nat} (hM : N ≤ M) (hm : n ≤ m) : Game w B wb xb yb bb M m h y o :=
  ⟨g.both.mono hM, g.scn.mono hm, g.hw1, g.hw2⟩

theorem Game.went (g : Game w B wb xb yb bb N n h y o) (hnil : y.N = []) {e : Ending} (a : Acted w B xb yb h y (N + 1) e w') : WentTo w B wb xb yb bb (N + 1) (n + 2) e w' := by
  obtain ⟨he, h', y', t⟩ := a
  exact ⟨he, ⟨h', y', o, (g.step t).mono (Nat.le_refl _) (by omega), t.net.trans hnil⟩, t.fr.mono (fun k hk => .inl (g.scn.fB k (.inr hk)))⟩

theorem Game.wentF (g : Game w B wb xb yb bb N n h y o) (hnil : y.N = []) (f : Fr (fun _ => False) w w') : Went w w' B wb xb yb bb (N + 1) (n + 2) :=
  ⟨⟨h, y, o, (g.after f).mono (by omega) (by omega), hnil⟩, f.mono (fun _ h => h.elim)⟩

theorem Game.wentA (g : Game w B wb xb yb bb N n h y o) (hnil : y.N = []) {m : Nat} (hm : m ≤ n + 2) (a : Asked w w' B (duoF wb xb yb h y) wb xb yb bb m) : Went w w' B wb xb yb bb (N + 1) (n + 2) := by
  obtain ⟨o', s⟩ := a.scn
  exact ⟨⟨h, y, o', ⟨(g.both.keepF a.keep).mono (by omega), s.mono hm, g.hw1, g.hw2⟩, hnil⟩, a.far⟩

theorem Went.behind {w1 : World} {M m : Nat} (f : Fr (fun _ => False) w w1) (t : Went w1 w' B wb xb yb bb M m) : Went w w' B wb xb yb bb M m :=
  ⟨t.game, (f.mono (fun _ h => h.elim)).trans t.far (fun _ => .inl)⟩

theorem Game.ask (g : Game w B wb xb yb bb N n h y o) (hN : N ≤ 10000000) (hnil : y.N = []) : Ask w (duoF wb xb yb h y) (ptr xb) (ptr yb) := g.both.ask hN (g.both.mess_nil hnil)

set_option maxRecDepth 100000 in
set_option maxHeartbeats 3200000 in
theorem act_init (g : Game w B wb xb yb bb N n h y o) (hN : N ≤ 10000000) (hn : n ≤ 9000000) (hnil : y.N = []) (p q m : Int) {ts : ByteArray} (fl : Bool) :
    Calls Tryz.prog 12 #[ptr wb, actV 1 p q m ts fl] w (WentTo w B wb xb yb bb (N + 1) (n + 2)) := by
  have G : Hid (Game w B wb xb yb bb N n h y o) := g
  have HN : Hid (N ≤ 10000000) := hN
  have Hn : Hid (n ≤ 9000000) := hn
  have HNIL : Hid (y.N = []) := hnil
  clear g hN hn hnil
  unfold ptr actV
  go_enter Tryz.func12, Tryz.ntmps12
  go_wp2_with (first
    | (go_at_call 33; refine (show Calls Tryz.prog 33 #[ptr wb, actV 1 p q m ts fl] _ _ from writes_init (G.out.after (nofr _)) HN.out p q m fl).mono ?_; rintro e w1 hq
       have T1 : Hid (Went w w1 B wb xb yb bb (N + 1) (n + 2)) := ((G.out.after (nofr _)).went HNIL.out hq).2.behind (nofr _)
       obtain rfl : e = .returned (.bool true) := hq.1
       clear hq))
  go_ret
  exact ⟨rfl, T1.out⟩

set_option maxRecDepth 100000 in
set_option maxHeartbeats 3200000 in
theorem act_add (g : Game w B wb xb yb bb N n h y o) (hN : N ≤ 10000000) (hn : n ≤ 9000000) (hnil : y.N = []) (p q m : Int) {ts : ByteArray} (fl : Bool) :
    Calls Tryz.prog 12 #[ptr wb, actV 2 p q m ts fl] w (WentTo w B wb xb yb bb (N + 1) (n + 2)) := by
  have G : Hid (Game w B wb xb yb bb N n h y o) := g
  have HN : Hid (N ≤ 10000000) := hN
  have Hn : Hid (n ≤ 9000000) := hn
  have HNIL : Hid (y.N = []) := hnil
  clear g hN hn hnil
  unfold ptr actV
  go_enter Tryz.func12, Tryz.ntmps12
  go_wp2_with (first
    | (go_at_call 33; refine (show Calls Tryz.prog 33 #[ptr wb, actV 2 p q m ts fl] _ _ from writes_add (G.out.after (nofr _)) HN.out p q m fl).mono ?_; rintro e w1 hq
       have T1 : Hid (Went w w1 B wb xb yb bb (N + 1) (n + 2)) := ((G.out.after (nofr _)).went HNIL.out hq).2.behind (nofr _)
       obtain rfl : e = .returned (.bool true) := hq.1
       clear hq))
  go_ret
  exact ⟨rfl, T1.out⟩

set_option maxRecDepth 100000 in
set_option maxHeartbeats 3200000 in
theorem act_produce (g : Game w B wb xb yb bb N n h y o) (hN : N ≤ 10000000) (hn : n ≤ 9000000) (hnil : y.N = []) (p q m : Int) {ts : ByteArray} (hts : ts.size ≤ 140737488355328) (fl : Bool) :
    Calls Tryz.prog 12 #[ptr wb, actV 3 p q m ts fl] w (WentTo w B wb xb yb bb (N + 1) (n + 2)) := by
  have G : Hid (Game w B wb xb yb bb N n h y o) := g
  have HN : Hid (N ≤ 10000000) := hN
  have Hn : Hid (n ≤ 9000000) := hn
  have HNIL : Hid (y.N = []) := hnil
  have HTS : Hid (ts.size ≤ 140737488355328) := hts
  clear hts
  clear g hN hn hnil
  unfold ptr actV
  go_enter Tryz.func12, Tryz.ntmps12
  go_wp2_with (first
    | (go_at_call 33; refine (show Calls Tryz.prog 33 #[ptr wb, actV 3 p q m ts fl] _ _ from writes_produce (G.out.after (nofr _)) HN.out p q m HTS.out fl).mono ?_; rintro e w1 hq
       have T1 : Hid (Went w w1 B wb xb yb bb (N + 1) (n + 2)) := ((G.out.after (nofr _)).went HNIL.out hq).2.behind (nofr _)
       obtain rfl : e = .returned (.bool true) := hq.1
       clear hq))
  go_ret
  exact ⟨rfl, T1.out⟩

set_option maxRecDepth 100000 in
set_option maxHeartbeats 3200000 in
theorem act_end (g : Game w B wb xb yb bb N n h y o) (hN : N ≤ 10000000) (hn : n ≤ 9000000) (hnil : y.N = []) (p q m : Int) {ts : ByteArray} (fl : Bool) :
    Calls Tryz.prog 12 #[ptr wb, actV 4 p q m ts fl] w (WentTo w B wb xb yb bb (N + 1) (n + 2)) := by
  have G : Hid (Game w B wb xb yb bb N n h y o) := g
  have HN : Hid (N ≤ 10000000) := hN
  have Hn : Hid (n ≤ 9000000) := hn
  have HNIL : Hid (y.N = []) := hnil
  clear g hN hn hnil
  unfold ptr actV
  go_enter Tryz.func12, Tryz.ntmps12
  go_wp2_with (first
    | (go_at_call 33; refine (show Calls Tryz.prog 33 #[ptr wb, actV 4 p q m ts fl] _ _ from writes_end (G.out.after (nofr _)) HN.out p q m fl).mono ?_; rintro e w1 hq
       have T1 : Hid (Went w w1 B wb xb yb bb (N + 1) (n + 2)) := ((G.out.after (nofr _)).went HNIL.out hq).2.behind (nofr _)
       obtain rfl : e = .returned (.bool true) := hq.1
       clear hq))
  go_ret
  exact ⟨rfl, T1.out⟩

set_option maxRecDepth 100000 in
set_option maxHeartbeats 3200000 in
theorem act_out (g : Game w B wb xb yb bb N n h y o) (hN : N ≤ 10000000) (hn : n ≤ 9000000) (hnil : y.N = []) (p q m : Int) {ts : ByteArray} (fl : Bool) :
    Calls Tryz.prog 12 #[ptr wb, actV 10 p q m ts fl] w (WentTo w B wb xb yb bb (N + 1) (n + 2)) := by
  have G : Hid (Game w B wb xb yb bb N n h y o) := g
  have HN : Hid (N ≤ 10000000) := hN
  have Hn : Hid (n ≤ 9000000) := hn
  have HNIL : Hid (y.N = []) := hnil
  clear g hN hn hnil
  unfold ptr actV
  go_enter Tryz.func12, Tryz.ntmps12
  go_wp2_with (first
    | (go_at_call 35; refine (show Calls Tryz.prog 35 #[ptr wb, actV 10 p q m ts fl] _ _ from keeps_out (G.out.after (nofr _)) HN.out p q m fl).mono ?_; rintro e w1 hq
       have T1 : Hid (Went w w1 B wb xb yb bb (N + 1) (n + 2)) := ((G.out.after (nofr _)).went HNIL.out hq).2.behind (nofr _)
       obtain rfl : e = .returned (.bool true) := hq.1
       clear hq))
  go_ret
  exact ⟨rfl, T1.out⟩

set_option maxRecDepth 100000 in
set_option maxHeartbeats 3200000 in
theorem act_break (g : Game w B wb xb yb bb N n h y o) (hN : N ≤ 10000000) (hn : n ≤ 9000000) (hnil : y.N = []) (p q m : Int) {ts : ByteArray} (fl : Bool) :
    Calls Tryz.prog 12 #[ptr wb, actV 12 p q m ts fl] w (WentTo w B wb xb yb bb (N + 1) (n + 2)) := by
  have G : Hid (Game w B wb xb yb bb N n h y o) := g
  have HN : Hid (N ≤ 10000000) := hN
  have Hn : Hid (n ≤ 9000000) := hn
  have HNIL : Hid (y.N = []) := hnil
  clear g hN hn hnil
  unfold ptr actV
  go_enter Tryz.func12, Tryz.ntmps12
  go_wp2_with (first
    | (go_at_call 35; refine (show Calls Tryz.prog 35 #[ptr wb, actV 12 p q m ts fl] _ _ from keeps_break (G.out.after (nofr _)) HN.out p q m fl).mono ?_; rintro e w1 hq
       have T1 : Hid (Went w w1 B wb xb yb bb (N + 1) (n + 2)) := ((G.out.after (nofr _)).went HNIL.out hq).2.behind (nofr _)
       obtain rfl : e = .returned (.bool true) := hq.1
       clear hq))
  go_ret
  exact ⟨rfl, T1.out⟩

set_option maxRecDepth 100000 in
set_option maxHeartbeats 3200000 in
theorem act_crash (g : Game w B wb xb yb bb N n h y o) (hN : N ≤ 10000000) (hn : n ≤ 9000000) (hnil : y.N = []) (p q m : Int) {ts : ByteArray} (fl : Bool) :
    Calls Tryz.prog 12 #[ptr wb, actV 13 p q m ts fl] w (WentTo w B wb xb yb bb (N + 1) (n + 2)) := by
  have G : Hid (Game w B wb xb yb bb N n h y o) := g
  have HN : Hid (N ≤ 10000000) := hN
  have Hn : Hid (n ≤ 9000000) := hn
  have HNIL : Hid (y.N = []) := hnil
  clear g hN hn hnil
  unfold ptr actV
  go_enter Tryz.func12, Tryz.ntmps12
  go_wp2_with (first
    | (go_at_call 35; refine (show Calls Tryz.prog 35 #[ptr wb, actV 13 p q m ts fl] _ _ from keeps_crash (G.out.after (nofr _)) HN.out p q m fl).mono ?_; rintro e w1 hq
       have T1 : Hid (Went w w1 B wb xb yb bb (N + 1) (n + 2)) := ((G.out.after (nofr _)).went HNIL.out hq).2.behind (nofr _)
       obtain rfl : e = .returned (.bool true) := hq.1
       clear hq))
  go_ret
  exact ⟨rfl, T1.out⟩

set_option maxRecDepth 100000 in
set_option maxHeartbeats 3200000 in
theorem act_restart (g : Game w B wb xb yb bb N n h y o) (hN : N ≤ 10000000) (hn : n ≤ 9000000) (hnil : y.N = []) (p q m : Int) {ts : ByteArray} (fl : Bool) :
    Calls Tryz.prog 12 #[ptr wb, actV 14 p q m ts fl] w (WentTo w B wb xb yb bb (N + 1) (n + 2)) := by
  have G : Hid (Game w B wb xb yb bb N n h y o) := g
  have HN : Hid (N ≤ 10000000) := hN
  have Hn : Hid (n ≤ 9000000) := hn
  have HNIL : Hid (y.N = []) := hnil
  clear g hN hn hnil
  unfold ptr actV
  go_enter Tryz.func12, Tryz.ntmps12
  go_wp2_with (first
    | (go_at_call 35; refine (show Calls Tryz.prog 35 #[ptr wb, actV 14 p q m ts fl] _ _ from keeps_restart (G.out.after (nofr _)) HN.out p q m fl).mono ?_; rintro e w1 hq
       have T1 : Hid (Went w w1 B wb xb yb bb (N + 1) (n + 2)) := ((G.out.after (nofr _)).went HNIL.out hq).2.behind (nofr _)
       obtain rfl : e = .returned (.bool true) := hq.1
       clear hq))
  go_ret
  exact ⟨rfl, T1.out⟩

set_option maxRecDepth 100000 in
set_option maxHeartbeats 3200000 in
theorem act_deliver (g : Game w B wb xb yb bb N n h y o) (hN : N ≤ 10000000) (hn : n ≤ 9000000) (hnil : y.N = []) (p q m : Int) {ts : ByteArray} (fl : Bool) :
    Calls Tryz.prog 12 #[ptr wb, actV 6 p q m ts fl] w (WentTo w B wb xb yb bb (N + 1) (n + 2)) := by
  have G : Hid (Game w B wb xb yb bb N n h y o) := g
  have HN : Hid (N ≤ 10000000) := hN
  have Hn : Hid (n ≤ 9000000) := hn
  have HNIL : Hid (y.N = []) := hnil
  clear g hN hn hnil
  unfold ptr actV
  go_enter Tryz.func12, Tryz.ntmps12
  go_wp2_with (first
    | (go_at_call 34; refine (show Calls Tryz.prog 34 #[ptr wb, actV 6 p q m ts fl] _ _ from net_deliver (G.out.after (nofr _)) HNIL.out p q m fl).mono ?_; rintro e w1 ⟨rfl, hq⟩
       have T1 : Hid (Went w w1 B wb xb yb bb (N + 1) (n + 2)) := G.out.wentF HNIL.out ((nofr _).trans hq (fun _ h => h.elim))
       clear hq))
  go_ret
  exact ⟨rfl, T1.out⟩

set_option maxRecDepth 100000 in
set_option maxHeartbeats 3200000 in
theorem act_drop (g : Game w B wb xb yb bb N n h y o) (hN : N ≤ 10000000) (hn : n ≤ 9000000) (hnil : y.N = []) (p q m : Int) {ts : ByteArray} (fl : Bool) :
    Calls Tryz.prog 12 #[ptr wb, actV 7 p q m ts fl] w (WentTo w B wb xb yb bb (N + 1) (n + 2)) := by
  have G : Hid (Game w B wb xb yb bb N n h y o) := g
  have HN : Hid (N ≤ 10000000) := hN
  have Hn : Hid (n ≤ 9000000) := hn
  have HNIL : Hid (y.N = []) := hnil
  clear g hN hn hnil
  unfold ptr actV
  go_enter Tryz.func12, Tryz.ntmps12
  go_wp2_with (first
    | (go_at_call 34; refine (show Calls Tryz.prog 34 #[ptr wb, actV 7 p q m ts fl] _ _ from net_drop (G.out.after (nofr _)) HNIL.out p q m fl).mono ?_; rintro e w1 ⟨rfl, hq⟩
       have T1 : Hid (Went w w1 B wb xb yb bb (N + 1) (n + 2)) := G.out.wentF HNIL.out ((nofr _).trans hq (fun _ h => h.elim))
       clear hq))
  go_ret
  exact ⟨rfl, T1.out⟩

set_option maxRecDepth 100000 in
set_option maxHeartbeats 3200000 in
theorem act_copy (g : Game w B wb xb yb bb N n h y o) (hN : N ≤ 10000000) (hn : n ≤ 9000000) (hnil : y.N = []) (p q m : Int) {ts : ByteArray} (fl : Bool) :
    Calls Tryz.prog 12 #[ptr wb, actV 8 p q m ts fl] w (WentTo w B wb xb yb bb (N + 1) (n + 2)) := by
  have G : Hid (Game w B wb xb yb bb N n h y o) := g
  have HN : Hid (N ≤ 10000000) := hN
  have Hn : Hid (n ≤ 9000000) := hn
  have HNIL : Hid (y.N = []) := hnil
  clear g hN hn hnil
  unfold ptr actV
  go_enter Tryz.func12, Tryz.ntmps12
  go_wp2_with (first
    | (go_at_call 34; refine (show Calls Tryz.prog 34 #[ptr wb, actV 8 p q m ts fl] _ _ from net_copy (G.out.after (nofr _)) HNIL.out p q m fl).mono ?_; rintro e w1 ⟨rfl, hq⟩
       have T1 : Hid (Went w w1 B wb xb yb bb (N + 1) (n + 2)) := G.out.wentF HNIL.out ((nofr _).trans hq (fun _ h => h.elim))
       clear hq))
  go_ret
  exact ⟨rfl, T1.out⟩

set_option maxRecDepth 100000 in
set_option maxHeartbeats 3200000 in
theorem act_arrive (g : Game w B wb xb yb bb N n h y o) (hN : N ≤ 10000000) (hn : n ≤ 9000000) (hnil : y.N = []) (p q m : Int) (hm : I64 m) {ts : ByteArray} (fl : Bool) :
    Calls Tryz.prog 12 #[ptr wb, actV 9 p q m ts fl] w (WentTo w B wb xb yb bb (N + 1) (n + 2)) := by
  have G : Hid (Game w B wb xb yb bb N n h y o) := g
  have HN : Hid (N ≤ 10000000) := hN
  have Hn : Hid (n ≤ 9000000) := hn
  have HNIL : Hid (y.N = []) := hnil
  have HI : Hid (I64 m) := hm
  clear hm
  clear g hN hn hnil
  unfold ptr actV
  go_enter Tryz.func12, Tryz.ntmps12
  go_wp2_with (first
    | (go_at_call 34; refine (show Calls Tryz.prog 34 #[ptr wb, actV 9 p q m ts fl] _ _ from net_arrive (G.out.after (nofr _)) HNIL.out p q m HI.out fl).mono ?_; rintro e w1 ⟨rfl, hq⟩
       have T1 : Hid (Went w w1 B wb xb yb bb (N + 1) (n + 2)) := G.out.wentF HNIL.out ((nofr _).trans hq (fun _ h => h.elim))
       clear hq))
  go_ret
  exact ⟨rfl, T1.out⟩

set_option maxRecDepth 100000 in
set_option maxHeartbeats 3200000 in
theorem act_producer (g : Game w B wb xb yb bb N n h y o) (hN : N ≤ 10000000) (hn : n ≤ 9000000) (hnil : y.N = []) (p q m : Int) (hi : I64 p) {ts : ByteArray} (fl : Bool) :
    Calls Tryz.prog 12 #[ptr wb, actV 17 p q m ts fl] w (WentTo w B wb xb yb bb (N + 1) (n + 2)) := by
  have G : Hid (Game w B wb xb yb bb N n h y o) := g
  have HN : Hid (N ≤ 10000000) := hN
  have Hn : Hid (n ≤ 9000000) := hn
  have HNIL : Hid (y.N = []) := hnil
  have HI : Hid (I64 p) := hi
  clear hi
  clear g hN hn hnil
  unfold ptr actV
  go_enter Tryz.func12, Tryz.ntmps12
  go_wp2_with (first
    | (go_at_call 38; refine (show Calls Tryz.prog 38 #[ptr wb, .int .i64 p] _ _ from producer_any (G.out.after (nofr _)).scn ((G.out.after (nofr _)).ask HN.out HNIL.out) Hn.out p HI.out).mono ?_; rintro e w1 ⟨rfl, hq⟩
       have T1 : Hid (Went w w1 B wb xb yb bb (N + 1) (n + 2)) := ((G.out.after (nofr _)).wentA HNIL.out (by omega) hq).behind (nofr _)
       clear hq))
  go_ret
  exact ⟨rfl, T1.out⟩

set_option maxRecDepth 100000 in
set_option maxHeartbeats 3200000 in
theorem act_part (g : Game w B wb xb yb bb N n h y o) (hN : N ≤ 10000000) (hn : n ≤ 9000000) (hnil : y.N = []) (p q m : Int) (hi : I64 q) {ts : ByteArray} (fl : Bool) :
    Calls Tryz.prog 12 #[ptr wb, actV 18 p q m ts fl] w (WentTo w B wb xb yb bb (N + 1) (n + 2)) := by
  have G : Hid (Game w B wb xb yb bb N n h y o) := g
  have HN : Hid (N ≤ 10000000) := hN
  have Hn : Hid (n ≤ 9000000) := hn
  have HNIL : Hid (y.N = []) := hnil
  have HI : Hid (I64 q) := hi
  clear hi
  clear g hN hn hnil
  unfold ptr actV
  go_enter Tryz.func12, Tryz.ntmps12
  go_wp2_with (first
    | (go_at_call 39; refine (show Calls Tryz.prog 39 #[ptr wb, .int .i64 q] _ _ from part_any (G.out.after (nofr _)).scn ((G.out.after (nofr _)).ask HN.out HNIL.out) Hn.out q HI.out).mono ?_; rintro e w1 ⟨rfl, hq⟩
       have T1 : Hid (Went w w1 B wb xb yb bb (N + 1) (n + 2)) := ((G.out.after (nofr _)).wentA HNIL.out (by omega) hq).behind (nofr _)
       clear hq))
  go_ret
  exact ⟨rfl, T1.out⟩

set_option maxRecDepth 100000 in
set_option maxHeartbeats 3200000 in
theorem act_fetch (g : Game w B wb xb yb bb N n h y o) (hN : N ≤ 10000000) (hn : n ≤ 9000000) (hnil : y.N = []) (p q m : Int) (hi : I64 q) {ts : ByteArray} (fl : Bool) :
    Calls Tryz.prog 12 #[ptr wb, actV 19 p q m ts fl] w (WentTo w B wb xb yb bb (N + 1) (n + 2)) := by
  have G : Hid (Game w B wb xb yb bb N n h y o) := g
  have HN : Hid (N ≤ 10000000) := hN
  have Hn : Hid (n ≤ 9000000) := hn
  have HNIL : Hid (y.N = []) := hnil
  have HI : Hid (I64 q) := hi
  clear hi
  clear g hN hn hnil
  unfold ptr actV
  go_enter Tryz.func12, Tryz.ntmps12
  go_wp2_with (first
    | (go_at_call 40; refine (show Calls Tryz.prog 40 #[ptr wb, .int .i64 q, .int .i64 p, .int .i64 m] _ _ from fetch_both (G.out.after (nofr _)).scn ((G.out.after (nofr _)).ask HN.out HNIL.out) Hn.out q p m HI.out).mono ?_; rintro e w1 ⟨rfl, hq⟩
       have T1 : Hid (Went w w1 B wb xb yb bb (N + 1) (n + 2)) := ((G.out.after (nofr _)).wentA HNIL.out (by omega) hq).behind (nofr _)
       clear hq))
  go_ret
  exact ⟨rfl, T1.out⟩

set_option maxRecDepth 100000 in
set_option maxHeartbeats 3200000 in
theorem act_entries (g : Game w B wb xb yb bb N n h y o) (hN : N ≤ 10000000) (hn : n ≤ 9000000) (hnil : y.N = []) (p q m : Int) (hi : I64 q) {ts : ByteArray} (fl : Bool) :
    Calls Tryz.prog 12 #[ptr wb, actV 20 p q m ts fl] w (WentTo w B wb xb yb bb (N + 1) (n + 2)) := by
  have G : Hid (Game w B wb xb yb bb N n h y o) := g
  have HN : Hid (N ≤ 10000000) := hN
  have Hn : Hid (n ≤ 9000000) := hn
  have HNIL : Hid (y.N = []) := hnil
  have HI : Hid (I64 q) := hi
  clear hi
  clear g hN hn hnil
  unfold ptr actV
  go_enter Tryz.func12, Tryz.ntmps12
  go_wp2_with (first
    | (go_at_call 41; refine (show Calls Tryz.prog 41 #[ptr wb, .int .i64 q] _ _ from entries_both (G.out.after (nofr _)).scn ((G.out.after (nofr _)).ask HN.out HNIL.out) Hn.out q HI.out).mono ?_; rintro e w1 ⟨rfl, hq⟩
       have T1 : Hid (Went w w1 B wb xb yb bb (N + 1) (n + 2)) := ((G.out.after (nofr _)).wentA HNIL.out (by omega) hq).behind (nofr _)
       clear hq))
  go_ret
  exact ⟨rfl, T1.out⟩

set_option maxRecDepth 100000 in
set_option maxHeartbeats 3200000 in
theorem act_other (k p q m : Int) (h : k < 1 ∨ 21 < k) (ts : ByteArray) (fl : Bool) :
    Calls Tryz.prog 12 #[ptr wb, actV k p q m ts fl] w fun e w' => e = .returned (.bool true) ∧ Fr (fun _ => False) w w' := by
  have n1 : ¬ k = 1 := by omega
  have n2 : ¬ k = 2 := by omega
  have n3 : ¬ k = 3 := by omega
  have n4 : ¬ k = 4 := by omega
  have n5 : ¬ k = 5 := by omega
  have n6 : ¬ k = 6 := by omega
  have n7 : ¬ k = 7 := by omega
  have n8 : ¬ k = 8 := by omega
  have n9 : ¬ k = 9 := by omega
  have n10 : ¬ k = 10 := by omega
  have n11 : ¬ k = 11 := by omega
  have n12 : ¬ k = 12 := by omega
  have n13 : ¬ k = 13 := by omega
  have n14 : ¬ k = 14 := by omega
  have n15 : ¬ k = 15 := by omega
  have n16 : ¬ k = 16 := by omega
  have n17 : ¬ k = 17 := by omega
  have n18 : ¬ k = 18 := by omega
  have n19 : ¬ k = 19 := by omega
  have n20 : ¬ k = 20 := by omega
  have n21 : ¬ k = 21 := by omega
  clear h
  unfold ptr actV
  go_enter Tryz.func12, Tryz.ntmps12
  go_wp2
  go_ret
  exact ⟨rfl, nofr _⟩

theorem act_any (g : Game w B wb xb yb bb N n h y o) (hN : N ≤ 10000000) (hn : n ≤ 9000000) (hnil : y.N = []) (k p q m : Int) (hp : I64 p) (hq : I64 q) (hm : I64 m) {ts : ByteArray} (hts : ts.size ≤ 140737488355328) (fl : Bool) (h5 : k ≠ 5) (h11 : k ≠ 11) :
    Calls Tryz.prog 12 #[ptr wb, actV k p q m ts fl] w (WentTo w B wb xb yb bb (N + 1) (n + 2)) := by
  by_cases ho : k < 1 ∨ 21 < k
  · exact (act_other k p q m ho ts fl).mono fun _ _ ⟨h1, h2⟩ => ⟨h1, g.wentF hnil h2⟩
  · have hk : k = 1 ∨ k = 2 ∨ k = 3 ∨ k = 4 ∨ k = 6 ∨ k = 7 ∨ k = 8 ∨ k = 9 ∨ k = 10 ∨ k = 12 ∨ k = 13 ∨ k = 14 ∨ k = 15 ∨ k = 16 ∨ k = 17 ∨ k = 18 ∨ k = 19 ∨ k = 20 ∨ k = 21 := by omega
    rcases hk with rfl | rfl | rfl | rfl | rfl | rfl | rfl | rfl | rfl | rfl | rfl | rfl | rfl | rfl | rfl | rfl | rfl | rfl | rfl
    · exact act_init g hN hn hnil p q m fl
    · exact act_add g hN hn hnil p q m fl
    · exact act_produce g hN hn hnil p q m hts fl
    · exact act_end g hN hn hnil p q m fl
    · exact act_deliver g hN hn hnil p q m fl
    · exact act_drop g hN hn hnil p q m fl
    · exact act_copy g hN hn hnil p q m fl
    · exact act_arrive g hN hn hnil p q m hm fl
    · exact act_out g hN hn hnil p q m fl
    · exact act_break g hN hn hnil p q m fl
    · exact act_crash g hN hn hnil p q m fl
    · exact act_restart g hN hn hnil p q m fl
    · exact (act_num g.scn (g.ask hN hnil) p q m ts fl).mono fun _ _ ⟨h1, h2⟩ => ⟨h1, g.wentF hnil h2⟩
    · exact (act_mess g.scn (g.ask hN hnil) p q m hm ts fl).mono fun _ _ ⟨h1, h2⟩ => ⟨h1, g.wentF hnil h2⟩
    · exact act_producer g hN hn hnil p q m hp fl
    · exact act_part g hN hn hnil p q m hq fl
    · exact act_fetch g hN hn hnil p q m hq fl
    · exact act_entries g hN hn hnil p q m hq fl
    · exact (act_jour g.scn (g.ask hN hnil) p q m ts fl).mono fun _ _ ⟨h1, h2⟩ => ⟨h1, g.wentF hnil h2⟩
end

end Go.Proofs.YtkelpcjiediamaaGreat

