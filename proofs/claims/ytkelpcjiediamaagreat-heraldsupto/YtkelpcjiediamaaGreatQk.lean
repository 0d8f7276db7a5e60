import Derived.Conc.Beside
import Derived.Test.YtkelpcjiediamaaGreatRows
import Derived.WalkSpells
import Derived.WalkLawsBesides
import Derived.Deep.AppendLies
import Derived.Deep.RegionHeld3
import Derived.Deep.DrawnRows
import Derived.Deep.RegionLaw
import Derived.Shelf.Sort.Plain
import Derived.Shelf.Slices.In.SortNone
import Derived.Sort.OwnSortedInts
import Derived.Deep.OwnRows
import Derived.Conc.CrowdSel
import Derived.Conc.WgGenN3
import Derived.Conc.CompanyDraw
import Derived.Conc.WgWords
import Derived.Conc.LeavingOf
set_option maxRecDepth 100000
set_option maxHeartbeats 0
set_option linter.all false
namespace Go.Proofs.YtkelpcjiediamaaGreat
theorem J{α:Sort _}{a:α}:a=a:=.refl a
def dA{P:Nat->Prop}:∀k:Nat,False->P k:=fun _ h=>h.elim
theorem _root_.Eq.t{α:Sort _}{a b c:α}(h:a=b)(g:b=c):a=c:=h.trans g
theorem _root_.Eq.s{α:Sort _}{a b:α}(h:a=b):b=a:=h.symm
theorem _root_.Ne.s{α:Sort _}{a b:α}(h:a≠b):b≠a:=h.symm
theorem _root_.Iff.t{a b c:Prop}(h:a<->b)(g:b<->c):a<->c:=h.trans g
theorem _root_.Iff.s{a b:Prop}(h:a<->b):b<->a:=h.symm
theorem _root_.False.e{p:Prop}(h:False):p:=h.elim
theorem _root_.Or.e{a b c:Prop}(h:a∨b)(f:a->c)(g:b->c):c:=h.elim f g
abbrev aB:Nat->Prop:=fun _=>False
def alY:=@Array.all_eq_true
def zx:=@Array.append_empty
def Ac:=@Array.empty_append
def afZ:=@Array.ext_getElem?
def Uy:=@Array.getD_eq_getD_getElem?
def afV:=@Array.getElem?_eq_getElem
def uZ:=@Array.getElem?_eq_some_iff
def Jc:=@Array.getElem?_map
def alQ:=@Array.getElem?_setIfInBounds
def BZ:=@Array.getElem?_setIfInBounds_ne
def alP:=@Array.getElem?_setIfInBounds_self_of_lt
def UD:=@Array.mem_append
def acJ:=@Array.mem_iff_getElem
def au3:=@Array.mem_iff_getElem?
def au4:=@Array.mem_of_getElem?
def alW:=@Array.mem_replicate
def af8:=@Array.mk.injEq
def OM:=@Array.replicate_succ
def OL:=@Array.replicate_zero
def au1:=@Array.setIfInBounds_comm
def pq:=@Bool.and_eq_true
def kG:=@Bool.false_eq_true
def af2:=@Bool.not_eq_true'
def af9:=@Bool.not_true
def au6:=@Bool.or_eq_false_iff
def acN:=@Bool.or_eq_true
def Yu:=@Classical.axiomOfChoice
def acG:=@Classical.byContradiction
def lW:=@Int.eq_ofNat_of_zero_le
def af4:=@List.all_eq_true
def al0:=@List.any_eq_true
def Jd:=@List.append_assoc
def pV:=@List.append_nil
def OO:=@List.append_toArray
def af7:=@List.cons.injEq
def qV:=@List.cons_append
def afY:=@List.contains_cons
def au8:=@List.drop_succ_cons
def af1:=@List.ext_getElem?
def FY:=@List.filter_append
def af0:=@List.filter_congr
def acH:=@List.filter_cons_of_neg
def afW:=@List.filter_cons_of_pos
def alT:=@List.filter_eq_nil_iff
def UB:=@List.filter_filter
def ED:=@List.flatMap_append
def Ad:=@List.flatMap_cons
def UC:=@List.foldl_append
def Q8:=@List.getElem?_append_left
def OJ:=@List.getElem?_append_right
def Rf:=@List.getElem?_cons_succ
def Q9:=@List.getElem?_cons_zero
def gG:=@List.getElem?_eq_getElem
def kY:=@List.getElem?_eq_some_iff
def alV:=@List.getElem?_mapIdx
def afX:=@List.getElem?_set_ne
def alS:=@List.getElem?_set_self
def acI:=@List.getElem?_toArray
def UA:=@List.getElem_of_mem
def kZ:=@List.length_append
def Cc:=@List.length_cons
def AX:=@List.length_filter_le
def OW:=@List.length_map
def EF:=@List.length_nil
def Je:=@List.length_set
def Rh:=@List.length_take
def acM:=@List.map_append
def acK:=@List.map_congr_left
def uj:=@List.map_cons
def uA:=@List.map_nil
def acL:=@List.map_toArray
def yu:=@List.mem_append
def Yx:=@List.mem_append_left
def zA:=@List.mem_cons
def au5:=@List.mem_cons_of_mem
def EE:=@List.mem_filter
def Yv:=@List.mem_iff_getElem?
def Dz:=@List.mem_map
def iO:=@List.mem_of_getElem?
def au0:=@List.mem_or_eq_of_mem_set
def yQ:=@List.mem_singleton
def MQ:=@List.mem_toArray
def zy:=@List.nil_append
def Dy:=@List.not_mem_nil
def OV:=@List.push_toArray
def Yz:=@List.range_succ
def alU:=@List.set_append_right
def F7:=@List.size_toArray
def uz:=@List.take_add_one
def alZ:=@List.take_length
def xN:=@List.take_of_length_le
def al1:=@List.take_zero
def Jf:=@Nat.add_assoc
def acO:=@Nat.add_mul
def Rj:=@Nat.add_zero
def OT:=@Nat.eq_zero_or_pos
def MR:=@Nat.le_of_eq
def EG:=@Nat.le_of_lt
def fC:=@Nat.le_refl
def MS:=@Nat.le_succ
def MP:=@Nat.le_succ_of_le
def dX:=@Nat.le_trans
def OQ:=@Nat.lt_of_le_of_lt
def gZ:=@Nat.lt_of_lt_of_le
def YA:=@Nat.lt_or_ge
def agc:=@Nat.lt_trans
def af6:=@Nat.min_eq_left
def Yw:=@Nat.mul_le_mul_right
def aga:=@Nat.ne_of_lt
def UE:=@Nat.zero_add
def jQ:=@Nat.zero_le
def Uz:=@Option.bind_eq_bind
def FX:=@Option.bind_eq_some_iff
def iT:=@Option.getD_some
def EC:=@Option.map_eq_some_iff
def af5:=@Option.map_some
def Kz:=@Option.some.inj
def iR:=@Option.some.injEq
def Cb:=@Option.toList_some
def Ri:=@Prod.mk.injEq
def UF:=@and_true
def au7:=@beq_eq_false_iff_ne
def jV:=@congrArg
def jr:=@decide_eq_false
def au2:=@decide_eq_false_iff_not
def iC:=@decide_eq_true
def OU:=@decide_eq_true_eq
def jX:=@if_false
def Yy:=@of_decide_eq_true
def DC:=@or_false
def OX:=@true_and
theorem _root_.Go.RowKit.Hid.o{p:Prop}(h:RowKit.Hid p):p:=h
def _root_.Go.Calls.z:=@Calls.mono
theorem aj6{G:Program}{c:Code}{a:Act}{w:World}{P:Exit->Act->World->Prop}(h:∀Q0,RowKit.Hid (P=Q0)->c.wp G Q0 a w):c.wp G P a w:=h P rfl
theorem aQe{p:Prop}(h:p):RowKit.Hid p:=h
instance:Coe Nat (Option Addr):=⟨fun b=>some ⟨b,0,none⟩⟩
instance:Coe Nat Addr:=⟨fun b=>⟨b,0,none⟩⟩
instance(b o:Nat):CoeDep (Nat×Nat) (b,o) Addr:=⟨⟨b,o,none⟩⟩
instance(b o:Nat):CoeDep (Nat×Nat) (b,o) (Option Addr):=⟨some ⟨b,o,none⟩⟩
instance:Coe Int Value:=⟨.int .i64⟩
instance:Coe Bool Value:=⟨.bool⟩
instance:Coe Nat Value:=⟨fun n=>.int .i64 n⟩
instance:Coe World Nat:=⟨fun w=>w.heap.size⟩
instance{α}:CoeOut (List α) Nat:=⟨List.length⟩
instance{α}:CoeOut (Array α) Nat:=⟨Array.size⟩
instance:Coe Value Ending:=⟨.returned⟩
instance:Coe ByteArray Value:=⟨.string⟩
instance:CoeFun World fun _=>Addr->Option Value:=⟨World.cell?⟩
instance{p q:Prop}:Coe p (p\/q):=⟨.inl⟩
instance{p q:Prop}:Coe q (p\/q):=⟨.inr⟩
instance{p q:Prop}:CoeOut (p/\q) p:=⟨And.left⟩
instance{p q:Prop}:CoeOut (p/\q) q:=⟨And.right⟩
def aQ0:=@Go.ConcN.upd_same
def aQ1:=@Go.Goroutine.mk.injEq
def aQ2:=@Go.Conc.stepG_skip
def aQ3:=@Go.wp_mono
def aQ4:=@Go.ConcN.upd_ne
def aQ5:=@Go.Conc.getElem?_append_cases
def aQ6:=@Go.Conc.stepG_block
def aQ7:=@Go.Conc.stepG_ret'
def aQ8:=@Go.Conc.Goes.stop
def aQ9:=@Go.GStep.go.injEq
def aQP:=@Go.Conc.stepG_region_end
def aQQ:=@Go.Value.slice.injEq
def aQR:=@Go.Conc.mem_ofEvents
def aQS:=@Go.World.ownsRow_nil
def aQT:=@Go.Conc.stepG_seq
def aQU:=@Go.wpList_append_lies
def aQV:=@Go.World.cell?_alloc_past
def aQW:=@Go.Conc.mem_listed
def aQX:=@Go.info_parts
def aQY:=@Go.bodyPost_ret
def aQZ:=@Go.Conc.stepG_cond
def aR0:=@Go.Conc.g?_old
def aR1:=@Go.ChangeSpec.post_blind
def aR2:=@Go.toList_madeCells_one
def aR3:=@Go.wanted_put
def aR4:=@Go.wpList_plain
def aR5:=@Go.World.new_ne
def aRA:=@Go.Conc.stepG_exit
def aRB:=@Go.ConcR.loc_of_ofEvent
def aRC:=@Go.Lib.cell?_alloc_some
def aRD:=@Go.Machine.mk.injEq
def aRE:=@Go.wpList_store_mid
def aRF:=@Go.step_lone_ended
def aRG:=@Go.step_lone_go
def aRH:=@Go.Conc.touchAt_of
def aRI:=@Go.Conc.offersAt_parked_send
def aRJ:=@Go.Conc.stepG_markAt
def aRK:=@Go.events_append_where
def aRL:=@Go.Frame.mk.injEq
def aRM:=@Go.Conc.getElem?_stand
def aRN:=@Go.returnsInLeavingWide_of_good
def aRO:=@Go.Conc.stepG_mark0
def aRP:=@Go.Conc.goes_oper_k
def aRQ:=@Go.World.ownsRow_lit
def aRR:=@Go.Conc.stepG_load_atomic
def aRS:=@Go.events_store_chan
def aRT:=@Go.Conc.crowd_pick
def aRU:=@Go.ConcR.ofEvent_loc_mark
def aRV:=@Go.DataW.held.injEq
def aRW:=@Go.Sem.run_bind
def aRX:=@Go.run_append_lies
def aRY:=@Go.Conc.ofEvents_eq
def aRZ:=@Go.Conc.stepG_leave
def aRa:=@Go.Conc.Goes.cases
def aRb:=@Go.Conc.runT_crowd_go
def aRc:=@Go.ConcN.RW.refl
def aRd:=@Go.step_append_lies
def aRe:=@Go.Conc.aside_setCell
def aRf:=@Go.Conc.Deaf_other
def aRg:=@Go.Conc.Goes.running
def aRh:=@Go.Conc.events_convert_to_unsafe
def aRi:=@Go.Conc.Goes.rely
def aRj:=@Go.Conc.stepG_inBlock
def aRk:=@Go.World.size_alloc
def aRl:=@Go.DataW.trod_int
def aRm:=@Go.results_tmp
def aRn:=@Go.Stepped.next.injEq
def aRo:=@Go.run_convert_to_unsafe
def aRp:=@Go.events_indexAt_slice
def aRq:=@Go.Conc.touch_of
def aRr:=@Go.ConcR.Gen.events_store_slice
def aRs:=@Go.results_none
def aRt:=@Go.Conc.stepG_inLoop
def aRu:=@Go.Conc.mem_seen
def aRv:=@Go.Addr.mk.injEq
def aRw:=@Go.Value.int.injEq
def aRx:=@Go.Maps.keyOf_int_mk
def aRy:=@Go.run_underlying
def aRz:=@Go.Conc.stepG_loop
theorem YV{p:Prop}(h:p:=by omega):p:=h
theorem Zv{p:Prop}(h:p:=by grind):p:=h
theorem KG{p:Prop}(h:p:=by kernel_rfl):p:=h
theorem Xa{p:Prop}(h:p:=by decide):p:=h
theorem Xy{p:Prop}(h:p:=by simp):p:=h
theorem Xz{p:Prop}(h:p:=by simp<;>omega):p:=h
theorem Y0{p:Prop}(h:p:=by simp_all):p:=h
theorem Y4{p:Prop}(h:p:=by go_num):p:=h
theorem Y6{p:Prop}(h:p:=by exact λk w cs=>by simp[bQ,stepG.exec]):p:=h
theorem Y7{p:Prop}(h:p:=by simp[Value.oneCell']):p:=h
theorem aQp{p:Prop}(h:p:=by simp only[cZ];omega):p:=h
theorem aQq{p:Prop}(h:p:=by simp[go_sem]):p:=h
theorem aQr{p:Prop}(h:p:=by rfl):p:=h
theorem aQs{p:Prop}(h:p:=by go_simp<;>rfl):p:=h
theorem aQt{p:Prop}(h:p:=by go_simp):p:=h
theorem aQu{p:Prop}(h:p:=by exact λw cs=>by simp[bQ,stepG.exec]):p:=h
theorem aQv{p:Prop}(h:p:=by and_intros<;>kernel_rfl):p:=h
theorem aQw{p:Prop}(h:p:=by show(O y.L+1)*8<=2^47;omega):p:=h
theorem aQx{p:Prop}(h:p:=by grind [Fr.setCell,Fr.refl]):p:=h
theorem aQy{p:Prop}(h:p:=by simp[World.drewN]):p:=h
theorem aQz{p:Prop}(h:p:=by grind [World.news_of_block,heap_alloc_new]):p:=h
theorem aQA{p:Prop}(h:p:=by simp[MemAct.ofEvent]):p:=h
theorem aQB{p:Prop}(h:p:=by simp at h):p:=h
theorem aQC{p:Prop}(h:p:=by cases e):p:=h
theorem aQD{p:Prop}(h:p:=by k_ne):p:=h
theorem aQE{p:Prop}(h:p:=by simp[MemAct.ofEvent,MemAct.touch?]):p:=h
theorem aQF{p:Prop}(h:p:=by simp[World.drewN]<;>omega):p:=h
theorem aQG{p:Prop}(h:p:=by unfold World.freeze;grind):p:=h
theorem aQH{p:Prop}(h:p:=by unfold IntKind.wrap;simp[IntKind.bits,IntKind.signed]<;>omega):p:=h
theorem aQI{p:Prop}(h:p:=by rw[Addr.add_lit]at this;simpa using this):p:=h
theorem aQJ{p:Prop}(h:p:=by grind [Fr.cell]):p:=h
theorem aQL{p:Prop}(h:p:=by show(bH w _).heap[M (R w)]? =_;exact heap_alloc_new _ _):p:=h
theorem aQM{p:Prop}(h:p:=by simp[Value.ownBlock]):p:=h
theorem aQN{p:Prop}(h:p:=by exact λ_ _ _ _ _ _=>trivial):p:=h
theorem aQO{p:Prop}(h:p:=by grind [Hid.o]):p:=h
