import Derived.Test.YtkelpcjiediamaaGreatQb9
set_option maxRecDepth 100000
set_option maxHeartbeats 0
set_option linter.all false
namespace Go.Proofs.YtkelpcjiediamaaGreat
def aCl:=@Go.Conc.Goes.cases
def aCq:=@Go.Conc.aside_setCell
def aCK:=@Go.Conc.lt_size_of_getElem?
def aCU:=@Go.Conc.again_running
def aDh:=@Go.ConcR.ofEvent_loc_mark
def aDo:=@Go.Conc.g?_old
open Go renaming Goroutine→aX,TypeId→bW,Value→aj,World→ah,stepG→aW
open Option renaming none→af,some→ae
section
namespace eX
open Go Go.Conc Twin
open Go.ConcN (upd upd_same upd_ne WgLive PayAt Has RW DWs AtR0 AtK1 WSit WD CTag Vc cnt sumTo RelBy sumTo_upd sumTo_congr cell_of_block AsideCell)
open Go.ConcR (stA smA rd wr KK WgAt DC0 Payload)
section
variable{K:Type}{X:bn K}{t0:Trace}{ks:List K}{gs gs':Array aX}{w w':ah}{t:Trace}{d:Nat}{dW:Nat->Nat}{E:cO}{S0 G:aC}{Sw:Nat->aC}{q:Nat->Nat}
variable{es:Array Event}{fn:FuncId}{pos:String}{Wg k r:Nat}{u:Trace}
theorem bn.Base.ev0(h:X.Base t0 ks gs w t d dW E S0 G Sw q)(bD:ai.iZ X.bK w')(hs:w'.heap.size=w.heap.size)(pF:∀e∈es,(MemAct.ofEvent e).low w.heap.size/\MemAct.ofEvent e≠.mark (.release<|stA X.Wg)/\∀x,(MemAct.ofEvent e).touch?=ae x->ags X.Sh (kD X.gJ) (X.O Sw ks.length) (X.Rd ks) x)(dS:gs'.size=gs.size)(hold:∀i,0<i->i<X.m0->gs'[i]? =gs[i]?):
 X.Base t0 ks gs' w' (t++MemOp.ofEvents 0 fn pos es) (deafBehind d es) dW E S0 G Sw q:=by
 obtain⟨m1,m2,m3,m4,m5⟩:=h.more (w':=w') (u:=MemOp.ofEvents 0 fn pos es) (.inl rfl) ofEvents_g (AU hs.symm) (fun op aF=>by obtain⟨e,he,rfl⟩:=aB1 aF;rw[hs];exact(pF e he).1)
  (fun op aF=>by obtain⟨x,hx,rfl⟩:=aB1 aF;exact(pF x hx).2.1)
 refine⟨dS.trans h.size,h.pos,fun a g h0 ha hg=>?_,fun a ha=>m4 a<|dS▸ha,by rw[aCM,h.deaf0],fun a ha=>?_,h.mem.size hs,?_,m1,m2,m3,h.gz,bD⟩
 ·rw[m5 a<|by omega];exact h.old a g h0 ha (by rw[<-hold a h0 ha];exact hg)
 ·rw[m5 _ (by have:=h.pos;omega)];exact h.deafW a ha
 ·refine h.ti.app0 (h.mem.cls ⟨h.gz.1,h.gz.2.1,h.gz.2.2.1⟩) ofEvents_g fun op aF x hx=>?_;obtain⟨e,he,rfl⟩:=aB1 aF;exact(pF e he).2.2 x hx
theorem bn.Base.VZ(h:X.Base t0 ks gs w t d dW E S0 G Sw q){i:Nat}(hi:i<ks.length)(bD:ai.iZ X.bK w')(hs:w'.heap.size=w.heap.size)(pF:∀e∈es,(MemAct.ofEvent e).low w.heap.size/\MemAct.ofEvent e≠.mark (.release<|stA X.Wg)/\∀x,(MemAct.ofEvent e).touch?=ae x->aaK X.Sh (X.O Sw ks.length) (X.Rd ks) (X.m0+i) x)(dS:gs'.size=gs.size)(hold:∀i,0<i->i<X.m0->gs'[i]? =gs[i]?):
 X.Base t0 ks gs' w' (t++MemOp.ofEvents (X.m0+i) fn pos es) d (upd dW i<|deafBehind (dW i) es) E S0 G Sw q:=by
 have oJ:=h.pos;obtain⟨m1,m2,m3,m4,m5⟩:=h.more (w':=w') (u:=MemOp.ofEvents (X.m0+i) fn pos es) (.inr ⟨i,hi,rfl⟩) ofEvents_g (AU hs.symm) (fun op aF=>by obtain⟨e,he,rfl⟩:=aB1 aF;rw[hs];exact(pF e he).1)
  (fun op aF=>by obtain⟨x,hx,rfl⟩:=aB1 aF;exact(pF x hx).2.1)
 refine⟨dS.trans h.size,h.pos,fun a g h0 ha hg=>?_,fun a ha=>m4 a<|dS▸ha,by rw[m5 0<|by omega];exact h.deaf0,fun a ha=>?_,h.mem.size hs,?_,m1,m2,m3,h.gz,bD⟩
 ·rw[m5 a<|by omega];exact h.old a g h0 ha (by rw[<-hold a h0 ha];exact hg)
 ·by_cases e:a=i
  ·subst e;rw[aCM,h.deafW a ha,aB8]
  ·rw[m5 _<|by omega,aCa _ _ e];exact h.deafW a ha
 ·refine h.ti.appW (h.mem.cls ⟨h.gz.1,h.gz.2.1,h.gz.2.2.1⟩) (by omega) ⟨.cell ⟨X.C,i,af⟩,i,hi,rfl,.inr rfl⟩ ofEvents_g fun op aF x hx=>?_;obtain⟨e,he,rfl⟩:=aB1 aF;exact(pF e he).2.2 x hx
theorem uM.appOther{x:Nat}(h:uM Wg t k r)(hu:∀op∈u,op.g=x)(hx:x≠k):uM Wg (t++u) k r:=by
 refine⟨h.rel.appOther hu hx,fun i hi hg a ha=>?_⟩;obtain⟨op,aF,hog⟩:=yI.1 hg;rcases aCh aF with⟨aB,_⟩|⟨_,yz⟩
 ·exact h.after i hi (by rw[<-g?_old (u:=u) aB];exact hg) a (by rw[<-touchAt_old (u:=u) aB];exact ha)
 ·rw[hu op yz]at hog;exact absurd hog hx
theorem RelBy.vI{a:Addr}(h:RelBy a t k r)(hu:∀op∈u,op.act.touch?=af):RelBy a (t++u) k r:=by
 refine h.app fun i hi _ hc=>?_;obtain⟨x,hx,_⟩:=hc;have:=Gj hu hx;obtain⟨op,aF,_⟩:=aCH this;exact absurd (aCK aF)<|by omega
theorem uM.vI(h:uM Wg t k r)(hu:∀op∈u,op.act.touch?=af):uM Wg (t++u) k r:=by
 refine⟨RelBy.vI h.rel hu,fun i hi hg a ha=>?_⟩;have ha':=Gj hu ha;obtain⟨op,aF,_⟩:=aCH ha';have aB:=aCK aF;exact h.after i hi (by rw[<-g?_old (u:=u) aB];exact hg) a ha'
theorem uM.book{dd:Nat}(h:uM Wg t k r)(TK:Deaf t k=dd)(fn:FuncId)(pos:String)(pF:∀e∈es,Go.ConcR.Bk Wg e)
 (hd:∀j e,es[j]? =ae e->(MemAct.ofEvent e).touch?=af\/0<deafBehind dd (es.extract 0 j)):uM Wg (t++MemOp.ofEvents k fn pos es) k r:=by
 refine⟨h.rel.book TK fn pos pF hd,fun i hi hg a ha=>?_⟩;obtain⟨op,aF,uZ⟩:=aCH ha;rcases aCh aF with⟨aB,_⟩|⟨_,yz⟩
 ·exact h.after i hi (by rw[<-g?_old (u:=MemOp.ofEvents k fn pos es) aB];exact hg) a (by rw[<-touchAt_old (u:=MemOp.ofEvents k fn pos es) aB];exact ha)
 ·obtain⟨e,he,rfl⟩:=aB1 yz;rcases pF e he with h1|h1|⟨ad,wr,rfl,had⟩
  ·simp only[aDh h1]at uZ;cases uZ
  ·simp only[aDh h1]at uZ;cases uZ
  ·simp only[MemAct.ofEvent,MemAct.touch?,fJ]at uZ;subst uZ;exact⟨⟨ad,rfl,had⟩,by simp⟩
theorem uM.new(hd:Deaf t k=0)(fn:FuncId)(pos:String):uM Wg (t++MemOp.ofEvents k fn pos #[Go.ConcR.mk<|.releaseMerge<|stA Wg]) k t.size:=by
 refine⟨RelBy.new hd fn pos,fun i hi _ a ha=>?_⟩;obtain⟨op,aF,_⟩:=aCH ha;have:=aCK aF;rw[aDm]at this;simp at this;omega
theorem Ep.app{B m0 n:Nat}(h:Ep B Wg m0 n t)(hu:∀i r,i<n->uM Wg t (m0+i) r->uM Wg (t++u) (m0+i) r):Ep B Wg m0 n (t++u):=by
 obtain⟨q,h1,h2,h3,h4⟩:=h;have hq:=lt_of_act? h1;exact⟨q,by rw[act?_old hq];exact h1,by rw[aDo hq];exact h2,(heard_old hq).2 h3,fun i hi=>let ⟨r,hr,Mc,hb⟩:=h4 i hi;⟨r,hu i r hi hr,Mc,hb⟩⟩
end
section
variable [Payload]{K:Type}{X:bn K}{ty:bW}{n:Nat}{di:aX}{Anch:aX->ah->Prop}{Mid:aC->ah->Prop}{bT:K->List aj->aj->aC->ah->Prop}
 {t0:Trace}{ks:List K}{gs gs':Array aX}{w w':ah}{t:Trace}{tag:iR}{dW:Nat->Nat}{E:cO}{S0 G:aC}{Sw:Nat->aC}{q:Nat->Nat}{aU:Nat->List aj}{st:Nat->Nat}{D:Nat->T}{τ:T}{sl:Option (Nat×Nat)}
inductive T.vM:T->T->Prop where
 |one {a b} (h:T.Lt a b):T.vM a b
 |more {a b c} (h:T.Lt a b) (k:T.vM b c):T.vM a c
theorem T.aqj{a b:T}(h:T.vM b a):∃c,T.Lt c a/\(b=c\/T.vM b c):=by
 induction h with
 |one h=>exact⟨_,h,.inl rfl⟩
 |more h _ ih=>
  obtain⟨c,hc,TL⟩:=ih;refine⟨c,hc,.inr ?_⟩;rcases TL with rfl|TL
  ·exact .one h
  ·exact .more h TL
theorem T.aqk{x y z:T}(h:T.vM x y)(k:T.Lt y z):T.vM x z:=by
 induction h with
 |one h=>exact .more h<|.one k
 |more h _ ih=>exact .more h<|ih k
theorem T.aql(a:T):Acc T.vM a:=by
 have key:∀a,Acc T.Lt a->∀b,(b=a\/T.vM b a)->Acc T.vM b:=by
  intro a ha;induction ha with
  |intro a _ ih=>
   have below:∀b,T.vM b a->Acc T.vM b:=by
    intro b hb;have:=T.aqj hb;obtain⟨c,hc,TL⟩:=this;exact ih c hc b TL
   rintro b (rfl|hb)
   ·exact⟨_,below⟩
   ·exact below b hb
 exact key a (T.acc a) a<|.inl rfl
theorem T.agD:∀n,T.vM (T.nat 0) (T.nat<|n+1)
 |0=>.one<|T.II 0
 |n+1=>T.aqk (T.agD n)<|T.II<|n+1
theorem aqm{motive:Nat->(Nat->T)->T->Prop}(N:Nat)
 (h:∀A D τ,(∀A' D' nJ,A'<A->motive A' D' nJ)->(∀D' nJ,CX N D' D->motive A D' nJ)->(∀nJ,T.vM nJ τ->motive A D nJ)->motive A D τ):∀A D τ,motive A D τ:=by
 intro A;induction A using Nat.strongRecOn with
 |ind A Kz=>
  intro D;refine(CX.wf N).induction (C:=fun D=>∀τ,motive A D τ) D ?_;intro D QK τ
  have:=T.aql τ
  induction this with
  |intro τ _ KA=>exact h A D τ (fun A' D' nJ aB=>Kz A' aB D' nJ) (fun D' nJ hv=>QK D' hv nJ) KA
def ui(n:Nat)(tag:iR)(st:Nat->Nat):Nat:=tag.phi n (Vc n<|eY st)+sumTo n st
variable(X ty n di Anch Mid bT t0 ks aU)in
def bn.wR(gs:Array aX)(w:ah)(sl:Option (Nat×Nat))(t:Trace)(tag:iR)(st:Nat->Nat)(D:Nat->T)(τ:T)(x:Nat):Prop:=
 ∃gs1 w1 ops kE IP E1 S1 G1 uJ q1 DZ D1 ik,runT X.P (crowd gs w sl) x=(.next<|crowd gs1 w1 sl,ops)/\X.Inv2 ty n di Anch Mid bT t0 ks gs1 w1 (t++ops) kE IP E1 S1 G1 uJ q1 aU DZ D1 ik/\
  (ui n kE DZ<ui n tag st\/(ui n kE DZ<=ui n tag st/\(CX gs.size D1 D\/(D1=D/\T.vM ik τ))))
theorem agE(st:Nat->Nat)(i s:Nat):eY (upd st i s)=upd (eY st) i ⟨min s 7,0,0⟩:=by
 funext a;unfold eY upd;split<;>simp_all
theorem cnt_mono{x y:WD}(h:x.stage<=y.stage):cnt x<=cnt y:=by
 unfold cnt;by_cases h5:5<=x.stage
 ·rw[if_pos h5,if_pos<|by omega];exact bV _
 ·rw[if_neg h5];exact lK _
variable{i s:Nat}{iP:iR}
theorem agF(hi:i<n)(hs:s<st i)(ht:iP=tag\/(tag=.blk/\iP=.w3)):ui n iP (upd st i s)<ui n tag st:=by
 have h1:=sumTo_upd st s id hi;have h2:=Go.ConcN.Vc_upd (eY st) (⟨min s 7,0,0⟩:WD) hi;have h3:cnt (⟨min s 7,0,0⟩:WD)<=cnt (eY st i):=
  cnt_mono (show min s 7<=min (st i) 7 by omega)
 rw[<-agE]at h2;have h4:iP.phi n (Vc n<|eY<|upd st i s)<=tag.phi n (Vc n<|eY st):=by
  rcases ht with rfl|⟨rfl,rfl⟩
  ·cases iP<;>simp only[iR.phi]<;>omega
  ·exact bV _
 simp only[id]at h1;unfold ui;have e:sumTo n (fun a=>upd st i s a)=sumTo n (upd st i s):=rfl;have e':sumTo n (fun a=>st a)=sumTo n st:=rfl;omega
theorem aqn(ht:iP=tag\/(tag=.blk/\iP=.w3)):ui n iP (upd st i<|st i)<=ui n tag st:=by
 have e:upd st i (st i)=st:=by funext a;unfold upd;split<;>simp_all
 rw[e];rcases ht with rfl|⟨rfl,rfl⟩<;>exact bV _
theorem bn.Inv2.workerStep(F:X.Fit)(hA:∀g w,Anch g w->g.status=.running)(hE:di.status=.running)(nK:∀(i:Nat) (k:K),ks[i]? =ae k->∀l S g w,X.Fin k l S g w->∃v,X.zX ty n i v g w/\bT k l v S w)(pR:∀k l v S w w1,bT k l v S w->aQ S (X.side k) w w1->bT k l v S w1)
 (h:X.Inv2 ty n di Anch Mid bT t0 ks gs w t tag dW E S0 G Sw q aU st D τ){k:K}(hk:ks[i]? =ae k){g g':aX}{es:Array Event}(hg:gs[X.m0+i]? =ae g)(hgo:aW X.P false g w=.go g' w' es){dd:Nat}{S1:aC}{σ:T}
 (hb:X.Base t0 ks ((gs.map<|woken X.P g g' w').setIfInBounds (X.m0+i) g') w' (t++MemOp.ofEvents (X.m0+i) g.frame.fn g.frame.place es) tag.deaf (upd dW i dd) E S0 G (upd Sw i S1) q)
 (k0:aQ S0 E w w')(rl:RL ty X.Wg w w')(kW:∀i' k',i'≠i->ks[i']? =ae k'->aQ (Sw i') (X.side k') w w')(rw_:∀i',i'≠i->RW ty X.Wg X.C n 0 i' w w')(QS:∀b,(b=X.ov\/∃k∈ks,b=X.ch k)->w'.heap[b]? =w.heap[b]?)
 (hs:X.xM ty n bT i k (aU i) S1 s σ dd g' w')(pay:PayAt X.C n w')(bH:∀iP,(iP=tag\/(tag=.blk/\iP=.w3))->(mayWake X.P g=true->g'.status=.running->iP≠.blk)->∃a b,WgAt ty X.Wg w' a b/\Go.ConcN.Mode n (eY<|upd st i s) iP.c a b)
 (rel:s<=6->∃r,uM X.Wg (t++MemOp.ofEvents (X.m0+i) g.frame.fn g.frame.place es) (X.m0+i) r/\t0.size<=r)(acq:tag=.ret->Ep t0.size X.Wg X.m0 n (t++MemOp.ofEvents (X.m0+i) g.frame.fn g.frame.place es))
 (lt:s<st i\/(s=st i/\T.Lt σ (D<|X.m0+i))):X.wR ty n di Anch Mid bT t0 ks aU gs w sl t tag st D τ (X.m0+i):=by
 have hi:i<ks.length:=(dD.1 hk).1;have oJ:=h.base.pos;have aB:X.m0+i<gs.size:=by rw[h.base.size];omega
 have pq:(X.m0+i==0)=false:=by simp<;>omega
 obtain⟨a,ha,hm⟩:=h.main;obtain⟨iP,nJ,BU,acV,hwk⟩:=hm.woken hA hE k0 rl g g';have hr:=aCn (P:=X.P) (sl:=sl) (i:=X.m0+i) hg (by rw[pq];exact hgo);have Es:iP=tag\/(tag=.blk/\iP=.w3):=acV.imp (·.1) id;have acX:iP.deaf=tag.deaf:=by rcases Es with rfl|⟨rfl,rfl⟩<;>rfl
 obtain⟨wa,wb,vg,uy⟩:=bH iP Es hwk;refine⟨_,w',_,iP,upd dW i dd,E,S0,G,upd Sw i S1,q,upd st i s,upd D (X.m0+i) σ,nJ,hr,⟨acX.symm▸hb,h.len,h.KH,⟨_,by rw[gu<|by omega,wH,ha];rfl,BU⟩,fun i' k' dC=>?_,fun j h0 h1=>by rw[aCa _ _<|by omega];exact h.old j h0 h1,fun κ jd=>?_,?_,⟨wa,wb,vg,uy⟩,pay,fun i' lW bU=>?_,fun e=>?_⟩,?_⟩
 ·by_cases e:i'=i
  ·subst e;rw[hk]at dC;cases dC;exact⟨g',by rw[rO<|by simpa using aB],by rw[aB8,aB8,aB8,aB8];exact hs⟩
  ·obtain⟨x,hx,Ph⟩:=h.work i' k' dC;have bU:=Ph.status F fun S g w y=>let ⟨_,z,_⟩:=nK i' k' dC _ S g w y;z.run;refine⟨x,?_,?_⟩
   ·rw[gu<|by omega,wH,hx];simp only[FB,fJ];unfold Go.Conc.woken;split
    ·exact aCU _ (bU.imp id (·.1))
    ·rfl
   ·rw[aCa Sw _ e,aCa st _ e,aCa dW _ e,aCa D _<|by omega];exact Ph.rely pR (kW i' k' e dC)<|rw_ i' e
 ·obtain⟨s',r',hc⟩:=h.qM κ jd;exact⟨s',r',by rw[QS _<|.inr ⟨κ,jd,rfl⟩];exact hc⟩
 ·obtain⟨cap,s',r',hc⟩:=h.over;exact⟨cap,s',r',by rw[QS _<|.inl rfl];exact hc⟩
 ·by_cases e:i'=i
  ·subst e;rw[aB8]at bU;exact rel bU
  ·rw[aCa _ _ e]at bU;obtain⟨r,hr,hb⟩:=h.rel i' lW bU;exact⟨r,hr.appOther ofEvents_g<|by omega,hb⟩
 ·rcases Es with rfl|⟨_,rfl⟩
  ·exact acq e
  ·cases e
 ·have eF:i<n:=h.len▸hi;rcases lt with hl|⟨rfl,hl⟩
  ·exact .inl<|agF eF hl Es
  ·exact .inr ⟨aqn Es,.inl ⟨X.m0+i,aB,by rw[aB8];exact hl,fun j hj=>aCa _ _ hj⟩⟩
end
end eX
end
section
namespace eX
open Go Go.Conc Twin
open Go.ConcN (upd upd_same upd_ne WgLive PayAt Has RW DWs AtR0 AtK1 WSit WD CTag Vc cnt sumTo RelBy sumTo_upd sumTo_congr cell_of_block AsideCell)
open Go.ConcR (stA smA rd wr KK WgAt DC0 Payload)
section
variable [Payload]{K:Type}{X:bn K}{ty:bW}{n:Nat}{di:aX}{Anch:aX->ah->Prop}{Mid:aC->ah->Prop}{bT:K->List aj->aj->aC->ah->Prop}
 {t0:Trace}{ks:List K}{gs:Array aX}{w w':ah}{t:Trace}{tag:iR}{dW:Nat->Nat}{E:cO}{S0 G:aC}{Sw:Nat->aC}{q:Nat->Nat}{aU:Nat->List aj}{st:Nat->Nat}{D:Nat->T}{τ:T}{sl:Option (Nat×Nat)}
theorem QT{α:Type}(f:Nat->α)(i:Nat):upd f i (f i)=f:=by funext a;unfold upd;split<;>simp_all
variable{i:Nat}{a b:Int}
theorem NV{s:Nat}{c:CTag}(hs:min s 7=min (st i) 7)(h:Go.ConcN.Mode n (eY st) c a b):Go.ConcN.Mode n (eY<|upd st i s) c a b:=by
 refine h.congr fun x _=>?_;show min (upd st i s x) 7=min (st x) 7;by_cases e:x=i
 ·subst e;rw[aB8];exact hs
 ·rw[aCa _ _ e]
theorem NW{iP:iR}{D:Nat->WD}(h:Go.ConcN.Mode n D tag.c a b)(ht:iP=tag\/(tag=.blk/\iP=.w3)):Go.ConcN.Mode n D iP.c a b:=by
 refine h.retag ?_;rcases ht with rfl|⟨rfl,rfl⟩
 ·exact .inl rfl
 ·exact .inr ⟨rfl,rfl⟩
theorem agG(h:tag=.ret):tag.c=.ret:=by rw[h];rfl
theorem agH(hW:w'.heap[X.Wg]? =w.heap[X.Wg]?)(hC:w'.heap[X.C]? =w.heap[X.C]?)(i:Nat):RW ty X.Wg X.C n 0 i w w':=
 ⟨fun _ hb=>absurd hb<|Nat.not_lt_zero _,fun⟨a,b,h⟩=>⟨a,b,h.of_block hW⟩,fun⟨c,h1,h2⟩=>⟨c,hC.trans h1,h2⟩,cell_of_block hC i⟩
theorem agI(hW:w'.heap[X.Wg]? =w.heap[X.Wg]?):RL ty X.Wg w w':=fun⟨a,b,h⟩=>⟨a,b,h.of_block hW⟩
theorem V4(hC:w'.heap[X.C]? =w.heap[X.C]?)(h:PayAt X.C n w):PayAt X.C n w':=let ⟨c,h1,h2⟩:=h;⟨c,hC.trans h1,h2⟩
theorem bn.Base.aside{d:Nat}(h:X.Base t0 ks gs w t d dW E S0 G Sw q){b:Nat}(hb:X.Sp ks b)(hE:¬E.ro b)(hA:Aside b w w'):aQ S0 E w w'/\∀i k,ks[i]? =ae k->aQ (Sw i) (X.side k) w w':=by
 obtain⟨n0,_,nW,nR⟩:=h.QO hb;exact⟨⟨hA.tape,hA.os,hA.output,AU hA.size.symm,fun x hx=>hA.block x fun e=>n0<|e▸hx,fun x hx=>hA.block x fun e=>hE<|e▸hx⟩,
  fun i k hk=>⟨hA.tape,hA.os,hA.output,AU hA.size.symm,fun x hx=>hA.block x fun e=>nW i (dD.1 hk).1<|e▸hx,fun x hx=>hA.block x fun e=>nR i k hk<|e▸hx⟩⟩
theorem bn.Inv2.at(h:X.Inv2 ty n di Anch Mid bT t0 ks gs w t tag dW E S0 G Sw q aU st D τ)(pR:∀k l v S w w1,bT k l v S w->aQ S (X.side k) w w1->bT k l v S w1)(d:Nat):X.Inv2 ty n di Anch Mid bT t0 ks gs (w.at d) t tag dW E S0 G Sw q aU st D τ:=
 ⟨h.base.at d,h.len,h.KH,let ⟨a,ha,hm⟩:=h.main;⟨a,ha,hm.rely (aQ.at _ _ _ _) id⟩,fun i k hk=>let ⟨g,hg,hs⟩:=h.work i k hk;⟨g,hg,hs.rely pR (aQ.at _ _ _ _)<|RW.at w d⟩,h.old,h.qM,h.over,h.wg,h.pay,h.rel,h.acq⟩
theorem aqo{Wg:Nat}(hW:X.Wg=Wg){e:Event}(h:Go.ConcR.Bk Wg e){B:Nat}(hB:Wg<B)(n' k:Nat):(MemAct.ofEvent e).low B/\MemAct.ofEvent e≠.mark (.release<|stA X.Wg)/\∀x,(MemAct.ofEvent e).touch?=ae x->aaK X.Sh (X.O Sw n') (X.Rd ks) k x:=by
 subst hW;obtain⟨loc,wr,sy⟩:=e;rcases h with h|h|⟨a,wr',h,ha⟩
 ·simp only at h;subst h;exact⟨trivial,by simp[MemAct.ofEvent],by simp[MemAct.ofEvent,MemAct.touch?]⟩
 ·simp only at h;subst h;exact⟨trivial,by simp[MemAct.ofEvent],by simp[MemAct.ofEvent,MemAct.touch?]⟩
 ·cases h;refine⟨show a.block<B by omega,by simp[MemAct.ofEvent],fun x hx=>?_⟩;simp only[MemAct.ofEvent,MemAct.touch?,fJ]at hx;subst hx;exact .inl ⟨.inl ⟨a,rfl,ha⟩,by simp,by simp⟩
theorem bn.Inv2.aqp(F:X.Fit)(QU:∀k l v S w,bT k l v S w->∀B:ai.bP,(∀b,B.bK b->¬S b)->ai.az B v)(hA:∀g w,Anch g w->g.status=.running)(hE:di.status=.running)(nK:∀(i:Nat) (k:K),ks[i]? =ae k->∀l S g w,X.Fin k l S g w->∃v,X.zX ty n i v g w/\bT k l v S w)(pR:∀k l v S w w1,bT k l v S w->aQ S (X.side k) w w1->bT k l v S w1)
 (h:X.Inv2 ty n di Anch Mid bT t0 ks gs w t tag dW E S0 G Sw q aU st D τ){k:K}(hk:ks[i]? =ae k){g:aX}(hg:gs[X.m0+i]? =ae g)(bU:8<=st i):X.wR ty n di Anch Mid bT t0 ks aU gs w sl t tag st D τ (X.m0+i):=by
 have hi:i<ks.length:=(dD.1 hk).1;have eF:i<n:=h.len▸hi;have oJ:=h.base.pos;have aB:X.m0+i<gs.size:=by rw[h.base.size];omega
 have pq:(X.m0+i==0)=false:=by simp<;>omega
 have oI:=fD hk;obtain⟨wa,wb,bH,jO⟩:=h.wg;have TA:tag≠.ret:=fun e=>by
  have h7:(eY st i).stage=7:=Nat.min_eq_right (by omega);exact jO.not_ret eF (by rw[h7];omega)<|agG e
 obtain⟨x,hx,hs⟩:=h.work i k hk;rw[hg]at hx;cases hx;have own:∀{g':aX} {w2:ah} {es:Array Event} {σ:T},aW X.P false g w=.go g' w2 es->iO (Sw i) (X.side k) w w2 es->X.xM ty n bT i k (aU i) (grow (Sw i) w w2) (st i) σ (dW i) g' w2->T.Lt σ (D<|X.m0+i)->X.wR ty n di Anch Mid bT t0 ks aU gs w sl t tag st D τ (X.m0+i):=by
  intro g' w2 es σ hgo hG axJ hl;obtain⟨k0,kW,kS⟩:=h.base.aaO hk hG;have Cb:=kS X.Wg<|.inl rfl;have EZ:=kS X.C<|.inr<|.inl rfl;refine h.workerStep F hA hE nK pR hk hg hgo (dd:=dW i) (s:=st i) (S1:=grow (Sw i) w w2) (σ:=σ) ?_ k0 (agI Cb) kW (fun i' _=>agH Cb EZ i') (fun b hb=>kS b<|hb.elim (fun e=>.inr<|.inr<|.inl e) fun e=>.inr<|.inr<|.inr e) axJ (V4 EZ h.pay) (fun iP ht _=>⟨wa,wb,bH.of_block Cb,NW (NV rfl jO) ht⟩) (fun h6=>by omega) (fun e=>absurd e TA)<|.inr ⟨rfl,hl⟩;rw[QT];exact h.base.stepW hk hG (by simp)<|h.base.IK g g' w2 g'<|.inr<|by omega
 have told:∀{g0:aX} {z0 z1:aj} {sh:CommShape},X.rC k (aU i) (Sw i) g0 z0 z1 sh w->aW X.P false g w=.comm g0 (X.cs k z0 z1) true sh w #[]->st i=9->dW i=0->X.wR ty n di Anch Mid bT t0 ks aU gs w sl t tag st D τ (X.m0+i):=by
  intro g0 z0 z1 sh hW jk h9 hd0;obtain⟨s,r,hc⟩:=h.qM k oI;obtain⟨cap,s',r',ho⟩:=h.over;have qc:∀c,partners (gs.setIfInBounds (X.m0+i) ph) c true=[]:=fun c=>partners_nil fun j y hy=>by
   rcases aC8 gs _ j y hy with⟨_,rfl⟩|⟨_,hy⟩
   ·rfl
   ·rcases h.base.Eo hy with rfl|⟨h1,h2⟩|⟨i',k',rfl,dC⟩
    ·obtain⟨a,ha,hm⟩:=h.main;rw[hy]at ha;cases ha;rcases hm.status hA hE with⟨hs,_⟩|⟨_,g1,rfl,_,ho⟩
     ·exact aCc (by rw[hs];simp) _ _
     ·unfold offersAt;simp only[ho]
    ·rcases(h.base.old j y h1 h2 hy).status with hs|hs<;>exact aCc (by rw[hs];simp) _ _
    ·obtain⟨y',Jz,hs⟩:=h.work i' k' dC;rw[hy]at Jz;cases Jz;rcases hs.status F (fun S g w z=>let ⟨_,u,_⟩:=nK i' k' dC _ S g w z;u.run)with hs|⟨hs,_⟩<;>exact aCc (by rw[hs];simp) _ _
  have hr:=crowd_sel_recv_closed (P:=X.P) (sl:=sl) (i:=X.m0+i) (w:=w) (w₁:=w) (k:=1) (c:=X.ov) (z:=z1) hg (by rw[pq];exact jk) (by simp[bn.cs]) (fun m c' hm yu=>by
   match m,hm,yu with
   |0,_,yu=>simp[bn.cs]at yu;subst yu;exact aC9 hc<|qc _
   |1,hm,_=>exact absurd rfl hm
   |m+2,_,yu=>simp[bn.cs]at yu) ho (qc _)
  obtain⟨σ,hσ⟩:=IJ hW.over;have zA:X.ov<w.heap.size:=h.base.mem.low _<|.inr<|.inr<|.inl rfl;have hq:aaQ X.Wg w.heap.size (MemOp.ofEvents (X.m0+i) g.frame.fn g.frame.place #[]++ #[{g:=X.m0+i,fn:=g0.frame.fn,pos:=g0.frame.place,act:=.recvClosed X.ov}]):=by
   intro op aF;rcases Ia.1 aF with aF|aF
   ·exact QP _ _ _ _ _ op aF
   ·simp only[rP,jC,oN,oO]at aF;subst aF;exact⟨rfl,zA,by simp,by simp,by simp⟩
  refine⟨_,w,_,tag,dW,E,S0,G,Sw,q,upd st i 8,upd D (X.m0+i) σ.more,τ,hr,⟨h.base.quiet h.base.oV rfl hq (by simp) fun j h0 h1=>by rw[gu<|by omega],h.len,h.KH,?_,fun i' k' dC=>?_,fun j h0 h1=>by rw[aCa _ _<|by omega];exact h.old j h0 h1,h.qM,h.over,⟨wa,wb,bH,NV (by omega) jO⟩,h.pay,fun i' lW h6=>?_,fun e=>absurd e TA⟩,.inl<|agF eF (by omega)<|.inl rfl⟩
  ·obtain⟨a,ha,hm⟩:=h.main;exact⟨a,by rw[gu<|by omega];exact ha,hm⟩
  ·by_cases e:i'=i
   ·subst e;rw[hk]at dC;cases dC;refine⟨_,by rw[rO aB],?_⟩;rw[aB8,aB8,hd0];exact .fin hσ
   ·obtain⟨y,hy,hs⟩:=h.work i' k' dC;exact⟨y,by rw[gu<|by omega];exact hy,by rw[aCa st _ e,aCa D _<|by omega];exact hs⟩
  ·by_cases e:i'=i
   ·subst e;rw[aB8]at h6;omega
   ·rw[aCa _ _ e]at h6;obtain⟨r,hr,hb⟩:=h.rel i' lW h6;exact⟨r,hr.vI fun op aF=>(hq op aF).1,hb⟩
 generalize hD:D (X.m0+i)=σ at hs;generalize EW:st i=s at hs;generalize Bj:dW i=dd at hs;cases hs with
 | @run σ _ _ hT=>
   cases σ with
   |step f=>
    obtain⟨g',w2,es,hgo,hG,Au⟩:=hT.2 w<|aQ.refl _ _ _;exact own hgo hG (by rw[EW,Bj];exact .run Au) (by rw[hD];exact T.QJ<|.mk f w)
   |stop=>
    obtain⟨z0,z1,sh,hW⟩:=F _ _ _ _ _<|hT w<|aQ.refl _ _ _;exact told hW (hW.step w<|aQ.refl _ _ _) EW Bj
 | @KG g0 z0 z1 sh _ hW=>
   refine told hW ?_ EW Bj;rw[stepG_tries];have:({g0 with status:=.running}:aX)=g0:=by
    have:=hW.run;obtain⟨fr,cs,sx,dy,of⟩:=g0;simp only at this;subst this;rfl
   rw[this];exact hW.step w<|aQ.refl _ _ _
 | @fin σ _ _ hT=>
   cases σ with
   |step f=>
    obtain⟨g',w2,es,hgo,hG,Au⟩:=hT.2 w<|aQ.refl _ _ _;exact own hgo hG (by rw[EW,Bj];exact .fin Au) (by rw[hD];exact T.QJ<|.mk f w)
   |stop=>
    obtain⟨v,dM,tq⟩:=nK i k hk _ _ _ _<|hT w<|aQ.refl _ _ _;obtain⟨g',hgo,m,axL⟩:=dM.st ⟨_,_,bH⟩ h.pay;have V5:Aside X.C w (w.setCell ⟨X.C,i,af⟩ v):=aCq w ⟨X.C,i,af⟩ v;have hCE:¬E.ro X.C:=(h.base.QO (b:=X.C)<|.inr<|.inl rfl).2.1<|iI h.base.gz.1;obtain⟨k0,kW⟩:=h.base.aside (.inr<|.inl rfl) hCE V5;have Cb:=V5.block X.Wg h.base.gz.1;obtain⟨c,oH,kM⟩:=h.pay;have hC':(w.setCell ⟨X.C,i,af⟩ v).heap[X.C]? =ae (.cells (c.setIfInBounds i v) Payload.ety):=by
     unfold World.setCell;simp[ale,oH]
    have hcell:∀i',i'≠i->(w.setCell ⟨X.C,i,af⟩ v).cell? ⟨X.C,i',af⟩=w.cell? ⟨X.C,i',af⟩:=fun i' e=>by
     unfold World.cell?;simp only[hC',oH];simp[gu<|iI e]
    have E5:PayAt X.C n (w.setCell ⟨X.C,i,af⟩ v):=⟨_,hC',by simpa using kM⟩;refine h.workerStep F hA hE nK pR hk hg hgo (dd:=0) (s:=7) (S1:=Sw i) (σ:=T.nat m) ?_ k0 (agI Cb) (fun i' k' _ dC=>kW i' k' dC) (fun i' e=>⟨fun b hb=>absurd hb<|Nat.not_lt_zero _,fun⟨a,b,h⟩=>⟨a,b,h.of_block Cb⟩,fun _=>E5,hcell i' e⟩) (fun b hb=>V5.block b ?_) (.done axL<|pR _ _ _ _ _ _ tq<|kW i k hk) E5 (fun iP ht _=>⟨wa,wb,bH.of_block Cb,NW (NV (by omega) jO) ht⟩) (by omega) (fun e=>absurd e TA)<|.inl<|by omega
    ·have Hm:=h.base.VZ (w':=w.setCell ⟨X.C,i,af⟩ v) (gs':=(gs.map<|woken X.P g g'<|w.setCell ⟨X.C,i,af⟩ v).setIfInBounds (X.m0+i) g') (i:=i) (es:=#[⟨.cell ⟨X.C,i,af⟩,true,false⟩]) (fn:=g.frame.fn) (pos:=g.frame.place) hi (h.base.oV.setCell<|QU _ _ _ _ _ tq _ fun b hb z=>hb.elim (fun y=>y.elim (h.base.mem.kU i hi b z).2.2.2.1 fun e=>(h.base.mem.kU i hi b z).2.2.1<|.inl e) fun y=>Nat.not_lt.2 y (h.base.mem.kU i hi b z).1) V5.size (by
      intro e he;simp only[rP,jC,oN,oO]at he;subst he;refine⟨h.base.mem.low _<|.inr<|.inl rfl,by simp[MemAct.ofEvent],fun x hx=>?_⟩;simp only[MemAct.ofEvent,MemAct.touch?,fJ]at hx;subst hx;exact .inr<|.inl ⟨i,hi,rfl,.inr rfl⟩) (by simp) (h.base.IK g g' _ g'<|.inr<|by omega)
     rw[QT];have e0:deafBehind (dW i) #[⟨.cell ⟨X.C,i,af⟩,true,false⟩]=0:=by rw[Bj];rfl
     rw[e0]at Hm;exact Hm
    ·rcases hb with rfl|⟨κ,jd,rfl⟩
     ·exact iI h.base.gz.2.2.1
     ·exact(h.base.gz.2.2.2.1 κ jd).2.1
 |done _ _=>omega
 |fQ hl h6 _ _=>omega
end
end eX
end
section
namespace eX
open Go Go.Conc Twin
open Go.ConcN (upd upd_same upd_ne WgLive PayAt Has RW DWs AtR0 AtK1 WSit WD CTag Vc cnt sumTo RelBy sumTo_upd sumTo_congr cell_of_block AsideCell le_sumTo bk_cell Vc_upd Vc_le others_uncounted)
open Go.ConcR (stA smA rd wr KK WgAt DC0 Payload Bk)
section
variable [Payload]{K:Type}{X:bn K}{ty:bW}{n:Nat}{di:aX}{Anch:aX->ah->Prop}{Mid:aC->ah->Prop}{bT:K->List aj->aj->aC->ah->Prop}
 {t0:Trace}{ks:List K}{gs:Array aX}{w w':ah}{t:Trace}{tag:iR}{dW:Nat->Nat}{E:cO}{S0 G:aC}{Sw:Nat->aC}{q:Nat->Nat}{aU:Nat->List aj}{st:Nat->Nat}{D:Nat->T}{τ:T}{sl:Option (Nat×Nat)}
theorem aqs{i:Nat}(h:st i<=7):(eY st i).stage=st i:=adM h
theorem QV{i s:Nat}(h:s<=7):eY (upd st i s)=upd (eY st) i ⟨s,0,0⟩:=by rw[agE,adM h]
theorem bn.Inv2.aqt(F:X.Fit)(hA:∀g w,Anch g w->g.status=.running)(hE:di.status=.running)(nK:∀(i:Nat) (k:K),ks[i]? =ae k->∀l S g w,X.Fin k l S g w->∃v,X.zX ty n i v g w/\bT k l v S w)(pR:∀k l v S w w1,bT k l v S w->aQ S (X.side k) w w1->bT k l v S w1)(hn:n<2147483648)
 (h:X.Inv2 ty n di Anch Mid bT t0 ks gs w t tag dW E S0 G Sw q aU st D τ){i:Nat}{k:K}(hk:ks[i]? =ae k){g:aX}(hg:gs[X.m0+i]? =ae g)(bU:st i<=7)(fU:g.status=.running):X.wR ty n di Anch Mid bT t0 ks aU gs w sl t tag st D τ (X.m0+i):=by
 have hi:i<ks.length:=(dD.1 hk).1;have eF:i<n:=h.len▸hi;have oJ:=h.base.pos;have agJ:X.Wg<w.heap.size:=h.base.mem.low _<|.inl rfl;have hCW:X.C≠X.Wg:=iI h.base.gz.1;obtain⟨wa,wb,bH,jO⟩:=h.wg;obtain⟨x,hx,hs⟩:=h.work i k hk;rw[hg]at hx;cases hx;have D5:=aqs bU;generalize hD:D (X.m0+i)=σ at hs;generalize x8:st i=s at hs D5 bU;generalize Bj:dW i=dd at hs;have TK:Deaf t (X.m0+i)=dd:=by rw[h.base.deafW i hi,Bj]
 have nr:s≠1->tag≠.ret:=fun h1 e=>jO.not_ret eF (by rw[D5];exact h1)<|agG e;have aki:∀{v:aj} {m:Nat},bT k (aU i) v (Sw i) w->Has X.C i v w->σ=T.nat m->s<=6->∀{g':aX} {w2:ah} {es:Array Event} {s' m' Md:Nat} {a b:Int},aW X.P false g w=.go g' w2 es->Aside X.Wg w w2->WgAt ty X.Wg w2 a b->(∀e∈es,Bk X.Wg e)->
  (∀jx e,es[jx]? =ae e->(MemAct.ofEvent e).touch?=af\/0<deafBehind dd (es.extract 0 jx))->WSit X.P ty X.Wg X.C n Bl Bl 0 (i+1) v s' m' Md g' w2->deafBehind dd es=Md->s'<=6->
  (∀iP,(iP=tag\/(tag=.blk/\iP=.w3))->(mayWake X.P g=true->g'.status=.running->iP≠.blk)->Go.ConcN.Mode n (eY<|upd st i s') iP.c a b)->(tag=.ret->Ep t0.size X.Wg X.m0 n (t++MemOp.ofEvents (X.m0+i) g.frame.fn g.frame.place es))->(s'<s\/(s'=s/\m'+1=m))->
  X.wR ty n di Anch Mid bT t0 ks aU gs w sl t tag st D τ (X.m0+i):=by
  intro v m tq Pj hσ h6 g' w2 es s' m' Md a b hgo JA zB Me hd sZ hdd h6' TM ac0 aB;obtain⟨k0,kW⟩:=h.base.aside (.inl rfl) h.KH JA;have EZ:=JA.block X.C hCW;refine h.workerStep F hA hE nK pR hk hg hgo (dd:=Md) (s:=s') (S1:=Sw i) (σ:=T.nat m') ?_ k0 (fun _=>⟨_,_,zB⟩) (fun i' k' _ dC=>kW i' k' dC) (fun i' _=>RW.of_wg JA ⟨_,_,zB⟩ hCW) (fun b hb=>JA.block b ?_) (.fQ sZ h6' (pR _ _ _ _ _ _ tq<|kW i k hk)<|(cell_of_block EZ i).trans Pj) (V4 EZ h.pay) (fun iP h1 h2=>⟨a,b,zB,TM iP h1 h2⟩) (fun _=>?_) ac0 ?_
  ·have hb:=h.base.VZ (w':=w2) (gs':=(gs.map<|woken X.P g g' w2).setIfInBounds (X.m0+i) g') (i:=i) (es:=es) (fn:=g.frame.fn) (pos:=g.frame.place) hi (aaM h.base.oV JA) JA.size (fun e he=>aqo rfl (Me e he) agJ _ _) (by simp) (h.base.IK g g' _ g'<|.inr<|by omega);rw[QT];rw[Bj,hdd]at hb;exact hb
  ·rcases hb with rfl|⟨κ,jd,rfl⟩
   ·exact iI h.base.gz.2.1
   ·exact(h.base.gz.2.2.2.1 κ jd).1
  ·obtain⟨r,hr,hb⟩:=h.rel i eF (by omega);exact⟨r,hr.book TK _ _ Me hd,hb⟩
  ·rcases aB with aB|⟨rfl,rfl⟩
   ·exact .inl<|by omega
   ·exact .inr ⟨x8.symm,by rw[hD,hσ];exact T.II m'⟩
 cases hs with
 |run=>omega
 |KG=>omega
 |fin=>omega
 | @done v m _ _ tu tq=>
   rcases aCl tu with mQ|⟨m',rfl,jk⟩
   ·obtain⟨_,aqu,g',hgo,m₂,aI⟩:=mQ w<|aCp w;refine h.workerStep F hA hE nK pR hk hg hgo (dd:=0) (s:=6) (S1:=Sw i) (σ:=T.nat m₂) ?_ (aQ.refl _ _ _) id (fun _ _ _ _=>aQ.refl _ _ _) (fun _ _=>aCp w) (fun _ _=>rfl) (.fQ (.k1 aI) (by omega) tq<|by simpa using aqu) h.pay (fun iP ht _=>⟨wa,wb,bH,?_⟩) (fun _=>⟨t.size,uM.new TK _ _,let ⟨u,hu,_⟩:=h.base.base;by rw[hu];simp⟩) (fun e=>absurd e<|nr<|by omega) (.inl<|by omega)
    ·have hb:=h.base.VZ (w':=w) (gs':=(gs.map<|woken X.P g g' w).setIfInBounds (X.m0+i) g') (i:=i) (es:=#[Go.ConcR.mk<|.releaseMerge<|stA X.Wg]) (fn:=g.frame.fn) (pos:=g.frame.place) hi h.base.oV rfl (by
      intro e he;simp only[rP,jC,oN,oO]at he;subst he;exact⟨agJ,by simp[MemAct.ofEvent,Go.ConcR.mk],by simp[MemAct.ofEvent,MemAct.touch?,Go.ConcR.mk]⟩) (by simp) (h.base.IK g g' _ g'<|.inr<|by omega)
     rw[QT];rw[Bj]at hb;exact hb
    ·rw[QV<|by omega];exact NW (jO.counted eF (by rw[D5];omega) (.inl rfl) 0 0) ht
   ·obtain⟨g',w2,es,hgo,⟨rfl,rfl⟩,kZ⟩:=jk w<|aCp w;refine h.workerStep F hA hE nK pR hk hg hgo (dd:=0) (s:=7) (S1:=Sw i) (σ:=T.nat m') ?_ (aQ.refl _ _ _) id (fun _ _ _ _=>aQ.refl _ _ _) (fun _ _=>aCp _) (fun _ _=>rfl) (.done kZ tq) h.pay (fun iP ht _=>⟨wa,wb,bH,NW (NV (by rw[x8]) jO) ht⟩) (by omega) (fun e=>absurd e<|nr<|by omega) (.inr ⟨x8.symm,by rw[hD];exact T.II m'⟩);have hb:=h.base.VZ (w':=w2) (gs':=(gs.map<|woken X.P g g' w2).setIfInBounds (X.m0+i) g') (i:=i) (es:=#[]) (fn:=g.frame.fn) (pos:=g.frame.place) hi h.base.oV rfl (by simp) (by simp) (h.base.IK g g' _ g'<|.inr<|by omega);rw[QT];rw[Bj]at hb;exact hb
 | @fQ v _ m _ _ _ hl h6 tq Pj=>
 have book:∀{g':aX} {w2:ah} {es:Array Event} {s' m' Md:Nat} {a b:Int},aW X.P false g w=.go g' w2 es->Aside X.Wg w w2->WgAt ty X.Wg w2 a b->(∀e∈es,Bk X.Wg e)->
  (∀jx e,es[jx]? =ae e->(MemAct.ofEvent e).touch?=af\/0<deafBehind dd (es.extract 0 jx))->WSit X.P ty X.Wg X.C n Bl Bl 0 (i+1) v s' m' Md g' w2->deafBehind dd es=Md->s'<=6->
  Go.ConcN.Mode n (eY<|upd st i s') tag.c a b->(tag=.ret->Ep t0.size X.Wg X.m0 n (t++MemOp.ofEvents (X.m0+i) g.frame.fn g.frame.place es))->(s'<s\/(s'=s/\m'+1=m))->
  X.wR ty n di Anch Mid bT t0 ks aU gs w sl t tag st D τ (X.m0+i):=
  fun hgo JA zB Me hd sZ hdd h6' TM ac0 aB=>aki tq Pj rfl h6 hgo JA zB Me hd sZ hdd h6' (fun _ ht _=>NW TM ht) ac0 aB
 have idle:∀{g':aX} {m':Nat},aW X.P false g w=.go g' w #[]->WSit X.P ty X.Wg X.C n Bl Bl 0 (i+1) v s m' dd g' w->m'+1=m->s≠1->X.wR ty n di Anch Mid bT t0 ks aU gs w sl t tag st D τ (X.m0+i):=by
  intro g' m' hgo sZ hm h1;exact book hgo (.refl X.Wg w) bH (by simp) (by simp) sZ rfl h6 (NV (by rw[x8]) jO) (fun e=>absurd e<|nr h1)<|.inr ⟨rfl,hm⟩
 have one:∀{s':Nat},s'<=7->Go.ConcN.isW3 tag.c->(∀a,a<n->a≠i->(eY st a).stage=1)->(s'=4\/s'=3\/s'=2)->Go.ConcN.Mode n (eY<|upd st i s') tag.c (if s'=2 then 0 else 1) 0:=by
  intro s' h7 MB yC sZ;rw[QV h7];have:=Go.ConcN.Mode.last (j:=n) (D:=upd (eY st) i ⟨s',0,0⟩) (tag:=tag.c) i MB eF (by rw[aB8];exact sZ) (fun a ha e=>by rw[aCa _ _ e];exact yC a ha e);rw[aB8]at this;exact this
 cases hl with
 |r0 _=>omega
 |k1 tu=>
  rcases aCl tu with mQ|⟨m',rfl,jk⟩
  ·obtain⟨_,g',hgo,m₂,hk⟩:=mQ w<|aCp w;exact book hgo (.refl X.Wg w) bH (by intro e he;simp at he;subst he;exact .inl rfl) (by intro jx e he;exact .inl (by have:=JJ he;simp at this;subst this;rfl)) (.d1 hk) rfl (by omega)
    (by rw[QV<|by omega];exact jO.counted eF (by rw[D5];omega) (.inr rfl) 0 0) (fun e=>absurd e<|nr<|by omega) (.inl<|by omega)
  ·obtain⟨g',w',es,hgo,⟨rfl,rfl⟩,kZ⟩:=jk w<|aCp w;exact idle hgo (.k1 kZ) rfl<|by omega
 |d1 tu=>
  rcases aCl tu with mQ|⟨m',rfl,jk⟩
  ·obtain⟨_,ji⟩:=mQ w<|aCp w;have oH:cnt (eY st i)=1:=by unfold cnt;rw[if_pos (by rw[D5];omega)]
   have hV1:1<=Vc n (eY st):=by have:=le_sumTo (f:=fun x=>cnt<|eY st x) eF;simp only[Vc];omega
   have hVn:=Vc_le n<|eY st;have bk2:∀e∈#[rd<|stA X.Wg,wr<|stA X.Wg],Bk X.Wg e:=by intro e he;simp at he;rcases he with rfl|rfl<;>exact bk_cell _ _ rfl
   have MC:∀jx e,(#[rd<|stA X.Wg,wr<|stA X.Wg]:Array Event)[jx]? =ae e->(MemAct.ofEvent e).touch?=af\/0<deafBehind 1 ((#[rd<|stA X.Wg,wr<|stA X.Wg]:Array Event).extract 0 jx):=by
    intro jx e he;match jx,he with
    |0,_=>exact .inr<|by simp[deafBehind]
    |1,_=>exact .inr<|by simp[deafBehind,rd]
    |jx+2,he=>simp at he
   have hup:=Vc_upd (eY st) (⟨1,0,0⟩:WD) eF;have qV:cnt (⟨1,0,0⟩:WD)=0:=rfl;have Yg:eY (upd st i 1)=upd (eY st) i ⟨1,0,0⟩:=QV (by omega);have opq:Go.ConcN.OpenSt n (eY st)->Go.ConcN.OpenSt n (eY<|upd st i 1):=fun h a ha=>by
    rw[Yg];by_cases e:a=i
    ·subst e;rw[aB8];simp
    ·rw[aCa _ _ e];exact h a ha
   generalize D6:tag.c=ct at jO;cases jO with
   |opn h1 h2 h3=>
    obtain⟨vv,hv⟩:∃vv,Vc n (eY st)+Go.ConcN.pend ct=vv+1:=⟨Vc n (eY st)+Go.ConcN.pend ct-1,by omega⟩;have hpd:Go.ConcN.pend ct=0:=by rw[<-D6];cases tag<;>rfl
    rw[hv]at bH;have vg:WgAt ty X.Wg w (((vv:Nat)+1)*KK+((0:Nat):Int)) 0:=by simpa using bH
    obtain⟨g',hgo,_,hq⟩:=ji vv 0 (by omega) (by omega) vg;obtain⟨qq,hq⟩:=hq (by omega);have Yh:Vc n (eY<|upd st i 1)+Go.ConcN.pend ct=vv:=by rw[Yg];omega
    refine book hgo (aCq w (stA X.Wg) _) (bH.setSt _) bk2 MC (.quit hq) rfl (by omega) ?_ (fun e=>absurd e<|nr<|by omega) (.inl<|by omega);have e:((vv:Nat):Int)*KK+((0:Nat):Int)=((Vc n (eY<|upd st i 1)+Go.ConcN.pend ct:Nat):Int)*KK:=by rw[Yh];simp
    rw[e,D6];exact .opn h1 (opq h2) (fun vs ev=>by have:=h3 vs ev;rw[Yg];omega)
   |reg h1 h2 h3=>
    obtain⟨vv,hv⟩:∃vv,Vc n (eY st)=vv+1:=⟨Vc n (eY st)-1,by omega⟩;rw[hv]at bH;have vg:WgAt ty X.Wg w (((vv:Nat)+1)*KK+((1:Nat):Int)) 0:=by simpa using bH
    obtain⟨g',hgo,hl,hq⟩:=ji vv 1 (by omega) (by omega) vg;by_cases hv0:vv=0
    ·subst hv0;obtain⟨m₂,hk⟩:=hl ⟨rfl,rfl⟩;have yC:∀a,a<n->a≠i->(eY st a).stage=1:=fun a ha e=>by
      have c0:=others_uncounted eF hv oH a ha e;have:=h2 a ha;unfold cnt at c0;by_cases h5:5<=(eY st a).stage
      ·rw[if_pos h5]at c0;omega
      ·omega
     have:=one (s':=4) (by omega) (by rw[D6];exact h1) yC<|.inl rfl;refine book hgo (aCq w (stA X.Wg) _) (bH.setSt _) bk2 MC (.d2 hk) rfl (by omega) ?_ (fun e=>absurd e<|nr<|by omega) (.inl<|by omega);simpa using this
    ·obtain⟨qq,hq⟩:=hq (by omega);have Yh:Vc n (eY<|upd st i 1)=vv:=by rw[Yg];omega
     refine book hgo (aCq w (stA X.Wg) _) (bH.setSt _) bk2 MC (.quit hq) rfl (by omega) ?_ (fun e=>absurd e<|nr<|by omega) (.inl<|by omega);have e:((vv:Nat):Int)*KK+((1:Nat):Int)=((Vc n (eY<|upd st i 1):Nat):Int)*KK+1:=by rw[Yh];simp
     rw[e,D6];exact .reg h1 (opq h2)<|by omega
   |last L _ h2 h3 h4=>
    by_cases e:i=L
    ·subst e;omega
    ·have:=h4 i eF e;omega
   |sema h2=>have:=h2 i eF;omega
   |fin _ h2=>have:=h2 i eF;omega
  ·obtain⟨g',w',es,hgo,⟨rfl,rfl⟩,kZ⟩:=jk w<|aCp w;exact idle hgo (.d1 kZ) rfl<|by omega
 |d2 tu=>
  rcases aCl tu with mQ|⟨m',rfl,jk⟩
  ·obtain⟨_,hx⟩:=mQ w<|aCp w;obtain⟨MB,yC,rfl,rfl⟩:=jO.isLast eF (by rw[D5];omega);have e1:(if(eY st i).stage=2 then(0:Int)else 1)=1:=if_neg (by rw[D5];omega);rw[e1]at bH;obtain⟨g',hgo,m₂,hk⟩:=hx bH;have:=one (s':=3) (by omega) MB yC<|.inr<|.inl rfl;exact book hgo (.refl X.Wg w) bH (by intro e he;simp at he;subst he;exact bk_cell _ _ rfl) (by intro jx e he;match jx,he with|0,_=>exact .inr (by simp[deafBehind])|jx+1,he=>simp at he) (.d3 hk) rfl (by omega) (by simpa using this) (fun e=>absurd e<|nr<|by omega)<|.inl<|by omega
  ·obtain⟨g',w',es,hgo,⟨rfl,rfl⟩,kZ⟩:=jk w<|aCp w;exact idle hgo (.d2 kZ) rfl<|by omega
 |d3 tu=>
  rcases aCl tu with mQ|⟨m',rfl,jk⟩
  ·obtain⟨_,hx⟩:=mQ w<|aCp w;obtain⟨MB,yC,rfl,rfl⟩:=jO.isLast eF (by rw[D5];omega);have e1:(if(eY st i).stage=2 then(0:Int)else 1)=1:=if_neg (by rw[D5];omega);rw[e1]at bH;obtain⟨g',hgo,m₂,hk⟩:=hx bH;have:=one (s':=2) (by omega) MB yC<|.inr<|.inr rfl;exact book hgo (aCq w (stA X.Wg) _) (bH.setSt 0) (by intro e he;simp at he;subst he;exact bk_cell _ _ rfl) (by intro jx e he;match jx,he with|0,_=>exact .inr (by simp[deafBehind])|jx+1,he=>simp at he) (.d4 hk) rfl (by omega) (by simpa using this) (fun e=>absurd e<|nr<|by omega)<|.inl<|by omega
  ·obtain⟨g',w',es,hgo,⟨rfl,rfl⟩,kZ⟩:=jk w<|aCp w;exact idle hgo (.d3 kZ) rfl<|by omega
 |d4 tu=>
  rcases aCl tu with mQ|⟨m',rfl,jk⟩
  ·obtain⟨_,hmw,hx⟩:=mQ w<|aCp w;obtain⟨MB,yC,rfl,rfl⟩:=jO.isLast eF (by rw[D5];omega);have e1:(if(eY st i).stage=2 then(0:Int)else 1)=0:=if_pos D5;rw[e1]at bH;obtain⟨g',hgo,qq,hq⟩:=hx bH;have TD:g'.status=.running:=by
    cases qq with
    |zero=>exact absurd hq.2<|by decide
    |succ qq=>exact hq.elim (fun x=>absurd x.2<|by decide) fun x=>x.1
   refine aki tq Pj rfl h6 hgo (aCq w (smA X.Wg) _) (bH.setSm 1) (es:=semEvents<|smA X.Wg) ?_ ?_ (.quit hq) (by simp[deafBehind,semEvents]) (by omega) ?_ (fun e=>absurd e<|nr<|by omega)<|.inl<|by omega
   ·intro e he;simp[semEvents]at he;rcases he with rfl|rfl|rfl|rfl
    ·exact .inl rfl
    ·exact bk_cell _ _ rfl
    ·exact bk_cell _ _ rfl
    ·exact .inr<|.inl rfl
   ·intro jx e he;match jx,he with
    |0,he=>simp[semEvents]at he;subst he;exact .inl rfl
    |1,_=>exact .inr<|by simp[deafBehind,semEvents]
    |2,_=>exact .inr<|by simp[deafBehind,semEvents]
    |3,he=>simp[semEvents]at he;subst he;exact .inl rfl
    |jx+4,he=>simp[semEvents]at he
   ·intro iP ht hw;have Yi:=hw hmw TD;have e3:iP.c=.w3:=by
     rcases ht with rfl|⟨_,rfl⟩
     ·cases iP<;>first|rfl|exact MB.elim|exact absurd rfl Yi
     ·rfl
    rw[e3];refine .sema fun a ha=>?_;rw[QV<|by omega];by_cases e:a=i
    ·subst e;rw[aB8]
    ·rw[aCa _ _ e];exact yC a ha e
  ·obtain⟨g',w',es,hgo,⟨rfl,rfl⟩,kZ⟩:=jk w<|aCp w;exact idle hgo (.d4 kZ) rfl<|by omega
 |quit hq=>
  cases m with
  |zero=>rw[hq.1]at fU;cases fU
  |succ qq=>
   rcases hq with⟨hf,_⟩|⟨_,g',es,akk,jk,hq⟩
   ·rw[hf]at fU;cases fU
   ·have Me:∀e∈es,Bk X.Wg e:=fun e he=>Go.ConcR.bk_of_mute<|akk e he;have qc:∀jx e,es[jx]? =ae e->(MemAct.ofEvent e).touch?=af\/0<deafBehind dd (es.extract 0 jx):=fun jx e he=>.inl<|touch_mute<|akk e<|JJ he;refine book (jk w) (.refl X.Wg w) bH Me qc (.quit hq) rfl (by omega) (NV (by rw[x8]) jO) (fun e=>(h.acq e).app fun i' r lW hr=>?_)<|.inr ⟨rfl,rfl⟩;by_cases e':i'=i
    ·subst e';exact hr.book TK _ _ Me qc
    ·exact hr.appOther ofEvents_g<|by omega
end
end eX
end
end Go.Proofs.YtkelpcjiediamaaGreat
