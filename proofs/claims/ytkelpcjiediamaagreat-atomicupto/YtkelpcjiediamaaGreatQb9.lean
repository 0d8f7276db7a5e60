import Derived.Test.YtkelpcjiediamaaGreatQb8
set_option maxRecDepth 100000
set_option maxHeartbeats 0
set_option linter.all false
namespace Go.Proofs.YtkelpcjiediamaaGreat
def aCp:=@Go.ConcN.RW.refl
def aCw:=@Go.Conc.Goes.running
def aCy:=@Go.Conc.Goes.rely
def aDm:=@Go.Conc.ofEvents_eq
open Go renaming Goroutine→aX,TypeId→bW,Value→aj,World→ah,stepG→aW,undef→ag
open Option renaming none→af,some→ae
section
namespace eX
open Go Go.Conc Twin
open Go.ConcN (upd upd_same upd_ne)
open Go.ConcR (stA smA)
section
variable{K:Type}{X:bn K}{End:List K->cO->aC->aX->ah->Prop}{o:Option Obj}{t0:Trace}{ts:List qw}{ks:List K}{gs:Array aX}{w w':ah}{t:Trace}{d:Nat}{E:cO}{S0 G:aC}{Sw:Nat->aC}{q:Nat->Nat}{aU:Nat->List aj}{D:Nat->T}{τ:T}
 {sl:Option (Nat×Nat)}
def bn.Base.agB{dW:Nat->Nat}(h:X.Base t0 ks gs w t d dW E S0 G Sw q){es:Array Event}(hG:iO S0 E w w' es):
 (∀i k,ks[i]? =ae k->aQ (Sw i) (X.side k) w w')/\∀b,X.Sp ks b->w'.heap[b]? =w.heap[b]? :=by
 refine⟨fun i k hk=>?_,fun b hb=>hG.still b (h.mem.low b hb) fun z=>(h.mem.qL b z).2.2.1 hb⟩;have hi:i<ks.length:=(dD.1 hk).1;exact aaL hG (fun b hb=>⟨(h.mem.kU i hi b hb).1,(h.mem.kU i hi b hb).2.2.2.2⟩) fun b hb=>⟨(h.mem.sH b<|h.mem.xJ i k hk b hb).1,fun z=>(h.mem.qL b z).2.1<|h.mem.xJ i k hk b hb⟩
variable{a:aX}
def bn.Inv1.jM{CZ:List qw}(h:X.Inv1 End o t0 ts ks gs w t d E S0 G Sw q aU D τ){d1:Nat}{E1:cO}{S1 G1:aC}{t1:Trace}{ik:T}(hb:X.Base t0 ks (gs.setIfInBounds 0 a) w' t1 d1 (fun _=>0) E1 S1 G1 Sw q)
 (wB:∀i,msgs CZ i=msgs ts i)(hm:X.Gp End CZ ks d1 E1 ik S1 a w')(hr:a.status=.running)(hK:∀i k,ks[i]? =ae k->aQ (Sw i) (X.side k) w w')(hS:∀b,X.Sp ks b->b≠X.Wg->w'.heap[b]? =w.heap[b]?):
 X.Inv1 End o t0 CZ ks (gs.setIfInBounds 0 a) w' t1 d1 E1 S1 G1 Sw q aU D ik:=by
 have oJ:=h.base.pos;have aB:0<gs.size:=by rw[h.base.size];omega
 refine⟨hb,⟨a,by rw[rO aB],hm⟩,fun i k hk=>?_,h.old,fun κ jd=>?_,?_,fun a' i v bs ha DT _=>?_,?_,h.none,fun i k hk=>by rw[wB];exact h.wQ i k hk⟩
 ·obtain⟨x,hx,hs⟩:=h.work i k hk;exact⟨x,by rw[gu<|by omega];exact hx,hs.rely<|hK i k hk⟩
 ·obtain⟨s,r,hc⟩:=h.qM κ jd;exact⟨s,r,by rw[hS _ (.inr<|.inr<|.inr ⟨κ,jd,rfl⟩) (h.base.gz.2.2.2.1 κ jd).1];exact hc⟩
 ·obtain⟨cap,s,r,hc⟩:=h.over;exact⟨cap,s,r,by rw[hS _ (.inr<|.inr<|.inl rfl)<|iI h.base.gz.2.1];exact hc⟩
 ·rw[rO aB]at ha;cases ha;rw[hr]at DT;cases DT
 ·rw[hS _ (.inr<|.inl rfl)<|iI h.base.gz.1];exact h.pay
def bn.Inv1.aaR(F:X.Fit)(h:X.Inv1 End o t0 ts ks gs w t d E S0 G Sw q aU D τ)(ha:gs[0]? =ae a)(fU:a.status=.running):
 X.QM End o t0 ts gs w sl t aU D τ 0\/(ts=[]/\d=0/\∀w1,aQ S0 E w w1->End ks E S0 a w1):=by
 have oJ:=h.base.pos;have aB:0<gs.size:=by rw[h.base.size];omega
 obtain⟨a',ha',hm⟩:=h.main;rw[ha]at ha';cases ha';generalize zW:τ=σ at hm;cases hm with
 |parked _ _ _ _=>simp[Go.Conc.parked]at fU
 | @run σ _ _ _ hT=>
   cases σ with
   |step f=>
    left;obtain⟨a',w2,es,hgo,hG,Au⟩:=hT.2 w<|aQ.refl _ _ _;obtain⟨kW,kS⟩:=h.base.agB hG;have bU:=h.still (w':=w2) F (fun κ jd=>let ⟨s,r,hc⟩:=h.qM κ jd;⟨s,r,by rw[kS _<|.inr<|.inr<|.inr ⟨κ,jd,rfl⟩];exact hc⟩) (let ⟨cap,s,r,hc⟩:=h.over;⟨cap,s,r,by rw[kS _<|.inr<|.inr<|.inl rfl];exact hc⟩) a a';have hr:=aCn (P:=X.P) (sl:=sl) (i:=0) ha hgo;rw[bU]at hr;have TD:a'.status=.running:=CY Au fun S g w x=>x.running;refine⟨_,w2,_,ts,ks,d,E,_,G,Sw,q,aU,D,(f w).more,hr,h.jM (h.base.step0 hG (by simp) fun j h0 h1=>by rw[gu<|by omega]) (fun _=>rfl) (.run Au) TD kW fun b hb _=>kS b hb,.inr ⟨rfl,by simp,.inr ⟨rfl,?_⟩⟩,fun _=>rfl⟩;exact T.QJ<|.mk f w
   |stop=>
    have hS:=hT w<|aQ.refl _ _ _;cases ts with
    |nil=>exact .inr ⟨rfl,hS.1,fun w1 k=>(hT w1 k).2.2⟩
    |cons td bs=>
     left;cases td with
     |fQ=>
      obtain⟨_,a',w2,es,hgo,hA,dI,hR⟩:=hS;have kW:∀i k,ks[i]? =ae k->aQ (Sw i) (X.side k) w w2:=fun i k hk=>by
       obtain⟨_,_,n1,n2⟩:=h.base.QO (b:=X.Wg)<|.inl rfl;exact⟨hA.tape,hA.os,hA.output,AU hA.size.symm,fun b hb=>hA.block b fun e=>n1 i (dD.1 hk).1<|e▸hb,fun b hb=>hA.block b fun e=>n2 i k hk<|e▸hb⟩
      have kS:∀b,X.Sp ks b->b≠X.Wg->w2.heap[b]? =w.heap[b]? :=fun b _ hb=>hA.block b hb;obtain⟨ik,QQ⟩:=IJ hR;have bU:=h.still (w':=w2) F (fun κ jd=>let ⟨s,r,hc⟩:=h.qM κ jd;⟨s,r,by rw[kS _ (.inr<|.inr<|.inr ⟨κ,jd,rfl⟩) (h.base.gz.2.2.2.1 κ jd).1];exact hc⟩) (let ⟨cap,s,r,hc⟩:=h.over;⟨cap,s,r,by rw[kS _ (.inr<|.inr<|.inl rfl)<|iI h.base.gz.2.1];exact hc⟩) a a';have hr:=aCn (P:=X.P) (sl:=sl) (i:=0) ha hgo;rw[bU]at hr;exact⟨_,w2,_,bs,ks,_,E,S0,G,Sw,q,aU,D,ik.more,hr,h.jM (h.base.fQ (aaM h.base.oV hA) hA.size dI (by simp) fun j h0 h1=>by rw[gu<|by omega]) (fun _=>rfl) (.run QQ) (CY QQ fun S g w x=>x.running) kW kS,.inl<|by simp,fun _=>rfl⟩
     |go=>
      obtain⟨rfl,_,a',child,k,Sk,E1,S1,hgo,hC,p1,p2,p3,p4,p5,p6,p7,p8,p9,p10,p11,hR⟩:=hS;obtain⟨σ,hσ⟩:=IJ hC;obtain⟨ik,QQ⟩:=IJ hR;have hr:=runT_crowd_spawn (P:=X.P) (sl:=sl) (i:=0) ha hgo;have axI:(((MemOp.ofEvents 0 a.frame.fn a.frame.place #[]).push {g:=0,fn:=a.frame.fn,pos:=a.frame.place,act:=.go gs.size}).push {g:=gs.size,fn:=child.frame.fn,pos:=a.frame.place,act:=.start})=#[({g:=0,fn:=a.frame.fn,pos:=a.frame.place,act:=.go gs.size}:MemOp),{g:=gs.size,fn:=child.frame.fn,pos:=a.frame.place,act:=.start}]:=by
       rw[aDm];simp
      rw[axI]at hr;have Bj:upd (fun _=>0) ks.length 0=(fun _=>0:Nat->Nat):=by funext x;unfold upd;split<;>rfl
      have Hm:=h.base.spawn (child:=child) (g':=a') (fn:=a.frame.fn) (fn':=child.frame.fn) (pos:=a.frame.place) (pos':=a.frame.place) p1 p2 p3 p4 p5 p6 p7 p8 p9;rw[Bj]at Hm;have dS:=h.base.size;have LU:∀j x,(ks++[k])[j]? =ae x->ks[j]? =ae x\/(j=ks.length/\x=k):=by
       intro j x hj;rcases Eb j ks.length with hl|hl
       ·rw[tJ hl]at hj;exact .inl hj
       ·rw[wG hl]at hj;cases e:j-ks.length with
        |zero=>rw[e]at hj;simp at hj;exact .inr ⟨by omega,hj.symm⟩
        |succ n=>rw[e]at hj;simp at hj
      refine⟨_,w,_,bs,ks++[k],0,E1,S1,_,_,q,aU,upd D gs.size σ.more,ik.more,hr,⟨Hm,⟨a',by rw[PE,if_neg (by simp<;>omega),rO aB],.run QQ⟩,fun i x hi=>?_,fun j h0 h1=>by rw[aCa _ _<|by omega];exact h.old j h0 h1,fun κ jd=>?_,h.over,fun a2 i v bs2 Yd qU _=>?_,h.pay,fun i hi=>h.none i (by simp at hi;omega),fun i x hi=>?_⟩,.inl<|by simp,fun _=>rfl⟩
      ·rcases LU i x hi with hi|⟨rfl,rfl⟩
       ·have kQ:=(dD.1 hi).1;obtain⟨y,hy,hs⟩:=h.work i x hi;refine⟨y,by rw[PE,if_neg (by simp<;>omega),gu<|by omega];exact hy,?_⟩;rw[aCa Sw _<|by omega,aCa D _<|by omega];exact hs
       ·refine⟨child,by rw[PE,if_pos (by simp<;>omega)],?_⟩;rw[aB8,<-dS,aB8,h.none ks.length<|bV _];exact .run hσ
      ·rcases og.1 jd with jd|jd
       ·exact h.qM κ jd
       ·simp at jd;subst jd;exact p10
      ·rw[PE,if_neg (by simp<;>omega),rO aB]at Yd;cases Yd;have:=CY QQ fun S g w x=>x.running;rw[this]at qU;cases qU
      ·rcases LU i x hi with hi|⟨rfl,rfl⟩
       ·exact h.wQ i x hi
       ·rw[h.none ks.length<|bV _];exact p11
     |send i v=>
      obtain⟨rfl,_,k,z,VW,hk,hgo,hR⟩:=hS;have oI:=fD hk;have hi:i<ks.length:=(dD.1 hk).1;obtain⟨s,r,hc⟩:=h.qM k oI;obtain⟨x,hx,hs⟩:=h.work i k hk;have TF:∀j y,j≠X.m0+i->(gs.setIfInBounds 0 ph)[j]? =ae y->offersAt y (X.ch k) false=[]:=by
       intro j y hj hy;rcases aC8 gs _ j y hy with⟨_,rfl⟩|⟨bM,hy⟩
       ·rfl
       ·rcases h.base.Eo hy with rfl|⟨h1,h2⟩|⟨i',k',rfl,dC⟩
        ·exact absurd rfl bM
        ·rcases(h.base.old j y h1 h2 hy).status with hs|hs<;>exact aCc (by rw[hs];simp) _ _
        ·obtain⟨y',Jz,hs⟩:=h.work i' k' dC;rw[hy]at Jz;cases Jz;rcases hs.status F with hs|⟨g0,z0,z1,sh,rfl,_⟩
         ·exact aCc (by rw[hs];simp) _ _
         ·refine offersAt_parked_off (fun cc pI=>?_) _;simp only[bn.cs,rP,jC,oN,oO]at pI;rcases pI with rfl|rfl
          ·intro e;simp[rcase]at e;have:=h.base.gz.2.2.2.2 i' i k' k dC hk e;exact hj<|by rw[this]
          ·intro e;simp[rcase]at e;exact(h.base.gz.2.2.2.1 k oI).2.2 e.symm
      rcases hs.status F with Eg|⟨gw,z0,z1,sh,rfl,hW⟩
      ·
       have hr:=crowd_waits (P:=X.P) (sl:=sl) (i:=0) (w:=w) (w₁:=w) ha hgo (by
        intro cc pI;simp only[rP,jC,oN,oO]at pI;subst pI;refine ways_send_none hc (by simp)<|partners_nil fun j y hy=>?_;by_cases e:j=X.m0+i
        ·subst e;rw[gu<|by omega,hx]at hy;cases hy;exact aCc (by rw[Eg];simp) _ _
        ·exact TF j y e hy)
       refine⟨_,w,_,.send i v::bs,ks,0,E,S0,G,Sw,q,aU,D,.stop,hr,⟨h.base.quiet h.base.oV rfl (QP _ _ _ _ _) (by simp) fun j h0 h1=>by rw[gu<|by omega],⟨_,by rw[rO aB],.parked rfl rfl hk hR⟩,fun i' k' dC=>?_,h.old,h.qM,h.over,fun a2 i2 v2 bs2 _ _ he=>?_,h.pay,h.none,h.wQ⟩,.inr ⟨rfl,by simp,.inr ⟨rfl,T.agt⟩⟩,fun _=>rfl⟩
       ·obtain⟨y,hy,hs⟩:=h.work i' k' dC;exact⟨y,by rw[gu<|by omega];exact hy,hs⟩
       ·simp at he;obtain⟨⟨rfl,_⟩,_⟩:=he;exact⟨x,by rw[gu<|by omega];exact hx,Eg⟩
      ·
       have hp:partners (gs.setIfInBounds 0 ph) (X.ch k) false=[(X.m0+i,0)]:=by
        have:=partners_one (gs:=gs.setIfInBounds 0 ph) (r:=X.ch k) (send:=false) (j:=X.m0+i) (by rw[gu<|by omega];exact hx) fun j y hj hy=>TF j y hj hy;rw[this,offersAt_parked_at (k:=0) (z:=z0) (by simp[bn.cs]) (fun m cc hm pI=>by
         match m,hm,pI with
         |0,hm,_=>exact absurd rfl hm
         |1,_,pI=>
          simp[bn.cs]at pI;subst pI;intro e;simp[rcase]at e;exact(h.base.gz.2.2.2.1 k oI).2.2 e.symm
         |m+2,_,pI=>simp[bn.cs]at pI)]
        rfl
       have hr:=crowd_send_meets_sel (P:=X.P) (sl:=sl) (i:=0) (j:=X.m0+i) (w:=w) (w₁:=w) (k:=0) (zj:=z0) ha hgo hc (by omega) hx (by simp[bn.cs]) hp;have mP:X.ch k<w.heap.size:=h.base.mem.low _<|.inr<|.inr<|.inr ⟨k,oI,rfl⟩;have kQ:X.m0+i<gs.size:=by rw[h.base.size];omega
       obtain⟨D1,ik,hI⟩:=h.met hk hW hR (gs1:=(gs.setIfInBounds (X.m0+i)<|gw.finishComm X.P (X.cs k z0 z1) sh 0 v true).setIfInBounds 0<|a.finishComm X.P #[scase (X.ch k) v z] VW 0 ag false) (by simp)
        (by rw[rO<|by simpa using aB]) (by rw[gu<|by omega,rO kQ]) (fun j h0 h1=>by rw[gu<|iI h0,gu<|iI h1])
        (u:=MemOp.ofEvents 0 a.frame.fn a.frame.place #[]++ #[{g:=0,fn:=a.frame.fn,pos:=a.frame.place,act:=.send (X.ch k) s},{g:=X.m0+i,fn:=gw.frame.fn,pos:=gw.frame.place,act:=.recv (X.ch k) r 0},
          {g:=0,fn:=a.frame.fn,pos:=a.frame.place,act:=.sendDone (X.ch k) s},{g:=X.m0+i,fn:=gw.frame.fn,pos:=gw.frame.place,act:=.recvDone (X.ch k) r}]) (by
          intro op aF;rcases Ia.1 aF with aF|aF
          ·exact QP _ _ _ _ _ op aF
          ·simp only[rP,jC,oN,oO]at aF;rcases aF with rfl|rfl|rfl|rfl<;>exact⟨rfl,mP,by simp,by simp,by simp⟩) (s+1) (r+1)
       refine⟨_,_,_,bs,ks,0,E,S0,G,Sw,q,_,D1,ik,hr,hI,.inl<|by simp,fun j=>?_⟩;by_cases e:j=i
       ·subst e;rw[aB8];simp[msgs]
       ·rw[aCa _ _ e];simp[msgs,e]
def bn.Inv1.aaS(F:X.Fit)(h:X.Inv1 End o t0 ts ks gs w t d E S0 G Sw q aU D τ){i:Nat}{g:aX}(h0:0<i)(hi:i<X.m0)(hg:gs[i]? =ae g)(fU:g.status=.running):X.QM End o t0 ts gs w sl t aU D τ i:=by
 have hq:=h.base.old i g h0 hi hg;have aB:i<gs.size:=(iU.1 hg).1;have pq:(i==0)=false:=by simp<;>omega
 cases uA:q i with
 |zero=>rw[uA]at hq;rw[hq.1]at fU;cases fU
 |succ n=>
  rw[uA]at hq;rcases hq with⟨hf,_⟩|⟨_,g',es,hm,bU,rF⟩
  ·rw[hf]at fU;cases fU
  have hr:=aCn (P:=X.P) (sl:=sl) (i:=i) hg (by rw[pq];exact bU w);have hb:=h.base.leave (fn:=g.frame.fn) (pos:=g.frame.place) h0 hi hm rF g g' w;have bU:=h.still (w':=w) F h.qM h.over g g';rw[bU]at hr hb;refine⟨_,w,_,ts,ks,d,E,S0,G,Sw,upd q i n,aU,upd D i<|T.nat n,τ,hr,⟨hb,?_,fun i' k' dC=>?_,fun j j0 j1=>?_,h.qM,h.over,fun a i' v bs ha' iG he=>?_,h.pay,h.none,h.wQ⟩,.inr ⟨rfl,by simp,.inl ⟨i,aB,?_,fun j hj=>aCa _ _ hj⟩⟩,fun _=>rfl⟩
  ·obtain⟨a,ha,hm⟩:=h.main;exact⟨a,by rw[gu<|by omega];exact ha,hm⟩
  ·obtain⟨y,hy,hs⟩:=h.work i' k' dC;exact⟨y,by rw[gu<|by omega];exact hy,by rw[aCa D _<|by omega];exact hs⟩
  ·by_cases e:j=i
   ·subst e;rw[aB8,aB8]
   ·rw[aCa D _ e,aCa q _ e];exact h.old j j0 j1
  ·rw[gu<|by omega]at ha';obtain⟨y,hy,hr⟩:=h.pair a i' v bs ha' iG he;exact⟨y,by rw[gu<|by omega];exact hy,hr⟩
  ·rw[aB8,h.old i h0 hi,uA];exact T.II n
def bn.Inv1.awake(F:X.Fit)(h:X.Inv1 End o t0 ts ks gs w t d E S0 G Sw q aU D τ):∀g∈gs,awake g:=by
 intro g hg;obtain⟨j,hj⟩:=alb.1 hg;rcases h.base.Eo hj with rfl|⟨h1,h2⟩|⟨i,k,rfl,hk⟩
 ·obtain⟨a,ha,hm⟩:=h.main;rw[hj]at ha;cases ha;rcases hm.status with hs|⟨_,_,_,_,_,_,_,rfl,_⟩
  ·exact aCt<|.inl hs
  ·exact aCt<|.inr<|.inl rfl
 ·exact aCt<|(h.base.old j g h1 h2 hj).status.elim .inl fun x=>.inr<|.inr x
 ·obtain⟨y,hy,hs⟩:=h.work i k hk;rw[hj]at hy;cases hy;rcases hs.status F with hs|⟨_,_,_,_,rfl,_⟩
  ·exact aCt<|.inl hs
  ·exact aCt<|.inr<|.inl rfl
def bn.Inv1.aaT(h:X.Inv1 End o t0 ts ks gs w t d E S0 G Sw q aU D τ):∃(i:Nat) (g:aX),gs[i]? =ae g/\g.status=.running:=by
 obtain⟨a,ha,hm⟩:=h.main;rcases hm.status with hs|⟨i,v,k,z,sh,g0,bs,rfl,he,hk⟩
 ·exact⟨0,a,ha,hs⟩
 ·obtain⟨g,hg,hr⟩:=h.pair _ i v bs ha rfl he;exact⟨_,g,hg,hr⟩
def bn.aqh(F:X.Fit):∀(A N:Nat) (D:Nat->T) (τ:T) {ts:List qw} {ks:List K} {gs:Array aX} {w:ah} {sl:Option (Nat×Nat)} {t:Trace} {d:Nat} {E:cO} {S0 G:aC} {Sw:Nat->aC} {q:Nat->Nat} {aU:Nat->List aj},ts.length=A->gs.size=N->X.Inv1 End o t0 ts ks gs w t d E S0 G Sw q aU D τ->
 ∃M gs1 w1 jV t1 dd lJ xK E1 S1 G1 uJ q1 yY D1 ik a,runNT X.P M (crowd gs w sl) t=(.next<|crowd gs1 w1 jV,t1)/\stepT X.P (crowd gs1 w1 jV)=runT X.P (crowd gs1 (w1.at dd) lJ) 0/\X.Inv1 End o t0 [] xK gs1 (w1.at dd) t1 0 E1 S1 G1 uJ q1 yY D1 ik/\gs1[0]? =ae a/\a.status=.running/\End xK E1 S1 a (w1.at dd)/\∀i,yY i=aU i++msgs ts i:=by
 refine aqa ?_;intro A N D τ Kz ihV KA ts ks gs w sl t d E S0 G Sw q aU hA hN h;obtain⟨i,g,dd,sl',hi,hg,bU⟩:=aDg (P:=X.P) (w:=w) (sl:=sl) (h.awake F) h.aaT;have h':=h.at dd;have key:X.QM End o t0 ts gs (w.at dd) sl' t aU D τ i->∃M gs1 w1 jV t1 dd lJ xK E1 S1 G1 uJ q1 yY D1 ik a,runNT X.P M (crowd gs w sl) t=(.next<|crowd gs1 w1 jV,t1)/\stepT X.P (crowd gs1 w1 jV)=runT X.P (crowd gs1 (w1.at dd) lJ) 0/\X.Inv1 End o t0 [] xK gs1 (w1.at dd) t1 0 E1 S1 G1 uJ q1 yY D1 ik/\gs1[0]? =ae a/\a.status=.running/\End xK E1 S1 a (w1.at dd)/\∀i,yY i=aU i++msgs ts i:=by
  rintro⟨gs1,w1,ops,CZ,xK,d1,E1,S1,G1,uJ,q1,yY,D1,ik,hr,hI,aB,YX⟩;have fin:(∃M mg w2 lJ t2 QR TG VX E2 S2 G2 KF q2 VY D2 Dc a,runNT X.P M (crowd gs1 w1 sl') (t++ops)=(.next<|crowd mg w2 lJ,t2)/\stepT X.P (crowd mg w2 lJ)=runT X.P (crowd mg (w2.at QR) TG) 0/\X.Inv1 End o t0 [] VX mg (w2.at QR) t2 0 E2 S2 G2 KF q2 VY D2 Dc/\mg[0]? =ae a/\a.status=.running/\End VX E2 S2 a (w2.at QR)/\∀i,VY i=yY i++msgs CZ i)->
   ∃M gs1 w1 jV t1 dd lJ xK E1 S1 G1 uJ q1 yY D1 ik a,runNT X.P M (crowd gs w sl) t=(.next<|crowd gs1 w1 jV,t1)/\stepT X.P (crowd gs1 w1 jV)=runT X.P (crowd gs1 (w1.at dd) lJ) 0/\X.Inv1 End o t0 [] xK gs1 (w1.at dd) t1 0 E1 S1 G1 uJ q1 yY D1 ik/\gs1[0]? =ae a/\a.status=.running/\End xK E1 S1 a (w1.at dd)/\∀i,yY i=aU i++msgs ts i:=by
   rintro⟨M,mg,w2,lJ,t2,QR,TG,VX,E2,S2,G2,KF,q2,VY,D2,Dc,a,r1,r0,r2,r3,r4,r5,r6⟩;refine⟨M+1,mg,w2,lJ,t2,QR,TG,VX,E2,S2,G2,KF,q2,VY,D2,Dc,a,?_,r0,r2,r3,r4,r5,fun i=>by rw[r6,YX]⟩;simp only[runNT,bU,hr];exact r1
  rcases aB with hl|⟨hl,hs,hv|⟨rfl,zW⟩⟩
  ·exact fin<|Kz CZ.length gs1.size D1 ik (by omega) (sl:=sl') rfl rfl hI
  ·exact fin<|ihV D1 ik (hN▸hv) (sl:=sl') (by omega) (by omega) hI
  ·exact fin<|KA ik zW (sl:=sl') (by omega) (by omega) hI
 rcases h'.base.Eo hi with rfl|⟨h1,h2⟩|⟨i,k,rfl,hk⟩
 ·rcases h'.aaR (sl:=sl') F hi hg with hn|⟨rfl,rfl,hE⟩
  ·exact key hn
  ·exact⟨0,gs,w,sl,t,dd,sl',ks,E,S0,G,Sw,q,aU,D,τ,g,rfl,bU,h',hi,hg,hE _<|aQ.refl _ _ _,fun i=>by simp[msgs]⟩
 ·exact key<|h'.aaS F h1 h2 hi hg
 ·exact key<|h'.aqf F hk hi hg
end
end eX
end
section
namespace eX
open Go Go.Conc Twin
open Go.ConcN (upd upd_same upd_ne WgLive PayAt Has RW DWs AtR0 AtK1 WSit WD CTag Vc cnt sumTo RelBy)
open Go.ConcR (stA smA rd wr KK WgAt DC0 Payload)
section
variable [Payload]
def Bl:Nat->Loc->Prop:=fun _ _=>False
variable{K:Type}(X:bn K)(ty:bW)(n:Nat)
structure bn.zX(i:Nat)(v:aj)(g:aX)(w:ah):Prop where
 run:g.status=.running
 st:WgLive ty X.Wg w->PayAt X.C n w->∃g',aW X.P false g w=.go g' (w.setCell ⟨X.C,i,af⟩ v) #[⟨.cell ⟨X.C,i,af⟩,true,false⟩]/\
  ∃m,Goes X.P false (RW ty X.Wg X.C n 0 i) DC0 (AtR0 X.P ty X.Wg X.C n 0 (i+1) v) m g'<|w.setCell ⟨X.C,i,af⟩ v
def RL(ty:bW)(Wg:Nat)(w w1:ah):Prop:=WgLive ty Wg w->WgLive ty Wg w1
variable(di:aX)(Anch:aX->ah->Prop)
def bn.AtRet(g:aX)(_w:ah):Prop:=g=di
def bn.AtAcq(g:aX)(w:ah):Prop:=
 g.status=.running/\∃g',aW X.P true g w=.go g' w #[Go.ConcR.mk<|.acquire<|stA X.Wg]/\∃m,Goes X.P true (RL ty X.Wg) DC0 (bn.AtRet di) m g' w
def bn.AtKe(g:aX)(w:ah):Prop:=
 g.status=.running/\∃g',aW X.P true g w=.go g' w #[Go.ConcR.mk .enable]/\∃m,Goes X.P true (RL ty X.Wg) DC0 (X.AtAcq ty di) m g' w
def bn.AtW4(g:aX)(w:ah):Prop:=
 g.status=.running/\(WgAt ty X.Wg w 0 0->∃g',aW X.P true g w=.go g' w #[rd<|stA X.Wg]/\∃m,Goes X.P true (RL ty X.Wg) DC0 (X.AtKe ty di) m g' w)
def bn.AtW3(g:aX)(w:ah):Prop:=
 g.status=.running/\g.offers=af/\((∃st,WgAt ty X.Wg w st 0)->aW X.P true g w=.go {g with status:=.blocked} w #[])/\
  (WgAt ty X.Wg w 0 1->∃g',aW X.P true g w=.go g' (w.setCell (smA X.Wg)<|.int .u32 0) (semEvents<|smA X.Wg)/\∃m,Goes X.P true (RL ty X.Wg) DC0 (X.AtW4 ty di) m g'<|w.setCell (smA X.Wg)<|.int .u32 0)
def bn.agC(g:aX)(w:ah):Prop:=
 g.status=.running/\∃g',aW X.P true g w=.go g' w #[⟨.mark<|.write<|smA X.Wg,false,true⟩]/\∃m,Goes X.P true (RL ty X.Wg) DC0 (X.AtW3 ty di) m g' w
def bn.AtW2(vs:Nat)(g:aX)(w:ah):Prop:=
 g.status=.running/\∀v:Nat,v<2147483648->WgAt ty X.Wg w (v*KK) 0->
  (v=vs->∃g',aW X.P true g w=.go g' (w.setCell (stA X.Wg)<|.int .u64<|v*KK+1) #[rd<|stA X.Wg,wr<|stA X.Wg]/\∃m,Goes X.P true (RL ty X.Wg) DC0 (X.agC ty di) m g'<|w.setCell (stA X.Wg)<|.int .u64<|v*KK+1)/\
  (v≠vs->∃g',aW X.P true g w=.go g' w #[rd<|stA X.Wg]/\∃m,Goes X.P true (RL ty X.Wg) DC0 Anch m g' w)
def bn.AtW1(g:aX)(w:ah):Prop:=
 g.status=.running/\∀v:Nat,v<2147483648->WgAt ty X.Wg w (v*KK) 0->∃g',aW X.P true g w=.go g' w #[rd<|stA X.Wg]/\
  (v=0->∃m,Goes X.P true (RL ty X.Wg) DC0 (X.AtKe ty di) m g' w)/\(v≠0->∃m,Goes X.P true (RL ty X.Wg) DC0 (X.AtW2 ty di Anch v) m g' w)
def bn.AtKd(g:aX)(w:ah):Prop:=
 g.status=.running/\(WgLive ty X.Wg w->∃g',aW X.P true g w=.go g' w #[Go.ConcR.mk .disable]/\∃m,Goes X.P true (RL ty X.Wg) DC0 Anch m g' w)
inductive iR where
 |pre|anch|w1|w2 (vs:Nat)|wr|w3|blk|w4|ke|acq|ret
def iR.c:iR->CTag
 | .pre=>.kd
 | .anch=>.anch
 | .w1=>.w1
 | .w2 vs=>.w2 vs
 | .wr=>.w3
 | .w3=>.w3
 | .blk=>.blk
 | .w4=>.w4
 | .ke=>.ke
 | .acq=>.acq
 | .ret=>.ret
def iR.phi(n v:Nat):iR->Nat
 | .pre=>8*n+7
 | .anch=>8*v+6
 | .w1=>8*v+5
 | .w2 vs=>8*vs+4
 | .wr=>6
 | .w3=>5
 | .blk=>5
 | .w4=>4
 | .ke=>3
 | .acq=>2
 | .ret=>1
def iR.deaf:iR->Nat
 | .pre| .acq| .ret=>0
 |_=>1
inductive bn.uK:iR->Nat->aX->ah->Prop where
 |anch {m g w} (h:Goes X.P true (RL ty X.Wg) DC0 Anch m g w):uK .anch m g w
 |w1 {m g w} (h:Goes X.P true (RL ty X.Wg) DC0 (X.AtW1 ty di Anch) m g w):uK .w1 m g w
 |w2 {m g w vs} (h:Goes X.P true (RL ty X.Wg) DC0 (X.AtW2 ty di Anch vs) m g w):uK (.w2 vs) m g w
 |wr {m g w} (h:Goes X.P true (RL ty X.Wg) DC0 (X.agC ty di) m g w):uK .wr m g w
 |w3 {m g w} (h:Goes X.P true (RL ty X.Wg) DC0 (X.AtW3 ty di) m g w):uK .w3 (m+1) g w
 |blk {g w} (h:∀w1,RL ty X.Wg w w1->X.AtW3 ty di g w1):uK .blk 0 {g with status:=.blocked} w
 |w4 {m g w} (h:Goes X.P true (RL ty X.Wg) DC0 (X.AtW4 ty di) m g w):uK .w4 m g w
 |ke {m g w} (h:Goes X.P true (RL ty X.Wg) DC0 (X.AtKe ty di) m g w):uK .ke m g w
 |acq {m g w} (h:Goes X.P true (RL ty X.Wg) DC0 (X.AtAcq ty di) m g w):uK .acq m g w
 |ret {m g w} (h:Goes X.P true (RL ty X.Wg) DC0 (bn.AtRet di) m g w):uK .ret m g w
variable(Mid:aC->ah->Prop)
inductive bn.Bo(E:cO)(S0:aC):iR->T->aX->ah->Prop where
 |pre {τ g w} (h:Bi X.P true E (fun S g w=>X.AtKd ty Anch g w/\Mid S w) τ S0 g w):Bo E S0 .pre τ.more g w
 |fQ {tag f g w} (h:X.uK ty di Anch tag f g w) (hm:∀w1,aQ S0 E w w1->Mid S0 w1):Bo E S0 tag (T.nat f) g w
variable(bT:K->List aj->aj->aC->ah->Prop)
inductive bn.xM(i:Nat)(k:K)(l:List aj)(S:aC):Nat->T->Nat->aX->ah->Prop where
 |run {τ g w} (h:Bi X.P false (X.side k) (X.Gl k l) τ S g w):xM i k l S 9 τ.more 0 g w
 |KG {g z0 z1 sh w} (h:X.rC k l S g z0 z1 sh w):xM i k l S 9 T.stop.more 0 {Go.Conc.parked g (X.cs k z0 z1) sh with status:=.running} w
 |fin {τ g w} (h:Bi X.P false (X.side k) (X.Fin k l) τ S g w):xM i k l S 8 τ.more 0 g w
 |done {v m g w} (h:Goes X.P false (RW ty X.Wg X.C n 0 i) DC0 (AtR0 X.P ty X.Wg X.C n 0 (i+1) v) m g w) (hr:bT k l v S w):xM i k l S 7 (T.nat m) 0 g w
 |fQ {v s m dd g w} (h:WSit X.P ty X.Wg X.C n Bl Bl 0 (i+1) v s m dd g w) (h6:s<=6) (hr:bT k l v S w) (hh:Has X.C i v w):xM i k l S s (T.nat m) dd g w
structure uM(Wg:Nat)(t:Trace)(k r:Nat):Prop where
 rel:RelBy (stA Wg) t k r
 after:∀i,r<i->t.g? i=ae k->∀a,touchAt t i=ae a->(∃ad,a.loc=.cell ad/\ad.block=Wg)/\a.kind=.atomic
def Ep(B Wg m0 n:Nat)(t:Trace):Prop:=
 ∃q,t.act? q=ae (.mark<|.acquire<|stA Wg)/\t.g? q=ae 0/\t.heard q/\∀i,i<n->∃r,uM Wg t (m0+i) r/\r<q/\B<=r
def eY(st:Nat->Nat):Nat->WD:=fun i=>⟨min (st i) 7,0,0⟩
structure bn.Inv2(t0:Trace)(ks:List K)(gs:Array aX)(w:ah)(t:Trace)(tag:iR)(dW:Nat->Nat)(E:cO)(S0 G:aC)(Sw:Nat->aC)(q:Nat->Nat)(aU:Nat->List aj)(st:Nat->Nat)(D:Nat->T)(τ:T):Prop where
 base:X.Base t0 ks gs w t tag.deaf dW E S0 G Sw q
 len:ks.length=n
 KH:¬E.ro X.Wg
 main:∃a,gs[0]? =ae a/\X.Bo ty di Anch Mid E S0 tag τ a w
 work:∀(i:Nat) (k:K),ks[i]? =ae k->∃g,gs[X.m0+i]? =ae g/\X.xM ty n bT i k (aU i) (Sw i) (st i) (D<|X.m0+i) (dW i) g w
 old:∀i,0<i->i<X.m0->D i=T.nat (q i)
 qM:∀k∈ks,∃s r,w.heap[X.ch k]? =ae (.chan 0 #[] false s r false)
 over:∃cap s r,w.heap[X.ov]? =ae (.chan cap #[] true s r false)
 wg:∃a b,WgAt ty X.Wg w a b/\Go.ConcN.Mode n (eY st) tag.c a b
 pay:PayAt X.C n w
 rel:∀i,i<n->st i<=6->∃r,uM X.Wg t (X.m0+i) r/\t0.size<=r
 acq:tag=.ret->Ep t0.size X.Wg X.m0 n t
end
section
variable{K:Type}{X:bn K}{ty:bW}{n:Nat}{di:aX}{Anch:aX->ah->Prop}{Mid:aC->ah->Prop}{bT:K->List aj->aj->aC->ah->Prop}{E:cO}{S0 S:aC}{tag:iR}{τ:T}{g a a':aX}{w w1:ah}{f:Nat}
theorem RL.trans{w2:ah}{Wg:Nat}(h:RL ty Wg w w1)(k:RL ty Wg w1 w2):RL ty Wg w w2:=k∘h
theorem Gq(Wg:Nat):∀a b c:ah,RL ty Wg a b->RL ty Wg b c->RL ty Wg a c:=fun _ _ _ h k=>k∘h
theorem bn.uK.rely(h:X.uK ty di Anch tag f g w)(hr:RL ty X.Wg w w1):X.uK ty di Anch tag f g w1:=by
 cases h with
 |anch h=>exact .anch<|aCy (Gq X.Wg) h hr
 |w1 h=>exact .w1<|aCy (Gq X.Wg) h hr
 |w2 h=>exact .w2<|aCy (Gq X.Wg) h hr
 |wr h=>exact .wr<|aCy (Gq X.Wg) h hr
 |w3 h=>exact .w3<|aCy (Gq X.Wg) h hr
 |blk h=>exact .blk fun w2 k=>h w2<|hr.trans k
 |w4 h=>exact .w4<|aCy (Gq X.Wg) h hr
 |ke h=>exact .ke<|aCy (Gq X.Wg) h hr
 |acq h=>exact .acq<|aCy (Gq X.Wg) h hr
 |ret h=>exact .ret<|aCy (Gq X.Wg) h hr
theorem bn.uK.status(hA:∀g w,Anch g w->g.status=.running)(hE:di.status=.running)(h:X.uK ty di Anch tag f g w):(g.status=.running/\tag≠.blk)\/(tag=.blk/\∃g0:aX,g={g0 with status:=.blocked}/\g0.status=.running/\g0.offers=af):=by
 have refl:RL ty X.Wg w w:=id;cases h with
 |anch h=>exact .inl ⟨aCw hA w refl h,by simp⟩
 |w1 h=>exact .inl ⟨aCw (fun _ _ x=>x.1) w refl h,by simp⟩
 |w2 h=>exact .inl ⟨aCw (fun _ _ x=>x.1) w refl h,by simp⟩
 |wr h=>exact .inl ⟨aCw (fun _ _ x=>x.1) w refl h,by simp⟩
 |w3 h=>exact .inl ⟨aCw (fun _ _ x=>x.1) w refl h,by simp⟩
 |blk h=>exact .inr ⟨rfl,_,rfl,(h w refl).1,(h w refl).2.1⟩
 |w4 h=>exact .inl ⟨aCw (fun _ _ x=>x.1) w refl h,by simp⟩
 |ke h=>exact .inl ⟨aCw (fun _ _ x=>x.1) w refl h,by simp⟩
 |acq h=>exact .inl ⟨aCw (fun _ _ x=>x.1) w refl h,by simp⟩
 |ret h=>exact .inl ⟨aCw (fun _ _ x=>by rw[show _=di from x];exact hE) w refl h,by simp⟩
theorem bn.Bo.rely(h:X.Bo ty di Anch Mid E S0 tag τ g w)(hk:aQ S0 E w w1)(hr:RL ty X.Wg w w1):X.Bo ty di Anch Mid E S0 tag τ g w1:=by
 cases h with
 |pre h=>exact .pre<|h.rely hk
 |fQ h hm=>exact .fQ (h.rely hr) fun w2 k=>hm w2<|hk.trans k
theorem bn.Bo.status(hA:∀g w,Anch g w->g.status=.running)(hE:di.status=.running)(h:X.Bo ty di Anch Mid E S0 tag τ g w):(g.status=.running/\tag≠.blk)\/(tag=.blk/\∃g0:aX,g={g0 with status:=.blocked}/\g0.status=.running/\g0.offers=af):=by
 cases h with
 |pre h=>exact .inl ⟨CY h fun S g w x=>x.1.1,by simp⟩
 |fQ h hm=>exact h.status hA hE
theorem bn.Bo.woken(hA:∀g w,Anch g w->g.status=.running)(hE:di.status=.running)(h:X.Bo ty di Anch Mid E S0 tag τ g w)(hk:aQ S0 E w w1)(hr:RL ty X.Wg w w1)(a a':aX):
 ∃iP nJ,X.Bo ty di Anch Mid E S0 iP nJ (Go.Conc.woken X.P a a' w1 g) w1/\((iP=tag/\nJ=τ)\/(tag=.blk/\iP=.w3))/\(mayWake X.P a=true->a'.status=.running->iP≠.blk):=by
 rcases h.status hA hE with⟨hs,bM⟩|⟨rfl,g0,rfl,x8,ho⟩
 ·exact⟨tag,τ,by rw[aDj hs];exact h.rely hk hr,.inl ⟨rfl,rfl⟩,fun _ _=>bM⟩
 ·cases h with
  | @fQ _ f _ _ h hm=>
    generalize hg:({g0 with status:=.blocked}:aX)=g1 at h;cases h with
    | @blk g2 _ hb=>
      have hag:(({g2 with status:=.blocked}:aX)).again w1=g2:=by
       have TJ:=(hb w id).2.1;have BZ:=(hb w id).1;obtain⟨fr,cs,stt,dy,off⟩:=g2;simp only at TJ BZ;subst TJ BZ;simp[Goroutine.again]
      by_cases hw:(mayWake X.P a&&a'.status != .blocked&&a'.status != .waiting)=true
      ·refine⟨.w3,T.nat 1,?_,.inr ⟨rfl,rfl⟩,fun _ _=>by simp⟩;have:Go.Conc.woken X.P a a' w1 {g2 with status:=.blocked}=g2:=by
        unfold Go.Conc.woken;rw[if_pos hw];exact hag
       rw[this];exact .fQ (.w3 (m:=0) fun w2 k=>hb w2<|hr.trans k) fun w2 k=>hm w2<|hk.trans k
      ·refine⟨.blk,T.nat 0,?_,.inl ⟨rfl,rfl⟩,fun h1 h2=>?_⟩
       ·have:Go.Conc.woken X.P a a' w1 {g2 with status:=.blocked}={g2 with status:=.blocked}:=by
         unfold Go.Conc.woken;rw[if_neg hw]
        rw[this];exact .fQ (.blk fun w2 k=>hb w2<|hr.trans k) fun w2 k=>hm w2<|hk.trans k
       ·simp[h1,h2]at hw
variable [Payload]
variable{i st dd:Nat}{k:K}{l:List aj}
theorem bn.xM.rely(hR:∀k l v S w w1,bT k l v S w->aQ S (X.side k) w w1->bT k l v S w1)(h:X.xM ty n bT i k l S st τ dd g w)(hk:aQ S (X.side k) w w1)(hw:RW ty X.Wg X.C n 0 i w w1):X.xM ty n bT i k l S st τ dd g w1:=by
 cases h with
 |run h=>exact .run<|h.rely hk
 |KG h=>exact .KG<|h.rely hk
 |fin h=>exact .fin<|h.rely hk
 |done h hr=>exact .done (aCy (fun _ _ _ h1 h2=>h1.trans h2) h hw)<|hR _ _ _ _ _ _ hr hk
 |fQ h h6 hr hh=>exact .fQ (h.rely<|by simpa using hw) h6 (hR _ _ _ _ _ _ hr hk)<|hw.cell.trans hh
theorem bn.xM.status(F:X.Fit)(hF:∀S g w,X.Fin k l S g w->g.status=.running)(h:X.xM ty n bT i k l S st τ dd g w):g.status=.running\/(g.status=.finished/\st=1):=by
 cases h with
 |run h=>exact .inl (CY h fun S g w x=>let ⟨_,_,_,y⟩:=F _ _ _ _ _ x;y.run)
 |KG h=>exact .inl rfl
 |fin h=>exact .inl<|CY h fun S g w x=>hF S g w x
 |done h hr=>exact .inl<|aCw (fun _ _ x=>x.1) w (aCp w) h
 |fQ h h6 hr hh=>
  by_cases e:st=1
  ·exact h.status.imp id fun x=>⟨x,e⟩
  ·exact .inl<|h.running_of e
end
end eX
end
end Go.Proofs.YtkelpcjiediamaaGreat
