import Derived.Test.YtkelpcjiediamaaGreatQd6
set_option maxRecDepth 100000
set_option maxHeartbeats 0
set_option linter.all false
namespace Go.Proofs.YtkelpcjiediamaaGreat
def aEl:=@Go.Conc.Goes.cases
def aEo:=@Go.ConcN.RW.refl
def aEp:=@Go.Conc.aside_setCell
def aEv:=@Go.Conc.Goes.running
def aEx:=@Go.Conc.Goes.rely
def aEK:=@Go.Conc.lt_size_of_getElem?
def aEU:=@Go.Conc.again_running
def aFg:=@Go.ConcR.ofEvent_loc_mark
def aFm:=@Go.Conc.ofEvents_eq
def aFo:=@Go.Conc.g?_old
open Go renaming Frame→bu,Goroutine→bF,Program→eF,TypeId→dw,Value→az,World→aj,stepG→bD,undef→ai
open Option renaming none→af,some→ae
section
namespace fJ
open Go Go.Conc Twin
open Go.ConcN (upd upd_same upd_ne)
open Go.ConcR (stA smA)
section
variable{K:Type}{X:bK K}{End:List K->dD->aN->bF->aj->Prop}{o:Option Obj}{t0:Trace}{ts:List qP}{ks:List K}{gs:Array bF}{w w':aj}{t:Trace}{d:Nat}{E:dD}{S0 G:aN}{Sw:Nat->aN}{q:Nat->Nat}{bn:Nat->List az}{D:Nat->T}{τ:T}
 {sl:Option (Nat×Nat)}
def bK.Base.ah7{dW:Nat->Nat}(h:X.Base t0 ks gs w t d dW E S0 G Sw q){es:Array Event}(hG:je S0 E w w' es):
 (∀i k,ks[i]? =ae k->bg (Sw i) (X.side k) w w')/\∀b,X.Sp ks b->w'.heap[b]? =w.heap[b]? :=by
 refine⟨fun i k hk=>?_,fun b hb=>hG.still b (h.mem.low b hb) fun z=>(h.mem.rG b z).2.2.1 hb⟩;have hi:i<ks.length:=(dM.1 hk).1;exact ace hG (fun b hb=>⟨(h.mem.lN i hi b hb).1,(h.mem.lN i hi b hb).2.2.2.2⟩) fun b hb=>⟨(h.mem.tY b<|h.mem.yO i k hk b hb).1,fun z=>(h.mem.rG b z).2.1<|h.mem.yO i k hk b hb⟩
variable{a:bF}
def bK.Inv1.kC{D7:List qP}(h:X.Inv1 End o t0 ts ks gs w t d E S0 G Sw q bn D τ){d1:Nat}{E1:dD}{S1 G1:aN}{t1:Trace}{iL:T}(hb:X.Base t0 ks (gs.setIfInBounds 0 a) w' t1 d1 (fun _=>0) E1 S1 G1 Sw q)
 (xu:∀i,msgs D7 i=msgs ts i)(hm:X.Hz End D7 ks d1 E1 iL S1 a w')(hr:a.status=.running)(hK:∀i k,ks[i]? =ae k->bg (Sw i) (X.side k) w w')(hS:∀b,X.Sp ks b->b≠X.Wg->w'.heap[b]? =w.heap[b]?):
 X.Inv1 End o t0 D7 ks (gs.setIfInBounds 0 a) w' t1 d1 E1 S1 G1 Sw q bn D iL:=by
 have o8:=h.base.pos;have aI:0<gs.size:=by rw[h.base.size];omega
 refine⟨hb,⟨a,by rw[tq aI],hm⟩,fun i k hk=>?_,h.old,fun κ jC=>?_,?_,fun a' i v bs ha EH _=>?_,?_,h.none,fun i k hk=>by rw[xu];exact h.xQ i k hk⟩
 ·obtain⟨x,hx,hs⟩:=h.work i k hk;exact⟨x,by rw[iw<|by omega];exact hx,hs.rely<|hK i k hk⟩
 ·obtain⟨s,r,hc⟩:=h.rH κ jC;exact⟨s,r,by rw[hS _ (.inr<|.inr<|.inr ⟨κ,jC,rfl⟩) (h.base.iC.2.2.2.1 κ jC).1];exact hc⟩
 ·obtain⟨cap,s,r,hc⟩:=h.over;exact⟨cap,s,r,by rw[hS _ (.inr<|.inr<|.inl rfl)<|iW h.base.iC.2.1];exact hc⟩
 ·rw[tq aI]at ha;cases ha;rw[hr]at EH;cases EH
 ·rw[hS _ (.inr<|.inl rfl)<|iW h.base.iC.1];exact h.pay
def bK.Inv1.acm(F:X.Fit)(h:X.Inv1 End o t0 ts ks gs w t d E S0 G Sw q bn D τ)(ha:gs[0]? =ae a)(gU:a.status=.running):
 X.Sr End o t0 ts gs w sl t bn D τ 0\/(ts=[]/\d=0/\∀w1,bg S0 E w w1->End ks E S0 a w1):=by
 have o8:=h.base.pos;have aI:0<gs.size:=by rw[h.base.size];omega
 obtain⟨a',ha',hm⟩:=h.main;rw[ha]at ha';cases ha';generalize A8:τ=σ at hm;cases hm with
 |parked _ _ _ _=>simp[Go.Conc.parked]at gU
 | @run σ _ _ _ hT=>
   cases σ with
   |step f=>
    left;obtain⟨a',w2,es,hgo,hG,BG⟩:=hT.2 w<|bg.refl _ _ _;obtain⟨kW,kS⟩:=h.base.ah7 hG;have di:=h.still (w':=w2) F (fun κ jC=>let ⟨s,r,hc⟩:=h.rH κ jC;⟨s,r,by rw[kS _<|.inr<|.inr<|.inr ⟨κ,jC,rfl⟩];exact hc⟩) (let ⟨cap,s,r,hc⟩:=h.over;⟨cap,s,r,by rw[kS _<|.inr<|.inr<|.inl rfl];exact hc⟩) a a';have hr:=aEm (P:=X.P) (sl:=sl) (i:=0) ha hgo;rw[di]at hr;have Ve:a'.status=.running:=D6 BG fun S g w x=>x.running;refine⟨_,w2,_,ts,ks,d,E,_,G,Sw,q,bn,D,(f w).more,hr,h.kC (h.base.step0 hG (by simp) fun j h0 h1=>by rw[iw<|by omega]) (fun _=>rfl) (.run BG) Ve kW fun b hb _=>kS b hb,.inr ⟨rfl,by simp,.inr ⟨rfl,?_⟩⟩,fun _=>rfl⟩;exact T.Sj<|.mk f w
   |stop=>
    have hS:=hT w<|bg.refl _ _ _;cases ts with
    |nil=>exact .inr ⟨rfl,hS.1,fun w1 k=>(hT w1 k).2.2⟩
    |cons td bs=>
     left;cases td with
     |gK=>
      obtain⟨_,a',w2,es,hgo,hA,dS,hR⟩:=hS;have kW:∀i k,ks[i]? =ae k->bg (Sw i) (X.side k) w w2:=fun i k hk=>by
       obtain⟨_,_,n1,n2⟩:=h.base.Sv (b:=X.Wg)<|.inl rfl;exact⟨hA.tape,hA.os,hA.output,BM hA.size.symm,fun b hb=>hA.block b fun e=>n1 i (dM.1 hk).1<|e▸hb,fun b hb=>hA.block b fun e=>n2 i k hk<|e▸hb⟩
      have kS:∀b,X.Sp ks b->b≠X.Wg->w2.heap[b]? =w.heap[b]? :=fun b _ hb=>hA.block b hb;obtain⟨iL,SA⟩:=Jz hR;have di:=h.still (w':=w2) F (fun κ jC=>let ⟨s,r,hc⟩:=h.rH κ jC;⟨s,r,by rw[kS _ (.inr<|.inr<|.inr ⟨κ,jC,rfl⟩) (h.base.iC.2.2.2.1 κ jC).1];exact hc⟩) (let ⟨cap,s,r,hc⟩:=h.over;⟨cap,s,r,by rw[kS _ (.inr<|.inr<|.inl rfl)<|iW h.base.iC.2.1];exact hc⟩) a a';have hr:=aEm (P:=X.P) (sl:=sl) (i:=0) ha hgo;rw[di]at hr;exact⟨_,w2,_,bs,ks,_,E,S0,G,Sw,q,bn,D,iL.more,hr,h.kC (h.base.gK (acf h.base.pM hA) hA.size dS (by simp) fun j h0 h1=>by rw[iw<|by omega]) (fun _=>rfl) (.run SA) (D6 SA fun S g w x=>x.running) kW kS,.inl<|by simp,fun _=>rfl⟩
     |go=>
      obtain⟨rfl,_,a',child,k,Sk,E1,S1,hgo,hC,p1,p2,p3,p4,p5,p6,p7,p8,p9,IU,IV,hR⟩:=hS;obtain⟨σ,hσ⟩:=Jz hC;obtain⟨iL,SA⟩:=Jz hR;have hr:=runT_crowd_spawn (P:=X.P) (sl:=sl) (i:=0) ha hgo;have azB:(((MemOp.ofEvents 0 a.frame.fn a.frame.place #[]).push {g:=0,fn:=a.frame.fn,pos:=a.frame.place,act:=.go gs.size}).push {g:=gs.size,fn:=child.frame.fn,pos:=a.frame.place,act:=.start})=#[({g:=0,fn:=a.frame.fn,pos:=a.frame.place,act:=.go gs.size}:MemOp),{g:=gs.size,fn:=child.frame.fn,pos:=a.frame.place,act:=.start}]:=by
       rw[aFm];simp
      rw[azB]at hr;have CG:upd (fun _=>0) ks.length 0=(fun _=>0:Nat->Nat):=by funext x;unfold upd;split<;>rfl
      have IW:=h.base.spawn (child:=child) (g':=a') (fn:=a.frame.fn) (fn':=child.frame.fn) (pos:=a.frame.place) (pos':=a.frame.place) p1 p2 p3 p4 p5 p6 p7 p8 p9;rw[CG]at IW;have eH:=h.base.size;have Nv:∀j x,(ks++[k])[j]? =ae x->ks[j]? =ae x\/(j=ks.length/\x=k):=by
       intro j x hj;rcases E5 j ks.length with hl|hl
       ·rw[uz hl]at hj;exact .inl hj
       ·rw[xC hl]at hj;cases e:j-ks.length with
        |zero=>rw[e]at hj;simp at hj;exact .inr ⟨by omega,hj.symm⟩
        |succ n=>rw[e]at hj;simp at hj
      refine⟨_,w,_,bs,ks++[k],0,E1,S1,_,_,q,bn,upd D gs.size σ.more,iL.more,hr,⟨IW,⟨a',by rw[QM,if_neg (by simp<;>omega),tq aI],.run SA⟩,fun i x hi=>?_,fun j h0 h1=>by rw[aD8 _ _<|by omega];exact h.old j h0 h1,fun κ jC=>?_,h.over,fun a2 i v bs2 ZG rQ _=>?_,h.pay,fun i hi=>h.none i (by simp at hi;omega),fun i x hi=>?_⟩,.inl<|by simp,fun _=>rfl⟩
      ·rcases Nv i x hi with hi|⟨rfl,rfl⟩
       ·have lL:=(dM.1 hi).1;obtain⟨y,hy,hs⟩:=h.work i x hi;refine⟨y,by rw[QM,if_neg (by simp<;>omega),iw<|by omega];exact hy,?_⟩;rw[aD8 Sw _<|by omega,aD8 D _<|by omega];exact hs
       ·refine⟨child,by rw[QM,if_pos (by simp<;>omega)],?_⟩;rw[aD5,<-eH,aD5,h.none ks.length<|dm _];exact .run hσ
      ·rcases oP.1 jC with jC|jC
       ·exact h.rH κ jC
       ·simp at jC;subst jC;exact IU
      ·rw[QM,if_neg (by simp<;>omega),tq aI]at ZG;cases ZG;have:=D6 SA fun S g w x=>x.running;rw[this]at rQ;cases rQ
      ·rcases Nv i x hi with hi|⟨rfl,rfl⟩
       ·exact h.xQ i x hi
       ·rw[h.none ks.length<|dm _];exact IV
     |send i v=>
      obtain⟨rfl,_,k,z,Xt,hk,hgo,hR⟩:=hS;have o7:=gz hk;have hi:i<ks.length:=(dM.1 hk).1;obtain⟨s,r,hc⟩:=h.rH k o7;obtain⟨x,hx,hs⟩:=h.work i k hk;have Vf:∀j y,j≠X.m0+i->(gs.setIfInBounds 0 ph)[j]? =ae y->offersAt y (X.ch k) false=[]:=by
       intro j y hj hy;rcases aE7 gs _ j y hy with⟨_,rfl⟩|⟨dh,hy⟩
       ·rfl
       ·rcases h.base.Fq hy with rfl|⟨h1,h2⟩|⟨i',k',rfl,dN⟩
        ·exact absurd rfl dh
        ·rcases(h.base.old j y h1 h2 hy).status with hs|hs<;>exact aEa (by rw[hs];simp) _ _
        ·obtain⟨y',KF,hs⟩:=h.work i' k' dN;rw[hy]at KF;cases KF;rcases hs.status F with hs|⟨g0,z0,z1,sh,rfl,_⟩
         ·exact aEa (by rw[hs];simp) _ _
         ·refine offersAt_parked_off (fun cc qi=>?_) _;simp only[bK.cs,tu,jR,pF,pG]at qi;rcases qi with rfl|rfl
          ·intro e;simp[rcase]at e;have:=h.base.iC.2.2.2.2 i' i k' k dN hk e;exact hj<|by rw[this]
          ·intro e;simp[rcase]at e;exact(h.base.iC.2.2.2.1 k o7).2.2 e.symm
      rcases hs.status F with Fe|⟨gw,z0,z1,sh,rfl,hW⟩
      ·
       have hr:=crowd_waits (P:=X.P) (sl:=sl) (i:=0) (w:=w) (w₁:=w) ha hgo (by
        intro cc qi;simp only[tu,jR,pF,pG]at qi;subst qi;refine ways_send_none hc (by simp)<|partners_nil fun j y hy=>?_;by_cases e:j=X.m0+i
        ·subst e;rw[iw<|by omega,hx]at hy;cases hy;exact aEa (by rw[Fe];simp) _ _
        ·exact Vf j y e hy)
       refine⟨_,w,_,.send i v::bs,ks,0,E,S0,G,Sw,q,bn,D,.stop,hr,⟨h.base.quiet h.base.pM rfl (Sz _ _ _ _ _) (by simp) fun j h0 h1=>by rw[iw<|by omega],⟨_,by rw[tq aI],.parked rfl rfl hk hR⟩,fun i' k' dN=>?_,h.old,h.rH,h.over,fun a2 i2 v2 bs2 _ _ he=>?_,h.pay,h.none,h.xQ⟩,.inr ⟨rfl,by simp,.inr ⟨rfl,T.ahZ⟩⟩,fun _=>rfl⟩
       ·obtain⟨y,hy,hs⟩:=h.work i' k' dN;exact⟨y,by rw[iw<|by omega];exact hy,hs⟩
       ·simp at he;obtain⟨⟨rfl,_⟩,_⟩:=he;exact⟨x,by rw[iw<|by omega];exact hx,Fe⟩
      ·
       have hp:partners (gs.setIfInBounds 0 ph) (X.ch k) false=[(X.m0+i,0)]:=by
        have:=partners_one (gs:=gs.setIfInBounds 0 ph) (r:=X.ch k) (send:=false) (j:=X.m0+i) (by rw[iw<|by omega];exact hx) fun j y hj hy=>Vf j y hj hy;rw[this,offersAt_parked_at (k:=0) (z:=z0) (by simp[bK.cs]) (fun m cc hm qi=>by
         match m,hm,qi with
         |0,hm,_=>exact absurd rfl hm
         |1,_,qi=>
          simp[bK.cs]at qi;subst qi;intro e;simp[rcase]at e;exact(h.base.iC.2.2.2.1 k o7).2.2 e.symm
         |m+2,_,qi=>simp[bK.cs]at qi)]
        rfl
       have hr:=crowd_send_meets_sel (P:=X.P) (sl:=sl) (i:=0) (j:=X.m0+i) (w:=w) (w₁:=w) (k:=0) (zj:=z0) ha hgo hc (by omega) hx (by simp[bK.cs]) hp;have nK:X.ch k<w.heap.size:=h.base.mem.low _<|.inr<|.inr<|.inr ⟨k,o7,rfl⟩;have lL:X.m0+i<gs.size:=by rw[h.base.size];omega
       obtain⟨D1,iL,hI⟩:=h.met hk hW hR (gs1:=(gs.setIfInBounds (X.m0+i)<|gw.finishComm X.P (X.cs k z0 z1) sh 0 v true).setIfInBounds 0<|a.finishComm X.P #[scase (X.ch k) v z] Xt 0 ai false) (by simp)
        (by rw[tq<|by simpa using aI]) (by rw[iw<|by omega,tq lL]) (fun j h0 h1=>by rw[iw<|iW h0,iw<|iW h1])
        (u:=MemOp.ofEvents 0 a.frame.fn a.frame.place #[]++ #[{g:=0,fn:=a.frame.fn,pos:=a.frame.place,act:=.send (X.ch k) s},{g:=X.m0+i,fn:=gw.frame.fn,pos:=gw.frame.place,act:=.recv (X.ch k) r 0},
          {g:=0,fn:=a.frame.fn,pos:=a.frame.place,act:=.sendDone (X.ch k) s},{g:=X.m0+i,fn:=gw.frame.fn,pos:=gw.frame.place,act:=.recvDone (X.ch k) r}]) (by
          intro op aO;rcases Jd.1 aO with aO|aO
          ·exact Sz _ _ _ _ _ op aO
          ·simp only[tu,jR,pF,pG]at aO;rcases aO with rfl|rfl|rfl|rfl<;>exact⟨rfl,nK,by simp,by simp,by simp⟩) (s+1) (r+1)
       refine⟨_,_,_,bs,ks,0,E,S0,G,Sw,q,_,D1,iL,hr,hI,.inl<|by simp,fun j=>?_⟩;by_cases e:j=i
       ·subst e;rw[aD5];simp[msgs]
       ·rw[aD8 _ _ e];simp[msgs,e]
def bK.Inv1.acn(F:X.Fit)(h:X.Inv1 End o t0 ts ks gs w t d E S0 G Sw q bn D τ){i:Nat}{g:bF}(h0:0<i)(hi:i<X.m0)(hg:gs[i]? =ae g)(gU:g.status=.running):X.Sr End o t0 ts gs w sl t bn D τ i:=by
 have hq:=h.base.old i g h0 hi hg;have aI:i<gs.size:=(jk.1 hg).1;have og:(i==0)=false:=by simp<;>omega
 cases uV:q i with
 |zero=>rw[uV]at hq;rw[hq.1]at gU;cases gU
 |succ n=>
  rw[uV]at hq;rcases hq with⟨hf,_⟩|⟨_,g',es,hm,di,sQ⟩
  ·rw[hf]at gU;cases gU
  have hr:=aEm (P:=X.P) (sl:=sl) (i:=i) hg (by rw[og];exact di w);have hb:=h.base.leave (fn:=g.frame.fn) (pos:=g.frame.place) h0 hi hm sQ g g' w;have di:=h.still (w':=w) F h.rH h.over g g';rw[di]at hr hb;refine⟨_,w,_,ts,ks,d,E,S0,G,Sw,upd q i n,bn,upd D i<|T.nat n,τ,hr,⟨hb,?_,fun i' k' dN=>?_,fun j j0 j1=>?_,h.rH,h.over,fun a i' v bs ha' iT he=>?_,h.pay,h.none,h.xQ⟩,.inr ⟨rfl,by simp,.inl ⟨i,aI,?_,fun j hj=>aD8 _ _ hj⟩⟩,fun _=>rfl⟩
  ·obtain⟨a,ha,hm⟩:=h.main;exact⟨a,by rw[iw<|by omega];exact ha,hm⟩
  ·obtain⟨y,hy,hs⟩:=h.work i' k' dN;exact⟨y,by rw[iw<|by omega];exact hy,by rw[aD8 D _<|by omega];exact hs⟩
  ·by_cases e:j=i
   ·subst e;rw[aD5,aD5]
   ·rw[aD8 D _ e,aD8 q _ e];exact h.old j j0 j1
  ·rw[iw<|by omega]at ha';obtain⟨y,hy,hr⟩:=h.pair a i' v bs ha' iT he;exact⟨y,by rw[iw<|by omega];exact hy,hr⟩
  ·rw[aD5,h.old i h0 hi,uV];exact T.Jy n
def bK.Inv1.awake(F:X.Fit)(h:X.Inv1 End o t0 ts ks gs w t d E S0 G Sw q bn D τ):∀g∈gs,awake g:=by
 intro g hg;obtain⟨j,hj⟩:=amV.1 hg;rcases h.base.Fq hj with rfl|⟨h1,h2⟩|⟨i,k,rfl,hk⟩
 ·obtain⟨a,ha,hm⟩:=h.main;rw[hj]at ha;cases ha;rcases hm.status with hs|⟨_,_,_,_,_,_,_,rfl,_⟩
  ·exact aEs<|.inl hs
  ·exact aEs<|.inr<|.inl rfl
 ·exact aEs<|(h.base.old j g h1 h2 hj).status.elim .inl fun x=>.inr<|.inr x
 ·obtain⟨y,hy,hs⟩:=h.work i k hk;rw[hj]at hy;cases hy;rcases hs.status F with hs|⟨_,_,_,_,rfl,_⟩
  ·exact aEs<|.inl hs
  ·exact aEs<|.inr<|.inl rfl
def bK.Inv1.aco(h:X.Inv1 End o t0 ts ks gs w t d E S0 G Sw q bn D τ):∃(i:Nat) (g:bF),gs[i]? =ae g/\g.status=.running:=by
 obtain⟨a,ha,hm⟩:=h.main;rcases hm.status with hs|⟨i,v,k,z,sh,g0,bs,rfl,he,hk⟩
 ·exact⟨0,a,ha,hs⟩
 ·obtain⟨g,hg,hr⟩:=h.pair _ i v bs ha rfl he;exact⟨_,g,hg,hr⟩
def bK.ar1(F:X.Fit):∀(A N:Nat) (D:Nat->T) (τ:T) {ts:List qP} {ks:List K} {gs:Array bF} {w:aj} {sl:Option (Nat×Nat)} {t:Trace} {d:Nat} {E:dD} {S0 G:aN} {Sw:Nat->aN} {q:Nat->Nat} {bn:Nat->List az},ts.length=A->gs.size=N->X.Inv1 End o t0 ts ks gs w t d E S0 G Sw q bn D τ->
 ∃M gs1 w1 kM t1 dd l9 yP E1 S1 G1 vG q1 zS D1 iL a,runNT X.P M (crowd gs w sl) t=(.next<|crowd gs1 w1 kM,t1)/\stepT X.P (crowd gs1 w1 kM)=runT X.P (crowd gs1 (w1.at dd) l9) 0/\X.Inv1 End o t0 [] yP gs1 (w1.at dd) t1 0 E1 S1 G1 vG q1 zS D1 iL/\gs1[0]? =ae a/\a.status=.running/\End yP E1 S1 a (w1.at dd)/\∀i,zS i=bn i++msgs ts i:=by
 refine arU ?_;intro A N D τ LU ihV LV ts ks gs w sl t d E S0 G Sw q bn hA hN h;obtain⟨i,g,dd,sl',hi,hg,di⟩:=aFf (P:=X.P) (w:=w) (sl:=sl) (h.awake F) h.aco;have h':=h.at dd;have key:X.Sr End o t0 ts gs (w.at dd) sl' t bn D τ i->∃M gs1 w1 kM t1 dd l9 yP E1 S1 G1 vG q1 zS D1 iL a,runNT X.P M (crowd gs w sl) t=(.next<|crowd gs1 w1 kM,t1)/\stepT X.P (crowd gs1 w1 kM)=runT X.P (crowd gs1 (w1.at dd) l9) 0/\X.Inv1 End o t0 [] yP gs1 (w1.at dd) t1 0 E1 S1 G1 vG q1 zS D1 iL/\gs1[0]? =ae a/\a.status=.running/\End yP E1 S1 a (w1.at dd)/\∀i,zS i=bn i++msgs ts i:=by
  rintro⟨gs1,w1,ops,D7,yP,d1,E1,S1,G1,vG,q1,zS,D1,iL,hr,hI,aI,aaz⟩;have fin:(∃M ni w2 l9 t2 SB Vg Xu E2 S2 G2 LZ q2 Xv D2 D9 a,runNT X.P M (crowd gs1 w1 sl') (t++ops)=(.next<|crowd ni w2 l9,t2)/\stepT X.P (crowd ni w2 l9)=runT X.P (crowd ni (w2.at SB) Vg) 0/\X.Inv1 End o t0 [] Xu ni (w2.at SB) t2 0 E2 S2 G2 LZ q2 Xv D2 D9/\ni[0]? =ae a/\a.status=.running/\End Xu E2 S2 a (w2.at SB)/\∀i,Xv i=zS i++msgs D7 i)->
   ∃M gs1 w1 kM t1 dd l9 yP E1 S1 G1 vG q1 zS D1 iL a,runNT X.P M (crowd gs w sl) t=(.next<|crowd gs1 w1 kM,t1)/\stepT X.P (crowd gs1 w1 kM)=runT X.P (crowd gs1 (w1.at dd) l9) 0/\X.Inv1 End o t0 [] yP gs1 (w1.at dd) t1 0 E1 S1 G1 vG q1 zS D1 iL/\gs1[0]? =ae a/\a.status=.running/\End yP E1 S1 a (w1.at dd)/\∀i,zS i=bn i++msgs ts i:=by
   rintro⟨M,ni,w2,l9,t2,SB,Vg,Xu,E2,S2,G2,LZ,q2,Xv,D2,D9,a,r1,r0,r2,r3,r4,r5,r6⟩;refine⟨M+1,ni,w2,l9,t2,SB,Vg,Xu,E2,S2,G2,LZ,q2,Xv,D2,D9,a,?_,r0,r2,r3,r4,r5,fun i=>by rw[r6,aaz]⟩;simp only[runNT,di,hr];exact r1
  rcases aI with hl|⟨hl,hs,hv|⟨rfl,A8⟩⟩
  ·exact fin<|LU D7.length gs1.size D1 iL (by omega) (sl:=sl') rfl rfl hI
  ·exact fin<|ihV D1 iL (hN▸hv) (sl:=sl') (by omega) (by omega) hI
  ·exact fin<|LV iL A8 (sl:=sl') (by omega) (by omega) hI
 rcases h'.base.Fq hi with rfl|⟨h1,h2⟩|⟨i,k,rfl,hk⟩
 ·rcases h'.acm (sl:=sl') F hi hg with hn|⟨rfl,rfl,hE⟩
  ·exact key hn
  ·exact⟨0,gs,w,sl,t,dd,sl',ks,E,S0,G,Sw,q,bn,D,τ,g,rfl,di,h',hi,hg,hE _<|bg.refl _ _ _,fun i=>by simp[msgs]⟩
 ·exact key<|h'.acn F h1 h2 hi hg
 ·exact key<|h'.arZ F hk hi hg
end
end fJ
end
section
namespace fJ
open Go Go.Conc Twin
open Go.ConcN (upd upd_same upd_ne WgLive PayAt Has RW DWs AtR0 AtK1 WSit WD CTag Vc cnt sumTo RelBy)
open Go.ConcR (stA smA rd wr KK WgAt DC0 Payload)
section
variable [Payload]
def CJ:Nat->Loc->Prop:=fun _ _=>False
variable{K:Type}(X:bK K)(ty:dw)(n:Nat)
structure bK.Bc(i:Nat)(v:az)(g:bF)(w:aj):Prop where
 run:g.status=.running
 st:WgLive ty X.Wg w->PayAt X.C n w->∃g',bD X.P false g w=.go g' (w.setCell ⟨X.C,i,af⟩ v) #[⟨.cell ⟨X.C,i,af⟩,true,false⟩]/\
  ∃m,Goes X.P false (RW ty X.Wg X.C n 0 i) DC0 (AtR0 X.P ty X.Wg X.C n 0 (i+1) v) m g'<|w.setCell ⟨X.C,i,af⟩ v
def RL(ty:dw)(Wg:Nat)(w w1:aj):Prop:=WgLive ty Wg w->WgLive ty Wg w1
variable(dH:bF)(Anch:bF->aj->Prop)
def bK.AtRet(g:bF)(_w:aj):Prop:=g=dH
def bK.AtAcq(g:bF)(w:aj):Prop:=
 g.status=.running/\∃g',bD X.P true g w=.go g' w #[Go.ConcR.mk<|.acquire<|stA X.Wg]/\∃m,Goes X.P true (RL ty X.Wg) DC0 (bK.AtRet dH) m g' w
def bK.AtKe(g:bF)(w:aj):Prop:=
 g.status=.running/\∃g',bD X.P true g w=.go g' w #[Go.ConcR.mk .enable]/\∃m,Goes X.P true (RL ty X.Wg) DC0 (X.AtAcq ty dH) m g' w
def bK.AtW4(g:bF)(w:aj):Prop:=
 g.status=.running/\(WgAt ty X.Wg w 0 0->∃g',bD X.P true g w=.go g' w #[rd<|stA X.Wg]/\∃m,Goes X.P true (RL ty X.Wg) DC0 (X.AtKe ty dH) m g' w)
def bK.AtW3(g:bF)(w:aj):Prop:=
 g.status=.running/\g.offers=af/\((∃st,WgAt ty X.Wg w st 0)->bD X.P true g w=.go {g with status:=.blocked} w #[])/\
  (WgAt ty X.Wg w 0 1->∃g',bD X.P true g w=.go g' (w.setCell (smA X.Wg)<|.int .u32 0) (semEvents<|smA X.Wg)/\∃m,Goes X.P true (RL ty X.Wg) DC0 (X.AtW4 ty dH) m g'<|w.setCell (smA X.Wg)<|.int .u32 0)
def bK.ah8(g:bF)(w:aj):Prop:=
 g.status=.running/\∃g',bD X.P true g w=.go g' w #[⟨.mark<|.write<|smA X.Wg,false,true⟩]/\∃m,Goes X.P true (RL ty X.Wg) DC0 (X.AtW3 ty dH) m g' w
def bK.AtW2(vs:Nat)(g:bF)(w:aj):Prop:=
 g.status=.running/\∀v:Nat,v<2147483648->WgAt ty X.Wg w (v*KK) 0->
  (v=vs->∃g',bD X.P true g w=.go g' (w.setCell (stA X.Wg)<|.int .u64<|v*KK+1) #[rd<|stA X.Wg,wr<|stA X.Wg]/\∃m,Goes X.P true (RL ty X.Wg) DC0 (X.ah8 ty dH) m g'<|w.setCell (stA X.Wg)<|.int .u64<|v*KK+1)/\
  (v≠vs->∃g',bD X.P true g w=.go g' w #[rd<|stA X.Wg]/\∃m,Goes X.P true (RL ty X.Wg) DC0 Anch m g' w)
def bK.AtW1(g:bF)(w:aj):Prop:=
 g.status=.running/\∀v:Nat,v<2147483648->WgAt ty X.Wg w (v*KK) 0->∃g',bD X.P true g w=.go g' w #[rd<|stA X.Wg]/\
  (v=0->∃m,Goes X.P true (RL ty X.Wg) DC0 (X.AtKe ty dH) m g' w)/\(v≠0->∃m,Goes X.P true (RL ty X.Wg) DC0 (X.AtW2 ty dH Anch v) m g' w)
def bK.AtKd(g:bF)(w:aj):Prop:=
 g.status=.running/\(WgLive ty X.Wg w->∃g',bD X.P true g w=.go g' w #[Go.ConcR.mk .disable]/\∃m,Goes X.P true (RL ty X.Wg) DC0 Anch m g' w)
inductive ji where
 |pre|anch|w1|w2 (vs:Nat)|wr|w3|blk|w4|ke|acq|ret
def ji.c:ji->CTag
 | .pre=>.kd
 | .anch=>.anch
 | .w1=>.w1
 | .w2 vs=>.w2 vs
 | .wr=>.w3
 | .w3=>.w3
 | .blk=>.blk
 | .w4=>.w4
 | .ke=>.ke
 | .acq=>.acq
 | .ret=>.ret
def ji.phi(n v:Nat):ji->Nat
 | .pre=>8*n+7
 | .anch=>8*v+6
 | .w1=>8*v+5
 | .w2 vs=>8*vs+4
 | .wr=>6
 | .w3=>5
 | .blk=>5
 | .w4=>4
 | .ke=>3
 | .acq=>2
 | .ret=>1
def ji.deaf:ji->Nat
 | .pre| .acq| .ret=>0
 |_=>1
inductive bK.vH:ji->Nat->bF->aj->Prop where
 |anch {m g w} (h:Goes X.P true (RL ty X.Wg) DC0 Anch m g w):vH .anch m g w
 |w1 {m g w} (h:Goes X.P true (RL ty X.Wg) DC0 (X.AtW1 ty dH Anch) m g w):vH .w1 m g w
 |w2 {m g w vs} (h:Goes X.P true (RL ty X.Wg) DC0 (X.AtW2 ty dH Anch vs) m g w):vH (.w2 vs) m g w
 |wr {m g w} (h:Goes X.P true (RL ty X.Wg) DC0 (X.ah8 ty dH) m g w):vH .wr m g w
 |w3 {m g w} (h:Goes X.P true (RL ty X.Wg) DC0 (X.AtW3 ty dH) m g w):vH .w3 (m+1) g w
 |blk {g w} (h:∀w1,RL ty X.Wg w w1->X.AtW3 ty dH g w1):vH .blk 0 {g with status:=.blocked} w
 |w4 {m g w} (h:Goes X.P true (RL ty X.Wg) DC0 (X.AtW4 ty dH) m g w):vH .w4 m g w
 |ke {m g w} (h:Goes X.P true (RL ty X.Wg) DC0 (X.AtKe ty dH) m g w):vH .ke m g w
 |acq {m g w} (h:Goes X.P true (RL ty X.Wg) DC0 (X.AtAcq ty dH) m g w):vH .acq m g w
 |ret {m g w} (h:Goes X.P true (RL ty X.Wg) DC0 (bK.AtRet dH) m g w):vH .ret m g w
variable(Mid:aN->aj->Prop)
inductive bK.CO(E:dD)(S0:aN):ji->T->bF->aj->Prop where
 |pre {τ g w} (h:CE X.P true E (fun S g w=>X.AtKd ty Anch g w/\Mid S w) τ S0 g w):CO E S0 .pre τ.more g w
 |gK {tag f g w} (h:X.vH ty dH Anch tag f g w) (hm:∀w1,bg S0 E w w1->Mid S0 w1):CO E S0 tag (T.nat f) g w
variable(cZ:K->List az->az->aN->aj->Prop)
inductive bK.yQ(i:Nat)(k:K)(l:List az)(S:aN):Nat->T->Nat->bF->aj->Prop where
 |run {τ g w} (h:CE X.P false (X.side k) (X.Hu k l) τ S g w):yQ i k l S 9 τ.more 0 g w
 |L6 {g z0 z1 sh w} (h:X.sH k l S g z0 z1 sh w):yQ i k l S 9 T.stop.more 0 {Go.Conc.parked g (X.cs k z0 z1) sh with status:=.running} w
 |fin {τ g w} (h:CE X.P false (X.side k) (X.Fin k l) τ S g w):yQ i k l S 8 τ.more 0 g w
 |done {v m g w} (h:Goes X.P false (RW ty X.Wg X.C n 0 i) DC0 (AtR0 X.P ty X.Wg X.C n 0 (i+1) v) m g w) (hr:cZ k l v S w):yQ i k l S 7 (T.nat m) 0 g w
 |gK {v s m dd g w} (h:WSit X.P ty X.Wg X.C n CJ CJ 0 (i+1) v s m dd g w) (h6:s<=6) (hr:cZ k l v S w) (hh:Has X.C i v w):yQ i k l S s (T.nat m) dd g w
structure vI(Wg:Nat)(t:Trace)(k r:Nat):Prop where
 rel:RelBy (stA Wg) t k r
 after:∀i,r<i->t.g? i=ae k->∀a,touchAt t i=ae a->(∃ad,a.loc=.cell ad/\ad.block=Wg)/\a.kind=.atomic
def Fv(B Wg m0 n:Nat)(t:Trace):Prop:=
 ∃q,t.act? q=ae (.mark<|.acquire<|stA Wg)/\t.g? q=ae 0/\t.heard q/\∀i,i<n->∃r,vI Wg t (m0+i) r/\r<q/\B<=r
def fP(st:Nat->Nat):Nat->WD:=fun i=>⟨min (st i) 7,0,0⟩
structure bK.Inv2(t0:Trace)(ks:List K)(gs:Array bF)(w:aj)(t:Trace)(tag:ji)(dW:Nat->Nat)(E:dD)(S0 G:aN)(Sw:Nat->aN)(q:Nat->Nat)(bn:Nat->List az)(st:Nat->Nat)(D:Nat->T)(τ:T):Prop where
 base:X.Base t0 ks gs w t tag.deaf dW E S0 G Sw q
 len:ks.length=n
 L8:¬E.ro X.Wg
 main:∃a,gs[0]? =ae a/\X.CO ty dH Anch Mid E S0 tag τ a w
 work:∀(i:Nat) (k:K),ks[i]? =ae k->∃g,gs[X.m0+i]? =ae g/\X.yQ ty n cZ i k (bn i) (Sw i) (st i) (D<|X.m0+i) (dW i) g w
 old:∀i,0<i->i<X.m0->D i=T.nat (q i)
 rH:∀k∈ks,∃s r,w.heap[X.ch k]? =ae (.chan 0 #[] false s r false)
 over:∃cap s r,w.heap[X.ov]? =ae (.chan cap #[] true s r false)
 wg:∃a b,WgAt ty X.Wg w a b/\Go.ConcN.Mode n (fP st) tag.c a b
 pay:PayAt X.C n w
 rel:∀i,i<n->st i<=6->∃r,vI X.Wg t (X.m0+i) r/\t0.size<=r
 acq:tag=.ret->Fv t0.size X.Wg X.m0 n t
end
section
variable{K:Type}{X:bK K}{ty:dw}{n:Nat}{dH:bF}{Anch:bF->aj->Prop}{Mid:aN->aj->Prop}{cZ:K->List az->az->aN->aj->Prop}{E:dD}{S0 S:aN}{tag:ji}{τ:T}{g a a':bF}{w w1:aj}{f:Nat}
theorem RL.trans{w2:aj}{Wg:Nat}(h:RL ty Wg w w1)(k:RL ty Wg w1 w2):RL ty Wg w w2:=k∘h
theorem H9(Wg:Nat):∀a b c:aj,RL ty Wg a b->RL ty Wg b c->RL ty Wg a c:=fun _ _ _ h k=>k∘h
theorem bK.vH.rely(h:X.vH ty dH Anch tag f g w)(hr:RL ty X.Wg w w1):X.vH ty dH Anch tag f g w1:=by
 cases h with
 |anch h=>exact .anch<|aEx (H9 X.Wg) h hr
 |w1 h=>exact .w1<|aEx (H9 X.Wg) h hr
 |w2 h=>exact .w2<|aEx (H9 X.Wg) h hr
 |wr h=>exact .wr<|aEx (H9 X.Wg) h hr
 |w3 h=>exact .w3<|aEx (H9 X.Wg) h hr
 |blk h=>exact .blk fun w2 k=>h w2<|hr.trans k
 |w4 h=>exact .w4<|aEx (H9 X.Wg) h hr
 |ke h=>exact .ke<|aEx (H9 X.Wg) h hr
 |acq h=>exact .acq<|aEx (H9 X.Wg) h hr
 |ret h=>exact .ret<|aEx (H9 X.Wg) h hr
theorem bK.vH.status(hA:∀g w,Anch g w->g.status=.running)(hE:dH.status=.running)(h:X.vH ty dH Anch tag f g w):(g.status=.running/\tag≠.blk)\/(tag=.blk/\∃g0:bF,g={g0 with status:=.blocked}/\g0.status=.running/\g0.offers=af):=by
 have refl:RL ty X.Wg w w:=id;cases h with
 |anch h=>exact .inl ⟨aEv hA w refl h,by simp⟩
 |w1 h=>exact .inl ⟨aEv (fun _ _ x=>x.1) w refl h,by simp⟩
 |w2 h=>exact .inl ⟨aEv (fun _ _ x=>x.1) w refl h,by simp⟩
 |wr h=>exact .inl ⟨aEv (fun _ _ x=>x.1) w refl h,by simp⟩
 |w3 h=>exact .inl ⟨aEv (fun _ _ x=>x.1) w refl h,by simp⟩
 |blk h=>exact .inr ⟨rfl,_,rfl,(h w refl).1,(h w refl).2.1⟩
 |w4 h=>exact .inl ⟨aEv (fun _ _ x=>x.1) w refl h,by simp⟩
 |ke h=>exact .inl ⟨aEv (fun _ _ x=>x.1) w refl h,by simp⟩
 |acq h=>exact .inl ⟨aEv (fun _ _ x=>x.1) w refl h,by simp⟩
 |ret h=>exact .inl ⟨aEv (fun _ _ x=>by rw[show _=dH from x];exact hE) w refl h,by simp⟩
theorem bK.CO.rely(h:X.CO ty dH Anch Mid E S0 tag τ g w)(hk:bg S0 E w w1)(hr:RL ty X.Wg w w1):X.CO ty dH Anch Mid E S0 tag τ g w1:=by
 cases h with
 |pre h=>exact .pre<|h.rely hk
 |gK h hm=>exact .gK (h.rely hr) fun w2 k=>hm w2<|hk.trans k
theorem bK.CO.status(hA:∀g w,Anch g w->g.status=.running)(hE:dH.status=.running)(h:X.CO ty dH Anch Mid E S0 tag τ g w):(g.status=.running/\tag≠.blk)\/(tag=.blk/\∃g0:bF,g={g0 with status:=.blocked}/\g0.status=.running/\g0.offers=af):=by
 cases h with
 |pre h=>exact .inl ⟨D6 h fun S g w x=>x.1.1,by simp⟩
 |gK h hm=>exact h.status hA hE
theorem bK.CO.woken(hA:∀g w,Anch g w->g.status=.running)(hE:dH.status=.running)(h:X.CO ty dH Anch Mid E S0 tag τ g w)(hk:bg S0 E w w1)(hr:RL ty X.Wg w w1)(a a':bF):
 ∃jf oD,X.CO ty dH Anch Mid E S0 jf oD (Go.Conc.woken X.P a a' w1 g) w1/\((jf=tag/\oD=τ)\/(tag=.blk/\jf=.w3))/\(mayWake X.P a=true->a'.status=.running->jf≠.blk):=by
 rcases h.status hA hE with⟨hs,dh⟩|⟨rfl,g0,rfl,zg,ho⟩
 ·exact⟨tag,τ,by rw[aFj hs];exact h.rely hk hr,.inl ⟨rfl,rfl⟩,fun _ _=>dh⟩
 ·cases h with
  | @gK _ f _ _ h hm=>
    generalize hg:({g0 with status:=.blocked}:bF)=g1 at h;cases h with
    | @blk g2 _ hb=>
      have hag:(({g2 with status:=.blocked}:bF)).again w1=g2:=by
       have Vh:=(hb w id).2.1;have Dx:=(hb w id).1;obtain⟨fr,cs,stt,dy,off⟩:=g2;simp only at Vh Dx;subst Vh Dx;simp[Goroutine.again]
      by_cases hw:(mayWake X.P a&&a'.status != .blocked&&a'.status != .waiting)=true
      ·refine⟨.w3,T.nat 1,?_,.inr ⟨rfl,rfl⟩,fun _ _=>by simp⟩;have:Go.Conc.woken X.P a a' w1 {g2 with status:=.blocked}=g2:=by
        unfold Go.Conc.woken;rw[if_pos hw];exact hag
       rw[this];exact .gK (.w3 (m:=0) fun w2 k=>hb w2<|hr.trans k) fun w2 k=>hm w2<|hk.trans k
      ·refine⟨.blk,T.nat 0,?_,.inl ⟨rfl,rfl⟩,fun h1 h2=>?_⟩
       ·have:Go.Conc.woken X.P a a' w1 {g2 with status:=.blocked}={g2 with status:=.blocked}:=by
         unfold Go.Conc.woken;rw[if_neg hw]
        rw[this];exact .gK (.blk fun w2 k=>hb w2<|hr.trans k) fun w2 k=>hm w2<|hk.trans k
       ·simp[h1,h2]at hw
variable [Payload]
variable{i st dd:Nat}{k:K}{l:List az}
theorem bK.yQ.rely(hR:∀k l v S w w1,cZ k l v S w->bg S (X.side k) w w1->cZ k l v S w1)(h:X.yQ ty n cZ i k l S st τ dd g w)(hk:bg S (X.side k) w w1)(hw:RW ty X.Wg X.C n 0 i w w1):X.yQ ty n cZ i k l S st τ dd g w1:=by
 cases h with
 |run h=>exact .run<|h.rely hk
 |L6 h=>exact .L6<|h.rely hk
 |fin h=>exact .fin<|h.rely hk
 |done h hr=>exact .done (aEx (fun _ _ _ h1 h2=>h1.trans h2) h hw)<|hR _ _ _ _ _ _ hr hk
 |gK h h6 hr hh=>exact .gK (h.rely<|by simpa using hw) h6 (hR _ _ _ _ _ _ hr hk)<|hw.cell.trans hh
theorem bK.yQ.status(F:X.Fit)(hF:∀S g w,X.Fin k l S g w->g.status=.running)(h:X.yQ ty n cZ i k l S st τ dd g w):g.status=.running\/(g.status=.finished/\st=1):=by
 cases h with
 |run h=>exact .inl (D6 h fun S g w x=>let ⟨_,_,_,y⟩:=F _ _ _ _ _ x;y.run)
 |L6 h=>exact .inl rfl
 |fin h=>exact .inl<|D6 h fun S g w x=>hF S g w x
 |done h hr=>exact .inl<|aEv (fun _ _ x=>x.1) w (aEo w) h
 |gK h h6 hr hh=>
  by_cases e:st=1
  ·exact h.status.imp id fun x=>⟨x,e⟩
  ·exact .inl<|h.running_of e
end
end fJ
end
section
namespace fJ
open Go Go.Conc Twin
open Go.ConcN (upd upd_same upd_ne WgLive PayAt Has RW DWs AtR0 AtK1 WSit WD CTag Vc cnt sumTo RelBy sumTo_upd sumTo_congr cell_of_block AsideCell)
open Go.ConcR (stA smA rd wr KK WgAt DC0 Payload)
section
variable{K:Type}{X:bK K}{t0:Trace}{ks:List K}{gs gs':Array bF}{w w':aj}{t:Trace}{d:Nat}{dW:Nat->Nat}{E:dD}{S0 G:aN}{Sw:Nat->aN}{q:Nat->Nat}
variable{es:Array Event}{fn:FuncId}{pos:String}{Wg k r:Nat}{u:Trace}
theorem bK.Base.ev0(h:X.Base t0 ks gs w t d dW E S0 G Sw q)(bP:au.jB X.bZ w')(hs:w'.heap.size=w.heap.size)(qg:∀e∈es,(MemAct.ofEvent e).low w.heap.size/\MemAct.ofEvent e≠.mark (.release<|stA X.Wg)/\∀x,(MemAct.ofEvent e).touch?=ae x->ahY X.Sh (lh X.iG) (X.O Sw ks.length) (X.Rd ks) x)(eH:gs'.size=gs.size)(hold:∀i,0<i->i<X.m0->gs'[i]? =gs[i]?):
 X.Base t0 ks gs' w' (t++MemOp.ofEvents 0 fn pos es) (deafBehind d es) dW E S0 G Sw q:=by
 obtain⟨m1,m2,m3,m4,m5⟩:=h.more (w':=w') (u:=MemOp.ofEvents 0 fn pos es) (.inl rfl) ofEvents_g (BM hs.symm) (fun op aO=>by obtain⟨e,he,rfl⟩:=aDZ aO;rw[hs];exact(qg e he).1)
  (fun op aO=>by obtain⟨x,hx,rfl⟩:=aDZ aO;exact(qg x hx).2.1)
 refine⟨eH.trans h.size,h.pos,fun a g h0 ha hg=>?_,fun a ha=>m4 a<|eH▸ha,by rw[aEM,h.deaf0],fun a ha=>?_,h.mem.size hs,?_,m1,m2,m3,h.iC,bP⟩
 ·rw[m5 a<|by omega];exact h.old a g h0 ha (by rw[<-hold a h0 ha];exact hg)
 ·rw[m5 _ (by have:=h.pos;omega)];exact h.deafW a ha
 ·refine h.ti.app0 (h.mem.cls ⟨h.iC.1,h.iC.2.1,h.iC.2.2.1⟩) ofEvents_g fun op aO x hx=>?_;obtain⟨e,he,rfl⟩:=aDZ aO;exact(qg e he).2.2 x hx
theorem bK.Base.Xw(h:X.Base t0 ks gs w t d dW E S0 G Sw q){i:Nat}(hi:i<ks.length)(bP:au.jB X.bZ w')(hs:w'.heap.size=w.heap.size)(qg:∀e∈es,(MemAct.ofEvent e).low w.heap.size/\MemAct.ofEvent e≠.mark (.release<|stA X.Wg)/\∀x,(MemAct.ofEvent e).touch?=ae x->acd X.Sh (X.O Sw ks.length) (X.Rd ks) (X.m0+i) x)(eH:gs'.size=gs.size)(hold:∀i,0<i->i<X.m0->gs'[i]? =gs[i]?):
 X.Base t0 ks gs' w' (t++MemOp.ofEvents (X.m0+i) fn pos es) d (upd dW i<|deafBehind (dW i) es) E S0 G Sw q:=by
 have o8:=h.pos;obtain⟨m1,m2,m3,m4,m5⟩:=h.more (w':=w') (u:=MemOp.ofEvents (X.m0+i) fn pos es) (.inr ⟨i,hi,rfl⟩) ofEvents_g (BM hs.symm) (fun op aO=>by obtain⟨e,he,rfl⟩:=aDZ aO;rw[hs];exact(qg e he).1)
  (fun op aO=>by obtain⟨x,hx,rfl⟩:=aDZ aO;exact(qg x hx).2.1)
 refine⟨eH.trans h.size,h.pos,fun a g h0 ha hg=>?_,fun a ha=>m4 a<|eH▸ha,by rw[m5 0<|by omega];exact h.deaf0,fun a ha=>?_,h.mem.size hs,?_,m1,m2,m3,h.iC,bP⟩
 ·rw[m5 a<|by omega];exact h.old a g h0 ha (by rw[<-hold a h0 ha];exact hg)
 ·by_cases e:a=i
  ·subst e;rw[aEM,h.deafW a ha,aD5]
  ·rw[m5 _<|by omega,aD8 _ _ e];exact h.deafW a ha
 ·refine h.ti.appW (h.mem.cls ⟨h.iC.1,h.iC.2.1,h.iC.2.2.1⟩) (by omega) ⟨.cell ⟨X.C,i,af⟩,i,hi,rfl,.inr rfl⟩ ofEvents_g fun op aO x hx=>?_;obtain⟨e,he,rfl⟩:=aDZ aO;exact(qg e he).2.2 x hx
theorem vI.appOther{x:Nat}(h:vI Wg t k r)(hu:∀op∈u,op.g=x)(hx:x≠k):vI Wg (t++u) k r:=by
 refine⟨h.rel.appOther hu hx,fun i hi hg a ha=>?_⟩;obtain⟨op,aO,hog⟩:=zC.1 hg;rcases aEf aO with⟨aI,_⟩|⟨_,zo⟩
 ·exact h.after i hi (by rw[<-g?_old (u:=u) aI];exact hg) a (by rw[<-touchAt_old (u:=u) aI];exact ha)
 ·rw[hu op zo]at hog;exact absurd hog hx
theorem RelBy.wH{a:Addr}(h:RelBy a t k r)(hu:∀op∈u,op.act.touch?=af):RelBy a (t++u) k r:=by
 refine h.app fun i hi _ hc=>?_;obtain⟨x,hx,_⟩:=hc;have:=Ht hu hx;obtain⟨op,aO,_⟩:=aEG this;exact absurd (aEK aO)<|by omega
theorem vI.wH(h:vI Wg t k r)(hu:∀op∈u,op.act.touch?=af):vI Wg (t++u) k r:=by
 refine⟨RelBy.wH h.rel hu,fun i hi hg a ha=>?_⟩;have ha':=Ht hu ha;obtain⟨op,aO,_⟩:=aEG ha';have aI:=aEK aO;exact h.after i hi (by rw[<-g?_old (u:=u) aI];exact hg) a ha'
theorem vI.book{dd:Nat}(h:vI Wg t k r)(Vj:Deaf t k=dd)(fn:FuncId)(pos:String)(qg:∀e∈es,Go.ConcR.Bk Wg e)
 (hd:∀j e,es[j]? =ae e->(MemAct.ofEvent e).touch?=af\/0<deafBehind dd (es.extract 0 j)):vI Wg (t++MemOp.ofEvents k fn pos es) k r:=by
 refine⟨h.rel.book Vj fn pos qg hd,fun i hi hg a ha=>?_⟩;obtain⟨op,aO,vZ⟩:=aEG ha;rcases aEf aO with⟨aI,_⟩|⟨_,zo⟩
 ·exact h.after i hi (by rw[<-g?_old (u:=MemOp.ofEvents k fn pos es) aI];exact hg) a (by rw[<-touchAt_old (u:=MemOp.ofEvents k fn pos es) aI];exact ha)
 ·obtain⟨e,he,rfl⟩:=aDZ zo;rcases qg e he with h1|h1|⟨ad,wr,rfl,had⟩
  ·simp only[aFg h1]at vZ;cases vZ
  ·simp only[aFg h1]at vZ;cases vZ
  ·simp only[MemAct.ofEvent,MemAct.touch?,gu]at vZ;subst vZ;exact⟨⟨ad,rfl,had⟩,by simp⟩
theorem vI.new(hd:Deaf t k=0)(fn:FuncId)(pos:String):vI Wg (t++MemOp.ofEvents k fn pos #[Go.ConcR.mk<|.releaseMerge<|stA Wg]) k t.size:=by
 refine⟨RelBy.new hd fn pos,fun i hi _ a ha=>?_⟩;obtain⟨op,aO,_⟩:=aEG ha;have:=aEK aO;rw[aFm]at this;simp at this;omega
theorem Fv.app{B m0 n:Nat}(h:Fv B Wg m0 n t)(hu:∀i r,i<n->vI Wg t (m0+i) r->vI Wg (t++u) (m0+i) r):Fv B Wg m0 n (t++u):=by
 obtain⟨q,h1,h2,h3,h4⟩:=h;have hq:=lt_of_act? h1;exact⟨q,by rw[act?_old hq];exact h1,by rw[aFo hq];exact h2,(heard_old hq).2 h3,fun i hi=>let ⟨r,hr,NI,hb⟩:=h4 i hi;⟨r,hu i r hi hr,NI,hb⟩⟩
end
section
variable [Payload]{K:Type}{X:bK K}{ty:dw}{n:Nat}{dH:bF}{Anch:bF->aj->Prop}{Mid:aN->aj->Prop}{cZ:K->List az->az->aN->aj->Prop}
 {t0:Trace}{ks:List K}{gs gs':Array bF}{w w':aj}{t:Trace}{tag:ji}{dW:Nat->Nat}{E:dD}{S0 G:aN}{Sw:Nat->aN}{q:Nat->Nat}{bn:Nat->List az}{st:Nat->Nat}{D:Nat->T}{τ:T}{sl:Option (Nat×Nat)}
inductive T.wK:T->T->Prop where
 |one {a b} (h:T.Lt a b):T.wK a b
 |more {a b c} (h:T.Lt a b) (k:T.wK b c):T.wK a c
theorem T.ar4{a b:T}(h:T.wK b a):∃c,T.Lt c a/\(b=c\/T.wK b c):=by
 induction h with
 |one h=>exact⟨_,h,.inl rfl⟩
 |more h _ ih=>
  obtain⟨c,hc,Vk⟩:=ih;refine⟨c,hc,.inr ?_⟩;rcases Vk with rfl|Vk
  ·exact .one h
  ·exact .more h Vk
theorem T.ar5{x y z:T}(h:T.wK x y)(k:T.Lt y z):T.wK x z:=by
 induction h with
 |one h=>exact .more h<|.one k
 |more h _ ih=>exact .more h<|ih k
theorem T.ar6(a:T):Acc T.wK a:=by
 have key:∀a,Acc T.Lt a->∀b,(b=a\/T.wK b a)->Acc T.wK b:=by
  intro a ha;induction ha with
  |intro a _ ih=>
   have below:∀b,T.wK b a->Acc T.wK b:=by
    intro b hb;have:=T.ar4 hb;obtain⟨c,hc,Vk⟩:=this;exact ih c hc b Vk
   rintro b (rfl|hb)
   ·exact⟨_,below⟩
   ·exact below b hb
 exact key a (T.acc a) a<|.inl rfl
theorem T.ah9:∀n,T.wK (T.nat 0) (T.nat<|n+1)
 |0=>.one<|T.Jy 0
 |n+1=>T.ar5 (T.ah9 n)<|T.Jy<|n+1
theorem ar7{motive:Nat->(Nat->T)->T->Prop}(N:Nat)
 (h:∀A D τ,(∀A' D' oD,A'<A->motive A' D' oD)->(∀D' oD,D5 N D' D->motive A D' oD)->(∀oD,T.wK oD τ->motive A D oD)->motive A D τ):∀A D τ,motive A D τ:=by
 intro A;induction A using Nat.strongRecOn with
 |ind A LU=>
  intro D;refine(D5.wf N).induction (C:=fun D=>∀τ,motive A D τ) D ?_;intro D Sl τ
  have:=T.ar6 τ
  induction this with
  |intro τ _ LV=>exact h A D τ (fun A' D' oD aI=>LU A' aI D' oD) (fun D' oD hv=>Sl D' hv oD) LV
def uM(n:Nat)(tag:ji)(st:Nat->Nat):Nat:=tag.phi n (Vc n<|fP st)+sumTo n st
variable(X ty n dH Anch Mid cZ t0 ks bn)in
def bK.xR(gs:Array bF)(w:aj)(sl:Option (Nat×Nat))(t:Trace)(tag:ji)(st:Nat->Nat)(D:Nat->T)(τ:T)(x:Nat):Prop:=
 ∃gs1 w1 ops lq JC E1 S1 G1 vG q1 Am D1 iL,runT X.P (crowd gs w sl) x=(.next<|crowd gs1 w1 sl,ops)/\X.Inv2 ty n dH Anch Mid cZ t0 ks gs1 w1 (t++ops) lq JC E1 S1 G1 vG q1 bn Am D1 iL/\
  (uM n lq Am<uM n tag st\/(uM n lq Am<=uM n tag st/\(D5 gs.size D1 D\/(D1=D/\T.wK iL τ))))
theorem aia(st:Nat->Nat)(i s:Nat):fP (upd st i s)=upd (fP st) i ⟨min s 7,0,0⟩:=by
 funext a;unfold fP upd;split<;>simp_all
theorem cnt_mono{x y:WD}(h:x.stage<=y.stage):cnt x<=cnt y:=by
 unfold cnt;by_cases h5:5<=x.stage
 ·rw[if_pos h5,if_pos<|by omega];exact dm _
 ·rw[if_neg h5];exact mi _
variable{i s:Nat}{jf:ji}
theorem aib(hi:i<n)(hs:s<st i)(ht:jf=tag\/(tag=.blk/\jf=.w3)):uM n jf (upd st i s)<uM n tag st:=by
 have h1:=sumTo_upd st s id hi;have h2:=Go.ConcN.Vc_upd (fP st) (⟨min s 7,0,0⟩:WD) hi;have h3:cnt (⟨min s 7,0,0⟩:WD)<=cnt (fP st i):=
  cnt_mono (show min s 7<=min (st i) 7 by omega)
 rw[<-aia]at h2;have h4:jf.phi n (Vc n<|fP<|upd st i s)<=tag.phi n (Vc n<|fP st):=by
  rcases ht with rfl|⟨rfl,rfl⟩
  ·cases jf<;>simp only[ji.phi]<;>omega
  ·exact dm _
 simp only[id]at h1;unfold uM;have e:sumTo n (fun a=>upd st i s a)=sumTo n (upd st i s):=rfl;have e':sumTo n (fun a=>st a)=sumTo n st:=rfl;omega
theorem ar8(ht:jf=tag\/(tag=.blk/\jf=.w3)):uM n jf (upd st i<|st i)<=uM n tag st:=by
 have e:upd st i (st i)=st:=by funext a;unfold upd;split<;>simp_all
 rw[e];rcases ht with rfl|⟨rfl,rfl⟩<;>exact dm _
theorem bK.Inv2.workerStep(F:X.Fit)(hA:∀g w,Anch g w->g.status=.running)(hE:dH.status=.running)(oG:∀(i:Nat) (k:K),ks[i]? =ae k->∀l S g w,X.Fin k l S g w->∃v,X.Bc ty n i v g w/\cZ k l v S w)(qA:∀k l v S w w1,cZ k l v S w->bg S (X.side k) w w1->cZ k l v S w1)
 (h:X.Inv2 ty n dH Anch Mid cZ t0 ks gs w t tag dW E S0 G Sw q bn st D τ){k:K}(hk:ks[i]? =ae k){g g':bF}{es:Array Event}(hg:gs[X.m0+i]? =ae g)(hgo:bD X.P false g w=.go g' w' es){dd:Nat}{S1:aN}{σ:T}
 (hb:X.Base t0 ks ((gs.map<|woken X.P g g' w').setIfInBounds (X.m0+i) g') w' (t++MemOp.ofEvents (X.m0+i) g.frame.fn g.frame.place es) tag.deaf (upd dW i dd) E S0 G (upd Sw i S1) q)
 (k0:bg S0 E w w')(rl:RL ty X.Wg w w')(kW:∀i' k',i'≠i->ks[i']? =ae k'->bg (Sw i') (X.side k') w w')(rw_:∀i',i'≠i->RW ty X.Wg X.C n 0 i' w w')(SC:∀b,(b=X.ov\/∃k∈ks,b=X.ch k)->w'.heap[b]? =w.heap[b]?)
 (hs:X.yQ ty n cZ i k (bn i) S1 s σ dd g' w')(pay:PayAt X.C n w')(bV:∀jf,(jf=tag\/(tag=.blk/\jf=.w3))->(mayWake X.P g=true->g'.status=.running->jf≠.blk)->∃a b,WgAt ty X.Wg w' a b/\Go.ConcN.Mode n (fP<|upd st i s) jf.c a b)
 (rel:s<=6->∃r,vI X.Wg (t++MemOp.ofEvents (X.m0+i) g.frame.fn g.frame.place es) (X.m0+i) r/\t0.size<=r)(acq:tag=.ret->Fv t0.size X.Wg X.m0 n (t++MemOp.ofEvents (X.m0+i) g.frame.fn g.frame.place es))
 (lt:s<st i\/(s=st i/\T.Lt σ (D<|X.m0+i))):X.xR ty n dH Anch Mid cZ t0 ks bn gs w sl t tag st D τ (X.m0+i):=by
 have hi:i<ks.length:=(dM.1 hk).1;have o8:=h.base.pos;have aI:X.m0+i<gs.size:=by rw[h.base.size];omega
 have og:(X.m0+i==0)=false:=by simp<;>omega
 obtain⟨a,ha,hm⟩:=h.main;obtain⟨jf,oD,Dv,aet,hwk⟩:=hm.woken hA hE k0 rl g g';have hr:=aEm (P:=X.P) (sl:=sl) (i:=X.m0+i) hg (by rw[og];exact hgo);have Fz:jf=tag\/(tag=.blk/\jf=.w3):=aet.imp (·.1) id;have aev:jf.deaf=tag.deaf:=by rcases Fz with rfl|⟨rfl,rfl⟩<;>rfl
 obtain⟨wa,wb,wu,uT⟩:=bV jf Fz hwk;refine⟨_,w',_,jf,upd dW i dd,E,S0,G,upd Sw i S1,q,upd st i s,upd D (X.m0+i) σ,oD,hr,⟨aev.symm▸hb,h.len,h.L8,⟨_,by rw[iw<|by omega,xG,ha];rfl,Dv⟩,fun i' k' dN=>?_,fun j h0 h1=>by rw[aD8 _ _<|by omega];exact h.old j h0 h1,fun κ jC=>?_,?_,⟨wa,wb,wu,uT⟩,pay,fun i' mP di=>?_,fun e=>?_⟩,?_⟩
 ·by_cases e:i'=i
  ·subst e;rw[hk]at dN;cases dN;exact⟨g',by rw[tq<|by simpa using aI],by rw[aD5,aD5,aD5,aD5];exact hs⟩
  ·obtain⟨x,hx,Qz⟩:=h.work i' k' dN;have di:=Qz.status F fun S g w y=>let ⟨_,z,_⟩:=oG i' k' dN _ S g w y;z.run;refine⟨x,?_,?_⟩
   ·rw[iw<|by omega,xG,hx];simp only[GM,gu];unfold Go.Conc.woken;split
    ·exact aEU _ (di.imp id (·.1))
    ·rfl
   ·rw[aD8 Sw _ e,aD8 st _ e,aD8 dW _ e,aD8 D _<|by omega];exact Qz.rely qA (kW i' k' e dN)<|rw_ i' e
 ·obtain⟨s',r',hc⟩:=h.rH κ jC;exact⟨s',r',by rw[SC _<|.inr ⟨κ,jC,rfl⟩];exact hc⟩
 ·obtain⟨cap,s',r',hc⟩:=h.over;exact⟨cap,s',r',by rw[SC _<|.inl rfl];exact hc⟩
 ·by_cases e:i'=i
  ·subst e;rw[aD5]at di;exact rel di
  ·rw[aD8 _ _ e]at di;obtain⟨r,hr,hb⟩:=h.rel i' mP di;exact⟨r,hr.appOther ofEvents_g<|by omega,hb⟩
 ·rcases Fz with rfl|⟨_,rfl⟩
  ·exact acq e
  ·cases e
 ·have fE:i<n:=h.len▸hi;rcases lt with hl|⟨rfl,hl⟩
  ·exact .inl<|aib fE hl Fz
  ·exact .inr ⟨ar8 Fz,.inl ⟨X.m0+i,aI,by rw[aD5];exact hl,fun j hj=>aD8 _ _ hj⟩⟩
end
end fJ
end
section
namespace fJ
open Go Go.Conc Twin
open Go.ConcN (upd upd_same upd_ne WgLive PayAt Has RW DWs AtR0 AtK1 WSit WD CTag Vc cnt sumTo RelBy sumTo_upd sumTo_congr cell_of_block AsideCell)
open Go.ConcR (stA smA rd wr KK WgAt DC0 Payload)
section
variable [Payload]{K:Type}{X:bK K}{ty:dw}{n:Nat}{dH:bF}{Anch:bF->aj->Prop}{Mid:aN->aj->Prop}{cZ:K->List az->az->aN->aj->Prop}
 {t0:Trace}{ks:List K}{gs:Array bF}{w w':aj}{t:Trace}{tag:ji}{dW:Nat->Nat}{E:dD}{S0 G:aN}{Sw:Nat->aN}{q:Nat->Nat}{bn:Nat->List az}{st:Nat->Nat}{D:Nat->T}{τ:T}{sl:Option (Nat×Nat)}
theorem SE{α:Type}(f:Nat->α)(i:Nat):upd f i (f i)=f:=by funext a;unfold upd;split<;>simp_all
variable{i:Nat}{a b:Int}
theorem O4{s:Nat}{c:CTag}(hs:min s 7=min (st i) 7)(h:Go.ConcN.Mode n (fP st) c a b):Go.ConcN.Mode n (fP<|upd st i s) c a b:=by
 refine h.congr fun x _=>?_;show min (upd st i s x) 7=min (st x) 7;by_cases e:x=i
 ·subst e;rw[aD5];exact hs
 ·rw[aD8 _ _ e]
theorem O6{jf:ji}{D:Nat->WD}(h:Go.ConcN.Mode n D tag.c a b)(ht:jf=tag\/(tag=.blk/\jf=.w3)):Go.ConcN.Mode n D jf.c a b:=by
 refine h.retag ?_;rcases ht with rfl|⟨rfl,rfl⟩
 ·exact .inl rfl
 ·exact .inr ⟨rfl,rfl⟩
theorem aic(h:tag=.ret):tag.c=.ret:=by rw[h];rfl
theorem aid(hW:w'.heap[X.Wg]? =w.heap[X.Wg]?)(hC:w'.heap[X.C]? =w.heap[X.C]?)(i:Nat):RW ty X.Wg X.C n 0 i w w':=
 ⟨fun _ hb=>absurd hb<|Nat.not_lt_zero _,fun⟨a,b,h⟩=>⟨a,b,h.of_block hW⟩,fun⟨c,h1,h2⟩=>⟨c,hC.trans h1,h2⟩,cell_of_block hC i⟩
theorem aie(hW:w'.heap[X.Wg]? =w.heap[X.Wg]?):RL ty X.Wg w w':=fun⟨a,b,h⟩=>⟨a,b,h.of_block hW⟩
theorem Xx(hC:w'.heap[X.C]? =w.heap[X.C]?)(h:PayAt X.C n w):PayAt X.C n w':=let ⟨c,h1,h2⟩:=h;⟨c,hC.trans h1,h2⟩
theorem bK.Base.aside{d:Nat}(h:X.Base t0 ks gs w t d dW E S0 G Sw q){b:Nat}(hb:X.Sp ks b)(hE:¬E.ro b)(hA:Aside b w w'):bg S0 E w w'/\∀i k,ks[i]? =ae k->bg (Sw i) (X.side k) w w':=by
 obtain⟨n0,_,nW,nR⟩:=h.Sv hb;exact⟨⟨hA.tape,hA.os,hA.output,BM hA.size.symm,fun x hx=>hA.block x fun e=>n0<|e▸hx,fun x hx=>hA.block x fun e=>hE<|e▸hx⟩,
  fun i k hk=>⟨hA.tape,hA.os,hA.output,BM hA.size.symm,fun x hx=>hA.block x fun e=>nW i (dM.1 hk).1<|e▸hx,fun x hx=>hA.block x fun e=>nR i k hk<|e▸hx⟩⟩
theorem bK.Inv2.at(h:X.Inv2 ty n dH Anch Mid cZ t0 ks gs w t tag dW E S0 G Sw q bn st D τ)(qA:∀k l v S w w1,cZ k l v S w->bg S (X.side k) w w1->cZ k l v S w1)(d:Nat):X.Inv2 ty n dH Anch Mid cZ t0 ks gs (w.at d) t tag dW E S0 G Sw q bn st D τ:=
 ⟨h.base.at d,h.len,h.L8,let ⟨a,ha,hm⟩:=h.main;⟨a,ha,hm.rely (bg.at _ _ _ _) id⟩,fun i k hk=>let ⟨g,hg,hs⟩:=h.work i k hk;⟨g,hg,hs.rely qA (bg.at _ _ _ _)<|RW.at w d⟩,h.old,h.rH,h.over,h.wg,h.pay,h.rel,h.acq⟩
theorem ar9{Wg:Nat}(hW:X.Wg=Wg){e:Event}(h:Go.ConcR.Bk Wg e){B:Nat}(hB:Wg<B)(n' k:Nat):(MemAct.ofEvent e).low B/\MemAct.ofEvent e≠.mark (.release<|stA X.Wg)/\∀x,(MemAct.ofEvent e).touch?=ae x->acd X.Sh (X.O Sw n') (X.Rd ks) k x:=by
 subst hW;obtain⟨loc,wr,sy⟩:=e;rcases h with h|h|⟨a,wr',h,ha⟩
 ·simp only at h;subst h;exact⟨trivial,by simp[MemAct.ofEvent],by simp[MemAct.ofEvent,MemAct.touch?]⟩
 ·simp only at h;subst h;exact⟨trivial,by simp[MemAct.ofEvent],by simp[MemAct.ofEvent,MemAct.touch?]⟩
 ·cases h;refine⟨show a.block<B by omega,by simp[MemAct.ofEvent],fun x hx=>?_⟩;simp only[MemAct.ofEvent,MemAct.touch?,gu]at hx;subst hx;exact .inl ⟨.inl ⟨a,rfl,ha⟩,by simp,by simp⟩
theorem bK.Inv2.asa(F:X.Fit)(SG:∀k l v S w,cZ k l v S w->∀B:au.cO,(∀b,B.bZ b->¬S b)->au.aG B v)(hA:∀g w,Anch g w->g.status=.running)(hE:dH.status=.running)(oG:∀(i:Nat) (k:K),ks[i]? =ae k->∀l S g w,X.Fin k l S g w->∃v,X.Bc ty n i v g w/\cZ k l v S w)(qA:∀k l v S w w1,cZ k l v S w->bg S (X.side k) w w1->cZ k l v S w1)
 (h:X.Inv2 ty n dH Anch Mid cZ t0 ks gs w t tag dW E S0 G Sw q bn st D τ){k:K}(hk:ks[i]? =ae k){g:bF}(hg:gs[X.m0+i]? =ae g)(di:8<=st i):X.xR ty n dH Anch Mid cZ t0 ks bn gs w sl t tag st D τ (X.m0+i):=by
 have hi:i<ks.length:=(dM.1 hk).1;have fE:i<n:=h.len▸hi;have o8:=h.base.pos;have aI:X.m0+i<gs.size:=by rw[h.base.size];omega
 have og:(X.m0+i==0)=false:=by simp<;>omega
 have o7:=gz hk;obtain⟨wa,wb,bV,kD⟩:=h.wg;have Va:tag≠.ret:=fun e=>by
  have h7:(fP st i).stage=7:=Nat.min_eq_right (by omega);exact kD.not_ret fE (by rw[h7];omega)<|aic e
 obtain⟨x,hx,hs⟩:=h.work i k hk;rw[hg]at hx;cases hx;have own:∀{g':bF} {w2:aj} {es:Array Event} {σ:T},bD X.P false g w=.go g' w2 es->je (Sw i) (X.side k) w w2 es->X.yQ ty n cZ i k (bn i) (grow (Sw i) w w2) (st i) σ (dW i) g' w2->T.Lt σ (D<|X.m0+i)->X.xR ty n dH Anch Mid cZ t0 ks bn gs w sl t tag st D τ (X.m0+i):=by
  intro g' w2 es σ hgo hG azC hl;obtain⟨k0,kW,kS⟩:=h.base.ach hk hG;have Dy:=kS X.Wg<|.inl rfl;have Gn:=kS X.C<|.inr<|.inl rfl;refine h.workerStep F hA hE oG qA hk hg hgo (dd:=dW i) (s:=st i) (S1:=grow (Sw i) w w2) (σ:=σ) ?_ k0 (aie Dy) kW (fun i' _=>aid Dy Gn i') (fun b hb=>kS b<|hb.elim (fun e=>.inr<|.inr<|.inl e) fun e=>.inr<|.inr<|.inr e) azC (Xx Gn h.pay) (fun jf ht _=>⟨wa,wb,bV.of_block Dy,O6 (O4 rfl kD) ht⟩) (fun h6=>by omega) (fun e=>absurd e Va)<|.inr ⟨rfl,hl⟩;rw[SE];exact h.base.stepW hk hG (by simp)<|h.base.JA g g' w2 g'<|.inr<|by omega
 have told:∀{g0:bF} {z0 z1:az} {sh:CommShape},X.sH k (bn i) (Sw i) g0 z0 z1 sh w->bD X.P false g w=.comm g0 (X.cs k z0 z1) true sh w #[]->st i=9->dW i=0->X.xR ty n dH Anch Mid cZ t0 ks bn gs w sl t tag st D τ (X.m0+i):=by
  intro g0 z0 z1 sh hW jG h9 hd0;obtain⟨s,r,hc⟩:=h.rH k o7;obtain⟨cap,s',r',ho⟩:=h.over;have qI:∀c,partners (gs.setIfInBounds (X.m0+i) ph) c true=[]:=fun c=>partners_nil fun j y hy=>by
   rcases aE7 gs _ j y hy with⟨_,rfl⟩|⟨_,hy⟩
   ·rfl
   ·rcases h.base.Fq hy with rfl|⟨h1,h2⟩|⟨i',k',rfl,dN⟩
    ·obtain⟨a,ha,hm⟩:=h.main;rw[hy]at ha;cases ha;rcases hm.status hA hE with⟨hs,_⟩|⟨_,g1,rfl,_,ho⟩
     ·exact aEa (by rw[hs];simp) _ _
     ·unfold offersAt;simp only[ho]
    ·rcases(h.base.old j y h1 h2 hy).status with hs|hs<;>exact aEa (by rw[hs];simp) _ _
    ·obtain⟨y',KF,hs⟩:=h.work i' k' dN;rw[hy]at KF;cases KF;rcases hs.status F (fun S g w z=>let ⟨_,u,_⟩:=oG i' k' dN _ S g w z;u.run)with hs|⟨hs,_⟩<;>exact aEa (by rw[hs];simp) _ _
  have hr:=crowd_sel_recv_closed (P:=X.P) (sl:=sl) (i:=X.m0+i) (w:=w) (w₁:=w) (k:=1) (c:=X.ov) (z:=z1) hg (by rw[og];exact jG) (by simp[bK.cs]) (fun m c' hm zl=>by
   match m,hm,zl with
   |0,_,zl=>simp[bK.cs]at zl;subst zl;exact aE8 hc<|qI _
   |1,hm,_=>exact absurd rfl hm
   |m+2,_,zl=>simp[bK.cs]at zl) ho (qI _)
  obtain⟨σ,hσ⟩:=Jz hW.over;have Ak:X.ov<w.heap.size:=h.base.mem.low _<|.inr<|.inr<|.inl rfl;have hq:acj X.Wg w.heap.size (MemOp.ofEvents (X.m0+i) g.frame.fn g.frame.place #[]++ #[{g:=X.m0+i,fn:=g0.frame.fn,pos:=g0.frame.place,act:=.recvClosed X.ov}]):=by
   intro op aO;rcases Jd.1 aO with aO|aO
   ·exact Sz _ _ _ _ _ op aO
   ·simp only[tu,jR,pF,pG]at aO;subst aO;exact⟨rfl,Ak,by simp,by simp,by simp⟩
  refine⟨_,w,_,tag,dW,E,S0,G,Sw,q,upd st i 8,upd D (X.m0+i) σ.more,τ,hr,⟨h.base.quiet h.base.pM rfl hq (by simp) fun j h0 h1=>by rw[iw<|by omega],h.len,h.L8,?_,fun i' k' dN=>?_,fun j h0 h1=>by rw[aD8 _ _<|by omega];exact h.old j h0 h1,h.rH,h.over,⟨wa,wb,bV,O4 (by omega) kD⟩,h.pay,fun i' mP h6=>?_,fun e=>absurd e Va⟩,.inl<|aib fE (by omega)<|.inl rfl⟩
  ·obtain⟨a,ha,hm⟩:=h.main;exact⟨a,by rw[iw<|by omega];exact ha,hm⟩
  ·by_cases e:i'=i
   ·subst e;rw[hk]at dN;cases dN;refine⟨_,by rw[tq aI],?_⟩;rw[aD5,aD5,hd0];exact .fin hσ
   ·obtain⟨y,hy,hs⟩:=h.work i' k' dN;exact⟨y,by rw[iw<|by omega];exact hy,by rw[aD8 st _ e,aD8 D _<|by omega];exact hs⟩
  ·by_cases e:i'=i
   ·subst e;rw[aD5]at h6;omega
   ·rw[aD8 _ _ e]at h6;obtain⟨r,hr,hb⟩:=h.rel i' mP h6;exact⟨r,hr.wH fun op aO=>(hq op aO).1,hb⟩
 generalize hD:D (X.m0+i)=σ at hs;generalize Gj:st i=s at hs;generalize CG:dW i=dd at hs;cases hs with
 | @run σ _ _ hT=>
   cases σ with
   |step f=>
    obtain⟨g',w2,es,hgo,hG,BG⟩:=hT.2 w<|bg.refl _ _ _;exact own hgo hG (by rw[Gj,CG];exact .run BG) (by rw[hD];exact T.Sj<|.mk f w)
   |stop=>
    obtain⟨z0,z1,sh,hW⟩:=F _ _ _ _ _<|hT w<|bg.refl _ _ _;exact told hW (hW.step w<|bg.refl _ _ _) Gj CG
 | @L6 g0 z0 z1 sh _ hW=>
   refine told hW ?_ Gj CG;rw[stepG_tries];have:({g0 with status:=.running}:bF)=g0:=by
    have:=hW.run;obtain⟨fr,cs,sx,dy,of⟩:=g0;simp only at this;subst this;rfl
   rw[this];exact hW.step w<|bg.refl _ _ _
 | @fin σ _ _ hT=>
   cases σ with
   |step f=>
    obtain⟨g',w2,es,hgo,hG,BG⟩:=hT.2 w<|bg.refl _ _ _;exact own hgo hG (by rw[Gj,CG];exact .fin BG) (by rw[hD];exact T.Sj<|.mk f w)
   |stop=>
    obtain⟨v,dX,uo⟩:=oG i k hk _ _ _ _<|hT w<|bg.refl _ _ _;obtain⟨g',hgo,m,azE⟩:=dX.st ⟨_,_,bV⟩ h.pay;have Xy:Aside X.C w (w.setCell ⟨X.C,i,af⟩ v):=aEp w ⟨X.C,i,af⟩ v;have hCE:¬E.ro X.C:=(h.base.Sv (b:=X.C)<|.inr<|.inl rfl).2.1<|iW h.base.iC.1;obtain⟨k0,kW⟩:=h.base.aside (.inr<|.inl rfl) hCE Xy;have Dy:=Xy.block X.Wg h.base.iC.1;obtain⟨c,o6,lI⟩:=h.pay;have hC':(w.setCell ⟨X.C,i,af⟩ v).heap[X.C]? =ae (.cells (c.setIfInBounds i v) Payload.ety):=by
     unfold World.setCell;simp[amX,o6]
    have hcell:∀i',i'≠i->(w.setCell ⟨X.C,i,af⟩ v).cell? ⟨X.C,i',af⟩=w.cell? ⟨X.C,i',af⟩:=fun i' e=>by
     unfold World.cell?;simp only[hC',o6];simp[iw<|iW e]
    have Gp:PayAt X.C n (w.setCell ⟨X.C,i,af⟩ v):=⟨_,hC',by simpa using lI⟩;refine h.workerStep F hA hE oG qA hk hg hgo (dd:=0) (s:=7) (S1:=Sw i) (σ:=T.nat m) ?_ k0 (aie Dy) (fun i' k' _ dN=>kW i' k' dN) (fun i' e=>⟨fun b hb=>absurd hb<|Nat.not_lt_zero _,fun⟨a,b,h⟩=>⟨a,b,h.of_block Dy⟩,fun _=>Gp,hcell i' e⟩) (fun b hb=>Xy.block b ?_) (.done azE<|qA _ _ _ _ _ _ uo<|kW i k hk) Gp (fun jf ht _=>⟨wa,wb,bV.of_block Dy,O6 (O4 (by omega) kD) ht⟩) (by omega) (fun e=>absurd e Va)<|.inl<|by omega
    ·have IW:=h.base.Xw (w':=w.setCell ⟨X.C,i,af⟩ v) (gs':=(gs.map<|woken X.P g g'<|w.setCell ⟨X.C,i,af⟩ v).setIfInBounds (X.m0+i) g') (i:=i) (es:=#[⟨.cell ⟨X.C,i,af⟩,true,false⟩]) (fn:=g.frame.fn) (pos:=g.frame.place) hi (h.base.pM.setCell<|SG _ _ _ _ _ uo _ fun b hb z=>hb.elim (fun y=>y.elim (h.base.mem.lN i hi b z).2.2.2.1 fun e=>(h.base.mem.lN i hi b z).2.2.1<|.inl e) fun y=>Nat.not_lt.2 y (h.base.mem.lN i hi b z).1) Xy.size (by
      intro e he;simp only[tu,jR,pF,pG]at he;subst he;refine⟨h.base.mem.low _<|.inr<|.inl rfl,by simp[MemAct.ofEvent],fun x hx=>?_⟩;simp only[MemAct.ofEvent,MemAct.touch?,gu]at hx;subst hx;exact .inr<|.inl ⟨i,hi,rfl,.inr rfl⟩) (by simp) (h.base.JA g g' _ g'<|.inr<|by omega)
     rw[SE];have e0:deafBehind (dW i) #[⟨.cell ⟨X.C,i,af⟩,true,false⟩]=0:=by rw[CG];rfl
     rw[e0]at IW;exact IW
    ·rcases hb with rfl|⟨κ,jC,rfl⟩
     ·exact iW h.base.iC.2.2.1
     ·exact(h.base.iC.2.2.2.1 κ jC).2.1
 |done _ _=>omega
 |gK hl h6 _ _=>omega
end
end fJ
end
section
namespace fJ
open Go Go.Conc Twin
open Go.ConcN (upd upd_same upd_ne WgLive PayAt Has RW DWs AtR0 AtK1 WSit WD CTag Vc cnt sumTo RelBy sumTo_upd sumTo_congr cell_of_block AsideCell le_sumTo bk_cell Vc_upd Vc_le others_uncounted)
open Go.ConcR (stA smA rd wr KK WgAt DC0 Payload Bk)
section
variable [Payload]{K:Type}{X:bK K}{ty:dw}{n:Nat}{dH:bF}{Anch:bF->aj->Prop}{Mid:aN->aj->Prop}{cZ:K->List az->az->aN->aj->Prop}
 {t0:Trace}{ks:List K}{gs:Array bF}{w w':aj}{t:Trace}{tag:ji}{dW:Nat->Nat}{E:dD}{S0 G:aN}{Sw:Nat->aN}{q:Nat->Nat}{bn:Nat->List az}{st:Nat->Nat}{D:Nat->T}{τ:T}{sl:Option (Nat×Nat)}
theorem asc{i:Nat}(h:st i<=7):(fP st i).stage=st i:=afi h
theorem SH{i s:Nat}(h:s<=7):fP (upd st i s)=upd (fP st) i ⟨s,0,0⟩:=by rw[aia,afi h]
theorem bK.Inv2.ase(F:X.Fit)(hA:∀g w,Anch g w->g.status=.running)(hE:dH.status=.running)(oG:∀(i:Nat) (k:K),ks[i]? =ae k->∀l S g w,X.Fin k l S g w->∃v,X.Bc ty n i v g w/\cZ k l v S w)(qA:∀k l v S w w1,cZ k l v S w->bg S (X.side k) w w1->cZ k l v S w1)(hn:n<2147483648)
 (h:X.Inv2 ty n dH Anch Mid cZ t0 ks gs w t tag dW E S0 G Sw q bn st D τ){i:Nat}{k:K}(hk:ks[i]? =ae k){g:bF}(hg:gs[X.m0+i]? =ae g)(di:st i<=7)(gU:g.status=.running):X.xR ty n dH Anch Mid cZ t0 ks bn gs w sl t tag st D τ (X.m0+i):=by
 have hi:i<ks.length:=(dM.1 hk).1;have fE:i<n:=h.len▸hi;have o8:=h.base.pos;have aif:X.Wg<w.heap.size:=h.base.mem.low _<|.inl rfl;have hCW:X.C≠X.Wg:=iW h.base.iC.1;obtain⟨wa,wb,bV,kD⟩:=h.wg;obtain⟨x,hx,hs⟩:=h.work i k hk;rw[hg]at hx;cases hx;have EP:=asc di;generalize hD:D (X.m0+i)=σ at hs;generalize zg:st i=s at hs EP di;generalize CG:dW i=dd at hs;have Vj:Deaf t (X.m0+i)=dd:=by rw[h.base.deafW i hi,CG]
 have nr:s≠1->tag≠.ret:=fun h1 e=>kD.not_ret fE (by rw[EP];exact h1)<|aic e;have alV:∀{v:az} {m:Nat},cZ k (bn i) v (Sw i) w->Has X.C i v w->σ=T.nat m->s<=6->∀{g':bF} {w2:aj} {es:Array Event} {s' m' NJ:Nat} {a b:Int},bD X.P false g w=.go g' w2 es->Aside X.Wg w w2->WgAt ty X.Wg w2 a b->(∀e∈es,Bk X.Wg e)->
  (∀jx e,es[jx]? =ae e->(MemAct.ofEvent e).touch?=af\/0<deafBehind dd (es.extract 0 jx))->WSit X.P ty X.Wg X.C n CJ CJ 0 (i+1) v s' m' NJ g' w2->deafBehind dd es=NJ->s'<=6->
  (∀jf,(jf=tag\/(tag=.blk/\jf=.w3))->(mayWake X.P g=true->g'.status=.running->jf≠.blk)->Go.ConcN.Mode n (fP<|upd st i s') jf.c a b)->(tag=.ret->Fv t0.size X.Wg X.m0 n (t++MemOp.ofEvents (X.m0+i) g.frame.fn g.frame.place es))->(s'<s\/(s'=s/\m'+1=m))->
  X.xR ty n dH Anch Mid cZ t0 ks bn gs w sl t tag st D τ (X.m0+i):=by
  intro v m uo QA hσ h6 g' w2 es s' m' NJ a b hgo KG Ap NK hd um hdd h6' Vl aey aI;obtain⟨k0,kW⟩:=h.base.aside (.inl rfl) h.L8 KG;have Gn:=KG.block X.C hCW;refine h.workerStep F hA hE oG qA hk hg hgo (dd:=NJ) (s:=s') (S1:=Sw i) (σ:=T.nat m') ?_ k0 (fun _=>⟨_,_,Ap⟩) (fun i' k' _ dN=>kW i' k' dN) (fun i' _=>RW.of_wg KG ⟨_,_,Ap⟩ hCW) (fun b hb=>KG.block b ?_) (.gK um h6' (qA _ _ _ _ _ _ uo<|kW i k hk)<|(cell_of_block Gn i).trans QA) (Xx Gn h.pay) (fun jf h1 h2=>⟨a,b,Ap,Vl jf h1 h2⟩) (fun _=>?_) aey ?_
  ·have hb:=h.base.Xw (w':=w2) (gs':=(gs.map<|woken X.P g g' w2).setIfInBounds (X.m0+i) g') (i:=i) (es:=es) (fn:=g.frame.fn) (pos:=g.frame.place) hi (acf h.base.pM KG) KG.size (fun e he=>ar9 rfl (NK e he) aif _ _) (by simp) (h.base.JA g g' _ g'<|.inr<|by omega);rw[SE];rw[CG,hdd]at hb;exact hb
  ·rcases hb with rfl|⟨κ,jC,rfl⟩
   ·exact iW h.base.iC.2.1
   ·exact(h.base.iC.2.2.2.1 κ jC).1
  ·obtain⟨r,hr,hb⟩:=h.rel i fE (by omega);exact⟨r,hr.book Vj _ _ NK hd,hb⟩
  ·rcases aI with aI|⟨rfl,rfl⟩
   ·exact .inl<|by omega
   ·exact .inr ⟨zg.symm,by rw[hD,hσ];exact T.Jy m'⟩
 cases hs with
 |run=>omega
 |L6=>omega
 |fin=>omega
 | @done v m _ _ uu uo=>
   rcases aEl uu with nN|⟨m',rfl,jG⟩
   ·obtain⟨_,asf,g',hgo,m₂,aQ⟩:=nN w<|aEo w;refine h.workerStep F hA hE oG qA hk hg hgo (dd:=0) (s:=6) (S1:=Sw i) (σ:=T.nat m₂) ?_ (bg.refl _ _ _) id (fun _ _ _ _=>bg.refl _ _ _) (fun _ _=>aEo w) (fun _ _=>rfl) (.gK (.k1 aQ) (by omega) uo<|by simpa using asf) h.pay (fun jf ht _=>⟨wa,wb,bV,?_⟩) (fun _=>⟨t.size,vI.new Vj _ _,let ⟨u,hu,_⟩:=h.base.base;by rw[hu];simp⟩) (fun e=>absurd e<|nr<|by omega) (.inl<|by omega)
    ·have hb:=h.base.Xw (w':=w) (gs':=(gs.map<|woken X.P g g' w).setIfInBounds (X.m0+i) g') (i:=i) (es:=#[Go.ConcR.mk<|.releaseMerge<|stA X.Wg]) (fn:=g.frame.fn) (pos:=g.frame.place) hi h.base.pM rfl (by
      intro e he;simp only[tu,jR,pF,pG]at he;subst he;exact⟨aif,by simp[MemAct.ofEvent,Go.ConcR.mk],by simp[MemAct.ofEvent,MemAct.touch?,Go.ConcR.mk]⟩) (by simp) (h.base.JA g g' _ g'<|.inr<|by omega)
     rw[SE];rw[CG]at hb;exact hb
    ·rw[SH<|by omega];exact O6 (kD.counted fE (by rw[EP];omega) (.inl rfl) 0 0) ht
   ·obtain⟨g',w2,es,hgo,⟨rfl,rfl⟩,lV⟩:=jG w<|aEo w;refine h.workerStep F hA hE oG qA hk hg hgo (dd:=0) (s:=7) (S1:=Sw i) (σ:=T.nat m') ?_ (bg.refl _ _ _) id (fun _ _ _ _=>bg.refl _ _ _) (fun _ _=>aEo _) (fun _ _=>rfl) (.done lV uo) h.pay (fun jf ht _=>⟨wa,wb,bV,O6 (O4 (by rw[zg]) kD) ht⟩) (by omega) (fun e=>absurd e<|nr<|by omega) (.inr ⟨zg.symm,by rw[hD];exact T.Jy m'⟩);have hb:=h.base.Xw (w':=w2) (gs':=(gs.map<|woken X.P g g' w2).setIfInBounds (X.m0+i) g') (i:=i) (es:=#[]) (fn:=g.frame.fn) (pos:=g.frame.place) hi h.base.pM rfl (by simp) (by simp) (h.base.JA g g' _ g'<|.inr<|by omega);rw[SE];rw[CG]at hb;exact hb
 | @gK v _ m _ _ _ hl h6 uo QA=>
 have book:∀{g':bF} {w2:aj} {es:Array Event} {s' m' NJ:Nat} {a b:Int},bD X.P false g w=.go g' w2 es->Aside X.Wg w w2->WgAt ty X.Wg w2 a b->(∀e∈es,Bk X.Wg e)->
  (∀jx e,es[jx]? =ae e->(MemAct.ofEvent e).touch?=af\/0<deafBehind dd (es.extract 0 jx))->WSit X.P ty X.Wg X.C n CJ CJ 0 (i+1) v s' m' NJ g' w2->deafBehind dd es=NJ->s'<=6->
  Go.ConcN.Mode n (fP<|upd st i s') tag.c a b->(tag=.ret->Fv t0.size X.Wg X.m0 n (t++MemOp.ofEvents (X.m0+i) g.frame.fn g.frame.place es))->(s'<s\/(s'=s/\m'+1=m))->
  X.xR ty n dH Anch Mid cZ t0 ks bn gs w sl t tag st D τ (X.m0+i):=
  fun hgo KG Ap NK hd um hdd h6' Vl aey aI=>alV uo QA rfl h6 hgo KG Ap NK hd um hdd h6' (fun _ ht _=>O6 Vl ht) aey aI
 have idle:∀{g':bF} {m':Nat},bD X.P false g w=.go g' w #[]->WSit X.P ty X.Wg X.C n CJ CJ 0 (i+1) v s m' dd g' w->m'+1=m->s≠1->X.xR ty n dH Anch Mid cZ t0 ks bn gs w sl t tag st D τ (X.m0+i):=by
  intro g' m' hgo um hm h1;exact book hgo (.refl X.Wg w) bV (by simp) (by simp) um rfl h6 (O4 (by rw[zg]) kD) (fun e=>absurd e<|nr h1)<|.inr ⟨rfl,hm⟩
 have one:∀{s':Nat},s'<=7->Go.ConcN.isW3 tag.c->(∀a,a<n->a≠i->(fP st a).stage=1)->(s'=4\/s'=3\/s'=2)->Go.ConcN.Mode n (fP<|upd st i s') tag.c (if s'=2 then 0 else 1) 0:=by
  intro s' h7 NL zu um;rw[SH h7];have:=Go.ConcN.Mode.last (j:=n) (D:=upd (fP st) i ⟨s',0,0⟩) (tag:=tag.c) i NL fE (by rw[aD5];exact um) (fun a ha e=>by rw[aD8 _ _ e];exact zu a ha e);rw[aD5]at this;exact this
 cases hl with
 |r0 _=>omega
 |k1 uu=>
  rcases aEl uu with nN|⟨m',rfl,jG⟩
  ·obtain⟨_,g',hgo,m₂,hk⟩:=nN w<|aEo w;exact book hgo (.refl X.Wg w) bV (by intro e he;simp at he;subst he;exact .inl rfl) (by intro jx e he;exact .inl (by have:=KR he;simp at this;subst this;rfl)) (.d1 hk) rfl (by omega)
    (by rw[SH<|by omega];exact kD.counted fE (by rw[EP];omega) (.inr rfl) 0 0) (fun e=>absurd e<|nr<|by omega) (.inl<|by omega)
  ·obtain⟨g',w',es,hgo,⟨rfl,rfl⟩,lV⟩:=jG w<|aEo w;exact idle hgo (.k1 lV) rfl<|by omega
 |d1 uu=>
  rcases aEl uu with nN|⟨m',rfl,jG⟩
  ·obtain⟨_,jF⟩:=nN w<|aEo w;have o6:cnt (fP st i)=1:=by unfold cnt;rw[if_pos (by rw[EP];omega)]
   have hV1:1<=Vc n (fP st):=by have:=le_sumTo (f:=fun x=>cnt<|fP st x) fE;simp only[Vc];omega
   have hVn:=Vc_le n<|fP st;have bk2:∀e∈#[rd<|stA X.Wg,wr<|stA X.Wg],Bk X.Wg e:=by intro e he;simp at he;rcases he with rfl|rfl<;>exact bk_cell _ _ rfl
   have NM:∀jx e,(#[rd<|stA X.Wg,wr<|stA X.Wg]:Array Event)[jx]? =ae e->(MemAct.ofEvent e).touch?=af\/0<deafBehind 1 ((#[rd<|stA X.Wg,wr<|stA X.Wg]:Array Event).extract 0 jx):=by
    intro jx e he;match jx,he with
    |0,_=>exact .inr<|by simp[deafBehind]
    |1,_=>exact .inr<|by simp[deafBehind,rd]
    |jx+2,he=>simp at he
   have hup:=Vc_upd (fP st) (⟨1,0,0⟩:WD) fE;have rV:cnt (⟨1,0,0⟩:WD)=0:=rfl;have ZJ:fP (upd st i 1)=upd (fP st) i ⟨1,0,0⟩:=SH (by omega);have opq:Go.ConcN.OpenSt n (fP st)->Go.ConcN.OpenSt n (fP<|upd st i 1):=fun h a ha=>by
    rw[ZJ];by_cases e:a=i
    ·subst e;rw[aD5];simp
    ·rw[aD8 _ _ e];exact h a ha
   generalize ER:tag.c=ct at kD;cases kD with
   |opn h1 h2 h3=>
    obtain⟨vv,hv⟩:∃vv,Vc n (fP st)+Go.ConcN.pend ct=vv+1:=⟨Vc n (fP st)+Go.ConcN.pend ct-1,by omega⟩;have hpd:Go.ConcN.pend ct=0:=by rw[<-ER];cases tag<;>rfl
    rw[hv]at bV;have wu:WgAt ty X.Wg w (((vv:Nat)+1)*KK+((0:Nat):Int)) 0:=by simpa using bV
    obtain⟨g',hgo,_,hq⟩:=jF vv 0 (by omega) (by omega) wu;obtain⟨qq,hq⟩:=hq (by omega);have ZK:Vc n (fP<|upd st i 1)+Go.ConcN.pend ct=vv:=by rw[ZJ];omega
    refine book hgo (aEp w (stA X.Wg) _) (bV.setSt _) bk2 NM (.quit hq) rfl (by omega) ?_ (fun e=>absurd e<|nr<|by omega) (.inl<|by omega);have e:((vv:Nat):Int)*KK+((0:Nat):Int)=((Vc n (fP<|upd st i 1)+Go.ConcN.pend ct:Nat):Int)*KK:=by rw[ZK];simp
    rw[e,ER];exact .opn h1 (opq h2) (fun vs ev=>by have:=h3 vs ev;rw[ZJ];omega)
   |reg h1 h2 h3=>
    obtain⟨vv,hv⟩:∃vv,Vc n (fP st)=vv+1:=⟨Vc n (fP st)-1,by omega⟩;rw[hv]at bV;have wu:WgAt ty X.Wg w (((vv:Nat)+1)*KK+((1:Nat):Int)) 0:=by simpa using bV
    obtain⟨g',hgo,hl,hq⟩:=jF vv 1 (by omega) (by omega) wu;by_cases hv0:vv=0
    ·subst hv0;obtain⟨m₂,hk⟩:=hl ⟨rfl,rfl⟩;have zu:∀a,a<n->a≠i->(fP st a).stage=1:=fun a ha e=>by
      have c0:=others_uncounted fE hv o6 a ha e;have:=h2 a ha;unfold cnt at c0;by_cases h5:5<=(fP st a).stage
      ·rw[if_pos h5]at c0;omega
      ·omega
     have:=one (s':=4) (by omega) (by rw[ER];exact h1) zu<|.inl rfl;refine book hgo (aEp w (stA X.Wg) _) (bV.setSt _) bk2 NM (.d2 hk) rfl (by omega) ?_ (fun e=>absurd e<|nr<|by omega) (.inl<|by omega);simpa using this
    ·obtain⟨qq,hq⟩:=hq (by omega);have ZK:Vc n (fP<|upd st i 1)=vv:=by rw[ZJ];omega
     refine book hgo (aEp w (stA X.Wg) _) (bV.setSt _) bk2 NM (.quit hq) rfl (by omega) ?_ (fun e=>absurd e<|nr<|by omega) (.inl<|by omega);have e:((vv:Nat):Int)*KK+((1:Nat):Int)=((Vc n (fP<|upd st i 1):Nat):Int)*KK+1:=by rw[ZK];simp
     rw[e,ER];exact .reg h1 (opq h2)<|by omega
   |last L _ h2 h3 h4=>
    by_cases e:i=L
    ·subst e;omega
    ·have:=h4 i fE e;omega
   |sema h2=>have:=h2 i fE;omega
   |fin _ h2=>have:=h2 i fE;omega
  ·obtain⟨g',w',es,hgo,⟨rfl,rfl⟩,lV⟩:=jG w<|aEo w;exact idle hgo (.d1 lV) rfl<|by omega
 |d2 uu=>
  rcases aEl uu with nN|⟨m',rfl,jG⟩
  ·obtain⟨_,hx⟩:=nN w<|aEo w;obtain⟨NL,zu,rfl,rfl⟩:=kD.isLast fE (by rw[EP];omega);have e1:(if(fP st i).stage=2 then(0:Int)else 1)=1:=if_neg (by rw[EP];omega);rw[e1]at bV;obtain⟨g',hgo,m₂,hk⟩:=hx bV;have:=one (s':=3) (by omega) NL zu<|.inr<|.inl rfl;exact book hgo (.refl X.Wg w) bV (by intro e he;simp at he;subst he;exact bk_cell _ _ rfl) (by intro jx e he;match jx,he with|0,_=>exact .inr (by simp[deafBehind])|jx+1,he=>simp at he) (.d3 hk) rfl (by omega) (by simpa using this) (fun e=>absurd e<|nr<|by omega)<|.inl<|by omega
  ·obtain⟨g',w',es,hgo,⟨rfl,rfl⟩,lV⟩:=jG w<|aEo w;exact idle hgo (.d2 lV) rfl<|by omega
 |d3 uu=>
  rcases aEl uu with nN|⟨m',rfl,jG⟩
  ·obtain⟨_,hx⟩:=nN w<|aEo w;obtain⟨NL,zu,rfl,rfl⟩:=kD.isLast fE (by rw[EP];omega);have e1:(if(fP st i).stage=2 then(0:Int)else 1)=1:=if_neg (by rw[EP];omega);rw[e1]at bV;obtain⟨g',hgo,m₂,hk⟩:=hx bV;have:=one (s':=2) (by omega) NL zu<|.inr<|.inr rfl;exact book hgo (aEp w (stA X.Wg) _) (bV.setSt 0) (by intro e he;simp at he;subst he;exact bk_cell _ _ rfl) (by intro jx e he;match jx,he with|0,_=>exact .inr (by simp[deafBehind])|jx+1,he=>simp at he) (.d4 hk) rfl (by omega) (by simpa using this) (fun e=>absurd e<|nr<|by omega)<|.inl<|by omega
  ·obtain⟨g',w',es,hgo,⟨rfl,rfl⟩,lV⟩:=jG w<|aEo w;exact idle hgo (.d3 lV) rfl<|by omega
 |d4 uu=>
  rcases aEl uu with nN|⟨m',rfl,jG⟩
  ·obtain⟨_,hmw,hx⟩:=nN w<|aEo w;obtain⟨NL,zu,rfl,rfl⟩:=kD.isLast fE (by rw[EP];omega);have e1:(if(fP st i).stage=2 then(0:Int)else 1)=0:=if_pos EP;rw[e1]at bV;obtain⟨g',hgo,qq,hq⟩:=hx bV;have Ve:g'.status=.running:=by
    cases qq with
    |zero=>exact absurd hq.2<|by decide
    |succ qq=>exact hq.elim (fun x=>absurd x.2<|by decide) fun x=>x.1
   refine alV uo QA rfl h6 hgo (aEp w (smA X.Wg) _) (bV.setSm 1) (es:=semEvents<|smA X.Wg) ?_ ?_ (.quit hq) (by simp[deafBehind,semEvents]) (by omega) ?_ (fun e=>absurd e<|nr<|by omega)<|.inl<|by omega
   ·intro e he;simp[semEvents]at he;rcases he with rfl|rfl|rfl|rfl
    ·exact .inl rfl
    ·exact bk_cell _ _ rfl
    ·exact bk_cell _ _ rfl
    ·exact .inr<|.inl rfl
   ·intro jx e he;match jx,he with
    |0,he=>simp[semEvents]at he;subst he;exact .inl rfl
    |1,_=>exact .inr<|by simp[deafBehind,semEvents]
    |2,_=>exact .inr<|by simp[deafBehind,semEvents]
    |3,he=>simp[semEvents]at he;subst he;exact .inl rfl
    |jx+4,he=>simp[semEvents]at he
   ·intro jf ht hw;have ZL:=hw hmw Ve;have e3:jf.c=.w3:=by
     rcases ht with rfl|⟨_,rfl⟩
     ·cases jf<;>first|rfl|exact NL.elim|exact absurd rfl ZL
     ·rfl
    rw[e3];refine .sema fun a ha=>?_;rw[SH<|by omega];by_cases e:a=i
    ·subst e;rw[aD5]
    ·rw[aD8 _ _ e];exact zu a ha e
  ·obtain⟨g',w',es,hgo,⟨rfl,rfl⟩,lV⟩:=jG w<|aEo w;exact idle hgo (.d4 lV) rfl<|by omega
 |quit hq=>
  cases m with
  |zero=>rw[hq.1]at gU;cases gU
  |succ qq=>
   rcases hq with⟨hf,_⟩|⟨_,g',es,alX,jG,hq⟩
   ·rw[hf]at gU;cases gU
   ·have NK:∀e∈es,Bk X.Wg e:=fun e he=>Go.ConcR.bk_of_mute<|alX e he;have qI:∀jx e,es[jx]? =ae e->(MemAct.ofEvent e).touch?=af\/0<deafBehind dd (es.extract 0 jx):=fun jx e he=>.inl<|touch_mute<|alX e<|KR he;refine book (jG w) (.refl X.Wg w) bV NK qI (.quit hq) rfl (by omega) (O4 (by rw[zg]) kD) (fun e=>(h.acq e).app fun i' r mP hr=>?_)<|.inr ⟨rfl,rfl⟩;by_cases e':i'=i
    ·subst e';exact hr.book Vj _ _ NK qI
    ·exact hr.appOther ofEvents_g<|by omega
end
end fJ
end
section
namespace fJ
open Go Go.Conc Twin
open Go.ConcN (upd upd_same upd_ne WgLive PayAt Has RW WSit WD CTag Vc cnt sumTo RelBy cell_of_block bk_cell Vc_le allQuit_of)
open Go.ConcR (stA smA rd wr KK WgAt DC0 Payload Bk)
section
variable [Payload]{K:Type}{X:bK K}{ty:dw}{n:Nat}{dH:bF}{Anch:bF->aj->Prop}{Mid:aN->aj->Prop}{cZ:K->List az->az->aN->aj->Prop}
 {t0:Trace}{ks:List K}{gs:Array bF}{w w':aj}{t:Trace}{tag:ji}{dW:Nat->Nat}{E:dD}{S0 G:aN}{Sw:Nat->aN}{q:Nat->Nat}{bn:Nat->List az}{st:Nat->Nat}{D:Nat->T}{τ:T}{sl:Option (Nat×Nat)}
variable{a:bF}{lq:ji}
theorem bK.Inv2.aih(F:X.Fit)(oG:∀(i:Nat) (k:K),ks[i]? =ae k->∀l S g w,X.Fin k l S g w->∃v,X.Bc ty n i v g w/\cZ k l v S w)(qA:∀k l v S w w1,cZ k l v S w->bg S (X.side k) w w1->cZ k l v S w1)
 (h:X.Inv2 ty n dH Anch Mid cZ t0 ks gs w t tag dW E S0 G Sw q bn st D τ){a':bF}(ha:gs[0]? =ae a){es:Array Event}(hgo:bD X.P true a w=.go a' w' es){S1:aN}{iL:T}
 (hb:X.Base t0 ks ((gs.map<|woken X.P a a' w').setIfInBounds 0 a') w' (t++MemOp.ofEvents 0 a.frame.fn a.frame.place es) lq.deaf dW E S1 G Sw q)(hm:X.CO ty dH Anch Mid E S1 lq iL a' w')
 (kW:∀i k,ks[i]? =ae k->bg (Sw i) (X.side k) w w')(rw_:∀i,RW ty X.Wg X.C n 0 i w w')(SC:∀b,(b=X.ov\/∃k∈ks,b=X.ch k)->w'.heap[b]? =w.heap[b]?)(pay:PayAt X.C n w')(bV:∃x y,WgAt ty X.Wg w' x y/\Go.ConcN.Mode n (fP st) lq.c x y)
 (acq:lq=.ret->Fv t0.size X.Wg X.m0 n (t++MemOp.ofEvents 0 a.frame.fn a.frame.place es))(lt:uM n lq st<uM n tag st\/(uM n lq st<=uM n tag st/\T.wK iL τ)):X.xR ty n dH Anch Mid cZ t0 ks bn gs w sl t tag st D τ 0:=by
 have o8:=h.base.pos;have aI:0<gs.size:=by rw[h.base.size];omega
 have hr:=aEm (P:=X.P) (sl:=sl) (i:=0) ha hgo;refine⟨_,w',_,lq,dW,E,S1,G,Sw,q,st,D,iL,hr,⟨hb,h.len,h.L8,⟨a',by rw[tq<|by simpa using aI],hm⟩,fun i k hk=>?_,h.old,fun κ jC=>?_,?_,bV,pay,fun i hi di=>?_,acq⟩,lt.imp id fun x=>⟨x.1,.inr ⟨rfl,x.2⟩⟩⟩
 ·obtain⟨x,hx,hs⟩:=h.work i k hk;have di:=hs.status F fun S g w y=>let ⟨_,z,_⟩:=oG i k hk _ S g w y;z.run;refine⟨x,?_,hs.rely qA (kW i k hk)<|rw_ i⟩;rw[iw<|by omega,xG,hx];simp only[GM,gu];unfold Go.Conc.woken;split
  ·exact aEU _ (di.imp id (·.1))
  ·rfl
 ·obtain⟨s',r',hc⟩:=h.rH κ jC;exact⟨s',r',by rw[SC _<|.inr ⟨κ,jC,rfl⟩];exact hc⟩
 ·obtain⟨cap,s',r',hc⟩:=h.over;exact⟨cap,s',r',by rw[SC _<|.inl rfl];exact hc⟩
 ·obtain⟨r,hr,hb⟩:=h.rel i hi di;exact⟨r,hr.appOther ofEvents_g<|by omega,hb⟩
theorem ash(h:lq.phi n (Vc n<|fP st)<tag.phi n (Vc n<|fP st)):uM n lq st<uM n tag st:=by unfold uM;omega
theorem Ia(a:Addr)(h:a.block=X.Wg)(wr:Bool):X.O1 ⟨.cell a,wr,true⟩:=.inr<|.inr<|.inr<|.inr<|.inl ⟨a,wr,rfl,h⟩
theorem bK.Inv2.acm(F:X.Fit)(oG:∀(i:Nat) (k:K),ks[i]? =ae k->∀l S g w,X.Fin k l S g w->∃v,X.Bc ty n i v g w/\cZ k l v S w)(qA:∀k l v S w w1,cZ k l v S w->bg S (X.side k) w w1->cZ k l v S w1)(hn:n<2147483648)
 (KH:∀g w,Anch g w->WgLive ty X.Wg w->∃m,Goes X.P true (RL ty X.Wg) DC0 (X.AtW1 ty dH Anch) m g w)
 (h:X.Inv2 ty n dH Anch Mid cZ t0 ks gs w t tag dW E S0 G Sw q bn st D τ)(ha:gs[0]? =ae a)(gU:a.status=.running):X.xR ty n dH Anch Mid cZ t0 ks bn gs w sl t tag st D τ 0\/(tag=.ret/\a=dH/\∀w1,bg S0 E w w1->Mid S0 w1):=by
 have o8:=h.base.pos;obtain⟨wa,wb,bV,kD⟩:=h.wg;have alY:WgLive ty X.Wg w:=⟨_,_,bV⟩;have hVn:=Vc_le n<|fP st;obtain⟨a',ha',hm⟩:=h.main;rw[ha]at ha';cases ha';have hCW:X.C≠X.Wg:=iW h.base.iC.1;have refl:RL ty X.Wg w w:=id;have gK:∀{a':bF} {w2:aj} {es:Array Event} {lq:ji} {f:Nat} {x y:Int},bD X.P true a w=.go a' w2 es->Aside X.Wg w w2->WgAt ty X.Wg w2 x y->(∀e∈es,X.O1 e)->deafBehind tag.deaf es=lq.deaf->X.vH ty dH Anch lq f a' w2->(∀w1,bg S0 E w w1->Mid S0 w1)->
  Go.ConcN.Mode n (fP st) lq.c x y->(lq=.ret->Fv t0.size X.Wg X.m0 n (t++MemOp.ofEvents 0 a.frame.fn a.frame.place es))->(lq.phi n (Vc n<|fP st)<tag.phi n (Vc n<|fP st)\/(lq.phi n (Vc n<|fP st)<=tag.phi n (Vc n<|fP st)/\T.wK (T.nat f) τ))->X.xR ty n dH Anch Mid cZ t0 ks bn gs w sl t tag st D τ 0:=by
  intro a' w2 es lq f x y hgo hA Ap dS hd hcs xB Vl aez aI;obtain⟨k0,kW⟩:=h.base.aside (.inl rfl) h.L8 hA;refine h.aih F oG qA ha hgo (S1:=S0) (iL:=T.nat f) ?_ (.gK hcs fun w1 k=>xB w1<|k0.trans k) kW (fun i=>RW.of_wg hA ⟨_,_,Ap⟩ hCW) (fun b hb=>hA.block b ?_) (Xx (hA.block X.C hCW) h.pay) ⟨x,y,Ap,Vl⟩ aez<|aI.imp ash fun z=>⟨by unfold uM;omega,z.2⟩
  ·have:=h.base.gK (gs':=(gs.map<|woken X.P a a' w2).setIfInBounds 0 a') (fn:=a.frame.fn) (pos:=a.frame.place) (acf h.base.pM hA) hA.size dS (by simp)<|h.base.JA a a' w2 a'<|.inl rfl;rw[hd]at this;exact this
  ·rcases hb with rfl|⟨κ,jC,rfl⟩
   ·exact iW h.base.iC.2.1
   ·exact(h.base.iC.2.2.2.1 κ jC).1
 cases hm with
 | @pre σ _ _ hT=>
   left;cases σ with
   |step f=>
    obtain⟨a',w2,es,hgo,hG,BG⟩:=hT.2 w<|bg.refl _ _ _;obtain⟨kW,kS⟩:=h.base.ah7 hG;have Dy:=kS X.Wg<|.inl rfl;have Gn:=kS X.C<|.inr<|.inl rfl;exact h.aih F oG qA ha hgo (lq:=.pre) (S1:=grow S0 w w2) (iL:=(f w).more) (h.base.step0 hG (by simp)<|h.base.JA a a' w2 a'<|.inl rfl) (.pre BG) kW (fun i=>aid Dy Gn i) (fun b hb=>kS b<|hb.elim (fun e=>.inr<|.inr<|.inl e) fun e=>.inr<|.inr<|.inr e) (Xx Gn h.pay) ⟨wa,wb,bV.of_block Dy,kD⟩ (by simp)<|.inr ⟨dm _,.one<|T.Sj<|.mk f w⟩
   |stop=>
    obtain⟨⟨_,hkd⟩,_⟩:=hT w<|bg.refl _ _ _;obtain⟨a',hgo,m,hg⟩:=hkd alY;exact gK hgo (.refl X.Wg w) bV (by intro e he;simp at he;subst he;exact .inl rfl) (lq:=.anch) rfl (.anch hg) (fun w1 k=>(hT w1 k).2) (kD.reopen trivial trivial rfl<|by simp[ji.c]) (by simp)<|.inl (by simp only[ji.phi];omega)
 | @gK _ f _ _ hcs xB=>
   have idle:∀{a':bF} {f':Nat},bD X.P true a w=.go a' w #[]->X.vH ty dH Anch tag f' a' w->f=f'+1->(tag=.ret->Fv t0.size X.Wg X.m0 n t)->X.xR ty n dH Anch Mid cZ t0 ks bn gs w sl t tag st D (T.nat f) 0:=by
    intro a' f' hgo azI hf aez;subst hf;exact gK hgo (.refl X.Wg w) bV (by simp) rfl azI xB kD (fun e=>by rw[aFm];simpa using aez e)<|.inr ⟨dm _,.one<|T.Jy f'⟩
   have w1s:∀{m:Nat} {aij:ji},aij=.w1->Goes X.P true (RL ty X.Wg) DC0 (X.AtW1 ty dH Anch) m a w->Go.ConcN.Mode n (fP st) .w1 wa wb->tag.deaf=1->(ji.phi n (Vc n<|fP st) .w1<tag.phi n (Vc n<|fP st)\/(tag=.w1/\f=m))->X.xR ty n dH Anch Mid cZ t0 ks bn gs w sl t tag st D (T.nat f) 0:=by
    intro m aij _ hg U1 hdf hph;obtain⟨ho,rfl,rfl,_⟩:=U1.open_inv trivial;rcases aEl hg with nN|⟨m',rfl,jG⟩
    ·obtain⟨_,jF⟩:=nN w refl;obtain⟨a',hgo,h0,dh⟩:=jF (Vc n<|fP st) (by omega) (by simpa[Go.ConcN.pend]using bV);have hp:ji.phi n (Vc n<|fP st) .w1<=tag.phi n (Vc n<|fP st):=by rcases hph with h|⟨rfl,_⟩<;>omega
     by_cases hv:Vc n (fP st)=0
     ·obtain⟨m₂,hk⟩:=h0 hv;have e:((Vc n (fP st)+Go.ConcN.pend .w1:Nat):Int)*KK=0:=by rw[hv];simp[Go.ConcN.pend]
      refine gK hgo (.refl X.Wg w) bV (by intro e he;simp at he;subst he;exact Ia _ rfl _) (lq:=.ke) (by rw[hdf];rfl) (.ke hk) xB ?_ (by simp) (.inl (by simp only[ji.phi]at hp⊢;omega));rw[e];exact .fin trivial<|allQuit_of ho hv
     ·obtain⟨m₂,hk⟩:=dh hv;exact gK hgo (.refl X.Wg w) bV (by intro e he;simp at he;subst he;exact Ia _ rfl _) (lq:=.w2<|Vc n<|fP st) (by rw[hdf];rfl) (.w2 hk) xB (U1.reopen trivial trivial rfl (fun vs e=>by cases e;omega)) (by simp)<|.inl (by simp only[ji.phi]at hp⊢;omega)
    ·obtain⟨a',w2,es,hgo,⟨rfl,rfl⟩,lV⟩:=jG w refl;refine gK hgo (.refl X.Wg w2) bV (by simp) (lq:=.w1) (by rw[hdf];rfl) (.w1 lV) xB U1 (by simp) ?_;rcases hph with h|⟨rfl,rfl⟩
     ·exact .inl h
     ·exact .inr ⟨dm _,.one<|T.Jy m'⟩
   cases hcs with
   |anch hg=>
    left;rcases aEl hg with nN|⟨m',rfl,jG⟩
    ·obtain⟨m,vS⟩:=KH a w (nN w refl) alY;exact w1s rfl vS (kD.reopen trivial trivial rfl<|by simp) rfl<|.inl (by simp only[ji.phi];omega)
    ·obtain⟨a',w2,es,hgo,⟨rfl,rfl⟩,lV⟩:=jG w refl;exact idle hgo (.anch lV) rfl<|by simp
   |w1 hg=>exact .inl<|w1s rfl hg kD rfl<|.inr ⟨rfl,rfl⟩
   | @w2 _ _ _ vs hg=>
     left;rcases aEl hg with nN|⟨m',rfl,jG⟩
     ·obtain⟨_,jF⟩:=nN w refl;obtain⟨ho,rfl,rfl,Zx⟩:=kD.open_inv trivial;obtain⟨jJ,EE⟩:=Zx vs rfl;have wu:WgAt ty X.Wg w ((Vc n (fP st):Nat)*KK) 0:=by simpa[Go.ConcN.pend,ji.c]using bV
      obtain⟨azJ,azK⟩:=jF (Vc n<|fP st) (by omega) wu;by_cases e:Vc n (fP st)=vs
      ·obtain⟨a',hgo,m₂,hk⟩:=azJ e;refine gK hgo (aEp w (stA X.Wg) _) (wu.setSt _) (by intro e he;simp at he;rcases he with rfl|rfl<;>exact Ia _ rfl _) (lq:=.wr) rfl (.wr hk) xB ?_ (by simp) (.inl (by simp only[ji.phi];omega));exact .reg trivial ho<|by omega
      ·obtain⟨a',hgo,m₂,hk⟩:=azK e;exact gK hgo (.refl X.Wg w) bV (by intro e he;simp at he;subst he;exact Ia _ rfl _) (lq:=.anch) rfl (.anch hk) xB (kD.reopen trivial trivial rfl<|by simp[ji.c]) (by simp)<|.inl (by simp only[ji.phi];omega)
     ·obtain⟨a',w2,es,hgo,⟨rfl,rfl⟩,lV⟩:=jG w refl;exact idle hgo (.w2 lV) rfl<|by simp
   |wr hg=>
    left;rcases aEl hg with nN|⟨m',rfl,jG⟩
    ·obtain⟨_,a',hgo,m₂,hk⟩:=nN w refl;exact gK hgo (.refl X.Wg w) bV (by intro e he;simp at he;subst he;exact .inr<|.inr<|.inr<|.inl ⟨_,rfl,rfl⟩) (lq:=.w3) rfl (.w3 hk) xB kD (by simp)<|.inl (by simp only[ji.phi];omega)
    ·obtain⟨a',w2,es,hgo,⟨rfl,rfl⟩,lV⟩:=jG w refl;exact idle hgo (.wr lV) rfl<|by simp
   | @w3 m _ _ hg=>
     left;rcases aEl hg with nN|⟨m',rfl,jG⟩
     ·obtain⟨_,Vf,asi,azL⟩:=nN w refl;have blk:wb=0->Go.ConcN.Mode n (fP st) .blk wa wb->X.xR ty n dH Anch Mid cZ t0 ks bn gs w sl t .w3 st D (T.nat<|m+1) 0:=by
       intro h0 BH;subst h0;exact gK (asi ⟨_,bV⟩) (.refl X.Wg w) bV (by simp) (lq:=.blk) rfl (.blk nN) xB BH (by simp)<|.inr ⟨dm _,T.ah9 m⟩
      generalize ER:ji.c .w3=ct at kD;cases kD with
      |opn h1 _ _=>rw[<-ER]at h1;exact h1.elim
      |reg h1 h2 h3=>exact blk rfl<|.reg trivial h2 h3
      |last L h1 h2 h3 h4=>exact blk rfl<|.last L trivial h2 h3 h4
      |sema h2=>
       obtain⟨a',hgo,m₂,hk⟩:=azL bV;refine gK hgo (aEp w (smA X.Wg) _) (bV.setSm 0) (es:=semEvents<|smA X.Wg) ?_ (lq:=.w4) (by simp[ji.deaf,deafBehind,semEvents]) (.w4 hk) xB (.fin trivial h2) (by simp) (.inl (by simp only[ji.phi];omega));intro e he;simp[semEvents]at he;rcases he with rfl|rfl|rfl|rfl
       ·exact .inl rfl
       ·exact Ia _ rfl _
       ·exact Ia _ rfl _
       ·exact .inr<|.inl rfl
      |fin h1 _=>rw[<-ER]at h1;exact h1.elim
     ·obtain⟨a',w2,es,hgo,⟨rfl,rfl⟩,lV⟩:=jG w refl;exact idle hgo (.w3 lV) rfl<|by simp
   |blk _=>simp at gU
   |w4 hg=>
    left;obtain⟨hq,rfl,rfl⟩:=kD.fin_inv trivial;rcases aEl hg with nN|⟨m',rfl,jG⟩
    ·obtain⟨_,hx⟩:=nN w refl;obtain⟨a',hgo,m₂,hk⟩:=hx bV;exact gK hgo (.refl X.Wg w) bV (by intro e he;simp at he;subst he;exact Ia _ rfl _) (lq:=.ke) rfl (.ke hk) xB (.fin trivial hq) (by simp)<|.inl (by simp only[ji.phi];omega)
    ·obtain⟨a',w2,es,hgo,⟨rfl,rfl⟩,lV⟩:=jG w refl;exact idle hgo (.w4 lV) rfl<|by simp
   |ke hg=>
    left;obtain⟨hq,rfl,rfl⟩:=kD.fin_inv trivial;rcases aEl hg with nN|⟨m',rfl,jG⟩
    ·obtain⟨_,a',hgo,m₂,hk⟩:=nN w refl;exact gK hgo (.refl X.Wg w) bV (by intro e he;simp at he;subst he;exact .inr<|.inl rfl) (lq:=.acq) rfl (.acq hk) xB (.fin trivial hq) (by simp)<|.inl (by simp only[ji.phi];omega)
    ·obtain⟨a',w2,es,hgo,⟨rfl,rfl⟩,lV⟩:=jG w refl;exact idle hgo (.ke lV) rfl<|by simp
   |acq hg=>
    left;obtain⟨hq,rfl,rfl⟩:=kD.fin_inv trivial;rcases aEl hg with nN|⟨m',rfl,jG⟩
    ·obtain⟨_,a',hgo,m₂,hk⟩:=nN w refl;refine gK hgo (.refl X.Wg w) bV (by intro e he;simp at he;subst he;exact .inr<|.inr<|.inr<|.inr<|.inr ⟨_,rfl,rfl⟩) (lq:=.ret) rfl (.ret hk) xB (.fin trivial hq) (fun _=>?_) (.inl (by simp only[ji.phi];omega));have e1:MemOp.ofEvents 0 a.frame.fn a.frame.place #[Go.ConcR.mk<|.acquire<|stA X.Wg]=#[{g:=0,fn:=a.frame.fn,pos:=a.frame.place,act:=.mark<|.acquire<|stA X.Wg}]:=by rw[aFm];simp[Go.ConcR.ofEvent_mk]
     rw[e1];have hy:(t++ #[({g:=0,fn:=a.frame.fn,pos:=a.frame.place,act:=.mark<|.acquire<|stA X.Wg}:MemOp)])[t.size]? =ae {g:=0,fn:=a.frame.fn,pos:=a.frame.place,act:=.mark<|.acquire<|stA X.Wg}:=by simp
     refine⟨t.size,by rw[act?_of hy],by simp[Trace.g?],⟨0,by simp[Trace.g?],by rw[deaf_old<|dm _];exact h.base.deaf0⟩,fun i hi=>?_⟩;have h1:=hq i hi;have EC:st i<=6:=by
      have:min (st i) 7=1:=h1;omega
     obtain⟨r,hr,hb⟩:=h.rel i hi EC;exact⟨r,hr.appOther (x:=0) (by intro op aO;simp at aO;rw[aO])<|by omega,lt_of_act? hr.rel.act,hb⟩
    ·obtain⟨a',w2,es,hgo,⟨rfl,rfl⟩,lV⟩:=jG w refl;exact idle hgo (.acq lV) rfl<|by simp
   |ret hg=>
    rcases aEl hg with nN|⟨m',rfl,jG⟩
    ·exact .inr ⟨rfl,nN w refl,xB⟩
    ·left;obtain⟨a',w2,es,hgo,⟨rfl,rfl⟩,lV⟩:=jG w refl;exact idle hgo (.ret lV) rfl h.acq
end
end fJ
end
section
namespace fJ
open Go Go.Conc Twin
open Go.ConcN (upd upd_same upd_ne WgLive PayAt Has RW WSit WD CTag Vc cnt sumTo RelBy exists_counted)
open Go.ConcR (stA smA rd wr KK WgAt DC0 Payload Bk)
section
variable [Payload]{K:Type}{X:bK K}{ty:dw}{n:Nat}{dH:bF}{Anch:bF->aj->Prop}{Mid:aN->aj->Prop}{cZ:K->List az->az->aN->aj->Prop}
 {t0:Trace}{ks:List K}{gs:Array bF}{w:aj}{t:Trace}{tag:ji}{dW:Nat->Nat}{E:dD}{S0 G:aN}{Sw:Nat->aN}{q:Nat->Nat}{bn:Nat->List az}{st:Nat->Nat}{D:Nat->T}{τ:T}{sl:Option (Nat×Nat)}
theorem bK.Inv2.acn(F:X.Fit)(hA:∀g w,Anch g w->g.status=.running)(hE:dH.status=.running)(oG:∀(i:Nat) (k:K),ks[i]? =ae k->∀l S g w,X.Fin k l S g w->∃v,X.Bc ty n i v g w/\cZ k l v S w)
 (h:X.Inv2 ty n dH Anch Mid cZ t0 ks gs w t tag dW E S0 G Sw q bn st D τ){i:Nat}{g:bF}(h0:0<i)(hi:i<X.m0)(hg:gs[i]? =ae g)(gU:g.status=.running):X.xR ty n dH Anch Mid cZ t0 ks bn gs w sl t tag st D τ i:=by
 have hq:=h.base.old i g h0 hi hg;have aI:i<gs.size:=(jk.1 hg).1;have og:(i==0)=false:=by simp<;>omega
 cases uV:q i with
 |zero=>rw[uV]at hq;rw[hq.1]at gU;cases gU
 |succ m=>
  rw[uV]at hq;rcases hq with⟨hf,_⟩|⟨_,g',es,hm,di,sQ⟩
  ·rw[hf]at gU;cases gU
  have hr:=aEm (P:=X.P) (sl:=sl) (i:=i) hg (by rw[og];exact di w);have hb:=h.base.leave (fn:=g.frame.fn) (pos:=g.frame.place) h0 hi hm sQ g g' w;obtain⟨a,ha,hmn⟩:=h.main;obtain⟨jf,oD,Dv,aet,_⟩:=hmn.woken hA hE (bg.refl S0 E w) id g g';have Fz:jf=tag\/(tag=.blk/\jf=.w3):=aet.imp (·.1) id;have aev:jf.deaf=tag.deaf:=by rcases Fz with rfl|⟨rfl,rfl⟩<;>rfl
  have sil:∀op∈MemOp.ofEvents i g.frame.fn g.frame.place es,op.act.touch?=none:=fun op aO=>by obtain⟨e,he,rfl⟩:=aDZ aO;exact touch_mute<|hm e he
  obtain⟨wa,wb,bV,kD⟩:=h.wg;refine⟨_,w,_,jf,dW,E,S0,G,Sw,upd q i m,st,upd D i<|T.nat m,oD,hr,⟨aev.symm▸hb,h.len,h.L8,⟨_,by rw[iw<|by omega,xG,ha];rfl,Dv⟩,fun i' k' dN=>?_,fun j j0 j1=>?_,h.rH,h.over,⟨wa,wb,bV,O6 kD Fz⟩,h.pay,fun i' mP h6=>let ⟨r,hr,hb⟩:=h.rel i' mP h6;⟨r,hr.wH sil,hb⟩,fun e=>?_⟩,.inr ⟨?_,.inl ⟨i,aI,?_,fun j hj=>aD8 _ _ hj⟩⟩⟩
  ·obtain⟨x,hx,hs⟩:=h.work i' k' dN;have di:=hs.status F fun S g w y=>let ⟨_,z,_⟩:=oG i' k' dN _ S g w y;z.run;refine⟨x,?_,by rw[aD8 D _<|by omega];exact hs⟩;rw[iw<|by omega,xG,hx];simp only[GM,gu];unfold Go.Conc.woken;split
   ·exact aEU _ (di.imp id (·.1))
   ·rfl
  ·by_cases e:j=i
   ·subst e;rw[aD5,aD5]
   ·rw[aD8 D _ e,aD8 q _ e];exact h.old j j0 j1
  ·rcases Fz with rfl|⟨_,rfl⟩
   ·exact(h.acq e).app fun i' r _ hr=>hr.wH sil
   ·cases e
  ·rcases Fz with rfl|⟨rfl,rfl⟩<;>exact dm _
  ·rw[aD5,h.old i h0 hi,uV];exact T.Jy m
theorem bK.Inv2.awake(F:X.Fit)(hA:∀g w,Anch g w->g.status=.running)(hE:dH.status=.running)(oG:∀(i:Nat) (k:K),ks[i]? =ae k->∀l S g w,X.Fin k l S g w->∃v,X.Bc ty n i v g w/\cZ k l v S w)
 (h:X.Inv2 ty n dH Anch Mid cZ t0 ks gs w t tag dW E S0 G Sw q bn st D τ):∀g∈gs,awake g:=by
 intro g hg;obtain⟨j,hj⟩:=amV.1 hg;rcases h.base.Fq hj with rfl|⟨h1,h2⟩|⟨i,k,rfl,hk⟩
 ·obtain⟨a,ha,hm⟩:=h.main;rw[hj]at ha;cases ha;rcases hm.status hA hE with⟨hs,_⟩|⟨_,g0,rfl,_⟩
  ·exact aEs<|.inl hs
  ·exact aEs<|.inr<|.inl rfl
 ·exact aEs<|(h.base.old j g h1 h2 hj).status.elim .inl fun x=>.inr<|.inr x
 ·obtain⟨y,hy,hs⟩:=h.work i k hk;rw[hj]at hy;cases hy;rcases hs.status F fun S g w y=>let ⟨_,z,_⟩:=oG i k hk _ S g w y;z.run with hs|hs
  ·exact aEs<|.inl hs
  ·exact aEs<|.inr<|.inr hs.1
theorem bK.Inv2.aco(F:X.Fit)(hA:∀g w,Anch g w->g.status=.running)(hE:dH.status=.running)(oG:∀(i:Nat) (k:K),ks[i]? =ae k->∀l S g w,X.Fin k l S g w->∃v,X.Bc ty n i v g w/\cZ k l v S w)
 (h:X.Inv2 ty n dH Anch Mid cZ t0 ks gs w t tag dW E S0 G Sw q bn st D τ):∃(i:Nat) (g:bF),gs[i]? =ae g/\g.status=.running:=by
 obtain⟨a,ha,hm⟩:=h.main;have wk:∀i,i<n->st i≠1->∃(i:Nat) (g:bF),gs[i]? =ae g/\g.status=.running:=by
  intro i hi dh;have hk:ks[i]? =ae (ks[i]'(h.len.symm▸hi)):=eY _;obtain⟨y,hy,hs⟩:=h.work i _ hk;rcases hs.status F fun S g w y=>let ⟨_,z,_⟩:=oG i _ hk _ S g w y;z.run with hs|⟨_,hs⟩
  ·exact⟨_,y,hy,hs⟩
  ·exact absurd hs dh
 rcases hm.status hA hE with⟨hs,_⟩|⟨rfl,_⟩
 ·exact⟨0,a,ha,hs⟩
 ·obtain⟨wa,wb,_,kD⟩:=h.wg;generalize ER:ji.c .blk=ct at kD;cases kD with
  |opn h1 _ _=>rw[<-ER]at h1;exact h1.elim
  |reg _ _ h3=>
   obtain⟨i,hi,h5⟩:=exists_counted h3;exact wk i hi (by have:5<=min (st i) 7:=h5;omega)
  |last L _ h2 h3 _=>
   exact wk L h2 (by
    have:min (st L) 7=4\/min (st L) 7=3\/min (st L) 7=2:=h3;omega)
  |sema _=>cases ER
  |fin h1 _=>rw[<-ER]at h1;exact h1.elim
theorem bK.asj(F:X.Fit)(SG:∀k l v S w,cZ k l v S w->∀B:au.cO,(∀b,B.bZ b->¬S b)->au.aG B v)(hA:∀g w,Anch g w->g.status=.running)(hE:dH.status=.running)(oG:∀(i:Nat) (k:K),ks[i]? =ae k->∀l S g w,X.Fin k l S g w->∃v,X.Bc ty n i v g w/\cZ k l v S w)(qA:∀k l v S w w1,cZ k l v S w->bg S (X.side k) w w1->cZ k l v S w1)(hn:n<2147483648)
 (KH:∀g w,Anch g w->WgLive ty X.Wg w->∃m,Goes X.P true (RL ty X.Wg) DC0 (X.AtW1 ty dH Anch) m g w)(N:Nat):∀(A:Nat) (D:Nat->T) (τ:T) {gs:Array bF} {w:aj} {sl:Option (Nat×Nat)} {t:Trace} {tag:ji} {dW:Nat->Nat} {E:dD} {S0 G:aN} {Sw:Nat->aN} {q:Nat->Nat} {st:Nat->Nat},uM n tag st<=A->gs.size=N->
   X.Inv2 ty n dH Anch Mid cZ t0 ks gs w t tag dW E S0 G Sw q bn st D τ->
 ∃M gs1 w1 kM t1 JC E1 S1 G1 vG q1 Am D1 iL,runNT X.P M (crowd gs w sl) t=(.next<|crowd gs1 w1 kM,t1)/\X.Inv2 ty n dH Anch Mid cZ t0 ks gs1 w1 t1 .ret JC E1 S1 G1 vG q1 bn Am D1 iL/\gs1[0]? =ae dH/\Mid S1 w1:=by
 refine ar7 N ?_;intro A D τ LU ihV LV gs w sl t tag dW E S0 G Sw q st hAr hN h;obtain⟨i,g,dd,sl',hi,hg,di⟩:=aFf (P:=X.P) (w:=w) (sl:=sl) (h.awake F hA hE oG)<|h.aco F hA hE oG;have h':=h.at qA dd;have key:X.xR ty n dH Anch Mid cZ t0 ks bn gs (w.at dd) sl' t tag st D τ i->∃M gs1 w1 kM t1 JC E1 S1 G1 vG q1 Am D1 iL,runNT X.P M (crowd gs w sl) t=(.next<|crowd gs1 w1 kM,t1)/\X.Inv2 ty n dH Anch Mid cZ t0 ks gs1 w1 t1 .ret JC E1 S1 G1 vG q1 bn Am D1 iL/\gs1[0]? =ae dH/\Mid S1 w1:=by
  rintro⟨gs1,w1,ops,lq,JC,E1,S1,G1,vG,q1,Am,D1,iL,hr,hI,aI⟩;have eH:gs1.size=N:=by rw[hI.base.size,<-hN,h.base.size]
  have fin:(∃M ni w2 l9 t2 dW2 E2 S2 G2 LZ q2 QB D2 D9,runNT X.P M (crowd gs1 w1 sl') (t++ops)=(.next<|crowd ni w2 l9,t2)/\X.Inv2 ty n dH Anch Mid cZ t0 ks ni w2 t2 .ret dW2 E2 S2 G2 LZ q2 bn QB D2 D9/\ni[0]? =ae dH/\Mid S2 w2)->
   ∃M gs1 w1 kM t1 JC E1 S1 G1 vG q1 Am D1 iL,runNT X.P M (crowd gs w sl) t=(.next<|crowd gs1 w1 kM,t1)/\X.Inv2 ty n dH Anch Mid cZ t0 ks gs1 w1 t1 .ret JC E1 S1 G1 vG q1 bn Am D1 iL/\gs1[0]? =ae dH/\Mid S1 w1:=by
   rintro⟨M,ni,w2,l9,t2,dW2,E2,S2,G2,LZ,q2,QB,D2,D9,r1,r2,r3,r4⟩;refine⟨M+1,ni,w2,l9,t2,dW2,E2,S2,G2,LZ,q2,QB,D2,D9,?_,r2,r3,r4⟩;simp only[runNT,di,hr];exact r1
  rcases aI with hl|⟨hl,hv|⟨rfl,A8⟩⟩
  ·exact fin<|LU (uM n lq Am) D1 iL (by omega) (sl:=sl') (dm _) eH hI
  ·exact fin<|ihV D1 iL (hN▸hv) (sl:=sl') (by omega) eH hI
  ·exact fin<|LV iL A8 (sl:=sl') (by omega) eH hI
 rcases h'.base.Fq hi with rfl|⟨h1,h2⟩|⟨i,k,rfl,hk⟩
 ·rcases h'.acm (sl:=sl') F oG qA hn KH hi hg with hx|⟨rfl,rfl,hM⟩
  ·exact key hx
  ·exact⟨0,gs,w,sl,t,dW,E,S0,G,Sw,q,st,D,τ,rfl,h,hi,hM w<|bg.at S0 E (w.at dd) w.drawn⟩
 ·exact key<|h'.acn F hA hE oG h1 h2 hi hg
 ·by_cases h8:8<=st i
  ·exact key<|h'.asa F SG hA hE oG qA hk hi h8
  ·exact key<|h'.ase F hA hE oG qA hn hk hi (by omega) hg
theorem bK.Inv2.done{B0:Nat}(hP:Past (lh X.iG) B0 t0)(h:X.Inv2 ty n dH Anch Mid cZ t0 ks gs w t .ret dW E S0 G Sw q bn st D τ):
 (∃q',Leavers X.P t gs q')/\Past (lh fun b=>X.iG b\/b=X.Wg) w.heap.size t/\∀(i:Nat) (k:K),ks[i]? =ae k->∃v,cZ k (bn i) v (Sw i) w/\Has X.C i v w:=by
 obtain⟨wa,wb,bV,kD⟩:=h.wg;obtain⟨hq,rfl,rfl⟩:=kD.fin_inv trivial;have di:∀i,i<n->st i=1:=fun i hi=>by
  have:min (st i) 7=1:=hq i hi;omega
 have hw:∀(i:Nat) (k:K),ks[i]? =ae k->∃g,gs[X.m0+i]? =ae g/\∃v m,QuitsD X.P m (dW i) g/\cZ k (bn i) v (Sw i) w/\Has X.C i v w:=by
  intro i k hk;have hi:i<n:=h.len▸(dM.1 hk).1;obtain⟨g,hg,hs⟩:=h.work i k hk;refine⟨g,hg,?_⟩;rw[di i hi]at hs;generalize hd:dW i=dd at hs;generalize hDi:D (X.m0+i)=σ at hs;generalize h1:(1:Nat)=s1 at hs;cases hs with
  |run=>omega
  |L6=>omega
  |fin=>omega
  |done=>omega
  | @gK v _ m _ _ _ hl h6 hr hh=>
    cases hl with
    |quit hq=>exact⟨v,m,hq,hr,hh⟩
    |_=>omega
 refine⟨?_,?_,fun i k hk=>let ⟨g,_,v,m,_,h1,h2⟩:=hw i k hk;⟨v,h1,h2⟩⟩
 ·have:∀i,∃m,∀g,0<i->gs[i]? =ae g->QuitsD X.P m (Deaf t i) g:=by
   intro i;by_cases h0:0<i
   ·cases hg:gs[i]? with
    |none=>exact⟨0,fun g _ e=>by cases e⟩
    |some g=>
     rcases h.base.Fq hg with rfl|⟨h1,h2⟩|⟨j,k,rfl,hk⟩
     ·omega
     ·exact⟨q i,fun g' _ e=>by cases e;exact h.base.old i g h1 h2 hg⟩
     ·obtain⟨g',lV,v,m,hq,_⟩:=hw j k hk;rw[hg]at lV;cases lV;exact⟨m,fun g' _ e=>by cases e;rw[h.base.deafW j (dM.1 hk).1];exact hq⟩
   ·exact⟨0,fun g e=>absurd e h0⟩
  obtain⟨q',sQ⟩:=QL this;exact⟨q',fun i g h0 hg=>sQ i g h0 hg,h.base.above⟩
 ·obtain⟨qq,ha,BA,hh,jF⟩:=h.acq rfl;obtain⟨u,hu,alZ⟩:=h.base.base;have Qy:∀l,lh X.iG l->lh (fun b=>X.iG b\/b=X.Wg) l:=fun l hl=>lh.mono (fun b hb=>.inl hb) hl;have before:∀i k r,vI X.Wg t k r->r<qq->t0.size<=r->i<=r->t.g? i=ae k->HappensBefore t i qq:=by
   intro i k r hr NI qc hir IX;have edge:HappensBefore t r qq:=.single (.inr ⟨.marked NI (.inr hr.rel.act) ha (fun k h1 _=>h.base.norel k<|by omega),hr.rel.heard,hh⟩);rcases E5 i r with aI|Ey
   ·exact .trans (.single<|.inl ⟨aI,k,IX,hr.rel.g⟩) edge
   ·obtain rfl:i=r:=by omega
    exact edge
  obtain⟨z,hz,hzg⟩:=zC.1 BA;refine⟨h.base.ti.clean,fun i a ZM o7=>?_,fun i g IX dh hc=>?_,h.base.deaf0,h.base.seen⟩
  ·obtain⟨op,aO,vZ⟩:=aEG ZM;rw[hu]at aO;rcases aEf aO with⟨aI,ZE⟩|⟨_,zo⟩
   ·rcases hP.known i a (by rw[aE0 ZE];exact vZ) o7 with hk|⟨hs,hk⟩
    ·left;rw[hu];exact hk.app u
    ·exact .inr ⟨Qy _ hs,hk⟩
   ·rw[<-hu]at aO;rcases alZ op zo (by rw[vZ];simp)with h0|⟨j,hj,hgj⟩
    ·left;have:=knows_own aO;rwa[h0]at this
    ·obtain⟨r,hr,NI,qc⟩:=jF j<|h.len▸hj;have IX:t.g? i=ae (X.m0+j):=by simp[Trace.g?,aO,hgj]
     rcases E5 r i with aI|Ey
     ·obtain⟨⟨ad,h1,h2⟩,h3⟩:=hr.after i aI IX a ZM;right;rw[h1];exact⟨.inr h2,h3⟩
     ·exact .inl ⟨qq,z,hz,hzg,.inr<|before i _ r hr NI qc Ey IX⟩
  ·obtain⟨x,hx,qh⟩:=hc;have ZM:touchAt t i=ae x:=hx;obtain⟨op,aO,vZ⟩:=aEG ZM;have al0:=aO;rw[hu]at aO;rcases aEf aO with⟨aI,ZE⟩|⟨_,zo⟩
   ·obtain⟨j,hj,hb⟩:=hP.over i g (by rw[hu,aFo aI]at IX;exact IX) dh ((counts_old (u:=u) aI).1 (by rw[<-hu];exact⟨x,hx,qh⟩));have KA:j<t0.size:=by
     obtain⟨y,hy,_⟩:=zC.1 hj;exact aEK hy
    exact⟨j,by rw[hu,aFo KA];exact hj,by rw[hu];exact hb_app u hb⟩
   ·have asl:op.g=g:=by simpa[Trace.g?,al0]using IX
    rcases alZ op zo (by rw[vZ];simp)with h0|⟨j,hj,hgj⟩
    ·rw[asl]at h0;exact absurd h0 dh
    ·obtain⟨r,hr,NI,qc⟩:=jF j<|h.len▸hj;have al1:t.g? i=ae (X.m0+j):=by simp[Trace.g?,al0,hgj]
     have hle:i<=r:=Nat.le_of_not_lt fun aI=>hr.rel.after i aI al1 ⟨x,hx,qh⟩;exact⟨qq,BA,before i _ r hr NI qc hle al1⟩
end
end fJ
end
section
namespace fJ
open Go Go.Conc Twin
open Go.ConcN (upd upd_same upd_ne WgLive PayAt Has RW WSit WD CTag Vc cnt sumTo)
open Go.ConcR (stA smA rd wr KK WgAt DC0 Payload Bk)
section
variable [Payload]{K:Type}(X:bK K)(ty:dw)(n:Nat)(Anch:bF->aj->Prop)(Mid:aN->aj->Prop)(cZ:K->List az->az->aN->aj->Prop)(Good:List K->Prop)
structure bK.AtClose(ks:List K)(E:dD)(S:aN)(g:bF)(w:aj):Prop where
 len:ks.length=n
 A7:Good ks
 wg:WgAt ty X.Wg w (n*KK) 0
 asn:mayWake X.P g=true
 fin:∀(i:Nat) (k:K),ks[i]? =ae k->∀l S g w,X.Fin k l S g w->∃v,X.Bc ty n i v g w/\cZ k l v S w
 close:∃(g':bF) (E2:dD),g'.status=.running/\(∀b,E2.ro b->E.ro b/\b≠X.Wg)/\(∀b,E2.rd b->E.rd b)/\∀cap s r,w.heap[X.ov]? =ae (.chan cap #[] false s r false)->
  bD X.P true g w=.go g' {w with heap:=w.heap.setIfInBounds X.ov<|.chan cap #[] true s r false} #[⟨.obj X.ov,false,true⟩,⟨.obj X.ov,true,true⟩]/\
  aA X.P true E2 (fun S g w=>X.AtKd ty Anch g w/\Mid S w) S g' {w with heap:=w.heap.setIfInBounds X.ov<|.chan cap #[] true s r false}
end
section
variable [Payload]{K:Type}{X:bK K}{ty:dw}{n:Nat}{dH:bF}{Anch:bF->aj->Prop}{Mid:aN->aj->Prop}{cZ:K->List az->az->aN->aj->Prop}{Good:List K->Prop}
 {t0:Trace}{ks:List K}{gs:Array bF}{w:aj}{t:Trace}{E:dD}{S0 G:aN}{Sw:Nat->aN}{q:Nat->Nat}{bn:Nat->List az}{D:Nat->T}{τ:T}{sl:Option (Nat×Nat)}{o:Option Obj}
theorem aim:∀n,Vc n (fP fun _=>9)=n
 |0=>rfl
 |n+1=>by
  have:=aim n;unfold Vc at*
  simp only[sumTo,this];rfl
theorem bK.Inv1.close{End:List K->dD->aN->bF->aj->Prop}(F:X.Fit)(h:X.Inv1 End o t0 [] ks gs w t 0 E S0 G Sw q bn D τ)(Gp:∃cs:Array az,o=ae (.cells cs Payload.ety)/\cs.size=n){a:bF}(ha:gs[0]? =ae a)(hc:X.AtClose ty n Anch Mid cZ Good ks E S0 a w):
 ∃gs1 w1 ops E1 D1 iL,runT X.P (crowd gs w sl) 0=(.next<|crowd gs1 w1 sl,ops)/\gs1.size=gs.size/\X.Inv2 ty n dH Anch Mid cZ t0 ks gs1 w1 (t++ops) .pre (fun _=>0) E1 S0 G Sw q bn (fun _=>9) D1 iL:=by
 have o8:=h.base.pos;have aI:0<gs.size:=by rw[h.base.size];omega
 obtain⟨cap,s,r,ho⟩:=h.over;obtain⟨a',E2,gU,IQ,Vb,jG⟩:=hc.close;obtain⟨hgo,hR⟩:=jG cap s r ho;have Ak:X.ov<w.heap.size:=h.base.mem.low _<|.inr<|.inr<|.inl rfl;have hr:=aEm (P:=X.P) (sl:=sl) (i:=0) ha hgo;have eH:({w with heap:=w.heap.setIfInBounds X.ov<|.chan cap #[] true s r false}:aj).heap.size=w.heap.size:=by simp
 have Nk:∀b,b≠X.ov->({w with heap:=w.heap.setIfInBounds X.ov<|.chan cap #[] true s r false}:aj).heap[b]? =w.heap[b]? :=fun b hb=>iw<|iW hb;have al2:({w with heap:=w.heap.setIfInBounds X.ov<|.chan cap #[] true s r false}:aj).heap[X.ov]? =ae (.chan cap #[] true s r false):=tq Ak;have aso:au.jB X.bZ ({w with heap:=w.heap.setIfInBounds X.ov<|.chan cap #[] true s r false}:aj):=h.base.pM.setObj fun _ v hv=>by simp at hv
 have htp:({w with heap:=w.heap.setIfInBounds X.ov<|.chan cap #[] true s r false}:aj).tape=w.tape/\({w with heap:=w.heap.setIfInBounds X.ov<|.chan cap #[] true s r false}:aj).os=w.os/\({w with heap:=w.heap.setIfInBounds X.ov<|.chan cap #[] true s r false}:aj).output=w.output:=⟨rfl,rfl,rfl⟩;generalize({w with heap:=w.heap.setIfInBounds X.ov<|.chan cap #[] true s r false}:aj)=w' at*
 obtain⟨_,_,nW,nR⟩:=h.base.Sv (b:=X.ov)<|.inr<|.inr<|.inl rfl;have kW:∀i k,ks[i]? =ae k->bg (Sw i) (X.side k) w w':=fun i k hk=>⟨htp.1,htp.2.1,htp.2.2,BM eH.symm,fun b hb=>Nk b fun e=>nW i (dM.1 hk).1<|e▸hb,fun b hb=>Nk b fun e=>nR i k hk<|e▸hb⟩;have hwk:∀g,woken X.P a a' w' g=g.again w':=fun g=>by
  unfold woken;rw[if_pos];rw[hc.asn,gU];rfl
 have hb:=h.base.ev0 (w':=w') (gs':=(gs.map<|woken X.P a a' w').setIfInBounds 0 a') (fn:=a.frame.fn) (pos:=a.frame.place) (es:=#[⟨.obj X.ov,false,true⟩,⟨.obj X.ov,true,true⟩]) aso eH (by
  intro e he;simp only[tu,jR,pF,pG]at he;rcases he with rfl|rfl
  ·refine⟨Ak,by simp[MemAct.ofEvent],fun x hx=>?_⟩;simp only[MemAct.ofEvent,MemAct.touch?,gu]at hx;subst hx;exact .inl ⟨.inr rfl,by simp⟩
  ·refine⟨Ak,by simp[MemAct.ofEvent],fun x hx=>?_⟩;simp[MemAct.ofEvent,MemAct.touch?]at hx) (by simp) (h.base.JA a a' w' a'<|.inl rfl)
 obtain⟨iL,A8⟩:=Jz hR;have hD:∃D1:Nat->T,(∀i,0<i->i<X.m0->D1 i=T.nat (q i))/\∀(i:Nat) (k:K),ks[i]? =ae k->∃g,((gs.map<|woken X.P a a' w').setIfInBounds 0 a')[X.m0+i]? =ae g/\X.yQ ty n cZ i k (bn i) (Sw i) 9 (D1<|X.m0+i) 0 g w':=by
  have azP:∀i,∃σ:T,(0<i->i<X.m0->σ=T.nat (q i))/\∀(j:Nat) (k:K),i=X.m0+j->ks[j]? =ae k->∃g,((gs.map<|woken X.P a a' w').setIfInBounds 0 a')[i]? =ae g/\X.yQ ty n cZ j k (bn j) (Sw j) 9 σ 0 g w':=by
   intro i;by_cases hi:i<X.m0
   ·exact⟨T.nat<|q i,fun _ _=>rfl,fun j k e=>by omega⟩
   ·cases hk:ks[i-X.m0]? with
    |none=>exact⟨.stop,fun _ h=>absurd h hi,fun j k e dN=>by rw[e,Nat.add_sub_cancel_left,dN]at hk;cases hk⟩
    |some k=>
     obtain⟨g,hg,hs⟩:=h.work (i-X.m0) k hk;have ei:X.m0+(i-X.m0)=i:=by omega
     rw[ei]at hg hs;have vS:((gs.map<|woken X.P a a' w').setIfInBounds 0 a')[i]? =ae (g.again w'):=by rw[iw<|by omega,xG,hg,GM,hwk]
     have um:=hs.rely<|kW (i-X.m0) k hk;rcases um.status F with hrn|⟨g0,z0,z1,sh,rfl,hW⟩
     ·have hag:g.again w'=g:=aEU _<|.inl hrn;rw[hag]at vS;generalize hDi:D i=σ at um;cases um with
      | @run D9 _ _ _ hT=>
        refine⟨D9.more,fun _ h=>absurd h hi,fun j k' e dN=>⟨g,vS,?_⟩⟩;have ej:i-X.m0=j:=by omega
        rw[ej]at hk hT;rw[hk]at dN;cases dN;exact .run hT
      |parked hW=>simp[Go.Conc.parked]at hrn
     ·refine⟨T.stop.more,fun _ h=>absurd h hi,fun j k' e dN=>⟨_,vS,?_⟩⟩;have ej:i-X.m0=j:=by omega
      rw[ej]at hk hW;rw[hk]at dN;cases dN;rw[again_some_closed (k:=1) (c:=X.ov) (z:=z1) (by simp[bK.cs]) al2];exact .L6 hW
  obtain⟨D1,hD1⟩:=QL azP;exact⟨D1,fun i h0 h1=>(hD1 i).1 h0 h1,fun i k hk=>(hD1<|X.m0+i).2 i k rfl hk⟩
 obtain⟨D1,hold,asq⟩:=hD;have Dy:w'.heap[X.Wg]? =w.heap[X.Wg]? :=Nk _ h.base.iC.2.1;have Gn:w'.heap[X.C]? =w.heap[X.C]? :=Nk _ h.base.iC.2.2.1;refine⟨_,w',_,E2,D1,iL.more,hr,by simp,⟨⟨hb.size,hb.pos,hb.old,hb.above,hb.deaf0,hb.deafW,⟨hb.mem.rG,hb.mem.lN,hb.mem.apart,hb.mem.tY,fun b iT=>hb.mem.LW b (IQ b iT).1,fun b iT=>hb.mem.Hw b<|Vb b iT,hb.mem.yO,hb.mem.low,hb.mem.bZ,hb.mem.LX⟩,hb.ti,hb.seen,hb.base,hb.norel,hb.iC,hb.pM⟩,hc.len,fun hW=>(IQ _ hW).2 rfl,⟨a',by rw[tq<|by simpa using aI],.pre A8⟩,asq,hold,fun κ jC=>?_,⟨cap,s,r,al2⟩,⟨_,_,hc.wg.of_block Dy,?_⟩,?_,fun i hi h6=>by omega,by simp⟩⟩
 ·obtain⟨s',r',hch⟩:=h.rH κ jC;exact⟨s',r',by rw[Nk _ (h.base.iC.2.2.2.1 κ jC).2.2];exact hch⟩
 ·have:=Go.ConcN.Mode.opn (j:=n) (D:=fP fun _=>9) (tag:=ji.c .pre) trivial (fun i hi=>.inl rfl) (by simp[ji.c]);rw[aim]at this;simpa[Go.ConcN.pend,ji.c]using this
 ·obtain⟨cs,rfl,hcs⟩:=Gp;exact⟨cs,by rw[Gn];exact h.pay,hcs⟩
structure bK.Start(X:bK K)(n:Nat)(E:dD)(S0:aN)(gs:Array bF)(w:aj)(t:Trace)(q:Nat->Nat):Prop where
 size:X.m0=gs.size
 OV:Leavers X.P t gs q
 Jt:Past (lh X.iG) w.heap.size t
 bZ:∀b,X.zQ b->b<w.heap.size
 own:∀b,S0 b->b<w.heap.size/\¬E.rd b/\b≠X.Wg/\b≠X.C/\b≠X.ov/\¬X.zQ b
 rd:∀b,E.rd b->b<w.heap.size/\b≠X.Wg/\b≠X.C/\b≠X.ov/\¬X.iG b
 ro:∀b,E.ro b->E.rd b\/b=X.Wg
 sp:X.Wg<w.heap.size/\X.C<w.heap.size/\X.ov<w.heap.size/\¬X.zQ X.Wg/\¬X.zQ X.C/\¬X.zQ X.ov/\X.Wg≠X.C/\X.Wg≠X.ov/\X.C≠X.ov
 over:∃cap s r,w.heap[X.ov]? =ae (.chan cap #[] false s r false)
 pay:∃cs:Array az,w.heap[X.C]? =ae (.cells cs Payload.ety)/\cs.size=n
 pM:au.jB X.bZ w
theorem bK.Start.inv{End:List K->dD->aN->bF->aj->Prop}(h:X.Start n E S0 gs w t q){a:bF}(ha:gs[0]? =ae a){ts:List qP}(hR:aA X.P true E (X.jY End ts [] 0 E) S0 a w):
 ∃D τ,X.Inv1 End (w.heap[X.C]?) t ts [] gs w t 0 E S0 E.rd (fun _ _=>False) q (fun _=>[]) D τ:=by
 have aI:0<gs.size:=(jk.1 ha).1;obtain⟨τ,A8⟩:=Jz hR;have sp:∀b,X.Sp [] b->b=X.Wg\/b=X.C\/b=X.ov:=by
  rintro b (h|h|h|⟨k,hk,_⟩)
  ·exact .inl h
  ·exact .inr<|.inl h
  ·exact .inr<|.inr h
  ·simp at hk
 refine⟨fun i=>T.nat<|q i,τ.more,⟨by simp[h.size],by rw[h.size];exact aI,fun i g h0 _ hg=>h.OV.old i g h0 hg,h.OV.above,h.Jt.hears,fun i hi=>by simp at hi,⟨fun b hb=>?_,fun i hi=>by simp at hi,fun i i' hi=>by simp at hi,fun b hb=>?_,h.ro,fun b hb=>hb,fun i k hk=>by simp at hk,fun b hb=>?_,h.bZ,fun b hb=>?_⟩,?_,h.Jt.seen,⟨#[],by simp,by simp⟩,fun i hi e=>?_,⟨h.sp.2.2.2.2.2.2.1,h.sp.2.2.2.2.2.2.2.1,h.sp.2.2.2.2.2.2.2.2,by simp,by simp⟩,h.pM⟩,⟨a,ha,.run A8⟩,fun i k hk=>by simp at hk,fun i _ _=>rfl,by simp,h.over,fun a' i v bs ha' hb he=>?_,rfl,fun _ _=>rfl,by simp⟩
 ·obtain⟨h1,h2,h3,h4,h5,h6⟩:=h.own b hb;exact⟨h1,h2,fun z=>by rcases sp b z with e|e|e<;>contradiction,h6⟩
 ·obtain⟨h1,h3,h4,h5,h6⟩:=h.rd b hb;exact⟨h1,fun z=>by rcases sp b z with e|e|e<;>contradiction,h6⟩
 ·rcases sp b hb with rfl|rfl|rfl
  ·exact h.sp.1
  ·exact h.sp.2.1
  ·exact h.sp.2.2.1
 ·rcases sp b hb with rfl|rfl|rfl
  ·exact h.sp.2.2.2.1
  ·exact h.sp.2.2.2.2.1
  ·exact h.sp.2.2.2.2.2.1
 ·have hb:=TI.begin (Sh:=X.Sh) h.Jt (by
   rintro l (⟨a,rfl,ha⟩|rfl)
   ·exact⟨rfl,fun z=>h.sp.2.2.2.1<|.inl<|ha▸z⟩
   ·exact⟨rfl,fun z=>h.sp.2.2.2.2.2.1<|.inl z⟩)
  have e1:X.O (fun _ _=>False) ([]:List K).length=fun _ _=>False:=by
   funext k l;simp[bK.O]
  have e2:X.Rd ([]:List K)=fun _ _=>False:=by
   funext k l;simp[bK.Rd]
  rw[e1,e2];exact hb
 ·have:=lt_of_act? e;omega
 ·have:=D6 A8 fun S g w x=>x.running;rw[ha]at ha';cases ha';rw[this]at hb;cases hb
end
end fJ
end
section
namespace fJ
open Go Go.Conc Twin
open Go.ConcN (sumTo upd sumTo_upd upd_ne upd_same)
variable{B:au.cO}{S:aN}{E:dD}{n:Nat}{e:Event}{P:eF}{fo s:Nat->Prop}{Stop:aN->bF->aj->Prop}{w:aj}
def atg(h:mM S E e)(hS:∀b,S b->b<n/\¬B.bZ b)(hE:∀b,E.rd b->b<n/\¬B.bZ b):au.Fg B n e:=by
 obtain⟨loc,wr,sy⟩:=e;cases loc with
 |cell a=>exact h.elim (fun x=>⟨(hS _ x).2,(hS _ x).1⟩) fun x=>⟨(hE _ x.1).2,(hE _ x.1).1⟩
 |obj r=>exact h.2.elim (fun x=>⟨(hS _ x).2,(hS _ x).1⟩) fun x=>⟨(hE _ x.1).2,(hE _ x.1).1⟩
 |mark m=>exact h
 |_=>exact h.elim
def aiV(h:mM S E e)(hS:∀b,S b->b<n/\¬B.wg b)(hE:∀b,E.rd b->b<n/\¬B.wg b):EvL (au.tV B) n e:=
 have h:=au.LM<|atg (B:=⟨B.wg,B.let_,B.wg⟩) h hS hE
 ⟨fun x hx hs=>h.1 x hx (by generalize x.loc=l at hs⊢;cases l<;>first|exact⟨hs.1,hs.1⟩|exact hs),h.2⟩
def ath{g:bF}(h:aA P true E Stop S g w):
 (∀b,S b->b<w.heap.size/\¬(s b\/fo b))->(∀b,E.rd b->b<w.heap.size/\¬s b)->
 ∀(gs:Array bF) (sl:Option (Nat×Nat)) (t:Trace) (q:Nat->Nat),gs[0]? =ae g->Leavers P t gs q->Past (au.tV<|au.bJ fo s) w.heap.size t->au.jB (fun b=>s b\/fo b) w->
 ∃N S' g' w' gs' sl' t' q',runNT P N (crowd gs w sl) t=(.next<|crowd gs' w' sl',t')/\gs'[0]? =ae g'/\Leavers P t' gs' q'/\Past (au.tV<|au.bJ fo s) w'.heap.size t'/\au.jB (fun b=>s b\/fo b) w'/\Stop S' g' w':=by
 induction h with
 | @stop S g w h=>exact fun _ _ gs sl t q h0 hL hP bP=>⟨0,S,g,w,gs,sl,t,q,rfl,h0,hL,hP,bP,h w<|bg.refl _ _ _⟩
 | @step S g w hr f hs Dp ih=>
   intro hS hEr;have one:∀(M:Nat),(∀(d1:Nat) gs sl t q,sumTo gs.size q<M->gs[0]? =ae g->Leavers P t gs q->Past (au.tV<|au.bJ fo s) w.heap.size t->au.jB (fun b=>s b\/fo b) w->∃N S' g' w' gs' sl' t' q',runNT P N (crowd gs (w.at d1) sl) t=(.next<|crowd gs' w' sl',t')/\gs'[0]? =ae g'/\Leavers P t' gs' q'/\Past (au.tV<|au.bJ fo s) w'.heap.size t'/\au.jB (fun b=>s b\/fo b) w'/\Stop S' g' w')->
    ∀(d0:Nat) gs sl t q,sumTo gs.size q<=M->gs[0]? =ae g->Leavers P t gs q->Past (au.tV<|au.bJ fo s) w.heap.size t->au.jB (fun b=>s b\/fo b) w->∃N S' g' w' gs' sl' t' q',runNT P N (crowd gs (w.at d0) sl) t=(.next<|crowd gs' w' sl',t')/\gs'[0]? =ae g'/\Leavers P t' gs' q'/\Past (au.tV<|au.bJ fo s) w'.heap.size t'/\au.jB (fun b=>s b\/fo b) w'/\Stop S' g' w':=by
    intro M UY d0 gs sl t q hM h0 hL hP bP;have UZ:∀y∈gs,awake y:=by
     intro y hy;obtain⟨i,hi,rfl⟩:=GI.1 hy;rcases Jc i with rfl|o8
     ·have:gs[0]=g:=by simpa[GG hi]using h0
      rw[this];exact aEs<|.inl hr
     ·exact aEs<|(hL.old i _ o8<|GG hi).status.elim .inl fun x=>.inr<|.inr x
    obtain⟨i,y,d,sl',hi,hg,aeN⟩:=aFf (P:=P) (w:=w.at d0) (sl:=sl) UZ ⟨0,_,h0,hr⟩;have wJ:(w.at d0).at d=w.at d:=rfl;rw[wJ]at aeN;rcases Jc i with rfl|o8
    ·obtain rfl:y=g:=by rw[h0]at hi;exact(qX hi).symm
     obtain⟨hgo,hG⟩:=hs (w.at d)<|bg.at _ _ _ _;have hrn:=Dp (w.at d)<|bg.at _ _ _ _;have EM:=aEm (P:=P) (sl:=sl') (i:=0) hi<|show bD P (0==0) _ (w.at d)=_ from hgo;have aI:0<gs.size:=(jk.1 h0).1;have az1:au.jB (fun b=>s b\/fo b) (f<|w.at d).2.1:=hG.RZ (w:=w.at d) ⟨bP.obj,bP.low,bP.mG⟩ hS;have hz:=hG.size;have Gl:w.heap.size<=(f<|w.at d).2.1.heap.size:=hz;have vX:∀b,grow S (w.at d) (f<|w.at d).2.1 b->b<(f<|w.at d).2.1.heap.size/\¬(s b\/fo b):=by
      rintro b (hb|⟨h1,h2⟩)
      ·exact⟨fK (hS b hb).1 Gl,(hS b hb).2⟩
      ·exact⟨h2,fun z=>absurd (bP.low b z).2<|Nat.not_lt.2 h1⟩
     have IQ:∀b,E.rd b->b<(f<|w.at d).2.1.heap.size/\¬s b:=fun b hb=>⟨fK (hEr b hb).1 Gl,(hEr b hb).2⟩;obtain⟨N,S2,g2,w2,ni,l9,t2,q2,oL,k1,k2,k3,k4,k5⟩:=ih (w.at d) (bg.at _ _ _ _) vX IQ ((gs.map<|woken P y (f<|w.at d).1 (f<|w.at d).2.1).setIfInBounds 0 (f<|w.at d).1) sl' (t++MemOp.ofEvents 0 y.frame.fn y.frame.place (f<|w.at d).2.2) q
      (by simp[aI]) ⟨fun j x hj hx=>by
          have dh:0≠j:=by omega
          rw[iw dh,xG]at hx;obtain⟨z,hz,rfl⟩:=zC.1 hx;have hq:=hL.old j z hj hz;rw[aEC hq,aEr t (by omega) _ (fun op aO=>by obtain⟨e,_,rfl⟩:=aDZ aO;rfl)];exact hq,fun j hj=>by
          rw[aEr t (g':=0) (by simp at hj;omega) _ (fun op aO=>by obtain⟨e,_,rfl⟩:=aDZ aO;rfl)];exact hL.above j<|by simpa using hj⟩
      ((hP.mono (B':=(f<|w.at d).2.1.heap.size) Gl).own fun e he=>aiV (B:=au.bJ fo s) (hG.evs e he) (fun b hb=>⟨(vX b hb).1,fun z=>(vX b hb).2<|.inl z⟩) IQ) az1
     refine⟨N+1,S2,g2,w2,ni,l9,t2,q2,?_,k1,k2,k3,k4,k5⟩;simp only[runNT,aeN,EM];exact oL
    ·have hq:=hL.old i y o8 hi;have dR:(i==0)=false:=by simp<;>omega
     have aI:i<gs.size:=(jk.1 hi).1;cases uV:q i with
     |zero=>rw[uV]at hq;rw[hq.1]at hg;cases hg
     |succ k=>
      rw[uV]at hq;rcases hq with⟨EK,_⟩|⟨_,g',U0,hm,Nw,sQ⟩
      ·rw[EK]at hg;cases hg
      have EM:=aEm (P:=P) (sl:=sl') (i:=i) hi (by rw[dR];exact Nw<|w.at d);have eH:((gs.map<|woken P y g'<|w.at d).setIfInBounds i g').size=gs.size:=by simp
      have alK:sumTo gs.size (upd q i k)+(k+1)=sumTo gs.size q+k:=by
       have:=sumTo_upd q k id aI;simpa[uV]using this
      obtain⟨N,S2,g2,w2,ni,l9,t2,q2,oL,ati⟩:=UY d ((gs.map<|woken P y g'<|w.at d).setIfInBounds i g') sl' (t++MemOp.ofEvents i y.frame.fn y.frame.place U0) (upd q i k) (by rw[eH];omega)
       (by
         have dh:i≠0:=by omega
         rw[iw dh,xG,h0];simp only[GM,gu];unfold Go.Conc.woken;split
         ·exact aEU _<|.inl hr
         ·rfl) ⟨fun j x hj hx=>by
         by_cases lW:i=j
         ·subst lW;rw[tq<|by simpa using aI]at hx;obtain rfl:=qX hx;rw[aD5,aEM];exact sQ
         ·rw[iw lW,xG]at hx;obtain⟨z,hz,rfl⟩:=zC.1 hx;have KD:=hL.old j z hj hz;rw[aEC KD,aD8 q k<|iW lW,aEr t lW _ (fun op aO=>by obtain⟨e,_,rfl⟩:=aDZ aO;rfl)];exact KD,fun j hj=>by
         rw[aEr t (g':=i) (by simp at hj;omega) _ (fun op aO=>by obtain⟨e,_,rfl⟩:=aDZ aO;rfl)];exact hL.above j<|by simpa using hj⟩ (hP.mute (by omega) hm) bP
      refine⟨N+1,S2,g2,w2,ni,l9,t2,q2,?_,ati⟩;simp only[runNT,aeN,EM];exact oL
   have main:∀(M d0:Nat) gs sl t q,sumTo gs.size q<=M->gs[0]? =ae g->Leavers P t gs q->Past (au.tV<|au.bJ fo s) w.heap.size t->au.jB (fun b=>s b\/fo b) w->∃N S' g' w' gs' sl' t' q',runNT P N (crowd gs (w.at d0) sl) t=(.next<|crowd gs' w' sl',t')/\gs'[0]? =ae g'/\Leavers P t' gs' q'/\Past (au.tV<|au.bJ fo s) w'.heap.size t'/\au.jB (fun b=>s b\/fo b) w'/\Stop S' g' w':=by
    intro M;induction M with
    |zero=>exact fun d0 gs sl t q hM=>one 0 (fun d1 gs1 kM t1 q1 aI=>absurd aI<|by omega) d0 gs sl t q hM
    |succ M RV=>exact fun d0 gs sl t q hM=>one (M+1) (fun d1 gs1 kM t1 q1 aI=>RV d1 gs1 kM t1 q1<|by omega) d0 gs sl t q hM
   exact fun gs sl t q=>main _ w.drawn gs sl t q<|dm _
def aiW{fr:bu}{cs cs2:List bu}{Q:au.cO->bu->aj->Prop}(h:aA P true E Stop S {frame:=fr,callers:=cs,status:=.running,dying:=af} w)
 (hS:∀b,S b->b<w.heap.size/\¬(s b\/fo b))(hE:∀b,E.rd b->b<w.heap.size/\¬s b)
 (hn:∀S' g' w',Stop S' g' w'->∃fr' cs',g'={frame:=fr',callers:=cs',status:=.running,dying:=af}/\au.Reach (au.bJ fo s) P fr' cs' w' Q cs2):au.Reach (au.bJ fo s) P fr cs w Q cs2:=by
 intro gs sl t q hh;obtain⟨N,S1,g1,w1,gs1,kM,t1,q1,hr,k1,k2,k3,k4,k5⟩:=ath h hS hE gs sl t q hh.own hh.OV hh.Jt hh.ok.RZ;obtain⟨fr',cs',rfl,hR⟩:=hn _ _ _ k5;obtain⟨K,B2,ni,lD,w2,l9,t2,q2,hr2,BF,EF⟩:=hR gs1 kM t1 q1 ⟨k1,k2,k3,k4.okB⟩;exact⟨N+K,B2,ni,lD,w2,l9,t2,q2,au.Xf hr hr2,BF,EF⟩
end fJ
end
end Go.Proofs.YtkelpcjiediamaaGreat
