import Derived.Test.YtkelpcjiediamaaGreatQk0
set_option maxRecDepth 100000
set_option maxHeartbeats 0
set_option linter.all false
namespace Go.Proofs.YtkelpcjiediamaaGreat
open Bool renaming false->ah,true->A
open Go renaming Frame->bK,Goroutine->bP,Program->gB,TypeId->dB,Value->ai,World->ae,stepG->bQ,undef->F
open Go.IntKind renaming i64->Z
open Go.Item renaming inRegion->dm
open Go.Proofs.Tryz renaming prog->aj
open Go.Value renaming int->V,pointer->ak,tuple->dZ
open Go.World renaming heap->R,setCell->aZ
open Option renaming none->U,some->Y
open _root_.Array renaming replicate->iD,size->M
open _root_.List renaming length->O
open Go.Proofs.Tryz
open ag
section
namespace gy
open Go Go.Conc Twin
open Go.ConcN (upd upd_same upd_ne)
open Go.ConcR (stA smA)
section
variable{K:Type}{X:aT K}{End:List K->dP->aS->bP->ae->Prop}{o:Option Obj}{t0:Trace}{ts:List xn}{ks:List K}{gs:Array bP}{w w':ae}{t:Trace}{d:Nat}{E:dP}{S0 G:aS}{Sw:Nat->aS}{q:Nat->Nat}{di:Nat->List ai}{D:Nat->T}{τ:T}
 {sl:Option (Nat×Nat)}
theorem aT.Inv1.at(h:X.Inv1 End o t0 ts ks gs w t d E S0 G Sw q di D τ)(n):X.Inv1 End o t0 ts ks gs (w.at n) t d E S0 G Sw q di D τ:=
 {h with base:=h.base.at n,main:=(by grind[cases aT.Inv1,aT.JF.rely,bg.at]),work:=(by grind[cases aT.Inv1,aT.GH.rely,bg.at])}
variable{dW:Nat->Nat}{g:bP}{i c cap s r b:Nat}{k:K}{es:Array Event}{buf:Array ai}{cl tm:Bool}
def aT.Base.Lc(h:X.Base t0 ks gs w t d dW E S0 G Sw q){j}(hj:gs[j]? =g):j=0\/(0<j/\j<X.m0)\/∃i k,j=X.m0+i/\ks[i]? =Y k:=by have aO:j<gs.size:=Zv;rw[h.size]at aO;rcases OT j with h0|h0;{omega};rcases YA j X.m0 with H|H;{omega};exact .inr<|.inr ⟨j-X.m0,ks[j-X.m0]' YV,YV,Zv⟩
def aT.Inv1.still(aPT:X.Fit)(h:X.Inv1 End o t0 ts ks gs w t d E S0 G Sw q di D τ)(H:∀k∈ks,∃s r,w'.heap[X.ch k]? =Y (.chan 0 #[] ah s r ah))(ho:∃cap s r,w'.heap[X.ov]? =Y (.chan cap #[] ah s r ah))(a a'):gs.map (woken X.P a a' w')=gs:=by apply afZ;intro j;rw[Jc];cases hj:gs[j]? with|none=>rfl|some g=>simp;rcases h.base.Lc hj with rfl|⟨h0,h1⟩|⟨i,k,rfl,hk⟩;{have⟨x,hx,hm⟩:=h.main;rw[hj]at hx;cases hx;rcases hm.status with hs|⟨i,v,k,z,sh,g0,bs,rfl,_,hk⟩;{exact woken_run hs};have⟨s,r,H⟩:=H k Zv;exact woken_send_open a a' H};{exact woken_quitsD<|h.base.old j g h0 h1 hj};have⟨x,hx,hs⟩:=h.work i k hk;rw[hj]at hx;cases hx;rcases hs.status aPT with hs|⟨g0,z0,z1,sh,rfl,_⟩;{exact woken_run hs};unfold woken;split;{have⟨s,r,H⟩:=H k Zv;refine again_all_open λcc xM=>?_;simp only[aT.cs,MQ,zA,Dy,DC]at xM;grind};rfl
def aT.Base.aiX(h:X.Base t0 ks gs w t d dW E S0 G Sw q)(hk:ks[i]? =k)(hG:iP (Sw i) (X.side k) w w' es):bg S0 E w w'/\(∀i' k',i'≠i->ks[i']? =Y k'->bg (Sw i') (X.side k') w w')/\∀b,X.Sp ks b->w'.heap[b]? =w.heap[b]? :=by have hi:i<ks:=Zv;have nG:∀b,G b->b<w/\¬Sw i b:=λb H=>⟨(h.mem.xY b H).1,λz=>(h.mem.oQ i hi b z).2.1 H⟩;have nSp:∀b,X.Sp ks b->b<w/\¬Sw i b:=(by grind[aT.Mem.low,cases aT.Base,aT.Mem.oQ]);refine⟨aiT hG (by grind[aT.Mem.xm,cases aT.Base,aT.Mem.oQ]) λb H=>(h.mem.aat b H).e (nG b) λe=>nSp b<|.inl e,λi' k' fE gI=>?_,(by grind[cases iP])⟩;have jC:i'<ks:=Zv;exact aiT hG (λb H=>⟨(h.mem.oQ i' jC b H).1,λz=>fE<|h.mem.apart i' i jC hi b H z⟩)<|by grind[aT.Mem.Gz,cases aT.Base]
def aT.Inv1.stepW(h:X.Inv1 End o t0 ts ks gs w t d E S0 G Sw q di D τ)(hk:ks[i]? =k){fn pos}(hG:iP (Sw i) (X.side k) w w' es){g' σ}(hs:X.GH k (di i) σ (grow (Sw i) w w') g' w')(jU:g'.status=.running):X.Inv1 End o t0 ts ks (gs.setIfInBounds (X.m0+i) g') w' (t++MemOp.ofEvents (X.m0+i) fn pos es) d E S0 G (upd Sw i<|grow (Sw i) w w') q di (upd D (X.m0+i) σ) τ:=by have hi:i<ks:=Zv;have⟨k0,kW,H⟩:=h.base.aiX hk hG;have tY:=h.base.pos;refine⟨h.base.stepW hk hG Xy Zv,?_,λi' k' gI=>?_,(by grind[ConcN.upd_ne,cases aT.Inv1]),λκ qM=>?_,?_,λa i0 v bs ha hb he=>?_,?_,h.none,h.Gy⟩;{grind[cases aT.Inv1,aT.JF.rely]};{grind[ConcN.upd_same,cases aT.Inv1,ConcN.upd_ne,aT.GH.rely]};{have⟨s,r,hc⟩:=h.Ak κ qM;exact⟨s,r,by rwa[H _<|.inr Zv]⟩};{have⟨cap,s,r,hc⟩:=h.over;exact⟨cap,s,r,by rwa[H _<|.inr YV]⟩};{grind[cases aT.Inv1]};rw[H _<|.inr<|.inl rfl];exact h.pay
def aT.aax(X:aT K)(End:List K->dP->aS->bP->ae->Prop)(o:Option Obj)(t0:Trace)(ts:List xn)(gs:Array bP)(w:ae)(sl:Option (Nat×Nat))(t:Trace)(di:Nat->List ai)(D:Nat->T)(τ:T)(x:Nat):Prop:=∃gs1 w1 ops H D5 d1 E1 S1 G1 Am q1 E8 D1 jT,runT X.P (crowd gs w sl) x=(.next<|crowd gs1 w1 sl,ops)/\X.Inv1 End o t0 H D5 gs1 w1 (t++ops) d1 E1 S1 G1 Am q1 E8 D1 jT/\ (H<O ts\/(H=O ts/\gs1.size=gs.size/\(JE gs.size D1 D\/(D1=D/\T.Lt jT τ))))/\∀i,E8 i++msgs H i=di i++msgs ts i
theorem aT.Inv1.aqe(aPT:X.Fit)(h:X.Inv1 End o t0 ts ks gs w t d E S0 G Sw q di D τ){x}(h0:∀a,gs[0]? =Y a->offersAt a c A=[]):partners (gs.setIfInBounds x ph) c A=[]:=by refine partners_nil λj g H=>?_;rcases aRM gs x j g H with⟨_,rfl⟩|⟨_,H⟩;{rfl};rcases h.base.Lc H with rfl|⟨h1,h2⟩|⟨i,k,rfl,hk⟩;{grind};{rcases(h.base.old j g h1 h2 H).status with hs|hs<;>exact offersAt_of_not_blocked Zv _ _};have⟨y,hy,hs⟩:=h.work i k hk;rw[H]at hy;cases hy;rcases hs.status aPT with hs|⟨g0,z0,z1,sh,rfl,_⟩;{grind[offersAt_of_not_blocked]};refine offersAt_parked_sends (λcc xM=>?_) _;simp only[aT.cs,MQ,zA,Dy,DC]at xM;rcases xM with rfl|rfl<;>rfl
theorem aay{w:ae}(hb:b≠c):(w.setChan c cap buf cl s r tm).heap[b]? =w.heap[b]? :=by unfold World.setChan;grind
theorem aCR{w}(hc:c<M (R w)):(w.setChan c cap buf cl s r tm).heap[c]? =Y (.chan cap buf cl s r tm):=by unfold World.setChan;grind
def aqf{w}:(w.setChan c cap buf cl s r tm).heap.size=M (R w):=by unfold World.setChan;simp
theorem aiY{S E w}(h1:¬S c)(h2:¬E.ro c):bg S E w (w.setChan c cap buf cl s r tm):=⟨J,J,J,MR aqf.s,(by grind[aay]),(by grind[aay])⟩
def aCS{q w}(h:kT q w):kT q (w.setChan c cap #[] cl s r tm):=h.setObj λ_ v hv=>Zv
def aT.Base.aaz(h:X.Base t0 ks gs w t d dW E S0 G Sw q)(H:X.Sp ks b):¬S0 b/\(b≠X.Wg->¬E.ro b)/\(∀i,i<O ks->¬Sw i b)/\∀(i:Nat) k,ks[i]? =Y k->¬(X.side k).ro b:=⟨λz=>(h.mem.xm b z).2.2.1 H,λfE z=>(h.mem.aat b z).e (λg=>(h.mem.xY b g).2.1 H) fE,λi hi z=>(h.mem.oQ i hi b z).2.2.1 H,λi k hk z=>(h.mem.xY b<|h.mem.Gz i k hk b z).2.1 H⟩
def aiZ(Wg B:Nat)(u:Trace):Prop:=∀H∈u,H.act.touch?=U/\H.act.low B/\H.act≠.mark .disable/\H.act≠.mark .enable/\H.act≠.mark (.release<|stA Wg)
def aT.Inv1.met{v bs}(h:X.Inv1 End o t0 (.send i v::bs) ks gs w t 0 E S0 G Sw q di D τ)(hk:ks[i]? =k){ga gw:bP}{z z0 z1 sh H} (hW:X.yx k (di i) (Sw i) gw z0 z1 sh w)(hn:az X.P A E (X.mg End bs ks 0 E) S0 (ga.finishComm X.P #[scase (X.ch k) v z] H 0 F ah) w){gs1}(gV:gs1.size=gs.size)(MC:gs1[0]? =ga.finishComm X.P #[scase (X.ch k) v z] H 0 F ah) (h1i:gs1[X.m0+i]? =gw.finishComm X.P (X.cs k z0 z1) sh 0 v A)(Hm:∀j,j≠0->j≠X.m0+i->gs1[j]? =gs[j]?){u}(hu:aiZ X.Wg w u)(s r):∃D1 jT,X.Inv1 End o t0 bs ks gs1 (w.setChan (X.ch k) 0 #[] ah s r ah) (t++u) 0 E S0 G Sw q (upd di i<|di i++[v]) D1 jT:=by have xA:=iO hk;have hi:i<ks:=Zv;have⟨n0,nE,nW,nR⟩:=h.base.aaz (b:=X.ch k) (.inr Zv);have tY:=h.base.pos;have⟨hcW,hcC,hco⟩:=h.base.ku.2.2.2.1 k xA;have⟨σ,hσ⟩:=PU ((hW.told v (msgs bs i) (by rw[<-h.Gy i k hk];simp[msgs])).rely<|aiY (cap:=0) (buf:=#[]) (cl:=ah) (s:=s) (r:=r) (tm:=ah) (nW i hi)<|nR i k hk);have⟨jT,Iz⟩:=PU<|hn.rely<|aiY (cap:=0) (buf:=#[]) (cl:=ah) (s:=s) (r:=r) (tm:=ah) n0<|nE hcW;refine⟨upd D (X.m0+i) σ.more,jT.more,h.base.quiet (aCS h.base.uI) aqf hu gV Zv,⟨_,MC,.run Iz⟩,λi' k' gI=>?_,(by grind[ConcN.upd_ne,cases aT.Inv1]),λκ qM=>?_,?_,λa i0 v0 bs0 ha hb he=>?_,?_,λi' jC=>?_,λi' k' gI=>?_⟩;{by_cases e:i'=i;{subst e;rw[hk]at gI;cases gI;exact⟨_,h1i,by rw[aQ0,aQ0];exact .run hσ⟩};grind[cases aT.Inv1,ConcN.upd_ne,aT.GH.rely,aiY]};{by_cases e:X.ch κ=X.ch k;{grind[aCR,cases aT.Inv1]};grind[cases aT.Inv1,aay]};{grind[cases aT.Inv1,aay]};{rw[MC]at ha;cases ha;simp[Goroutine.finishComm]at hb};{grind[aay,cases aT.Inv1]};{grind[ConcN.upd_ne,cases aT.Inv1]};rw[<-h.Gy i' k' gI];by_cases e:i'=i;{subst e;rw[aQ0];simp[msgs]};rw[aQ4 _ _ e];simp[msgs,e]
def aaA(Wg B x fn pos):aiZ Wg B (MemOp.ofEvents x fn pos #[]):=λop H=>by obtain⟨e,he,rfl⟩:=aQR H;grind
def aT.Inv1.aCT(aPT:X.Fit)(h:X.Inv1 End o t0 ts ks gs w t d E S0 G Sw q di D τ)(hk:ks[i]? =k)(hg:gs[X.m0+i]? =g)(jU:g.status=.running):X.aax End o t0 ts gs w sl t di D τ (X.m0+i):=by
 have hi:i<ks:=Zv;have tY:=h.base.pos;have aO:X.m0+i<gs.size:=Zv
 have vJ:(X.m0+i==0)=false:=Zv
 have xA:=iO hk;have⟨x,hx,hs⟩:=h.work i k hk;rw[hg]at hx;cases hx;generalize hD:D (X.m0+i)=σ at hs;cases hs with
 |parked hW=>simp[Go.Conc.parked]at jU
 | @run σ _ _ _ hT=>
   cases σ with
   |step f=>
    have⟨g',w2,es,hgo,hG,Ho⟩:=hT.2 w<|bg.refl _ _ _;have⟨k0,kW,kS⟩:=h.base.aiX hk hG;have eF:=h.still (w':=w2) aPT (λκ qM=>let ⟨s,r,hc⟩:=h.Ak κ qM;⟨s,r,by rwa[kS _<|.inr Zv]⟩) (let ⟨cap,s,r,hc⟩:=h.over;⟨cap,s,r,by rwa[kS _<|.inr YV]⟩) g g';have hr:=aRb (P:=X.P) (sl:=sl) (i:=X.m0+i) hg (by rwa[vJ]);rw[eF]at hr;have aci:=JG Ho λS g w x=>let ⟨_,_,_,y⟩:=aPT _ _ _ _ _ x;y.run;refine⟨_,w2,_,ts,ks,d,E,S0,G,_,q,di,_,τ,hr,h.stepW hk hG (.run Ho) aci,.inr ⟨J,Xy,.inl ⟨X.m0+i,aO,?_,λj hj=>aQ4 _ _ hj⟩⟩,λ_=>J⟩;rw[aQ0,hD];exact T.aar<|.mk f w
   |stop=>
    have⟨z0,z1,sh,hW⟩:=aPT _ _ _ _ _<|hT w<|bg.refl _ _ _;have lK:=hW.step w<|bg.refl _ _ _;have⟨s,r,hc⟩:=h.Ak k xA;have⟨cap,s',r',ho⟩:=h.over;have⟨a,ha,hm⟩:=h.main;have uX:partners (gs.setIfInBounds (X.m0+i) ph) X.ov A=[]:=h.aqe aPT λa' H=>by
     rw[ha]at H;cases H;rcases hm.status with hs|⟨i0,v,k',z,sh',g0,bs,rfl,_,gI⟩
     ·grind[offersAt_of_not_blocked]
     ·rw[aRI,if_neg (h.base.ku.2.2.2.1 k' Zv).2.2]
    have aCU:(∀a,gs[0]? =Y a->offersAt a (X.ch k) A=[])->(∀a v bs,gs[0]? =Y a->a.status=.blocked->ts≠.send i v::bs)->X.aax End o t0 ts gs w sl t di D τ (X.m0+i):=by
     intro vK SX;have hr:=crowd_waits (P:=X.P) (sl:=sl) (i:=X.m0+i) (w:=w) (w₁:=w) hg (by rw[vJ];exact lK) (by
      intro cc xM;simp only[aT.cs,MQ,zA,Dy,DC]at xM;grind[ways_recv_none,aT.Inv1.aqe])
     refine⟨_,w,_,ts,ks,d,E,S0,G,Sw,q,di,upd D (X.m0+i) .stop,τ,hr,⟨h.base.quiet h.base.uI J (aaA _ _ _ _ _) Xy Zv,Zv,λi' k' gI=>?_,(by grind[ConcN.upd_ne,cases aT.Inv1]),h.Ak,h.over,λa' i0 v bs H hb he=>?_,h.pay,h.none,h.Gy⟩,.inr ⟨J,Xy,.inl ⟨X.m0+i,aO,?_,λj hj=>aQ4 _ _ hj⟩⟩,λ_=>J⟩
     ·by_cases e:i'=i
      ·subst e;rw[hk]at gI;cases gI;exact⟨_,by rw[alP aO],by rw[aQ0];exact .parked hW⟩
      grind[cases aT.Inv1,ConcN.upd_ne]
     ·grind[cases aT.Inv1]
     grind[ConcN.upd_same,T.ap8]
    cases hm with
    |run hM=>
     grind[JG,aT.mg.running,offersAt_of_not_blocked]
    | @parked i0 v k' z sh' _ ga _ bs has hd gI hn=>
      by_cases e:i0=i
      ·subst e;rw[hk]at gI;cases gI;subst has hd;have hp:partners (gs.setIfInBounds (X.m0+i0) ph) (X.ch k) A=[(0,0)]:=by
        have:=partners_one (gs:=gs.setIfInBounds (X.m0+i0) ph) (r:=X.ch k) (send:=A) (j:=0) (g:=Go.Conc.parked ga #[scase (X.ch k) v z] sh') Zv (λj y hj hy=>by
         rcases aRM gs _ j y hy with⟨_,rfl⟩|⟨_,hy⟩
         ·rfl
         ·rcases h.base.Lc hy with rfl|⟨h1,h2⟩|⟨i',k',rfl,gI⟩
          ·omega
          ·rcases(h.base.old j y h1 h2 hy).status with hs|hs<;>exact offersAt_of_not_blocked Zv _ _
          ·have⟨y',QS,hs⟩:=h.work i' k' gI;rw[hy]at QS;cases QS;rcases hs.status aPT with hs|⟨g0,z0,z1,sh,rfl,_⟩
           ·grind[offersAt_of_not_blocked]
           ·refine offersAt_parked_sends (λcc xM=>?_) _;simp only[aT.cs,MQ,zA,Dy,DC]at xM;rcases xM with rfl|rfl<;>rfl)
        rw[this,aRI,if_pos rfl];rfl
       have hr:=crowd_sel_recv_meets (P:=X.P) (sl:=sl) (i:=X.m0+i0) (j:=0) (w:=w) (w₁:=w) (k:=0) (c:=X.ch k) (z:=z0) hg (by rw[vJ];exact lK) (by simp[aT.cs]) (λm c' hm FM=>by
        match m,hm,FM with
        |0,hm,_=>omega
        |1,_,FM=>simp[aT.cs]at FM;grind[ways_recv_none]
        |m+2,_,FM=>simp[aT.cs]at FM) hc YV ha hp
       have yg:X.ch k<w:=Zv;have⟨D1,jT,hI⟩:=h.met hk hW hn (gs1:=(gs.setIfInBounds 0<|ga.finishComm X.P #[scase (X.ch k) v z] sh' 0 F ah).setIfInBounds (X.m0+i0)<|g.finishComm X.P (X.cs k z0 z1) sh 0 v A) Xy
        Zv Zv Zv
        (u:=MemOp.ofEvents (X.m0+i0) g.frame.fn g.frame.place #[]++ #[{g:=0,fn:=ga.frame.fn,pos:=ga.frame.place,act:=.send (X.ch k) s},{g:=X.m0+i0,fn:=g.frame.fn,pos:=g.frame.place,act:=.recv (X.ch k) r 0},
          {g:=0,fn:=ga.frame.fn,pos:=ga.frame.place,act:=.sendDone (X.ch k) s},{g:=X.m0+i0,fn:=g.frame.fn,pos:=g.frame.place,act:=.recvDone (X.ch k) r}]) (by
          intro op bu;rcases UD.1 bu with bu|bu
          ·exact aaA _ _ _ _ _ op bu
          ·simp at bu;rcases bu with rfl|rfl|rfl|rfl<;>exact⟨J,yg,Xy,Xy,Xy⟩) (s+1) (r+1)
       refine⟨_,_,_,bs,ks,0,E,S0,G,Sw,q,_,D1,jT,hr,hI,Xy,λj=>?_⟩;by_cases e:j=i0
       ·subst e;rw[aQ0];simp[msgs]
       ·rw[aQ4 _ _ e];simp[msgs,e]
      ·refine aCU (λa' H=>?_) (λa' v' bs' H hb he=>?_)
       ·rw[ha]at H;cases H;rw[aRI,if_neg λe'=>e<|h.base.ku.2.2.2.2 i0 i k' k gI hk e']
       grind
end
end gy
end
section
namespace gy
open Go Go.Conc Twin
open Go.ConcN (upd upd_same upd_ne)
open Go.ConcR (stA smA)
section
variable{K:Type}{X:aT K}{End:List K->dP->aS->bP->ae->Prop}{o:Option Obj}{t0:Trace}{ts:List xn}{ks:List K}{gs:Array bP}{w w':ae}{t:Trace}{d:Nat}{E:dP}{S0 G:aS}{Sw:Nat->aS}{q:Nat->Nat}{di:Nat->List ai}{D:Nat->T}{τ:T}
 {sl:Option (Nat×Nat)}
def aT.Base.aqg{dW}(h:X.Base t0 ks gs w t d dW E S0 G Sw q){es}(hG:iP S0 E w w' es):(∀i k,ks[i]? =Y k->bg (Sw i) (X.side k) w w')/\∀b,X.Sp ks b->w'.heap[b]? =w.heap[b]? :=by refine⟨λi k hk=>?_,(by grind[cases iP,aT.Mem.low,cases aT.Base,aT.Mem.xm])⟩;have hi:i<ks:=Zv;exact aiT hG (λb H=>⟨(h.mem.oQ i hi b H).1,(h.mem.oQ i hi b H).2.2.2.2⟩) λb H=>⟨(h.mem.xY b<|h.mem.Gz i k hk b H).1,λz=>(h.mem.xm b z).2.1<|h.mem.Gz i k hk b H⟩
variable{a:bP}
def aT.Inv1.nM{JH}(h:X.Inv1 End o t0 ts ks gs w t d E S0 G Sw q di D τ){d1 E1 S1 G1 t1 jT}(hb:X.Base t0 ks (gs.setIfInBounds 0 a) w' t1 d1 (λ_=>0) E1 S1 G1 Sw q) (Dt:∀i,msgs JH i=msgs ts i)(hm:X.JF End JH ks d1 E1 jT S1 a w')(hr:a.status=.running)(hK:∀i k,ks[i]? =Y k->bg (Sw i) (X.side k) w w')(H:∀b,X.Sp ks b->b≠X.Wg->w'.heap[b]? =w.heap[b]?):X.Inv1 End o t0 JH ks (gs.setIfInBounds 0 a) w' t1 d1 E1 S1 G1 Sw q di D jT:=by have tY:=h.base.pos;(have aO:0<gs.size:=by rw[h.base.size];omega);refine⟨hb,Zv,λi k hk=>?_,h.old,λκ qM=>?_,?_,λa' i v bs ha L9 _=>?_,?_,h.none,(by grind[cases aT.Inv1])⟩;{grind[cases aT.Inv1,aT.GH.rely]};{have⟨s,r,hc⟩:=h.Ak κ qM;exact⟨s,r,by rwa[H _ (.inr Zv) (h.base.ku.2.2.2.1 κ qM).1]⟩};{have⟨cap,s,r,hc⟩:=h.over;exact⟨cap,s,r,by rwa[H _ (.inr YV)<|Ne.s h.base.ku.2.1]⟩};{grind};rw[H _ (.inr<|.inl rfl)<|Ne.s h.base.ku.1];exact h.pay
def aT.Inv1.ai0(aPT:X.Fit)(h:X.Inv1 End o t0 ts ks gs w t d E S0 G Sw q di D τ)(ha:gs[0]? =a)(jU:a.status=.running):
 X.aax End o t0 ts gs w sl t di D τ 0\/(ts=[]/\d=0/\∀w1,bg S0 E w w1->End ks E S0 a w1):=by
 have tY:=h.base.pos;have aO:0<gs.size:=Zv
 have⟨a',ha',hm⟩:=h.main;rw[ha]at ha';cases ha';generalize Iz:τ=σ at hm;cases hm with
 |parked _ _ _ _=>simp[Go.Conc.parked]at jU
 | @run σ _ _ _ hT=>
   cases σ with
   |step f=>
    left;have⟨a',w2,es,H,hG,Ho⟩:=hT.2 w<|bg.refl _ _ _;have⟨kW,kS⟩:=h.base.aqg hG;have eF:=h.still (w':=w2) aPT (λκ qM=>let ⟨s,r,hc⟩:=h.Ak κ qM;⟨s,r,by rwa[kS _<|.inr Zv]⟩) (let ⟨cap,s,r,hc⟩:=h.over;⟨cap,s,r,by rwa[kS _<|.inr YV]⟩) a a';have hr:=aRb (P:=X.P) (sl:=sl) (i:=0) ha H;rw[eF]at hr;have aci:=JG Ho λS g w x=>x.running;refine⟨_,w2,_,ts,ks,d,E,_,G,Sw,q,di,D,(f w).more,hr,h.nM (h.base.step0 hG Xy Zv) (λ_=>J) (.run Ho) aci kW Zv,.inr ⟨J,Xy,.inr ⟨J,?_⟩⟩,λ_=>J⟩;exact T.aar<|.mk f w
   |stop=>
    have hS:=hT w<|bg.refl _ _ _;cases ts with
    |nil=>exact .inr ⟨J,hS.1,λw1 k=>(hT w1 k).2.2⟩
    |cons td bs=>
     left;cases td with
     |iW=>
      have⟨_,a',w2,es,H,hA,pO,hR⟩:=hS;have kW:∀i k,ks[i]? =Y k->bg (Sw i) (X.side k) w w2:=λi k hk=>have⟨_,_,n1,n2⟩:=h.base.aaz (b:=X.Wg)<|.inl J;⟨hA.tape,hA.os,hA.output,MR hA.size.s,λb hb=>hA.block b Zv,λb hb=>hA.block b Zv⟩
      have kS:∀b,X.Sp ks b->b≠X.Wg->w2.heap[b]? =w.heap[b]? :=λb _ hb=>hA.block b hb;have⟨jT,aeo⟩:=PU hR;have eF:=h.still (w':=w2) aPT (λκ qM=>let ⟨s,r,hc⟩:=h.Ak κ qM;⟨s,r,by rw[kS _ (.inr Zv) (h.base.ku.2.2.2.1 κ qM).1];exact hc⟩) (let ⟨cap,s,r,hc⟩:=h.over;⟨cap,s,r,by rw[kS _ (.inr YV)<|Ne.s h.base.ku.2.1];exact hc⟩) a a';have hr:=aRb (P:=X.P) (sl:=sl) (i:=0) ha H;rw[eF]at hr;exact⟨_,w2,_,bs,ks,_,E,S0,G,Sw,q,di,D,jT.more,hr,h.nM (h.base.iW (aiV h.base.uI hA) hA.size pO Xy Zv) (λ_=>J) (.run aeo) (JG aeo λS g w x=>x.running) kW kS,.inl Xy,λ_=>J⟩
     |go=>
      obtain⟨rfl,_,a',child,k,Sk,E1,S1,H,hC,p1,p2,p3,p4,p5,p6,p7,p8,p9,p10,p11,hR⟩:=hS;have⟨σ,hσ⟩:=PU hC;have⟨jT,aeo⟩:=PU hR;have hr:=runT_crowd_spawn (P:=X.P) (sl:=sl) (i:=0) ha H;have aKv:(((MemOp.ofEvents 0 a.frame.fn a.frame.place #[]).push {g:=0,fn:=a.frame.fn,pos:=a.frame.place,act:=.go gs.size}).push {g:=gs.size,fn:=child.frame.fn,pos:=a.frame.place,act:=.start})=#[({g:=0,fn:=a.frame.fn,pos:=a.frame.place,act:=.go gs.size}:MemOp),{g:=gs.size,fn:=child.frame.fn,pos:=a.frame.place,act:=.start}]:=by
       rw[aRY];simp
      rw[aKv]at hr;have IA:upd (λ_=>0) (O ks) 0=(λ_=>0:Nat->Nat):=by funext x;unfold upd;grind
      have J7:=h.base.spawn (child:=child) (g':=a') (fn:=a.frame.fn) (fn':=child.frame.fn) (pos:=a.frame.place) (pos':=a.frame.place) p1 p2 p3 p4 p5 p6 p7 p8 p9;rw[IA]at J7;have gV:=h.base.size;have Ox:∀j x,(ks++[k])[j]? =Y x->ks[j]? =Y x\/(j=O ks/\x=k):=by
       grind
      refine⟨_,w,_,bs,ks++[k],0,E1,S1,_,_,q,di,upd D gs.size σ.more,jT.more,hr,⟨J7,⟨a',Zv,.run aeo⟩,λi x hi=>?_,(by grind[ConcN.upd_ne,cases aT.Inv1]),λκ qM=>?_,h.over,λa2 i v bs2 J9 kE _=>?_,h.pay,λi hi=>h.none i Zv,λi x hi=>?_⟩,.inl Xy,λ_=>J⟩
      ·rcases Ox i x hi with hi|⟨rfl,rfl⟩
       ·grind[cases aT.Inv1,ConcN.upd_ne]
       ·refine⟨child,Zv,?_⟩;rw[aQ0,<-gV,aQ0,h.none (O ks) YV];exact .run hσ
      ·grind[cases aT.Inv1]
      ·rw[Array.getElem?_push,if_neg Zv,alP aO]at J9;grind[JG,aT.mg.running]
      ·rcases Ox i x hi with hi|⟨rfl,rfl⟩
       ·exact h.Gy i x hi
       grind[cases aT.Inv1]
     |send i v=>
      obtain⟨rfl,_,k,z,sh0,hk,H,hR⟩:=hS;have xA:=iO hk;have hi:i<O ks:=Zv;have⟨s,r,hc⟩:=h.Ak k xA;have⟨x,hx,hs⟩:=h.work i k hk;have aKw:∀j y,j≠X.m0+i->(gs.setIfInBounds 0 ph)[j]? =Y y->offersAt y (X.ch k) ah=[]:=by
       intro j y hj hy;rcases aRM gs _ j y hy with⟨_,rfl⟩|⟨fE,hy⟩
       ·rfl
       ·rcases h.base.Lc hy with rfl|⟨h1,h2⟩|⟨i',k',rfl,gI⟩
        ·omega
        ·rcases(h.base.old j y h1 h2 hy).status with hs|hs<;>exact offersAt_of_not_blocked Zv _ _
        ·have⟨y',QS,hs⟩:=h.work i' k' gI;rw[hy]at QS;cases QS;rcases hs.status aPT with hs|⟨g0,z0,z1,sh,rfl,_⟩
         ·grind[offersAt_of_not_blocked]
         ·refine offersAt_parked_off (λcc xM=>?_) _;simp only[aT.cs,MQ,zA,Dy,DC]at xM;rcases xM with rfl|rfl
          ·intro e;simp[rcase]at e;have:=h.base.ku.2.2.2.2 i' i k' k gI hk e;omega
          ·intro e;simp[rcase]at e;exact(h.base.ku.2.2.2.1 k xA).2.2 e.s
      rcases hs.status aPT with PI|⟨gw,z0,z1,sh,rfl,hW⟩
      ·
       have hr:=crowd_waits (P:=X.P) (sl:=sl) (i:=0) (w:=w) (w₁:=w) ha H (by
        intro cc xM;simp at xM;subst xM;refine ways_send_none hc Xy<|partners_nil λj y hy=>?_;by_cases e:j=X.m0+i
        ·subst e;rw[BZ YV,hx]at hy;cases hy;exact offersAt_of_not_blocked Zv _ _
        grind)
       refine⟨_,w,_,.send i v::bs,ks,0,E,S0,G,Sw,q,di,D,.stop,hr,⟨h.base.quiet h.base.uI J (aaA _ _ _ _ _) Xy Zv,⟨_,Zv,.parked J J hk hR⟩,λi' k' gI=>?_,h.old,h.Ak,h.over,λa2 i2 v2 bs2 _ _ he=>?_,h.pay,h.none,h.Gy⟩,(by grind[T.ap8]),λ_=>J⟩
       ·grind[cases aT.Inv1]
       grind
      ·
       have hp:partners (gs.setIfInBounds 0 ph) (X.ch k) ah=[(X.m0+i,0)]:=by
        have:=partners_one (gs:=gs.setIfInBounds 0 ph) (r:=X.ch k) (send:=ah) (j:=X.m0+i) (by rw[BZ YV];exact hx) YV;rw[this,offersAt_parked_at (k:=0) (z:=z0) (by simp[aT.cs]) (λm cc hm xM=>by
         match m,hm,xM with
         |0,hm,_=>omega
         |1,_,xM=>
          simp[aT.cs]at xM;subst xM;intro e;simp[rcase]at e;exact(h.base.ku.2.2.2.1 k xA).2.2 e.s
         |m+2,_,xM=>simp[aT.cs]at xM)]
        rfl
       have hr:=crowd_send_meets_sel (P:=X.P) (sl:=sl) (i:=0) (j:=X.m0+i) (w:=w) (w₁:=w) (k:=0) (zj:=z0) ha H hc YV hx (by simp[aT.cs]) hp;have yg:X.ch k<w:=Zv;have AU:X.m0+i<gs.size:=Zv
       have⟨D1,jT,hI⟩:=h.met hk hW hR (gs1:=(gs.setIfInBounds (X.m0+i)<|gw.finishComm X.P (X.cs k z0 z1) sh 0 v A).setIfInBounds 0<|a.finishComm X.P #[scase (X.ch k) v z] sh0 0 F ah) Xy
        Zv Zv Zv
        (u:=MemOp.ofEvents 0 a.frame.fn a.frame.place #[]++ #[{g:=0,fn:=a.frame.fn,pos:=a.frame.place,act:=.send (X.ch k) s},{g:=X.m0+i,fn:=gw.frame.fn,pos:=gw.frame.place,act:=.recv (X.ch k) r 0},
          {g:=0,fn:=a.frame.fn,pos:=a.frame.place,act:=.sendDone (X.ch k) s},{g:=X.m0+i,fn:=gw.frame.fn,pos:=gw.frame.place,act:=.recvDone (X.ch k) r}]) (by
          intro op bu;rcases UD.1 bu with bu|bu
          ·exact aaA _ _ _ _ _ op bu
          ·simp at bu;rcases bu with rfl|rfl|rfl|rfl<;>exact⟨J,yg,Xy,Xy,Xy⟩) (s+1) (r+1)
       refine⟨_,_,_,bs,ks,0,E,S0,G,Sw,q,_,D1,jT,hr,hI,.inl Xy,λj=>?_⟩;by_cases e:j=i
       ·subst e;rw[aQ0];simp[msgs]
       ·rw[aQ4 _ _ e];simp[msgs,e]
def aT.Inv1.ai1(aPT:X.Fit)(h:X.Inv1 End o t0 ts ks gs w t d E S0 G Sw q di D τ){i g}(h0:0<i)(hi:i<X.m0)(hg:gs[i]? =Y g)(jU:g.status=.running):X.aax End o t0 ts gs w sl t di D τ i:=by
 have H:=h.base.old i g h0 hi hg;have aO:i<gs.size:=Zv;have vJ:(i==0)=false:=Zv
 cases Dk:q i with
 |zero=>rw[Dk]at H;rw[H.1]at jU;grind
 |succ n=>
  rw[Dk]at H;rcases H with⟨hf,_⟩|⟨_,g',es,hm,eF,AO⟩
  ·grind
  have hr:=aRb (sl:=sl) hg (by rw[vJ];exact eF w);have hb:=h.base.leave (fn:=g.frame.fn) (pos:=g.frame.place) h0 hi hm AO g g' w;have eF:=h.still aPT h.Ak h.over g g';refine⟨_,w,_,ts,ks,d,E,S0,G,Sw,upd q i n,di,upd D i<|T.nat n,τ,hr,{h with base:=hb,main:=?_,work:=λi' k' gI=>?_,old:=λj j0 j1=>?_,pair:=λa i' v bs ha' nH he=>?_},.inr ⟨J,Xy,.inl ⟨i,aO,?_,λj hj=>aQ4 _ _ hj⟩⟩,λ_=>J⟩
  ·grind[cases aT.Inv1]
  ·grind[cases aT.Inv1,ConcN.upd_ne]
  ·grind[ConcN.upd_same,ConcN.upd_ne,cases aT.Inv1]
  ·grind[cases aT.Inv1]
  grind[ConcN.upd_same,cases aT.Inv1,T.PQ]
def aT.Inv1.awake(aPT:X.Fit)(h:X.Inv1 End o t0 ts ks gs w t d E S0 G Sw q di D τ):∀g∈gs,awake g:=by intro g hg;have⟨j,hj⟩:=au3.1 hg;rcases h.base.Lc hj with rfl|⟨h1,h2⟩|⟨i,k,rfl,hk⟩;{have⟨a,ha,hm⟩:=h.main;rw[hj]at ha;cases ha;rcases hm.status with H|⟨_,_,_,_,_,_,_,rfl,_⟩;{exact awake_of H};exact awake_of<|.inr<|.inl J};{exact awake_of<|(h.base.old j g h1 h2 hj).status.e .inl Zv};have⟨y,hy,H⟩:=h.work i k hk;rw[hj]at hy;cases hy;rcases H.status aPT with H|⟨_,_,_,_,rfl,_⟩;{exact awake_of H};exact awake_of<|.inr<|.inl J
def aT.Inv1.ai2(h:X.Inv1 End o t0 ts ks gs w t d E S0 G Sw q di D τ):∃(i:Nat) (g:bP),gs[i]? =g/\g.status=.running:=by have⟨a,ha,H⟩:=h.main;rcases H.status with hs|⟨i,v,k,z,sh,g0,bs,rfl,he,hk⟩;{grind};have⟨g,hg,hr⟩:=h.pair _ i v bs ha J he;grind
def aT.aCW(aPT:X.Fit):∀aPS N D τ {ts:List xn} {ks:List K} {gs:Array bP} {w:ae} {sl:Option (Nat×Nat)} {t:Trace} {d:Nat} {E:dP} {S0 G:aS} {Sw:Nat->aS} {q:Nat->Nat} {di:Nat->List ai},O ts=aPS->gs.size=N->X.Inv1 End o t0 ts ks gs w t d E S0 G Sw q di D τ->∃aPV gs1 w1 pR t1 dd qj D5 E1 S1 G1 Am q1 E8 D1 jT a,runNT X.P aPV (crowd gs w sl) t=(.next<|crowd gs1 w1 pR,t1)/\stepT X.P (crowd gs1 w1 pR)=runT X.P (crowd gs1 (w1.at dd) qj) 0/\X.Inv1 End o t0 [] D5 gs1 (w1.at dd) t1 0 E1 S1 G1 Am q1 E8 D1 jT/\gs1[0]? =Y a/\a.status=.running/\End D5 E1 S1 a (w1.at dd)/\∀i,E8 i=di i++msgs ts i:=by apply aCO;intro aPS N D τ ihA ihV aQk ts ks gs w sl t d E S0 G Sw q di hA hN h;have⟨i,g,dd,H,hi,hg,eF⟩:=aRT (P:=X.P) (w:=w) (sl:=sl) (h.awake aPT) h.ai2;have h':=h.at dd;(have key:X.aax End o t0 ts gs (w.at dd) H t di D τ i->∃aPV gs1 w1 pR t1 dd qj D5 E1 S1 G1 Am q1 E8 D1 jT a,runNT X.P aPV (crowd gs w sl) t=(.next<|crowd gs1 w1 pR,t1)/\stepT X.P (crowd gs1 w1 pR)=runT X.P (crowd gs1 (w1.at dd) qj) 0/\X.Inv1 End o t0 [] D5 gs1 (w1.at dd) t1 0 E1 S1 G1 Am q1 E8 D1 jT/\gs1[0]? =Y a/\a.status=.running/\End D5 E1 S1 a (w1.at dd)/\∀i,E8 i=di i++msgs ts i:=by rintro⟨gs1,w1,ops,JH,D5,d1,E1,S1,G1,Am,q1,E8,D1,jT,hr,hI,aO,aw7⟩;(have fin:(∃aPV qO w2 qj t2 dd2 sl3 ks2 E2 S2 G2 SY q2 aeq D2 JI a,runNT X.P aPV (crowd gs1 w1 H) (t++ops)=(.next<|crowd qO w2 qj,t2)/\stepT X.P (crowd qO w2 qj)=runT X.P (crowd qO (w2.at dd2) sl3) 0/\X.Inv1 End o t0 [] ks2 qO (w2.at dd2) t2 0 E2 S2 G2 SY q2 aeq D2 JI/\qO[0]? =Y a/\a.status=.running/\End ks2 E2 S2 a (w2.at dd2)/\∀i,aeq i=E8 i++msgs JH i)->∃aPV gs1 w1 pR t1 dd qj D5 E1 S1 G1 Am q1 E8 D1 jT a,runNT X.P aPV (crowd gs w sl) t=(.next<|crowd gs1 w1 pR,t1)/\stepT X.P (crowd gs1 w1 pR)=runT X.P (crowd gs1 (w1.at dd) qj) 0/\X.Inv1 End o t0 [] D5 gs1 (w1.at dd) t1 0 E1 S1 G1 Am q1 E8 D1 jT/\gs1[0]? =Y a/\a.status=.running/\End D5 E1 S1 a (w1.at dd)/\∀i,E8 i=di i++msgs ts i:=by rintro⟨aPV,qO,w2,qj,t2,dd2,sl3,ks2,E2,S2,G2,SY,q2,aeq,D2,JI,a,r1,r0,r2,r3,r4,r5,r6⟩;refine⟨aPV+1,qO,w2,qj,t2,dd2,sl3,ks2,E2,S2,G2,SY,q2,aeq,D2,JI,a,?_,r0,r2,r3,r4,r5,Zv⟩;simp only[runNT,eF,hr];exact r1);rcases aO with hl|⟨hl,hs,hv|⟨rfl,Iz⟩⟩;{exact fin<|ihA JH gs1.size D1 jT YV (sl:=H) J J hI};{exact fin<|ihV D1 jT (hN▸hv) (sl:=H) YV YV hI};exact fin<|aQk jT Iz (sl:=H) YV YV hI);rcases h'.base.Lc hi with rfl|⟨h1,h2⟩|⟨i,k,rfl,hk⟩;{rcases h'.ai0 (sl:=H) aPT hi hg with hn|⟨rfl,rfl,hE⟩;{grind};exact⟨0,gs,w,sl,t,dd,H,ks,E,S0,G,Sw,q,di,D,τ,g,J,eF,h',hi,hg,hE _<|bg.refl _ _ _,λi=>by simp[msgs]⟩};{exact key<|h'.ai1 aPT h1 h2 hi hg};exact key<|h'.aCT aPT hk hi hg
end
end gy
end
section
namespace gy
open Go Go.Conc Twin
open Go.ConcN (upd upd_same upd_ne WgLive PayAt Has RW DWs AtR0 AtK1 WSit WD CTag Vc cnt sumTo RelBy)
open Go.ConcR (stA smA rd wr KK WgAt DC0 Payload)
section
variable[Payload]
def IB:Nat->Loc->Prop:=λ_ _=>False
variable{K}(X:aT K)(ty:dB)(n:Nat)
structure aT.GK(i:Nat)(v:ai)(g:bP)(w:ae):Prop where
 run:g.status=.running
 st:WgLive ty X.Wg w->PayAt X.C n w->∃g',bQ X.P ah g w=.go g' (aZ w ⟨X.C,i,U⟩ v) #[⟨.cell ⟨X.C,i,U⟩,A,ah⟩]/\
  ∃m,Goes X.P ah (RW ty X.Wg X.C n 0 i) DC0 (AtR0 X.P ty X.Wg X.C n 0 (i+1) v) m g'<|w.setCell ⟨X.C,i,U⟩ v
def RL(ty:dB)(H:Nat)(w w1:ae):Prop:=WgLive ty H w->WgLive ty H w1
variable(dU:bP)(fZ:bP->ae->Prop)
def aT.AtRet(g:bP)(_w:ae):Prop:=g=dU
def aT.AtAcq(g:bP)(w:ae):Prop:=g.status=.running/\∃g',bQ X.P A g w=.go g' w #[Go.ConcR.mk<|.acquire<|stA X.Wg]/\∃m,Goes X.P A (RL ty X.Wg) DC0 (aT.AtRet dU) m g' w
def aT.AtKe(g:bP)(w:ae):Prop:=g.status=.running/\∃g',bQ X.P A g w=.go g' w #[Go.ConcR.mk .enable]/\∃m,Goes X.P A (RL ty X.Wg) DC0 (X.AtAcq ty dU) m g' w
def aT.AtW4(g:bP)(w:ae):Prop:=g.status=.running/\(WgAt ty X.Wg w 0 0->∃g',bQ X.P A g w=.go g' w #[rd<|stA X.Wg]/\∃m,Goes X.P A (RL ty X.Wg) DC0 (X.AtKe ty dU) m g' w)
def aT.AtW3(g:bP)(w:ae):Prop:=
 g.status=.running/\g.offers=U/\((∃H,WgAt ty X.Wg w H 0)->bQ X.P A g w=.go {g with status:=.blocked} w #[])/\
  (WgAt ty X.Wg w 0 1->∃g',bQ X.P A g w=.go g' (aZ w (smA X.Wg)<|.int .u32 0) (semEvents<|smA X.Wg)/\∃m,Goes X.P A (RL ty X.Wg) DC0 (X.AtW4 ty dU) m g'<|w.setCell (smA X.Wg)<|.int .u32 0)
def aT.aqh(g:bP)(w:ae):Prop:=g.status=.running/\∃g',bQ X.P A g w=.go g' w #[⟨.mark<|.write<|smA X.Wg,ah,A⟩]/\∃m,Goes X.P A (RL ty X.Wg) DC0 (X.AtW3 ty dU) m g' w
def aT.AtW2(vs:Nat)(g:bP)(w:ae):Prop:=g.status=.running/\∀v:Nat,v<2147483648->WgAt ty X.Wg w (v*KK) 0->(v=vs->∃g',bQ X.P A g w=.go g' (aZ w (stA X.Wg)<|.int .u64<|v*KK+1) #[rd<|stA X.Wg,wr<|stA X.Wg]/\∃m,Goes X.P A (RL ty X.Wg) DC0 (X.aqh ty dU) m g'<|w.setCell (stA X.Wg)<|.int .u64<|v*KK+1)/\ (v≠vs->∃g',bQ X.P A g w=.go g' w #[rd<|stA X.Wg]/\∃m,Goes X.P A (RL ty X.Wg) DC0 fZ m g' w)
def aT.AtW1(g:bP)(w:ae):Prop:=g.status=.running/\∀v:Nat,v<2147483648->WgAt ty X.Wg w (v*KK) 0->∃g',bQ X.P A g w=.go g' w #[rd<|stA X.Wg]/\ (v=0->∃m,Goes X.P A (RL ty X.Wg) DC0 (X.AtKe ty dU) m g' w)/\(v≠0->∃m,Goes X.P A (RL ty X.Wg) DC0 (X.AtW2 ty dU fZ v) m g' w)
def aT.AtKd(g:bP)(w:ae):Prop:=g.status=.running/\(WgLive ty X.Wg w->∃g',bQ X.P A g w=.go g' w #[Go.ConcR.mk .disable]/\∃m,Goes X.P A (RL ty X.Wg) DC0 fZ m g' w)
inductive kU where
 |pre|anch|w1|w2 (vs:Nat)|wr|w3|blk|w4|ke|acq|ret
def kU.c:kU->CTag| .pre=>.kd| .anch=>.anch| .w1=>.w1| .w2 vs=>.w2 vs| .wr=>.w3| .w3=>.w3| .blk=>.blk| .w4=>.w4| .ke=>.ke| .acq=>.acq| .ret=>.ret
def kU.phi(n v:Nat):kU->Nat| .pre=>8*n+7| .anch=>8*v+6| .w1=>8*v+5| .w2 vs=>8*vs+4| .wr=>6| .w3=>5| .blk=>5| .w4=>4| .ke=>3| .acq=>2| .ret=>1
def kU.deaf:kU->Nat| .pre| .acq| .ret=>0|_=>1
inductive aT.Ap:kU->Nat->bP->ae->Prop where
 |anch {m g w} (h:Goes X.P A (RL ty X.Wg) DC0 fZ m g w):Ap .anch m g w
 |w1 {m g w} (h:Goes X.P A (RL ty X.Wg) DC0 (X.AtW1 ty dU fZ) m g w):Ap .w1 m g w
 |w2 {m g w vs} (h:Goes X.P A (RL ty X.Wg) DC0 (X.AtW2 ty dU fZ vs) m g w):Ap (.w2 vs) m g w
 |wr {m g w} (h:Goes X.P A (RL ty X.Wg) DC0 (X.aqh ty dU) m g w):Ap .wr m g w
 |w3 {m g w} (h:Goes X.P A (RL ty X.Wg) DC0 (X.AtW3 ty dU) m g w):Ap .w3 (m+1) g w
 |blk {g w} (h:∀w1,RL ty X.Wg w w1->X.AtW3 ty dU g w1):Ap .blk 0 {g with status:=.blocked} w
 |w4 {m g w} (h:Goes X.P A (RL ty X.Wg) DC0 (X.AtW4 ty dU) m g w):Ap .w4 m g w
 |ke {m g w} (h:Goes X.P A (RL ty X.Wg) DC0 (X.AtKe ty dU) m g w):Ap .ke m g w
 |acq {m g w} (h:Goes X.P A (RL ty X.Wg) DC0 (X.AtAcq ty dU) m g w):Ap .acq m g w
 |ret {m g w} (h:Goes X.P A (RL ty X.Wg) DC0 (aT.AtRet dU) m g w):Ap .ret m g w
variable(gp:aS->ae->Prop)
inductive aT.IC(E:dP)(S0:aS):kU->T->bP->ae->Prop where
 |pre {τ g w} (h:Iy X.P A E (λS g w=>X.AtKd ty fZ g w/\gp S w) τ S0 g w):IC E S0 .pre τ.more g w
 |iW {tag f g w} (h:X.Ap ty dU fZ tag f g w) (hm:∀w1,bg S0 E w w1->gp S0 w1):IC E S0 tag (T.nat f) g w
variable(dM:K->List ai->ai->aS->ae->Prop)
inductive aT.D7(i:Nat)(k:K)(l:List ai)(S:aS):Nat->T->Nat->bP->ae->Prop where
 |run {τ g w} (h:Iy X.P ah (X.side k) (X.NT k l) τ S g w):D7 i k l S 9 τ.more 0 g w
 |S9 {g z0 z1 sh w} (h:X.yx k l S g z0 z1 sh w):D7 i k l S 9 T.stop.more 0 {Go.Conc.parked g (X.cs k z0 z1) sh with status:=.running} w
 |fin {τ g w} (h:Iy X.P ah (X.side k) (X.Fin k l) τ S g w):D7 i k l S 8 τ.more 0 g w
 |done {v m g w} (h:Goes X.P ah (RW ty X.Wg X.C n 0 i) DC0 (AtR0 X.P ty X.Wg X.C n 0 (i+1) v) m g w) (hr:dM k l v S w):D7 i k l S 7 (T.nat m) 0 g w
 |iW {v s m dd g w} (h:WSit X.P ty X.Wg X.C n IB IB 0 (i+1) v s m dd g w) (h6:s<=6) (hr:dM k l v S w) (hh:Has X.C i v w):D7 i k l S s (T.nat m) dd g w
structure Aq(Wg:Nat)(t:Trace)(k r:Nat):Prop where
 rel:RelBy (stA Wg) t k r
 a:∀i,r<i->t.g? i=Y k->∀a,touchAt t i=Y a->(∃ad,a.loc=.cell ad/\ad.block=Wg)/\a.kind=.atomic
def Ld(B H m0 n:Nat)(t:Trace):Prop:=∃q,t.act? q=Y (.mark<|.acquire<|stA H)/\t.g? q=Y 0/\t.heard q/\∀i,i<n->∃r,Aq H t (m0+i) r/\r<q/\B<=r
def iE(H:Nat->Nat):Nat->WD:=λi=>⟨min (H i) 7,0,0⟩
structure aT.Inv2(t0:Trace)(ks:List K)(gs:Array bP)(w:ae)(t:Trace)(tag:kU)(dW:Nat->Nat)(E:dP)(S0 G:aS)(Sw:Nat->aS)(q:Nat->Nat)(di:Nat->List ai)(st:Nat->Nat)(D:Nat->T)(τ:T):Prop where
 base:X.Base t0 ks gs w t tag.deaf dW E S0 G Sw q
 len:O ks=n
 Tc:¬E.ro X.Wg
 main:∃a,gs[0]? =Y a/\X.IC ty dU fZ gp E S0 tag τ a w
 work:∀(i:Nat) (k:K),ks[i]? =Y k->∃g,gs[X.m0+i]? =Y g/\X.D7 ty n dM i k (di i) (Sw i) (st i) (D<|X.m0+i) (dW i) g w
 old:∀i,0<i->i<X.m0->D i=T.nat (q i)
 Ak:∀k∈ks,∃s r,w.heap[X.ch k]? =Y (.chan 0 #[] ah s r ah)
 over:∃cap s r,w.heap[X.ov]? =Y (.chan cap #[] A s r ah)
 wg:∃a b,WgAt ty X.Wg w a b/\Go.ConcN.Mode n (iE st) tag.c a b
 pay:PayAt X.C n w
 rel:∀i,i<n->st i<=6->∃r,Aq X.Wg t (X.m0+i) r/\t0.size<=r
 acq:tag=.ret->Ld t0.size X.Wg X.m0 n t
end
section
variable{K}{X:aT K}{ty n dU fZ gp dM E S0 S tag τ g a a' w w1 f}
theorem RL.t{w2 H}(h:RL ty H w w1)(k:RL ty H w1 w2):RL ty H w w2:=k∘h
theorem NU(H):∀a b c,RL ty H a b->RL ty H b c->RL ty H a c:=λ_ _ _ h k=>k∘h
theorem aT.Ap.rely(h:X.Ap ty dU fZ tag f g w)(H:RL ty X.Wg w w1):X.Ap ty dU fZ tag f g w1:=by cases h with|anch h=>exact .anch<|aRi (NU X.Wg) h H|w1 h=>exact .w1<|aRi (NU X.Wg) h H|w2 h=>exact .w2<|aRi (NU X.Wg) h H|wr h=>exact .wr<|aRi (NU X.Wg) h H|w3 h=>exact .w3<|aRi (NU X.Wg) h H|blk h=>exact .blk λw2 k=>h w2<|H.t k|w4 h=>exact .w4<|aRi (NU X.Wg) h H|ke h=>exact .ke<|aRi (NU X.Wg) h H|acq h=>exact .acq<|aRi (NU X.Wg) h H|ret h=>exact .ret<|aRi (NU X.Wg) h H
theorem aT.Ap.status(hA:∀g w,fZ g w->g.status=.running)(hE:dU.status=.running)(h:X.Ap ty dU fZ tag f g w):(g.status=.running/\tag≠.blk)\/(tag=.blk/\∃g0:bP,g={g0 with status:=.blocked}/\g0.status=.running/\g0.offers=U):=by
 have H:RL ty X.Wg w w:=id;cases h with
 |anch h=>exact .inl ⟨aRg hA w H h,Xy⟩
 |w1 h=>exact .inl ⟨aRg (λ_ _ x=>x.1) w H h,Xy⟩
 |w2 h=>exact .inl ⟨aRg (λ_ _ x=>x.1) w H h,Xy⟩
 |wr h=>exact .inl ⟨aRg (λ_ _ x=>x.1) w H h,Xy⟩
 |w3 h=>exact .inl ⟨aRg (λ_ _ x=>x.1) w H h,Xy⟩
 |blk h=>exact .inr ⟨J,_,J,(h w H).1,(h w H).2.1⟩
 |w4 h=>exact .inl ⟨aRg (λ_ _ x=>x.1) w H h,Xy⟩
 |ke h=>exact .inl ⟨aRg (λ_ _ x=>x.1) w H h,Xy⟩
 |acq h=>exact .inl ⟨aRg (λ_ _ x=>x.1) w H h,Xy⟩
 |ret h=>exact .inl ⟨aRg (λ_ _ x=>by rw[show _=dU from x];exact hE) w H h,Xy⟩
theorem aT.IC.rely(h:X.IC ty dU fZ gp E S0 tag τ g w)(H:bg S0 E w w1)(hr:RL ty X.Wg w w1):X.IC ty dU fZ gp E S0 tag τ g w1:=by cases h with|pre h=>exact .pre<|h.rely H|iW h hm=>exact .iW (h.rely hr) λw2 k=>hm w2<|H.t k
theorem aT.IC.status(hA:∀g w,fZ g w->g.status=.running)(hE:dU.status=.running)(h:X.IC ty dU fZ gp E S0 tag τ g w):(g.status=.running/\tag≠.blk)\/(tag=.blk/\∃H:bP,g={H with status:=.blocked}/\H.status=.running/\H.offers=U):=by
 cases h with
 |pre h=>exact .inl ⟨JG h λS g w x=>x.1.1,Xy⟩
 |iW h hm=>exact h.status hA hE
theorem aT.IC.woken(hA:∀g w,fZ g w->g.status=.running)(hE:dU.status=.running)(h:X.IC ty dU fZ gp E S0 tag τ g w)(hk:bg S0 E w w1)(hr:RL ty X.Wg w w1)(a a'):
 ∃kP vC,X.IC ty dU fZ gp E S0 kP vC (Go.Conc.woken X.P a a' w1 g) w1/\((kP=tag/\vC=τ)\/(tag=.blk/\kP=.w3))/\(mayWake X.P a=A->a'.status=.running->kP≠.blk):=by
 rcases h.status hA hE with⟨hs,fE⟩|⟨rfl,g0,rfl,AQ,ho⟩
 ·exact⟨tag,τ,by rw[woken_run hs];exact h.rely hk hr,Zv,λ_ _=>fE⟩
 ·cases h with
  | @iW _ f _ _ h hm=>
    generalize hg:({g0 with status:=.blocked}:bP)=g1 at h;cases h with
    | @blk g2 _ hb=>
      have hag:(({g2 with status:=.blocked}:bP)).again w1=g2:=by
       have J6:=(hb w id).2.1;have QN:=(hb w id).1;have⟨fr,cs,stt,dy,off⟩:=g2;subst J6 QN;simp[Goroutine.again]
      by_cases hw:(mayWake X.P a&&a'.status != .blocked&&a'.status != .waiting)=A
      ·refine⟨.w3,T.nat 1,?_,Zv,Zv⟩;have:Go.Conc.woken X.P a a' w1 {g2 with status:=.blocked}=g2:=by
        unfold Go.Conc.woken;grind
       rw[this];exact .iW (.w3 (m:=0) λH k=>hb H<|hr.t k) λH k=>hm H<|hk.t k
      ·refine⟨.blk,T.nat 0,?_,Zv,λh1 h2=>?_⟩
       ·have:Go.Conc.woken X.P a a' w1 {g2 with status:=.blocked}={g2 with status:=.blocked}:=by
         unfold Go.Conc.woken;grind
        rw[this];exact .iW (.blk λH k=>hb H<|hr.t k) λH k=>hm H<|hk.t k
       grind
variable[Payload]
variable{i st dd k l}
theorem aT.D7.rely(hR:∀k l v S w w1,dM k l v S w->bg S (X.side k) w w1->dM k l v S w1)(h:X.D7 ty n dM i k l S st τ dd g w)(H:bg S (X.side k) w w1)(hw:RW ty X.Wg X.C n 0 i w w1):X.D7 ty n dM i k l S st τ dd g w1:=by cases h with|run h=>exact .run<|h.rely H|S9 h=>exact .S9<|h.rely H|fin h=>exact .fin<|h.rely H|done h hr=>(exact .done (aRi (λ_ _ _ h1 h2=>h1.trans h2) h hw) Zv)|iW h h6 hr hh=>exact .iW (h.rely Zv) h6 Zv<|hw.cell.t hh
theorem aT.D7.status(H:X.Fit)(hF:∀S g w,X.Fin k l S g w->g.status=.running)(h:X.D7 ty n dM i k l S st τ dd g w):g.status=.running\/(g.status=.finished/\st=1):=by cases h with|run h=>exact .inl (JG h λS g w x=>let ⟨_,_,_,y⟩:=H _ _ _ _ _ x;y.run)|S9 h=>grind|fin h=>(exact .inl<|JG h YV)|done h hr=>exact .inl<|aRg (λ_ _ x=>x.1) w (aRc w) h|iW h h6 hr hh=>by_cases e:st=1;{exact h.status.imp id Zv};exact .inl<|h.running_of e
end
end gy
end
section
namespace gy
open Go Go.Conc Twin
open Go.ConcN (upd upd_same upd_ne WgLive PayAt Has RW DWs AtR0 AtK1 WSit WD CTag Vc cnt sumTo RelBy sumTo_upd sumTo_congr cell_of_block AsideCell)
open Go.ConcR (stA smA rd wr KK WgAt DC0 Payload)
section
variable{K}{X:aT K}{t0 ks gs gs' w w' t d dW E S0 G Sw q}
variable{es fn pos Wg k r u}
theorem aT.Base.ev0(h:X.Base t0 ks gs w t d dW E S0 G Sw q)(bY:kT X.dI w')(hs:w'=M (R w))(FN:∀e∈es,(MemAct.ofEvent e).low w/\MemAct.ofEvent e≠.mark (.release<|stA X.Wg)/\∀x,(MemAct.ofEvent e).touch?=Y x->ap7 X.Sh (qg X.jF) (X.aPW Sw ks) (X.Rd ks) x)(gV:gs'.size=gs.size)(hold:∀i,0<i->i<X.m0->gs'[i]? =gs[i]?):X.Base t0 ks gs' w' (t++MemOp.ofEvents 0 fn pos es) (deafBehind d es) dW E S0 G Sw q:=by have⟨m1,m2,m3,m4,m5⟩:=h.more (w':=w') (u:=MemOp.ofEvents 0 fn pos es) (.inl J) ofEvents_g YV (λop H=>by obtain⟨e,he,rfl⟩:=aQR H;grind) (λop H=>by obtain⟨x,hx,rfl⟩:=aQR H;grind);refine⟨gV.t h.size,h.pos,λa g h0 ha hg=>?_,Zv,by rw[Deaf_own,h.deaf0],λa ha=>?_,h.mem.size hs,?_,m1,m2,m3,h.ku,bY⟩;{rw[m5 a YV];exact h.old a g h0 ha Zv};{rw[m5 _ (by have:=h.pos;omega)];exact h.deafW a ha};refine h.ti.app0 (h.mem.cls ⟨h.ku.1,h.ku.2.1,h.ku.2.2.1⟩) ofEvents_g λop H x hx=>?_;obtain⟨e,he,rfl⟩:=aQR H;grind
theorem aT.Base.evW(h:X.Base t0 ks gs w t d dW E S0 G Sw q){i}(hi:i<O ks)(bY:kT X.dI w')(hs:w'=M (R w))(FN:∀e∈es,(MemAct.ofEvent e).low w/\MemAct.ofEvent e≠.mark (.release<|stA X.Wg)/\∀x,(MemAct.ofEvent e).touch?=Y x->aiS X.Sh (X.aPW Sw ks) (X.Rd ks) (X.m0+i) x)(gV:gs'.size=gs.size)(hold:∀i,0<i->i<X.m0->gs'[i]? =gs[i]?):X.Base t0 ks gs' w' (t++MemOp.ofEvents (X.m0+i) fn pos es) d (upd dW i<|deafBehind (dW i) es) E S0 G Sw q:=by have tY:=h.pos;have⟨m1,m2,m3,m4,m5⟩:=h.more (w':=w') (u:=MemOp.ofEvents (X.m0+i) fn pos es) Zv ofEvents_g YV (λop H=>by obtain⟨e,he,rfl⟩:=aQR H;grind) (λop H=>by obtain⟨x,hx,rfl⟩:=aQR H;grind);refine⟨gV.t h.size,h.pos,λa g h0 ha hg=>?_,Zv,by rw[m5 0 YV];exact h.deaf0,λa ha=>?_,h.mem.size hs,?_,m1,m2,m3,h.ku,bY⟩;{rw[m5 a YV];exact h.old a g h0 ha Zv};{by_cases e:a=i;{subst e;rw[Deaf_own,h.deafW a ha,aQ0]};rw[m5 _ YV,aQ4 _ _ e];exact h.deafW a ha};refine h.ti.appW (h.mem.cls ⟨h.ku.1,h.ku.2.1,h.ku.2.2.1⟩) YV ⟨.cell (X.C,i),i,hi,J,.inr J⟩ ofEvents_g λop H x hx=>?_;obtain⟨e,he,rfl⟩:=aQR H;grind
theorem Aq.appOther{x}(h:Aq Wg t k r)(hu:∀H∈u,H.g=x)(hx:x≠k):Aq Wg (t++u) k r:=by refine⟨h.rel.appOther hu hx,λi hi hg a ha=>?_⟩;have⟨H,bu,Fz⟩:=EC.1 hg;rcases aQ5 bu with⟨aO,_⟩|⟨_,GX⟩;{exact h.a i hi (by rw[<-g?_old (u:=u) aO];exact hg) a (by rw[<-touchAt_old (u:=u) aO];exact ha)};grind
theorem RelBy.Bv{a}(h:RelBy a t k r)(hu:∀H∈u,H.act.touch?=U):RelBy a (t++u) k r:=by refine h.app λi hi _ hc=>?_;have⟨x,hx,_⟩:=hc;have:=NS hu hx;have⟨H,bu,_⟩:=aRq this;grind
theorem Aq.Bv(h:Aq Wg t k r)(hu:∀op∈u,op.act.touch?=U):Aq Wg (t++u) k r:=by refine⟨RelBy.Bv h.rel hu,λi hi hg a ha=>?_⟩;have H:=NS hu ha;have⟨op,bu,_⟩:=aRq H;have aO:=lt_size_of_getElem? bu;exact h.a i hi (by rw[<-g?_old (u:=u) aO];exact hg) a H
theorem Aq.book{dd}(h:Aq Wg t k r)(hdk:Deaf t k=dd)(fn pos)(FN:∀e∈es,Go.ConcR.Bk Wg e) (hd:∀j e,es[j]? =Y e->(MemAct.ofEvent e).touch?=U\/0<deafBehind dd (es.extract 0 j)):Aq Wg (t++MemOp.ofEvents k fn pos es) k r:=by refine⟨h.rel.book hdk fn pos FN hd,λi hi hg a ha=>?_⟩;have⟨op,bu,H⟩:=aRq ha;rcases aQ5 bu with⟨aO,_⟩|⟨_,GX⟩;{exact h.a i hi (by rw[<-g?_old (u:=MemOp.ofEvents k fn pos es) aO];exact hg) a (by rw[<-touchAt_old (u:=MemOp.ofEvents k fn pos es) aO];exact ha)};obtain⟨e,he,rfl⟩:=aQR GX;rcases FN e he with h1|h1|⟨ad,wr,rfl,had⟩;{simp only[aRU h1]at H;cases H};{simp only[aRU h1]at H;cases H};simp only[MemAct.ofEvent,MemAct.touch?,iR]at H;grind
theorem Aq.new(hd:Deaf t k=0)(fn pos):Aq Wg (t++MemOp.ofEvents k fn pos #[Go.ConcR.mk<|.releaseMerge<|stA Wg]) k t.size:=by refine⟨RelBy.new hd fn pos,λi hi _ a ha=>?_⟩;have⟨op,H,_⟩:=aRq ha;have:=lt_size_of_getElem? H;rw[aRY]at this;grind
theorem Ld.app{B m0 n}(h:Ld B Wg m0 n t)(hu:∀i r,i<n->Aq Wg t (m0+i) r->Aq Wg (t++u) (m0+i) r):Ld B Wg m0 n (t++u):=have⟨q,h1,h2,h3,h4⟩:=h;have H:=lt_of_act? h1;⟨q,by rw[act?_old H];exact h1,by rw[aR0 H];exact h2,(heard_old H).2 h3,Zv⟩
end
section
variable[Payload]{K}{X:aT K}{ty n dU fZ gp dM t0 ks gs gs' w w' t tag dW E S0 G Sw q di st D τ sl}
inductive T.Bz:T->T->Prop where
 |one {a b} (h:T.Lt a b):T.Bz a b
 |more {a b c} (h:T.Lt a b) (k:T.Bz b c):T.Bz a c
theorem T.aCY{a b}(h:T.Bz b a):∃c,T.Lt c a/\(b=c\/T.Bz b c):=by induction h with|one h=>grind|more h _ ih=>have⟨c,hc,H⟩:=ih;refine⟨c,hc,.inr ?_⟩;rcases H with rfl|H;{exact .one h};exact .more h H
theorem T.aCZ{x y z}(h:T.Bz x y)(k:T.Lt y z):T.Bz x z:=by induction h with|one h=>exact .more h<|.one k|more h _ H=>exact .more h<|H k
theorem T.aC0(a):Acc T.Bz a:=by (have key:∀a,Acc T.Lt a->∀b,(b=a\/T.Bz b a)->Acc T.Bz b:=by intro a ha;induction ha with|intro a _ ih=>(have H:∀b,T.Bz b a->Acc T.Bz b:=by intro b hb;have:=T.aCY hb;grind);rintro b (rfl|hb);{exact⟨_,H⟩};grind);exact key a (T.acc a) a<|.inl J
theorem T.aqi:∀n,T.Bz (T.nat 0) (T.nat<|n+1)|0=>.one<|T.PQ 0|n+1=>T.aCZ (T.aqi n)<|T.PQ<|n+1
theorem aC1{motive:Nat->(Nat->T)->T->Prop}(N) (h:∀H D τ,(∀A' D' vC,A'<H->motive A' D' vC)->(∀D' vC,JE N D' D->motive H D' vC)->(∀vC,T.Bz vC τ->motive H D vC)->motive H D τ):∀H D τ,motive H D τ:=by intro H;induction H using Nat.strongRecOn with|ind H ihA=>intro D;apply(JE.wf N).induction (C:=λD=>∀τ,motive H D τ) D;intro D ihD τ;have:=T.aC0 τ;induction this with|intro τ _ aQk=>grind
def zL(n:Nat)(tag:kU)(st:Nat->Nat):Nat:=tag.phi n (Vc n<|iE st)+sumTo n st
variable(X ty n dU fZ gp dM t0 ks di)in def aT.CX(gs:Array bP)(w:ae)(sl:Option (Nat×Nat))(t:Trace)(tag:kU)(st:Nat->Nat)(D:Nat->T)(τ:T)(x:Nat):Prop:=∃gs1 w1 ops oD PW E1 S1 G1 Am q1 H D1 jT,runT X.P (crowd gs w sl) x=(.next<|crowd gs1 w1 sl,ops)/\X.Inv2 ty n dU fZ gp dM t0 ks gs1 w1 (t++ops) oD PW E1 S1 G1 Am q1 di H D1 jT/\ (zL n oD H<zL n tag st\/(zL n oD H<=zL n tag st/\(JE gs.size D1 D\/(D1=D/\T.Bz jT τ))))
theorem aqj(st i s):iE (upd st i s)=upd (iE st) i ⟨min s 7,0,0⟩:=by unfold iE upd;grind
theorem cnt_mono{x y}(h:x.stage<=y.stage):cnt x<=cnt y:=by unfold cnt;grind
variable{i s kP}
theorem aqk(H:i<n)(hs:s<st i)(ht:kP=tag\/(tag=.blk/\kP=.w3)):zL n kP (upd st i s)<zL n tag st:=by have h1:=sumTo_upd st s id H;have h2:=Go.ConcN.Vc_upd (iE st) (⟨min s 7,0,0⟩:WD) H;have h3:cnt (⟨min s 7,0,0⟩:WD)<=cnt (iE st i):=cnt_mono (show min s 7<=min (st i) 7 by omega);rw[<-aqj]at h2;(have h4:kP.phi n (Vc n<|iE<|upd st i s)<=tag.phi n (Vc n<|iE st):=by rcases ht with rfl|⟨rfl,rfl⟩;{cases kP<;>simp only[kU.phi]<;>omega};exact fC _);simp at h1;unfold zL;grind
theorem aC2(ht:kP=tag\/(tag=.blk/\kP=.w3)):zL n kP (upd st i<|st i)<=zL n tag st:=by (have e:upd st i (st i)=st:=by unfold upd;grind);rw[e];rcases ht with rfl|⟨rfl,rfl⟩<;>exact fC _
theorem aT.Inv2.workerStep(aPT:X.Fit)(hA:∀g w,fZ g w->g.status=.running)(hE:dU.status=.running)(sK:∀i k,ks[i]? =Y k->∀l S g w,X.Fin k l S g w->∃v,X.GK ty n i v g w/\dM k l v S w)(xq:∀k l v S w w1,dM k l v S w->bg S (X.side k) w w1->dM k l v S w1) (h:X.Inv2 ty n dU fZ gp dM t0 ks gs w t tag dW E S0 G Sw q di st D τ){k}(hk:ks[i]? =Y k){g g' es}(hg:gs[X.m0+i]? =Y g)(hgo:bQ X.P ah g w=.go g' w' es){dd S1 σ} (hb:X.Base t0 ks ((gs.map<|woken X.P g g' w').setIfInBounds (X.m0+i) g') w' (t++MemOp.ofEvents (X.m0+i) g.frame.fn g.frame.place es) tag.deaf (upd dW i dd) E S0 G (upd Sw i S1) q) (k0:bg S0 E w w')(rl:RL ty X.Wg w w')(kW:∀H k',H≠i->ks[H]? =Y k'->bg (Sw H) (X.side k') w w')(rw_:∀H,H≠i->RW ty X.Wg X.C n 0 H w w')(ch_:∀b,(b=X.ov\/∃k∈ks,b=X.ch k)->w'.heap[b]? =w.heap[b]?) (hs:X.D7 ty n dM i k (di i) S1 s σ dd g' w')(pay:PayAt X.C n w')(dD:∀kP,(kP=tag\/(tag=.blk/\kP=.w3))->(mayWake X.P g=A->g'.status=.running->kP≠.blk)->∃a b,WgAt ty X.Wg w' a b/\Go.ConcN.Mode n (iE<|upd st i s) kP.c a b) (rel:s<=6->∃r,Aq X.Wg (t++MemOp.ofEvents (X.m0+i) g.frame.fn g.frame.place es) (X.m0+i) r/\t0.size<=r)(acq:tag=.ret->Ld t0.size X.Wg X.m0 n (t++MemOp.ofEvents (X.m0+i) g.frame.fn g.frame.place es)) (lt:s<st i\/(s=st i/\T.Lt σ (D<|X.m0+i))):X.CX ty n dU fZ gp dM t0 ks di gs w sl t tag st D τ (X.m0+i):=by
 have hi:i<ks:=Zv;have tY:=h.base.pos;have aO:X.m0+i<gs.size:=Zv
 have vJ:(X.m0+i==0)=false:=Zv
 have⟨a,ha,hm⟩:=h.main;have⟨kP,vC,Fq,aKx,hwk⟩:=hm.woken hA hE k0 rl g g';have hr:=aRb (P:=X.P) (sl:=sl) (i:=X.m0+i) hg (by rw[vJ];exact hgo);have NV:kP=tag\/(tag=.blk/\kP=.w3):=Zv;have aKy:kP.deaf=tag.deaf:=by rcases NV with rfl|⟨rfl,rfl⟩<;>rfl
 have⟨wa,wb,l7,mO⟩:=dD kP NV hwk;refine⟨_,w',_,kP,upd dW i dd,E,S0,G,upd Sw i S1,q,upd st i s,upd D (X.m0+i) σ,vC,hr,⟨Zv,h.len,h.Tc,Zv,λH k' gI=>?_,λj h0 h1=>by rw[aQ4 _ _ YV];exact h.old j h0 h1,λκ qM=>?_,?_,Zv,pay,λH jC eF=>?_,λe=>?_⟩,?_⟩;{by_cases e:H=i;{subst e;rw[hk]at gI;cases gI;exact⟨g',Zv,by rw[aQ0,aQ0,aQ0,aQ0];exact hs⟩};have⟨x,hx,hsx⟩:=h.work H k' gI;have eF:=hsx.status aPT λS g w y=>let ⟨_,z,_⟩:=sK H k' gI _ S g w y;z.run;refine⟨x,?_,?_⟩;{rw[BZ YV,Jc,hx];simp;unfold Go.Conc.woken;split;{exact again_running _ Zv};rfl};rw[aQ4 Sw _ e,aQ4 st _ e,aQ4 dW _ e,aQ4 D _ YV];exact hsx.rely xq Zv<|rw_ H e};{have⟨s',r',hc⟩:=h.Ak κ qM;grind};{have⟨cap,s',r',hc⟩:=h.over;grind};{by_cases e:H=i;{subst e;rw[aQ0]at eF;grind};rw[aQ4 _ _ e]at eF;have⟨r,hr,hb⟩:=h.rel H jC eF;exact⟨r,hr.appOther ofEvents_g YV,hb⟩};{grind};have iy:=h.len▸hi;rcases lt with hl|⟨rfl,hl⟩;{exact .inl<|aqk iy hl NV};exact .inr ⟨aC2 NV,.inl ⟨X.m0+i,aO,by rw[aQ0];exact hl,λj hj=>aQ4 _ _ hj⟩⟩
end
end gy
end
section
namespace gy
open Go Go.Conc Twin
open Go.ConcN (upd upd_same upd_ne WgLive PayAt Has RW DWs AtR0 AtK1 WSit WD CTag Vc cnt sumTo RelBy sumTo_upd sumTo_congr cell_of_block AsideCell)
open Go.ConcR (stA smA rd wr KK WgAt DC0 Payload)
section
variable[Payload]{K}{X:aT K}{ty n dU fZ gp dM t0 ks gs w w' t}{tag:kU}{dW E S0 G Sw q di st D τ sl}
theorem aaC{α}(f:Nat->α)(i):upd f i (f i)=f:=by unfold upd;grind
variable{i a b}
theorem XB{s c}(H:min s 7=min (st i) 7)(h:Go.ConcN.Mode n (iE st) c a b):Go.ConcN.Mode n (iE<|upd st i s) c a b:=by refine h.congr λx _=>?_;show min (upd st i s x) 7=min (st x) 7;by_cases e:x=i;{subst e;rw[aQ0];exact H};rw[aQ4 _ _ e]
theorem XC{H D}(h:Go.ConcN.Mode n D tag.c a b)(ht:H=tag\/(tag=.blk/\H=.w3)):Go.ConcN.Mode n D H.c a b:=by apply h.retag;rcases ht with rfl|⟨rfl,rfl⟩;{grind};exact .inr ⟨J,J⟩
theorem aql(h:tag=.ret):tag.c=.ret:=by rw[h];rfl
theorem aqm(hW:w'.heap[X.Wg]? =w.heap[X.Wg]?)(H:w'.heap[X.C]? =w.heap[X.C]?)(i):RW ty X.Wg X.C n 0 i w w':=⟨YV,λ⟨a,b,h⟩=>⟨a,b,h.of_block hW⟩,λ⟨c,h1,h2⟩=>⟨c,H.t h1,h2⟩,cell_of_block H i⟩
theorem aqn(hW:w'.heap[X.Wg]? =w.heap[X.Wg]?):RL ty X.Wg w w':=λ⟨a,b,h⟩=>⟨a,b,h.of_block hW⟩
theorem aes(H:w'.heap[X.C]? =w.heap[X.C]?)(h:PayAt X.C n w):PayAt X.C n w':=let ⟨c,h1,h2⟩:=h;⟨c,H.t h1,h2⟩
theorem aT.Base.aside{d}(h:X.Base t0 ks gs w t d dW E S0 G Sw q){b}(hb:X.Sp ks b)(hE:¬E.ro b)(H:Conc.Aside b w w'):bg S0 E w w'/\∀i k,ks[i]? =Y k->bg (Sw i) (X.side k) w w':=have⟨n0,_,nW,nR⟩:=h.aaz hb;⟨⟨H.tape,H.os,H.output,MR H.size.s,λx hx=>H.block x Zv,λx hx=>H.block x Zv⟩,λi k hk=>⟨H.tape,H.os,H.output,MR H.size.s,λx hx=>H.block x Zv,λx hx=>H.block x Zv⟩⟩
theorem aT.Inv2.at(h:X.Inv2 ty n dU fZ gp dM t0 ks gs w t tag dW E S0 G Sw q di st D τ)(xq:∀k l v S w w1,dM k l v S w->bg S (X.side k) w w1->dM k l v S w1)(d):X.Inv2 ty n dU fZ gp dM t0 ks gs (w.at d) t tag dW E S0 G Sw q di st D τ:=⟨h.base.at d,h.len,h.Tc,let ⟨a,ha,H⟩:=h.main;⟨a,ha,H.rely (bg.at _ _ _ _) id⟩,λi k hk=>let ⟨g,hg,hs⟩:=h.work i k hk;⟨g,hg,hs.rely xq (bg.at _ _ _ _)<|RW.at w d⟩,h.old,h.Ak,h.over,h.wg,h.pay,h.rel,h.acq⟩
theorem aC4{H}(hW:X.Wg=H){e}(h:Go.ConcR.Bk H e){B}(hB:H<B)(n' k):(MemAct.ofEvent e).low B/\MemAct.ofEvent e≠.mark (.release<|stA X.Wg)/\∀x,(MemAct.ofEvent e).touch?=Y x->aiS X.Sh (X.aPW Sw n') (X.Rd ks) k x:=by have⟨loc,wr,sy⟩:=e;rcases h with h|h|⟨a,wr',h,ha⟩;{subst h;exact⟨trivial,aQA,aQE⟩};{subst h;exact⟨trivial,aQA,aQE⟩};cases h;refine⟨show a.block<B by omega,aQA,λx hx=>?_⟩;simp only[MemAct.ofEvent,MemAct.touch?,iR]at hx;subst hx;exact .inl ⟨.inl Zv,Xy,Xy⟩
theorem aT.Inv2.aC5(aPT:X.Fit)(aaD:∀k l v S w,dM k l v S w->∀B,(∀b,B.dI b->¬S b)->aK B v)(hA:∀g w,fZ g w->g.status=.running)(hE:dU.status=.running)(sK:∀i k,ks[i]? =Y k->∀l S g w,X.Fin k l S g w->∃v,X.GK ty n i v g w/\dM k l v S w)(xq:∀k l v S w w1,dM k l v S w->bg S (X.side k) w w1->dM k l v S w1)
 (h:X.Inv2 ty n dU fZ gp dM t0 ks gs w t tag dW E S0 G Sw q di st D τ){k}(hk:ks[i]? =Y k){g}(hg:gs[X.m0+i]? =Y g)(eF:8<=st i):X.CX ty n dU fZ gp dM t0 ks di gs w sl t tag st D τ (X.m0+i):=by
 have hi:i<ks:=Zv;have iy:=h.len▸hi;have tY:=h.base.pos;have aO:X.m0+i<gs.size:=Zv
 have vJ:(X.m0+i==0)=false:=Zv
 have xA:=iO hk;have⟨wa,wb,dD,nJ⟩:=h.wg;have Me:tag≠.ret:=λe=>have h7:(iE st i).stage=7:=Nat.min_eq_right YV;nJ.not_ret iy YV<|aql e
 have⟨x,hx,hs⟩:=h.work i k hk;rw[hg]at hx;cases hx;have own:∀{g':bP} {w2:ae} {es:Array Event} {σ:T},bQ X.P ah g w=.go g' w2 es->iP (Sw i) (X.side k) w w2 es->X.D7 ty n dM i k (di i) (grow (Sw i) w w2) (st i) σ (dW i) g' w2->T.Lt σ (D<|X.m0+i)->X.CX ty n dU fZ gp dM t0 ks di gs w sl t tag st D τ (X.m0+i):=by
  intro g' w2 es σ hgo hG aKz hl;have⟨k0,kW,kS⟩:=h.base.aiX hk hG;have I8:=kS X.Wg<|.inl J;have ML:=kS X.C<|.inr<|.inl J;refine h.workerStep aPT hA hE sK xq hk hg hgo (dd:=dW i) (s:=st i) (S1:=grow (Sw i) w w2) (σ:=σ) ?_ k0 (aqn I8) kW (λH _=>aqm I8 ML H) (λb hb=>kS b<|hb.e (λe=>.inr YV) λe=>.inr Zv) aKz (aes ML h.pay) (λkP ht _=>⟨wa,wb,dD.of_block I8,XC (XB J nJ) ht⟩) YV Zv Zv;rw[aaC];exact h.base.stepW hk hG Xy<|h.base.PV g g' w2 g' YV
 have told:∀{g0:bP} {z0 z1:ai} {sh:CommShape},X.yx k (di i) (Sw i) g0 z0 z1 sh w->bQ X.P ah g w=.comm g0 (X.cs k z0 z1) A sh w #[]->st i=9->dW i=0->X.CX ty n dU fZ gp dM t0 ks di gs w sl t tag st D τ (X.m0+i):=by
  intro g0 z0 z1 sh hW lK h9 Yl;have⟨s,r,hc⟩:=h.Ak k xA;have⟨cap,s',r',ho⟩:=h.over;have vK:∀c,partners (gs.setIfInBounds (X.m0+i) ph) c A=[]:=λc=>partners_nil λj y hy=>by
   rcases aRM gs _ j y hy with⟨_,rfl⟩|⟨_,hy⟩
   ·rfl
   ·rcases h.base.Lc hy with rfl|⟨h1,h2⟩|⟨H,k',rfl,gI⟩
    ·have⟨a,ha,hm⟩:=h.main;rw[hy]at ha;cases ha;rcases hm.status hA hE with⟨hs,_⟩|⟨_,g1,rfl,_,ho⟩
     ·exact offersAt_of_not_blocked Zv _ _
     ·unfold offersAt;grind
    ·rcases(h.base.old j y h1 h2 hy).status with hs|hs<;>exact offersAt_of_not_blocked Zv _ _
    ·have⟨y',QS,hs⟩:=h.work H k' gI;rw[hy]at QS;cases QS;rcases hs.status aPT (λS g w z=>let ⟨_,u,_⟩:=sK H k' gI _ S g w z;u.run)with hs|⟨hs,_⟩<;>exact offersAt_of_not_blocked Zv _ _
  have hr:=crowd_sel_recv_closed (P:=X.P) (sl:=sl) (i:=X.m0+i) (w:=w) (w₁:=w) (k:=1) (c:=X.ov) (z:=z1) hg (by rw[vJ];exact lK) (by simp[aT.cs]) (λm c' hm FM=>by
   match m,hm,FM with
   |0,_,FM=>simp[aT.cs]at FM;subst FM;exact ways_recv_none hc<|vK _
   |1,hm,_=>omega
   |m+2,_,FM=>simp[aT.cs]at FM) ho (vK _)
  have⟨σ,hσ⟩:=PU hW.over;have uX:X.ov<w:=Zv;have hq:aiZ X.Wg w (MemOp.ofEvents (X.m0+i) g.frame.fn g.frame.place #[]++ #[{g:=X.m0+i,fn:=g0.frame.fn,pos:=g0.frame.place,act:=.recvClosed X.ov}]):=by
   intro op bu;rcases UD.1 bu with bu|bu
   ·exact aaA _ _ _ _ _ op bu
   ·simp at bu;subst bu;exact⟨J,uX,Xy,Xy,Xy⟩
  refine⟨_,w,_,tag,dW,E,S0,G,Sw,q,upd st i 8,upd D (X.m0+i) σ.more,τ,hr,⟨h.base.quiet h.base.uI J hq Xy Zv,h.len,h.Tc,?_,λH k' gI=>?_,λj h0 h1=>by rw[aQ4 _ _ YV];exact h.old j h0 h1,h.Ak,h.over,⟨wa,wb,dD,XB YV nJ⟩,h.pay,λH jC h6=>?_,Zv⟩,.inl<|aqk iy YV<|.inl J⟩
  ·have⟨a,ha,hm⟩:=h.main;grind
  ·by_cases e:H=i
   ·subst e;rw[hk]at gI;cases gI;refine⟨_,by rw[alP aO],?_⟩;rw[aQ0,aQ0,Yl];exact .fin hσ
   ·have⟨y,hy,hs⟩:=h.work H k' gI;exact⟨y,Zv,by rw[aQ4 st _ e,aQ4 D _ YV];exact hs⟩
  ·by_cases e:H=i
   ·subst e;rw[aQ0]at h6;omega
   ·rw[aQ4 _ _ e]at h6;have⟨r,hr,hb⟩:=h.rel H jC h6;exact⟨r,hr.Bv λop bu=>(hq op bu).1,hb⟩
 generalize hD:D (X.m0+i)=σ at hs;generalize IU:st i=s at hs;generalize IA:dW i=dd at hs;cases hs with
 | @run σ _ _ hT=>
   cases σ with
   |step f=>
    have⟨g',w2,es,hgo,hG,Ho⟩:=hT.2 w<|bg.refl _ _ _;exact own hgo hG (by rw[IU,IA];exact .run Ho) (by rw[hD];exact T.aar<|.mk f w)
   |stop=>
    have⟨z0,z1,sh,hW⟩:=aPT _ _ _ _ _<|hT w<|bg.refl _ _ _;exact told hW (hW.step w<|bg.refl _ _ _) IU IA
 | @S9 g0 z0 z1 sh _ hW=>
   refine told hW ?_ IU IA;rw[stepG_tries];have:({g0 with status:=.running}:bP)=g0:=by
    have:=hW.run;have⟨fr,cs,sx,dy,of⟩:=g0;grind
   rw[this];exact hW.step w<|bg.refl _ _ _
 | @fin σ _ _ hT=>
   cases σ with
   |step f=>
    have⟨g',w2,es,hgo,hG,Ho⟩:=hT.2 w<|bg.refl _ _ _;exact own hgo hG (by rw[IU,IA];exact .fin Ho) (by rw[hD];exact T.aar<|.mk f w)
   |stop=>
    have⟨v,dR,rU⟩:=sK i k hk _ _ _ _<|hT w<|bg.refl _ _ _;have⟨g',hgo,m,aKA⟩:=dR.st ⟨_,_,dD⟩ h.pay;have aet:=aRe w (X.C,i) v;have hCE:=(h.base.aaz (b:=X.C)<|.inr<|.inl J).2.1<|Ne.s h.base.ku.1;have⟨k0,kW⟩:=h.base.aside (.inr<|.inl J) hCE aet;have I8:=aet.block X.Wg h.base.ku.1;have⟨c,oH,kX⟩:=h.pay;have hC':(aZ w (X.C,i) v).heap[X.C]? =Y (.cells (c.setIfInBounds i v) Payload.ety):=by
     unfold World.setCell;grind
    have hcell:∀H,H≠i->(aZ w (X.C,i) v).cell? (X.C,H)=w (X.C,H):=λH e=>by
     unfold World.cell?;grind
    have MM:PayAt X.C n (aZ w (X.C,i) v):=⟨_,hC',Zv⟩;refine h.workerStep aPT hA hE sK xq hk hg hgo (dd:=0) (s:=7) (S1:=Sw i) (σ:=T.nat m) ?_ k0 (aqn I8) Zv (λH e=>⟨YV,λ⟨a,b,h⟩=>⟨a,b,h.of_block I8⟩,λ_=>MM,hcell H e⟩) (λb hb=>aet.block b ?_) (.done aKA Zv) MM (λkP ht _=>⟨wa,wb,dD.of_block I8,XC (XB YV nJ) ht⟩) YV Zv YV
    ·have J7:=h.base.evW (w':=aZ w (X.C,i) v) (gs':=(gs.map<|woken X.P g g'<|w.setCell (X.C,i) v).setIfInBounds (X.m0+i) g') (i:=i) (es:=#[⟨.cell (X.C,i),A,ah⟩]) (fn:=g.frame.fn) (pos:=g.frame.place) hi (h.base.uI.setCell<|aaD _ _ _ _ _ rU _ λb hb z=>hb.e (λy=>y.e (h.base.mem.oQ i hi b z).2.2.2.1 λe=>(h.base.mem.oQ i hi b z).2.2.1<|.inl e) λy=>Nat.not_lt.2 y (h.base.mem.oQ i hi b z).1) aet.size (by
      intro e he;simp only[MQ,zA,Dy,DC]at he;subst he;refine⟨h.base.mem.low _<|.inr<|.inl J,aQA,λx hx=>?_⟩;simp only[MemAct.ofEvent,MemAct.touch?,iR]at hx;subst hx;exact .inr<|.inl ⟨i,hi,J,.inr J⟩) Xy (h.base.PV g g' _ g' YV)
     rw[aaC];have e0:deafBehind (dW i) #[⟨.cell (X.C,i),A,ah⟩]=0:=by rw[IA];rfl
     grind
    ·rcases hb with rfl|⟨κ,qM,rfl⟩
     ·exact Ne.s h.base.ku.2.2.1
     ·exact(h.base.ku.2.2.2.1 κ qM).2.1
 |done _ _=>omega
 |iW hl h6 _ _=>omega
end
end gy
end
section
namespace gy
open Go Go.Conc Twin
open Go.ConcN (upd upd_same upd_ne WgLive PayAt Has RW DWs AtR0 AtK1 WSit WD CTag Vc cnt sumTo RelBy sumTo_upd sumTo_congr cell_of_block AsideCell le_sumTo bk_cell Vc_upd Vc_le others_uncounted)
open Go.ConcR (stA smA rd wr KK WgAt DC0 Payload Bk)
section
variable[Payload]{K}{X:aT K}{ty n dU fZ gp dM t0 ks gs w w' t tag dW E S0 G Sw q di st D τ sl}
theorem aC7{i}(h:st i<=7):(iE st i).stage=st i:=af6 h
theorem aaE{i s}(h:s<=7):iE (upd st i s)=upd (iE st) i ⟨s,0,0⟩:=by rw[aqj,af6 h]
theorem aT.Inv2.aC8(aPT:X.Fit)(hA:∀g w,fZ g w->g.status=.running)(hE:dU.status=.running)(sK:∀i k,ks[i]? =Y k->∀l S g w,X.Fin k l S g w->∃v,X.GK ty n i v g w/\dM k l v S w)(xq:∀k l v S w w1,dM k l v S w->bg S (X.side k) w w1->dM k l v S w1)(hn:n<2147483648) (h:X.Inv2 ty n dU fZ gp dM t0 ks gs w t tag dW E S0 G Sw q di st D τ){i k}(hk:ks[i]? =Y k){g}(hg:gs[X.m0+i]? =Y g)(eF:st i<=7)(jU:g.status=.running):X.CX ty n dU fZ gp dM t0 ks di gs w sl t tag st D τ (X.m0+i):=by
 have hi:=(kY.1 hk).1;have iy:=h.len▸hi;have tY:=h.base.pos;have aqo:=h.base.mem.low _<|.inl J;have hCW:=Ne.s h.base.ku.1;have⟨wa,wb,dD,nJ⟩:=h.wg;have⟨x,hx,hs⟩:=h.work i k hk;rw[hg]at hx;cases hx;have Ku:=aC7 eF;generalize hD:D (X.m0+i)=σ at hs;generalize AQ:st i=s at hs Ku eF;generalize IA:dW i=dd at hs;have hdk:Deaf t (X.m0+i)=dd:=by rw[h.base.deafW i hi,IA]
 have nr:=λh1 e=>nJ.not_ret iy (by rw[Ku];exact h1)<|aql e;have auw:∀{v:ai} {m:Nat},dM k (di i) v (Sw i) w->Has X.C i v w->σ=T.nat m->s<=6->∀{g':bP} {w2:ae} {es:Array Event} {s' m' Ue:Nat} {a b:Int},bQ X.P ah g w=.go g' w2 es->Conc.Aside X.Wg w w2->WgAt ty X.Wg w2 a b->(∀e∈es,Bk X.Wg e)->(∀jx e,es[jx]? =Y e->(MemAct.ofEvent e).touch?=U\/0<deafBehind dd (es.extract 0 jx))->WSit X.P ty X.Wg X.C n IB IB 0 (i+1) v s' m' Ue g' w2->deafBehind dd es=Ue->s'<=6->(∀kP,(kP=tag\/(tag=.blk/\kP=.w3))->(mayWake X.P g=A->g'.status=.running->kP≠.blk)->Go.ConcN.Mode n (iE<|upd st i s') kP.c a b)->(tag=.ret->Ld t0.size X.Wg X.m0 n (t++MemOp.ofEvents (X.m0+i) g.frame.fn g.frame.place es))->(s'<s\/(s'=s/\m'+1=m))->X.CX ty n dU fZ gp dM t0 ks di gs w sl t tag st D τ (X.m0+i):=by intro v m rU Yo hσ h6 g' w2 es s' m' Ue a b H QT Hq Uf hd oZ hdd h6' afI alk aO;have⟨k0,kW⟩:=h.base.aside (.inl J) h.Tc QT;have ML:=QT.block X.C hCW;refine h.workerStep aPT hA hE sK xq hk hg H (dd:=Ue) (s:=s') (S1:=Sw i) (σ:=T.nat m') ?_ k0 (λ_=>⟨_,_,Hq⟩) (λi' k' _ gI=>kW i' k' gI) (λi' _=>RW.of_wg QT ⟨_,_,Hq⟩ hCW) (λb hb=>QT.block b ?_) (.iW oZ h6' (xq _ _ _ _ _ _ rU<|kW i k hk)<|(cell_of_block ML i).t Yo) (aes ML h.pay) (λkP h1 h2=>⟨a,b,Hq,afI kP h1 h2⟩) (λ_=>?_) alk ?_;{have hb:=h.base.evW (w':=w2) (gs':=(gs.map<|woken X.P g g' w2).setIfInBounds (X.m0+i) g') (i:=i) (es:=es) (fn:=g.frame.fn) (pos:=g.frame.place) hi (aiV h.base.uI QT) QT.size (λe he=>aC4 J (Uf e he) aqo _ _) Xy (h.base.PV g g' _ g'<|.inr YV);rw[aaC];rw[IA,hdd]at hb;exact hb};{rcases hb with rfl|⟨κ,qM,rfl⟩;{exact Ne.s h.base.ku.2.1};exact(h.base.ku.2.2.2.1 κ qM).1};{have⟨r,hr,hb⟩:=h.rel i iy YV;exact⟨r,hr.book hdk _ _ Uf hd,hb⟩};rcases aO with aO|⟨rfl,rfl⟩;{exact .inl YV};exact .inr ⟨AQ.s,by rw[hD,hσ];exact T.PQ m'⟩
 cases hs with|run=>omega|S9=>omega|fin=>omega| @done v m _ _ Dw rU=>(rcases aRa Dw with rF|⟨m',rfl,lK⟩;{have⟨_,aC9,g',H,m₂,aX⟩:=rF w<|aRc w;refine h.workerStep aPT hA hE sK xq hk hg H (dd:=0) (s:=6) (S1:=Sw i) (σ:=T.nat m₂) ?_ (bg.refl _ _ _) id (λ_ _ _ _=>bg.refl _ _ _) (λ_ _=>aRc w) (λ_ _=>J) (.iW (.k1 aX) YV rU<|by simpa using aC9) h.pay (λkP ht _=>⟨wa,wb,dD,?_⟩) (λ_=>⟨t.size,Aq.new hdk _ _,let ⟨u,hu,_⟩:=h.base.base;by rw[hu];simp⟩) (λe=>absurd e<|nr YV) (.inl YV);{have hb:=h.base.evW (w':=w) (gs':=(gs.map<|woken X.P g g' w).setIfInBounds (X.m0+i) g') (i:=i) (es:=#[Go.ConcR.mk<|.releaseMerge<|stA X.Wg]) (fn:=g.frame.fn) (pos:=g.frame.place) hi h.base.uI J (by intro e he;simp at he;subst he;exact⟨aqo,by simp[MemAct.ofEvent,Go.ConcR.mk],by simp[MemAct.ofEvent,MemAct.touch?,Go.ConcR.mk]⟩) Xy (h.base.PV g g' _ g'<|.inr YV);rw[aaC];rw[IA]at hb;exact hb};rw[aaE YV];exact XC (nJ.counted iy (by rw[Ku];omega) (.inl J) 0 0) ht};obtain⟨g',w2,es,H,⟨rfl,rfl⟩,kF⟩:=lK w<|aRc w;refine h.workerStep aPT hA hE sK xq hk hg H (dd:=0) (s:=7) (S1:=Sw i) (σ:=T.nat m') ?_ (bg.refl _ _ _) id (λ_ _ _ _=>bg.refl _ _ _) (λ_ _=>aRc _) (λ_ _=>J) (.done kF rU) h.pay (λkP ht _=>⟨wa,wb,dD,XC (XB (by rw[AQ]) nJ) ht⟩) YV (λe=>absurd e<|nr YV) (.inr ⟨AQ.s,by rw[hD];exact T.PQ m'⟩);have hb:=h.base.evW (w':=w2) (gs':=(gs.map<|woken X.P g g' w2).setIfInBounds (X.m0+i) g') (i:=i) (es:=#[]) (fn:=g.frame.fn) (pos:=g.frame.place) hi h.base.uI J Xy Xy (h.base.PV g g' _ g'<|.inr YV);rw[aaC];rw[IA]at hb;exact hb)| @iW v _ m _ _ _ hl h6 rU Yo=>have book:∀{g':bP} {w2:ae} {es:Array Event} {s' m' Ue:Nat} {a b:Int},bQ X.P ah g w=.go g' w2 es->Conc.Aside X.Wg w w2->WgAt ty X.Wg w2 a b->(∀e∈es,Bk X.Wg e)->(∀jx e,es[jx]? =Y e->(MemAct.ofEvent e).touch?=U\/0<deafBehind dd (es.extract 0 jx))->WSit X.P ty X.Wg X.C n IB IB 0 (i+1) v s' m' Ue g' w2->deafBehind dd es=Ue->s'<=6->Go.ConcN.Mode n (iE<|upd st i s') tag.c a b->(tag=.ret->Ld t0.size X.Wg X.m0 n (t++MemOp.ofEvents (X.m0+i) g.frame.fn g.frame.place es))->(s'<s\/(s'=s/\m'+1=m))->X.CX ty n dU fZ gp dM t0 ks di gs w sl t tag st D τ (X.m0+i):=λH QT Hq Uf hd oZ hdd h6' afI alk aO=>auw rU Yo J h6 H QT Hq Uf hd oZ hdd h6' (λ_ ht _=>XC afI ht) alk aO;(have idle:∀{g':bP} {m':Nat},bQ X.P ah g w=.go g' w #[]->WSit X.P ty X.Wg X.C n IB IB 0 (i+1) v s m' dd g' w->m'+1=m->s≠1->X.CX ty n dU fZ gp dM t0 ks di gs w sl t tag st D τ (X.m0+i):=by intro g' m' H oZ hm h1;exact book H (.refl X.Wg w) dD Xy Xy oZ J h6 (XB (by rw[AQ]) nJ) (λe=>absurd e<|nr h1)<|.inr ⟨J,hm⟩);(have one:∀{s':Nat},s'<=7->Go.ConcN.isW3 tag.c->(∀a,a<n->a≠i->(iE st a).stage=1)->(s'=4\/s'=3\/s'=2)->Go.ConcN.Mode n (iE<|upd st i s') tag.c (if s'=2 then 0 else 1) 0:=by intro s' h7 Ug Hm oZ;rw[aaE h7];have:=Go.ConcN.Mode.last (j:=n) (D:=upd (iE st) i ⟨s',0,0⟩) (tag:=tag.c) i Ug iy (by rw[aQ0];exact oZ) (λa ha e=>by rw[aQ4 _ _ e];exact Hm a ha e);rw[aQ0]at this;exact this);cases hl with|r0 _=>omega|k1 Dw=>(rcases aRa Dw with rF|⟨m',rfl,lK⟩;{have⟨_,g',H,m₂,hk⟩:=rF w<|aRc w;exact book H (.refl X.Wg w) dD (by intro e he;simp at he;subst he;exact .inl J) (λjx e he=>.inl (by have:=au4 he;simp at this;subst this;rfl)) (.d1 hk) J YV (by rw[aaE YV];exact nJ.counted iy (by rw[Ku];omega) (.inr J) 0 0) (λe=>absurd e<|nr YV) (.inl YV)};{obtain⟨g',w',es,H,⟨rfl,rfl⟩,kF⟩:=lK w<|aRc w;exact idle H (.k1 kF) J YV})|d1 Dw=>(rcases aRa Dw with rF|⟨m',rfl,lK⟩;{have⟨_,lT⟩:=rF w<|aRc w;(have oH:cnt (iE st i)=1:=by unfold cnt;rw[if_pos (by rw[Ku];omega)]);(have hV1:1<=Vc n (iE st):=by have:=le_sumTo (f:=λx=>cnt<|iE st x) iy;simp only[Vc];omega);have hVn:=Vc_le n<|iE st;(have bk2:∀e∈#[rd<|stA X.Wg,wr<|stA X.Wg],Bk X.Wg e:=by intro e he;simp at he;rcases he with rfl|rfl<;>exact bk_cell _ _ J);(have Uh:∀jx e,(#[rd<|stA X.Wg,wr<|stA X.Wg]:Array Event)[jx]? =Y e->(MemAct.ofEvent e).touch?=U\/0<deafBehind 1 ((#[rd<|stA X.Wg,wr<|stA X.Wg]:Array Event).extract 0 jx):=by intro jx e he;match jx,he with|0,_=>(exact .inr<|by simp[deafBehind])|1,_=>(exact .inr<|by simp[deafBehind,rd])|jx+2,he=>simp at he);have Yj:=Vc_upd (iE st) (⟨1,0,0⟩:WD) iy;have oJ:cnt (⟨1,0,0⟩:WD)=0:=J;have hwd:iE (upd st i 1)=upd (iE st) i ⟨1,0,0⟩:=aaE YV;(have opq:Go.ConcN.OpenSt n (iE st)->Go.ConcN.OpenSt n (iE<|upd st i 1):=λh a ha=>by rw[hwd];by_cases e:a=i;{subst e;rw[aQ0];simp};rw[aQ4 _ _ e];exact h a ha);generalize Kv:tag.c=ct at nJ;cases nJ with|opn h1 h2 h3=>have⟨vv,hv⟩:∃vv,Vc n (iE st)+Go.ConcN.pend ct=vv+1:=⟨Vc n (iE st)+Go.ConcN.pend ct-1,YV⟩;(have hpd:Go.ConcN.pend ct=0:=by rw[<-Kv];cases tag<;>rfl);rw[hv]at dD;(have l7:WgAt ty X.Wg w (((vv:Nat)+1)*KK+((0:Nat):Int)) 0:=by simpa using dD);have⟨g',H,_,hq⟩:=lT vv 0 YV YV l7;have⟨qq,hq⟩:=hq YV;(have MJ:Vc n (iE<|upd st i 1)+Go.ConcN.pend ct=vv:=by rw[hwd];omega);refine book H (aRe w (stA X.Wg) _) (dD.setSt _) bk2 Uh (.quit hq) J YV ?_ (λe=>absurd e<|nr YV) (.inl YV);(have e:((vv:Nat):Int)*KK+((0:Nat):Int)=((Vc n (iE<|upd st i 1)+Go.ConcN.pend ct:Nat):Int)*KK:=by rw[MJ];simp);rw[e,Kv];exact .opn h1 (opq h2) (λvs ev=>by have:=h3 vs ev;rw[hwd];omega)|reg h1 h2 h3=>(have⟨vv,hv⟩:∃vv,Vc n (iE st)=vv+1:=⟨Vc n (iE st)-1,YV⟩;rw[hv]at dD;(have l7:WgAt ty X.Wg w (((vv:Nat)+1)*KK+((1:Nat):Int)) 0:=by simpa using dD);have⟨g',H,hl,hq⟩:=lT vv 1 YV YV l7;by_cases hv0:vv=0;{subst hv0;have⟨m₂,hk⟩:=hl ⟨J,J⟩;(have Hm:∀a,a<n->a≠i->(iE st a).stage=1:=λa ha e=>by have c0:=others_uncounted iy hv oH a ha e;have:=h2 a ha;unfold cnt at c0;by_cases h5:5<=(iE st a).stage;{rw[if_pos h5]at c0;omega};omega);have:=one (s':=4) YV (by rw[Kv];exact h1) Hm<|.inl J;refine book H (aRe w (stA X.Wg) _) (dD.setSt _) bk2 Uh (.d2 hk) J YV ?_ (λe=>absurd e<|nr YV) (.inl YV);simpa using this};{have⟨qq,hq⟩:=hq YV;(have MJ:Vc n (iE<|upd st i 1)=vv:=by rw[hwd];omega);refine book H (aRe w (stA X.Wg) _) (dD.setSt _) bk2 Uh (.quit hq) J YV ?_ (λe=>absurd e<|nr YV) (.inl YV);(have e:((vv:Nat):Int)*KK+((1:Nat):Int)=((Vc n (iE<|upd st i 1):Nat):Int)*KK+1:=by rw[MJ];simp);rw[e,Kv];exact .reg h1 (opq h2) YV})|last L _ h2 h3 h4=>by_cases e:i=L;{subst e;omega};have:=h4 i iy e;omega|sema h2=>have:=h2 i iy;omega|fin _ h2=>have:=h2 i iy;omega};{obtain⟨g',w',es,H,⟨rfl,rfl⟩,kF⟩:=lK w<|aRc w;exact idle H (.d1 kF) J YV})|d2 Dw=>(rcases aRa Dw with rF|⟨m',rfl,lK⟩;{have⟨_,hx⟩:=rF w<|aRc w;obtain⟨Ug,Hm,rfl,rfl⟩:=nJ.isLast iy (by rw[Ku];omega);have e1:(if(iE st i).stage=2 then(0:Int)else 1)=1:=if_neg (by rw[Ku];omega);rw[e1]at dD;have⟨g',H,m₂,hk⟩:=hx dD;have:=one (s':=3) YV Ug Hm<|.inr<|.inl J;exact book H (.refl X.Wg w) dD (by intro e he;simp at he;subst he;exact bk_cell _ _ J) (by intro jx e he;match jx,he with|0,_=>exact .inr (by simp[deafBehind])|jx+1,he=>simp at he) (.d3 hk) J YV (by simpa using this) (λe=>absurd e<|nr YV)<|.inl YV};{obtain⟨g',w',es,H,⟨rfl,rfl⟩,kF⟩:=lK w<|aRc w;exact idle H (.d2 kF) J YV})|d3 Dw=>(rcases aRa Dw with rF|⟨m',rfl,lK⟩;{have⟨_,hx⟩:=rF w<|aRc w;obtain⟨Ug,Hm,rfl,rfl⟩:=nJ.isLast iy (by rw[Ku];omega);have e1:(if(iE st i).stage=2 then(0:Int)else 1)=1:=if_neg (by rw[Ku];omega);rw[e1]at dD;have⟨g',H,m₂,hk⟩:=hx dD;have:=one (s':=2) YV Ug Hm<|.inr<|.inr J;exact book H (aRe w (stA X.Wg) _) (dD.setSt 0) (by intro e he;simp at he;subst he;exact bk_cell _ _ J) (by intro jx e he;match jx,he with|0,_=>exact .inr (by simp[deafBehind])|jx+1,he=>simp at he) (.d4 hk) J YV (by simpa using this) (λe=>absurd e<|nr YV)<|.inl YV};{obtain⟨g',w',es,H,⟨rfl,rfl⟩,kF⟩:=lK w<|aRc w;exact idle H (.d3 kF) J YV})|d4 Dw=>(rcases aRa Dw with rF|⟨m',rfl,lK⟩;{have⟨_,hmw,hx⟩:=rF w<|aRc w;obtain⟨Ug,Hm,rfl,rfl⟩:=nJ.isLast iy (by rw[Ku];omega);have e1:(if(iE st i).stage=2 then(0:Int)else 1)=0:=if_pos Ku;rw[e1]at dD;have⟨g',H,qq,hq⟩:=hx dD;(have aci:g'.status=.running:=by cases qq with|zero=>(exact absurd hq.2 Xa)|succ qq=>exact hq.e (λx=>absurd x.2 Xa) λx=>x.1);(refine auw rU Yo J h6 H (aRe w (smA X.Wg) _) (dD.setSm 1) (es:=semEvents<|smA X.Wg) ?_ ?_ (.quit hq) (by simp[deafBehind,semEvents]) YV ?_ (λe=>absurd e<|nr YV)<|.inl YV);{intro e he;simp[semEvents]at he;rcases he with rfl|rfl|rfl|rfl;{exact .inl J};{exact bk_cell _ _ J};{exact bk_cell _ _ J};exact .inr<|.inl J};{intro jx e he;match jx,he with|0,he=>simp[semEvents]at he;subst he;exact .inl J|1,_=>(exact .inr<|by simp[deafBehind,semEvents])|2,_=>(exact .inr<|by simp[deafBehind,semEvents])|3,he=>simp[semEvents]at he;subst he;exact .inl J|jx+4,he=>simp[semEvents]at he};intro kP ht hw;have TV:=hw hmw aci;(have e3:kP.c=.w3:=by rcases ht with rfl|⟨_,rfl⟩;{cases kP<;>first|rfl|exact Ug.e|exact absurd J TV};rfl);rw[e3];refine .sema λa ha=>?_;rw[aaE YV];by_cases e:a=i;{subst e;rw[aQ0]};rw[aQ4 _ _ e];exact Hm a ha e};{obtain⟨g',w',es,H,⟨rfl,rfl⟩,kF⟩:=lK w<|aRc w;exact idle H (.d4 kF) J YV})|quit hq=>cases m with|zero=>rw[hq.1]at jU;cases jU|succ qq=>rcases hq with⟨hf,_⟩|⟨_,g',es,auz,lK,hq⟩;{rw[hf]at jU;cases jU};have Uf:∀e∈es,Bk X.Wg e:=λe he=>Go.ConcR.bk_of_mute<|auz e he;have vK:∀jx e,es[jx]? =Y e->(MemAct.ofEvent e).touch?=U\/0<deafBehind dd (es.extract 0 jx):=λjx e he=>.inl<|touch_mute<|auz e<|au4 he;refine book (lK w) (.refl X.Wg w) dD Uf vK (.quit hq) J YV (XB (by rw[AQ]) nJ) (λe=>(h.acq e).app λi' r jC hr=>?_)<|.inr ⟨J,J⟩;by_cases e':i'=i;{subst e';exact hr.book hdk _ _ Uf vK};{exact hr.appOther ofEvents_g YV}
end
end gy
end
section
namespace gy
open Go Go.Conc Twin
open Go.ConcN (upd upd_same upd_ne WgLive PayAt Has RW WSit WD CTag Vc cnt sumTo RelBy cell_of_block bk_cell Vc_le allQuit_of)
open Go.ConcR (stA smA rd wr KK WgAt DC0 Payload Bk)
section
variable[Payload]{K}{X:aT K}{ty n dU fZ gp dM t0 ks gs w w' t tag dW E S0 G Sw q di st D τ sl}
variable{a oD}
theorem aT.Inv2.aqp(aPT:X.Fit)(sK:∀i k,ks[i]? =Y k->∀l S g w,X.Fin k l S g w->∃v,X.GK ty n i v g w/\dM k l v S w)(xq:∀k l v S w w1,dM k l v S w->bg S (X.side k) w w1->dM k l v S w1) (h:X.Inv2 ty n dU fZ gp dM t0 ks gs w t tag dW E S0 G Sw q di st D τ){H}(ha:gs[0]? =Y a){es}(hgo:bQ X.P A a w=.go H w' es){S1 jT} (hb:X.Base t0 ks ((gs.map<|woken X.P a H w').setIfInBounds 0 H) w' (t++MemOp.ofEvents 0 a.frame.fn a.frame.place es) oD.deaf dW E S1 G Sw q)(hm:X.IC ty dU fZ gp E S1 oD jT H w') (kW:∀i k,ks[i]? =Y k->bg (Sw i) (X.side k) w w')(rw_:∀i,RW ty X.Wg X.C n 0 i w w')(ch_:∀b,(b=X.ov\/∃k∈ks,b=X.ch k)->w'.heap[b]? =w.heap[b]?)(pay:PayAt X.C n w')(dD:∃x y,WgAt ty X.Wg w' x y/\Go.ConcN.Mode n (iE st) oD.c x y) (acq:oD=.ret->Ld t0.size X.Wg X.m0 n (t++MemOp.ofEvents 0 a.frame.fn a.frame.place es))(lt:zL n oD st<zL n tag st\/(zL n oD st<=zL n tag st/\T.Bz jT τ)):X.CX ty n dU fZ gp dM t0 ks di gs w sl t tag st D τ 0:=by have tY:=h.base.pos;(have aO:0<gs.size:=Zv);have hr:=aRb (P:=X.P) (sl:=sl) (i:=0) ha hgo;refine⟨_,w',_,oD,dW,E,S1,G,Sw,q,st,D,jT,hr,⟨hb,h.len,h.Tc,Zv,λi k hk=>?_,h.old,λκ qM=>?_,?_,dD,pay,λi hi eF=>?_,acq⟩,Zv⟩;{have⟨x,hx,hs⟩:=h.work i k hk;have eF:=hs.status aPT λS g w y=>let ⟨_,z,_⟩:=sK i k hk _ S g w y;z.run;refine⟨x,?_,hs.rely xq (kW i k hk)<|rw_ i⟩;rw[BZ YV,Jc,hx];simp;unfold Go.Conc.woken;split;{exact again_running _ Zv};rfl};{have⟨s',r',hc⟩:=h.Ak κ qM;grind};{have⟨cap,s',r',hc⟩:=h.over;grind};have⟨r,hr,hb⟩:=h.rel i hi eF;exact⟨r,hr.appOther ofEvents_g YV,hb⟩
theorem aDb(h:oD.phi n (Vc n<|iE st)<tag.phi n (Vc n<|iE st)):zL n oD st<zL n tag st:=by unfold zL;omega
theorem NW(a)(h:a.block=X.Wg)(wr):X.XA ⟨.cell a,wr,A⟩:=.inr Zv
theorem aT.Inv2.ai0(aPT:X.Fit)(sK:∀i k,ks[i]? =Y k->∀l S g w,X.Fin k l S g w->∃v,X.GK ty n i v g w/\dM k l v S w)(xq:∀k l v S w w1,dM k l v S w->bg S (X.side k) w w1->dM k l v S w1)(hn:n<2147483648)
 (QU:∀g w,fZ g w->WgLive ty X.Wg w->∃m,Goes X.P A (RL ty X.Wg) DC0 (X.AtW1 ty dU fZ) m g w)
 (h:X.Inv2 ty n dU fZ gp dM t0 ks gs w t tag dW E S0 G Sw q di st D τ)(ha:gs[0]? =Y a)(jU:a.status=.running):X.CX ty n dU fZ gp dM t0 ks di gs w sl t tag st D τ 0\/(tag=.ret/\a=dU/\∀w1,bg S0 E w w1->gp S0 w1):=by
 have tY:=h.base.pos;have⟨wa,wb,dD,nJ⟩:=h.wg;have auA:WgLive ty X.Wg w:=⟨_,_,dD⟩;have hVn:=Vc_le n<|iE st;have⟨a',ha',hm⟩:=h.main;rw[ha]at ha';cases ha';have hCW:=Ne.s h.base.ku.1;have refl:RL ty X.Wg w w:=id;have iW:∀{a':bP} {w2:ae} {es:Array Event} {oD:kU} {f:Nat} {x y:Int},bQ X.P A a w=.go a' w2 es->Conc.Aside X.Wg w w2->WgAt ty X.Wg w2 x y->(∀e∈es,X.XA e)->deafBehind tag.deaf es=oD.deaf->X.Ap ty dU fZ oD f a' w2->(∀w1,bg S0 E w w1->gp S0 w1)->
  Go.ConcN.Mode n (iE st) oD.c x y->(oD=.ret->Ld t0.size X.Wg X.m0 n (t++MemOp.ofEvents 0 a.frame.fn a.frame.place es))->(oD.phi n (Vc n<|iE st)<tag.phi n (Vc n<|iE st)\/(oD.phi n (Vc n<|iE st)<=tag.phi n (Vc n<|iE st)/\T.Bz (T.nat f) τ))->X.CX ty n dU fZ gp dM t0 ks di gs w sl t tag st D τ 0:=by
  intro a' w2 es oD f x y H hA Hq pO hd hcs oW afI auB aO;have⟨k0,kW⟩:=h.base.aside (.inl J) h.Tc hA;refine h.aqp aPT sK xq ha H (S1:=S0) (jT:=T.nat f) ?_ (.iW hcs λw1 k=>oW w1<|k0.t k) kW (λi=>RW.of_wg hA ⟨_,_,Hq⟩ hCW) (λb hb=>hA.block b ?_) (aes (hA.block X.C hCW) h.pay) Zv auB<|aO.imp aDb λz=>⟨by unfold zL;omega,z.2⟩
  ·have:=h.base.iW (gs':=(gs.map<|woken X.P a a' w2).setIfInBounds 0 a') (fn:=a.frame.fn) (pos:=a.frame.place) (aiV h.base.uI hA) hA.size pO Xy<|h.base.PV a a' w2 a'<|.inl J;grind
  ·rcases hb with rfl|⟨κ,qM,rfl⟩
   ·exact Ne.s h.base.ku.2.1
   ·exact(h.base.ku.2.2.2.1 κ qM).1
 cases hm with
 | @pre σ _ _ hT=>
   left;cases σ with
   |step f=>
    have⟨a',w2,es,H,hG,Ho⟩:=hT.2 w<|bg.refl _ _ _;have⟨kW,kS⟩:=h.base.aqg hG;have I8:=kS X.Wg<|.inl J;have ML:=kS X.C<|.inr<|.inl J;exact h.aqp aPT sK xq ha H (oD:=.pre) (S1:=grow S0 w w2) (jT:=(f w).more) (h.base.step0 hG Xy<|h.base.PV a a' w2 a'<|.inl J) (.pre Ho) kW (λi=>aqm I8 ML i) (λb hb=>kS b<|hb.e (λe=>.inr YV) λe=>.inr Zv) (aes ML h.pay) ⟨wa,wb,dD.of_block I8,nJ⟩ Xy<|.inr ⟨fC _,.one<|T.aar<|.mk f w⟩
   |stop=>
    have⟨⟨_,hkd⟩,_⟩:=hT w<|bg.refl _ _ _;have⟨a',H,m,hg⟩:=hkd auA;exact iW H (.refl X.Wg w) dD (by intro e he;simp at he;subst he;exact .inl J) (oD:=.anch) J (.anch hg) (λw1 k=>(hT w1 k).2) (nJ.reopen trivial trivial J<|by simp[kU.c]) Xy (by simp only[kU.phi];omega)
 | @iW _ f _ _ hcs oW=>
   have idle:∀{a':bP} {f':Nat},bQ X.P A a w=.go a' w #[]->X.Ap ty dU fZ tag f' a' w->f=f'+1->(tag=.ret->Ld t0.size X.Wg X.m0 n t)->X.CX ty n dU fZ gp dM t0 ks di gs w sl t tag st D (T.nat f) 0:=by
    intro a' f' H alm hf auB;subst hf;exact iW H (.refl X.Wg w) dD Xy J alm oW nJ (λe=>by rw[aRY];grind)<|.inr ⟨fC _,.one<|T.PQ f'⟩
   have w1s:∀{m:Nat} {aqs:kU},aqs=.w1->Goes X.P A (RL ty X.Wg) DC0 (X.AtW1 ty dU fZ) m a w->Go.ConcN.Mode n (iE st) .w1 wa wb->tag.deaf=1->(kU.phi n (Vc n<|iE st) .w1<tag.phi n (Vc n<|iE st)\/(tag=.w1/\f=m))->X.CX ty n dU fZ gp dM t0 ks di gs w sl t tag st D (T.nat f) 0:=by
    intro m aqs _ hg hmd hdf hph;obtain⟨ho,rfl,rfl,_⟩:=hmd.open_inv trivial;rcases aRa hg with rF|⟨m',rfl,lK⟩
    ·have⟨_,lT⟩:=rF w refl;have⟨a',H,h0,fE⟩:=lT (Vc n<|iE st) YV (by simpa[Go.ConcN.pend]using dD);have hp:kU.phi n (Vc n<|iE st) .w1<=tag.phi n (Vc n<|iE st):=Zv
     by_cases hv:Vc n (iE st)=0
     ·have⟨m₂,hk⟩:=h0 hv;have e:((Vc n (iE st)+Go.ConcN.pend .w1:Nat):Int)*KK=0:=by rw[hv];simp[Go.ConcN.pend]
      refine iW H (.refl X.Wg w) dD (by intro e he;simp at he;subst he;exact NW _ J _) (oD:=.ke) (by rw[hdf];rfl) (.ke hk) oW ?_ Xy (by simp only[kU.phi]at hp⊢;omega);rw[e];exact .fin trivial<|allQuit_of ho hv
     ·have⟨m₂,hk⟩:=fE hv;exact iW H (.refl X.Wg w) dD (by intro e he;simp at he;subst he;exact NW _ J _) (oD:=.w2<|Vc n<|iE st) (by rw[hdf];rfl) (.w2 hk) oW (hmd.reopen trivial trivial J (λvs e=>by cases e;omega)) Xy (by simp only[kU.phi]at hp⊢;omega)
    ·obtain⟨a',w2,es,H,⟨rfl,rfl⟩,kF⟩:=lK w refl;apply iW H (.refl X.Wg w2) dD Xy (oD:=.w1) (by rw[hdf];rfl) (.w1 kF) oW hmd Xy;rcases hph with h|⟨rfl,rfl⟩
     ·omega
     ·exact .inr ⟨fC _,.one<|T.PQ m'⟩
   cases hcs with
   |anch hg=>
    left;rcases aRa hg with rF|⟨m',rfl,lK⟩
    ·have⟨m,AP⟩:=QU a w (rF w refl) auA;exact w1s J AP (nJ.reopen trivial trivial J Xy) J (by simp only[kU.phi];omega)
    ·obtain⟨a',w2,es,H,⟨rfl,rfl⟩,kF⟩:=lK w refl;exact idle H (.anch kF) J Xy
   |w1 hg=>exact .inl<|w1s J hg nJ J Zv
   | @w2 _ _ _ vs hg=>
     left;rcases aRa hg with rF|⟨m',rfl,lK⟩
     ·have⟨_,lT⟩:=rF w refl;obtain⟨ho,rfl,rfl,hvs⟩:=nJ.open_inv trivial;have⟨bV,jo⟩:=hvs vs J;have l7:WgAt ty X.Wg w ((Vc n (iE st):Nat)*KK) 0:=by simpa[Go.ConcN.pend,kU.c]using dD
      have⟨aKF,aKG⟩:=lT (Vc n<|iE st) YV l7;by_cases e:Vc n (iE st)=vs
      ·have⟨a',H,m₂,hk⟩:=aKF e;refine iW H (aRe w (stA X.Wg) _) (l7.setSt _) (by intro e he;simp at he;rcases he with rfl|rfl<;>exact NW _ J _) (oD:=.wr) J (.wr hk) oW ?_ Xy (by simp only[kU.phi];omega);exact .reg trivial ho YV
      ·have⟨a',H,m₂,hk⟩:=aKG e;exact iW H (.refl X.Wg w) dD (by intro e he;simp at he;subst he;exact NW _ J _) (oD:=.anch) J (.anch hk) oW (nJ.reopen trivial trivial J<|by simp[kU.c]) Xy (by simp only[kU.phi];omega)
     ·obtain⟨a',w2,es,H,⟨rfl,rfl⟩,kF⟩:=lK w refl;exact idle H (.w2 kF) J Xy
   |wr hg=>
    left;rcases aRa hg with rF|⟨m',rfl,lK⟩
    ·have⟨_,a',H,m₂,hk⟩:=rF w refl;exact iW H (.refl X.Wg w) dD (by intro e he;simp at he;subst he;exact .inr<|.inr<|.inr<|.inl ⟨_,J,J⟩) (oD:=.w3) J (.w3 hk) oW nJ Xy (by simp only[kU.phi];omega)
    ·obtain⟨a',w2,es,H,⟨rfl,rfl⟩,kF⟩:=lK w refl;exact idle H (.wr kF) J Xy
   | @w3 m _ _ hg=>
     left;rcases aRa hg with rF|⟨m',rfl,lK⟩
     ·have⟨_,aKw,aDd,atW⟩:=rF w refl;have blk:wb=0->Go.ConcN.Mode n (iE st) .blk wa wb->X.CX ty n dU fZ gp dM t0 ks di gs w sl t .w3 st D (T.nat<|m+1) 0:=by
       intro h0 Hr;subst h0;exact iW (aDd ⟨_,dD⟩) (.refl X.Wg w) dD Xy (oD:=.blk) J (.blk rF) oW Hr Xy<|.inr ⟨fC _,T.aqi m⟩
      generalize Kv:kU.c .w3=ct at nJ;cases nJ with
      |opn h1 _ _=>rw[<-Kv]at h1;exact h1.e
      |reg h1 h2 h3=>exact blk J<|.reg trivial h2 h3
      |last L h1 h2 h3 h4=>exact blk J<|.last L trivial h2 h3 h4
      |sema h2=>
       have⟨a',H,m₂,hk⟩:=atW dD;refine iW H (aRe w (smA X.Wg) _) (dD.setSm 0) (es:=semEvents<|smA X.Wg) ?_ (oD:=.w4) (by simp[kU.deaf,deafBehind,semEvents]) (.w4 hk) oW (.fin trivial h2) Xy (by simp only[kU.phi];omega);intro e he;simp[semEvents]at he;rcases he with rfl|rfl|rfl|rfl
       ·exact .inl J
       ·exact NW _ J _
       ·exact NW _ J _
       ·exact .inr<|.inl J
      |fin h1 _=>rw[<-Kv]at h1;exact h1.e
     ·obtain⟨a',w2,es,H,⟨rfl,rfl⟩,kF⟩:=lK w refl;exact idle H (.w3 kF) J Xy
   |blk _=>grind
   |w4 hg=>
    left;obtain⟨hq,rfl,rfl⟩:=nJ.fin_inv trivial;rcases aRa hg with rF|⟨m',rfl,lK⟩
    ·have⟨_,hx⟩:=rF w refl;have⟨a',H,m₂,hk⟩:=hx dD;exact iW H (.refl X.Wg w) dD (by intro e he;simp at he;subst he;exact NW _ J _) (oD:=.ke) J (.ke hk) oW (.fin trivial hq) Xy (by simp only[kU.phi];omega)
    ·obtain⟨a',w2,es,H,⟨rfl,rfl⟩,kF⟩:=lK w refl;exact idle H (.w4 kF) J Xy
   |ke hg=>
    left;obtain⟨hq,rfl,rfl⟩:=nJ.fin_inv trivial;rcases aRa hg with rF|⟨m',rfl,lK⟩
    ·have⟨_,a',H,m₂,hk⟩:=rF w refl;exact iW H (.refl X.Wg w) dD (by intro e he;simp at he;subst he;exact .inr<|.inl J) (oD:=.acq) J (.acq hk) oW (.fin trivial hq) Xy (by simp only[kU.phi];omega)
    ·obtain⟨a',w2,es,H,⟨rfl,rfl⟩,kF⟩:=lK w refl;exact idle H (.ke kF) J Xy
   |acq hg=>
    left;obtain⟨hq,rfl,rfl⟩:=nJ.fin_inv trivial;rcases aRa hg with rF|⟨m',rfl,lK⟩
    ·have⟨_,a',H,m₂,hk⟩:=rF w refl;refine iW H (.refl X.Wg w) dD (by intro e he;simp at he;subst he;exact .inr<|.inr<|.inr<|.inr<|.inr ⟨_,J,J⟩) (oD:=.ret) J (.ret hk) oW (.fin trivial hq) (λ_=>?_) (by simp only[kU.phi];omega);have e1:MemOp.ofEvents 0 a.frame.fn a.frame.place #[Go.ConcR.mk<|.acquire<|stA X.Wg]=#[{g:=0,fn:=a.frame.fn,pos:=a.frame.place,act:=.mark<|.acquire<|stA X.Wg}]:=by rw[aRY];simp[Go.ConcR.ofEvent_mk]
     rw[e1];have hy:(t++ #[({g:=0,fn:=a.frame.fn,pos:=a.frame.place,act:=.mark<|.acquire<|stA X.Wg}:MemOp)])[t.size]? =Y {g:=0,fn:=a.frame.fn,pos:=a.frame.place,act:=.mark<|.acquire<|stA X.Wg}:=Xy
     refine⟨t.size,by rw[act?_of hy],by simp[Trace.g?],⟨0,by simp[Trace.g?],by rw[deaf_old YV];exact h.base.deaf0⟩,λi hi=>?_⟩;have h1:=hq i hi;have BK:st i<=6:=by
      have:min (st i) 7=1:=h1;omega
     have⟨r,hr,hb⟩:=h.rel i hi BK;exact⟨r,hr.appOther (x:=0) Zv YV,lt_of_act? hr.rel.act,hb⟩
    ·obtain⟨a',w2,es,H,⟨rfl,rfl⟩,kF⟩:=lK w refl;exact idle H (.acq kF) J Xy
   |ret hg=>
    rcases aRa hg with rF|⟨m',rfl,lK⟩
    ·exact .inr ⟨J,rF w refl,oW⟩
    ·left;obtain⟨a',w2,es,H,⟨rfl,rfl⟩,kF⟩:=lK w refl;exact idle H (.ret kF) J h.acq
end
end gy
end
section
namespace gy
open Go Go.Conc Twin
open Go.ConcN (upd upd_same upd_ne WgLive PayAt Has RW WSit WD CTag Vc cnt sumTo RelBy exists_counted)
open Go.ConcR (stA smA rd wr KK WgAt DC0 Payload Bk)
section
variable[Payload]{K}{X:aT K}{ty n dU fZ gp dM t0 ks gs w t tag dW E S0 G Sw q di st D τ sl}
theorem aT.Inv2.ai1(aPT:X.Fit)(hA:∀g w,fZ g w->g.status=.running)(hE:dU.status=.running)(sK:∀i k,ks[i]? =Y k->∀l S g w,X.Fin k l S g w->∃v,X.GK ty n i v g w/\dM k l v S w) (h:X.Inv2 ty n dU fZ gp dM t0 ks gs w t tag dW E S0 G Sw q di st D τ){i g}(h0:0<i)(hi:i<X.m0)(hg:gs[i]? =Y g)(jU:g.status=.running):X.CX ty n dU fZ gp dM t0 ks di gs w sl t tag st D τ i:=by have hq:=h.base.old i g h0 hi hg;have aO:i<gs.size:=Zv;(have vJ:(i==0)=false:=Zv);cases Dk:q i with|zero=>rw[Dk]at hq;rw[hq.1]at jU;grind|succ m=>rw[Dk]at hq;rcases hq with⟨hf,_⟩|⟨_,g',es,hm,eF,AO⟩;{grind};have hr:=aRb (P:=X.P) (sl:=sl) (i:=i) hg (by rw[vJ];exact eF w);have hb:=h.base.leave (fn:=g.frame.fn) (pos:=g.frame.place) h0 hi hm AO g g' w;have⟨a,ha,hmn⟩:=h.main;have⟨kP,vC,Fq,aKx,_⟩:=hmn.woken hA hE (bg.refl S0 E w) id g g';have NV:kP=tag\/(tag=.blk/\kP=.w3):=Zv;(have aKy:kP.deaf=tag.deaf:=by rcases NV with rfl|⟨rfl,rfl⟩<;>rfl);(have sil:∀op∈MemOp.ofEvents i g.frame.fn g.frame.place es,op.act.touch?=none:=λop bu=>by obtain⟨e,he,rfl⟩:=aQR bu;exact touch_mute<|hm e he);have⟨wa,wb,dD,nJ⟩:=h.wg;refine⟨_,w,_,kP,dW,E,S0,G,Sw,upd q i m,st,upd D i<|T.nat m,vC,hr,⟨Zv,h.len,h.Tc,Zv,λH k' gI=>?_,λj j0 j1=>?_,h.Ak,h.over,⟨wa,wb,dD,XC nJ NV⟩,h.pay,λH jC h6=>let ⟨r,hr,hb⟩:=h.rel H jC h6;⟨r,hr.Bv sil,hb⟩,λe=>?_⟩,.inr ⟨?_,.inl ⟨i,aO,?_,λj hj=>aQ4 _ _ hj⟩⟩⟩;{have⟨x,hx,hs⟩:=h.work H k' gI;have eF:=hs.status aPT λS g w y=>let ⟨_,z,_⟩:=sK H k' gI _ S g w y;z.run;refine⟨x,?_,by rw[aQ4 D _ YV];exact hs⟩;rw[BZ YV,Jc,hx];simp;unfold Go.Conc.woken;split;{exact again_running _ Zv};rfl};{by_cases e:j=i;{subst e;rw[aQ0,aQ0]};rw[aQ4 D _ e,aQ4 q _ e];exact h.old j j0 j1};{rcases NV with rfl|⟨_,rfl⟩;{exact(h.acq e).app λH r _ hr=>hr.Bv sil};grind};{rcases NV with rfl|⟨rfl,rfl⟩<;>exact fC _};rw[aQ0,h.old i h0 hi,Dk];exact T.PQ m
theorem aT.Inv2.awake(aPT:X.Fit)(hA:∀g w,fZ g w->g.status=.running)(hE:dU.status=.running)(sK:∀i k,ks[i]? =Y k->∀l S g w,X.Fin k l S g w->∃v,X.GK ty n i v g w/\dM k l v S w) (h:X.Inv2 ty n dU fZ gp dM t0 ks gs w t tag dW E S0 G Sw q di st D τ):∀g∈gs,awake g:=by intro g hg;have⟨j,hj⟩:=au3.1 hg;rcases h.base.Lc hj with rfl|⟨h1,h2⟩|⟨i,k,rfl,hk⟩;{have⟨a,ha,hm⟩:=h.main;rw[hj]at ha;cases ha;rcases hm.status hA hE with⟨H,_⟩|⟨_,g0,rfl,_⟩;{exact awake_of H};{exact awake_of Zv}};{exact awake_of<|(h.base.old j g h1 h2 hj).status.e .inl Zv};have⟨y,hy,H⟩:=h.work i k hk;rw[hj]at hy;cases hy;rcases H.status aPT λS g w y=>let ⟨_,z,_⟩:=sK i k hk _ S g w y;z.run with H|H;{exact awake_of H};{exact awake_of Zv}
theorem aT.Inv2.ai2(aPT:X.Fit)(hA:∀g w,fZ g w->g.status=.running)(hE:dU.status=.running)(sK:∀i k,ks[i]? =Y k->∀l S g w,X.Fin k l S g w->∃v,X.GK ty n i v g w/\dM k l v S w) (h:X.Inv2 ty n dU fZ gp dM t0 ks gs w t tag dW E S0 G Sw q di st D τ):∃(i:Nat) (g:bP),gs[i]? =g/\g.status=.running:=by have⟨a,ha,hm⟩:=h.main;(have wk:∀i,i<n->st i≠1->∃(i:Nat) (g:bP),gs[i]? =g/\g.status=.running:=by intro i hi fE;have hk:ks[i]? =(ks[i]'(h.len.s▸hi)):=Zv;have⟨y,hy,hs⟩:=h.work i _ hk;rcases hs.status aPT λS g w y=>let ⟨_,z,_⟩:=sK i _ hk _ S g w y;z.run with hs|⟨_,hs⟩;{grind};omega);rcases hm.status hA hE with⟨hs,_⟩|⟨rfl,_⟩;{grind};{have⟨wa,wb,_,nJ⟩:=h.wg;generalize Kv:kU.c .blk=ct at nJ;cases nJ with|opn H _ _=>rw[<-Kv]at H;exact H.e|reg _ _ h3=>have⟨i,hi,h5⟩:=exists_counted h3;exact wk i hi (by have:5<=min (st i) 7:=h5;omega)|last L _ h2 h3 _=>exact wk L h2 (by have:min (st L) 7=4\/min (st L) 7=3\/min (st L) 7=2:=h3;omega)|sema _=>cases Kv|fin H _=>rw[<-Kv]at H;exact H.e}
theorem aT.aDe(H:X.Fit)(aaD:∀k l v S w,dM k l v S w->∀B,(∀b,B.dI b->¬S b)->aK B v)(hA:∀g w,fZ g w->g.status=.running)(hE:dU.status=.running)(sK:∀i k,ks[i]? =Y k->∀l S g w,X.Fin k l S g w->∃v,X.GK ty n i v g w/\dM k l v S w)(xq:∀k l v S w w1,dM k l v S w->bg S (X.side k) w w1->dM k l v S w1)(hn:n<2147483648) (QU:∀g w,fZ g w->WgLive ty X.Wg w->∃m,Goes X.P A (RL ty X.Wg) DC0 (X.AtW1 ty dU fZ) m g w)(N):∀aPS D τ {gs:Array bP} {w:ae} {sl:Option (Nat×Nat)} {t:Trace} {tag:kU} {dW:Nat->Nat} {E:dP} {S0 G:aS} {Sw:Nat->aS} {q:Nat->Nat} {st:Nat->Nat},zL n tag st<=aPS->gs.size=N->X.Inv2 ty n dU fZ gp dM t0 ks gs w t tag dW E S0 G Sw q di st D τ->∃aPV gs1 w1 pR t1 PW E1 S1 G1 Am q1 Kt D1 jT,runNT X.P aPV (crowd gs w sl) t=(.next<|crowd gs1 w1 pR,t1)/\X.Inv2 ty n dU fZ gp dM t0 ks gs1 w1 t1 .ret PW E1 S1 G1 Am q1 di Kt D1 jT/\gs1[0]? =dU/\gp S1 w1:=by refine aC1 N ?_;intro aPS D τ ihA ihV aQk gs w sl t tag dW E S0 G Sw q st hAr hN h;have⟨i,g,dd,sl',hi,hg,eF⟩:=aRT (P:=X.P) (w:=w) (sl:=sl) (h.awake H hA hE sK)<|h.ai2 H hA hE sK;have h':=h.at xq dd;(have key:X.CX ty n dU fZ gp dM t0 ks di gs (w.at dd) sl' t tag st D τ i->∃aPV gs1 w1 pR t1 PW E1 S1 G1 Am q1 Kt D1 jT,runNT X.P aPV (crowd gs w sl) t=(.next<|crowd gs1 w1 pR,t1)/\X.Inv2 ty n dU fZ gp dM t0 ks gs1 w1 t1 .ret PW E1 S1 G1 Am q1 di Kt D1 jT/\gs1[0]? =dU/\gp S1 w1:=by rintro⟨gs1,w1,ops,oD,PW,E1,S1,G1,Am,q1,Kt,D1,jT,hr,hI,aO⟩;(have gV:gs1.size=N:=by rw[hI.base.size,<-hN,h.base.size]);(have fin:(∃aPV qO w2 qj t2 dW2 E2 S2 G2 SY q2 st2 D2 JI,runNT X.P aPV (crowd gs1 w1 sl') (t++ops)=(.next<|crowd qO w2 qj,t2)/\X.Inv2 ty n dU fZ gp dM t0 ks qO w2 t2 .ret dW2 E2 S2 G2 SY q2 di st2 D2 JI/\qO[0]? =dU/\gp S2 w2)->∃aPV gs1 w1 pR t1 PW E1 S1 G1 Am q1 Kt D1 jT,runNT X.P aPV (crowd gs w sl) t=(.next<|crowd gs1 w1 pR,t1)/\X.Inv2 ty n dU fZ gp dM t0 ks gs1 w1 t1 .ret PW E1 S1 G1 Am q1 di Kt D1 jT/\gs1[0]? =dU/\gp S1 w1:=by rintro⟨aPV,qO,w2,qj,t2,dW2,E2,S2,G2,SY,q2,st2,D2,JI,r1,r2,r3,r4⟩;refine⟨aPV+1,qO,w2,qj,t2,dW2,E2,S2,G2,SY,q2,st2,D2,JI,?_,r2,r3,r4⟩;simp only[runNT,eF,hr];exact r1);rcases aO with hl|⟨hl,hv|⟨rfl,Iz⟩⟩;{exact fin<|ihA (zL n oD Kt) D1 jT YV (sl:=sl') YV gV hI};{exact fin<|ihV D1 jT (hN▸hv) (sl:=sl') YV gV hI};exact fin<|aQk jT Iz (sl:=sl') YV gV hI);rcases h'.base.Lc hi with rfl|⟨h1,h2⟩|⟨i,k,rfl,hk⟩;{rcases h'.ai0 (sl:=sl') H sK xq hn QU hi hg with hx|⟨rfl,rfl,hM⟩;{grind};exact⟨0,gs,w,sl,t,dW,E,S0,G,Sw,q,st,D,τ,J,h,hi,hM w<|bg.at S0 E (w.at dd) w.drawn⟩};{exact key<|h'.ai1 H hA hE sK h1 h2 hi hg};by_cases h8:8<=st i;{exact key<|h'.aC5 H aaD hA hE sK xq hk hi h8};exact key<|h'.aC8 H hA hE sK xq hn hk hi YV hg
theorem aT.Inv2.done{B0}(hP:Past (qg X.jF) B0 t0)(h:X.Inv2 ty n dU fZ gp dM t0 ks gs w t .ret dW E S0 G Sw q di st D τ):(∃q',Leavers X.P t gs q')/\Past (qg λb=>X.jF b\/b=X.Wg) w t/\∀i k,ks[i]? =Y k->∃v,dM k (di i) v (Sw i) w/\Has X.C i v w:=by
 have⟨wa,wb,dD,nJ⟩:=h.wg;obtain⟨hq,rfl,rfl⟩:=nJ.fin_inv trivial;have eF:∀i,i<n->st i=1:=λi hi=>by have:min (st i) 7=1:=hq i hi;omega
 have hw:∀i k,ks[i]? =Y k->∃g,gs[X.m0+i]? =Y g/\∃v m,QuitsD X.P m (dW i) g/\dM k (di i) v (Sw i) w/\Has X.C i v w:=by intro i k hk;have hi:i<n:=h.len▸Zv;have⟨g,hg,hs⟩:=h.work i k hk;refine⟨g,hg,?_⟩;rw[eF i hi]at hs;generalize hd:dW i=dd at hs;generalize hDi:D (X.m0+i)=σ at hs;generalize h1:(1:Nat)=s1 at hs;cases hs with|run=>omega|S9=>omega|fin=>omega|done=>omega| @iW v _ m _ _ _ hl h6 hr hh=>cases hl with|quit hq=>grind|_=>omega
 refine⟨?_,?_,Zv⟩;{(have:∀i,∃m,∀g,0<i->gs[i]? =Y g->QuitsD X.P m (Deaf t i) g:=by intro i;by_cases h0:0<i;{cases hg:gs[i]? with|none=>simp_all|some g=>rcases h.base.Lc hg with rfl|⟨h1,h2⟩|⟨j,k,rfl,hk⟩;{omega};{exact⟨q i,λg' _ e=>by cases e;exact h.base.old i g h1 h2 hg⟩};have⟨g',kF,v,m,hq,_⟩:=hw j k hk;rw[hg]at kF;cases kF;exact⟨m,λg' _ e=>by cases e;rw[h.base.deafW j Zv];exact hq⟩};simp_all);have⟨q',AO⟩:=Yu this;exact⟨q',YV,h.base.above⟩};have⟨qq,ha,QJ,hh,lT⟩:=h.acq J;have⟨u,hu,auC⟩:=h.base.base;have alf:∀l,qg X.jF l->qg (λb=>X.jF b\/b=X.Wg) l:=λl hl=>qg.z Zv hl;(have before:∀i k r,Aq X.Wg t k r->r<qq->t0.size<=r->i<=r->t.g? i=k->HappensBefore t i qq:=by intro i k r hr hrq iM hir Ui;have edge:HappensBefore t r qq:=.single (.inr ⟨.marked hrq hr.rel.act ha (λk h1 _=>h.base.norel k YV),hr.rel.heard,hh⟩);rcases YA i r with aO|LY;{exact .trans (.single<|.inl ⟨aO,k,Ui,hr.rel.g⟩) edge};grind);have⟨z,hz,hzg⟩:=EC.1 QJ;refine⟨h.base.ti.clean,λi a hta xA=>?_,λi g Ui fE hc=>?_,h.base.deaf0,h.base.seen⟩;{have⟨op,H,Ey⟩:=aRq hta;rw[hu]at H;rcases aQ5 H with⟨aO,afF⟩|⟨_,GX⟩;{rcases hP.known i a (by rw[aRH afF];exact Ey) xA with hk|⟨hs,hk⟩;{left;rw[hu];exact hk.app u};grind};rw[<-hu]at H;rcases auC op GX Zv with h0|⟨j,hj,hgj⟩;{left;have:=knows_own H;grind};have⟨r,hr,hrq,iM⟩:=lT j<|h.len▸hj;(have Ui:t.g? i=(X.m0+j):=by simp[Trace.g?,H,hgj]);rcases YA r i with aO|LY;{have⟨⟨ad,h1,h2⟩,h3⟩:=hr.a i aO Ui a hta;right;rw[h1];exact⟨.inr h2,h3⟩};exact .inl ⟨qq,z,hz,hzg,.inr Zv⟩};have⟨x,hx,xC⟩:=hc;have hta:=hx;have⟨op,H,Ey⟩:=aRq hta;have aKK:=H;rw[hu]at H;rcases aQ5 H with⟨aO,afF⟩|⟨_,GX⟩;{have⟨j,hj,hb⟩:=hP.over i g (by rw[hu,aR0 aO]at Ui;exact Ui) fE ((counts_old (u:=u) aO).1 (by rw[<-hu];exact⟨x,hx,xC⟩));(have Dj:j<t0.size:=by have⟨y,hy,_⟩:=EC.1 hj;grind);exact⟨j,by rw[hu,aR0 Dj];exact hj,by rw[hu];exact hb_app u hb⟩};(have aMW:op.g=g:=by simpa[Trace.g?,aKK]using Ui);rcases auC op GX Zv with h0|⟨j,hj,hgj⟩;{omega};have⟨r,hr,hrq,iM⟩:=lT j<|h.len▸hj;(have aKL:t.g? i=(X.m0+j):=Zv);have hle:=Nat.le_of_not_lt λaO=>hr.rel.after i aO aKL ⟨x,hx,xC⟩;grind
end
end gy
end
section
namespace gy
open Go Go.Conc Twin
open Go.ConcN (upd upd_same upd_ne WgLive PayAt Has RW WSit WD CTag Vc cnt sumTo)
open Go.ConcR (stA smA rd wr KK WgAt DC0 Payload Bk)
section
variable[Payload]{K}(X:aT K)(ty:dB)(n:Nat)(fZ:bP->ae->Prop)(gp:aS->ae->Prop)(dM:K->List ai->ai->aS->ae->Prop)(Good:List K->Prop)
structure aT.AtClose(ks:List K)(E:dP)(S:aS)(g:bP)(w:ae):Prop where
 len:O ks=n
 F9:Good ks
 wg:WgAt ty X.Wg w (n*KK) 0
 aDf:mayWake X.P g=A
 fin:∀(i:Nat) (k:K),ks[i]? =Y k->∀l S g w,X.Fin k l S g w->∃v,X.GK ty n i v g w/\dM k l v S w
 close:∃(g':bP) (E2:dP),g'.status=.running/\(∀b,E2.ro b->E.ro b/\b≠X.Wg)/\(∀b,E2.rd b->E.rd b)/\∀cap s r,w.heap[X.ov]? =Y (.chan cap #[] ah s r ah)->
  bQ X.P A g w=.go g' {w with heap:=w.heap.setIfInBounds X.ov<|.chan cap #[] A s r ah} #[⟨.obj X.ov,ah,A⟩,⟨.obj X.ov,A,A⟩]/\
  az X.P A E2 (λS g w=>X.AtKd ty fZ g w/\gp S w) S g' {w with heap:=w.heap.setIfInBounds X.ov<|.chan cap #[] A s r ah}
end
section
variable[Payload]{K}{X:aT K}{ty n dU fZ gp dM Good t0 ks gs w t E S0 G Sw q di D τ sl o}
theorem aqu:∀n,Vc n (iE λ_=>9)=n|0=>J|n+1=>by have:=aqu n;unfold Vc at*;simp only[sumTo,this];rfl
theorem aT.Inv1.close{End}(aPT:X.Fit)(h:X.Inv1 End o t0 [] ks gs w t 0 E S0 G Sw q di D τ)(MM:∃cs,o=Y (.cells cs Payload.ety)/\cs.size=n){a}(ha:gs[0]? =Y a)(hc:X.AtClose ty n fZ gp dM Good ks E S0 a w):
 ∃gs1 w1 ops E1 D1 jT,runT X.P (crowd gs w sl) 0=(.next<|crowd gs1 w1 sl,ops)/\gs1.size=gs.size/\X.Inv2 ty n dU fZ gp dM t0 ks gs1 w1 (t++ops) .pre (λ_=>0) E1 S0 G Sw q di (λ_=>9) D1 jT:=by
 have tY:=h.base.pos;have aO:0<gs.size:=by rw[h.base.size];omega
 have⟨cap,s,r,ho⟩:=h.over;have⟨a',E2,jU,OC,hE2,lK⟩:=hc.close;have⟨hgo,hR⟩:=lK cap s r ho;have uX:X.ov<w:=Zv;have hr:=aRb (P:=X.P) (sl:=sl) (i:=0) ha hgo;have gV:({w with heap:=w.heap.setIfInBounds X.ov<|.chan cap #[] A s r ah}:ae).heap.size=w:=Xy
 have Ot:∀b,b≠X.ov->({w with heap:=w.heap.setIfInBounds X.ov<|.chan cap #[] A s r ah}:ae).heap[b]? =w.heap[b]? :=Zv;have auE:({w with heap:=w.heap.setIfInBounds X.ov<|.chan cap #[] A s r ah}:ae).heap[X.ov]? =Y (.chan cap #[] A s r ah):=Zv;have aDg:kT X.dI ({w with heap:=w.heap.setIfInBounds X.ov<|.chan cap #[] A s r ah}:ae):=h.base.uI.setObj λ_ v hv=>by simp at hv
 have htp:({w with heap:=w.heap.setIfInBounds X.ov<|.chan cap #[] A s r ah}:ae).tape=w.tape/\({w with heap:=w.heap.setIfInBounds X.ov<|.chan cap #[] A s r ah}:ae).os=w.os/\({w with heap:=w.heap.setIfInBounds X.ov<|.chan cap #[] A s r ah}:ae).output=w.output:=⟨J,J,J⟩;generalize({w with heap:=w.heap.setIfInBounds X.ov<|.chan cap #[] A s r ah}:ae)=w' at*
 have⟨_,_,nW,nR⟩:=h.base.aaz (b:=X.ov)<|.inr<|.inr<|.inl J;have kW:∀i k,ks[i]? =Y k->bg (Sw i) (X.side k) w w':=λi k hk=>⟨htp.1,htp.2.1,htp.2.2,MR gV.s,Zv,Zv⟩;have hwk:∀g,woken X.P a a' w' g=g.again w':=λg=>by
  unfold woken;rw[if_pos];rw[hc.aDf,jU];rfl
 have H:=h.base.ev0 (w':=w') (gs':=(gs.map<|woken X.P a a' w').setIfInBounds 0 a') (fn:=a.frame.fn) (pos:=a.frame.place) (es:=#[⟨.obj X.ov,ah,A⟩,⟨.obj X.ov,A,A⟩]) aDg gV (by
  intro e he;simp only[MQ,zA,Dy,DC]at he;rcases he with rfl|rfl
  ·refine⟨uX,aQA,λx hx=>?_⟩;simp only[MemAct.ofEvent,MemAct.touch?,iR]at hx;subst hx;exact .inl ⟨.inr J,Xy⟩
  ·refine⟨uX,aQA,λx hx=>?_⟩;simp[MemAct.ofEvent,MemAct.touch?]at hx) Xy (h.base.PV a a' w' a'<|.inl J)
 have⟨jT,Iz⟩:=PU hR;have hD:∃D1:Nat->T,(∀i,0<i->i<X.m0->D1 i=T.nat (q i))/\∀i k,ks[i]? =Y k->∃g,((gs.map<|woken X.P a a' w').setIfInBounds 0 a')[X.m0+i]? =Y g/\X.D7 ty n dM i k (di i) (Sw i) 9 (D1<|X.m0+i) 0 g w':=by
  have aKM:∀i,∃σ,(0<i->i<X.m0->σ=T.nat (q i))/\∀j k,i=X.m0+j->ks[j]? =Y k->∃g,((gs.map<|woken X.P a a' w').setIfInBounds 0 a')[i]? =Y g/\X.D7 ty n dM j k (di j) (Sw j) 9 σ 0 g w':=by
   intro i;by_cases hi:i<X.m0
   ·exact⟨T.nat<|q i,λ_ _=>J,λj k e=>YV⟩
   ·cases hk:ks[i-X.m0]? with
    |none=>exact⟨.stop,λ_ h=>absurd h hi,Zv⟩
    |some k=>
     have⟨g,hg,hs⟩:=h.work (i-X.m0) k hk;have ei:X.m0+(i-X.m0)=i:=YV
     rw[ei]at hg hs;have AP:((gs.map<|woken X.P a a' w').setIfInBounds 0 a')[i]? =Y (g.again w'):=Zv
     have oZ:=hs.rely<|kW (i-X.m0) k hk;rcases oZ.status aPT with hrn|⟨g0,z0,z1,sh,rfl,hW⟩
     ·have hag:g.again w'=g:=again_running _ hrn;rw[hag]at AP;generalize hDi:D i=σ at oZ;cases oZ with
      | @run JI _ _ _ hT=>
        refine⟨JI.more,λ_ h=>absurd h hi,λj k' e gI=>⟨g,AP,?_⟩⟩;have ej:i-X.m0=j:=YV
        rw[ej]at hk hT;rw[hk]at gI;cases gI;exact .run hT
      |parked hW=>simp[Go.Conc.parked]at hrn
     ·refine⟨T.stop.more,λ_ h=>absurd h hi,λj k' e gI=>⟨_,AP,?_⟩⟩;have ej:i-X.m0=j:=YV
      rw[ej]at hk hW;rw[hk]at gI;cases gI;rw[again_some_closed (k:=1) (c:=X.ov) (z:=z1) (by simp[aT.cs]) auE];exact .S9 hW
  have⟨D1,hD1⟩:=Yu aKM;exact⟨D1,λi h0 h1=>(hD1 i).1 h0 h1,Zv⟩
 have⟨D1,hold,aDh⟩:=hD;have I8:w'.heap[X.Wg]? =w.heap[X.Wg]? :=Ot _ h.base.ku.2.1;have ML:w'.heap[X.C]? =w.heap[X.C]? :=Ot _ h.base.ku.2.2.1;refine⟨_,w',_,E2,D1,jT.more,hr,Xy,⟨⟨H.size,H.pos,H.old,H.above,H.deaf0,H.deafW,⟨H.mem.xm,H.mem.oQ,H.mem.apart,H.mem.xY,λb nH=>H.mem.aat b (OC b nH).1,λb nH=>H.mem.SV b<|hE2 b nH,H.mem.Gz,H.mem.low,H.mem.dI,H.mem.aau⟩,H.ti,H.seen,H.base,H.norel,H.ku,H.uI⟩,hc.len,λhW=>(OC _ hW).2 J,⟨a',Zv,.pre Iz⟩,aDh,hold,λκ qM=>?_,⟨cap,s,r,auE⟩,⟨_,_,hc.wg.of_block I8,?_⟩,?_,λi hi h6=>YV,Xy⟩⟩
 ·have⟨s',r',hch⟩:=h.Ak κ qM;exact⟨s',r',by rw[Ot _ (h.base.ku.2.2.2.1 κ qM).2.2];exact hch⟩
 ·have:=Go.ConcN.Mode.opn (j:=n) (D:=iE λ_=>9) (tag:=kU.c .pre) trivial (λi hi=>.inl J) (by simp[kU.c]);rw[aqu]at this;simpa[Go.ConcN.pend,kU.c]using this
 ·obtain⟨cs,rfl,hcs⟩:=MM;exact⟨cs,by rw[ML];exact h.pay,hcs⟩
structure aT.Start(X:aT K)(n:Nat)(E:dP)(S0:aS)(gs:Array bP)(w:ae)(t:Trace)(q:Nat->Nat):Prop where
 size:X.m0=gs.size
 UN:Leavers X.P t gs q
 O0:Past (qg X.jF) (M (R w)) t
 dI:∀b,X.E7 b->b<M (R w)
 own:∀b,S0 b->b<M (R w)/\¬E.rd b/\b≠X.Wg/\b≠X.C/\b≠X.ov/\¬X.E7 b
 rd:∀b,E.rd b->b<M (R w)/\b≠X.Wg/\b≠X.C/\b≠X.ov/\¬X.jF b
 ro:∀b,E.ro b->E.rd b\/b=X.Wg
 sp:X.Wg<M (R w)/\X.C<M (R w)/\X.ov<M (R w)/\¬X.E7 X.Wg/\¬X.E7 X.C/\¬X.E7 X.ov/\X.Wg≠X.C/\X.Wg≠X.ov/\X.C≠X.ov
 over:∃cap s r,w.heap[X.ov]? =Y (.chan cap #[] ah s r ah)
 pay:∃cs:Array ai,w.heap[X.C]? =Y (.cells cs Payload.ety)/\cs.size=n
 uI:kT X.dI w
theorem aT.Start.inv{End}(h:X.Start n E S0 gs w t q){a}(ha:gs[0]? =Y a){ts}(hR:az X.P A E (X.mg End ts [] 0 E) S0 a w):∃D τ,X.Inv1 End (w.heap[X.C]?) t ts [] gs w t 0 E S0 E.rd (λ_ _=>False) q (λ_=>[]) D τ:=by have aO:0<gs.size:=Zv;have⟨τ,Iz⟩:=PU hR;(have sp:∀b,X.Sp [] b->b=X.Wg\/b=X.C\/b=X.ov:=by rintro b (h|h|h|⟨k,hk,_⟩);{omega};{omega};{omega};grind);refine⟨λi=>T.nat<|q i,τ.more,⟨by simp[h.size],by rwa[h.size],λi g h0 _ hg=>h.UN.old i g h0 hg,h.UN.above,h.O0.hears,Zv,⟨λb H=>?_,Zv,Zv,λb H=>?_,h.ro,λb H=>H,Zv,λb H=>?_,h.dI,λb H=>?_⟩,?_,h.O0.seen,Y0,λi hi e=>?_,(by grind[cases aT.Start]),h.uI⟩,⟨a,ha,.run Iz⟩,Zv,Zv,Xy,h.over,λa' i v bs ha' H he=>?_,J,λ_ _=>J,Xy⟩;{grind[cases aT.Start]};{grind[cases aT.Start]};{grind[cases aT.Start]};{grind[cases aT.Start]};{have H:=TI.begin (Sh:=X.Sh) h.O0 (by rintro l (⟨a,rfl,ha⟩|rfl);{exact⟨J,λz=>h.sp.2.2.2.1<|.inl<|ha▸z⟩};exact⟨J,λz=>h.sp.2.2.2.2.2.1<|.inl z⟩);(have e1:X.aPW (λ_ _=>False) ([]:List K).length=λ_ _=>False:=by funext k l;simp[aT.aPW]);(have e2:X.Rd ([]:List K)=λ_ _=>False:=by funext k l;simp[aT.Rd]);grind};{have:=lt_of_act? e;omega};grind[JG,aT.mg.running]
end
end gy
end
section
namespace gy
open Go Go.Conc
abbrev link:Go.Conc.Lib.WgLink:={add:=111,done:=113,wait:=115,relMerge:=152,disable:=153,enable:=154,inBubble:=155,associate:=156,fatal:=157,uOr:=158,uAdd:=159,raceRead:=160,uLoad:=161,uStore:=162,disassociate:=163,semrelease:=164,acquire:=165,isAssociated:=166,uCas:=167,raceWrite:=168,semacquire:=169,orU64:=189,addU64:=190,loadU64:=191,storeU64:=192,casU64:=193,tWgP:=207,tUP:=209,tAssoc:=210,tWg:=177,tAU:=174,tU64:=172,tUint:=214,tU32:=175,tPU32:=215,tPAU:=243,tPU64:=245,tNoCopy:=169,tANoCopy:=170,tAlign64:=171}
def aaF:Go.Conc.Lib.WgLib aj link:=⟨func111,func113,func115,func152,func153,func154,func155,func156,func157,func158,func159,func160,func161,func162,func163,func164,func165,func166,func167,func168,func169,func189,func190,func191,func192,func193,Y0,Y0,sizeOf207,isAgg207,Y0,Y0,Y0,sizeOf209,isAgg209,Y0,Y0,Y0,sizeOf210,isAgg210,Y0,Y0,Y0,sizeOf177,isAgg177,Y0,Y0,Y0,sizeOf174,isAgg174,Y0,Y0,Y0,sizeOf172,isAgg172,Y0,Y0,Y0,sizeOf214,isAgg214,Y0,Y0,Y0,sizeOf175,isAgg175,Y0,Y0,Y0,sizeOf215,isAgg215,Y0,Y0,Y0,sizeOf243,isAgg243,Y0,Y0,Y0,sizeOf245,isAgg245,Y0,Y0,Y0,sizeOf0,isAgg0,Y0,Y0,Y0,sizeOf3,isAgg3,Y0,Y0,Y0,sizeOf4,isAgg4,Y0,Y0,Y0,sizeOf9,isAgg9,Y0,Y0,Y0,sizeOf20,isAgg20,Y0,Y0,Y0,sizeOf21,isAgg21,Y0,KG,KG⟩
instance:Go.ConcR.Payload:=⟨107⟩
end gy
end
section
namespace gy
open Go Go.Conc Go.ConcN Go.RowKit Go.Conc.Lib Go.ConcR.Gen Go.ConcN.Gen
open Go.ConcR (KK wgBlock WgAt stA smA rd wr DC0)
def bD{ty H w w₁}(h:WgLive ty H w)(r:RL ty H w w₁):WgLive ty H w₁:=r h
def aaG(L:WgLink)(H:Nat)(c:bK)(cs:List bK)(g:bP)(_w:ae):Prop:=∃T,g=G ((base L.wait).at ⟨T,[]⟩ [.code<|L7 L,.inLoop<|L7 L,.inBlock 0]) (c::cs)/\T.size=84/\T[0]? =(ak H)
section
variable{L K}{X:aT K}{b₀:bK}{a₀ zW i₀ Ht k₀ cs}
def aDi(H:WgLib X.P L)(g w)(h:aaG L X.Wg (b₀.at a₀<|dm zW (i₀::Ht)::k₀) cs g w)(hF:WgLive L.tWg X.Wg w):∃m,Goes X.P A (RL L.tWg X.Wg) DC0 (X.AtW1 L.tWg (G (b₀.at (a₀.put ((zW[i₀]?).bind (·.dst))<|dZ #[])<|dm zW Ht::k₀) cs)<|aaG L X.Wg (b₀.at a₀<|dm zW (i₀::Ht)::k₀) cs) m g w:=by lib_facts;obtain⟨T,rfl,aKO,t0⟩:=h;obtain⟨v0,v1,v2,v3,v4,v5,v6,v7,v8,v9,v10,v11,v12,v13,v14,v15,v16,v17,v18,v19,v20,v21,v22,v23,v24,v25,v26,v27,v28,v29,v30,v31,v32,v33,v34,v35,v36,v37,v38,v39,v40,v41,v42,v43,v44,v45,v46,v47,v48,v49,v50,v51,v52,v53,v54,v55,v56,v57,v58,v59,v60,v61,v62,v63,v64,v65,v66,v67,v68,v69,v70,v71,v72,v73,v74,v75,v76,v77,v78,v79,v80,v81,v82,v83,rfl⟩:=array84 T aKO;simp only[acI,Q9,iR]at t0;subst t0;refine⟨30,?_⟩;simp only[L7,body_wait,waitFn,iT];u_c aQ6 bD hF;u_c aQT bD hF;u_reg bD hF;u_op bD hF;u_op bD hF;u_op bD hF;u_call H.f_uLoad (nm_uLoad L) uLoadFn bD hF;u_c aQT bD hF;u_reg bD hF;u_op bD hF;u_c aQP bD hF;u_c aQT bD hF;u_reg bD hF;u_op bD hF;u_op bD hF;u_op bD hF;refine aQ8 λw₁ h₁=>?_;replace hF:=bD hF h₁;clear h₁;refine⟨J,λv hv hw=>?_⟩;rcases OT v with rfl|hvp;{(replace hw:WgAt L.tWg X.Wg w₁ 0 0:=by simpa using hw);refine⟨_,aRR (v:=0) J J aQD J H.f_loadU64 (x_loadU64_n L) (x_loadU64_b L) (x_loadU64_x L) .u64 (x_loadU64_f L) J hw.cellSt,λ_=>⟨60,?_⟩,λh=>absurd J h⟩;clear hw;walk_nrm;u_op bD hF;u_c aQP bD hF;u_c aQ7 bD hF;u_leave1 H.f_uLoad bD hF;u_op bD hF;u_c aQP bD hF;u_c aQT bD hF;u_reg bD hF;u_op bD hF;u_op bD hF;u_op bD hF;u_op bD hF;u_c aQP bD hF;u_c aQT bD hF;u_reg bD hF;u_op bD hF;u_op bD hF;u_op bD hF;u_op bD hF;u_c aQP bD hF;u_c aQT bD hF;u_c aQT bD hF;u_reg bD hF;u_op bD hF;u_op bD hF;u_c aQP bD hF;u_cond A bD hF;u_c aQT bD hF;u_cond A bD hF;u_c aQT bD hF;u_reg bD hF;refine aQ8 λw₅ h₅=>?_;replace hF:=bD hF h₅;clear h₅;refine⟨J,_,aRO .enable Xy J J aQD J H.f_enable (x_enable_n L) (x_enable_b L) (x_enable_x L)<|x_enable_f L,12,?_⟩;walk_nrm;u_c aQP bD hF;u_reg bD hF;u_op bD hF;u_in bD hF;refine aRP J J aQD λKx FQ=>?_;have Kr:=aRo (P:=X.P) H.underlying_tWgP H.underlying_tUP H.room_tWg (WgLive.cell0 hF).choose_spec;have BO:=λes=>aRh (P:=X.P) H.underlying_tWgP H.underlying_tUP H.room_tWg (WgLive.cell0 hF).choose_spec es;go_simp;refine FQ _ _ ⟨?_,?_⟩;{u_none;intro ex hex;have I9:=aQW hex;simp[go_sem,BO]at I9};clear FQ Kx Kr BO;refine aQ8 λw₆ h₆=>?_;replace hF:=bD hF h₆;clear h₆;refine⟨J,_,aRJ .acquire Xy J J aQD J H.f_acquire (x_acquire_n L) (x_acquire_b L) (x_acquire_x L) (x_acquire_f L)<|by simp[Act.eval,stA],40,?_⟩;walk_nrm;u_c aQP bD hF;u_c aQT bD hF;u_c aQT bD hF;u_reg bD hF;u_op bD hF;u_op bD hF;u_op bD hF;u_op bD hF;u_op bD hF;u_op bD hF;u_op bD hF;u_op bD hF;u_skip bD hF;u_skip bD hF;u_op bD hF;u_c aQP bD hF;u_cond ah bD hF;u_c aQ2 bD hF;u_c aQ7 bD hF;u_leave0 H.f_wait bD hF;exact aQ8 λ_ _=>J};have⟨S,hS⟩:∃S,(v:Int)*KK=S:=⟨_,J⟩;(have a1:S/4294967296=(v:Int):=by rw[<-hS];simp only[KK];omega);(have b1:bits .and .u64 S 2147483648=0:=by rw[<-hS];have:=st_flag v 0 YV YV;simpa[KK]using this);(have b2:bits .and .u64 S 2147483647=0:=by rw[<-hS];have:=st_waiters v 0 YV YV;simpa[KK]using this);(have c1:IntKind.i32.wrap (v:Int)=(v:Int):=by rw[IntKind.wrap_i32];omega);(have w1:IntKind.u64.wrap (S+1)=S+1:=by rw[IntKind.wrap_u64,<-hS];simp only[KK];omega);have q3:decide ((v:Int)<0)=false:=jr YV;have q4:decide (0<(v:Int))=true:=iC YV;(have q5:((v:Int)==0)=false:=Xz);have q6:decide ((v:Int)=0)=false:=jr YV;rw[hS]at hw;refine⟨_,aRR (v:=S) J J aQD J H.f_loadU64 (x_loadU64_n L) (x_loadU64_b L) (x_loadU64_x L) .u64 (x_loadU64_f L) J hw.cellSt,λh0=>absurd h0 YV,λ_=>⟨80,?_⟩⟩;clear hw;walk_nrm;u_op bD hF;u_c aQP bD hF;u_c aQ7 bD hF;u_leave1 H.f_uLoad bD hF;u_op bD hF;u_c aQP bD hF;u_c aQT bD hF;u_reg bD hF;u_op bD hF;u_op bD hF;u_op bD hF;u_op bD hF;u_c aQP bD hF;u_c aQT bD hF;u_reg bD hF;u_op bD hF;u_op bD hF;u_op bD hF;u_op bD hF;u_c aQP bD hF;u_c aQT bD hF;u_c aQT bD hF;u_reg bD hF;u_op bD hF;u_op bD hF;u_c aQP bD hF;u_cnd ah bD hF;u_c aQ2 bD hF;u_c aQT bD hF;u_reg bD hF;u_op bD hF;u_op bD hF;u_op bD hF;u_op bD hF;u_op bD hF;u_op bD hF;u_call H.f_uCas (nm_uCas L) uCasFn bD hF;u_c aQT bD hF;u_reg bD hF;u_op bD hF;u_c aQP bD hF;u_c aQT bD hF;u_reg bD hF;u_op bD hF;u_op bD hF;u_op bD hF;u_op bD hF;u_op bD hF;refine aQ8 λw₂ h₂=>?_;replace hF:=bD hF h₂;clear h₂;refine⟨J,λv' MJ hw=>⟨λe=>?_,λe=>?_⟩⟩;{subst e;rw[hS]at hw⊢;refine⟨_,(stepG_cas_hit (v:=S) (n:=S+1) J J aQD J H.f_casU64 (x_casU64_n L) (x_casU64_b L) (x_casU64_x L) .u64 (x_casU64_f L) J J J hw.cellSt<|hw.thaw 0).t aQr,70,?_⟩;replace hF:WgLive L.tWg X.Wg (w₂.setCell (stA X.Wg)<|.int .u64<|S+1):=⟨_,_,hw.setSt _⟩;clear hw;walk_nrm;u_op bD hF;u_c aQP bD hF;u_c aQ7 bD hF;u_leave1 H.f_uCas bD hF;u_c aQP bD hF;u_cond A bD hF;u_c aQT bD hF;u_c aQT bD hF;u_reg bD hF;u_op bD hF;u_op bD hF;u_op bD hF;u_op bD hF;u_c aQP bD hF;u_cond A bD hF;u_reg bD hF;u_op bD hF;u_op bD hF;u_op bD hF;u_in bD hF;refine aRP J J aQD λKx FQ=>?_;have Kr:=aRo (P:=X.P) H.underlying_tPU32 H.underlying_tUP H.room_tU32 (WgLive.cell1 hF).choose_spec;have BO:=λes=>aRh (P:=X.P) H.underlying_tPU32 H.underlying_tUP H.room_tU32 (WgLive.cell1 hF).choose_spec es;go_simp;refine FQ _ _ ⟨?_,?_⟩;{u_none;intro ex hex;have I9:=aQW hex;simp[go_sem,BO]at I9};clear FQ Kx Kr BO;refine aQ8 λaMX aqv=>?_;replace hF:=bD hF aqv;clear aqv;refine⟨J,_,aRJ .write Xy J J aQD J H.f_raceWrite (x_raceWrite_n L) (x_raceWrite_b L) (x_raceWrite_x L) (x_raceWrite_f L) (ad:=smA X.Wg)<|by simp[Act.eval,smA],40,?_⟩;walk_nrm;u_c aQP bD hF;u_c aQT bD hF;u_reg bD hF;u_op bD hF;u_c aQP bD hF;u_c aQT bD hF;u_c aQT bD hF;u_reg bD hF;u_op bD hF;u_op bD hF;u_op bD hF;u_op bD hF;u_skip bD hF;u_op bD hF;u_c aQP bD hF;u_cond ah bD hF;u_c aQ2 bD hF;u_c aQT bD hF;u_reg bD hF;u_op bD hF;u_op bD hF;u_op bD hF;u_op bD hF;refine aQ8 λw₃ h₃=>?_;replace hF:=bD hF h₃;clear h₃;refine⟨J,J,λ⟨st,hw⟩=>stepG_semacquire_wait J J J H.f_semacquire (x_semacquire_n L) (x_semacquire_b L) (x_semacquire_x L) (x_semacquire_f L) (by simp[Act.eval,smA]) hw.cellSm,λhf=>?_⟩;refine⟨_,(stepG_semacquire (n:=1) J J aQD J H.f_semacquire (x_semacquire_n L) (x_semacquire_b L) (x_semacquire_x L) (x_semacquire_f L) (by simp[Act.eval,smA]) hf.cellSm aQD<|hf.thaw 1).t aQr,30,?_⟩;replace hF:WgLive L.tWg X.Wg (w₃.setCell (smA X.Wg)<|.int .u32 0):=⟨_,_,hf.setSm 0⟩;clear hf;walk_nrm;u_c aQP bD hF;u_c aQT bD hF;u_reg bD hF;u_op bD hF;u_op bD hF;u_op bD hF;u_call H.f_uLoad (nm_uLoad L) uLoadFn bD hF;u_c aQT bD hF;u_reg bD hF;u_op bD hF;u_c aQP bD hF;u_c aQT bD hF;u_reg bD hF;u_op bD hF;u_op bD hF;u_op bD hF;refine aQ8 λw₄ h₄=>?_;replace hF:=bD hF h₄;clear h₄;refine⟨J,λhw=>⟨_,aRR (v:=0) J J aQD J H.f_loadU64 (x_loadU64_n L) (x_loadU64_b L) (x_loadU64_x L) .u64 (x_loadU64_f L) J hw.cellSt,30,?_⟩⟩;clear hw;walk_nrm;u_op bD hF;u_c aQP bD hF;u_c aQ7 bD hF;u_leave1 H.f_uLoad bD hF;u_op bD hF;u_op bD hF;u_c aQP bD hF;u_c aQT bD hF;u_cond A bD hF;u_c aQT bD hF;u_reg bD hF;refine aQ8 λw₅ h₅=>?_;replace hF:=bD hF h₅;clear h₅;refine⟨J,_,aRO .enable Xy J J aQD J H.f_enable (x_enable_n L) (x_enable_b L) (x_enable_x L)<|x_enable_f L,12,?_⟩;walk_nrm;u_c aQP bD hF;u_reg bD hF;u_op bD hF;u_in bD hF;refine aRP J J aQD λKx FQ=>?_;have Kr:=aRo (P:=X.P) H.underlying_tWgP H.underlying_tUP H.room_tWg (WgLive.cell0 hF).choose_spec;have BO:=λes=>aRh (P:=X.P) H.underlying_tWgP H.underlying_tUP H.room_tWg (WgLive.cell0 hF).choose_spec es;go_simp;refine FQ _ _ ⟨?_,?_⟩;{u_none;intro ex hex;have I9:=aQW hex;simp[go_sem,BO]at I9};clear FQ Kx Kr BO;refine aQ8 λw₆ h₆=>?_;replace hF:=bD hF h₆;clear h₆;refine⟨J,_,aRJ .acquire Xy J J aQD J H.f_acquire (x_acquire_n L) (x_acquire_b L) (x_acquire_x L) (x_acquire_f L)<|by simp[Act.eval,stA],40,?_⟩;walk_nrm;u_c aQP bD hF;u_c aQT bD hF;u_c aQT bD hF;u_reg bD hF;u_op bD hF;u_c aQP bD hF;u_cond ah bD hF;u_c aQ2 bD hF;u_c aQ7 bD hF;u_leave0 H.f_wait bD hF;exact aQ8 λ_ _=>J};refine⟨_,stepG_cas_miss (v:=(v':Int)*KK) (old:=S) (n:=S+1) J J aQD J H.f_casU64 (x_casU64_n L) (x_casU64_b L) (x_casU64_x L) .u64 (x_casU64_f L) J J J hw.cellSt (hw.thaw 0) (by rw[<-hS];simp only[KK];omega),20,?_⟩;clear hw;walk_nrm;u_op bD hF;u_c aQP bD hF;u_c aQ7 bD hF;u_leave1 H.f_uCas bD hF;u_c aQP bD hF;u_cond ah bD hF;u_c aQ2 bD hF;u_c aRj bD hF;u_c aRt bD hF;exact aQ8 λw₃ h₃=>⟨_,J,Xy,Xy⟩
end
end gy
end
section
namespace gy
open Go Go.Conc Go.ConcN Go.RowKit Go.Conc.Lib Go.ConcR.Gen Go.ConcN.Gen Twin
open Go.ConcR (KK wgBlock WgAt stA smA rd wr DC0)
def less(E:dP)(b:Nat):dP:=⟨λx=>E.ro x/\x≠b,λx=>E.rd x/\x≠b,λ_ h=>⟨E.le _ h.1,h.2⟩⟩
variable{w w1 b}
theorem bg.less{S E}(h:bg S E w w1)(b):bg S (less E b) w w1:={h with ro:=λx H=>h.ro x H.1}
def aqw{S E}(hS:¬S b)(h:Conc.Aside b w w1):bg S (less E b) w w1:=
 {h with size:=MR h.size.s,own:=(by grind[Conc.Aside.block]),ro:=λ_ hx=>h.block _ hx.2}
def PY{P:gB}{main:Bool}{S:aS}{E:dP}{Stop:bP->ae->Prop}{Stop':aS->bP->ae->Prop}(H:∀g w,Stop g w->Stop' S g w):∀{m:Nat} {g:bP} {w:ae},Goes P main (bg S E) DC0 Stop m g w->az P main E Stop' S g w|0,_,_,h=>.stop λw1 k=>H _ _<|h w1 k|m+1,g,w,h=>by rcases h with h|⟨hr,h⟩;{exact .stop Zv};refine .step1 hr λw1 k=>?_;obtain⟨g',w',es,e,⟨rfl,rfl⟩,hn⟩:=goes_elim<|h w1 k;exact⟨g',w',#[],e,iP.refl,by rw[yF YV];exact PY H hn⟩
def ka{ty S E H w0 w w₁}(h:WgAt ty b w H 0/\bg S (less E b) w0 w/\E.ro b)(r:bg S E w w₁):WgAt ty b w₁ H 0/\bg S (less E b) w0 w₁/\E.ro b:=(by grind[ConcR.WgAt.of_block,cases bg,bg.t,bg.less])
def libs(v:Nat):List xn:=if v=0 then[.iW,.iW,.iW,.iW]else[.iW,.iW,.iW]
section
variable{L K}{X:aT K}{End ts ks E S}{b₀:bK}{a₀ zW i₀ Ht k₀ cs}
theorem aDj(H:WgLib X.P L)(hS:¬S X.Wg){w0}(v:Nat)(hv:v<2147483647) (hT:∀w',bg S (less E X.Wg) w0 w'->WgAt L.tWg X.Wg w' (((v:Int)+1)*KK) 0->az X.P A E (X.mg End ts ks 0 E) S (G (b₀.at (a₀.put ((zW[i₀]?).bind (·.dst))<|dZ #[])<|dm zW Ht::k₀) cs) w') (w)(hF:WgAt L.tWg X.Wg w ((v:Int)*KK) 0/\bg S (less E X.Wg) w0 w/\E.ro X.Wg):az X.P A E (X.mg End (libs v++ts) ks 0 E) S (G ((base L.add).at ⟨#[ak X.Wg,V Z 1,F,F,F,F,F,F,F,F,F,F,F,F,F,F,F,F,F,F,F,F,F,F,F,F,F,F,F,F,F,F,F,F,F,F,F,F,F,F,F,F,F,F,F,F,F,F,F,F,F,F,F,F,F,F,F,F,F,F,F,F,F,F,F,F,F,F,F,F,F,F,F,F,F,F,F,F,F,F,F,F,F,F,F,F,F,F,F,F,F,F,F,F,F,F,F,F,F,F,F,F,F,F,F,F,F,F,F,F,F,F,F,F,F,F,F],[]⟩ [.code<|body_add L])<|b₀.at a₀ (dm zW (i₀::Ht)::k₀)::cs) w:=by lib_facts;(have aDk:∃l,libs v=.iW:: .iW::l:=by unfold libs;split<;>exact⟨_,J⟩);have⟨l,hl⟩:=aDk;rw[hl];simp only[body_add,addFn,iT];apply PY (m:=14) (Stop:=λg w=>X.mg End (.iW:: .iW::(l++ts)) ks 0 E S g w) (λ_ _ h=>h);u_c aQT ka hF;u_cond A ka hF;u_c aQT ka hF;u_c aQT ka hF;u_reg ka hF;u_op ka hF;u_op ka hF;u_c aQP ka hF;u_cond ah ka hF;u_c aQ2 ka hF;u_c aQT ka hF;u_reg ka hF;refine aQ8 λw₁ h₁=>?_;replace hF:=ka hF h₁;clear h₁;refine⟨J,_,w₁,_,aRO .disable Xy J J aQD J H.f_disable (x_disable_n L) (x_disable_b L) (x_disable_x L)<|x_disable_f L,.refl X.Wg w₁,(by intro e he;simp at he;subst he;exact .inl J),?_⟩;walk_nrm;apply PY (m:=45) (Stop:=λg w=>X.mg End (.iW::(l++ts)) ks 1 E S g w) (λ_ _ h=>h);u_c aQP ka hF;u_reg ka hF;u_defer ka hF;u_c aQP ka hF;u_c aQT ka hF;u_reg ka hF;u_op ka hF;u_c aQP ka hF;u_c aQT ka hF;u_c aQT ka hF;u_reg ka hF;u_bub ka hF;u_c aQP ka hF;u_cond ah ka hF;u_c aQ2 ka hF;u_c aQT ka hF;u_reg ka hF;u_op ka hF;u_op ka hF;u_op ka hF;u_op ka hF;u_op ka hF;u_op ka hF;u_call H.f_uAdd (nm_uAdd L) uAddFn ka hF;u_c aQT ka hF;u_reg ka hF;u_op ka hF;u_c aQP ka hF;u_c aQT ka hF;u_reg ka hF;u_op ka hF;u_op ka hF;u_op ka hF;u_op ka hF;refine aQ8 λw₂ h₂=>?_;replace hF:=ka hF h₂;clear h₂;have hw:=hF.1;rcases OT v with rfl|hvp;{(obtain rfl:l=[.iW,.iW]:=by simpa[libs]using hl.s);(replace hw:WgAt L.tWg X.Wg w₂ 0 0:=by simpa using hw);(have e0:IntKind.u64.wrap (0+4294967296)=KK:=Xa);refine⟨J,_,_,_,(stepG_add_atomic J J aQD J H.f_addU64 (x_addU64_n L) (x_addU64_b L) (x_addU64_x L) .u64 (x_addU64_f L) J J hw.cellSt<|hw.thaw 0).t<|by rw[e0],aRe w₂ (stA X.Wg) _,(by intro e he;simp at he;rcases he with rfl|rfl<;>exact NW _ J _),?_⟩;replace hF:WgAt L.tWg X.Wg (w₂.setCell (stA X.Wg)<|.int .u64 KK) KK 0/\bg S (less E X.Wg) w0 (w₂.setCell (stA X.Wg)<|.int .u64 KK)/\E.ro X.Wg:=⟨hw.setSt _,hF.2.1.t<|aqw hS<|aRe w₂ (stA X.Wg) _,hF.2.2⟩;clear hw;simp only[KK]at hF⊢;walk_nrm;apply PY (m:=70) (Stop:=λg w=>X.mg End (.iW:: .iW::ts) ks 1 E S g w) (λ_ _ h=>h);u_op ka hF;u_c aQP ka hF;u_c aQ7 ka hF;u_leave1 H.f_uAdd ka hF;u_op ka hF;u_c aQP ka hF;u_c aQT ka hF;u_c aQT ka hF;u_reg ka hF;u_op ka hF;u_op ka hF;u_op ka hF;u_op ka hF;u_skip ka hF;u_skip ka hF;u_op ka hF;u_c aQP ka hF;u_cond ah ka hF;u_c aQ2 ka hF;u_c aQT ka hF;u_reg ka hF;u_op ka hF;u_op ka hF;u_op ka hF;u_op ka hF;u_c aQP ka hF;u_c aQT ka hF;u_reg ka hF;u_op ka hF;u_op ka hF;u_op ka hF;u_op ka hF;u_c aQP ka hF;u_c aQT ka hF;u_c aQT ka hF;u_reg ka hF;u_op ka hF;u_op ka hF;u_op ka hF;u_op ka hF;u_op ka hF;u_op ka hF;u_op ka hF;u_op ka hF;u_op ka hF;u_op ka hF;u_c aQP ka hF;u_cond A ka hF;u_reg ka hF;u_op ka hF;u_op ka hF;u_op ka hF;u_in ka hF;refine aRP J J aQD λKx FQ=>?_;have Kr:=aRo (P:=X.P) H.underlying_tPU32 H.underlying_tUP H.room_tU32 (WgLive.cell1 ⟨_,_,hF.1⟩).choose_spec;have BO:=λes=>aRh (P:=X.P) H.underlying_tPU32 H.underlying_tUP H.room_tU32 (WgLive.cell1 ⟨_,_,hF.1⟩).choose_spec es;go_simp;refine FQ _ _ ⟨?_,?_⟩;{u_none;intro ex hex;have I9:=aQW hex;simp[go_sem,BO]at I9};clear FQ Kx Kr BO;refine aQ8 λw₃ h₃=>?_;replace hF:=ka hF h₃;clear h₃;refine⟨J,_,w₃,_,aRJ .read Xy J J aQD J H.f_raceRead (x_raceRead_n L) (x_raceRead_b L) (x_raceRead_x L) (x_raceRead_f L) (ad:=(X.Wg,1))<|by simp[Act.eval],.refl X.Wg w₃,(by intro e he;simp at he;subst he;exact .inr<|.inr<|.inl ⟨_,J,J⟩),?_⟩;walk_nrm;apply PY (m:=50) (Stop:=λg w=>X.mg End (.iW::ts) ks 1 E S g w) (λ_ _ h=>h);u_c aQP ka hF;u_c aQT ka hF;u_c aQT ka hF;u_reg ka hF;u_op ka hF;u_op ka hF;u_c aQP ka hF;u_cond ah ka hF;u_c aQ2 ka hF;u_c aQT ka hF;u_c aQT ka hF;u_reg ka hF;u_op ka hF;u_op ka hF;u_op ka hF;u_skip ka hF;u_skip ka hF;u_op ka hF;u_op ka hF;u_skip ka hF;u_skip ka hF;u_skip ka hF;u_skip ka hF;u_op ka hF;u_c aQP ka hF;u_cond ah ka hF;u_c aQ2 ka hF;u_c aQT ka hF;u_c aQT ka hF;u_reg ka hF;u_op ka hF;u_op ka hF;u_op ka hF;u_skip ka hF;u_skip ka hF;u_op ka hF;u_c aQP ka hF;u_cond A ka hF;u_c aQ7 ka hF;refine aQ8 λw₄ h₄=>?_;replace hF:=ka hF h₄;clear h₄;refine⟨J,_,w₄,_,stepG_unwind_entry (v:=dZ #[]) (evs:=#[Go.ConcR.mk .enable]) J H.f_enable (x_enable_n L) (x_enable_b L) (x_enable_x L) (x_enable_f L) (by simp[Extern.Race.none_]) (by simp[Go.ConcR.mk])<|by simp[Go.ConcR.mk],.refl X.Wg w₄,(by intro e he;simp at he;subst he;exact .inr<|.inl J),?_⟩;refine(PY (m:=1) (Stop:=λg w=>g=G (b₀.at (a₀.put ((zW[i₀]?).bind (·.dst))<|dZ #[])<|dm zW Ht::k₀) cs/\WgAt L.tWg X.Wg w 4294967296 0/\bg S (less E X.Wg) w0 w) (Stop':=λS' g w=>S'=S/\g=G (b₀.at (a₀.put ((zW[i₀]?).bind (·.dst))<|dZ #[])<|dm zW Ht::k₀) cs/\WgAt L.tWg X.Wg w 4294967296 0/\bg S (less E X.Wg) w0 w) (λ_ _ h=>⟨J,h⟩) ?_).t ?_;{u_leave0 H.f_add ka hF;exact aQ8 λw₅ h₅=>⟨J,(ka hF h₅).1,(ka hF h₅).2.1⟩};{rintro S' g w' ⟨rfl,rfl,h1,h2⟩;exact hT w' h2<|by simpa[KK]using h1}};(obtain rfl:l=[.iW]:=by (have:libs v=[.iW,.iW,.iW]:=by unfold libs;rw[if_neg YV]);rw[this]at hl;simpa using hl.s);have⟨aPZ,hV⟩:∃aPZ,aPZ=(v:Int)+1:=⟨_,J⟩;have⟨Q,hQ⟩:∃Q,Q=aPZ*KK:=⟨_,J⟩;(have eQ:IntKind.u64.wrap ((v:Int)*KK+4294967296)=Q:=by rw[IntKind.wrap_u64,hQ,hV];simp only[KK];omega);rw[<-hV,<-hQ]at hT;(have a1:Q/4294967296=aPZ:=by rw[hQ];simp only[KK];omega);(have b1:bits .and .u64 Q 2147483648=0:=by rw[hQ,hV];have:=st_flag (v+1) 0 YV YV;simpa[KK]using this);(have b2:bits .and .u64 Q 2147483647=0:=by rw[hQ,hV];have:=st_waiters (v+1) 0 YV YV;simpa[KK]using this);(have c1:IntKind.i32.wrap aPZ=aPZ:=by rw[IntKind.wrap_i32];omega);(have hV1:1<aPZ:=YV);(have hV2:aPZ<2147483648:=YV);(have q1:(aPZ==1)=false:=Xz);have q2:decide (aPZ=1)=false:=jr YV;have q3:decide (aPZ<0)=false:=jr YV;have q4:decide (0<aPZ)=true:=iC YV;(have q5:(aPZ==0)=false:=Xz);have q6:decide (aPZ=0)=false:=jr YV;refine⟨J,_,_,_,(stepG_add_atomic J J aQD J H.f_addU64 (x_addU64_n L) (x_addU64_b L) (x_addU64_x L) .u64 (x_addU64_f L) J J hw.cellSt<|hw.thaw 0).t<|by rw[eQ],aRe w₂ (stA X.Wg) _,(by intro e he;simp at he;rcases he with rfl|rfl<;>exact NW _ J _),?_⟩;replace hF:WgAt L.tWg X.Wg (w₂.setCell (stA X.Wg)<|.int .u64 Q) Q 0/\bg S (less E X.Wg) w0 (w₂.setCell (stA X.Wg)<|.int .u64 Q)/\E.ro X.Wg:=⟨hw.setSt _,hF.2.1.t<|aqw hS<|aRe w₂ (stA X.Wg) _,hF.2.2⟩;clear hw hQ hV eQ hl;walk_nrm;apply PY (m:=100) (Stop:=λg w=>X.mg End (.iW::ts) ks 1 E S g w) (λ_ _ h=>h);u_op ka hF;u_c aQP ka hF;u_c aQ7 ka hF;u_leave1 H.f_uAdd ka hF;u_op ka hF;u_c aQP ka hF;u_c aQT ka hF;u_c aQT ka hF;u_reg ka hF;u_op ka hF;u_op ka hF;u_op ka hF;u_op ka hF;u_skip ka hF;u_skip ka hF;u_op ka hF;u_c aQP ka hF;u_cnd ah ka hF;u_c aQ2 ka hF;u_c aQT ka hF;u_reg ka hF;u_op ka hF;u_op ka hF;u_op ka hF;u_op ka hF;u_c aQP ka hF;u_c aQT ka hF;u_reg ka hF;u_op ka hF;u_op ka hF;u_op ka hF;u_op ka hF;u_c aQP ka hF;u_c aQT ka hF;u_c aQT ka hF;u_reg ka hF;u_op ka hF;u_op ka hF;u_op ka hF;u_op ka hF;u_op ka hF;u_op ka hF;u_op ka hF;u_op ka hF;u_op ka hF;u_op ka hF;u_c aQP ka hF;u_cnd ah ka hF;u_c aQ2 ka hF;u_c aQT ka hF;u_c aQT ka hF;u_reg ka hF;u_op ka hF;u_op ka hF;u_c aQP ka hF;u_cnd ah ka hF;u_c aQ2 ka hF;u_c aQT ka hF;u_c aQT ka hF;u_reg ka hF;u_op ka hF;u_op ka hF;u_op ka hF;u_skip ka hF;u_skip ka hF;u_op ka hF;u_op ka hF;u_skip ka hF;u_skip ka hF;u_skip ka hF;u_skip ka hF;u_op ka hF;u_c aQP ka hF;u_cnd ah ka hF;u_c aQ2 ka hF;u_c aQT ka hF;u_c aQT ka hF;u_reg ka hF;u_op ka hF;u_op ka hF;u_op ka hF;u_skip ka hF;u_skip ka hF;u_op ka hF;u_c aQP ka hF;u_cnd A ka hF;u_c aQ7 ka hF;refine aQ8 λw₄ h₄=>?_;replace hF:=ka hF h₄;clear h₄;refine⟨J,_,w₄,_,stepG_unwind_entry (v:=dZ #[]) (evs:=#[Go.ConcR.mk .enable]) J H.f_enable (x_enable_n L) (x_enable_b L) (x_enable_x L) (x_enable_f L) (by simp[Extern.Race.none_]) (by simp[Go.ConcR.mk])<|by simp[Go.ConcR.mk],.refl X.Wg w₄,(by intro e he;simp at he;subst he;exact .inr<|.inl J),?_⟩;refine(PY (m:=1) (Stop:=λg w=>g=G (b₀.at (a₀.put ((zW[i₀]?).bind (·.dst))<|dZ #[])<|dm zW Ht::k₀) cs/\WgAt L.tWg X.Wg w Q 0/\bg S (less E X.Wg) w0 w) (Stop':=λS' g w=>S'=S/\g=G (b₀.at (a₀.put ((zW[i₀]?).bind (·.dst))<|dZ #[])<|dm zW Ht::k₀) cs/\WgAt L.tWg X.Wg w Q 0/\bg S (less E X.Wg) w0 w) (λ_ _ h=>⟨J,h⟩) ?_).t ?_;{u_leave0 H.f_add ka hF;exact aQ8 λw₅ h₅=>⟨J,(ka hF h₅).1,(ka hF h₅).2.1⟩};rintro S' g w' ⟨rfl,rfl,h1,h2⟩;exact hT w' h2 h1
end
end gy
end
section
namespace gy
open Go Go.Conc Go.ConcN Go.RowKit Go.Conc.Lib Go.ConcR.Gen Go.ConcN.Gen
open Go.ConcR (KK wgBlock WgAt stA smA rd wr DC0 Payload)
variable{b aPX Stop}
theorem aqx{P:gB}{D:ae->ae->Array Event->Prop}{Stop':bP->ae->Prop}(h:∀g w,Stop g w->Stop' g w):∀{m:Nat} {g:bP} {w:ae},Goes P b aPX D Stop m g w->Goes P b aPX D Stop' m g w|0,_,_,k=>λw₁ r=>h _ _<|k _ r|m+1,g,w,k=>by rcases k with k|⟨hr,k⟩;{exact .inl Zv};refine .inr ⟨hr,λw₁ r=>?_⟩;have⟨g',w',es,e,hd,hn⟩:=goes_elim<|k _ r;rw[e];exact⟨hd,aqx h hn⟩
theorem meet{P:gB}{D:ae->ae->Array Event->Prop}(tr:∀a b c,aPX a b->aPX b c->aPX a c)(H:∀w,aPX w w)(hq:∀g w g',Stop g w->bQ P b g w≠.go g' w #[]){aqy:bP->ae->Prop}:∀{m n:Nat} {g:bP} {w:ae},Goes P b aPX DC0 aqy m g w->Goes P b aPX D Stop n g w->Goes P b aPX DC0 (λg w=>aqy g w/\∃n',Goes P b aPX D Stop n' g w) m g w|0,n,g,w,h,k=>λw₁ r=>⟨h _ r,n,aRi tr k r⟩|m+1,n,g,w,h,k=>by rcases h with h|⟨hr,h⟩;{exact .inl λw₁ r=>⟨h _ r,n,aRi tr k r⟩};refine .inr ⟨hr,λw₁ r=>?_⟩;obtain⟨g',w',es,e,⟨rfl,rfl⟩,hn⟩:=goes_elim<|h _ r;rw[e];refine⟨⟨J,J⟩,?_⟩;rcases aRa (aRi tr k r)with hs|⟨n',rfl,hs⟩;{grind};have⟨g2,w2,es2,e2,_,uV⟩:=hs w'<|H w';rw[e]at e2;obtain⟨rfl,rfl,_⟩:=e2;exact meet tr H hq hn uV
section
variable[Payload]{L:WgLink}{P Wg C n Low k val c cs qt}
variable(P L Wg C n Low k)in def aDl(g:bP)(_w:ae):Prop:=g.status=.running/\∃H,(∀w₁,bQ P ah g w₁=.go H w₁ #[Go.ConcR.mk<|.releaseMerge<|stA Wg])/\∀w₁,Goes P ah (RW L.tWg Wg C n Low<|k-1) DC0 (λg5 _=>∀w₁,∃g6,bQ P ah g5 w₁=.go g6 w₁ #[Go.ConcR.mk .disable]) 6 H w₁
theorem rt{w w₁}(h:True)(_r:RW L.tWg Wg C n Low (k-1) w w₁):True:=h
theorem aDm(H:WgLib P L)(w)(hK:WgLive L.tWg Wg w/\Has C (k-1) val w):Goes P ah (RW L.tWg Wg C n Low<|k-1) DC0 (aDl L P Wg C n Low k) 23 (G ((baseD L.done).at ⟨#[ak Wg,F,F,F],[]⟩ [.code<|body_done L])<|c::cs) w:=by lib_facts;simp only[body_done,doneFn,iT];u_reg kn_rely hK;u_op kn_rely hK;u_in kn_rely hK;refine goes_call J J aQD J H.f_add (nm_add L) J ⟨by u_nil,?_⟩;walk_nrmf addFn;u_c aQT kn_rely hK;u_cond A kn_rely hK;u_c aQT kn_rely hK;u_c aQT kn_rely hK;u_reg kn_rely hK;u_op kn_rely hK;u_op kn_rely hK;u_c aQP kn_rely hK;u_cond A kn_rely hK;u_reg kn_rely hK;u_op kn_rely hK;u_in kn_rely hK;refine aRP J J aQD λKx FQ=>?_;have Kr:=aRo (P:=P) YV YV H.room_tWg (WgLive.cell0 hK.1).choose_spec;have BO:=λes=>aRh (P:=P) YV YV H.room_tWg (WgLive.cell0 hK.1).choose_spec es;go_simp;refine FQ _ _ ⟨?_,?_⟩;{u_none;intro ex hex;have I9:=aQW hex;simp[go_sem,BO]at I9};clear FQ Kx Kr BO;refine aQ8 λw₁ h₁=>?_;refine⟨J,_,λw₁=>aRJ .releaseMerge Xy J J aQD J H.f_relMerge (x_relMerge_n L) (x_relMerge_b L) (x_relMerge_x L) (x_relMerge_f L)<|by simp[Act.eval,stA],λw₁=>?_⟩;walk_nrm;have hT:True:=trivial;u_c aQP rt hT;u_c aQT rt hT;u_reg rt hT;exact aQ8 λw₂ h₂=>λw₃=>⟨_,aRO .disable Xy J J aQD J H.f_disable (x_disable_n L) (x_disable_b L) (x_disable_x L)<|x_disable_f L⟩
theorem aDn(H:WgLib P L)(oV:c.mode=.returning)(hT:QuitsD P qt 0 (G c cs))(w)(hK:WgLive L.tWg Wg w/\Has C (k-1) val w):Goes P ah (RW L.tWg Wg C n Low<|k-1) DC0 (AtR0 P L.tWg Wg C n Low k val) 23 (G ((baseD L.done).at ⟨#[ak Wg,F,F,F],[]⟩ [.code<|body_done L])<|c::cs) w:=by have tr:∀a b c,RW _ Wg C n _ _ a b->RW _ Wg C n _ _ b c->RW L.tWg Wg C n Low (k-1) a c:=λ_ _ _ h1 h2=>h1.trans h2;(have hq:∀g w g',AtR0 P L.tWg Wg C n Low k val g w->bQ P ah g w≠.go g' w #[]:=by rintro g w g' ⟨_,_,g2,e,_⟩ e';grind);have h1:=meet tr (λw=>aRc w) hq (aDm (n:=n) (Low:=Low) (c:=c) (cs:=cs) H w hK)<|doneN (Own:=IB) (Rd:=IB) (n:=n) (Low:=Low) H oV hT w hK;refine aqx ?_ h1;rintro g w' ⟨⟨_,g2,eF,hgo⟩,n',hg⟩;rcases aRa hg with hs|⟨n2,rfl,hs⟩;{exact hs w'<|aRc w'};exfalso;have⟨g2',w2,es2,e2,_,uV⟩:=hs w'<|aRc w';rw[eF w']at e2;simp at e2;obtain⟨rfl,rfl,_⟩:=e2;have h2:=meet tr (λw=>aRc w) hq (hgo w') uV;(have key:∀{m:Nat} {g:bP} {w:ae},Goes P ah (RW L.tWg Wg C n Low<|k-1) DC0 (λg w=>(∀w₁,∃g6,bQ P ah g w₁=.go g6 w₁ #[Go.ConcR.mk .disable])/\∃n',Goes P ah (RW L.tWg Wg C n Low<|k-1) (DWs Wg IB IB C n k) (AtR0 P L.tWg Wg C n Low k val) n' g w) m g w->False:=by intro m;induction m with|zero=>(intro g w h;have⟨hd,n3,hg3⟩:=h w<|aRc w;have⟨g6,e6⟩:=hd w;rcases aRa hg3 with zo|⟨n4,rfl,zo⟩;{have⟨_,_,g7,e7,_⟩:=zo w<|aRc w;rw[e6]at e7;simp[Go.ConcR.mk]at e7};have⟨g7,w7,es7,e7,⟨_,pO⟩,_⟩:=zo w<|aRc w;rw[e6]at e7;simp at e7;obtain⟨_,_,rfl⟩:=e7;exact(pO (Go.ConcR.mk .disable) Xy).2.1 J)|succ m ih=>intro g w h;rcases aRa h with zo|⟨m',e,zo⟩;{exact ih (by cases m with|zero=>exact zo|succ m=>exact .inl zo)};have⟨g',w',es,_,_,hn⟩:=zo w<|aRc w;grind);grind
end
end gy
end
section
namespace gy
open Go Go.Conc Twin
open Go.ConcN (sumTo upd sumTo_upd upd_ne upd_same)
variable{B:dE}{S:aS}{E:dP}{n:Nat}{e:Event}{P:gB}{fo s:Nat->Prop}{Stop:aS->bP->ae->Prop}{w:ae}
def aD5(h:qc S E e)(hS:∀b,S b->b<n/\¬B.dI b)(H:∀b,E.rd b->b<n/\¬B.dI b):Jg B n e:=by have⟨loc,wr,sy⟩:=e;cases loc with|cell a=>exact h.e (λx=>⟨(hS _ x).2,(hS _ x).1⟩) λx=>⟨(H _ x.1).2,(H _ x.1).1⟩|obj r=>exact h.2.e (λx=>⟨(hS _ x).2,(hS _ x).1⟩) λx=>⟨(H _ x.1).2,(H _ x.1).1⟩|mark m=>exact h|_=>exact h.e
def aq3(h:qc S E e)(hS:∀b,S b->b<n/\¬B.wg b)(hE:∀b,E.rd b->b<n/\¬B.wg b):EvL (yR B) n e:=
 have h:=Rq<|aD5 (B:={B with dI:=B.wg}) h hS hE
 ⟨λx hx H=>h.1 x hx (by generalize x.loc=l at H⊢;cases l<;>first|exact⟨H.1,H.1⟩|exact H),h.2⟩
def aD6{g}(h:az P A E Stop S g w):(∀b,S b->b<w/\¬(s b\/fo b))->(∀b,E.rd b->b<w/\¬s b)->∀gs sl t q,gs[0]? =g->Leavers P t gs q->Past (yR<|bz fo s) w t->kT (λb=>s b\/fo b) w->∃N S' g' w' gs' H t' q',runNT P N (crowd gs w sl) t=(.next<|crowd gs' w' H,t')/\gs'[0]? =Y g'/\Leavers P t' gs' q'/\Past (yR<|bz fo s) w' t'/\kT (λb=>s b\/fo b) w'/\Stop S' g' w':=by induction h with| @stop S g w h=>exact λ_ _ gs sl t q h0 hL hP bY=>⟨0,S,g,w,gs,sl,t,q,J,h0,hL,hP,bY,h w<|bg.refl _ _ _⟩| @step S g w hr f hs Om ih=>intro hS hEr;(have one:∀aPV,(∀d1 gs sl t q,sumTo gs.size q<aPV->gs[0]? =g->Leavers P t gs q->Past (yR<|bz fo s) w t->kT (λb=>s b\/fo b) w->∃N S' g' w' gs' H t' q',runNT P N (crowd gs (w.at d1) sl) t=(.next<|crowd gs' w' H,t')/\gs'[0]? =Y g'/\Leavers P t' gs' q'/\Past (yR<|bz fo s) w' t'/\kT (λb=>s b\/fo b) w'/\Stop S' g' w')->∀d0 gs sl t q,sumTo gs.size q<=aPV->gs[0]? =g->Leavers P t gs q->Past (yR<|bz fo s) w t->kT (λb=>s b\/fo b) w->∃N S' g' w' gs' H t' q',runNT P N (crowd gs (w.at d0) sl) t=(.next<|crowd gs' w' H,t')/\gs'[0]? =Y g'/\Leavers P t' gs' q'/\Past (yR<|bz fo s) w' t'/\kT (λb=>s b\/fo b) w'/\Stop S' g' w':=by intro aPV abM d0 gs sl t q hM h0 hL hP bY;(have haw:∀y∈gs,awake y:=by intro y hy;obtain⟨i,hi,rfl⟩:=acJ.1 hy;rcases OT i with rfl|tY;{grind[awake_of]};{exact awake_of<|(hL.old i _ tY Zv).status.e .inl Zv});have⟨i,y,d,H,hi,hg,alB⟩:=aRT (P:=P) (w:=w.at d0) (sl:=sl) haw Zv;have AZ:(w.at d0).at d=w.at d:=J;rw[AZ]at alB;rcases OT i with rfl|tY;{(obtain rfl:y=g:=Zv);have⟨hgo,hG⟩:=hs (w.at d)<|bg.at _ _ _ _;have hrn:=Om (w.at d)<|bg.at _ _ _ _;have JW:=aRb (P:=P) (sl:=H) (i:=0) hi<|show bQ P (0==0) _ (w.at d)=_ from hgo;have aO:0<gs.size:=Zv;have alC:kT (λb=>s b\/fo b) (f<|w.at d).2.1:=hG.okT (w:=w.at d) ⟨bY.obj,bY.low,bY.uB⟩ hS;have hz:=hG.size;have Hl:w<=(f<|w.at d).2.1.heap.size:=hz;(have Eu:∀b,grow S (w.at d) (f<|w.at d).2.1 b->b<(f<|w.at d).2.1.heap.size/\¬(s b\/fo b):=by rintro b (hb|⟨h1,h2⟩);{grind};exact⟨h2,λz=>absurd (bY.low b z).2<|Nat.not_lt.2 h1⟩);have OC:∀b,E.rd b->b<(f<|w.at d).2.1.heap.size/\¬s b:=Zv;have⟨N,S2,g2,w2,qO,qj,t2,q2,tX,k1,k2,k3,k4,k5⟩:=ih (w.at d) (bg.at _ _ _ _) Eu OC ((gs.map<|woken P y (f<|w.at d).1 (f<|w.at d).2.1).setIfInBounds 0 (f<|w.at d).1) H (t++MemOp.ofEvents 0 y.frame.fn y.frame.place (f<|w.at d).2.2) q (by simp[aO]) ⟨λj x hj hx=>by (have fE:0≠j:=YV);rw[BZ fE,Jc]at hx;obtain⟨z,hz,rfl⟩:=EC.1 hx;have hq:=hL.old j z hj hz;rw[woken_quitsD hq,aRf t YV _ (λop bu=>by obtain⟨e,_,rfl⟩:=aQR bu;rfl)];exact hq,λj hj=>by rw[aRf t (g':=0) Zv _ (λop bu=>by obtain⟨e,_,rfl⟩:=aQR bu;rfl)];exact hL.above j<|by simpa using hj⟩ ((hP.mono (B':=(f<|w.at d).2.1.heap.size) Hl).own λe he=>aq3 (B:=bz fo s) (hG.evs e he) (λb hb=>⟨(Eu b hb).1,λz=>(Eu b hb).2<|.inl z⟩) OC) alC;refine⟨N+1,S2,g2,w2,qO,qj,t2,q2,?_,k1,k2,k3,k4,k5⟩;simp only[runNT,alB,JW];exact tX};{have hq:=hL.old i y tY hi;(have dL:(i==0)=false:=Xz);have aO:i<gs.size:=Zv;cases Dk:q i with|zero=>rw[Dk]at hq;rw[hq.1]at hg;cases hg|succ k=>rw[Dk]at hq;rcases hq with⟨X9,_⟩|⟨_,g',JX,hm,TL,AO⟩;{grind};have JW:=aRb (P:=P) (sl:=H) (i:=i) hi (by rw[dL];exact TL<|w.at d);(have gV:((gs.map<|woken P y g'<|w.at d).setIfInBounds i g').size=gs.size:=Xy);(have atI:sumTo gs.size (upd q i k)+(k+1)=sumTo gs.size q+k:=by have:=sumTo_upd q k id aO;simpa[Dk]using this);have⟨N,S2,g2,w2,qO,qj,t2,q2,tX,aD7⟩:=abM d ((gs.map<|woken P y g'<|w.at d).setIfInBounds i g') H (t++MemOp.ofEvents i y.frame.fn y.frame.place JX) (upd q i k) (by rw[gV];omega) (by (have fE:i≠0:=YV);rw[BZ fE,Jc,h0];simp only[af5,iR];unfold Go.Conc.woken;grind[again_running]) ⟨λj x hj hx=>by by_cases uQ:i=j;{grind[ConcN.upd_same,Deaf_own]};rw[BZ uQ,Jc]at hx;obtain⟨z,hz,rfl⟩:=EC.1 hx;have TM:=hL.old j z hj hz;rw[woken_quitsD TM,aQ4 q k<|Ne.s uQ,aRf t uQ _ (λop bu=>by obtain⟨e,_,rfl⟩:=aQR bu;rfl)];exact TM,λj hj=>by rw[aRf t (g':=i) YV _ (λop bu=>by obtain⟨e,_,rfl⟩:=aQR bu;rfl)];exact hL.above j<|by simpa using hj⟩ (hP.mute YV hm) bY;refine⟨N+1,S2,g2,w2,qO,qj,t2,q2,?_,aD7⟩;simp only[runNT,alB,JW];exact tX});(have main:∀aPV d0 gs sl t q,sumTo gs.size q<=aPV->gs[0]? =g->Leavers P t gs q->Past (yR<|bz fo s) w t->kT (λb=>s b\/fo b) w->∃N S' g' w' gs' H t' q',runNT P N (crowd gs (w.at d0) sl) t=(.next<|crowd gs' w' H,t')/\gs'[0]? =Y g'/\Leavers P t' gs' q'/\Past (yR<|bz fo s) w' t'/\kT (λb=>s b\/fo b) w'/\Stop S' g' w':=by intro aPV;induction aPV with|zero=>exact λd0 gs sl t q hM=>one 0 YV d0 gs sl t q hM|succ aPV YL=>exact λd0 gs sl t q hM=>one (aPV+1) (λd1 gs1 pR t1 q1 aO=>YL d1 gs1 pR t1 q1 YV) d0 gs sl t q hM);exact λgs sl t q=>main _ w.drawn gs sl t q<|fC _
def aq4{fr cs cs2 Q}(h:az P A E Stop S {frame:=fr,callers:=cs,status:=.running,dying:=U} w)
 (hS:∀b,S b->b<w/\¬(s b\/fo b))(hE:∀b,E.rd b->b<w/\¬s b)
 (hn:∀S' g' w',Stop S' g' w'->∃fr' H,g'={frame:=fr',callers:=H,status:=.running,dying:=U}/\ag.Reach (bz fo s) P fr' H w' Q cs2):ag.Reach (bz fo s) P fr cs w Q cs2:=by
 intro gs sl t q hh;have⟨N,S1,g1,w1,gs1,pR,t1,q1,hr,k1,k2,k3,k4,k5⟩:=aD6 h hS hE gs sl t q hh.own hh.UN hh.O0 hh.ok.okT;obtain⟨fr',H,rfl,hR⟩:=hn _ _ _ k5;have⟨K,B2,qO,ql,w2,qj,t2,q2,hr2,GZ,oU⟩:=hR _ pR t1 q1 ⟨k1,k2,k3,k4.okB⟩;exact⟨N+K,B2,qO,ql,w2,qj,t2,q2,ac4 hr hr2,GZ,oU⟩
end gy
end
section
namespace gy
open Go Go.Conc Twin
open Go.ConcN (upd upd_same upd_ne WgLive PayAt Has RW WSit WD CTag Vc cnt sumTo)
open Go.ConcR (stA smA rd wr KK WgAt DC0 Payload Bk)
section
variable[Payload]{K}{X:aT K}{ty n}{aPY:Type}{dU:aPY->bP}{fZ:aPY->bP->ae->Prop}{gp:aPY->aS->ae->Prop}{dM Good gs w t E S0 q sl}
theorem aT.aD8(H:X.Fit)(aaD:∀k l v S w,dM k l v S w->∀B,(∀b,B.dI b->¬S b)->aK B v)(hA:∀u g w,fZ u g w->g.status=.running)(hE:∀u,(dU u).status=.running)(xq:∀k l v S w w1,dM k l v S w->bg S (X.side k) w w1->dM k l v S w1)(hn:n<2147483648) (QU:∀u g w,fZ u g w->WgLive ty X.Wg w->∃m,Goes X.P A (RL ty X.Wg) DC0 (X.AtW1 ty (dU u)<|fZ u) m g w)(h:X.Start n E S0 gs w t q){a}(ha:gs[0]? =Y a){ts}(hR:az X.P A E (X.mg (λks E S g w=>∃u,X.AtClose ty n (fZ u) (gp u) dM Good ks E S g w) ts [] 0 E) S0 a w):∃u aPV gs1 w1 pR t1 q1 ks S1 Sw G1,runNT X.P aPV (crowd gs w sl) t=(.next<|crowd gs1 w1 pR,t1)/\gs1[0]? =dU u/\Leavers X.P t1 gs1 q1/\Past (qg λb=>X.jF b\/b=X.Wg) w1 t1/\gp u S1 w1/\O ks=n/\Good ks/\(∃E1,X.Mem ks E1 S1 G1 Sw w1)/\WgAt ty X.Wg w1 0 0/\ PayAt X.C n w1/\kT X.dI w1/\∀i k,ks[i]? =Y k->∃v,dM k (msgs ts i) v (Sw i) w1/\Has X.C i v w1:=by have⟨D,τ,hI⟩:=h.inv ha hR;have⟨aPV,gs1,w1,pR,t1,dd,qj,D5,E1,S1,G1,Am,q1,E8,D1,jT,a1,r1,r2,r3,r4,r5,⟨u,r6⟩,r7⟩:=aT.aCW (sl:=sl) H _ _ D τ J J hI;have⟨qO,w2,ops,E2,D2,JI,s1,s2,s3⟩:=r3.close (dU:=dU u) (sl:=qj) H (by grind[cases aT.Start]) r4 r6;have⟨M',gs3,w3,sl3,t3,dW3,E3,S3,G3,Sw3,q3,st3,D3,τ3,p1,p2,p3,p4⟩:=aT.aDe (sl:=qj) H aaD (hA u) (hE u) r6.fin xq hn (QU u) _ _ D2 _ (fC _) J s3;have⟨⟨q',d1⟩,d2,d3⟩:=p2.done h.O0;have⟨wa,wb,dD,nJ⟩:=p2.wg;obtain⟨_,rfl,rfl⟩:=nJ.fin_inv trivial;refine⟨u,aPV+(M'+1),gs3,w3,sl3,t3,q',D5,S3,Sw3,G3,ac4 r1 ?_,p3,d1,d2,p4,p2.len,r6.F9,⟨E3,p2.base.mem⟩,dD,p2.pay,p2.base.uI,λi k hk=>?_⟩;{simp only[runNT,r2,s1];exact p1};grind
end
section
open Go.RowKit Go.Conc.Lib Go.ConcR.Gen Go.ConcN.Gen
variable{L K}{X:aT K}{b₀:bK}{a₀ zW i₀ Ht k₀ cs}
theorem aEa(H:WgLib X.P L){E S w}{gp:aS->ae->Prop}(hM:∀w1,bg S E w w1->gp S w1):az X.P A E (λS g w=>X.AtKd L.tWg (aaG L X.Wg (b₀.at a₀<|dm zW (i₀::Ht)::k₀) cs) g w/\gp S w) S (G ((base L.wait).at ⟨#[ak X.Wg]++iD 83 F,[]⟩ [.code<|body_wait L])<|b₀.at a₀ (dm zW (i₀::Ht)::k₀)::cs) w:=by lib_facts;simp only[body_wait,waitFn,iT];apply az.ctl J (λ_=>aQT);apply az.ctl J (λ_=>aQZ (t:=A) aQr);apply az.ctl J (λ_=>stepG_region);refine az.stop λw1 hk=>⟨⟨J,λhF=>⟨_,aRO .disable Xy J J aQD J H.f_disable (x_disable_n L) (x_disable_b L) (x_disable_x L)<|x_disable_f L,3,?_⟩⟩,hM w1 hk⟩;walk_nrm;u_c aQP bD hF;u_c aQ6 bD hF;u_c aRz bD hF;exact aQ8 λw₂ h₂=>⟨_,J,Xy,Xy⟩
end
end gy
end
section
namespace ag
open Go Go.Conc
variable{B P}
def Ff:Code->Code| .seq a b=>.seq (Ff a)<|Ff b| .cond o a b=>.cond o (Ff a)<|Ff b| .block id a=>.block id<|Ff a| .loop a=>.loop<|Ff a| .skip=>.skip| .exit id=>.exit id| .region i o d=>.region i o d|_=>.refuse ""
variable{S}
def Tv:∀c:Code,vU A S (Ff c) c| .seq a b=>.seq (Tv a)<|Tv b| .cond _ a b=>.cond (Tv a)<|Tv b| .block _ a=>.block<|Tv a| .loop a=>.loop<|Tv a| .skip=>.same _ λ_=>J| .exit _=>.same _ λ_=>J| .region .. =>.same _ λ_=>J| .ret=>.cut _| .label _=>.cut _| .scope _=>.cut _| .goto _=>.cut _| .rangeFunc .. =>.cut _| .refuse _=>.cut _
def mJ:List Bool->Code->Code|[],_=>.ret|b::p,.seq x y=>if b then .seq (Ff x) (mJ p y)else .seq (mJ p x) (.refuse "")|b::p,.cond o x y=>if b then .cond o (.refuse "") (mJ p y)else .cond o (mJ p x) (.refuse "")|b::p,.block id x=>.block id<|mJ (b::p) x|b::p,.loop x=>.loop<|mJ (b::p) x|_::_,_=>.refuse ""
def Qu:∀(p:List Bool) (c:Code),S=jd p c->vU A S (mJ p c) c|[],c,h=>(by simp only[jd]at h;subst h;simp only[mJ];exact .stop)|b::p,.seq x y,h=>(by simp only[jd]at h;simp only[mJ];split;{rw[if_pos ‹_›]at h;exact .seq (Tv x)<|Qu p y h};rw[if_neg ‹_›]at h;exact .seq (Qu p x h)<|.cut _)|b::p,.cond o x y,h=>(by simp only[jd]at h;simp only[mJ];split;{rw[if_pos ‹_›]at h;exact .cond (.cut _)<|Qu p y h};rw[if_neg ‹_›]at h;exact .cond (Qu p x h)<|.cut _)|b::p,.block id x,h=>(by simp only[mJ];exact .block<|Qu _ x h)|b::p,.loop x,h=>(by simp only[mJ];exact .loop<|Qu _ x h)|_::_,.skip,_|_::_,.label _,_|_::_,.scope _,_|_::_,.goto _,_|_::_,.exit _,_|_::_,.rangeFunc ..,_|_::_,.ret,_|_::_,.refuse _,_|_::_,.region ..,_=>.cut _
def aj1(L:rG B P)(C:Gf B P){p c a}{b:bK}{k cs cs2 w Q}{K:(Nat->Question->Nat)->Nat->Act->ae->Prop} (hS:S=jd p c)(fE:S≠.ret)(hc:codeOk P B.let_ (mJ p c)=A)(ha:bZ (B.cut (M (R w))) a.tmps)(hd:a.defers=[])(qL:∃fn,P.funcs[b.fn]? =Y fn)(hk:b.kind=.normal) (xE:∀t d,(mJ p c).wp P (λe H w'=>e=.ret/\K t d H w') a<|re w t d) (Yb:∀H w' l,On w w'->bZ (B.cut w') H.tmps->H.defers=[]->(∃t d t' j,K t d H<|re w' t' j)->Reach B P (b.at H<|.code S::l) cs w' Q cs2):Reach B P (b.at a<|.code c::k) cs w Q cs2:=agQ (K:=λt d e H w'=>e=.ret/\K t d H w') L C (Qu p c hS) hc ha hd qL hk (λt d=>aQ3 (xE t d) Zv) (λ_ _ _ _ _ ⟨_,_,_,_,e,_⟩=>aQC) (λ_=>fE) (λh=>by cases h) (λ_ H w' l h1 h2 h3 ⟨t,d,t',j,_,hK⟩=>Yb H w' l h1 h2 h3 Zv)
end ag
end
section
namespace ag
open Go Go.Conc
variable{B P}
structure AtRet(P:gB)(fn:Func)(qU:ai->ae->Prop)(_:dE)(fr:bK)(w:ae):Prop where
 mode:fr.mode=.returning
 defers:fr.defers=[]
 kind:fr.kind=.normal
 qL:P.funcs[fr.fn]? =Y fn
 aIo:P.inits.idxOf? fr.fn=U
 ex:∃v,∀d,(results fn fr.tmps).run P (w.at d)=.ok v (w.at d)/\(results fn fr.tmps).events P (w.at d) #[]=#[]/\qU v (w.at d)
def aIp(jF n):Past jF n #[]:=⟨λsaid=>by rintro⟨i,j,_,⟨a,b,H,_⟩,_⟩;simp[Trace.act?]at H,λi a H=>by simp[touchAt,Trace.act?]at H,λi g hg=>by simp[Trace.g?]at hg,J,Xy⟩
def akm{m m':Machine}{t t':Trace}{r:Stepped×Trace}:∀{N K:Nat},runNT P N m t=(.next m',t')->runNT P K m' t'=r->runNT P (N+K) m t=r|0,K,h,k=>(by simp only[runNT,Ri,aRn]at h;grind)|N+1,K,h,k=>by rw[Nat.add_right_comm];simp only[runNT]at h⊢;cases hs:stepT P m with|mk s ops=>rw[hs]at h;cases s with|ended o w=>simp at h|next m1=>exact akm h k
def as8{fr w fn qU}(bY:pz B w)(h:Reach B P fr [] w (AtRet P fn qU) []):∃N H o w' t',runNT P (N+1) (solo (G fr []) w) #[]=(.ended o w',t')/\runN P N (solo (G fr []) w)=.next H/\step P H=.ended o w'/\Conc.Good P qU H o w' t':=by have⟨N,B',gs,fr',w',sl,t,q,hr,hh,ha⟩:=h #[G fr []] U _ (λ_=>0) ⟨J,leavers_one P _,aIp _ _,bY⟩;have⟨v,hv⟩:=ha.ex;(have hG:Goes P A AtRel (λ_ _ es=>∀e∈es,EvL (yR B') w' e) (AtEnd P (yR B') w' qU) 0 (G fr' []) w':=by rintro w2 ⟨d,rfl⟩;have⟨r1,r2,r3⟩:=hv d;have IU:(results fn fr'.tmps).runT P (w'.at d) #[]=(.ok v<|w'.at d,#[]):=Y0;refine⟨J,v,seen P fr'.fn #[],?_,λe he=>absurd (aRu he) Xy,r3⟩;simp only[G,bQ,unwind,ha.mode,ha.defers,ha.qL,IU,doReturn,ha.kind,ha.aIo,GStep.after,zx,af9,kG,jX]);have⟨aPV,H,o,w3,t3,k1,k2,k3,k4⟩:=beside_ends Zv (sl:=sl) hh.own hh.UN hh.O0 hG;refine⟨N+aPV,H,o,w3,t3,?_,?_,k3,k4⟩;{rw[Jf];exact akm hr k1};have hK:runNT P aPV (crowd gs w' sl) t=(.next H,(runNT P aPV (crowd gs w' sl) t).2):=(by grind[runNT_fst]);rw[<-runNT_fst P _ _ _,solo_eq_crowd,akm hr hK]
end ag
end
