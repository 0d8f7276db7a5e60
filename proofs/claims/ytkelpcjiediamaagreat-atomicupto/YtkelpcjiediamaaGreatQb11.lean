import Derived.Test.YtkelpcjiediamaaGreatQb10
set_option maxRecDepth 100000
set_option maxHeartbeats 0
set_option linter.all false
namespace Go.Proofs.YtkelpcjiediamaaGreat
open Go renaming Frame→aV,Goroutine→aX,Program→dO,TypeId→bW,Value→aj,World→ah,stepG→aW
open Option renaming none→af,some→ae
section
namespace eX
open Go Go.Conc Twin
open Go.ConcN (upd upd_same upd_ne WgLive PayAt Has RW WSit WD CTag Vc cnt sumTo RelBy cell_of_block bk_cell Vc_le allQuit_of)
open Go.ConcR (stA smA rd wr KK WgAt DC0 Payload Bk)
section
variable [Payload]{K:Type}{X:bn K}{ty:bW}{n:Nat}{di:aX}{Anch:aX->ah->Prop}{Mid:aC->ah->Prop}{bT:K->List aj->aj->aC->ah->Prop}
 {t0:Trace}{ks:List K}{gs:Array aX}{w w':ah}{t:Trace}{tag:iR}{dW:Nat->Nat}{E:cO}{S0 G:aC}{Sw:Nat->aC}{q:Nat->Nat}{aU:Nat->List aj}{st:Nat->Nat}{D:Nat->T}{τ:T}{sl:Option (Nat×Nat)}
variable{a:aX}{kE:iR}
theorem bn.Inv2.agK(F:X.Fit)(nK:∀(i:Nat) (k:K),ks[i]? =ae k->∀l S g w,X.Fin k l S g w->∃v,X.zX ty n i v g w/\bT k l v S w)(pR:∀k l v S w w1,bT k l v S w->aQ S (X.side k) w w1->bT k l v S w1)
 (h:X.Inv2 ty n di Anch Mid bT t0 ks gs w t tag dW E S0 G Sw q aU st D τ){a':aX}(ha:gs[0]? =ae a){es:Array Event}(hgo:aW X.P true a w=.go a' w' es){S1:aC}{ik:T}
 (hb:X.Base t0 ks ((gs.map<|woken X.P a a' w').setIfInBounds 0 a') w' (t++MemOp.ofEvents 0 a.frame.fn a.frame.place es) kE.deaf dW E S1 G Sw q)(hm:X.Bo ty di Anch Mid E S1 kE ik a' w')
 (kW:∀i k,ks[i]? =ae k->aQ (Sw i) (X.side k) w w')(rw_:∀i,RW ty X.Wg X.C n 0 i w w')(QS:∀b,(b=X.ov\/∃k∈ks,b=X.ch k)->w'.heap[b]? =w.heap[b]?)(pay:PayAt X.C n w')(bH:∃x y,WgAt ty X.Wg w' x y/\Go.ConcN.Mode n (eY st) kE.c x y)
 (acq:kE=.ret->Ep t0.size X.Wg X.m0 n (t++MemOp.ofEvents 0 a.frame.fn a.frame.place es))(lt:ui n kE st<ui n tag st\/(ui n kE st<=ui n tag st/\T.vM ik τ)):X.wR ty n di Anch Mid bT t0 ks aU gs w sl t tag st D τ 0:=by
 have oJ:=h.base.pos;have aB:0<gs.size:=by rw[h.base.size];omega
 have hr:=aCn (P:=X.P) (sl:=sl) (i:=0) ha hgo;refine⟨_,w',_,kE,dW,E,S1,G,Sw,q,st,D,ik,hr,⟨hb,h.len,h.KH,⟨a',by rw[rO<|by simpa using aB],hm⟩,fun i k hk=>?_,h.old,fun κ jd=>?_,?_,bH,pay,fun i hi bU=>?_,acq⟩,lt.imp id fun x=>⟨x.1,.inr ⟨rfl,x.2⟩⟩⟩
 ·obtain⟨x,hx,hs⟩:=h.work i k hk;have bU:=hs.status F fun S g w y=>let ⟨_,z,_⟩:=nK i k hk _ S g w y;z.run;refine⟨x,?_,hs.rely pR (kW i k hk)<|rw_ i⟩;rw[gu<|by omega,wH,hx];simp only[FB,fJ];unfold Go.Conc.woken;split
  ·exact aCU _ (bU.imp id (·.1))
  ·rfl
 ·obtain⟨s',r',hc⟩:=h.qM κ jd;exact⟨s',r',by rw[QS _<|.inr ⟨κ,jd,rfl⟩];exact hc⟩
 ·obtain⟨cap,s',r',hc⟩:=h.over;exact⟨cap,s',r',by rw[QS _<|.inl rfl];exact hc⟩
 ·obtain⟨r,hr,hb⟩:=h.rel i hi bU;exact⟨r,hr.appOther ofEvents_g<|by omega,hb⟩
theorem aqw(h:kE.phi n (Vc n<|eY st)<tag.phi n (Vc n<|eY st)):ui n kE st<ui n tag st:=by unfold ui;omega
theorem Gt(a:Addr)(h:a.block=X.Wg)(wr:Bool):X.NT ⟨.cell a,wr,true⟩:=.inr<|.inr<|.inr<|.inr<|.inl ⟨a,wr,rfl,h⟩
theorem bn.Inv2.aaR(F:X.Fit)(nK:∀(i:Nat) (k:K),ks[i]? =ae k->∀l S g w,X.Fin k l S g w->∃v,X.zX ty n i v g w/\bT k l v S w)(pR:∀k l v S w w1,bT k l v S w->aQ S (X.side k) w w1->bT k l v S w1)(hn:n<2147483648)
 (JB:∀g w,Anch g w->WgLive ty X.Wg w->∃m,Goes X.P true (RL ty X.Wg) DC0 (X.AtW1 ty di Anch) m g w)
 (h:X.Inv2 ty n di Anch Mid bT t0 ks gs w t tag dW E S0 G Sw q aU st D τ)(ha:gs[0]? =ae a)(fU:a.status=.running):X.wR ty n di Anch Mid bT t0 ks aU gs w sl t tag st D τ 0\/(tag=.ret/\a=di/\∀w1,aQ S0 E w w1->Mid S0 w1):=by
 have oJ:=h.base.pos;obtain⟨wa,wb,bH,jO⟩:=h.wg;have akl:WgLive ty X.Wg w:=⟨_,_,bH⟩;have hVn:=Vc_le n<|eY st;obtain⟨a',ha',hm⟩:=h.main;rw[ha]at ha';cases ha';have hCW:X.C≠X.Wg:=iI h.base.gz.1;have refl:RL ty X.Wg w w:=id;have fQ:∀{a':aX} {w2:ah} {es:Array Event} {kE:iR} {f:Nat} {x y:Int},aW X.P true a w=.go a' w2 es->Aside X.Wg w w2->WgAt ty X.Wg w2 x y->(∀e∈es,X.NT e)->deafBehind tag.deaf es=kE.deaf->X.uK ty di Anch kE f a' w2->(∀w1,aQ S0 E w w1->Mid S0 w1)->
  Go.ConcN.Mode n (eY st) kE.c x y->(kE=.ret->Ep t0.size X.Wg X.m0 n (t++MemOp.ofEvents 0 a.frame.fn a.frame.place es))->(kE.phi n (Vc n<|eY st)<tag.phi n (Vc n<|eY st)\/(kE.phi n (Vc n<|eY st)<=tag.phi n (Vc n<|eY st)/\T.vM (T.nat f) τ))->X.wR ty n di Anch Mid bT t0 ks aU gs w sl t tag st D τ 0:=by
  intro a' w2 es kE f x y hgo hA zB dI hd hcs wF TM ac1 aB;obtain⟨k0,kW⟩:=h.base.aside (.inl rfl) h.KH hA;refine h.agK F nK pR ha hgo (S1:=S0) (ik:=T.nat f) ?_ (.fQ hcs fun w1 k=>wF w1<|k0.trans k) kW (fun i=>RW.of_wg hA ⟨_,_,zB⟩ hCW) (fun b hb=>hA.block b ?_) (V4 (hA.block X.C hCW) h.pay) ⟨x,y,zB,TM⟩ ac1<|aB.imp aqw fun z=>⟨by unfold ui;omega,z.2⟩
  ·have:=h.base.fQ (gs':=(gs.map<|woken X.P a a' w2).setIfInBounds 0 a') (fn:=a.frame.fn) (pos:=a.frame.place) (aaM h.base.oV hA) hA.size dI (by simp)<|h.base.IK a a' w2 a'<|.inl rfl;rw[hd]at this;exact this
  ·rcases hb with rfl|⟨κ,jd,rfl⟩
   ·exact iI h.base.gz.2.1
   ·exact(h.base.gz.2.2.2.1 κ jd).1
 cases hm with
 | @pre σ _ _ hT=>
   left;cases σ with
   |step f=>
    obtain⟨a',w2,es,hgo,hG,Au⟩:=hT.2 w<|aQ.refl _ _ _;obtain⟨kW,kS⟩:=h.base.agB hG;have Cb:=kS X.Wg<|.inl rfl;have EZ:=kS X.C<|.inr<|.inl rfl;exact h.agK F nK pR ha hgo (kE:=.pre) (S1:=grow S0 w w2) (ik:=(f w).more) (h.base.step0 hG (by simp)<|h.base.IK a a' w2 a'<|.inl rfl) (.pre Au) kW (fun i=>agH Cb EZ i) (fun b hb=>kS b<|hb.elim (fun e=>.inr<|.inr<|.inl e) fun e=>.inr<|.inr<|.inr e) (V4 EZ h.pay) ⟨wa,wb,bH.of_block Cb,jO⟩ (by simp)<|.inr ⟨bV _,.one<|T.QJ<|.mk f w⟩
   |stop=>
    obtain⟨⟨_,hkd⟩,_⟩:=hT w<|aQ.refl _ _ _;obtain⟨a',hgo,m,hg⟩:=hkd akl;exact fQ hgo (.refl X.Wg w) bH (by intro e he;simp at he;subst he;exact .inl rfl) (kE:=.anch) rfl (.anch hg) (fun w1 k=>(hT w1 k).2) (jO.reopen trivial trivial rfl<|by simp[iR.c]) (by simp)<|.inl (by simp only[iR.phi];omega)
 | @fQ _ f _ _ hcs wF=>
   have idle:∀{a':aX} {f':Nat},aW X.P true a w=.go a' w #[]->X.uK ty di Anch tag f' a' w->f=f'+1->(tag=.ret->Ep t0.size X.Wg X.m0 n t)->X.wR ty n di Anch Mid bT t0 ks aU gs w sl t tag st D (T.nat f) 0:=by
    intro a' f' hgo axP hf ac1;subst hf;exact fQ hgo (.refl X.Wg w) bH (by simp) rfl axP wF jO (fun e=>by rw[aDm];simpa using ac1 e)<|.inr ⟨bV _,.one<|T.II f'⟩
   have w1s:∀{m:Nat} {agM:iR},agM=.w1->Goes X.P true (RL ty X.Wg) DC0 (X.AtW1 ty di Anch) m a w->Go.ConcN.Mode n (eY st) .w1 wa wb->tag.deaf=1->(iR.phi n (Vc n<|eY st) .w1<tag.phi n (Vc n<|eY st)\/(tag=.w1/\f=m))->X.wR ty n di Anch Mid bT t0 ks aU gs w sl t tag st D (T.nat f) 0:=by
    intro m agM _ hg Tv hdf hph;obtain⟨ho,rfl,rfl,_⟩:=Tv.open_inv trivial;rcases aCl hg with mQ|⟨m',rfl,jk⟩
    ·obtain⟨_,ji⟩:=mQ w refl;obtain⟨a',hgo,h0,bM⟩:=ji (Vc n<|eY st) (by omega) (by simpa[Go.ConcN.pend]using bH);have hp:iR.phi n (Vc n<|eY st) .w1<=tag.phi n (Vc n<|eY st):=by rcases hph with h|⟨rfl,_⟩<;>omega
     by_cases hv:Vc n (eY st)=0
     ·obtain⟨m₂,hk⟩:=h0 hv;have e:((Vc n (eY st)+Go.ConcN.pend .w1:Nat):Int)*KK=0:=by rw[hv];simp[Go.ConcN.pend]
      refine fQ hgo (.refl X.Wg w) bH (by intro e he;simp at he;subst he;exact Gt _ rfl _) (kE:=.ke) (by rw[hdf];rfl) (.ke hk) wF ?_ (by simp) (.inl (by simp only[iR.phi]at hp⊢;omega));rw[e];exact .fin trivial<|allQuit_of ho hv
     ·obtain⟨m₂,hk⟩:=bM hv;exact fQ hgo (.refl X.Wg w) bH (by intro e he;simp at he;subst he;exact Gt _ rfl _) (kE:=.w2<|Vc n<|eY st) (by rw[hdf];rfl) (.w2 hk) wF (Tv.reopen trivial trivial rfl (fun vs e=>by cases e;omega)) (by simp)<|.inl (by simp only[iR.phi]at hp⊢;omega)
    ·obtain⟨a',w2,es,hgo,⟨rfl,rfl⟩,kZ⟩:=jk w refl;refine fQ hgo (.refl X.Wg w2) bH (by simp) (kE:=.w1) (by rw[hdf];rfl) (.w1 kZ) wF Tv (by simp) ?_;rcases hph with h|⟨rfl,rfl⟩
     ·exact .inl h
     ·exact .inr ⟨bV _,.one<|T.II m'⟩
   cases hcs with
   |anch hg=>
    left;rcases aCl hg with mQ|⟨m',rfl,jk⟩
    ·obtain⟨m,uS⟩:=JB a w (mQ w refl) akl;exact w1s rfl uS (jO.reopen trivial trivial rfl<|by simp) rfl<|.inl (by simp only[iR.phi];omega)
    ·obtain⟨a',w2,es,hgo,⟨rfl,rfl⟩,kZ⟩:=jk w refl;exact idle hgo (.anch kZ) rfl<|by simp
   |w1 hg=>exact .inl<|w1s rfl hg jO rfl<|.inr ⟨rfl,rfl⟩
   | @w2 _ _ _ vs hg=>
     left;rcases aCl hg with mQ|⟨m',rfl,jk⟩
     ·obtain⟨_,ji⟩:=mQ w refl;obtain⟨ho,rfl,rfl,X0⟩:=jO.open_inv trivial;obtain⟨jf,DL⟩:=X0 vs rfl;have vg:WgAt ty X.Wg w ((Vc n (eY st):Nat)*KK) 0:=by simpa[Go.ConcN.pend,iR.c]using bH
      obtain⟨axQ,axR⟩:=ji (Vc n<|eY st) (by omega) vg;by_cases e:Vc n (eY st)=vs
      ·obtain⟨a',hgo,m₂,hk⟩:=axQ e;refine fQ hgo (aCq w (stA X.Wg) _) (vg.setSt _) (by intro e he;simp at he;rcases he with rfl|rfl<;>exact Gt _ rfl _) (kE:=.wr) rfl (.wr hk) wF ?_ (by simp) (.inl (by simp only[iR.phi];omega));exact .reg trivial ho<|by omega
      ·obtain⟨a',hgo,m₂,hk⟩:=axR e;exact fQ hgo (.refl X.Wg w) bH (by intro e he;simp at he;subst he;exact Gt _ rfl _) (kE:=.anch) rfl (.anch hk) wF (jO.reopen trivial trivial rfl<|by simp[iR.c]) (by simp)<|.inl (by simp only[iR.phi];omega)
     ·obtain⟨a',w2,es,hgo,⟨rfl,rfl⟩,kZ⟩:=jk w refl;exact idle hgo (.w2 kZ) rfl<|by simp
   |wr hg=>
    left;rcases aCl hg with mQ|⟨m',rfl,jk⟩
    ·obtain⟨_,a',hgo,m₂,hk⟩:=mQ w refl;exact fQ hgo (.refl X.Wg w) bH (by intro e he;simp at he;subst he;exact .inr<|.inr<|.inr<|.inl ⟨_,rfl,rfl⟩) (kE:=.w3) rfl (.w3 hk) wF jO (by simp)<|.inl (by simp only[iR.phi];omega)
    ·obtain⟨a',w2,es,hgo,⟨rfl,rfl⟩,kZ⟩:=jk w refl;exact idle hgo (.wr kZ) rfl<|by simp
   | @w3 m _ _ hg=>
     left;rcases aCl hg with mQ|⟨m',rfl,jk⟩
     ·obtain⟨_,TF,aqx,axS⟩:=mQ w refl;have blk:wb=0->Go.ConcN.Mode n (eY st) .blk wa wb->X.wR ty n di Anch Mid bT t0 ks aU gs w sl t .w3 st D (T.nat<|m+1) 0:=by
       intro h0 Aw;subst h0;exact fQ (aqx ⟨_,bH⟩) (.refl X.Wg w) bH (by simp) (kE:=.blk) rfl (.blk mQ) wF Aw (by simp)<|.inr ⟨bV _,T.agD m⟩
      generalize D6:iR.c .w3=ct at jO;cases jO with
      |opn h1 _ _=>rw[<-D6]at h1;exact h1.elim
      |reg h1 h2 h3=>exact blk rfl<|.reg trivial h2 h3
      |last L h1 h2 h3 h4=>exact blk rfl<|.last L trivial h2 h3 h4
      |sema h2=>
       obtain⟨a',hgo,m₂,hk⟩:=axS bH;refine fQ hgo (aCq w (smA X.Wg) _) (bH.setSm 0) (es:=semEvents<|smA X.Wg) ?_ (kE:=.w4) (by simp[iR.deaf,deafBehind,semEvents]) (.w4 hk) wF (.fin trivial h2) (by simp) (.inl (by simp only[iR.phi];omega));intro e he;simp[semEvents]at he;rcases he with rfl|rfl|rfl|rfl
       ·exact .inl rfl
       ·exact Gt _ rfl _
       ·exact Gt _ rfl _
       ·exact .inr<|.inl rfl
      |fin h1 _=>rw[<-D6]at h1;exact h1.elim
     ·obtain⟨a',w2,es,hgo,⟨rfl,rfl⟩,kZ⟩:=jk w refl;exact idle hgo (.w3 kZ) rfl<|by simp
   |blk _=>simp at fU
   |w4 hg=>
    left;obtain⟨hq,rfl,rfl⟩:=jO.fin_inv trivial;rcases aCl hg with mQ|⟨m',rfl,jk⟩
    ·obtain⟨_,hx⟩:=mQ w refl;obtain⟨a',hgo,m₂,hk⟩:=hx bH;exact fQ hgo (.refl X.Wg w) bH (by intro e he;simp at he;subst he;exact Gt _ rfl _) (kE:=.ke) rfl (.ke hk) wF (.fin trivial hq) (by simp)<|.inl (by simp only[iR.phi];omega)
    ·obtain⟨a',w2,es,hgo,⟨rfl,rfl⟩,kZ⟩:=jk w refl;exact idle hgo (.w4 kZ) rfl<|by simp
   |ke hg=>
    left;obtain⟨hq,rfl,rfl⟩:=jO.fin_inv trivial;rcases aCl hg with mQ|⟨m',rfl,jk⟩
    ·obtain⟨_,a',hgo,m₂,hk⟩:=mQ w refl;exact fQ hgo (.refl X.Wg w) bH (by intro e he;simp at he;subst he;exact .inr<|.inl rfl) (kE:=.acq) rfl (.acq hk) wF (.fin trivial hq) (by simp)<|.inl (by simp only[iR.phi];omega)
    ·obtain⟨a',w2,es,hgo,⟨rfl,rfl⟩,kZ⟩:=jk w refl;exact idle hgo (.ke kZ) rfl<|by simp
   |acq hg=>
    left;obtain⟨hq,rfl,rfl⟩:=jO.fin_inv trivial;rcases aCl hg with mQ|⟨m',rfl,jk⟩
    ·obtain⟨_,a',hgo,m₂,hk⟩:=mQ w refl;refine fQ hgo (.refl X.Wg w) bH (by intro e he;simp at he;subst he;exact .inr<|.inr<|.inr<|.inr<|.inr ⟨_,rfl,rfl⟩) (kE:=.ret) rfl (.ret hk) wF (.fin trivial hq) (fun _=>?_) (.inl (by simp only[iR.phi];omega));have e1:MemOp.ofEvents 0 a.frame.fn a.frame.place #[Go.ConcR.mk<|.acquire<|stA X.Wg]=#[{g:=0,fn:=a.frame.fn,pos:=a.frame.place,act:=.mark<|.acquire<|stA X.Wg}]:=by rw[aDm];simp[Go.ConcR.ofEvent_mk]
     rw[e1];have hy:(t++ #[({g:=0,fn:=a.frame.fn,pos:=a.frame.place,act:=.mark<|.acquire<|stA X.Wg}:MemOp)])[t.size]? =ae {g:=0,fn:=a.frame.fn,pos:=a.frame.place,act:=.mark<|.acquire<|stA X.Wg}:=by simp
     refine⟨t.size,by rw[act?_of hy],by simp[Trace.g?],⟨0,by simp[Trace.g?],by rw[deaf_old<|bV _];exact h.base.deaf0⟩,fun i hi=>?_⟩;have h1:=hq i hi;have DJ:st i<=6:=by
      have:min (st i) 7=1:=h1;omega
     obtain⟨r,hr,hb⟩:=h.rel i hi DJ;exact⟨r,hr.appOther (x:=0) (by intro op aF;simp at aF;rw[aF])<|by omega,lt_of_act? hr.rel.act,hb⟩
    ·obtain⟨a',w2,es,hgo,⟨rfl,rfl⟩,kZ⟩:=jk w refl;exact idle hgo (.acq kZ) rfl<|by simp
   |ret hg=>
    rcases aCl hg with mQ|⟨m',rfl,jk⟩
    ·exact .inr ⟨rfl,mQ w refl,wF⟩
    ·left;obtain⟨a',w2,es,hgo,⟨rfl,rfl⟩,kZ⟩:=jk w refl;exact idle hgo (.ret kZ) rfl h.acq
end
end eX
end
section
namespace eX
open Go Go.Conc Twin
open Go.ConcN (upd upd_same upd_ne WgLive PayAt Has RW WSit WD CTag Vc cnt sumTo RelBy exists_counted)
open Go.ConcR (stA smA rd wr KK WgAt DC0 Payload Bk)
section
variable [Payload]{K:Type}{X:bn K}{ty:bW}{n:Nat}{di:aX}{Anch:aX->ah->Prop}{Mid:aC->ah->Prop}{bT:K->List aj->aj->aC->ah->Prop}
 {t0:Trace}{ks:List K}{gs:Array aX}{w:ah}{t:Trace}{tag:iR}{dW:Nat->Nat}{E:cO}{S0 G:aC}{Sw:Nat->aC}{q:Nat->Nat}{aU:Nat->List aj}{st:Nat->Nat}{D:Nat->T}{τ:T}{sl:Option (Nat×Nat)}
theorem bn.Inv2.aaS(F:X.Fit)(hA:∀g w,Anch g w->g.status=.running)(hE:di.status=.running)(nK:∀(i:Nat) (k:K),ks[i]? =ae k->∀l S g w,X.Fin k l S g w->∃v,X.zX ty n i v g w/\bT k l v S w)
 (h:X.Inv2 ty n di Anch Mid bT t0 ks gs w t tag dW E S0 G Sw q aU st D τ){i:Nat}{g:aX}(h0:0<i)(hi:i<X.m0)(hg:gs[i]? =ae g)(fU:g.status=.running):X.wR ty n di Anch Mid bT t0 ks aU gs w sl t tag st D τ i:=by
 have hq:=h.base.old i g h0 hi hg;have aB:i<gs.size:=(iU.1 hg).1;have pq:(i==0)=false:=by simp<;>omega
 cases uA:q i with
 |zero=>rw[uA]at hq;rw[hq.1]at fU;cases fU
 |succ m=>
  rw[uA]at hq;rcases hq with⟨hf,_⟩|⟨_,g',es,hm,bU,rF⟩
  ·rw[hf]at fU;cases fU
  have hr:=aCn (P:=X.P) (sl:=sl) (i:=i) hg (by rw[pq];exact bU w);have hb:=h.base.leave (fn:=g.frame.fn) (pos:=g.frame.place) h0 hi hm rF g g' w;obtain⟨a,ha,hmn⟩:=h.main;obtain⟨iP,nJ,BU,acV,_⟩:=hmn.woken hA hE (aQ.refl S0 E w) id g g';have Es:iP=tag\/(tag=.blk/\iP=.w3):=acV.imp (·.1) id;have acX:iP.deaf=tag.deaf:=by rcases Es with rfl|⟨rfl,rfl⟩<;>rfl
  have sil:∀op∈MemOp.ofEvents i g.frame.fn g.frame.place es,op.act.touch?=none:=fun op aF=>by obtain⟨e,he,rfl⟩:=aB1 aF;exact touch_mute<|hm e he
  obtain⟨wa,wb,bH,jO⟩:=h.wg;refine⟨_,w,_,iP,dW,E,S0,G,Sw,upd q i m,st,upd D i<|T.nat m,nJ,hr,⟨acX.symm▸hb,h.len,h.KH,⟨_,by rw[gu<|by omega,wH,ha];rfl,BU⟩,fun i' k' dC=>?_,fun j j0 j1=>?_,h.qM,h.over,⟨wa,wb,bH,NW jO Es⟩,h.pay,fun i' lW h6=>let ⟨r,hr,hb⟩:=h.rel i' lW h6;⟨r,hr.vI sil,hb⟩,fun e=>?_⟩,.inr ⟨?_,.inl ⟨i,aB,?_,fun j hj=>aCa _ _ hj⟩⟩⟩
  ·obtain⟨x,hx,hs⟩:=h.work i' k' dC;have bU:=hs.status F fun S g w y=>let ⟨_,z,_⟩:=nK i' k' dC _ S g w y;z.run;refine⟨x,?_,by rw[aCa D _<|by omega];exact hs⟩;rw[gu<|by omega,wH,hx];simp only[FB,fJ];unfold Go.Conc.woken;split
   ·exact aCU _ (bU.imp id (·.1))
   ·rfl
  ·by_cases e:j=i
   ·subst e;rw[aB8,aB8]
   ·rw[aCa D _ e,aCa q _ e];exact h.old j j0 j1
  ·rcases Es with rfl|⟨_,rfl⟩
   ·exact(h.acq e).app fun i' r _ hr=>hr.vI sil
   ·cases e
  ·rcases Es with rfl|⟨rfl,rfl⟩<;>exact bV _
  ·rw[aB8,h.old i h0 hi,uA];exact T.II m
theorem bn.Inv2.awake(F:X.Fit)(hA:∀g w,Anch g w->g.status=.running)(hE:di.status=.running)(nK:∀(i:Nat) (k:K),ks[i]? =ae k->∀l S g w,X.Fin k l S g w->∃v,X.zX ty n i v g w/\bT k l v S w)
 (h:X.Inv2 ty n di Anch Mid bT t0 ks gs w t tag dW E S0 G Sw q aU st D τ):∀g∈gs,awake g:=by
 intro g hg;obtain⟨j,hj⟩:=alb.1 hg;rcases h.base.Eo hj with rfl|⟨h1,h2⟩|⟨i,k,rfl,hk⟩
 ·obtain⟨a,ha,hm⟩:=h.main;rw[hj]at ha;cases ha;rcases hm.status hA hE with⟨hs,_⟩|⟨_,g0,rfl,_⟩
  ·exact aCt<|.inl hs
  ·exact aCt<|.inr<|.inl rfl
 ·exact aCt<|(h.base.old j g h1 h2 hj).status.elim .inl fun x=>.inr<|.inr x
 ·obtain⟨y,hy,hs⟩:=h.work i k hk;rw[hj]at hy;cases hy;rcases hs.status F fun S g w y=>let ⟨_,z,_⟩:=nK i k hk _ S g w y;z.run with hs|hs
  ·exact aCt<|.inl hs
  ·exact aCt<|.inr<|.inr hs.1
theorem bn.Inv2.aaT(F:X.Fit)(hA:∀g w,Anch g w->g.status=.running)(hE:di.status=.running)(nK:∀(i:Nat) (k:K),ks[i]? =ae k->∀l S g w,X.Fin k l S g w->∃v,X.zX ty n i v g w/\bT k l v S w)
 (h:X.Inv2 ty n di Anch Mid bT t0 ks gs w t tag dW E S0 G Sw q aU st D τ):∃(i:Nat) (g:aX),gs[i]? =ae g/\g.status=.running:=by
 obtain⟨a,ha,hm⟩:=h.main;have wk:∀i,i<n->st i≠1->∃(i:Nat) (g:aX),gs[i]? =ae g/\g.status=.running:=by
  intro i hi bM;have hk:ks[i]? =ae (ks[i]'(h.len.symm▸hi)):=dR _;obtain⟨y,hy,hs⟩:=h.work i _ hk;rcases hs.status F fun S g w y=>let ⟨_,z,_⟩:=nK i _ hk _ S g w y;z.run with hs|⟨_,hs⟩
  ·exact⟨_,y,hy,hs⟩
  ·exact absurd hs bM
 rcases hm.status hA hE with⟨hs,_⟩|⟨rfl,_⟩
 ·exact⟨0,a,ha,hs⟩
 ·obtain⟨wa,wb,_,jO⟩:=h.wg;generalize D6:iR.c .blk=ct at jO;cases jO with
  |opn h1 _ _=>rw[<-D6]at h1;exact h1.elim
  |reg _ _ h3=>
   obtain⟨i,hi,h5⟩:=exists_counted h3;exact wk i hi (by have:5<=min (st i) 7:=h5;omega)
  |last L _ h2 h3 _=>
   exact wk L h2 (by
    have:min (st L) 7=4\/min (st L) 7=3\/min (st L) 7=2:=h3;omega)
  |sema _=>cases D6
  |fin h1 _=>rw[<-D6]at h1;exact h1.elim
theorem bn.aqy(F:X.Fit)(QU:∀k l v S w,bT k l v S w->∀B:ai.bP,(∀b,B.bK b->¬S b)->ai.az B v)(hA:∀g w,Anch g w->g.status=.running)(hE:di.status=.running)(nK:∀(i:Nat) (k:K),ks[i]? =ae k->∀l S g w,X.Fin k l S g w->∃v,X.zX ty n i v g w/\bT k l v S w)(pR:∀k l v S w w1,bT k l v S w->aQ S (X.side k) w w1->bT k l v S w1)(hn:n<2147483648)
 (JB:∀g w,Anch g w->WgLive ty X.Wg w->∃m,Goes X.P true (RL ty X.Wg) DC0 (X.AtW1 ty di Anch) m g w)(N:Nat):∀(A:Nat) (D:Nat->T) (τ:T) {gs:Array aX} {w:ah} {sl:Option (Nat×Nat)} {t:Trace} {tag:iR} {dW:Nat->Nat} {E:cO} {S0 G:aC} {Sw:Nat->aC} {q:Nat->Nat} {st:Nat->Nat},ui n tag st<=A->gs.size=N->
   X.Inv2 ty n di Anch Mid bT t0 ks gs w t tag dW E S0 G Sw q aU st D τ->
 ∃M gs1 w1 jV t1 IP E1 S1 G1 uJ q1 DZ D1 ik,runNT X.P M (crowd gs w sl) t=(.next<|crowd gs1 w1 jV,t1)/\X.Inv2 ty n di Anch Mid bT t0 ks gs1 w1 t1 .ret IP E1 S1 G1 uJ q1 aU DZ D1 ik/\gs1[0]? =ae di/\Mid S1 w1:=by
 refine aqm N ?_;intro A D τ Kz ihV KA gs w sl t tag dW E S0 G Sw q st hAr hN h;obtain⟨i,g,dd,sl',hi,hg,bU⟩:=aDg (P:=X.P) (w:=w) (sl:=sl) (h.awake F hA hE nK)<|h.aaT F hA hE nK;have h':=h.at pR dd;have key:X.wR ty n di Anch Mid bT t0 ks aU gs (w.at dd) sl' t tag st D τ i->∃M gs1 w1 jV t1 IP E1 S1 G1 uJ q1 DZ D1 ik,runNT X.P M (crowd gs w sl) t=(.next<|crowd gs1 w1 jV,t1)/\X.Inv2 ty n di Anch Mid bT t0 ks gs1 w1 t1 .ret IP E1 S1 G1 uJ q1 aU DZ D1 ik/\gs1[0]? =ae di/\Mid S1 w1:=by
  rintro⟨gs1,w1,ops,kE,IP,E1,S1,G1,uJ,q1,DZ,D1,ik,hr,hI,aB⟩;have dS:gs1.size=N:=by rw[hI.base.size,<-hN,h.base.size]
  have fin:(∃M mg w2 lJ t2 dW2 E2 S2 G2 KF q2 st2 D2 Dc,runNT X.P M (crowd gs1 w1 sl') (t++ops)=(.next<|crowd mg w2 lJ,t2)/\X.Inv2 ty n di Anch Mid bT t0 ks mg w2 t2 .ret dW2 E2 S2 G2 KF q2 aU st2 D2 Dc/\mg[0]? =ae di/\Mid S2 w2)->
   ∃M gs1 w1 jV t1 IP E1 S1 G1 uJ q1 DZ D1 ik,runNT X.P M (crowd gs w sl) t=(.next<|crowd gs1 w1 jV,t1)/\X.Inv2 ty n di Anch Mid bT t0 ks gs1 w1 t1 .ret IP E1 S1 G1 uJ q1 aU DZ D1 ik/\gs1[0]? =ae di/\Mid S1 w1:=by
   rintro⟨M,mg,w2,lJ,t2,dW2,E2,S2,G2,KF,q2,st2,D2,Dc,r1,r2,r3,r4⟩;refine⟨M+1,mg,w2,lJ,t2,dW2,E2,S2,G2,KF,q2,st2,D2,Dc,?_,r2,r3,r4⟩;simp only[runNT,bU,hr];exact r1
  rcases aB with hl|⟨hl,hv|⟨rfl,zW⟩⟩
  ·exact fin<|Kz (ui n kE DZ) D1 ik (by omega) (sl:=sl') (bV _) dS hI
  ·exact fin<|ihV D1 ik (hN▸hv) (sl:=sl') (by omega) dS hI
  ·exact fin<|KA ik zW (sl:=sl') (by omega) dS hI
 rcases h'.base.Eo hi with rfl|⟨h1,h2⟩|⟨i,k,rfl,hk⟩
 ·rcases h'.aaR (sl:=sl') F nK pR hn JB hi hg with hx|⟨rfl,rfl,hM⟩
  ·exact key hx
  ·exact⟨0,gs,w,sl,t,dW,E,S0,G,Sw,q,st,D,τ,rfl,h,hi,hM w<|aQ.at S0 E (w.at dd) w.drawn⟩
 ·exact key<|h'.aaS F hA hE nK h1 h2 hi hg
 ·by_cases h8:8<=st i
  ·exact key<|h'.aqp F QU hA hE nK pR hk hi h8
  ·exact key<|h'.aqt F hA hE nK pR hn hk hi (by omega) hg
theorem bn.Inv2.done{B0:Nat}(hP:Past (kD X.gJ) B0 t0)(h:X.Inv2 ty n di Anch Mid bT t0 ks gs w t .ret dW E S0 G Sw q aU st D τ):
 (∃q',Leavers X.P t gs q')/\Past (kD fun b=>X.gJ b\/b=X.Wg) w.heap.size t/\∀(i:Nat) (k:K),ks[i]? =ae k->∃v,bT k (aU i) v (Sw i) w/\Has X.C i v w:=by
 obtain⟨wa,wb,bH,jO⟩:=h.wg;obtain⟨hq,rfl,rfl⟩:=jO.fin_inv trivial;have bU:∀i,i<n->st i=1:=fun i hi=>by
  have:min (st i) 7=1:=hq i hi;omega
 have hw:∀(i:Nat) (k:K),ks[i]? =ae k->∃g,gs[X.m0+i]? =ae g/\∃v m,QuitsD X.P m (dW i) g/\bT k (aU i) v (Sw i) w/\Has X.C i v w:=by
  intro i k hk;have hi:i<n:=h.len▸(dD.1 hk).1;obtain⟨g,hg,hs⟩:=h.work i k hk;refine⟨g,hg,?_⟩;rw[bU i hi]at hs;generalize hd:dW i=dd at hs;generalize hDi:D (X.m0+i)=σ at hs;generalize h1:(1:Nat)=s1 at hs;cases hs with
  |run=>omega
  |KG=>omega
  |fin=>omega
  |done=>omega
  | @fQ v _ m _ _ _ hl h6 hr hh=>
    cases hl with
    |quit hq=>exact⟨v,m,hq,hr,hh⟩
    |_=>omega
 refine⟨?_,?_,fun i k hk=>let ⟨g,_,v,m,_,h1,h2⟩:=hw i k hk;⟨v,h1,h2⟩⟩
 ·have:∀i,∃m,∀g,0<i->gs[i]? =ae g->QuitsD X.P m (Deaf t i) g:=by
   intro i;by_cases h0:0<i
   ·cases hg:gs[i]? with
    |none=>exact⟨0,fun g _ e=>by cases e⟩
    |some g=>
     rcases h.base.Eo hg with rfl|⟨h1,h2⟩|⟨j,k,rfl,hk⟩
     ·omega
     ·exact⟨q i,fun g' _ e=>by cases e;exact h.base.old i g h1 h2 hg⟩
     ·obtain⟨g',kZ,v,m,hq,_⟩:=hw j k hk;rw[hg]at kZ;cases kZ;exact⟨m,fun g' _ e=>by cases e;rw[h.base.deafW j (dD.1 hk).1];exact hq⟩
   ·exact⟨0,fun g e=>absurd e h0⟩
  obtain⟨q',rF⟩:=PD this;exact⟨q',fun i g h0 hg=>rF i g h0 hg,h.base.above⟩
 ·obtain⟨qq,ha,Aj,hh,ji⟩:=h.acq rfl;obtain⟨u,hu,akm⟩:=h.base.base;have O9:∀l,kD X.gJ l->kD (fun b=>X.gJ b\/b=X.Wg) l:=fun l hl=>kD.mono (fun b hb=>.inl hb) hl;have before:∀i k r,uM X.Wg t k r->r<qq->t0.size<=r->i<=r->t.g? i=ae k->HappensBefore t i qq:=by
   intro i k r hr Mc pz hir Ho;have edge:HappensBefore t r qq:=.single (.inr ⟨.marked Mc (.inr hr.rel.act) ha (fun k h1 _=>h.base.norel k<|by omega),hr.rel.heard,hh⟩);rcases Eb i r with aB|DF
   ·exact .trans (.single<|.inl ⟨aB,k,Ho,hr.rel.g⟩) edge
   ·obtain rfl:i=r:=by omega
    exact edge
  obtain⟨z,hz,hzg⟩:=yI.1 Aj;refine⟨h.base.ti.clean,fun i a Yj oI=>?_,fun i g Ho bM hc=>?_,h.base.deaf0,h.base.seen⟩
  ·obtain⟨op,aF,uZ⟩:=aCH Yj;rw[hu]at aF;rcases aCh aF with⟨aB,Yc⟩|⟨_,yz⟩
   ·rcases hP.known i a (by rw[aC0 Yc];exact uZ) oI with hk|⟨hs,hk⟩
    ·left;rw[hu];exact hk.app u
    ·exact .inr ⟨O9 _ hs,hk⟩
   ·rw[<-hu]at aF;rcases akm op yz (by rw[uZ];simp)with h0|⟨j,hj,hgj⟩
    ·left;have:=knows_own aF;rwa[h0]at this
    ·obtain⟨r,hr,Mc,pz⟩:=ji j<|h.len▸hj;have Ho:t.g? i=ae (X.m0+j):=by simp[Trace.g?,aF,hgj]
     rcases Eb r i with aB|DF
     ·obtain⟨⟨ad,h1,h2⟩,h3⟩:=hr.after i aB Ho a Yj;right;rw[h1];exact⟨.inr h2,h3⟩
     ·exact .inl ⟨qq,z,hz,hzg,.inr<|before i _ r hr Mc pz DF Ho⟩
  ·obtain⟨x,hx,pG⟩:=hc;have Yj:touchAt t i=ae x:=hx;obtain⟨op,aF,uZ⟩:=aCH Yj;have akn:=aF;rw[hu]at aF;rcases aCh aF with⟨aB,Yc⟩|⟨_,yz⟩
   ·obtain⟨j,hj,hb⟩:=hP.over i g (by rw[hu,aDo aB]at Ho;exact Ho) bM ((counts_old (u:=u) aB).1 (by rw[<-hu];exact⟨x,hx,pG⟩));have Ju:j<t0.size:=by
     obtain⟨y,hy,_⟩:=yI.1 hj;exact aCK hy
    exact⟨j,by rw[hu,aDo Ju];exact hj,by rw[hu];exact hb_app u hb⟩
   ·have aqz:op.g=g:=by simpa[Trace.g?,akn]using Ho
    rcases akm op yz (by rw[uZ];simp)with h0|⟨j,hj,hgj⟩
    ·rw[aqz]at h0;exact absurd h0 bM
    ·obtain⟨r,hr,Mc,pz⟩:=ji j<|h.len▸hj;have ako:t.g? i=ae (X.m0+j):=by simp[Trace.g?,akn,hgj]
     have hle:i<=r:=Nat.le_of_not_lt fun aB=>hr.rel.after i aB ako ⟨x,hx,pG⟩;exact⟨qq,Aj,before i _ r hr Mc pz hle ako⟩
end
end eX
end
section
namespace eX
open Go Go.Conc Twin
open Go.ConcN (upd upd_same upd_ne WgLive PayAt Has RW WSit WD CTag Vc cnt sumTo)
open Go.ConcR (stA smA rd wr KK WgAt DC0 Payload Bk)
section
variable [Payload]{K:Type}(X:bn K)(ty:bW)(n:Nat)(Anch:aX->ah->Prop)(Mid:aC->ah->Prop)(bT:K->List aj->aj->aC->ah->Prop)(Good:List K->Prop)
structure bn.AtClose(ks:List K)(E:cO)(S:aC)(g:aX)(w:ah):Prop where
 len:ks.length=n
 zV:Good ks
 wg:WgAt ty X.Wg w (n*KK) 0
 aqA:mayWake X.P g=true
 fin:∀(i:Nat) (k:K),ks[i]? =ae k->∀l S g w,X.Fin k l S g w->∃v,X.zX ty n i v g w/\bT k l v S w
 close:∃(g':aX) (E2:cO),g'.status=.running/\(∀b,E2.ro b->E.ro b/\b≠X.Wg)/\(∀b,E2.rd b->E.rd b)/\∀cap s r,w.heap[X.ov]? =ae (.chan cap #[] false s r false)->
  aW X.P true g w=.go g' {w with heap:=w.heap.setIfInBounds X.ov<|.chan cap #[] true s r false} #[⟨.obj X.ov,false,true⟩,⟨.obj X.ov,true,true⟩]/\
  au X.P true E2 (fun S g w=>X.AtKd ty Anch g w/\Mid S w) S g' {w with heap:=w.heap.setIfInBounds X.ov<|.chan cap #[] true s r false}
end
section
variable [Payload]{K:Type}{X:bn K}{ty:bW}{n:Nat}{di:aX}{Anch:aX->ah->Prop}{Mid:aC->ah->Prop}{bT:K->List aj->aj->aC->ah->Prop}{Good:List K->Prop}
 {t0:Trace}{ks:List K}{gs:Array aX}{w:ah}{t:Trace}{E:cO}{S0 G:aC}{Sw:Nat->aC}{q:Nat->Nat}{aU:Nat->List aj}{D:Nat->T}{τ:T}{sl:Option (Nat×Nat)}{o:Option Obj}
theorem agP:∀n,Vc n (eY fun _=>9)=n
 |0=>rfl
 |n+1=>by
  have:=agP n;unfold Vc at*
  simp only[sumTo,this];rfl
theorem bn.Inv1.close{End:List K->cO->aC->aX->ah->Prop}(F:X.Fit)(h:X.Inv1 End o t0 [] ks gs w t 0 E S0 G Sw q aU D τ)(E5:∃cs:Array aj,o=ae (.cells cs Payload.ety)/\cs.size=n){a:aX}(ha:gs[0]? =ae a)(hc:X.AtClose ty n Anch Mid bT Good ks E S0 a w):
 ∃gs1 w1 ops E1 D1 ik,runT X.P (crowd gs w sl) 0=(.next<|crowd gs1 w1 sl,ops)/\gs1.size=gs.size/\X.Inv2 ty n di Anch Mid bT t0 ks gs1 w1 (t++ops) .pre (fun _=>0) E1 S0 G Sw q aU (fun _=>9) D1 ik:=by
 have oJ:=h.base.pos;have aB:0<gs.size:=by rw[h.base.size];omega
 obtain⟨cap,s,r,ho⟩:=h.over;obtain⟨a',E2,fU,Hl,TB,jk⟩:=hc.close;obtain⟨hgo,hR⟩:=jk cap s r ho;have zA:X.ov<w.heap.size:=h.base.mem.low _<|.inr<|.inr<|.inl rfl;have hr:=aCn (P:=X.P) (sl:=sl) (i:=0) ha hgo;have dS:({w with heap:=w.heap.setIfInBounds X.ov<|.chan cap #[] true s r false}:ah).heap.size=w.heap.size:=by simp
 have LG:∀b,b≠X.ov->({w with heap:=w.heap.setIfInBounds X.ov<|.chan cap #[] true s r false}:ah).heap[b]? =w.heap[b]? :=fun b hb=>gu<|iI hb;have akp:({w with heap:=w.heap.setIfInBounds X.ov<|.chan cap #[] true s r false}:ah).heap[X.ov]? =ae (.chan cap #[] true s r false):=rO zA;have aqB:ai.iZ X.bK ({w with heap:=w.heap.setIfInBounds X.ov<|.chan cap #[] true s r false}:ah):=h.base.oV.setObj fun _ v hv=>by simp at hv
 have htp:({w with heap:=w.heap.setIfInBounds X.ov<|.chan cap #[] true s r false}:ah).tape=w.tape/\({w with heap:=w.heap.setIfInBounds X.ov<|.chan cap #[] true s r false}:ah).os=w.os/\({w with heap:=w.heap.setIfInBounds X.ov<|.chan cap #[] true s r false}:ah).output=w.output:=⟨rfl,rfl,rfl⟩;generalize({w with heap:=w.heap.setIfInBounds X.ov<|.chan cap #[] true s r false}:ah)=w' at*
 obtain⟨_,_,nW,nR⟩:=h.base.QO (b:=X.ov)<|.inr<|.inr<|.inl rfl;have kW:∀i k,ks[i]? =ae k->aQ (Sw i) (X.side k) w w':=fun i k hk=>⟨htp.1,htp.2.1,htp.2.2,AU dS.symm,fun b hb=>LG b fun e=>nW i (dD.1 hk).1<|e▸hb,fun b hb=>LG b fun e=>nR i k hk<|e▸hb⟩;have hwk:∀g,woken X.P a a' w' g=g.again w':=fun g=>by
  unfold woken;rw[if_pos];rw[hc.aqA,fU];rfl
 have hb:=h.base.ev0 (w':=w') (gs':=(gs.map<|woken X.P a a' w').setIfInBounds 0 a') (fn:=a.frame.fn) (pos:=a.frame.place) (es:=#[⟨.obj X.ov,false,true⟩,⟨.obj X.ov,true,true⟩]) aqB dS (by
  intro e he;simp only[rP,jC,oN,oO]at he;rcases he with rfl|rfl
  ·refine⟨zA,by simp[MemAct.ofEvent],fun x hx=>?_⟩;simp only[MemAct.ofEvent,MemAct.touch?,fJ]at hx;subst hx;exact .inl ⟨.inr rfl,by simp⟩
  ·refine⟨zA,by simp[MemAct.ofEvent],fun x hx=>?_⟩;simp[MemAct.ofEvent,MemAct.touch?]at hx) (by simp) (h.base.IK a a' w' a'<|.inl rfl)
 obtain⟨ik,zW⟩:=IJ hR;have hD:∃D1:Nat->T,(∀i,0<i->i<X.m0->D1 i=T.nat (q i))/\∀(i:Nat) (k:K),ks[i]? =ae k->∃g,((gs.map<|woken X.P a a' w').setIfInBounds 0 a')[X.m0+i]? =ae g/\X.xM ty n bT i k (aU i) (Sw i) 9 (D1<|X.m0+i) 0 g w':=by
  have axW:∀i,∃σ:T,(0<i->i<X.m0->σ=T.nat (q i))/\∀(j:Nat) (k:K),i=X.m0+j->ks[j]? =ae k->∃g,((gs.map<|woken X.P a a' w').setIfInBounds 0 a')[i]? =ae g/\X.xM ty n bT j k (aU j) (Sw j) 9 σ 0 g w':=by
   intro i;by_cases hi:i<X.m0
   ·exact⟨T.nat<|q i,fun _ _=>rfl,fun j k e=>by omega⟩
   ·cases hk:ks[i-X.m0]? with
    |none=>exact⟨.stop,fun _ h=>absurd h hi,fun j k e dC=>by rw[e,Nat.add_sub_cancel_left,dC]at hk;cases hk⟩
    |some k=>
     obtain⟨g,hg,hs⟩:=h.work (i-X.m0) k hk;have ei:X.m0+(i-X.m0)=i:=by omega
     rw[ei]at hg hs;have uS:((gs.map<|woken X.P a a' w').setIfInBounds 0 a')[i]? =ae (g.again w'):=by rw[gu<|by omega,wH,hg,FB,hwk]
     have sZ:=hs.rely<|kW (i-X.m0) k hk;rcases sZ.status F with hrn|⟨g0,z0,z1,sh,rfl,hW⟩
     ·have hag:g.again w'=g:=aCU _<|.inl hrn;rw[hag]at uS;generalize hDi:D i=σ at sZ;cases sZ with
      | @run Dc _ _ _ hT=>
        refine⟨Dc.more,fun _ h=>absurd h hi,fun j k' e dC=>⟨g,uS,?_⟩⟩;have ej:i-X.m0=j:=by omega
        rw[ej]at hk hT;rw[hk]at dC;cases dC;exact .run hT
      |parked hW=>simp[Go.Conc.parked]at hrn
     ·refine⟨T.stop.more,fun _ h=>absurd h hi,fun j k' e dC=>⟨_,uS,?_⟩⟩;have ej:i-X.m0=j:=by omega
      rw[ej]at hk hW;rw[hk]at dC;cases dC;rw[again_some_closed (k:=1) (c:=X.ov) (z:=z1) (by simp[bn.cs]) akp];exact .KG hW
  obtain⟨D1,hD1⟩:=PD axW;exact⟨D1,fun i h0 h1=>(hD1 i).1 h0 h1,fun i k hk=>(hD1<|X.m0+i).2 i k rfl hk⟩
 obtain⟨D1,hold,aqC⟩:=hD;have Cb:w'.heap[X.Wg]? =w.heap[X.Wg]? :=LG _ h.base.gz.2.1;have EZ:w'.heap[X.C]? =w.heap[X.C]? :=LG _ h.base.gz.2.2.1;refine⟨_,w',_,E2,D1,ik.more,hr,by simp,⟨⟨hb.size,hb.pos,hb.old,hb.above,hb.deaf0,hb.deafW,⟨hb.mem.qL,hb.mem.kU,hb.mem.apart,hb.mem.sH,fun b iG=>hb.mem.KC b (Hl b iG).1,fun b iG=>hb.mem.Gm b<|TB b iG,hb.mem.xJ,hb.mem.low,hb.mem.bK,hb.mem.KD⟩,hb.ti,hb.seen,hb.base,hb.norel,hb.gz,hb.oV⟩,hc.len,fun hW=>(Hl _ hW).2 rfl,⟨a',by rw[rO<|by simpa using aB],.pre zW⟩,aqC,hold,fun κ jd=>?_,⟨cap,s,r,akp⟩,⟨_,_,hc.wg.of_block Cb,?_⟩,?_,fun i hi h6=>by omega,by simp⟩⟩
 ·obtain⟨s',r',hch⟩:=h.qM κ jd;exact⟨s',r',by rw[LG _ (h.base.gz.2.2.2.1 κ jd).2.2];exact hch⟩
 ·have:=Go.ConcN.Mode.opn (j:=n) (D:=eY fun _=>9) (tag:=iR.c .pre) trivial (fun i hi=>.inl rfl) (by simp[iR.c]);rw[agP]at this;simpa[Go.ConcN.pend,iR.c]using this
 ·obtain⟨cs,rfl,hcs⟩:=E5;exact⟨cs,by rw[EZ];exact h.pay,hcs⟩
structure bn.Start(X:bn K)(n:Nat)(E:cO)(S0:aC)(gs:Array aX)(w:ah)(t:Trace)(q:Nat->Nat):Prop where
 size:X.m0=gs.size
 NL:Leavers X.P t gs q
 IB:Past (kD X.gJ) w.heap.size t
 bK:∀b,X.yX b->b<w.heap.size
 own:∀b,S0 b->b<w.heap.size/\¬E.rd b/\b≠X.Wg/\b≠X.C/\b≠X.ov/\¬X.yX b
 rd:∀b,E.rd b->b<w.heap.size/\b≠X.Wg/\b≠X.C/\b≠X.ov/\¬X.gJ b
 ro:∀b,E.ro b->E.rd b\/b=X.Wg
 sp:X.Wg<w.heap.size/\X.C<w.heap.size/\X.ov<w.heap.size/\¬X.yX X.Wg/\¬X.yX X.C/\¬X.yX X.ov/\X.Wg≠X.C/\X.Wg≠X.ov/\X.C≠X.ov
 over:∃cap s r,w.heap[X.ov]? =ae (.chan cap #[] false s r false)
 pay:∃cs:Array aj,w.heap[X.C]? =ae (.cells cs Payload.ety)/\cs.size=n
 oV:ai.iZ X.bK w
theorem bn.Start.inv{End:List K->cO->aC->aX->ah->Prop}(h:X.Start n E S0 gs w t q){a:aX}(ha:gs[0]? =ae a){ts:List qw}(hR:au X.P true E (X.jH End ts [] 0 E) S0 a w):
 ∃D τ,X.Inv1 End (w.heap[X.C]?) t ts [] gs w t 0 E S0 E.rd (fun _ _=>False) q (fun _=>[]) D τ:=by
 have aB:0<gs.size:=(iU.1 ha).1;obtain⟨τ,zW⟩:=IJ hR;have sp:∀b,X.Sp [] b->b=X.Wg\/b=X.C\/b=X.ov:=by
  rintro b (h|h|h|⟨k,hk,_⟩)
  ·exact .inl h
  ·exact .inr<|.inl h
  ·exact .inr<|.inr h
  ·simp at hk
 refine⟨fun i=>T.nat<|q i,τ.more,⟨by simp[h.size],by rw[h.size];exact aB,fun i g h0 _ hg=>h.NL.old i g h0 hg,h.NL.above,h.IB.hears,fun i hi=>by simp at hi,⟨fun b hb=>?_,fun i hi=>by simp at hi,fun i i' hi=>by simp at hi,fun b hb=>?_,h.ro,fun b hb=>hb,fun i k hk=>by simp at hk,fun b hb=>?_,h.bK,fun b hb=>?_⟩,?_,h.IB.seen,⟨#[],by simp,by simp⟩,fun i hi e=>?_,⟨h.sp.2.2.2.2.2.2.1,h.sp.2.2.2.2.2.2.2.1,h.sp.2.2.2.2.2.2.2.2,by simp,by simp⟩,h.oV⟩,⟨a,ha,.run zW⟩,fun i k hk=>by simp at hk,fun i _ _=>rfl,by simp,h.over,fun a' i v bs ha' hb he=>?_,rfl,fun _ _=>rfl,by simp⟩
 ·obtain⟨h1,h2,h3,h4,h5,h6⟩:=h.own b hb;exact⟨h1,h2,fun z=>by rcases sp b z with e|e|e<;>contradiction,h6⟩
 ·obtain⟨h1,h3,h4,h5,h6⟩:=h.rd b hb;exact⟨h1,fun z=>by rcases sp b z with e|e|e<;>contradiction,h6⟩
 ·rcases sp b hb with rfl|rfl|rfl
  ·exact h.sp.1
  ·exact h.sp.2.1
  ·exact h.sp.2.2.1
 ·rcases sp b hb with rfl|rfl|rfl
  ·exact h.sp.2.2.2.1
  ·exact h.sp.2.2.2.2.1
  ·exact h.sp.2.2.2.2.2.1
 ·have hb:=TI.begin (Sh:=X.Sh) h.IB (by
   rintro l (⟨a,rfl,ha⟩|rfl)
   ·exact⟨rfl,fun z=>h.sp.2.2.2.1<|.inl<|ha▸z⟩
   ·exact⟨rfl,fun z=>h.sp.2.2.2.2.2.1<|.inl z⟩)
  have e1:X.O (fun _ _=>False) ([]:List K).length=fun _ _=>False:=by
   funext k l;simp[bn.O]
  have e2:X.Rd ([]:List K)=fun _ _=>False:=by
   funext k l;simp[bn.Rd]
  rw[e1,e2];exact hb
 ·have:=lt_of_act? e;omega
 ·have:=CY zW fun S g w x=>x.running;rw[ha]at ha';cases ha';rw[this]at hb;cases hb
end
end eX
end
section
namespace eX
open Go Go.Conc Twin
open Go.ConcN (sumTo upd sumTo_upd upd_ne upd_same)
variable{B:ai.bP}{S:aC}{E:cO}{n:Nat}{e:Event}{P:dO}{fo s:Nat->Prop}{Stop:aC->aX->ah->Prop}{w:ah}
def art(h:lT S E e)(hS:∀b,S b->b<n/\¬B.bK b)(hE:∀b,E.rd b->b<n/\¬B.bK b):ai.Ei B n e:=by
 obtain⟨loc,wr,sy⟩:=e;cases loc with
 |cell a=>exact h.elim (fun x=>⟨(hS _ x).2,(hS _ x).1⟩) fun x=>⟨(hE _ x.1).2,(hE _ x.1).1⟩
 |obj r=>exact h.2.elim (fun x=>⟨(hS _ x).2,(hS _ x).1⟩) fun x=>⟨(hE _ x.1).2,(hE _ x.1).1⟩
 |mark m=>exact h
 |_=>exact h.elim
def aho(h:lT S E e)(hS:∀b,S b->b<n/\¬B.wg b)(hE:∀b,E.rd b->b<n/\¬B.wg b):EvL (ai.sG B) n e:=
 have h:=ai.Kv<|art (B:=⟨B.wg,B.let_,B.wg⟩) h hS hE
 ⟨fun x hx hs=>h.1 x hx (by generalize x.loc=l at hs⊢;cases l<;>first|exact⟨hs.1,hs.1⟩|exact hs),h.2⟩
def aru{g:aX}(h:au P true E Stop S g w):
 (∀b,S b->b<w.heap.size/\¬(s b\/fo b))->(∀b,E.rd b->b<w.heap.size/\¬s b)->
 ∀(gs:Array aX) (sl:Option (Nat×Nat)) (t:Trace) (q:Nat->Nat),gs[0]? =ae g->Leavers P t gs q->Past (ai.sG<|ai.bz fo s) w.heap.size t->ai.iZ (fun b=>s b\/fo b) w->
 ∃N S' g' w' gs' sl' t' q',runNT P N (crowd gs w sl) t=(.next<|crowd gs' w' sl',t')/\gs'[0]? =ae g'/\Leavers P t' gs' q'/\Past (ai.sG<|ai.bz fo s) w'.heap.size t'/\ai.iZ (fun b=>s b\/fo b) w'/\Stop S' g' w':=by
 induction h with
 | @stop S g w h=>exact fun _ _ gs sl t q h0 hL hP bD=>⟨0,S,g,w,gs,sl,t,q,rfl,h0,hL,hP,bD,h w<|aQ.refl _ _ _⟩
 | @step S g w hr f hs BP ih=>
   intro hS hEr;have one:∀(M:Nat),(∀(d1:Nat) gs sl t q,sumTo gs.size q<M->gs[0]? =ae g->Leavers P t gs q->Past (ai.sG<|ai.bz fo s) w.heap.size t->ai.iZ (fun b=>s b\/fo b) w->∃N S' g' w' gs' sl' t' q',runNT P N (crowd gs (w.at d1) sl) t=(.next<|crowd gs' w' sl',t')/\gs'[0]? =ae g'/\Leavers P t' gs' q'/\Past (ai.sG<|ai.bz fo s) w'.heap.size t'/\ai.iZ (fun b=>s b\/fo b) w'/\Stop S' g' w')->
    ∀(d0:Nat) gs sl t q,sumTo gs.size q<=M->gs[0]? =ae g->Leavers P t gs q->Past (ai.sG<|ai.bz fo s) w.heap.size t->ai.iZ (fun b=>s b\/fo b) w->∃N S' g' w' gs' sl' t' q',runNT P N (crowd gs (w.at d0) sl) t=(.next<|crowd gs' w' sl',t')/\gs'[0]? =ae g'/\Leavers P t' gs' q'/\Past (ai.sG<|ai.bz fo s) w'.heap.size t'/\ai.iZ (fun b=>s b\/fo b) w'/\Stop S' g' w':=by
    intro M Tq d0 gs sl t q hM h0 hL hP bD;have Tt:∀y∈gs,awake y:=by
     intro y hy;obtain⟨i,hi,rfl⟩:=Fp.1 hy;rcases H9 i with rfl|oJ
     ·have:gs[0]=g:=by simpa[Fh hi]using h0
      rw[this];exact aCt<|.inl hr
     ·exact aCt<|(hL.old i _ oJ<|Fh hi).status.elim .inl fun x=>.inr<|.inr x
    obtain⟨i,y,d,sl',hi,hg,adi⟩:=aDg (P:=P) (w:=w.at d0) (sl:=sl) Tt ⟨0,_,h0,hr⟩;have vK:(w.at d0).at d=w.at d:=rfl;rw[vK]at adi;rcases H9 i with rfl|oJ
    ·obtain rfl:y=g:=by rw[h0]at hi;exact(qE hi).symm
     obtain⟨hgo,hG⟩:=hs (w.at d)<|aQ.at _ _ _ _;have hrn:=BP (w.at d)<|aQ.at _ _ _ _;have DX:=aCn (P:=P) (sl:=sl') (i:=0) hi<|show aW P (0==0) _ (w.at d)=_ from hgo;have aB:0<gs.size:=(iU.1 h0).1;have ax9:ai.iZ (fun b=>s b\/fo b) (f<|w.at d).2.1:=hG.QH (w:=w.at d) ⟨bD.obj,bD.low,bD.lQ⟩ hS;have hz:=hG.size;have EX:w.heap.size<=(f<|w.at d).2.1.heap.size:=hz;have uX:∀b,grow S (w.at d) (f<|w.at d).2.1 b->b<(f<|w.at d).2.1.heap.size/\¬(s b\/fo b):=by
      rintro b (hb|⟨h1,h2⟩)
      ·exact⟨dY (hS b hb).1 EX,(hS b hb).2⟩
      ·exact⟨h2,fun z=>absurd (bD.low b z).2<|Nat.not_lt.2 h1⟩
     have Hl:∀b,E.rd b->b<(f<|w.at d).2.1.heap.size/\¬s b:=fun b hb=>⟨dY (hEr b hb).1 EX,(hEr b hb).2⟩;obtain⟨N,S2,g2,w2,mg,lJ,t2,q2,nV,k1,k2,k3,k4,k5⟩:=ih (w.at d) (aQ.at _ _ _ _) uX Hl ((gs.map<|woken P y (f<|w.at d).1 (f<|w.at d).2.1).setIfInBounds 0 (f<|w.at d).1) sl' (t++MemOp.ofEvents 0 y.frame.fn y.frame.place (f<|w.at d).2.2) q
      (by simp[aB]) ⟨fun j x hj hx=>by
          have bM:0≠j:=by omega
          rw[gu bM,wH]at hx;obtain⟨z,hz,rfl⟩:=yI.1 hx;have hq:=hL.old j z hj hz;rw[aCC hq,aCr t (by omega) _ (fun op aF=>by obtain⟨e,_,rfl⟩:=aB1 aF;rfl)];exact hq,fun j hj=>by
          rw[aCr t (g':=0) (by simp at hj;omega) _ (fun op aF=>by obtain⟨e,_,rfl⟩:=aB1 aF;rfl)];exact hL.above j<|by simpa using hj⟩
      ((hP.mono (B':=(f<|w.at d).2.1.heap.size) EX).own fun e he=>aho (B:=ai.bz fo s) (hG.evs e he) (fun b hb=>⟨(uX b hb).1,fun z=>(uX b hb).2<|.inl z⟩) Hl) ax9
     refine⟨N+1,S2,g2,w2,mg,lJ,t2,q2,?_,k1,k2,k3,k4,k5⟩;simp only[runNT,adi,DX];exact nV
    ·have hq:=hL.old i y oJ hi;have dF:(i==0)=false:=by simp<;>omega
     have aB:i<gs.size:=(iU.1 hi).1;cases uA:q i with
     |zero=>rw[uA]at hq;rw[hq.1]at hg;cases hg
     |succ k=>
      rw[uA]at hq;rcases hq with⟨DV,_⟩|⟨_,g',Tu,hm,LV,rF⟩
      ·rw[DV]at hg;cases hg
      have DX:=aCn (P:=P) (sl:=sl') (i:=i) hi (by rw[dF];exact LV<|w.at d);have dS:((gs.map<|woken P y g'<|w.at d).setIfInBounds i g').size=gs.size:=by simp
      have aj8:sumTo gs.size (upd q i k)+(k+1)=sumTo gs.size q+k:=by
       have:=sumTo_upd q k id aB;simpa[uA]using this
      obtain⟨N,S2,g2,w2,mg,lJ,t2,q2,nV,arv⟩:=Tq d ((gs.map<|woken P y g'<|w.at d).setIfInBounds i g') sl' (t++MemOp.ofEvents i y.frame.fn y.frame.place Tu) (upd q i k) (by rw[dS];omega)
       (by
         have bM:i≠0:=by omega
         rw[gu bM,wH,h0];simp only[FB,fJ];unfold Go.Conc.woken;split
         ·exact aCU _<|.inl hr
         ·rfl) ⟨fun j x hj hx=>by
         by_cases lh:i=j
         ·subst lh;rw[rO<|by simpa using aB]at hx;obtain rfl:=qE hx;rw[aB8,aCM];exact rF
         ·rw[gu lh,wH]at hx;obtain⟨z,hz,rfl⟩:=yI.1 hx;have Jw:=hL.old j z hj hz;rw[aCC Jw,aCa q k<|iI lh,aCr t lh _ (fun op aF=>by obtain⟨e,_,rfl⟩:=aB1 aF;rfl)];exact Jw,fun j hj=>by
         rw[aCr t (g':=i) (by simp at hj;omega) _ (fun op aF=>by obtain⟨e,_,rfl⟩:=aB1 aF;rfl)];exact hL.above j<|by simpa using hj⟩ (hP.mute (by omega) hm) bD
      refine⟨N+1,S2,g2,w2,mg,lJ,t2,q2,?_,arv⟩;simp only[runNT,adi,DX];exact nV
   have main:∀(M d0:Nat) gs sl t q,sumTo gs.size q<=M->gs[0]? =ae g->Leavers P t gs q->Past (ai.sG<|ai.bz fo s) w.heap.size t->ai.iZ (fun b=>s b\/fo b) w->∃N S' g' w' gs' sl' t' q',runNT P N (crowd gs (w.at d0) sl) t=(.next<|crowd gs' w' sl',t')/\gs'[0]? =ae g'/\Leavers P t' gs' q'/\Past (ai.sG<|ai.bz fo s) w'.heap.size t'/\ai.iZ (fun b=>s b\/fo b) w'/\Stop S' g' w':=by
    intro M;induction M with
    |zero=>exact fun d0 gs sl t q hM=>one 0 (fun d1 gs1 jV t1 q1 aB=>absurd aB<|by omega) d0 gs sl t q hM
    |succ M QD=>exact fun d0 gs sl t q hM=>one (M+1) (fun d1 gs1 jV t1 q1 aB=>QD d1 gs1 jV t1 q1<|by omega) d0 gs sl t q hM
   exact fun gs sl t q=>main _ w.drawn gs sl t q<|bV _
def ahp{fr:aV}{cs cs2:List aV}{Q:ai.bP->aV->ah->Prop}(h:au P true E Stop S {frame:=fr,callers:=cs,status:=.running,dying:=af} w)
 (hS:∀b,S b->b<w.heap.size/\¬(s b\/fo b))(hE:∀b,E.rd b->b<w.heap.size/\¬s b)
 (hn:∀S' g' w',Stop S' g' w'->∃fr' cs',g'={frame:=fr',callers:=cs',status:=.running,dying:=af}/\ai.Reach (ai.bz fo s) P fr' cs' w' Q cs2):ai.Reach (ai.bz fo s) P fr cs w Q cs2:=by
 intro gs sl t q hh;obtain⟨N,S1,g1,w1,gs1,jV,t1,q1,hr,k1,k2,k3,k4,k5⟩:=aru h hS hE gs sl t q hh.own hh.NL hh.IB hh.ok.QH;obtain⟨fr',cs',rfl,hR⟩:=hn _ _ _ k5;obtain⟨K,B2,mg,kJ,w2,lJ,t2,q2,hr2,Ar,DN⟩:=hR gs1 jV t1 q1 ⟨k1,k2,k3,k4.okB⟩;exact⟨N+K,B2,mg,kJ,w2,lJ,t2,q2,ai.VJ hr hr2,Ar,DN⟩
end eX
end
end Go.Proofs.YtkelpcjiediamaaGreat
