import Derived.Test.YtkelpcjiediamaaGreatQb43
set_option maxRecDepth 100000
set_option maxHeartbeats 0
set_option linter.all false
namespace Go.Proofs.YtkelpcjiediamaaGreat
open Go renaming Calls→aK,TypeId→bW,Value→aj,World→ah,maxLen→dH
open Option renaming none→af,some→ae
open Go.Proofs.Tryz
open Go.RowKit Go.Maps
section
section
variable{w w1 w2 w3 w':ah}{B pb xb N M:Nat}{s s1 s3 s':dB}
def bQ.mid{n1 n':Nat}{h':HS}{L':List Rc}(t1:bQ w w1 B pb xb s N s1)(m:bI w1 w2 B xb n1 s1.h n' h')(t2:bQ w2 w3 B pb xb ⟨h',L',s1.g,s1.v⟩ M s3)(hc:h'.P=s1.h.P/\h'.Q=s1.h.Q/\h'.T=s1.h.T/\h'.K=s1.h.K):bQ w w3 B pb xb s M s3:=by
 have atZ:∀k,(⟨h',L',s1.g,s1.v⟩:dB).dZ pb xb k->s1.dZ pb xb k\/w1.heap.size<=k:=fun k hk=>by
  rcases hk with hk|hk
  ·exact(m.sub k hk).imp .inl id
  ·exact .inl<|.inr hk
 have aio:∀k,(⟨h',L',s1.g,s1.v⟩:dB).dZ pb xb k->s.dZ pb xb k\/w.heap.size<=k:=fun k hk=>by
  rcases atZ k hk with e|e
  ·exact t1.sub k e
  ·exact .inr<|dP t1.fr.size e
 have f2:Fr (s.dZ pb xb) w w2:=t1.fr.trans m.fr fun k e=>t1.sub k<|.inl e;refine⟨t2.at_,f2.trans t2.fr fun k e=>aio k e,fun k hk=>?_,⟨t2.cf.1.trans<|hc.1.trans t1.cf.1,t2.cf.2.1.trans<|hc.2.1.trans t1.cf.2.1,t2.cf.2.2.1.trans<|hc.2.2.1.trans t1.cf.2.2.1,t2.cf.2.2.2.trans<|hc.2.2.2.trans t1.cf.2.2.2⟩⟩;rcases t2.sub k hk with e|e
 ·exact aio k e
 ·exact .inr<|dP f2.size e
structure wX(w w':ah)(B xb N:Nat)(h:HS)(L:List Rc)(r:Rc)(h':HS):Prop where
 mv:bI w w' B xb N h N h'
 sn:Sn (N+1) h' (L++[r])
 pl:h'.pl=h.pl
 up:h'.up=h.up
 cf:h'.P=h.P/\h'.Q=h.Q/\h'.T=h.T/\h'.K=h.K
 wo:jo h r true h'
structure Oy(s:dB)(i:Nat)(x:PS)(cm:Bool)(s':dB):Prop where
 wr:s'.g.wr=s.g.wr
 Dq:pX i s.h s'.h
 me:∃x',s'.h.ps[i]? =ae x'/\x'.s=(if cm then 2 else 3)/\x'.wa=1
 dec:fM s'.L i x.t cm
variable{i:Nat}{x:PS}{cm:Bool}{h':HS}
def wX.f{L:List Rc}{fa:List Fa}{v:PV}{s:dB}(en:wX w w' B xb N s.h L ⟨3,i,if cm then 1 else 0,x.t⟩ h')(hx:s.h.ps[i]? =ae x):Oy s i x cm ⟨h',s.L++[⟨3,i,if cm then 1 else 0,x.t⟩],{s.g with fa:=fa},v⟩:=
 ⟨rfl,pX.wrote rfl en.wo,⟨_,U0 hx rfl en.wo,by cases cm<;>simp[PS.bJ],by simp[PS.bJ]⟩,⟨⟨3,i,if cm then 1 else 0,x.t⟩,Ut _<|nY.2 rfl,rfl,rfl,rfl,rfl⟩⟩
def at6(a:bu w B pb xb N s)(hN:N<=90000000)(hi:(i:Int)<s.h.P)(hu:s.h.up=true)(hx:s.h.ps[i]? =ae x){ep:Int}(he:s.g.ep[i]? =ae ep)(hs:x.s=1)(c:Bool):
 aK prog 28 #[.pointer<|ae ⟨xb,0,af⟩,.int .i64 i,.int .i64 ep,.bool c] w fun e w'=>e=.returned (.int .i64 0)/\∃h',wX w w' B xb N s.h s.L ⟨3,i,if c then 1 else 0,x.t⟩ h':=by
 obtain⟨e1,e2,_⟩:=a.Dp hu hx he;have hb:s.h.bars x ep=0:=by
  unfold HS.bars;rw[hu,if_neg<|by simp,if_neg<|by omega]
 have hn:=a.pg.sn.abB hu hi hx hs (a:=if c then 1 else 0) (by cases c<;>simp);refine(ane a.ha hi hx hb hs c<|a.pg.sn.may (by omega) hn).mono fun e w' h=>?_;cases h with
 |ok ho hm=>
  obtain⟨_,sn,jv,rfl⟩:=a.pg.sn.J9 hu hn (fun e=>by simp at e) ho;exact⟨rfl,_,hm,sn,rfl,rfl,⟨rfl,rfl,rfl,rfl⟩,ho⟩
 |sD ho hm=>
  have:=(a.pg.sn.J9 hu hn (fun e=>by simp at e) ho).1;cases this
def aip{W W3 w5:ah}{iL:aj}{t:Int}(a:bu W B pb xb N s)(en:wX W.drew.drew W3 B xb N s.h s.L ⟨3,i,if cm then 1 else 0,t⟩ h')(b:gU W3 B pb xb s.h s.g s.v)(_:(i:Int)<s.h.P){V:ah}(hW:Fr aH W3 V)(hg:V.grownBy w5 s.v.fv.ownBlock)(iy:w5.ownsRow B 114 3 iL (s.g.fa.length+1) (s.g.fa.flatMap Fa.cs++Fa.cs ⟨i,t,if cm then 1 else 2⟩))(dM:∀k,iL.ownBlock=ae k->s.v.fv.ownBlock=ae k\/W3.heap.size<=k):
 bQ W3 (w5.setCell ⟨pb,8,af⟩ iL) B pb xb ⟨h',s.L,s.g,s.v⟩ (N+1) ⟨h',s.L++[⟨3,i,if cm then 1 else 0,t⟩],{s.g with fa:=s.g.fa++[⟨i,t,if cm then 1 else 2⟩]},{s.v with fv:=iL}⟩:=by
 have b':gU W3 B pb xb h' s.g s.v:=by
  refine⟨?_,b.ep,b.wr,b.fa,b.gt,b.gl,b.rc,b.st,b.ap,b.hb⟩;rw[en.cf.1,en.cf.2.1,en.cf.2.2.1,en.cf.2.2.2];exact b.blk
 exact aic (s:=⟨h',s.L,s.g,s.v⟩) en.mv.at_ (by show iC h'.pl;rw[en.pl];exact a.ax) b' a.wr a.fa (by omega) hW hg iy dM<|a.pg.ended en.sn en.cf.1 en.up en.pl
def aiq(a:bu w B pb xb N s)(hN:N<=80000000)(hi:(i:Int)<s.h.P)(hu:s.h.up=true)(cm:Bool)(bU:∀x,s.h.ps[i]? =ae x->x.s=0\/x.s=1\/x.s=2\/x.s=3):
 aK prog 62 #[.pointer<|ae ⟨pb,0,af⟩,.int .i64 i,.bool cm] w (BD w B pb xb s (N+4) fun s'=>∀x,s.h.ps[i]? =ae x->x.s=1->Oy s i x cm s'):=by
 obtain⟨i0,dF,gG,fO,iH⟩:=aCf aib;obtain⟨x,hx⟩:=a.ps hi;obtain⟨ep,he⟩:=a.ep hi;obtain⟨e1,e2,e3⟩:=a.Dp hu hx he;have qg:i<s.g.ep.length:=(dD.1 he).1;obtain⟨eg,je,dI,_⟩:=uO a.pa.ep (by omega);have A:Hid (bu w B pb xb N s):=a;have fF:Hid (N<=80000000):=hN;have HI:Hid ((i:Int)<s.h.P):=hi;have HU:Hid (s.h.up=true):=hu;have HX:Hid (s.h.ps[i]? =ae x):=hx;have HE:Hid (s.g.ep[i]? =ae ep):=he;have jX:Hid (s.v.ev=.slice (ae ⟨eg,0,af⟩) s.g.ep.length je):=dI;have yh:(i:Int)<(s.g.ep.length:Int):=by omega
 have sV:(0:Int)<=(i:Int):=by omega
 have hep:ep<=80000000:=by omega
 have yE:IntKind.i64.wrap (ep-1)=ep-1:=wrap_i64 (by omega) (by omega);have KX:Hid (x.s=0\/x.s=1\/x.s=2\/x.s=3):=bU x hx;clear a hi hu hx he dI hN e1 e3 qg bU;go_enter func62,ntmps62
 go_wp2_with fail
 refine(Ja A.out (by have:=fF.out;omega) HI.out HU.out HX.out).mono ?_;rintro e w1 ⟨n1,n2,t1⟩;rename_i va vb gY fC;obtain⟨aa,ac,rfl,_⟩:=lC n1;obtain⟨ba,bc,rfl,_⟩:=lC n2;have T1:Hid (bQ w w1 B pb xb s (N+1)<|s.fH fC gY):=t1;generalize AP:(bF x.aT 1 4).length=l1;generalize AQ:(bF x.aT 2 4).length=l2;clear n1 n2 t1 AP AQ;go_wp2_with fail
 have ZW:Hid (∃W:ah,W=w1.alloc (.cells #[.int .i64 x.e,.int .i64 x.t,.int .i64 x.s,.slice aa l1 ac,.slice ba l2 bc] 58)):=⟨_,rfl⟩;obtain⟨W1,eW⟩:=ZW.out;rw[<-eW];have gX:Hid (Fr aH w1 W1):=by subst eW;exact aZ _
 have X1:Hid (W1.heap[w1.heap.size]? =ae (.cells #[.int .i64 x.e,.int .i64 x.t,.int .i64 x.s,.slice aa l1 ac,.slice ba l2 bc] 58 (0,0))):=by subst eW;exact aB0 _ _
 have kL:Hid (bu W1 B pb xb (N+1)<|s.fH fC gY):=T1.out.at_.after gX.out;clear ZW eW;obtain⟨d0,d5,de,d6,aB,oC⟩:=kL.out.sK jX.out HE.out;have HC:Hid (∀(V:ah) (c:Bool),Fr aH W1 V->aK prog 28 #[.pointer<|ae ⟨xb,0,af⟩,.int .i64 i,.int .i64<|ep-1,.bool c] V fun e w'=>e=.returned (.int .i64 7)/\V=w'):=fun V c f=>atY (kL.out.after f) HI.out HU.out HX.out HE.out c;go_region_held3 (fun w'=>w'.cell? ⟨pb,0,af⟩=ae (.pointer<|ae ⟨xb,0,af⟩)/\w'.cell? ⟨pb,5,af⟩=ae (.slice (ae ⟨eg,0,af⟩) s.g.ep.length je)/\w'.cell? ⟨eg,i,af⟩=ae (.int .i64 ep))
  (first|exact⟨d0,d5,de⟩|go_keep)
  ((go_at_call 28;with_reducible refine(HC.out _ _<|(Fr.refl _ _).drew).mono ?_;rintro e w2 ⟨rfl,rfl⟩))
 go_wp2_with fail
 by_cases h1:x.s=1
 ·have yF:Hid (x.s=1):=h1;have rJ:Hid (∀(V:ah) (c:Bool),Fr aH W1 V->aK prog 28 #[.pointer<|ae ⟨xb,0,af⟩,.int .i64 i,.int .i64 ep,.bool c] V fun e w'=>e=.returned (.int .i64 0)/\∃h',wX V w' B xb (N+1) s.h s.L ⟨3,i,if c then 1 else 0,x.t⟩ h'):=fun V c f=>at6 (kL.out.after f) (by have:=fF.out;omega) HI.out HU.out HX.out HE.out yF.out c;go_region_held3 (fun w'=>w'.cell? ⟨pb,0,af⟩=ae (.pointer<|ae ⟨xb,0,af⟩)/\w'.cell? ⟨pb,5,af⟩=ae (.slice (ae ⟨eg,0,af⟩) s.g.ep.length je)/\w'.cell? ⟨eg,i,af⟩=ae (.int .i64 ep))
   (first|with_reducible exact C3|exact⟨d0,d5,de⟩|go_keep)
   ((go_at_call 28;with_reducible refine(rJ.out _ _<|((Fr.refl _ _).drew).drew).mono ?_;rintro e w3 ⟨rfl,h3,en⟩
     have EN:Hid (wX W1.drew.drew w3 B xb (N+1) s.h s.L ⟨3,i,if cm then 1 else 0,x.t⟩ h3):=en
     have p3:gU w3 B pb xb s.h (s.fH fC gY).g (s.fH fC gY).v:=((kL.out.after<|((Fr.refl _ _).drew).drew).pa).stay en.mv.fr fun k e hf=>(kL.out.after<|((Fr.refl _ _).drew).drew).ha.off (kL.out.after<|((Fr.refl _ _).drew).drew).pa e hf
     have P3:Hid (gU w3 B pb xb s.h (s.fH fC gY).g (s.fH fC gY).v):=p3
     have C3:w3.cell? ⟨pb,0,af⟩=ae (.pointer<|ae ⟨xb,0,af⟩)/\w3.cell? ⟨pb,5,af⟩=ae (.slice (ae ⟨eg,0,af⟩) s.g.ep.length je)/\w3.cell? ⟨eg,i,af⟩=ae (.int .i64 ep):=⟨aG p3.blk 0,(aG p3.blk 5).trans (by rw[<-jX.out];rfl),zO (by have:=p3.ep;rw[show(s.fH fC gY).v.ev=.slice (ae ⟨eg,0,af⟩) s.g.ep.length je from jX.out]at this;exact this) HE.out⟩
     clear en p3))
  have kR:(s.fH fC gY).g.dn=false:=by
   show s.g.dn=false;rw[A.out.pg.dn,HU.out];rfl
  have g6:w3.cell? ⟨pb,6,af⟩=ae (.bool false):=by rw[<-kR];exact aG P3.out.blk 6
  have X3:Hid (w3.heap[w1.heap.size]? =ae (.cells #[.int .i64 x.e,.int .i64 x.t,.int .i64 x.s,.slice aa l1 ac,.slice ba l2 bc] 58 (0,0))):=(EN.out.mv.fr.block _ (aS X1.out) fun e=>(kL.out.after<|((Fr.refl _ _).drew).drew).zf (show W1.drew.drew.heap[w1.heap.size]? =_ from X1.out) (by decide)<|.inl e).trans X1.out;have uT:pb<w3.heap.size:=aS P3.out.blk;have lH:w1.heap.size<w3.heap.size:=aS X3.out;clear HC rJ kR d0 d5 de d6 C3;obtain⟨xe,xt,xs,xa,wW,xc,xd,xi,xw,xg⟩:=x;have hs:=yF.out;simp only at hs;subst hs;have y1:w3.cell? ⟨w1.heap.size,1,af⟩=ae (.int .i64 xt):=aG X3.out 1;have y2:w3.cell? ⟨w1.heap.size,2,af⟩=ae (.int .i64 1):=aG X3.out 2;obtain⟨fa,fc,oM,_⟩:=oL P3.out.fa;have Dl:Hid ((s.fH fC gY).v.fv=.slice fa fC.length fc):=oM;have zg:Hid (w3.ownsRow B 114 3 (.slice fa fC.length fc) fC.length<|fC.flatMap Fa.cs):=by have:=P3.out.fa;rw[oM]at this;exact this
  have q8:w3.cell? ⟨pb,8,af⟩=ae (.slice fa fC.length fc):=(aG P3.out.blk 8).trans<|eP ae oM;have bM:Value.ownBlock (.slice fa fC.length fc)≠ae pb:=FK zg.out P3.out.blk (by decide);have f8:w3.frozen? ⟨pb,8,af⟩=false:=jP P3.out.blk 8;have f9:∀o,(w3.alloc o).frozen? ⟨pb,8,af⟩=false:=fun o=>(JQ uT o).trans f8;have Ak:Hid (fC.length<=N+1):=kL.out.fa;clear oM yF KX h1;cases cm;all_goals
   go_wp2_with fail
   go_region_law
    ((refine aCu _ (by rfl) _ _ _ (by rfl) B 114 i0 _ 3 24 underlying45 dF gG fO iH rfl (by omega) (.slice fa fC.length fc) fC.length (fC.flatMap Fa.cs) (by rfl) (by first|exact(((Fr.refl (fun _=>False) w3).alloc _).drew).ownsRow zg.out (fun _ _=>id)|exact(((Fr.refl (fun _=>False) w3).drew).alloc _).ownsRow zg.out fun _ _=>id)
       ⟨w3.heap.size,0,af⟩ 1 1 [.int .i64 i,.int .i64 xt,_] (by rfl) (by rfl) (aB9 (cs:=#[.int .i64 i,.int .i64 xt,_]) (t:=114) (fr:=(0,0)) (by first|exact aB0 _ _|exact PN _ _ _)) (by simp[Value.oneCell'])
       (by omega) (by have:=fF.out;have:=Ak.out;simp only[dH];omega) (by have:=fF.out;have:=Ak.out;omega) (by have:=P3.out.hb;simp<;>omega) (w3.heap.size+1) (by simp) ?_;intro gg cap w5 o9 lV uF GM;have k0:=(lV.cell_far ⟨pb,8,af⟩ (by simp<;>omega)<|iI bM);have k1:=(lV.frozen_far ⟨pb,8,af⟩ (by simp<;>omega)<|iI bM);simp only[World.cell?_drew,World.frozen?_drew,f9]at k0 k1))
   all_goals
    have H6:∀k,Value.ownBlock (.slice (ae ⟨gg,0,af⟩) (fC.length+1) cap)=ae k->(s.fH fC gY).v.fv.ownBlock=ae k\/w3.heap.size<=k:=fun k hk=>by
     rw[Dl.out];simp only[Value.ownBlock,fJ]at hk;subst hk;rcases uF with h1|h1
     ·exact .inl h1
     ·exact .inr<|by omega
    have G3:∃V,Fr aH w3 V/\V.grownBy w5 (Value.ownBlock<|.slice fa fC.length fc):=⟨_,by first|exact((Fr.refl _ _).alloc _).drew|exact((Fr.refl _ _).drew).alloc _,lV⟩
    obtain⟨V,fV,gV⟩:=G3
    first
     |have TO:=aip kL.out (cm:=false) EN.out P3.out HI.out fV (by rw[Dl.out];exact gV) o9 H6
     |have TO:=aip kL.out (cm:=true) EN.out P3.out HI.out fV (by rw[Dl.out];exact gV) o9 H6
    clear o9 lV uF GM k0 k1 H6 fV gV
    generalize w5.setCell ⟨pb,8,af⟩ (.slice (ae ⟨gg,0,af⟩) (fC.length+1) cap)=W4 at TO⊢
    generalize(Value.slice (ae ⟨gg,0,af⟩) (fC.length+1) cap)=EG at TO
    have T4:Hid _:=TO
    clear TO
    go_wp2_with fail
    obtain⟨x4,hx4⟩:=T4.out.at_.ps (i:=i) (show(i:Int)<h3.P by rw[EN.out.cf.1];exact HI.out)
    refine(Ja T4.out.at_ (by have:=fF.out;omega) (show(i:Int)<h3.P by rw[EN.out.cf.1];exact HI.out) (show h3.up=true by rw[EN.out.up];exact HU.out) hx4).mono ?_
    rintro e w6 ⟨n1,n2,t6⟩
    rename_i va vb fv6 fa6
    obtain⟨ca,cc,rfl,_⟩:=lC n1
    obtain⟨da,dc,rfl,_⟩:=lC n2
    have kT:Hid (∀V,Fr aH w6 V->BD w B pb xb s (N+4) (fun s'=>∀x,s.h.ps[i]? =ae x->x.s=1->Oy s i x _ s') (.returned<|.bool true) V):=fun V f=>⟨rfl,_,(((T1.out.after gX.out).after<|((Fr.refl _ _).drew).drew).mid EN.out.mv ((T4.out.trans t6).after f) EN.out.cf).mono<|by omega,fun y hy _=>by rw[HX.out]at hy;cases hy;first|exact wX.f (cm:=false) (s:=s) EN.out HX.out|exact wX.f (cm:=true) (s:=s) EN.out HX.out⟩
    clear n1 n2 t6 hx4
    generalize(bF x4.aT 1 4).length=m1
    generalize(bF x4.aT 2 4).length=m2
    go_wp2
    go_ret
    exact kT.out _<|aZ _
 ·have yF:Hid (x.s=0\/x.s=2\/x.s=3):=(by have:=KX.out;omega:x.s=0\/x.s=2\/x.s=3);obtain⟨code,adv⟩:∃code:Int,code=(if x.s=0 then 8 else 9):=⟨_,rfl⟩;have HCD:Hid (code=(if x.s=0 then 8 else 9)):=adv;have rJ:Hid (∀(V:ah) (c:Bool),Fr aH W1 V->aK prog 28 #[.pointer<|ae ⟨xb,0,af⟩,.int .i64 i,.int .i64 ep,.bool c] V fun e w'=>e=.returned (.int .i64 code)/\V=w'):=fun V c f=>by
   have:=atX (kL.out.after f) HI.out HU.out HX.out HE.out yF.out c;rw[<-adv]at this;exact this
  clear adv;go_region_held3 (fun w'=>w'.cell? ⟨pb,0,af⟩=ae (.pointer<|ae ⟨xb,0,af⟩)/\w'.cell? ⟨pb,5,af⟩=ae (.slice (ae ⟨eg,0,af⟩) s.g.ep.length je)/\w'.cell? ⟨eg,i,af⟩=ae (.int .i64 ep))
   (first|exact⟨d0,d5,de⟩|go_keep)
   ((go_at_call 28;with_reducible refine(rJ.out _ _<|((Fr.refl _ _).drew).drew).mono ?_;rintro e w2 ⟨rfl,rfl⟩))
  have kR:(s.fH fC gY).g.dn=false:=by
   show s.g.dn=false;rw[A.out.pg.dn,HU.out];rfl
  rw[kR]at d6;have y2:W1.cell? ⟨w1.heap.size,2,af⟩=ae (.int .i64 x.s):=aG X1.out 2;have kT:Hid (∀V,Fr aH W1 V->BD w B pb xb s (N+4) (fun s'=>∀x,s.h.ps[i]? =ae x->x.s=1->Oy s i x cm s') (.returned<|.bool true) V):=fun V f=>⟨rfl,_,((T1.out.after gX.out).after f).mono<|by omega,fun y hy h=>by rw[HX.out]at hy;cases hy;have:=yF.out;omega⟩;clear HC rJ kR KX h1;obtain⟨xe,xt,xs,xa,wW,xc,xd,xi,xw,xg⟩:=x;have hs:=yF.out;simp only at hs y2;clear yF;have hc:=HCD.out;clear HCD;simp only at hc;rcases hs with hs|hs|hs<;>subst hs<;>simp only[show((2:Int)=0)=False by decide,show((3:Int)=0)=False by decide,if_true,lu]at hc<;>subst hc<;>go_wp2<;>go_ret<;>exact kT.out _<|((Fr.refl _ _).drew).drew
end
end
section
section
variable{w w':ah}{B pb xb N:Nat}{s:dB}
def at7(a:bu w B pb xb N s)(hN:N<=80000000){i:Nat}(hi:(i:Int)<s.h.P)(cm:Bool)(hu:s.h.up=false):
 aK prog 62 #[.pointer<|ae ⟨pb,0,af⟩,.int .i64 i,.bool cm] w fun e w'=>e=.returned (.bool true)/\Fr aH w w':=by
 obtain⟨x,hx⟩:=a.ps hi;obtain⟨ep,he⟩:=a.ep hi;have wV:=a.pg.ee i ep he;have MN:=(a.pg.sn.valid.qY i).e1;have JI:=a.pg.sn.eG;have qg:i<s.g.ep.length:=(dD.1 he).1;obtain⟨eg,je,dI,_⟩:=uO a.pa.ep (by omega);have yE:IntKind.i64.wrap (ep-1)=ep-1:=wrap_i64 (by omega) (by omega);have A:Hid (bu w B pb xb N s):=a;have HI:Hid ((i:Int)<s.h.P):=hi;have HU:Hid (s.h.up=false):=hu;have HE:Hid (s.g.ep[i]? =ae ep):=he;have jX:Hid (s.v.ev=.slice (ae ⟨eg,0,af⟩) s.g.ep.length je):=dI;have HC:Hid (∀(V:ah) (e0:Int) (c:Bool),Fr aH w V->aK prog 28 #[.pointer<|ae ⟨xb,0,af⟩,.int .i64 i,.int .i64 e0,.bool c] V fun e w'=>e=.returned (.int .i64 5)/\V=w'):=fun V e0 c f=>by
  have hb:=abM hu x e0;have:=aeY (ep:=e0) (a.ha.after f) hi hx (by rw[hb];decide) c;rw[hb]at this;exact this
 have yh:(i:Int)<(s.g.ep.length:Int):=by omega
 have sV:(0:Int)<=(i:Int):=by omega
 clear a hi hu hx he dI hN qg wV MN JI;go_enter func62,ntmps62
 go_wp2_with fail
 refine(Ov A.out HI.out HU.out).mono ?_;rintro e w1 ⟨rfl,bg⟩;have F1:Hid (Fr aH w w1):=bg;clear bg;go_wp2_with fail
 have ZW:Hid (∃W:ah,W=w1.alloc (.cells #[.int .i64 0,.int .i64 0,.int .i64 0,.slice af 0 0,.slice af 0 0] 58)):=⟨_,rfl⟩;obtain⟨W1,eW⟩:=ZW.out;rw[<-eW];have gX:Hid (Fr aH w W1):=by subst eW;exact F1.out.trans (aZ _) fun _ h=>h.elim
 clear ZW eW;obtain⟨d0,d5,de,d6,aB,oC⟩:=(A.out.after gX.out).sK jX.out HE.out;go_region_held3 (fun w'=>w'.cell? ⟨pb,0,af⟩=ae (.pointer<|ae ⟨xb,0,af⟩)/\w'.cell? ⟨pb,5,af⟩=ae (.slice (ae ⟨eg,0,af⟩) s.g.ep.length je)/\w'.cell? ⟨eg,i,af⟩=ae (.int .i64 ep))
  (first|exact⟨d0,d5,de⟩|go_keep)
  ((go_at_call 28;with_reducible refine(HC.out _ (ep-1) _<|gX.out.drew).mono ?_;rintro e w2 ⟨rfl,rfl⟩))
 go_wp2_with fail
 go_region_held3 (fun w'=>w'.cell? ⟨pb,0,af⟩=ae (.pointer<|ae ⟨xb,0,af⟩)/\w'.cell? ⟨pb,5,af⟩=ae (.slice (ae ⟨eg,0,af⟩) s.g.ep.length je)/\w'.cell? ⟨eg,i,af⟩=ae (.int .i64 ep))
  (first|exact⟨d0,d5,de⟩|go_keep)
  ((go_at_call 28;with_reducible refine(HC.out _ ep _<|(gX.out.drew).drew).mono ?_;rintro e w2 ⟨rfl,rfl⟩))
 have kR:s.g.dn=true:=by rw[A.out.pg.dn,HU.out];rfl
 rw[kR]at d6;clear kR;go_wp2
 go_ret;exact⟨rfl,(gX.out.drew).drew⟩
def aua(a:bu w B pb xb N s)(hN:N<=80000000){i:Nat}(hi:(i:Int)<s.h.P)(cm:Bool):aK prog 62 #[.pointer<|ae ⟨pb,0,af⟩,.int .i64 i,.bool cm] w (jZ w B pb xb s<|N+4):=by
 cases hu:s.h.up with
 |true=>
  obtain⟨x,hx⟩:=a.ps hi;have k:=(a.pg.sn.up hu i x hx).k;have f:=a.pg.sn.valid.qY i;have s0:=f.s0;have s1:=f.s1;rw[<-k.s]at s0 s1;exact(aiq a hN hi hu cm fun y hy=>by rw[hx]at hy;cases hy;omega).mono fun _ _ d=>d.done
 |false=>exact(at7 a hN hi cm hu).mono fun e w' ⟨h1,h2⟩=>⟨h1,s,(bQ.still a h2).mono<|by omega⟩
end
end
section
section
variable{w:ah}{B pb xb N:Nat}{s:dB}
variable{n q:Nat}{L':List Rc}{h:HS}{g:PG}{v:PV}
def aub{W w1:ah}{iL:aj}{f:Wn}(ha:ay w B xb n s.h)(ax:iC s.h.pl)(b:gU w B pb xb s.h s.g s.v)(yE:s.g.wr.length<=N)(Ue:s.g.fa.length<=N)(hn:n<=N+1)(hW:Fr aH w W)(hg:W.grownBy w1 s.v.wv.ownBlock)(iy:w1.ownsRow B 66 4 iL (s.g.wr.length+1) (s.g.wr.flatMap Wn.cs++f.cs))(dM:∀k,iL.ownBlock=ae k->s.v.wv.ownBlock=ae k\/w.heap.size<=k)(pg:Pg (N+1) s.h L' {s.g with wr:=s.g.wr++[f]}):
 bQ w (w1.setCell ⟨pb,7,af⟩ iL) B pb xb s (N+1) ⟨s.h,L',{s.g with wr:=s.g.wr++[f]},{s.v with wv:=iL}⟩:=by
 have f1:Fr (fun k=>s.v.wv.ownBlock=ae k) w w1:=(hW.mono fun _ h=>h.elim).grown hg fun k e=>.inl e;have f2:Fr (fun k=>k=pb\/s.v.wv.ownBlock=ae k) w (w1.setCell ⟨pb,7,af⟩ iL):=(f1.mono fun k h=>.inl<|.inr h).setCell (.inl<|.inl rfl) _;have bM:s.v.wv.ownBlock≠ae pb:=FK b.wr b.blk (by decide);have b1:=(f1.block pb (aS b.blk) bM).trans b.blk;have ht:∀k,(k=pb\/s.v.wv.ownBlock=ae k)->tag w k=48\/tag w k=66:=fun k e=>e.imp (fun e=>by rw[e];exact lD b.blk) fun e=>ig b.wr e;have st:∀{ty:bW} {wd:Nat} {u:aj} {m:Nat} {xs:List aj},w.ownsRow B ty wd u m xs->ty≠48->ty≠66->(w1.setCell ⟨pb,7,af⟩ iL).ownsRow B ty wd u m xs:=fun ho h1 h2=>KW ho f2 fun k e e2=>(ht k e).elim (fun z=>h1<|e2.symm.trans z) fun z=>h2<|e2.symm.trans z;have hf:∀k,(k=pb\/s.v.wv.ownBlock=ae k)->s.dZ pb xb k:=fun k e=>.inr<|e.imp id fun e=>.inr<|.inl e;have hh:ay (w1.setCell ⟨pb,7,af⟩ iL) B xb n s.h:=ha.stay f2 fun k e hk=>ha.off b hk<|e.imp id fun e=>.inr<|.inl e;refine⟨⟨hh.mono hn,ax,⟨?_,st b.ep (by decide)<|by decide,?_,st b.fa (by decide)<|by decide,st b.gt (by decide)<|by decide,b.gl,fun q u l h1 h2=>st (b.rc q u l h1 h2) (by decide)<|by decide,st b.st (by decide)<|by decide,b.ap,b.hb⟩,pg,?_,YI Ue⟩,f2.mono fun k e=>.inl<|hf k e,fun k hk=>?_,rfl,rfl,rfl,rfl⟩
 ·rw[jQ b1];rfl
 ·have hr:Fr (fun k=>k=pb) w1 (w1.setCell ⟨pb,7,af⟩ iL):=(Fr.refl (fun k=>k=pb) w1).setCell (p:=⟨pb,7,af⟩) (.inl rfl) _;have:=hr.ownsRow iy (fun k hk e=>by
   subst e;rcases dM _ hk with h1|h1
   ·exact bM h1
   ·have:=aS b.blk;omega)
  show World.ownsRow _ B 66 4 iL (s.g.wr++[f]).length ((s.g.wr++[f]).flatMap Wn.cs);simpa using this
 ·have:=yE;show(s.g.wr++[f]).length<=N+1;simp<;>omega
 ·rcases hk with hk|hk|hk|hk|hk|hk
  ·exact .inl<|.inl hk
  ·exact .inl<|.inr<|.inl hk
  ·exact .inl<|.inr<|.inr<|.inl hk
  ·rcases dM k hk with e|e
   ·exact .inl<|.inr<|.inr<|.inr<|.inl e
   ·exact .inr e
  ·exact .inl<|.inr<|.inr<|.inr<|.inr<|.inl hk
  ·exact .inl<|.inr<|.inr<|.inr<|.inr<|.inr hk
def auc{eg cap i:Nat}{e0:Int}(ha:ay w B xb n s.h)(ax:iC s.h.pl)(b:gU w B pb xb s.h s.g s.v)(yE:s.g.wr.length<=N)(Ue:s.g.fa.length<=N)(hn:n<=N+1)(dI:s.v.ev=.slice (ae ⟨eg,0,af⟩) s.g.ep.length cap)(pg:Pg (N+1) s.h L' {s.g with ep:=s.g.ep.set i e0}):
 bQ w (w.setCell ⟨eg,i,af⟩<|.int .i64 e0) B pb xb s (N+1) ⟨s.h,L',{s.g with ep:=s.g.ep.set i e0},s.v⟩:=by
 have bY:=b.ep;rw[dI]at bY;have ho:s.v.ev.ownBlock=ae eg:=by rw[dI];rfl
 have f:Fr (fun k=>k=eg) w (w.setCell ⟨eg,i,af⟩<|.int .i64 e0):=(Fr.refl (fun k=>k=eg) w).setCell (p:=⟨eg,i,af⟩) (.inl rfl) _;have ht:tag w eg=3:=ig b.ep ho;have st:∀{ty:bW} {wd:Nat} {u:aj} {m:Nat} {xs:List aj},w.ownsRow B ty wd u m xs->ty≠3->(w.setCell ⟨eg,i,af⟩<|.int .i64 e0).ownsRow B ty wd u m xs:=fun ho h1=>KW ho f fun k e e2=>h1 (by rw[<-e2,e,ht]);have bM:eg≠pb:=fun e=>by rw[e,lD b.blk]at ht;exact absurd ht<|by decide
 have hf:∀k,k=eg->s.dZ pb xb k:=fun k e=>.inr (.inr<|.inl (by rw[e];exact ho));refine⟨⟨(ha.stay f fun k e hk=>ha.off b hk<|.inr<|.inl (by rw[e];exact ho)).mono hn,ax,⟨(f.block pb (aS b.blk) fun e=>bM e.symm).trans b.blk,?_,st b.wr<|by decide,st b.fa<|by decide,st b.gt<|by decide,b.gl,fun q u l h1 h2=>st (b.rc q u l h1 h2)<|by decide,f.ownsRow b.st fun k hk e=>b.ap eg ho<|e▸hk,b.ap,b.hb⟩,pg,YI yE,YI Ue⟩,f.mono fun k e=>.inl<|hf k e,fun k hk=>.inl hk,rfl,rfl,rfl,rfl⟩;show World.ownsRow _ B 3 1 s.v.ev (s.g.ep.set i e0).length (fK<|s.g.ep.set i e0);have:=(bY.stored i<|.int .i64 e0).1;rw[dI,yK];have e:fK (s.g.ep.set i e0)=(fK s.g.ep).set i (.int .i64 e0):=by simp[fK,List.map_set]
 rw[e];exact this
def aud{gg gc:Nat}{u:aj}{l:List Rec}(a:bu w B pb xb N s)(vk:s.v.gv=.slice (ae ⟨gg,0,af⟩) s.v.gs.length gc)(hu:w.ownsRow B 94 3 u l.length (qi l))(hq:q<s.v.gs.length):
 gU (w.setCell ⟨gg,q,af⟩ u) B pb xb s.h {s.g with gt:=s.g.gt.set q l} {s.v with gs:=s.v.gs.set q u}/\ay (w.setCell ⟨gg,q,af⟩ u) B xb N s.h/\Fr (fun k=>k=gg) w (w.setCell ⟨gg,q,af⟩ u)/\s.dZ pb xb gg:=by
 have b:=a.pa;have bY:=b.gt;rw[vk]at bY;have ho:s.v.gv.ownBlock=ae gg:=by rw[vk];rfl
 have f:Fr (fun k=>k=gg) w (w.setCell ⟨gg,q,af⟩ u):=(Fr.refl (fun k=>k=gg) w).setCell (p:=⟨gg,q,af⟩) (.inl rfl) _;have ht:tag w gg=67:=ig b.gt ho;have st:∀{ty:bW} {wd:Nat} {u':aj} {m:Nat} {xs:List aj},w.ownsRow B ty wd u' m xs->ty≠67->(w.setCell ⟨gg,q,af⟩ u).ownsRow B ty wd u' m xs:=fun ho h1=>KW ho f fun k e e2=>h1 (by rw[<-e2,e,ht]);have bM:gg≠pb:=fun e=>by rw[e,lD b.blk]at ht;exact absurd ht<|by decide
 refine⟨⟨(f.block pb (aS b.blk) fun e=>bM e.symm).trans b.blk,st b.ep<|by decide,st b.wr<|by decide,st b.fa<|by decide,?_,by simp[b.gl],fun j u' l' h1 h2=>?_,st b.st<|by decide,b.ap,b.hb⟩,a.ha.stay f fun k e hk=>a.ha.off b hk<|.inr<|.inr<|.inr<|.inr<|.inl (by rw[e];exact ho),f,.inr<|.inr<|.inr<|.inr<|.inr<|.inl ho⟩
 ·show World.ownsRow _ B 67 1 s.v.gv (s.v.gs.set q u).length (s.v.gs.set q u);have:=(bY.stored q u).1;rw[vk,yK];exact this
 ·rcases Bc h1 with⟨rfl,rfl⟩|⟨ajY,DJ⟩
  ·rcases Bc h2 with⟨_,rfl⟩|⟨z,_⟩
   ·exact st hu<|by decide
   ·exact absurd rfl z
  ·rcases Bc h2 with⟨z,_⟩|⟨_,OY⟩
   ·exact absurd z ajY
   ·exact st (b.rc j u' l' DJ OY)<|by decide
def aue{sg sc m:Nat}(ha:ay w B xb n h)(b:gU w B pb xb h g v)(Ci:v.sv=.slice (ae ⟨sg,0,af⟩) g.st.length sc):
 gU (w.setCell ⟨sg,q,af⟩<|.int .i64 m) B pb xb h {g with st:=g.st.set q m} v/\ay (w.setCell ⟨sg,q,af⟩<|.int .i64 m) B xb n h/\Fr (fun k=>k=sg) w (w.setCell ⟨sg,q,af⟩<|.int .i64 m)/\v.dZ pb sg:=by
 have bY:=b.st;rw[Ci]at bY;have ho:v.sv.ownBlock=ae sg:=by rw[Ci];rfl
 have f:Fr (fun k=>k=sg) w (w.setCell ⟨sg,q,af⟩<|.int .i64 m):=(Fr.refl (fun k=>k=sg) w).setCell (p:=⟨sg,q,af⟩) (.inl rfl) _;have ht:tag w sg=3:=ig b.st ho;have st:∀{ty:bW} {wd:Nat} {u':aj} {m':Nat} {xs:List aj},w.ownsRow B ty wd u' m' xs->ty≠3->(w.setCell ⟨sg,q,af⟩<|.int .i64 m).ownsRow B ty wd u' m' xs:=fun ho h1=>KW ho f fun k e e2=>h1 (by rw[<-e2,e,ht]);have bM:sg≠pb:=fun e=>by rw[e,lD b.blk]at ht;exact absurd ht<|by decide
 refine⟨⟨(f.block pb (aS b.blk) fun e=>bM e.symm).trans b.blk,f.ownsRow b.ep (fun k hk e=>b.ap k hk (by rw[e];exact ho)),st b.wr<|by decide,st b.fa<|by decide,st b.gt<|by decide,b.gl,fun j u' l' h1 h2=>st (b.rc j u' l' h1 h2)<|by decide,?_,b.ap,b.hb⟩,ha.stay f fun k e hk=>ha.off b hk<|.inr<|.inr<|.inr<|.inr<|.inr<|.inl (by rw[e];exact ho),f,.inr<|.inr<|.inr<|.inr<|.inr<|.inl ho⟩;show World.ownsRow _ B 3 1 v.sv (g.st.set q m).length (fK<|(g.st.set q m).map Int.ofNat);have:=(bY.stored q<|.int .i64 m).1;rw[Ci,yK];have e:fK ((g.st.set q m).map Int.ofNat)=(fK<|g.st.map Int.ofNat).set q (.int .i64 m):=by simp[fK,List.map_set]
 rw[e];exact this
def ais{d:Bool}(ha:ay w B xb n h)(b:gU w B pb xb h g v):
 gU (w.setCell ⟨pb,6,af⟩<|.bool d) B pb xb h {g with dn:=d} v/\ay (w.setCell ⟨pb,6,af⟩<|.bool d) B xb n h/\Fr (fun k=>k=pb) w (w.setCell ⟨pb,6,af⟩<|.bool d):=by
 have f:Fr (fun k=>k=pb) w (w.setCell ⟨pb,6,af⟩<|.bool d):=(Fr.refl (fun k=>k=pb) w).setCell (p:=⟨pb,6,af⟩) (.inl rfl) _;have ht:tag w pb=48:=lD b.blk;have st:∀{ty:bW} {wd:Nat} {u':aj} {m':Nat} {xs:List aj},w.ownsRow B ty wd u' m' xs->ty≠48->(w.setCell ⟨pb,6,af⟩<|.bool d).ownsRow B ty wd u' m' xs:=fun ho h1=>KW ho f fun k e e2=>h1 (by rw[<-e2,e,ht]);exact⟨⟨by rw[jQ b.blk];rfl,st b.ep<|by decide,st b.wr<|by decide,st b.fa<|by decide,st b.gt<|by decide,b.gl,fun j u' l' h1 h2=>st (b.rc j u' l' h1 h2)<|by decide,st b.st<|by decide,b.ap,b.hb⟩,ha.stay f fun k e hk=>ha.off b hk<|.inl e,f⟩
end
end
section
section
variable{w w':ah}{B pb xb N:Nat}{s:dB}
variable{i:Nat}{x:PS}
def auf(a:bu w B pb xb N s)(hN:N<=90000000)(hi:(i:Int)<s.h.P)(hu:s.h.up=true)(hx:s.h.ps[i]? =ae x)(hs:x.s=1\/x.s=2\/x.s=3):
 aK prog 74 #[.pointer<|ae ⟨xb,0,af⟩,.int .i64 i] w fun e w'=>e=.returned (.tuple #[.int .i64 0,.int .i64 9])/\∃s2 x2,jY w w' B pb xb s (N+1) s2/\s2.h.ps[i]? =ae x2/\(x2.s=2\/x2.s=3):=by
 by_cases h1:x.s=1
 ·have hn:=a.pg.sn.abB hu hi hx h1 (a:=0)<|.inl rfl;refine(am8 a.ha hi hu hx h1<|a.pg.sn.may (by omega) hn).mono fun e w' h=>?_;cases h with
  |mk ho hm=>
   obtain⟨_,sn,jv,rfl⟩:=a.pg.sn.J9 hu hn (fun e=>by simp at e) ho;have kQ:=(dD.1 hx).1;have gq:(jE s.h.ps ⟨3,i,0,x.t⟩)[i]? =ae (x.bJ ⟨3,i,0,x.t⟩):=by
    have hg:(s.h.ps.getD i oQ)=x:=by rw[Pz,hx];rfl
    simp only[jE,MR,hg];exact mD kQ
   exact⟨rfl,_,x.bJ ⟨3,i,0,x.t⟩,jY.of a hm ⟨rfl,rfl,rfl,rfl⟩ a.ax (by omega) (by omega) rfl<|a.pg.abort sn rfl rfl rfl,gq,.inr<|by simp[PS.bJ]⟩
 ·exact(am9 a.ha hi hu hx<|by omega).mono fun e w' ⟨g1,g2⟩=>by subst g2;exact⟨g1,s,x,(jY.still a<|Fr.refl _ _).mono<|by omega,hx,by omega⟩
def ait{h:HS}{L:List Rc}(ha:ay w B xb N h)(c:Sn N h L)(hN:N<=90000000)(hi:(i:Int)<h.P)(hu:h.up=true)(hx:h.ps[i]? =ae x)(hs:x.s=0):
 aK prog 74 #[.pointer<|ae ⟨xb,0,af⟩,.int .i64 i] w fun e w'=>e=.returned (.tuple #[.int .i64<|x.e+1,.int .i64 0])/\∃h',wX w w' B xb N h L ⟨1,i,0,x.e+1⟩ h':=by
 have hn:=c.aty hu hi hx;refine(ana ha hi hu hx hs<|c.may (by omega) hn).mono fun e w' h=>?_;cases h with
 |ok ho hm=>
  obtain⟨_,sn,jv,rfl⟩:=c.J9 hu hn (fun e=>by simp at e) ho;exact⟨rfl,_,hm,sn,rfl,rfl,⟨rfl,rfl,rfl,rfl⟩,ho⟩
 |sD ho hm=>
  have:=(c.J9 hu hn (fun e=>by simp at e) ho).1;cases this
def aug(a:bu w B pb xb N s)(hN:N<=90000000)(hi:(i:Int)<s.h.P)(hu:s.h.up=true)(hx:s.h.ps[i]? =ae x)(hs:x.s=0):
 aK prog 74 #[.pointer<|ae ⟨xb,0,af⟩,.int .i64 i] w fun e w'=>e=.returned (.tuple #[.int .i64<|x.e+1,.int .i64 0])/\∃h',wX w w' B xb N s.h s.L ⟨1,i,0,x.e+1⟩ h':=ait a.ha a.pg.sn hN hi hu hx hs
def auh(a:bu w B pb xb N s)(hN:N<=80000000)(hi:(i:Int)<s.h.P)(hu:s.h.up=false):
 aK prog 107 #[.pointer<|ae ⟨pb,0,af⟩,.int .i64 i] w fun e w'=>e=.returned (.bool true)/\Fr aH w w':=by
 obtain⟨x,hx⟩:=a.ps hi;obtain⟨ep,he⟩:=a.ep hi;have wV:=a.pg.ee i ep he;have MN:=(a.pg.sn.valid.qY i).e1;have JI:=a.pg.sn.eG;have qg:i<s.g.ep.length:=(dD.1 he).1;obtain⟨eg,je,dI,_⟩:=uO a.pa.ep (by omega);have yE:IntKind.i64.wrap (ep-1)=ep-1:=wrap_i64 (by omega) (by omega);have A:Hid (bu w B pb xb N s):=a;have HI:Hid ((i:Int)<s.h.P):=hi;have HU:Hid (s.h.up=false):=hu;have HE:Hid (s.g.ep[i]? =ae ep):=he;have jX:Hid (s.v.ev=.slice (ae ⟨eg,0,af⟩) s.g.ep.length je):=dI;have HC:Hid (∀(V:ah),Fr aH w V->aK prog 74 #[.pointer<|ae ⟨xb,0,af⟩,.int .i64 i] V fun e w'=>e=.returned (.tuple #[.int .i64 0,.int .i64 5])/\V=w'):=fun V f=>am7 (a.ha.after f) ⟨by omega,hi⟩ hu;clear a hi hu hx he dI hN qg wV MN JI yE;go_enter func107,ntmps107
 go_wp2_with fail
 refine(Ov A.out HI.out HU.out).mono ?_;rintro e w1 ⟨rfl,bg⟩;have F1:Hid (Fr aH w w1):=bg;clear bg;obtain⟨d0,d5,de,d6,aB,oC⟩:=(A.out.after F1.out).sK jX.out HE.out;have kR:s.g.dn=true:=by rw[A.out.pg.dn,HU.out];rfl
 rw[kR]at d6;clear kR;go_wp2_with fail
 refine(HC.out _<|F1.out.trans (aZ _) fun _ h=>h.elim).mono ?_;rintro e w2 ⟨rfl,rfl⟩;go_wp2
 go_ret;exact⟨rfl,F1.out.trans (aZ _) fun _ h=>h.elim⟩
def aui(a:bu w B pb xb N s)(hN:N<=80000000)(hi:(i:Int)<s.h.P)(hu:s.h.up=true)(bU:∀x,s.h.ps[i]? =ae x->x.s=0\/x.s=1\/x.s=2\/x.s=3):
 aK prog 107 #[.pointer<|ae ⟨pb,0,af⟩,.int .i64 i] w (jZ w B pb xb s<|N+4):=by
 obtain⟨x,hx⟩:=a.ps hi;obtain⟨ep,he⟩:=a.ep hi;obtain⟨e1,e2,e3⟩:=a.Dp hu hx he;have qg:i<s.g.ep.length:=(dD.1 he).1;obtain⟨eg,je,dI,_⟩:=uO a.pa.ep (by omega);have A:Hid (bu w B pb xb N s):=a;have fF:Hid (N<=80000000):=hN;have HI:Hid ((i:Int)<s.h.P):=hi;have HU:Hid (s.h.up=true):=hu;have HX:Hid (s.h.ps[i]? =ae x):=hx;have HE:Hid (s.g.ep[i]? =ae ep):=he;have jX:Hid (s.v.ev=.slice (ae ⟨eg,0,af⟩) s.g.ep.length je):=dI;have yh:(i:Int)<(s.g.ep.length:Int):=by omega
 have sV:(0:Int)<=(i:Int):=by omega
 have hep:ep<=80000000:=by omega
 have yE:IntKind.i64.wrap (ep-1)=ep-1:=wrap_i64 (by omega) (by omega);have Va:Hid (x.e=ep):=e1;have KX:Hid (x.s=0\/x.s=1\/x.s=2\/x.s=3):=bU x hx;have uy:IntKind.i64.wrap (ep+1)=ep+1:=wrap_i64 (by omega) (by omega);clear a hi hu hx he dI hN e1 e3 qg bU yE;go_enter func107,ntmps107
 go_wp2_with fail
 refine(Ja A.out (by have:=fF.out;omega) HI.out HU.out HX.out).mono ?_;rintro e w1 ⟨n1,n2,t1⟩;rename_i va vb gY fC;obtain⟨aa,ac,rfl,_⟩:=lC n1;obtain⟨ba,bc,rfl,_⟩:=lC n2;have T1:Hid (bQ w w1 B pb xb s (N+1)<|s.fH fC gY):=t1;obtain⟨d0,d5,de,d6,aB,oC⟩:=t1.at_.sK jX.out HE.out;generalize AP:(bF x.aT 1 4).length=l1;generalize AQ:(bF x.aT 2 4).length=l2;clear n1 n2 t1 AP AQ;go_wp2_with fail
 have ZW:Hid (∃W:ah,W=w1.alloc (.cells #[.int .i64 x.e,.int .i64 x.t,.int .i64 x.s,.slice aa l1 ac,.slice ba l2 bc] 58)):=⟨_,rfl⟩;obtain⟨W1,eW⟩:=ZW.out;rw[<-eW];have gX:Hid (Fr aH w1 W1):=by subst eW;exact aZ _
 have X1:Hid (W1.heap[w1.heap.size]? =ae (.cells #[.int .i64 x.e,.int .i64 x.t,.int .i64 x.s,.slice aa l1 ac,.slice ba l2 bc] 58 (0,0))):=by subst eW;exact aB0 _ _
 have kL:Hid (bu W1 B pb xb (N+1)<|s.fH fC gY):=T1.out.at_.after gX.out;clear ZW eW d0 d5 de d6 aB oC;by_cases h1:x.s=0
 ·have yF:Hid (x.s=0):=h1;clear h1 KX;have HC:Hid (aK prog 74 #[.pointer<|ae ⟨xb,0,af⟩,.int .i64 i] W1 fun e w'=>e=.returned (.tuple #[.int .i64<|ep+1,.int .i64 0])/\∃h',wX W1 w' B xb (N+1) s.h s.L ⟨1,i,0,ep+1⟩ h'):=by
   have:=aug kL.out (by have:=fF.out;omega) HI.out HU.out HX.out yF.out;rw[Va.out]at this;exact this
  refine HC.out.mono ?_;rintro e w3 ⟨rfl,h3,en⟩;have EN:Hid (wX W1 w3 B xb (N+1) s.h s.L ⟨1,i,0,ep+1⟩ h3):=en;have p3:gU w3 B pb xb s.h (s.fH fC gY).g (s.fH fC gY).v:=kL.out.pa.stay en.mv.fr fun k e hf=>kL.out.ha.off kL.out.pa e hf;have P3:Hid (gU w3 B pb xb s.h (s.fH fC gY).g (s.fH fC gY).v):=p3;have Fb:w3.ownsRow B 3 1 (.slice (ae ⟨eg,0,af⟩) s.g.ep.length je) s.g.ep.length (fK s.g.ep):=by have:=p3.ep;rw[show(s.fH fC gY).v.ev=.slice (ae ⟨eg,0,af⟩) s.g.ep.length je from jX.out]at this;exact this
  have c0:w3.cell? ⟨pb,5,af⟩=ae (.slice (ae ⟨eg,0,af⟩) s.g.ep.length je):=(aG p3.blk 5).trans (by rw[<-jX.out];rfl);have ce:w3.cell? ⟨eg,i,af⟩=ae (.int .i64 ep):=zO Fb HE.out;have cf:w3.frozen? ⟨eg,i,af⟩=false:=Fb.frozenAt i;have kR:(s.fH fC gY).g.dn=false:=by
   show s.g.dn=false;rw[A.out.pg.dn,HU.out];rfl
  have c6:w3.cell? ⟨pb,6,af⟩=ae (.bool false):=by rw[<-kR];exact aG p3.blk 6
  have X3:Hid (w3.heap[w1.heap.size]? =ae (.cells #[.int .i64 x.e,.int .i64 x.t,.int .i64 x.s,.slice aa l1 ac,.slice ba l2 bc] 58 (0,0))):=(en.mv.fr.block _ (aS X1.out) fun e=>kL.out.zf X1.out (by decide)<|.inl e).trans X1.out;have lH:w1.heap.size<w3.heap.size:=aS X3.out;have uT:pb<w3.heap.size:=aS p3.blk;have hpe:pb≠eg:=fun e=>by
   have h1:=ig Fb (k:=eg) rfl;rw[<-e,lD p3.blk]at h1;exact absurd h1<|by decide
  have y2:w3.cell? ⟨w1.heap.size,2,af⟩=ae (.int .i64 0):=(aG X3.out 2).trans (by rw[<-yF.out];rfl);clear en p3 Fb kR;go_wp2
  go_ret;have b':gU w3 B pb xb h3 (s.fH fC gY).g (s.fH fC gY).v:=by
   refine⟨?_,P3.out.ep,P3.out.wr,P3.out.fa,P3.out.gt,P3.out.gl,P3.out.rc,P3.out.st,P3.out.ap,P3.out.hb⟩;rw[EN.out.cf.1,EN.out.cf.2.1,EN.out.cf.2.2.1,EN.out.cf.2.2.2];exact P3.out.blk
  have TO:=auc (s:=⟨h3,s.L,(s.fH fC gY).g,(s.fH fC gY).v⟩) (N:=N+1) (i:=i) (e0:=ep+1) EN.out.mv.at_ (by show iC h3.pl;rw[EN.out.pl];exact kL.out.ax) b' kL.out.wr kL.out.fa (by omega) jX.out<|kL.out.pg.atH HE.out EN.out.sn EN.out.cf.1 EN.out.up EN.out.pl;exact⟨rfl,_,((T1.out.after gX.out).mid EN.out.mv TO EN.out.cf).mono<|by omega⟩
 ·have yF:Hid (x.s=1\/x.s=2\/x.s=3):=(by have:=KX.out;omega:x.s=1\/x.s=2\/x.s=3);clear h1 KX Va uy;refine(auf kL.out (by have:=fF.out;omega) HI.out HU.out HX.out yF.out).mono ?_;rintro e w3 ⟨rfl,s2,x2,t3,pG,BZ⟩;have T3:Hid (jY W1 w3 B pb xb (s.fH fC gY) (N+2) s2):=t3;have Jb:Hid (s2.h.ps[i]? =ae x2):=pG;have HS2:Hid (x2.s=2\/x2.s=3):=BZ;have Jc:Hid (s2.v.ev=.slice (ae ⟨eg,0,af⟩) s2.g.ep.length je):=by show s2.v.ev=_;rw[t3.v,t3.g];exact jX.out
  have mO:Hid (s2.g.ep[i]? =ae ep):=by show s2.g.ep[i]? =_;rw[t3.g];exact HE.out
  obtain⟨d0,d5,de,d6,aB,oC⟩:=t3.to.at_.sK Jc.out mO.out;have kR:s2.g.dn=false:=by rw[t3.to.at_.pg.dn,show s2.h.up=true from t3.up.trans HU.out];rfl
  rw[kR]at d6;have X3:Hid (w3.heap[w1.heap.size]? =ae (.cells #[.int .i64 x.e,.int .i64 x.t,.int .i64 x.s,.slice aa l1 ac,.slice ba l2 bc] 58 (0,0))):=(t3.to.fr.block _ (aS X1.out)<|kL.out.zf X1.out<|by decide).trans X1.out;have lH:w1.heap.size<w3.heap.size:=aS X3.out;have y2:w3.cell? ⟨w1.heap.size,2,af⟩=ae (.int .i64 x.s):=aG X3.out 2;clear t3 pG BZ kR;obtain⟨xe,xt,xs,xa,wW,xc,xd,xi,xw,xg⟩:=x;have hs:=yF.out;simp only at hs y2;have hb:(xs !=0)=true:=by simp only[bne_iff_ne,ne_eq];omega
  clear yF hs;go_wp2_with fail
  refine(Ja T3.out.to.at_ (by have:=fF.out;omega) (by have h1:s2.h.P=s.h.P:=T3.out.to.cf.1;rw[h1];exact HI.out) (T3.out.up.trans HU.out) Jb.out).mono ?_;rintro e w4 ⟨n1,n2,t4⟩;rename_i va vb EG Px;obtain⟨ca,cc,rfl,_⟩:=lC n1;obtain⟨da,dc,rfl,_⟩:=lC n2;have kT:Hid (∀V,Fr aH w4 V->jZ w B pb xb s (N+4) (.returned<|.bool true) V):=fun V f=>⟨rfl,_,((((T1.out.after gX.out).trans T3.out.to).trans t4).after f).mono<|by omega⟩;obtain⟨ye,yt,ys,ya,RH,yc,yd,yi,yw,yg⟩:=x2;have h2:=HS2.out;simp only at h2;clear n1 n2 t4 HS2;generalize(bF (⟨ye,yt,ys,ya,RH,yc,yd,yi,yw,yg⟩:PS).aT 1 4).length=m1;generalize(bF (⟨ye,yt,ys,ya,RH,yc,yd,yi,yw,yg⟩:PS).aT 2 4).length=m2;rcases h2 with h2|h2<;>subst h2<;>go_wp2<;>go_ret<;>exact kT.out _<|aZ _
def auj(a:bu w B pb xb N s)(hN:N<=80000000)(hi:(i:Int)<s.h.P):aK prog 107 #[.pointer<|ae ⟨pb,0,af⟩,.int .i64 i] w (jZ w B pb xb s<|N+4):=by
 cases hu:s.h.up with
 |true=>
  obtain⟨x,hx⟩:=a.ps hi;have k:=(a.pg.sn.up hu i x hx).k;have f:=a.pg.sn.valid.qY i;have s0:=f.s0;have s1:=f.s1;rw[<-k.s]at s0 s1;exact aui a hN hi hu fun y hy=>by rw[hx]at hy;cases hy;omega
 |false=>exact(auh a hN hi hu).mono fun e w' ⟨h1,h2⟩=>⟨h1,s,(bQ.still a h2).mono<|by omega⟩
end
end
section
open _root_.Go.Proofs.YtkelpcjiediamaaGreat.Twin (xW jT dU Ad Ac HS.taken)
def WW(h h3:HS):Prop:=∃fE h2,Ad h h.fl fE/\o7 (HS.taken h fE) (dU h.fl++jT h.fl h.pl) h2/\Ac h2 h3
inductive Lv(T:Int)(fl:List Ms)(i:Nat)(x:PS)(m:Nat):Prop
 |idle (hs:x.s=0)
 |going (hs:x.s=1) (hm:T-x.si+2<=m)
 |due (hs:x.s=2\/x.s=3) (hm:x.wa+1<=m)
 |Dt (hs:x.s=2\/x.s=3) (hm:1<=m) (hf:∀q∈bF x.aT 2 4,∃c,(⟨1,q,i,x.t,c⟩:Ms)∈fl)
section
variable{N:Nat}{h h' h1 h2 h3:HS}{L:List Rc}{i j m:Nat}{x y:PS}
variable{fl:List Ms}{z:Ms}{pl:List PL}
def Lv.mono{T:Int}{fl':List Ms}{k:Nat}(v:Lv T fl i x m)(hf:∀z∈fl,z∈fl')(hk:m<=k):Lv T fl' i x k:=by
 cases v with
 |idle hs=>exact .idle hs
 |going hs hm=>exact .going hs<|by omega
 |due hs hm=>exact .due hs<|by omega
 |Dt hs hm DV=>exact .Dt hs (by omega) fun q hq=>(DV q hq).imp fun c hc=>hf _ hc
def auk(hb:h.br=false)(hq:0<=z.q/\z.q<4)(hx:h.ps[i]? =ae x)(hj:z.p=(j:Int))(hy:h.ps[j]? =ae y)(a:xH h j y z h1):
 h1.br=false/\h1.up=h.up/\∃x1,h1.ps[i]? =ae x1/\(x1.s=0\/(x1.s=x.s/\x1.t=x.t/\x1.si=x.si/\x1.wa=x.wa/\∀q:Nat,2<=x1.aT.getD q 0->2<=x.aT.getD q 0/\¬(h.up=true/\(x.s=2\/x.s=3)/\z.p=i/\z.t=x.t/\z.q=q))):=by
 have Ju:=(dD.1 hy).1;cases a with
 |idle hi=>
  refine⟨hb,rfl,x,hx,.inr ⟨rfl,rfl,rfl,rfl,fun q h2=>⟨h2,fun⟨z1,z2,z3,z4,z5⟩=>?_⟩⟩⟩;obtain rfl:j=i:=by omega
  rw[hx]at hy;cases hy;exact hi ⟨z1,z2,z4.symm⟩
 |done hi ht hw=>
  cases hw with
  |sD jv pz=>rw[hb]at pz;cases pz
  |ok jv _=>
   refine⟨hb,rfl,?_⟩;rw[Ns hy rfl];by_cases e:j=i
   ·subst e;exact⟨_,mD Ju,.inl<|by simp[PS.bJ]⟩
   ·exact⟨x,(vz e).trans hx,.inr ⟨rfl,rfl,rfl,rfl,fun q h2=>⟨h2,fun z=>e<|by omega⟩⟩⟩
 |tie hi ht=>
  refine⟨hb,rfl,?_⟩;by_cases e:j=i
  ·subst e;rw[hx]at hy;cases hy;obtain⟨_,r2,r3,r4,r5,_⟩:=FP x z.q.toNat 1;refine⟨_,mD Ju,.inr ⟨r3,r2,r4,r5,fun q h2=>?_⟩⟩;rw[FO x z.q.toNat 1 (by omega) (by omega) q]at h2;split at h2
   ·omega
   ·exact⟨h2,fun w=>by omega⟩
  ·exact⟨x,(vz e).trans hx,.inr ⟨rfl,rfl,rfl,rfl,fun q h2=>⟨h2,fun z=>e<|by omega⟩⟩⟩
def aul{A:List Ms}:∀{h:HS} {x:PS},h.br=false->h.up=true->(∀z∈A,0<=z.q/\z.q<4)->o7 h A h2->h.ps[i]? =ae x->
 ∃x2,h2.ps[i]? =ae x2/\(x2.s=0\/(x2.s=x.s/\x2.t=x.t/\x2.si=x.si/\x2.wa=x.wa/\∀q:Nat,2<=x2.aT.getD q 0->2<=x.aT.getD q 0/\((x.s=2\/x.s=3)->∀z∈A,¬(z.p=i/\z.t=x.t/\z.q=q)))):=by
 induction A with
 |nil=>
  intro h x _ _ _ k hx;cases k;exact⟨x,hx,.inr ⟨rfl,rfl,rfl,rfl,fun q h2=>⟨h2,fun _ z hz=>by simp at hz⟩⟩⟩
 |cons z A ih=>
  intro h x hb hu hq k hx;cases k with
  |cons hi hy a r=>
   obtain⟨b1,u1,x1,gq,ho⟩:=auk hb (hq z<|by simp) hx hi hy a;obtain⟨x2,pG,TJ⟩:=ih b1 (u1.trans hu) (fun z hz=>hq z<|by simp[hz]) r gq;refine⟨x2,pG,?_⟩;rcases ho with ho|⟨e1,e2,e3,e4,e5⟩
   ·rcases TJ with h0|⟨f1,_⟩
    ·exact .inl h0
    ·exact .inl<|f1.trans ho
   ·rcases TJ with h0|⟨f1,f2,f3,f4,f5⟩
    ·exact .inl h0
    ·refine .inr ⟨f1.trans e1,f2.trans e2,f3.trans e3,f4.trans e4,fun q h2=>?_⟩;obtain⟨g1,g2⟩:=f5 q h2;obtain⟨g3,g4⟩:=e5 q g1;refine⟨g3,fun hs y hy=>?_⟩;rcases jC.1 hy with rfl|hy
     ·exact fun w=>g4 ⟨hu,hs,w⟩
     ·have:=g2 (by rw[e1];exact hs) y hy;rw[e2]at this;exact this
def aiv(ts:List Int)(l:Int):(bF ts l 4).length<=4:=by
 unfold bF;rw[Ib];exact dP (Fj _ _)<|by simp
def abO{i t:Int}{c:Bool}:∀(qs:List Int) {l:List Ms},l.length+qs.length<=100->(∀z∈l,z∈uG l i t c qs)/\(∀q∈qs,(⟨1,q,i,t,c⟩:Ms)∈uG l i t c qs)/\(uG l i t c qs).length<=l.length+qs.length
 |[],l,_=>⟨fun _ hz=>hz,by simp,bV _⟩
 |q::qs,l,hl=>by
  rw[ny]at hl;have e:rq l ⟨1,q,i,t,c⟩=l++[⟨1,q,i,t,c⟩]:=by unfold rq;rw[if_neg<|by omega]
  have hs:uG l i t c (q::qs)=uG (l++[⟨1,q,i,t,c⟩]) i t c qs:=by rw[<-e];rfl
  obtain⟨k1,k2,k3⟩:=abO (i:=i) (t:=t) (c:=c) qs (l:=l++[⟨1,q,i,t,c⟩]) (by simp<;>omega);rw[hs];refine⟨fun z hz=>k1 z<|by simp[hz],fun q' rF=>?_,by simp at k3⊢;omega⟩;rcases jC.1 rF with rfl|rF
  ·exact k1 _<|by simp
  ·exact k2 q' rF
def aum(yj:i≠j)(_:h.br=false)(_:h.ps[j]? =ae y)(l:uH h j y true h'):h'.ps[i]? =h.ps[i]? :=by
 cases l with
 |vI=>exact vz yj.symm
 |idle=>rfl
 |timeout hs ht hw=>
  cases hw with
  |ok jv _=>
   show(jE _ _)[i]? =_;simp only[jE,MR,HS.dE,List.set_set];exact vz yj.symm
 |rem hs hr=>cases hr<;>exact vz yj.symm
def aun(hl:h.fl.length+4<=100)(l:uH h j y true h'):(∀z∈h.fl,z∈h'.fl)/\h'.fl.length<=h.fl.length+4/\h'.T=h.T:=by
 cases l with
 |vI=>exact⟨fun _ z=>z,UF _ _,rfl⟩
 |idle=>exact⟨fun _ z=>z,UF _ _,rfl⟩
 |timeout hs ht hw=>
  cases hw with
  |ok jv _=>exact⟨fun _ z=>z,UF _ _,rfl⟩
 |rem hs hr=>
  cases hr with
  |wait=>exact⟨fun _ z=>z,UF _ _,rfl⟩
  |due fv hw=>
   have:=aiv y.aT 2;obtain⟨k1,_,k3⟩:=abO (i:=j) (t:=y.t) (c:=y.s==2) (bF y.aT 2 4) (l:=h.fl) (by omega);exact⟨k1,dP k3<|by omega,rfl⟩
def auo(c:Sn N h L)(hu:h.up=true)(hx:h.ps[i]? =ae x)(hl:h.fl.length+4<=100)(l:uH h i x true h')(v:Lv h.T [] i x (m+1)):∃x',h'.ps[i]? =ae x'/\Lv h'.T h'.fl i x' m:=by
 have pr:=c.up hu i x hx;have kQ:=(dD.1 hx).1;have XN:=pr.c.si;cases l with
 |idle hs=>
  refine⟨x,hx,?_⟩;cases v with
  |idle h0=>exact .idle h0
  |going h1=>exact absurd (.inl h1) hs
  |due h1=>exact absurd (.inr h1) hs
  |Dt h1=>exact absurd (.inr h1) hs
 |vI hs ht=>
  refine⟨_,mD kQ,?_⟩;cases v with
  |idle h0=>omega
  |going _ hm=>exact .going hs (by show h.T-(x.si+1)+2<=m;omega)
  |due h1=>omega
  |Dt h1=>omega
 |timeout hs ht hw=>
  cases hw with
  |ok jv _=>
   have gq:(h.dE i {x with si:=x.si+1}).ps[i]? =ae {x with si:=x.si+1}:=mD kQ;rw[Ns gq rfl];refine⟨_,mD (by show i<(h.ps.set i _).length;rw[yK];exact kQ),?_⟩;cases v with
   |idle h0=>omega
   |going _ hm=>exact .due (.inr<|by simp[PS.bJ]) (by simp only[PS.bJ];simp<;>omega)
   |due h1=>omega
   |Dt h1=>omega
 |rem hs hr=>
  have pn:=pr.p.CU (by omega);have du:=pr.c.due (by omega);have hm:x.wa+1<=(m+1:Nat):=by
   cases v with
   |idle h0=>omega
   |going h1=>omega
   |due _ hm=>exact hm
   |Dt _ _ hf=>
    obtain⟨q,hq⟩:=List.exists_mem_of_ne_nil _ pn;obtain⟨_,hc⟩:=hf q hq;simp at hc
  cases hr with
  |wait hw=>exact⟨_,mD kQ,.due hs (by show x.wa-1+1<=(m:Int);omega)⟩
  |due fv hw=>
   refine⟨_,mD kQ,.Dt hs (by omega) fun q hq=>⟨x.s==2,?_⟩⟩;have:=aiv x.aT 2;exact(abO (i:=i) (t:=x.t) (c:=x.s==2) (bF x.aT 2 4) (l:=h.fl)<|by omega).2.1 q hq
def aup(c:Sn N h L)(hu:h.up=true)(hf:h.fl=[])(t:qj h j h1):(j:Int)<=h.P->h1.fl.length<=4*j/\h1.T=h.T/\∀(i:Nat) (x:PS),h.ps[i]? =ae x->Lv h.T [] i x (m+1)->∃x1,h1.ps[i]? =ae x1/\(i<j->Lv h1.T h1.fl i x1 m)/\(j<=i->x1=x):=by
 induction t with
 |zero=>exact fun _=>⟨by rw[hf];simp,rfl,fun i x hx _=>⟨x,hx,fun z=>by omega,fun _=>rfl⟩⟩
 | @succ k g g' y t hy l ih=>
   intro hj;obtain⟨L1,c1,w1,_⟩:=c.Oq hu t (by omega);obtain⟨k1,k2,k3⟩:=ih (by omega);have hP:=c.P1;have hl:g.fl.length+4<=100:=by omega
   have Yw:g.up=true:=w1.up.trans hu;obtain⟨f1,f2,f3⟩:=aun hl l;refine⟨by omega,f3.trans k2,fun i x hx v=>?_⟩;obtain⟨x1,gq,v1,e1⟩:=k3 i x hx v;by_cases hi:i=k
   ·subst hi;obtain rfl:=e1<|bV _;rw[gq]at hy;cases hy;obtain⟨x2,pG,v2⟩:=auo c1 Yw gq hl l (by rw[k2];exact v);exact⟨x2,pG,fun _=>v2,fun z=>by omega⟩
   ·refine⟨x1,(aum hi c1.br hy l).trans gq,fun z=>?_,fun z=>e1<|by omega⟩;rw[f3];exact(v1<|by omega).mono f1<|bV _
def auq{q:Nat}{p:PL}(hz:z∈fl)(hk:z.k=1)(hq:z.q=(q:Int))(hp:pl[q]? =ae p)(ho:p.out=false):z.kC∈jT fl pl:=by
 unfold jT;refine YJ.2 ⟨q,Ic.2 (dD.1 hp).1,?_⟩;simp only[hp,ho,lq,lu];exact Ie.2 ⟨z,JL.2 ⟨hz,by simp[hk,hq]⟩,rfl⟩
def aur(c:Sn N h L)(hN:N<=90000000)(hu:h.up=true)(hQ:h.Q=h.pl.length)(ho:∀(q:Nat) (p:PL),h.pl[q]? =ae p->p.out=false)(r:WW h h3)(v:∀(i:Nat) (x:PS),(i:Int)<h.P->h.ps[i]? =ae x->Lv h.T h.fl i x (m+1)):
 (∀(i:Nat) (x:PS),(i:Int)<h.P->h3.ps[i]? =ae x->Lv h3.T h3.fl i x m)/\(∀(q:Nat) (p:PL),h3.pl[q]? =ae p->p.out=false):=by
 obtain⟨fE,h2,hs,kr,tk⟩:=r;obtain⟨c1,_,_⟩:=c.taken hN hs;have ak:=c.oz hN hs;obtain⟨L2,c2,w2,p2,f2⟩:=c1.WL ak kr;have Py:h2.up=true:=w2.up.trans hu;have hP:=c.P1;have WX:=c.Q1;have pl2:∀(q:Nat) (p:PL),h2.pl[q]? =ae p->p.out=false:=fun q p hp=>by
  rw[p2]at hp;have Am:fE[q]? =ae p:=hp;have hl:q<h.pl.length:=by rw[<-hs.len];exact(dD.1 Am).1
  obtain⟨v',e⟩:=hs.get q _<|dR hl;rw[e]at Am;cases Am;exact ho q h.pl[q]<|dR hl
 have hA:∀z∈dU h.fl++jT h.fl h.pl,0<=z.q/\z.q<4:=fun z hz=>by
  have h1:=(ak z hz).1.q;have h2:(HS.taken h fE).Q=h.Q:=rfl;omega
 have v2:∀(i:Nat) (x:PS),(i:Int)<h.P->h2.ps[i]? =ae x->Lv h2.T [] i x (m+1):=fun i x hi pG=>by
  have kQ:i<h.ps.length:=by rw[c.h6];omega
  obtain⟨y,hy⟩:∃y,h.ps[i]? =ae y:=⟨_,dR kQ⟩;obtain⟨x2,aiw,tr⟩:=aul (h:=HS.taken h fE) c.br hu hA kr hy;rw[pG]at aiw;cases aiw;have hT:h2.T=h.T:=w2.T;rcases tr with h0|⟨e1,e2,e3,e4,e5⟩
  ·exact .idle h0
  cases v i y hi hy with
  |idle h0=>exact .idle<|e1.trans h0
  |going h1 hm=>exact .going (e1.trans h1) (by rw[hT,e3];exact hm)
  |due h1 hm=>exact .due (by rw[e1];exact h1) (by rw[e4];exact hm)
  |Dt h1 hm hf=>
   exfalso;have hpn:=(c2.up Py i x pG).p.CU (by rw[e1];omega);obtain⟨q,hq⟩:=List.exists_mem_of_ne_nil _ hpn;obtain⟨k,wY,rfl,h2k⟩:=ND.1 hq;obtain⟨g1,g2⟩:=e5 k h2k;obtain⟨cc,hc⟩:=hf k<|ND.2 ⟨k,wY,rfl,g1⟩;have RF:=(c.ms _ hc).1.q;have mM:k<h.pl.length:=by have:(k:Int)<h.Q:=RF.2;omega
   have eF:=auq (pl:=h.pl) hc rfl rfl (dR mM)<|ho k _<|dR mM;exact g2 h1 _ (Ut _ eF) ⟨rfl,rfl,rfl⟩
 cases tk with
 |down hd=>rw[Py]at hd;cases hd
 |up _ t=>
  have jB:h2.fl=[]:=f2;cases t with
  |sD hj t hx l=>
   obtain⟨L3,c3,w3,_⟩:=c2.Oq Py t (by have:=c2.P1;omega);have:=(c3.look (w3.up.trans Py) (by rw[w3.P];omega) hx l).1;cases this
  |all t=>
   have hP2:h2.P=h.P:=w2.P;obtain⟨L3,c3,w3,p3⟩:=c2.Oq Py t (by have:=c2.P1;omega);refine⟨fun i x hi hx=>?_,fun q p hp=>pl2 q p (by rw[<-p3];exact hp)⟩;have kQ:i<h2.ps.length:=by rw[c2.h6];omega
   have hy:=dR kQ;obtain⟨_,_,k3⟩:=aup (m:=m) c2 Py jB t (by have:=c2.P1;omega);obtain⟨x1,gq,v1,_⟩:=k3 i _ hy<|v2 i _ hi hy;rw[hx]at gq;cases gq;exact v1<|by omega
def Lv.over{T K:Int}{z:St}(v:Lv T fl i x 0)(p:PR pl T K z i x):x.s=0:=by
 have h1:=p.c.si;cases v with
 |idle hs=>exact hs
 |going hs hm=>omega
 |due hs hm=>have:=p.c.due (by omega);omega
 |Dt hs hm=>omega
end
end
end Go.Proofs.YtkelpcjiediamaaGreat
