import Derived.Test.YtkelpcjiediamaaGreatQb45
set_option maxRecDepth 100000
set_option maxHeartbeats 0
set_option linter.all false
namespace Go.Proofs.YtkelpcjiediamaaGreat
open Go renaming Calls→aK,TypeId→bW,Value→aj,World→ah,maxLen→dH,undef→ag
open Go.RowKit renaming intOf→dX
open Option renaming none→af,some→ae
open Go.Proofs.Tryz
open Go.RowKit Go.Maps
section
section
variable{w w':ah}{B pb xb N:Nat}{s:dB}
variable{i q:Nat}{ts:ByteArray}
def auK(a:bu w B pb xb N s)(hN:N<=80000000)(hi:(i:Int)<s.h.P)(hu:s.h.up=false){p:PL}(hp:s.h.pl[q]? =ae p)(h8:ts.size<=8):
 aK prog 61 #[.pointer<|ae ⟨pb,0,af⟩,.int .i64 i,.int .i64 q,.string ts] w fun e w'=>e=.returned (.bool true)/\Fr aH w w':=by
 obtain⟨x,hx⟩:=a.ps hi;obtain⟨ep,he⟩:=a.ep hi;have wV:=a.pg.ee i ep he;have MN:=(a.pg.sn.valid.qY i).e1;have JI:=a.pg.sn.eG;have qg:i<s.g.ep.length:=(dD.1 he).1;obtain⟨eg,je,dI,_⟩:=uO a.pa.ep (by omega);have yE:IntKind.i64.wrap (ep-1)=ep-1:=wrap_i64 (by omega) (by omega);have A:Hid (bu w B pb xb N s):=a;have HI:Hid ((i:Int)<s.h.P):=hi;have HU:Hid (s.h.up=false):=hu;have HE:Hid (s.g.ep[i]? =ae ep):=he;have jX:Hid (s.v.ev=.slice (ae ⟨eg,0,af⟩) s.g.ep.length je):=dI;have HC:Hid (∀(V:ah) (e0:Int) (ts:ByteArray),ts.size<=8->Fr aH w V->aK prog 77 #[.pointer<|ae ⟨xb,0,af⟩,.int .i64 i,.int .i64 e0,.int .i64 q,.string ts] V fun e w'=>e=.returned (.int .i64 5)/\V=w'):=fun V e0 ts h8 f=>by
  have hb:=abM hu x e0;have:=ae6 (ep:=e0) (a.ha.after f) hi (dD.1 hp).1 hx (by rw[hb];decide) h8;rw[hb]at this;exact this
 have fF:Hid (N<=80000000):=hN;have HP:Hid (s.h.pl[q]? =ae p):=hp;have H8:Hid (ts.size<=8):=h8;have yh:(i:Int)<(s.g.ep.length:Int):=by omega
 have sV:(0:Int)<=(i:Int):=by omega
 clear a hi hu hx he dI hN qg wV MN JI hp h8;go_enter func61,ntmps61
 go_wp2_with fail
 refine(Ov A.out HI.out HU.out).mono ?_;rintro e w1 ⟨rfl,bg⟩;have F1:Hid (Fr aH w w1):=bg;clear bg;obtain⟨d0,d5,de,d6,aB,oC⟩:=(A.out.after F1.out).sK jX.out HE.out;go_wp2_with fail
 refine(RN (A.out.after<|F1.out.trans (aZ _) fun _ h=>h.elim) (by have:=fF.out;omega) HP.out).mono ?_;rintro e w2 ⟨va,vl,rfl,rM,jB⟩;obtain⟨pa,pc,rfl⟩:=rM;have F2:Hid (Fr aH w w2):=(F1.out.trans (aZ _) fun _ h=>h.elim).trans jB fun _ h=>h.elim;clear jB d0 d5 de d6 aB oC;obtain⟨d0,d5,de,d6,aB,oC⟩:=(A.out.after F2.out).sK jX.out HE.out;go_wp2_with fail
 have ZW:Hid (∃W:ah,W=w2.alloc (.cells #[.bool p.out,.int .i64 p.s.es.length,.int .i64 p.s.bZ,.slice pa vl pc] 62)):=⟨_,rfl⟩;obtain⟨W2,eW⟩:=ZW.out;rw[<-eW];have FW2:Hid (Fr aH w2 W2):=by subst eW;exact aZ _
 have Y2:Hid (W2.heap[w2.heap.size]? =ae (.cells #[.bool p.out,.int .i64 p.s.es.length,.int .i64 p.s.bZ,.slice pa vl pc] 62 (0,0))):=by subst eW;exact aB0 _ _
 have RP:Hid (Fr aH w W2):=F2.out.trans FW2.out fun _ h=>h.elim;clear ZW eW d0 d5 de d6 aB oC;obtain⟨d0,d5,de,d6,aB,oC⟩:=(A.out.after RP.out).sK jX.out HE.out;go_region_held3 (fun w'=>w'.cell? ⟨pb,0,af⟩=ae (.pointer<|ae ⟨xb,0,af⟩)/\w'.cell? ⟨pb,5,af⟩=ae (.slice (ae ⟨eg,0,af⟩) s.g.ep.length je)/\w'.cell? ⟨eg,i,af⟩=ae (.int .i64 ep))
  (first|exact⟨d0,d5,de⟩|go_keep)
  ((go_at_call 77;with_reducible refine(HC.out _ (ep-1) _ (by decide)<|RP.out.drew).mono ?_;rintro e w4 ⟨rfl,rfl⟩))
 go_wp2_with fail
 go_region_held3 (fun w'=>w'.cell? ⟨pb,0,af⟩=ae (.pointer<|ae ⟨xb,0,af⟩)/\w'.cell? ⟨pb,5,af⟩=ae (.slice (ae ⟨eg,0,af⟩) s.g.ep.length je)/\w'.cell? ⟨eg,i,af⟩=ae (.int .i64 ep))
  (first|exact⟨d0,d5,de⟩|go_keep)
  ((go_at_call 77;with_reducible refine(HC.out _ ep _ H8.out<|(RP.out.drew).drew).mono ?_;rintro e w4 ⟨rfl,rfl⟩))
 go_wp2_with fail
 refine(RN (A.out.after<|(RP.out.drew).drew) (by have:=fF.out;omega) HP.out).mono ?_;rintro e w5 ⟨va,Xb,rfl,rM,lI⟩;obtain⟨Xc,Xd,rfl⟩:=rM;have F5:Hid (Fr aH w w5):=((RP.out.drew).drew).trans lI fun _ h=>h.elim;have Y5:Hid (w5.heap[w2.heap.size]? =ae (.cells #[.bool p.out,.int .i64 p.s.es.length,.int .i64 p.s.bZ,.slice pa vl pc] 62 (0,0))):=(lI.block _ (aS Y2.out) id).trans Y2.out;clear d0 d5 de d6 aB oC;obtain⟨_,_,_,d6,aB,_⟩:=(A.out.after F5.out).sK jX.out HE.out;have kR:s.g.dn=true:=by rw[A.out.pg.dn,HU.out];rfl
 rw[kR]at d6;have y3:w5.cell? ⟨w2.heap.size,1,af⟩=ae (.int .i64 p.s.es.length):=aG Y5.out 1;have b2:w2.heap.size<w5.heap.size:=aS Y5.out;clear lI kR;generalize(p.s.es.length:Int)=ln at y3⊢
 go_wp2
 go_ret;exact⟨rfl,F5.out.trans (aZ _) fun _ h=>h.elim⟩
def auL(a:bu w B pb xb N s)(hN:N<=80000000)(hi:(i:Int)<s.h.P)(hq:(q:Int)<s.h.Q)(h8:ts.size<=8):aK prog 61 #[.pointer<|ae ⟨pb,0,af⟩,.int .i64 i,.int .i64 q,.string ts] w (jZ w B pb xb s<|N+4):=by
 obtain⟨p,hp⟩:=a.q hq;cases hu:s.h.up with
 |true=>
  obtain⟨x,hx⟩:=a.ps hi;exact(aiE a hN hi hu hx hp h8).mono fun _ _ d=>d.done
 |false=>exact(auK a hN hi hu hp h8).mono fun e w' ⟨h1,h2⟩=>⟨h1,s,(bQ.still a h2).mono<|by omega⟩
end
end
section
noncomputable def GN:Code:=ai.gK Dw Dx
def auM:ai.codeOk prog ai.mZ (ai.pY Dw Dx)=true:=by kernel_rfl
def aiH:List.range 101=[0,1,2,3,4,5,6,7,8,9,10,11,12,13,14,15,16,17,18,19,20,21,22,23,24,25,26,27,28,29,30,31,32,33,34,35,36,37,38,39,40,41,42,43,44,45,46,47,48,49,50,51,52,53,54,55,56,57,58,59,60,61,62,63,64,65,66,67,68,69,70,71,72,73,74,75,76,77,78,79,80,81,82,83,84,85,86,87,88,89,90,91,92,93,94,95,96,97,98,99,100]:=by kernel_rfl
def Lc(a:Array aj):a=((List.range a.size).map fun i=>a.getD i ag).toArray:=Array.ext (by simp) fun i h1 h2=>by simp[Array.getD,h1]
section
variable{w w1 w' W w3:ah}{B p q t k cb xb pb n:Nat}{h h':HS}{L:List Rc}{v:PV}{g:PG}
def gU.auN{xx:aj}(ha:ay w B xb n h)(b:gU w B pb xb h g v)(hW:Fr aH w W)(hg:W.grownBy w1 v.ev.ownBlock)(iy:w1.ownsRow B 3 1 xx (g.ep.length+1) (fK g.ep++[.int .i64 1]))(dM:∀k,xx.ownBlock=ae k->v.ev.ownBlock=ae k\/w.heap.size<=k):
 gU (w1.setCell ⟨pb,5,af⟩ xx) B pb xb h {g with ep:=g.ep++[1]} {v with ev:=xx}/\ay (w1.setCell ⟨pb,5,af⟩ xx) B xb n h/\Fr (fun k=>k=pb\/v.ev.ownBlock=ae k) w (w1.setCell ⟨pb,5,af⟩ xx):=by
 have f1:Fr (fun k=>v.ev.ownBlock=ae k) w w1:=(hW.mono fun _ h=>h.elim).grown hg fun k e=>.inl e;have f2:Fr (fun k=>k=pb\/v.ev.ownBlock=ae k) w (w1.setCell ⟨pb,5,af⟩ xx):=(f1.mono fun k h=>.inl<|.inr h).setCell (.inl<|.inl rfl) _;have bM:v.ev.ownBlock≠ae pb:=FK b.ep b.blk (by decide);have b1:=(f1.block pb (aS b.blk) bM).trans b.blk;have ht:∀k,(k=pb\/v.ev.ownBlock=ae k)->tag w k=48\/tag w k=3:=fun k e=>e.imp (fun e=>by rw[e];exact lD b.blk) fun e=>ig b.ep e;have st:∀{ty:bW} {wd:Nat} {u:aj} {m:Nat} {xs:List aj},w.ownsRow B ty wd u m xs->ty≠48->ty≠3->(w1.setCell ⟨pb,5,af⟩ xx).ownsRow B ty wd u m xs:=fun ho h1 h2=>KW ho f2 fun k e e2=>(ht k e).elim (fun z=>h1<|e2.symm.trans z) fun z=>h2<|e2.symm.trans z;refine⟨⟨?_,?_,st b.wr (by decide)<|by decide,st b.fa (by decide)<|by decide,st b.gt (by decide)<|by decide,b.gl,fun q u l h1 h2=>st (b.rc q u l h1 h2) (by decide)<|by decide,?_,fun k hk e=>?_,b.hb⟩,ha.stay f2 fun k e hk=>ha.off b hk<|e.imp id fun e=>.inl e,f2⟩
 ·rw[jQ b1];rfl
 ·have hr:Fr (fun k=>k=pb) w1 (w1.setCell ⟨pb,5,af⟩ xx):=(Fr.refl (fun k=>k=pb) w1).setCell (p:=⟨pb,5,af⟩) (.inl rfl) _;have:=hr.ownsRow iy (fun k hk e=>by
   subst e;rcases dM _ hk with h1|h1
   ·exact bM h1
   ·have:=aS b.blk;omega)
  show World.ownsRow _ B 3 1 xx (g.ep++[1]).length (fK<|g.ep++[1]);simpa[fK]using this
 ·exact f2.ownsRow b.st fun k hk e=>e.elim (fun e=>by subst e;exact FK b.st b.blk (by decide) hk) fun e=>b.ap k e hk
 ·rcases dM k hk with h1|h1
  ·exact b.ap k h1 e
  ·have:=(b.st.lt k e).2;omega
structure EH(w:ah)(B p q t k cb xb pb n:Nat)(h:HS)(L:List Rc)(v:PV)(w':ah):Prop where
 Oz:w'.heap[cb]? =ae (.cells #[.int .i64 p,.int .i64 q,.int .i64 t,.int .i64 k] 23 (0,0))
 lt:cb<B
 ha:ay w' B xb n h
 ax:iC h.pl
 vW:Mk n h L
 cf:h.P=p/\h.Q=q/\h.T=t/\h.K=k
 pa:gU w' B pb xb h (oD n q) v
 fr:Fr (fun k=>B<=k) w w'
def gU.jM(b:gU w B pb xb h g v)(cf:h'.P=h.P/\h'.Q=h.Q/\h'.T=h.T/\h'.K=h.K):gU w B pb xb h' g v:=by
 refine⟨?_,b.ep,b.wr,b.fa,b.gt,b.gl,b.rc,b.st,b.ap,b.hb⟩;rw[cf.1,cf.2.1,cf.2.2.1,cf.2.2.2];exact b.blk
def EH.step{wr:ah}{x:PS}{xx:aj}(G:EH w B p q t k cb xb pb n h L v wr)(hx:h.ps[n]? =ae x)(en:wX wr w1 B xb n h L ⟨1,n,0,x.e+1⟩ h')(hW:Fr aH w1 W)(hg:W.grownBy w3 v.ev.ownBlock)(iy:w3.ownsRow B 3 1 xx (n+1) (fK (List.replicate n 1)++[.int .i64 1]))(dM:∀k,xx.ownBlock=ae k->v.ev.ownBlock=ae k\/w1.heap.size<=k):
 EH w B p q t k cb xb pb (n+1) h' (L++[⟨1,n,0,x.e+1⟩]) {v with ev:=xx} (w3.setCell ⟨pb,5,af⟩ xx):=by
 have pa1:gU w1 B pb xb h' (oD n q) v:=(G.pa.stay en.mv.fr fun k e hk=>G.ha.off G.pa e hk).jM en.cf;obtain⟨p2,h2,f2⟩:=pa1.auN en.mv.at_ hW hg (by simpa[oD]using iy) dM;have dV:Fr (fun k=>B<=k) wr (w3.setCell ⟨pb,5,af⟩ xx):=(en.mv.fr.mono fun k e=>.inl (G.ha.rV e).2).trans f2 fun k e=>.inl<|e.elim (fun e=>e▸pa1.hb) fun e=>(pa1.ep.lt k e).1;refine⟨(dV.block cb (aS G.Oz) (by have:=G.lt;omega)).trans G.Oz,G.lt,h2.mono<|by omega,by rw[en.pl];exact G.ax,G.vW.step hx en,⟨en.cf.1.trans G.cf.1,en.cf.2.1.trans G.cf.2.1,en.cf.2.2.1.trans G.cf.2.2.1,en.cf.2.2.2.trans G.cf.2.2.2⟩,?_,G.fr.trans dV fun _=>.inl⟩;have e:oD (n+1) q={oD n q with ep:=(oD n q).ep++[1]}:=by simp[oD,List.replicate_succ']
 rw[e];exact p2
def EH.pl(G:EH w B p q t k cb xb pb p h L v w')(h6:p<=6):bu w' B pb xb 6 ⟨h,L,oD p q,v⟩:=
 bu.mono (N:=p) ⟨G.ha,G.ax,G.pa,G.vW.pg G.cf.1 (by have:=G.ha.hQ.1;have:=G.cf.2.1;omega),lK _,lK _⟩ h6
def GU:ByteArray:=⟨#[102,105,114,115,116]⟩
structure vX(s:dB)(m:Nat):Prop where
 up:s.h.up=true
 ins:∀(q:Nat) (p:PL),s.h.pl[q]? =ae p->p.out=false
 wr:∃t,s.g.wr=[⟨0,0,t,GU⟩]/\fM s.L 0 t true
 lv:∀(i:Nat) (x:PS),(i:Int)<s.h.P->s.h.ps[i]? =ae x->Lv s.h.T s.h.fl i x m
def auO{x:PS}{p2:PL}(h1:x.s=1)(h2:x.aT.getD 0 0≠0)(h3:p2.s=qG.opened 0 x.t)(h4:p2.out=false):Dy x p2 0 0 GU:=by
 have e:(qG.opened 0 x.t).nw 0=ae (x.t,true):=by simp[aA.opened,aA.yN,qG,aA.set]
 refine⟨h1,h2,by rw[h3];exact e,h4,?_⟩;rw[h3];have:(qG.opened 0 x.t).isOpen ((0:Nat):Int) x.t=true:=UJ.2 e;unfold aA.nD;rw[this,if_neg<|by simp,if_neg<|by decide,if_neg<|by simp[aA.opened,aA.yN,qG,aA.set]]
def auP{s0 s1 s2 s3:dB}{x1 x2:PS}(mk:Mk n s0.h s0.L)(hw:s0.g.wr=[])(c1:pX 0 s0.h s1.h)(w1:s1.g.wr=s0.g.wr)(f2:OA s1 0 0 x1 GU s2)(f3:Oy s2 0 x2 true s3)(ht:x2.t=x1.t):vX s3 2:=by
 have c:=(c1.trans f2.Dq).trans f3.Dq;refine⟨c.up.trans mk.up,fun q p hp=>?_,⟨x1.t,?_,ht▸f3.dec⟩,fun i x _ hx=>?_⟩
 ·obtain⟨p0,zo,e⟩:=c.out q p hp;rw[e];exact(mk.dG p0<|fD zo).2
 ·rw[f3.wr,f2.wr,w1,hw];rfl
 ·by_cases e:i=0
  ·subst e;obtain⟨x',xq,k1,k2⟩:=f3.me;rw[hx]at xq;cases xq;exact .due (.inl k1) (by rw[k2];decide)
  ·rw[c.ot i e]at hx;exact .idle<|mk.idle i x hx
structure GV(xb pb:Nat)(a:Array aj):Prop where
 sz:a.size=101
 a3:a.getD 3 ag=.pointer (ae ⟨xb,0,af⟩)
 a5:a.getD 5 ag=.pointer (ae ⟨pb,0,af⟩)
 a9:a.getD 9 ag=.bool true
 Xf:a.getD 10 ag=.bool true
 Xg:a.getD 11 ag=.bool true
def auQ{a:Array aj}(G:EH w B p q t k cb xb pb 0 h [] v w)(hg:Good p q t k)(T:WY cb xb pb a):
 (ai.pY Dw Dx).wp prog (fun e x w'=>e=.ret/\GV xb pb x.tmps/\∃s,bu w' B pb xb 18 s/\vX s 2/\Fr (fun k=>B<=k) w w') ⟨a,[]⟩ w:=by
 have HG:Hid (EH w B p q t k cb xb pb 0 h [] v w):=G;have HGD:Hid (Good p q t k):=hg;have hp6:p<=6:=by have:=hg.1.2;omega
 obtain⟨i0,dF,gG,fO,iH⟩:=aCf UK;obtain⟨sz,a1,a3,a5⟩:=T;rw[Lc a,sz,aiH];simp only[yM,zL,a1,a3,a5];simp only[Ff];clear G hg sz a1 a3 a5;obtain⟨Q0,iT⟩:∃Q0:Exit->Act->ah->Prop,(fun e x w'=>e=.ret/\GV xb pb x.tmps/\∃s,bu w' B pb xb 18 s/\vX s 2/\Fr (fun k=>B<=k) w w')=Q0:=⟨_,rfl⟩;rw[iT];simp only[Dw,Dx,ai.gK,d47,Tryz.f47,gQ,ai.pY,ai.Dv,if_true];have Ld:Hid ((fun e x w'=>e=.ret/\GV xb pb x.tmps/\∃s,bu w' B pb xb 18 s/\vX s 2/\Fr (fun k=>B<=k) w w')=Q0):=iT;clear iT;go_wp2_with fail
 go_loopw [6] (fun iv w'=>∃(n:Nat) (h:HS) (L:List Rc) (v:PV),n<=p/\iv=.int .i64 n/\EH w B p q t k cb xb pb n h L v w') (fun iv _=>p-(dX iv).toNat)
 case atStart=>exact⟨0,_,_,_,lK _,rfl,HG.out⟩
 case round=>
  obtain⟨n,h1,L1,v1,hn,rfl,G1⟩:=hrel
  have GR:Hid (EH w B p q t k cb xb pb n h1 L1 v1 wr):=G1
  have cp:wr.cell? ⟨cb,0,af⟩=ae (.int .i64 p):=aG G1.Oz 0
  have OX:=aS G1.Oz
  clear G1
  by_cases aB:n<p
  ·have hli:(n:Int)<(p:Int):=by omega
   obtain⟨x,hx⟩:∃x,h1.ps[n]? =ae x:=⟨_,dR (by rw[GR.out.vW.sn.h6];omega)⟩
   have HX:Hid (h1.ps[n]? =ae x):=hx
   have x0:x.e=0:=by rw[((GR.out.vW.sn.up GR.out.vW.up n x hx).k).e,GR.out.vW.zero n<|bV _]
   have HC:Hid (aK prog 74 #[.pointer<|ae ⟨xb,0,af⟩,.int .i64 n] wr fun e w'=>e=.returned (.tuple #[.int .i64 1,.int .i64 0])/\∃h',wX wr w' B xb n h1 L1 ⟨1,n,0,x.e+1⟩ h'):=by
    have:=ait GR.out.ha GR.out.vW.sn (by omega) (by rw[GR.out.cf.1];exact hli) GR.out.vW.up hx<|GR.out.vW.idle n x hx;refine this.mono fun e w' hq=>⟨?_,hq.2⟩;rw[hq.1,x0];rfl
   clear hx x0
   go_wp2_with fail
   refine HC.out.mono ?_
   rintro e w1 ⟨rfl,h2,en⟩
   have EN:Hid (wX wr w1 B xb n h1 L1 ⟨1,n,0,x.e+1⟩ h2):=en
   have Le:Hid (gU w1 B pb xb h2 (oD n q) v1):=(GR.out.pa.stay en.mv.fr fun k e hk=>GR.out.ha.off GR.out.pa e hk).jM en.cf
   have dS:wr.heap.size<=w1.heap.size:=en.mv.fr.size
   clear en
   have bY:w1.ownsRow B 3 1 v1.ev n (fK<|List.replicate n 1):=by have:=Le.out.ep;simpa[oD]using this
   obtain⟨ea,ec,dI⟩:∃ea ec,v1.ev=.slice ea n ec:=by
    obtain⟨ea,ec,e,_⟩:=lC (l:=List.replicate n 1) (by simpa using bY);exact⟨ea,ec,by simpa using e⟩
   have jX:Hid (v1.ev=.slice ea n ec):=dI
   rw[dI]at bY
   have ROW:Hid (w1.ownsRow B 3 1 (.slice ea n ec) n<|fK<|List.replicate n 1):=bY
   have c5:w1.cell? ⟨pb,5,af⟩=ae (.slice ea n ec):=(aG Le.out.blk 5).trans<|eP ae dI
   have cf:w1.frozen? ⟨pb,5,af⟩=false:=jP Le.out.blk 5
   have hx:=aS Le.out.blk
   have Jo:Value.ownBlock (.slice ea n ec)≠ae pb:=by rw[<-dI];exact FK Le.out.ep Le.out.blk<|by decide
   have hB:B<=pb:=Le.out.hb
   clear bY dI
   go_wp2_with (at_builtin;refine aCv _ rfl _ _ 43 rfl B 3 i0 _ 1 8 underlying43 dF gG fO iH rfl (by decide) _ n (fK<|List.replicate n 1) rfl (by exact(aZ _).ownsRow ROW.out fun _ _=>id) ⟨w1.heap.size,0,af⟩ 1 1 [.int .i64 1] rfl rfl (aB9 (cs:=#[.int .i64 1]) (t:=3) (fr:=(0,0))<|AZ _<|by simp) (by simp[Value.oneCell']) (by decide) (by simp only[dH];omega) (by omega) (by simp<;>omega) (w1.heap.size+1) (by simp) ?_;intro gg Nh w3 o9 lV uF uT;have r5:=(lV.cell_far ⟨pb,5,af⟩ (by simp<;>omega)<|iI Jo);have rf:=(lV.frozen_far ⟨pb,5,af⟩ (by simp<;>omega)<|iI Jo);rw[(aZ _).cell (p:=⟨pb,5,af⟩) hx id,c5]at r5;rw[JQ hx,cf]at rf)
   go_roundw
   case rel=>
    refine⟨n+1,h2,_,_,by omega,by go_num,GR.out.step HX.out EN.out (aZ _) (by rw[jX.out];exact lV) o9 fun k hk=>?_⟩
    simp only[Value.ownBlock,fJ]at hk
    subst hk
    rw[jX.out]
    rcases uF with e|e
    ·exact .inl e
    ·exact .inr<|by omega
   case measure=>simp[dX]<;>omega
  ·obtain rfl:n=p:=by omega
   have Xh:Hid (bu wr B pb xb 6 ⟨h1,L1,oD n q,v1⟩):=GR.out.pl hp6
   have P1:Hid ((0:Int)<h1.P/\(0:Int)<h1.Q):=by
    have h1:=HGD.out.1.1;have h2:=HGD.out.2.1.1;have h3:=GR.out.cf;exact⟨by rw[h3.1];omega,by rw[h3.2.1];omega⟩
   obtain⟨x0,pq⟩:=Xh.out.ps (i:=0) P1.out.1
   obtain⟨p0,zo⟩:=Xh.out.q (q:=0) P1.out.2
   have Uh:Hid (h1.ps[0]? =ae x0/\h1.pl[0]? =ae p0):=⟨pq,zo⟩
   have HPA:Hid (aK prog 25 #[.pointer<|ae ⟨pb,0,af⟩,.int .i64 0,.int .i64 0] wr fun e w'=>e=.returned (.bool true)/\∃s',bQ wr w' B pb xb ⟨h1,L1,oD n q,v1⟩ 10 s'/\s'.h.up=true/\WU ⟨h1,L1,oD n q,v1⟩ 0 0 s'):=aik (i:=0) (q:=0) Xh.out (by omega) P1.out.1 P1.out.2 GR.out.vW.up
   clear pq zo
   go_wp2_with fail
   refine HPA.out.mono ?_
   rintro e w1 ⟨rfl,s1,t1,u1,f1⟩
   obtain⟨x1,p1,gq,k1,k2,sW,k3,k4,_⟩:=f1.ok x0 p0 Uh.out.1 (.inl<|GR.out.vW.idle 0 x0 Uh.out.1) Uh.out.2 (GR.out.vW.dG p0<|fD Uh.out.2).2
   have TO1:Hid (bQ wr w1 B pb xb ⟨h1,L1,oD n q,v1⟩ 10 s1):=t1
   have FF1:Hid (WU ⟨h1,L1,oD n q,v1⟩ 0 0 s1):=f1
   have WA:Hid (aK prog 61 #[.pointer<|ae ⟨pb,0,af⟩,.int .i64 0,.int .i64 0,.string GU] w1<|BD w1 B pb xb s1 14 fun s'=>Dy x1 p1 0 0 GU->OA s1 0 0 x1 GU s'):=aiE (i:=0) (q:=0) t1.at_ (by omega) (by rw[t1.cf.1];exact P1.out.1) u1 gq sW<|by decide
   have PFX:Hid (Dy x1 p1 0 0 GU):=(auO k1 k2 (k3.trans (by rw[(GR.out.vW.dG p0<|fD Uh.out.2).1];rfl)) k4)
   unfold GU at WA
   clear t1 u1 f1 gq sW k1 k2 k3 k4
   go_wp2_with fail
   refine WA.out.mono ?_
   rintro e w2 ⟨rfl,s2,t2,f20⟩
   have f2:=f20 PFX.out
   clear f20
   obtain⟨x2,pG,k1,k2⟩:=f2.me
   have TO2:Hid (bQ w1 w2 B pb xb s1 14 s2):=t2
   have FF2:Hid (OA s1 0 0 x1 GU s2):=f2
   have Jb:Hid (s2.h.ps[0]? =ae x2/\x2.t=x1.t/\x2.s=1):=⟨pG,k2,k1⟩
   have HPC:Hid (aK prog 62 #[.pointer<|ae ⟨pb,0,af⟩,.int .i64 0,.bool true] w2 (BD w2 B pb xb s2 18 fun s'=>∀x,s2.h.ps[0]? =ae x->x.s=1->Oy s2 0 x true s')):=aiq (i:=0) t2.at_ (by omega) (by rw[t2.cf.1,TO1.out.cf.1];exact P1.out.1) (by rw[f2.Dq.up,FF1.out.Dq.up];exact GR.out.vW.up) true fun y hy=>by rw[pG]at hy;cases hy;exact .inr<|.inl k1
   clear t2 f2 pG k1 k2
   go_wp2_with fail
   refine HPC.out.mono ?_
   rintro e w3 ⟨rfl,s3,t3,f3⟩
   have kT:Hid (bu w3 B pb xb 18 s3/\vX s3 2/\Fr (fun k=>B<=k) w w3):=⟨t3.at_,auP (n:=n) (s0:=⟨h1,L1,oD n q,v1⟩) GR.out.vW rfl FF1.out.Dq FF1.out.wr FF2.out (f3 x2 Jb.out.1 Jb.out.2.2) Jb.out.2.1,GR.out.fr.trans (((TO1.out.dV Xh.out).trans (TO2.out.dV TO1.out.at_) fun _=>.inl).trans (t3.dV TO2.out.at_) fun _=>.inl) fun _=>.inl⟩
   clear t3 f3
   go_wp2_with fail
   rw[<-Ld.out]
   exact⟨rfl,⟨rfl,rfl,rfl,rfl,rfl,rfl⟩,s3,kT.out⟩
end
end
section
section
variable{w w':ah}{B pb xb N M:Nat}{s:dB}
def jY.EE(a:bu w B pb xb N s){n':Nat}{h':HS}{L':List Rc}(m:bI w w' B xb N s.h n' h')(ax:iC h'.pl)(hn:n'<=M)(hM:N<=M)(sn:Sn M h' L')(wd:tY s.h s.L h' L'):jY w w' B pb xb s M ⟨h',L',s.g,s.v⟩:=jY.of a m ⟨wd.P,wd.Q,wd.T,wd.K⟩ ax hn hM wd.up<|a.pg.EE sn wd
variable{k:Nat}{m:Ms}
def auX(a:bu w B pb xb N s)(hk:s.h.fl[k]? =ae m):aK prog 83 #[.pointer<|ae ⟨xb,0,af⟩,.int .i64 k] w fun e w'=>e=.returned (.int .i64 0)/\∃s2,jY w w' B pb xb s (N+1) s2:=
 (an2 a.ha hk).mono fun e w' ⟨h1,fv,mv⟩=>⟨h1,_,jY.EE a mv a.ax (by omega) (by omega) ((a.pg.sn.drop fv k).mono<|by omega)<|.WN fv _⟩
def auY(a:bu w B pb xb N s)(hk:s.h.fl[k]? =ae m):aK prog 85 #[.pointer<|ae ⟨xb,0,af⟩,.int .i64 k] w fun e w'=>e=.returned (.int .i64 0)/\∃s2,jY w w' B pb xb s (N+1) s2:=
 (anU a.ha hk).mono fun e w' ⟨h1,hs⟩=>(by
   obtain⟨fv,mv⟩:=hs.going a.ha;exact⟨h1,_,jY.EE a mv a.ax (by omega) (by omega) ((a.pg.sn.copy fv<|fD hk).mono<|by omega)<|.WN fv _⟩)
def auZ(a:bu w B pb xb N s)(hN:N<=90000000)(hk:s.h.fl[k]? =ae m):aK prog 81 #[.pointer<|ae ⟨xb,0,af⟩,.int .i64 k] w fun e w'=>e=.returned (.int .i64 0)/\∃s2,jY w w' B pb xb s (N+1) s2:=by
 have hm:=fD hk;obtain⟨mo,ma⟩:=a.pg.sn.ms m hm;have hP:=mo.p;have hQ:=mo.q;have Qp:=a.pg.sn.P1.2;have hQ4:=a.pg.sn.Q1.2;obtain⟨i,hi⟩:=vw hP.1;obtain⟨q,hq⟩:=vw hQ.1;rcases mo.k with aI|jU
 ·obtain⟨p,hp⟩:=a.q (q:=q) (by omega);cases ho:p.out with
  |true=>exact(atq a.ha hk aI hq hp ho).mono fun e w' ⟨h1,fv,mv⟩=>⟨h1,_,jY.EE a mv a.ax (by omega) (by omega) ((a.pg.sn.drop fv k).mono<|by omega)<|.WN fv _⟩
  |false=>
   have pF:=(a.pg.sn.dG q p hp).eG;refine(atr a.ha a.ax hk aI hq hp ho (a.pg.sn.Vp (by omega) mo).1 (by unfold dH;omega)<|by omega).mono fun e w' ⟨h1,fv,v',w3,mv,ax,Dt⟩=>?_;obtain⟨iL,WI⟩:=Dt.going mv.at_;obtain⟨sn,wd⟩:=a.pg.sn.marked hN hk hq hp fv v' iL;exact⟨h1,_,jY.EE a (mv.trans WI) ax (bV _) (by omega) sn wd⟩
 ·obtain⟨x,hx⟩:=a.ps (i:=i) (by omega);refine(atp a.ha hk jU (by omega) hx hq (by omega) hi<|a.pg.sn.abC (by omega) (.inr rfl) (.inl rfl) (by omega) hx).mono fun e w' ⟨h1,fv,h',kr,mv⟩=>?_;obtain⟨L',sn,wd,_,iF,_⟩:=(a.pg.sn.drop fv k).kC mo (ma jU) hi hx kr;exact⟨h1,_,jY.EE a mv (by rw[iF];exact a.ax) (by omega) (by omega) sn<|(tY.WN fv _).trans wd⟩
def au0(a:bu w B pb xb N s)(hN:N<=80000000):aK prog 56 #[.pointer<|ae ⟨xb,0,af⟩] w fun e w'=>e=.returned (.int .i64<|if s.h.up then 0 else 5)/\∃s2,jY w w' B pb xb s (N+6) s2:=by
 cases hu:s.h.up with
 |false=>exact(afn a.ha hu).mono fun e w' ⟨h1,h2⟩=>by subst h2;exact⟨h1,s,(jY.still a<|Fr.refl _ _).mono<|by omega⟩
 |true=>
  refine(afo a.ha hu fun j h1 x hj t hx=>a.pg.sn.ah5 (by omega) hu hj t hx).mono fun e w' ⟨ok,h',h1,ho,mv⟩=>?_;obtain⟨e1,L',sn,wd,iF⟩:=a.pg.sn.tick hu ho;subst e1;exact⟨h1,_,jY.EE a mv (by rw[iF];exact a.ax) (by omega) (by omega) sn wd⟩
end
end
def uP(c:Int)(hc:dQ c){n:Nat}(hn:1<=n)(rG:n<=1000)(w:ah):aK prog 49 #[.int .i64 c,.int .i64 n] w fun e w'=>∃k:Nat,k<n/\e=.returned (.int .i64 k)/\w=w':=by
 have hx: -9223372036854775808<=c/\c<=9223372036854775807:=by simpa[dQ,Lit.wf,IntKind.min,IntKind.max,IntKind.signed,IntKind.bits]using hc
 obtain⟨h1,h2⟩:=hx;have hn0:(n:Int)≠0:=by omega
 have hnm:(n:Int)≠-1:=by omega
 have e0:((n:Int)==0)=false:=by simpa using hn0
 have key:∀d:Int,0<=d->d<=9223372036854775807->IntKind.i64.wrap (d.tmod n)=((d%n).toNat:Int)/\(d%n).toNat<n/\d.tmod n=((d%n).toNat:Int):=fun d hd hd2=>by
  have h3:d.tmod n=d%n:=ak9 hd;have h4:=Int.emod_nonneg d hn0;have h5:=Int.emod_lt_of_pos d (show(0:Int)<n by omega);refine⟨?_,by omega,by omega⟩;rw[h3,wrap_i64 h4<|by omega];omega
 clear hc;by_cases aBR:c<0
 ·obtain⟨k1,k2,k3⟩:=key (-(c+1)) (by omega) (by omega);have w1:IntKind.i64.wrap (c+1)=c+1:=by
   simp only[IntKind.wrap,IntKind.bits,IntKind.signed];simp<;>omega
  have w2:IntKind.i64.wrap (-(c+1))= -(c+1):=wrap_i64 (by omega) (by omega);clear key;go_enter func49,ntmps49
  go_wp2
  go_ret;refine⟨(-(c+1)%n).toNat,k2,?_,rfl⟩;show Ending.returned (Value.int .i64<|max (-(c+1)%n) 0)=_;exact eP (fun z=>Ending.returned<|Value.int .i64 z)<|by omega
 ·obtain⟨k1,k2,k3⟩:=key c (by omega) (by omega);clear key;go_enter func49,ntmps49
  go_wp2
  go_ret;refine⟨(c%n).toNat,k2,?_,rfl⟩;show Ending.returned (Value.int .i64<|max (c%n) 0)=_;exact eP (fun z=>Ending.returned<|Value.int .i64 z)<|by omega
section
section
variable{w w':ah}{B pb xb N:Nat}{s:dB}
def uQ(k p q m:Int)(ts:ByteArray)(fl:Bool):Value:=.agg #[.int .i64 k,.int .i64 p,.int .i64 q,.int .i64 m,.string ts,.bool fl]
def OB(a:bu w B pb xb N s):aK prog 36 #[.pointer<|ae ⟨xb,0,af⟩] w fun e w'=>e=.returned (.int .i64 s.h.fl.length)/\Fr aH w w':=ami a.ha
def abW(f:Nat):Prop:=∀{w:ah} {B pb xb N:Nat} {s:dB} {k:Nat} {m:Ms},bu w B pb xb N s->N<=90000000->s.h.fl[k]? =ae m->aK prog f #[.pointer<|ae ⟨xb,0,af⟩,.int .i64 k] w fun e w'=>e=.returned (.int .i64 0)/\∃s2,jY w w' B pb xb s (N+1) s2
def au1:abW 83:=fun a _ hk=>auX a hk
def au2:abW 85:=fun a _ hk=>auY a hk
def aiK:abW 81:=fun a hN hk=>auZ a hN hk
variable{ts:ByteArray}
def abX(a:bu w B pb xb N s)(hN:N<=80000000)(k p q m:Int)(hm:dQ m)(fl:Bool)(hk:k=6\/k=7\/k=8):
 aK prog 109 #[.pointer<|ae ⟨pb,0,af⟩,uQ k p q m ts fl] w (jZ w B pb xb s<|N+21):=by
 have A:Hid (bu w B pb xb N s):=a;have fF:Hid (N<=80000000):=hN;have HM:Hid (dQ m):=hm;obtain⟨c0,_⟩:=a.cells;have aB:=aS a.pa.blk;have Ak:=a.pg.sn.fl;unfold uQ;clear a hN hm;rcases hk with rfl|rfl|rfl
 ·go_enter func109,ntmps109
  go_wp2_with fail
  refine(OB<|A.out.after<|aZ _).mono ?_;rintro e w1 ⟨rfl,bg⟩;have F1:Hid (Fr aH w w1):=(aZ _).trans bg fun _ h=>h.elim;have BX:Hid (w1.heap[w.heap.size]? =ae (.cells #[.int .i64 6,.int .i64 p,.int .i64 q,.int .i64 m,.string ts,.bool fl] 28 (0,0))):=(bg.block _ (by simp) id).trans<|aB0 _ _;have d0:=(F1.out.cell (p:=⟨pb,0,af⟩) aB id).trans c0;have kz:pb<w1.heap.size:=dY aB F1.out.size;have b0:w1.cell? ⟨w.heap.size,0,af⟩=ae (.int .i64 6):=aG BX.out 0;have b3:w1.cell? ⟨w.heap.size,3,af⟩=ae (.int .i64 m):=aG BX.out 3;clear bg;go_wp2_with fail
  go_loopw [5,6] (fun v iv w'=>v=.int .i64 s.h.fl.length/\iv=.int .i64 0/\w'=w1) (fun _ _ _=>0)
  case atStart=>exact⟨rfl,rfl,rfl⟩
  case round=>
   obtain⟨rfl,rfl,rfl⟩:=hrel
   by_cases hz:0<s.h.fl.length
   ·have hzi:(0:Int)<(s.h.fl.length:Int):=by omega
    go_wp2_with fail
    refine(uP m HM.out (n:=20) (by omega) (by omega) _).mono ?_
    rintro e w2 ⟨yH,OC,rfl,rfl⟩
    have BV:(0:Int)<=(yH:Int):=by omega
    go_wp2_with fail
    refine(uP m HM.out (n:=s.h.fl.length) (by omega) (by omega) _).mono ?_
    rintro e w2 ⟨kk,uu,rfl,rfl⟩
    go_wp2_with fail
    refine(aiK (A.out.after F1.out) (by have:=fF.out;omega)<|dR uu).mono ?_
    rintro e w3 ⟨rfl,s2,t3⟩
    have kT:Hid (jZ w B pb xb s (N+21) (.returned<|.bool true) w3):=⟨rfl,s2,(bQ.behind F1.out t3.to).mono<|by omega⟩
    have e0:w3.cell? ⟨w.heap.size,0,af⟩=ae (.int .i64 6):=aG ((t3.to.fr.block _ (aS BX.out)<|(A.out.after F1.out).zf BX.out<|by decide).trans BX.out) 0
    clear t3
    go_wp2
    go_ret
    exact kT.out
   ·have gG:s.h.fl.length=0:=by omega
    have kT:Hid (jZ w B pb xb s (N+21) (.returned<|.bool true) wr):=⟨rfl,s,(bQ.still A.out F1.out).mono<|by omega⟩
    rw[gG]
    go_wp2_with fail
    refine(uP m HM.out (n:=20) (by omega) (by omega) _).mono ?_
    rintro e w2 ⟨yH,OC,rfl,rfl⟩
    have BV:(0:Int)<=(yH:Int):=by omega
    go_wp2
    go_ret
    exact kT.out
 ·go_enter func109,ntmps109
  go_wp2_with fail
  refine(OB<|A.out.after<|aZ _).mono ?_;rintro e w1 ⟨rfl,bg⟩;have F1:Hid (Fr aH w w1):=(aZ _).trans bg fun _ h=>h.elim;have BX:Hid (w1.heap[w.heap.size]? =ae (.cells #[.int .i64 7,.int .i64 p,.int .i64 q,.int .i64 m,.string ts,.bool fl] 28 (0,0))):=(bg.block _ (by simp) id).trans<|aB0 _ _;have d0:=(F1.out.cell (p:=⟨pb,0,af⟩) aB id).trans c0;have kz:pb<w1.heap.size:=dY aB F1.out.size;have b0:w1.cell? ⟨w.heap.size,0,af⟩=ae (.int .i64 7):=aG BX.out 0;have b3:w1.cell? ⟨w.heap.size,3,af⟩=ae (.int .i64 m):=aG BX.out 3;clear bg;go_wp2_with fail
  go_loopw [5,6] (fun v iv w'=>v=.int .i64 s.h.fl.length/\iv=.int .i64 0/\w'=w1) (fun _ _ _=>0)
  case atStart=>exact⟨rfl,rfl,rfl⟩
  case round=>
   obtain⟨rfl,rfl,rfl⟩:=hrel
   by_cases hz:0<s.h.fl.length
   ·have hzi:(0:Int)<(s.h.fl.length:Int):=by omega
    go_wp2_with fail
    refine(uP m HM.out (n:=20) (by omega) (by omega) _).mono ?_
    rintro e w2 ⟨yH,OC,rfl,rfl⟩
    have BV:(0:Int)<=(yH:Int):=by omega
    go_wp2_with fail
    refine(uP m HM.out (n:=s.h.fl.length) (by omega) (by omega) _).mono ?_
    rintro e w2 ⟨kk,uu,rfl,rfl⟩
    go_wp2_with fail
    refine(au1 (A.out.after F1.out) (by have:=fF.out;omega)<|dR uu).mono ?_
    rintro e w3 ⟨rfl,s2,t3⟩
    have kT:Hid (jZ w B pb xb s (N+21) (.returned<|.bool true) w3):=⟨rfl,s2,(bQ.behind F1.out t3.to).mono<|by omega⟩
    have e0:w3.cell? ⟨w.heap.size,0,af⟩=ae (.int .i64 7):=aG ((t3.to.fr.block _ (aS BX.out)<|(A.out.after F1.out).zf BX.out<|by decide).trans BX.out) 0
    clear t3
    go_wp2
    go_ret
    exact kT.out
   ·have gG:s.h.fl.length=0:=by omega
    have kT:Hid (jZ w B pb xb s (N+21) (.returned<|.bool true) wr):=⟨rfl,s,(bQ.still A.out F1.out).mono<|by omega⟩
    rw[gG]
    go_wp2_with fail
    refine(uP m HM.out (n:=20) (by omega) (by omega) _).mono ?_
    rintro e w2 ⟨yH,OC,rfl,rfl⟩
    have BV:(0:Int)<=(yH:Int):=by omega
    go_wp2
    go_ret
    exact kT.out
 ·go_enter func109,ntmps109
  go_wp2_with fail
  refine(OB<|A.out.after<|aZ _).mono ?_;rintro e w1 ⟨rfl,bg⟩;have F1:Hid (Fr aH w w1):=(aZ _).trans bg fun _ h=>h.elim;have BX:Hid (w1.heap[w.heap.size]? =ae (.cells #[.int .i64 8,.int .i64 p,.int .i64 q,.int .i64 m,.string ts,.bool fl] 28 (0,0))):=(bg.block _ (by simp) id).trans<|aB0 _ _;have d0:=(F1.out.cell (p:=⟨pb,0,af⟩) aB id).trans c0;have kz:pb<w1.heap.size:=dY aB F1.out.size;have b0:w1.cell? ⟨w.heap.size,0,af⟩=ae (.int .i64 8):=aG BX.out 0;have b3:w1.cell? ⟨w.heap.size,3,af⟩=ae (.int .i64 m):=aG BX.out 3;clear bg;go_wp2_with fail
  go_loopw [5,6] (fun v iv w'=>v=.int .i64 s.h.fl.length/\iv=.int .i64 0/\w'=w1) (fun _ _ _=>0)
  case atStart=>exact⟨rfl,rfl,rfl⟩
  case round=>
   obtain⟨rfl,rfl,rfl⟩:=hrel
   by_cases hz:0<s.h.fl.length
   ·have hzi:(0:Int)<(s.h.fl.length:Int):=by omega
    go_wp2_with fail
    refine(uP m HM.out (n:=20) (by omega) (by omega) _).mono ?_
    rintro e w2 ⟨yH,OC,rfl,rfl⟩
    have BV:(0:Int)<=(yH:Int):=by omega
    go_wp2_with fail
    refine(uP m HM.out (n:=s.h.fl.length) (by omega) (by omega) _).mono ?_
    rintro e w2 ⟨kk,uu,rfl,rfl⟩
    go_wp2_with fail
    refine(au2 (A.out.after F1.out) (by have:=fF.out;omega)<|dR uu).mono ?_
    rintro e w3 ⟨rfl,s2,t3⟩
    have kT:Hid (jZ w B pb xb s (N+21) (.returned<|.bool true) w3):=⟨rfl,s2,(bQ.behind F1.out t3.to).mono<|by omega⟩
    have e0:w3.cell? ⟨w.heap.size,0,af⟩=ae (.int .i64 8):=aG ((t3.to.fr.block _ (aS BX.out)<|(A.out.after F1.out).zf BX.out<|by decide).trans BX.out) 0
    clear t3
    go_wp2
    go_ret
    exact kT.out
   ·have gG:s.h.fl.length=0:=by omega
    have kT:Hid (jZ w B pb xb s (N+21) (.returned<|.bool true) wr):=⟨rfl,s,(bQ.still A.out F1.out).mono<|by omega⟩
    rw[gG]
    go_wp2_with fail
    refine(uP m HM.out (n:=20) (by omega) (by omega) _).mono ?_
    rintro e w2 ⟨yH,OC,rfl,rfl⟩
    have BV:(0:Int)<=(yH:Int):=by omega
    go_wp2
    go_ret
    exact kT.out
def au3(a:bu w B pb xb N s)(hN:N<=80000000)(p q m:Int)(hm:dQ m)(fl:Bool):
 aK prog 109 #[.pointer<|ae ⟨pb,0,af⟩,uQ 9 p q m ts fl] w (jZ w B pb xb s<|N+21):=by
 have A:Hid (bu w B pb xb N s):=a;have fF:Hid (N<=80000000):=hN;have HM:Hid (dQ m):=hm;obtain⟨c0,_⟩:=a.cells;have aB:=aS a.pa.blk;unfold uQ;clear a hN hm;go_enter func109,ntmps109
 go_wp2_with fail
 refine(OB<|A.out.after<|aZ _).mono ?_;rintro e w1 ⟨rfl,bg⟩;have F1:Hid (Fr aH w w1):=(aZ _).trans bg fun _ h=>h.elim;have BX:Hid (w1.heap[w.heap.size]? =ae (.cells #[.int .i64 9,.int .i64 p,.int .i64 q,.int .i64 m,.string ts,.bool fl] 28 (0,0))):=(bg.block _ (by simp) id).trans<|aB0 _ _;clear bg;go_wp2_with fail
 go_loopw [5,6] (fun v iv w'=>∃(i:Nat) (s2:dB),v=.int .i64 s2.h.fl.length/\iv=.int .i64 i/\i<=20/\bQ w w' B pb xb s (N+i) s2/\w'.heap[w.heap.size]? =ae (.cells #[.int .i64 9,.int .i64 p,.int .i64 q,.int .i64 m,.string ts,.bool fl] 28 (0,0))) (fun _ iv _=>21-(dX iv).toNat)
 case atStart=>exact⟨0,s,rfl,rfl,by omega,bQ.still A.out F1.out,BX.out⟩
 case round=>
  obtain⟨i,s2,rfl,rfl,aAe,t2,Yx⟩:=hrel
  have T2:Hid (bQ w wr B pb xb s (N+i) s2):=t2
  have BX2:Hid (wr.heap[w.heap.size]? =ae (.cells #[.int .i64 9,.int .i64 p,.int .i64 q,.int .i64 m,.string ts,.bool fl] 28 (0,0))):=Yx
  obtain⟨d0,_⟩:=t2.at_.cells
  have kz:=aS t2.at_.pa.blk
  have b0:wr.cell? ⟨w.heap.size,0,af⟩=ae (.int .i64 9):=aG Yx 0
  have b3:wr.cell? ⟨w.heap.size,3,af⟩=ae (.int .i64 m):=aG Yx 3
  have Ak:=t2.at_.pg.sn.fl
  have kT:Hid (jZ w B pb xb s (N+21) (.returned<|.bool true) wr):=⟨rfl,s2,t2.mono<|by omega⟩
  clear t2 Yx c0 aB
  go_wp2_with fail
  refine(uP m HM.out (n:=20) (by omega) (by omega) _).mono ?_
  rintro e w2 ⟨yH,OC,rfl,rfl⟩
  by_cases hik:(i:Int)<=(yH:Int)
  ·by_cases hz:0<s2.h.fl.length
   ·have hzi:(0:Int)<(s2.h.fl.length:Int):=by omega
    go_wp2_with fail
    refine(aiK (k:=0) T2.out.at_ (by have:=fF.out;omega)<|dR hz).mono ?_
    rintro e w3 ⟨rfl,s3,t3⟩
    have T3:Hid (bQ w w3 B pb xb s (N+i+1) s3):=T2.out.trans t3.to
    have RQ:Hid (w3.heap[w.heap.size]? =ae (.cells #[.int .i64 9,.int .i64 p,.int .i64 q,.int .i64 m,.string ts,.bool fl] 28 (0,0))):=(t3.to.fr.block _ (aS BX2.out)<|T2.out.at_.zf BX2.out<|by decide).trans BX2.out
    obtain⟨g0,_⟩:=t3.to.at_.cells
    have Pv:=aS t3.to.at_.pa.blk
    have e0:w3.cell? ⟨w.heap.size,0,af⟩=ae (.int .i64 9):=aG RQ.out 0
    clear t3 d0 b0 b3 kz
    go_wp2_with fail
    refine(OB T3.out.at_).mono ?_
    rintro e w4 ⟨rfl,qX⟩
    have T4:Hid (bQ w w4 B pb xb s (N+i+1) s3):=T3.out.after qX
    have BX4:Hid (w4.heap[w.heap.size]? =ae (.cells #[.int .i64 9,.int .i64 p,.int .i64 q,.int .i64 m,.string ts,.bool fl] 28 (0,0))):=(qX.block _ (aS RQ.out) id).trans RQ.out
    clear qX g0 Pv e0
    go_wp2_with fail
    go_roundw
    case rel=>exact⟨i+1,s3,rfl,by go_num,by omega,T4.out,BX4.out⟩
    case measure=>simp[dX]<;>omega
   ·have gG:((s2.h.fl.length:Nat):Int)=0:=by omega
    rw[gG]
    go_wp2
    go_ret
    exact kT.out
  ·go_wp2
   go_ret
   exact kT.out
end
end
section
def au5{w:ah}{va vb:aj}{ra t:List Rec}(ha:Ec w va ra)(hb:Ec w vb (ra++t)):
 aK prog 58 #[va,vb] w fun e w'=>e=.returned (.bool true)/\∃q,w'=w.drewN q:=by
 have HA:Hid (Ec w va ra):=ha;obtain⟨a1,c1,e1,oH⟩:∃a1 c1,va=.slice a1 ra.length c1/\ra.length<=maxLen:=by
  rcases ha with⟨rfl,rfl⟩|⟨g,cap,rfl,h1,h2,_⟩
  ·exact⟨af,0,rfl,lK _⟩
  ·exact⟨_,_,rfl,dP h1 h2⟩
 subst e1;unfold dH at oH;rcases hb with⟨rfl,h0⟩|⟨g,cap,rfl,h1,h2,h3⟩
 ·obtain⟨rfl,rfl⟩:=List.append_eq_nil_iff.1 h0;have HB:Hid (Ec w (.slice af 0 0) []):=.inl ⟨rfl,rfl⟩;clear ha h0;go_enter func58,ntmps58
  go_wp2_with (go_at_call 98;refine(ad8 HA.out HB.out).mono ?_;rintro e w1 ⟨rfl,q,rfl⟩)
  go_ret;exact⟨rfl,q,rfl⟩
 ·have HB:Hid (Ec w (.slice (ae ⟨g,0,af⟩) ra.length cap) ra):=.inr ⟨g,cap,rfl,by simp at h1;omega,h2,fun k r hk=>h3 k r (by rw[tJ (dD.1 hk).1];exact hk)⟩;have hl:(ra++t).length=ra.length+t.length:=by simp
  rw[hl]at h1⊢
  unfold dH at h2;have hi:(0:Int)<=(ra.length:Int):=Int.natCast_nonneg _;have hj:(ra.length:Int)<=(cap:Int):=by omega
  clear ha h3 hl;go_enter func58,ntmps58
  go_wp2_with (go_at_call 98;refine(ad8 HA.out HB.out).mono ?_;rintro e w1 ⟨rfl,q,rfl⟩)
  go_ret;exact⟨rfl,q,rfl⟩
def oG(fa:List Fa)(q:Nat)(l:List Wn):List Wn:=l.filter fun w=>decide (w.q=(q:Int))&&decide (iE fa w.p w.t=1)
def aiL(fa:List Fa)(q:Nat)(l:List Wn)(x:Wn):oG fa q (l++[x])=oG fa q l++if x.q=(q:Int)/\iE fa x.p x.t=1 then[x]else[]:=by
 unfold oG;rw[yJ];congr 1;by_cases h1:x.q=(q:Int)<;>by_cases h2:iE fa x.p x.t=1<;>simp[h1,h2]
variable{fa:List Fa}{q:Nat}{l:List Rec}
def au6{wr:List Wn}{rest:List (Int×ByteArray)}(hf:(oG fa q wr).map (fun w=>(w.p,w.s))=l.map (fun r=>(r.p,r.s))++rest){k:Nat}{x:Wn}(hk:wr[k]? =ae x)(hx:x.q=(q:Int)/\iE fa x.p x.t=1){r:Rec}(hr:l[(oG fa q<|wr.take k).length]? =ae r):r.p=x.p/\r.s=x.s:=by
 have h1:oG fa q (wr.take<|k+1)=oG fa q (wr.take k)++[x]:=by
  rw[zK,hk,Ea,aiL,if_pos hx]
 have h2:oG fa q wr=oG fa q (wr.take<|k+1)++oG fa q (wr.drop<|k+1):=by
  unfold oG;rw[<-yJ,YE]
 have h3:((oG fa q wr).map fun w=>(w.p,w.s))[(oG fa q<|wr.take k).length]? =ae (x.p,x.s):=by
  rw[h2,h1,MS,MS,Cj,wG<|by simp,Ib,Nat.sub_self];rfl
 rw[hf,tJ (by rw[Ib];exact(dD.1 hr).1),adK,hr]at h3;simp only[FB,fJ,tV]at h3;exact h3
def aiM{wr:List Wn}{rest:List (Int×ByteArray)}(hf:(oG fa q wr).map (fun w=>(w.p,w.s))=l.map (fun r=>(r.p,r.s))++rest):l.length<=(oG fa q wr).length:=by
 have:=eP List.length hf;simp only[Ib,iQ]at this;omega
end
end Go.Proofs.YtkelpcjiediamaaGreat
