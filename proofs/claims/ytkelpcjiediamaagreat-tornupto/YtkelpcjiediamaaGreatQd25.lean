import Derived.Test.YtkelpcjiediamaaGreatQd24
set_option maxRecDepth 100000
set_option maxHeartbeats 0
set_option linter.all false
namespace Go.Proofs.YtkelpcjiediamaaGreat
open Go renaming Calls→aU,TypeId→dw,Value→az,World→aj,maxLen→dU
open Go.Ending renaming returned→aT
open Go.IntKind renaming i64→ah
open Go.Obj renaming cells→aC
open Go.RowKit renaming intOf→fH
open Go.Value renaming agg→gY,bool→aB,int→ag,pointer→ay,slice→aJ,string→dA,tuple→dK
open Option renaming none→af,some→ae
open Go.Proofs.Tryz
open Go.RowKit Go.Maps
section
section
variable{w w':aj}{B pb xb N:Nat}{s:dB}
variable{i:Nat}
def bH.ps(a:bH w B pb xb N s)(hi:(i:Int)<s.h.P):∃x,s.h.ps[i]? =ae x:=by
 have:=a.pg.sn.h6;have:=a.pg.sn.P1.2;exact⟨_,eY<|show i<s.h.ps.length by omega⟩
def bH.ep(a:bH w B pb xb N s)(hi:(i:Int)<s.h.P):∃e,s.g.ep[i]? =ae e:=by
 have:=a.pg.ep;exact⟨_,eY<|show i<s.g.ep.length by omega⟩
def bH.CW(a:bH w B pb xb N s)(hu:s.h.up=true){x:PS}{e:Int}(hx:s.h.ps[i]? =ae x)(he:s.g.ep[i]? =ae e):x.e=e/\1<=e/\e<=N:=by
 have h1:=(a.pg.sn.up hu i x hx).k.e;have h2:=a.pg.ee i e he;have h3:=(a.pg.sn.valid.qL i).e1;have h4:=a.pg.sn.fB;exact⟨h1.trans h2.1.symm,h2.2,by omega⟩
inductive Saw(w:aj)(B pb xb N:Nat)(s:dB)(x:PS):Ending->aj->Prop
 |mk {va vb iZ:az} {fa':List Fa} {w':aj} (n1:AX w w' va (bI x.aZ 1 4)) (n2:AX w w' vb (bI x.aZ 2 4)) (t:bW w w' B pb xb s (N+1) (s.fD fa' iZ)):Saw w B pb xb N s x (aT<|dK #[gY #[ag ah x.e,ag ah x.t,ag ah x.s,va,vb],aB true]) w'
def Iq(a:bH w B pb xb N s)(hN:N<=100000000){i:Nat}(hi:(i:Int)<s.h.P)(hu:s.h.up=true){x:PS}(hx:s.h.ps[i]? =ae x):
 aU prog 22 #[ay<|ae ⟨pb,0,af⟩,ag ah i] w (Saw w B pb xb N s x):=by
 obtain⟨e,he⟩:=a.ep hi;have xX:=(a.CW hu hx he).1;have k:=(a.pg.sn.up hu i x hx).k;have f:=a.pg.sn.valid.qL i;obtain⟨n1,n2,n3⟩:=avs a.pg i;rw[<-k.s,<-k.t]at n1 n2 n3;have s0:=f.s0;have s1:=f.s1;rw[<-k.s]at s0 s1;by_cases hn:x.s=3/\jI s.g.fa i x.t=0
 ·have hd:gm s.L i x.t false:=by
   have:=(a.pg.sn.valid.Rx i).now (by rw[<-k.s];omega);rw[<-k.s,<-k.t,hn.1]at this;exact this
  exact(avC a hi hu hx he xX hn.2 hn.1 hN<|a.pg.avv hd).mono fun e w' ⟨va,vb,h1,h2,h3,iZ,h4⟩=>by rw[h1];exact .mk h2 h3 h4
 ·refine(avA a hi hu hx he xX rfl ?_).mono fun e w' ⟨va,vb,h1,h2,h3,h4⟩=>by rw[h1];exact .mk h2 h3 (fa':=s.g.fa) (iZ:=s.v.fv) ((bW.still a h4).mono<|by omega)
  rcases(show x.s=0\/x.s=1\/x.s=2\/x.s=3 by omega)with e|e|e|e
  ·exact .inl e
  ·exact .inr<|.inl ⟨e,n1 e⟩
  ·exact .inr<|.inr<|.inl ⟨e,n2 e⟩
  ·refine .inr<|.inr<|.inr ⟨e,?_⟩;rcases n3 e with z|z
   ·exact absurd ⟨e,z⟩ hn
   ·exact z
end
end
section
structure kK(w w':aj)(B pb xb:Nat)(s:dB)(N:Nat)(s':dB):Prop where
 to:bW w w' B pb xb s N s'
 g:s'.g=s.g
 v:s'.v=s.v
 up:s'.h.up=s.h.up
section
variable{w w':aj}{B pb xb N M:Nat}{s s':dB}
def kK.still(a:bH w B pb xb N s)(f:Fr aP w w'):kK w w' B pb xb s N s:=⟨bW.still a f,rfl,rfl,rfl⟩
def kK.mono(t:kK w w' B pb xb s N s')(hM:N<=M):kK w w' B pb xb s M s':=⟨t.to.mono hM,t.g,t.v,t.up⟩
def kK.of(a:bH w B pb xb N s){n':Nat}{h':HS}{L':List Rc}(m:bU w w' B xb N s.h n' h')(hc:h'.P=s.h.P/\h'.Q=s.h.Q/\h'.T=s.h.T/\h'.K=s.h.K)(ax:iP h'.pl)(hn:n'<=M)(hM:N<=M)(hu:h'.up=s.h.up)(pg:Pg M h' L' s.g):kK w w' B pb xb s M ⟨h',L',s.g,s.v⟩:=⟨bW.avy a m hc ax hn hM pg,rfl,rfl,hu⟩
def bH.q(a:bH w B pb xb N s){q:Nat}(hq:(q:Int)<s.h.Q):∃p,s.h.pl[q]? =ae p:=by
 have:=a.ha.hQ.1;exact⟨_,eY<|show q<s.h.pl.length by omega⟩
structure qF(i:Nat)(h h':HS):Prop where
 up:h'.up=h.up
 fl:h'.fl=h.fl
 ot:∀j,j≠i->h'.ps[j]? =h.ps[j]?
 out:∀(q:Nat) (p':PL),h'.pl[q]? =ae p'->∃p,h.pl[q]? =ae p/\p'.out=p.out
def qF.refl(i:Nat)(h:HS):qF i h h:=⟨rfl,rfl,fun _ _=>rfl,fun _ p' hp=>⟨p',hp,rfl⟩⟩
variable{i:Nat}{h h':HS}
def qF.trans{h1:HS}(a:qF i h h1)(b:qF i h1 h'):qF i h h':=⟨b.up.trans a.up,b.fl.trans a.fl,fun j hj=>(b.ot j hj).trans<|a.ot j hj,fun q p' hp=>by
 obtain⟨p1,h1,e1⟩:=b.out q p' hp;obtain⟨p,h0,e0⟩:=a.out q p1 h1;exact⟨p,h0,e1.trans e0⟩⟩
def qF.dQ(i:Nat)(h:HS)(x:PS):qF i h (h.dQ i x):=⟨rfl,rfl,fun _ hj=>uZ hj.symm,fun _ p' hp=>⟨p',hp,rfl⟩⟩
def qF.gZ{q:Nat}{p p':PL}(hp:h.pl[q]? =ae p)(e:p'.out=p.out):qF i h (h.gZ q p'):=⟨rfl,rfl,fun _ _=>rfl,fun k y hy=>by
 by_cases hk:q=k
 ·subst hk;rw[show(h.gZ q p').pl[q]? =ae p' from mQ (dM.1 hp).1]at hy;cases hy;exact⟨p,hp,e⟩
 ·rw[show(h.gZ q p').pl[k]? =h.pl[k]? from uZ hk]at hy;exact⟨y,hy,rfl⟩⟩
def qF.wrote{r:Rc}(hr:r.p=(i:Int))(ho:jH h r true h'):qF i h h':=by
 cases ho with
 |ok jv _=>
  refine⟨rfl,rfl,fun j hj=>?_,fun _ p' hp=>⟨p',hp,rfl⟩⟩;show(h.ps.set r.p.toNat _)[j]? =_;exact uZ<|by omega
structure ajM(s:dB)(i q:Nat)(x:PS)(s2:dB)(x2:PS):Prop where
 Ei:qF i s.h s2.h
 ok:(x.s=0\/x.s=1)->∀p,s.h.pl[q]? =ae p->p.out=false->x2.s=1/\x2.aZ.getD q 0≠0/\∃p2,s2.h.pl[q]? =ae p2/\p2.s=p.s.opened i x2.t/\p2.out=false
inductive PT(x:PS):Int->PS->Prop
 |busy (hs:x.s=2\/x.s=3):PT x 9 x
 |out (hs:x.s=0\/x.s=1):PT x 10 x
 |new {x2:PS} (hs:x.s=0) (h1:x2.s=1) (h2:x2.t=x.t+1) (h3:(bI x2.aZ 1 4).length=1):PT x 0 x2
 |more {x2:PS} (hs:x.s=1) (h1:x2.s=1) (h2:x2.t=x.t):PT x 0 x2
inductive adf(w:aj)(B pb xb N:Nat)(s:dB)(i q:Nat)(x:PS):Ending->aj->Prop
 |mk {code:Int} {x2:PS} {s2:dB} {w':aj} (t:kK w w' B pb xb s (N+2) s2) (hx:s2.h.ps[i]? =ae x2) (r:PT x code x2) (ax:ajM s i q x s2 x2):adf w B pb xb N s i q x (aT<|ag ah code) w'
variable{x:PS}{q:Nat}{ep:Int}
def avG(hq:q<4)(hz:∀j:Nat,j<4->x.aZ.getD j 0=if j=q then 1 else 0):(bI x.aZ 1 4).length=1:=by
 have:bI x.aZ 1 4=[(q:Int)]:=by
  unfold bI;have h:(List.range 4).filter (fun i=>decide<|(1:Int)<=x.aZ.getD i 0)=(List.range 4).filter fun i=>decide (i=q):=by
   refine Ob fun j hj=>?_;rw[hz j<|GN.1 hj];by_cases e:j=q<;>simp[e]
  rw[h];match q,hq with
  |0,_|1,_|2,_|3,_=>rfl
 rw[this];rfl
def ajN(hl:i<h.ps.length)(x:PS):(h.dQ i x).ps[i]? =ae x:=mQ hl
def avH(a:bH w B pb xb N s)(hN:N<=90000000)(hi:(i:Int)<s.h.P)(hq:(q:Int)<s.h.Q)(hu:s.h.up=true)(hx:s.h.ps[i]? =ae x)(he:s.g.ep[i]? =ae ep):
 aU prog 63 #[ay<|ae ⟨xb,0,af⟩,ag ah i,ag ah ep,ag ah q] w (adf w B pb xb N s i q x):=by
 obtain⟨p,hp⟩:=a.q hq;obtain⟨e1,e2,_⟩:=a.CW hu hx he;have hb:s.h.bars x ep=0:=by
  unfold HS.bars;rw[hu,if_neg<|by simp,if_neg<|by omega]
 have f:=a.pg.sn.valid.qL i;have pr:=a.pg.sn.up hu i x hx;have s0:=f.s0;have s1:=f.s1;rw[<-pr.k.s]at s0 s1;have hQ:=a.pg.sn.Q1.2;have wS:=(dM.1 hp).1;have lL:=(dM.1 hx).1;by_cases h2:x.s=2\/x.s=3
 ·exact(aoU a.ha hi wS hx hb h2).mono fun e w' ⟨g1,g2⟩=>by rw[g1];exact .mk ((kK.still a g2).mono<|by omega) hx (.busy h2) ⟨.refl _ _,fun z=>by omega⟩
 have NY:x.s=0\/x.s=1:=by omega
 cases ho:p.out with
 |true=>exact(aoV a.ha hi hp ho hx hb NY).mono fun e w' ⟨g1,g2⟩=>by rw[g1];exact .mk ((kK.still a g2).mono<|by omega) hx (.out NY) ⟨.refl _ _,fun _ p1 rU Kq=>by rw[hp]at rU;cases rU;rw[ho]at Kq;cases Kq⟩
 |false=>
  by_cases ht:x.aZ.getD q 0=0
  ·have hn:=a.pg.sn.avo hu hi hq hx NY ht;refine(aoY a.ha a.ax hi hp ho hx hb NY ht (by unfold dU;omega)<|a.pg.sn.may (by omega) hn).mono fun e w' h=>?_;cases h with
   |ru hw=>
    cases hw with
    |ru jv qc=>rw[a.pg.sn.br]at qc;cases qc
   | @ok h1 v' _ hw hm ha=>
     obtain⟨_,sn,gr,Z4,hP,hQ',hT,hK⟩:=a.pg.sn.added hu v' hi hq hx hp hn hw;have gI:h1.ps.length=6:=by
      cases hw with
      |ok jv _=>show(jV s.h.ps _).length=6;simp[jV,a.pg.sn.h6]
     refine .mk (x2:={x.bY ⟨2,i,q,x.next⟩with si:=0}) (kK.of a hm ⟨hP,hQ',hT,hK⟩ ha (by omega) (by omega) (Z4.trans hu.symm)<|a.pg.add rfl sn hP (Z4.trans hu.symm) gr) (ajN (by show i<h1.ps.length;have:=a.pg.sn.h6;omega) _) ?_ ⟨((qF.wrote rfl hw).trans<|qF.gZ (p:=p) (p':=⟨p.lb,p.bm,v',p.s.opened i x.next,p.out⟩) (by cases hw;exact hp) rfl).trans<|.dQ _ _ _,fun _ p1 rU Kq=>?_⟩;rotate_left
     ·rw[hp]at rU;cases rU;obtain⟨y1,_,y3⟩:=agB x i q x.next;refine⟨y3,?_,⟨p.lb,p.bm,v',p.s.opened i x.next,p.out⟩,mQ (by cases hw;exact wS),by show _=p.s.opened i (x.bY ⟨2,i,q,x.next⟩).t;rw[y1],Kq⟩;show(x.bY ⟨2,i,q,x.next⟩).aZ.getD q 0≠0;rw[show x.bY ⟨2,i,q,x.next⟩=({x with s:=1,t:=x.next}:PS).tie q 1 by simp[PS.bY],G5 _ q 1 (by omega) (by omega) q];simp
     have hd:x.bY ⟨2,i,q,x.next⟩=({x with s:=1,t:=x.next}:PS).tie q 1:=by simp[PS.bY]
     obtain⟨_,r2,r3,_⟩:=G6 ({x with s:=1,t:=x.next}:PS) q 1;have k1:({x.bY ⟨2,i,q,x.next⟩with si:=0}:PS).s=1:=by show(x.bY ⟨2,i,q,x.next⟩).s=1;rw[hd,r3]
     have k2:({x.bY ⟨2,i,q,x.next⟩with si:=0}:PS).t=x.next:=by show(x.bY ⟨2,i,q,x.next⟩).t=x.next;rw[hd,r2]
     rcases NY with hs|hs
     ·refine .new hs k1 (k2.trans (by unfold PS.next;rw[if_pos hs])) (avG (q:=q) (by omega) fun j hj=>?_);show(x.bY ⟨2,i,q,x.next⟩).aZ.getD j 0=_;rw[hd,G5 _ q 1 (by omega) (by omega) j];obtain⟨z1,z2,z3,z4⟩:=pr.k.none hs;by_cases e:j=q
      ·subst e;simp
      ·rw[if_neg<|by omega,if_neg e,Q4 _ j hj];simp[z1,z2,z3,z4]
     ·exact .more hs k1<|k2.trans (by unfold PS.next;rw[if_neg<|by omega])
  ·refine(aoW a.ha a.ax hi hp ho hx hb NY ht (by unfold dU;omega)).mono fun e w' h=>?_;cases h with
   | @mk v' _ hm ha=>
     obtain⟨IG,sn,gr⟩:=a.pg.sn.again hu v' hi hq hx hp ht NY;exact .mk (x2:={x with si:=0}) ((kK.of a hm ⟨rfl,rfl,rfl,rfl⟩ ha (dm _) (by omega) rfl<|a.pg.same sn rfl rfl gr).mono<|by omega) (ajN lL _) (.more IG IG rfl) ⟨(qF.gZ (p':=⟨p.lb,p.bm,v',p.s.opened i x.t,p.out⟩) hp rfl).trans<|.dQ _ _ _,fun _ p1 rU Kq=>by rw[hp]at rU;cases rU;exact⟨IG,ht,_,mQ wS,rfl,Kq⟩⟩
def adg(a:bH w B pb xb N s)(hu:s.h.up=true)(hx:s.h.ps[i]? =ae x)(he:s.g.ep[i]? =ae ep):s.h.bars x (ep-1)=7:=by
 obtain⟨e1,e2,_⟩:=a.CW hu hx he;unfold HS.bars;rw[hu,if_neg<|by simp,if_pos<|by omega]
def adh(hu:s.h.up=false)(x:PS)(e:Int):s.h.bars x e=5:=by
 unfold HS.bars;rw[hu,if_pos rfl]
end
end
section
section
variable{w:aj}{B pb xb N:Nat}{s:dB}
variable{n q:Nat}{L':List Rc}{h:HS}{g:PG}{v:PV}
def avI{W w1:aj}{iZ:az}{f:Wn}(ha:aF w B xb n s.h)(ax:iP s.h.pl)(b:gQ w B pb xb s.h s.g s.v)(yE:s.g.wr.length<=N)(VD:s.g.fa.length<=N)(hn:n<=N+1)(hW:Fr aP w W)(hg:W.grownBy w1 s.v.wv.ownBlock)(iO:w1.ownsRow B 66 4 iZ (s.g.wr.length+1) (s.g.wr.flatMap Wn.cs++f.cs))(dX:∀k,iZ.ownBlock=ae k->s.v.wv.ownBlock=ae k\/w.heap.size<=k)(pg:Pg (N+1) s.h L' {s.g with wr:=s.g.wr++[f]}):
 bW w (w1.setCell ⟨pb,7,af⟩ iZ) B pb xb s (N+1) ⟨s.h,L',{s.g with wr:=s.g.wr++[f]},{s.v with wv:=iZ}⟩:=by
 have f1:Fr (fun k=>s.v.wv.ownBlock=ae k) w w1:=(hW.mono fun _ h=>h.elim).grown hg fun k e=>.inl e;have f2:Fr (fun k=>k=pb\/s.v.wv.ownBlock=ae k) w (w1.setCell ⟨pb,7,af⟩ iZ):=(f1.mono fun k h=>.inl<|.inr h).setCell (.inl<|.inl rfl) _;have dh:s.v.wv.ownBlock≠ae pb:=GY b.wr b.blk (by decide);have b1:=(f1.block pb (aX b.blk) dh).trans b.blk;have ht:∀k,(k=pb\/s.v.wv.ownBlock=ae k)->tag w k=48\/tag w k=66:=fun k e=>e.imp (fun e=>by rw[e];exact lM b.blk) fun e=>iK b.wr e;have st:∀{ty:dw} {wd:Nat} {u:az} {m:Nat} {xs:List az},w.ownsRow B ty wd u m xs->ty≠48->ty≠66->(w1.setCell ⟨pb,7,af⟩ iZ).ownsRow B ty wd u m xs:=fun ho h1 h2=>MJ ho f2 fun k e e2=>(ht k e).elim (fun z=>h1<|e2.symm.trans z) fun z=>h2<|e2.symm.trans z;have hf:∀k,(k=pb\/s.v.wv.ownBlock=ae k)->s.fA pb xb k:=fun k e=>.inr<|e.imp id fun e=>.inr<|.inl e;have hh:aF (w1.setCell ⟨pb,7,af⟩ iZ) B xb n s.h:=ha.stay f2 fun k e hk=>ha.off b hk<|e.imp id fun e=>.inr<|.inl e;refine⟨⟨hh.mono hn,ax,⟨?_,st b.ep (by decide)<|by decide,?_,st b.fa (by decide)<|by decide,st b.gt (by decide)<|by decide,b.gl,fun q u l h1 h2=>st (b.rc q u l h1 h2) (by decide)<|by decide,st b.st (by decide)<|by decide,b.ap,b.hb⟩,pg,?_,aak VD⟩,f2.mono fun k e=>.inl<|hf k e,fun k hk=>?_,rfl,rfl,rfl,rfl⟩
 ·rw[jT b1];rfl
 ·have hr:Fr (fun k=>k=pb) w1 (w1.setCell ⟨pb,7,af⟩ iZ):=(Fr.refl (fun k=>k=pb) w1).setCell (p:=⟨pb,7,af⟩) (.inl rfl) _;have:=hr.ownsRow iO (fun k hk e=>by
   subst e;rcases dX _ hk with h1|h1
   ·exact dh h1
   ·have:=aX b.blk;omega)
  show World.ownsRow _ B 66 4 iZ (s.g.wr++[f]).length ((s.g.wr++[f]).flatMap Wn.cs);simpa using this
 ·have:=yE;show(s.g.wr++[f]).length<=N+1;simp<;>omega
 ·rcases hk with hk|hk|hk|hk|hk|hk
  ·exact .inl<|.inl hk
  ·exact .inl<|.inr<|.inl hk
  ·exact .inl<|.inr<|.inr<|.inl hk
  ·rcases dX k hk with e|e
   ·exact .inl<|.inr<|.inr<|.inr<|.inl e
   ·exact .inr e
  ·exact .inl<|.inr<|.inr<|.inr<|.inr<|.inl hk
  ·exact .inl<|.inr<|.inr<|.inr<|.inr<|.inr hk
def avJ{eg cap i:Nat}{e0:Int}(ha:aF w B xb n s.h)(ax:iP s.h.pl)(b:gQ w B pb xb s.h s.g s.v)(yE:s.g.wr.length<=N)(VD:s.g.fa.length<=N)(hn:n<=N+1)(dS:s.v.ev=aJ (ae ⟨eg,0,af⟩) s.g.ep.length cap)(pg:Pg (N+1) s.h L' {s.g with ep:=s.g.ep.set i e0}):
 bW w (w.setCell ⟨eg,i,af⟩<|ag ah e0) B pb xb s (N+1) ⟨s.h,L',{s.g with ep:=s.g.ep.set i e0},s.v⟩:=by
 have dF:=b.ep;rw[dS]at dF;have ho:s.v.ev.ownBlock=ae eg:=by rw[dS];rfl
 have f:Fr (fun k=>k=eg) w (w.setCell ⟨eg,i,af⟩<|ag ah e0):=(Fr.refl (fun k=>k=eg) w).setCell (p:=⟨eg,i,af⟩) (.inl rfl) _;have ht:tag w eg=3:=iK b.ep ho;have st:∀{ty:dw} {wd:Nat} {u:az} {m:Nat} {xs:List az},w.ownsRow B ty wd u m xs->ty≠3->(w.setCell ⟨eg,i,af⟩<|ag ah e0).ownsRow B ty wd u m xs:=fun ho h1=>MJ ho f fun k e e2=>h1 (by rw[<-e2,e,ht]);have dh:eg≠pb:=fun e=>by rw[e,lM b.blk]at ht;exact absurd ht<|by decide
 have hf:∀k,k=eg->s.fA pb xb k:=fun k e=>.inr (.inr<|.inl (by rw[e];exact ho));refine⟨⟨(ha.stay f fun k e hk=>ha.off b hk<|.inr<|.inl (by rw[e];exact ho)).mono hn,ax,⟨(f.block pb (aX b.blk) fun e=>dh e.symm).trans b.blk,?_,st b.wr<|by decide,st b.fa<|by decide,st b.gt<|by decide,b.gl,fun q u l h1 h2=>st (b.rc q u l h1 h2)<|by decide,f.ownsRow b.st fun k hk e=>b.ap eg ho<|e▸hk,b.ap,b.hb⟩,pg,aak yE,aak VD⟩,f.mono fun k e=>.inl<|hf k e,fun k hk=>.inl hk,rfl,rfl,rfl,rfl⟩;show World.ownsRow _ B 3 1 s.v.ev (s.g.ep.set i e0).length (gy<|s.g.ep.set i e0);have:=(dF.stored i<|ag ah e0).1;rw[dS,zF];have e:gy (s.g.ep.set i e0)=(gy s.g.ep).set i (ag ah e0):=by simp[gy,List.map_set]
 rw[e];exact this
def avK{gg gc:Nat}{u:az}{l:List Rec}(a:bH w B pb xb N s)(wz:s.v.gv=aJ (ae ⟨gg,0,af⟩) s.v.gs.length gc)(hu:w.ownsRow B 94 3 u l.length (qJ l))(hq:q<s.v.gs.length):
 gQ (w.setCell ⟨gg,q,af⟩ u) B pb xb s.h {s.g with gt:=s.g.gt.set q l} {s.v with gs:=s.v.gs.set q u}/\aF (w.setCell ⟨gg,q,af⟩ u) B xb N s.h/\Fr (fun k=>k=gg) w (w.setCell ⟨gg,q,af⟩ u)/\s.fA pb xb gg:=by
 have b:=a.pa;have dF:=b.gt;rw[wz]at dF;have ho:s.v.gv.ownBlock=ae gg:=by rw[wz];rfl
 have f:Fr (fun k=>k=gg) w (w.setCell ⟨gg,q,af⟩ u):=(Fr.refl (fun k=>k=gg) w).setCell (p:=⟨gg,q,af⟩) (.inl rfl) _;have ht:tag w gg=67:=iK b.gt ho;have st:∀{ty:dw} {wd:Nat} {u':az} {m:Nat} {xs:List az},w.ownsRow B ty wd u' m xs->ty≠67->(w.setCell ⟨gg,q,af⟩ u).ownsRow B ty wd u' m xs:=fun ho h1=>MJ ho f fun k e e2=>h1 (by rw[<-e2,e,ht]);have dh:gg≠pb:=fun e=>by rw[e,lM b.blk]at ht;exact absurd ht<|by decide
 refine⟨⟨(f.block pb (aX b.blk) fun e=>dh e.symm).trans b.blk,st b.ep<|by decide,st b.wr<|by decide,st b.fa<|by decide,?_,by simp[b.gl],fun j u' l' h1 h2=>?_,st b.st<|by decide,b.ap,b.hb⟩,a.ha.stay f fun k e hk=>a.ha.off b hk<|.inr<|.inr<|.inr<|.inr<|.inl (by rw[e];exact ho),f,.inr<|.inr<|.inr<|.inr<|.inr<|.inl ho⟩
 ·show World.ownsRow _ B 67 1 s.v.gv (s.v.gs.set q u).length (s.v.gs.set q u);have:=(dF.stored q u).1;rw[wz,zF];exact this
 ·rcases Cc h1 with⟨rfl,rfl⟩|⟨alC,EC⟩
  ·rcases Cc h2 with⟨_,rfl⟩|⟨z,_⟩
   ·exact st hu<|by decide
   ·exact absurd rfl z
  ·rcases Cc h2 with⟨z,_⟩|⟨_,Qo⟩
   ·exact absurd z alC
   ·exact st (b.rc j u' l' EC Qo)<|by decide
def avL{sg sc m:Nat}(ha:aF w B xb n h)(b:gQ w B pb xb h g v)(DF:v.sv=aJ (ae ⟨sg,0,af⟩) g.st.length sc):
 gQ (w.setCell ⟨sg,q,af⟩<|ag ah m) B pb xb h {g with st:=g.st.set q m} v/\aF (w.setCell ⟨sg,q,af⟩<|ag ah m) B xb n h/\Fr (fun k=>k=sg) w (w.setCell ⟨sg,q,af⟩<|ag ah m)/\v.fA pb sg:=by
 have dF:=b.st;rw[DF]at dF;have ho:v.sv.ownBlock=ae sg:=by rw[DF];rfl
 have f:Fr (fun k=>k=sg) w (w.setCell ⟨sg,q,af⟩<|ag ah m):=(Fr.refl (fun k=>k=sg) w).setCell (p:=⟨sg,q,af⟩) (.inl rfl) _;have ht:tag w sg=3:=iK b.st ho;have st:∀{ty:dw} {wd:Nat} {u':az} {m':Nat} {xs:List az},w.ownsRow B ty wd u' m' xs->ty≠3->(w.setCell ⟨sg,q,af⟩<|ag ah m).ownsRow B ty wd u' m' xs:=fun ho h1=>MJ ho f fun k e e2=>h1 (by rw[<-e2,e,ht]);have dh:sg≠pb:=fun e=>by rw[e,lM b.blk]at ht;exact absurd ht<|by decide
 refine⟨⟨(f.block pb (aX b.blk) fun e=>dh e.symm).trans b.blk,f.ownsRow b.ep (fun k hk e=>b.ap k hk (by rw[e];exact ho)),st b.wr<|by decide,st b.fa<|by decide,st b.gt<|by decide,b.gl,fun j u' l' h1 h2=>st (b.rc j u' l' h1 h2)<|by decide,?_,b.ap,b.hb⟩,ha.stay f fun k e hk=>ha.off b hk<|.inr<|.inr<|.inr<|.inr<|.inr<|.inl (by rw[e];exact ho),f,.inr<|.inr<|.inr<|.inr<|.inr<|.inl ho⟩;show World.ownsRow _ B 3 1 v.sv (g.st.set q m).length (gy<|(g.st.set q m).map Int.ofNat);have:=(dF.stored q<|ag ah m).1;rw[DF,zF];have e:gy ((g.st.set q m).map Int.ofNat)=(gy<|g.st.map Int.ofNat).set q (ag ah m):=by simp[gy,List.map_set]
 rw[e];exact this
def adi{d:Bool}(ha:aF w B xb n h)(b:gQ w B pb xb h g v):
 gQ (w.setCell ⟨pb,6,af⟩<|aB d) B pb xb h {g with dn:=d} v/\aF (w.setCell ⟨pb,6,af⟩<|aB d) B xb n h/\Fr (fun k=>k=pb) w (w.setCell ⟨pb,6,af⟩<|aB d):=by
 have f:Fr (fun k=>k=pb) w (w.setCell ⟨pb,6,af⟩<|aB d):=(Fr.refl (fun k=>k=pb) w).setCell (p:=⟨pb,6,af⟩) (.inl rfl) _;have ht:tag w pb=48:=lM b.blk;have st:∀{ty:dw} {wd:Nat} {u':az} {m':Nat} {xs:List az},w.ownsRow B ty wd u' m' xs->ty≠48->(w.setCell ⟨pb,6,af⟩<|aB d).ownsRow B ty wd u' m' xs:=fun ho h1=>MJ ho f fun k e e2=>h1 (by rw[<-e2,e,ht]);exact⟨⟨by rw[jT b.blk];rfl,st b.ep<|by decide,st b.wr<|by decide,st b.fa<|by decide,st b.gt<|by decide,b.gl,fun j u' l' h1 h2=>st (b.rc j u' l' h1 h2)<|by decide,st b.st<|by decide,b.ap,b.hb⟩,ha.stay f fun k e hk=>ha.off b hk<|.inl e,f⟩
end
end
section
section
variable{w w':aj}{B pb xb N:Nat}{s:dB}
def Ej(x:PS)(p:PL)(i q:Nat)(ts:ByteArray):Prop:=x.s=1/\x.aZ.getD q 0≠0/\p.s.nw i=ae (x.t,true)/\p.out=false/\p.s.ou i x.t ts=0
structure Ye(w w':aj)(B pb xb N:Nat)(s:dB)(q:Nat)(p:PL)(x:PS)(code:Int)(s2:dB):Prop where
 to:kK w w' B pb xb s (N+1) s2
 no:code≠0
 len:∃p2,s2.h.pl[q]? =ae p2/\p2.s=p.s
 ok:x.s≠1\/code=11\/code=10\/code=12
structure Yf(w w':aj)(B xb N:Nat)(h:HS)(L:List Rc)(i q:Nat)(p:PL)(t:Int)(ts:ByteArray)(h':HS)(p':PL):Prop where
 mv:bU w w' B xb N h N h'
 ax:iP h'.pl
 sn:Sn (N+1) h' L
 pl:h'.pl=h.pl.set q p'
 data:p'.s.data=p.s.data++[⟨1,i,t,ts⟩]
 ext:Ext p.s p'.s
 len:p'.s.es.length=p.s.es.length+1
 up:h'.up=h.up
 cf:h'.P=h.P/\h'.Q=h.Q/\h'.T=h.T/\h'.K=h.K
 Ei:qF i h h'
 me:∃x',h'.ps[i]? =ae x'/\x'.s=1/\x'.t=t
variable{i q:Nat}{ts:ByteArray}{x:PS}{p:PL}{ep:Int}
def avM{s0:aH}{i t:Int}(ho:s0.nw i=ae (t,true))(h8:ts.size<=8)(hc:s0.ou i t ts≠0):s0.ou i t ts=12:=by
 have h1:s0.isOpen i t=true:=V4.2 ho;unfold aH.ou at hc⊢
 rw[h1,if_neg<|by simp,if_neg<|by omega]at hc⊢
 split
 ·rfl
 ·rename_i hn;rw[if_neg hn]at hc;exact absurd rfl hc
def avN(a:bH w B pb xb N s)(hN:N<=90000000)(hi:(i:Int)<s.h.P)(hu:s.h.up=true)(hx:s.h.ps[i]? =ae x)(hp:s.h.pl[q]? =ae p)(he:s.g.ep[i]? =ae ep)(h8:ts.size<=8)(qI:¬Ej x p i q ts):
 aU prog 77 #[ay<|ae ⟨xb,0,af⟩,ag ah i,ag ah ep,ag ah q,dA ts] w fun e w'=>∃code s2,e=aT (ag ah code)/\Ye w w' B pb xb N s q p x code s2:=by
 obtain⟨e1,e2,_⟩:=a.CW hu hx he;have hb:s.h.bars x ep=0:=by
  unfold HS.bars;rw[hu,if_neg<|by simp,if_neg<|by omega]
 have wS:=(dM.1 hp).1;have k:=(a.pg.sn.up hu i x hx).k;have f:=a.pg.sn.valid.qL i;have s0:=f.s0;have s1:=f.s1;rw[<-k.s]at s0 s1;have still:∀{w':aj} {code:Int},Fr aP w w'->code≠0->(x.s≠1\/code=11\/code=10\/code=12)->Ye w w' B pb xb N s q p x code s:=fun g h1 h2=>⟨(kK.still a g).mono<|by omega,h1,⟨p,hp,rfl⟩,h2⟩;by_cases h1:x.s=1
 ·by_cases ht:x.aZ.getD q 0=0
  ·exact(ao2 a.ha hi wS hx hb h1 ht h8).mono fun e w' ⟨g1,g2⟩=>⟨11,s,g1,still g2 (by decide)<|.inr<|.inl rfl⟩
  ·have qg:=(a.pg.sn.ed q p hp).fB;refine(agF a.ha a.ax hi hp hx hb h1 ht h8 (by omega)<|by omega).mono fun e w' h=>?_;cases h with
   |not ho g=>exact⟨11,s,rfl,still g (by decide)<|.inr<|.inl rfl⟩
   |out ho NU g=>exact⟨10,s,rfl,still g (by decide)<|.inr<|.inr<|.inl rfl⟩
   | @bad _ t v' ho NU hc hm ha=>
     have adk:=a.pg.sn.opn q p hp i t ho;have Kz:p.s.nw i=ae (x.t,true):=by rw[ho,k.t,adk.2.2.2.1]
     have h12:=avM Kz h8 hc;rw[h12];have F9:=avq hc;obtain⟨sn,gr⟩:=a.pg.sn.avr v' hp F9;exact⟨12,_,rfl,⟨kK.of a hm ⟨rfl,rfl,rfl,rfl⟩ ha (by omega) (by omega) rfl<|a.pg.same sn rfl rfl gr,by decide,⟨_,mQ wS,F9⟩,.inr<|.inr<|.inr rfl⟩⟩
   | @ok _ t v' ho NU hc hm ha=>
     have adk:=a.pg.sn.opn q p hp i t ho;have Kz:p.s.nw i=ae (x.t,true):=by rw[ho,k.t,adk.2.2.2.1]
     exact absurd ⟨h1,ht,Kz,NU,hc⟩ qI
 ·exact(ao1 a.ha hi wS hx hb (by omega) h8).mono fun e w' ⟨g1,g2⟩=>⟨_,s,g1,still g2 (by split<;>decide)<|.inl h1⟩
def avO(a:bH w B pb xb N s)(hN:N<=90000000)(hi:(i:Int)<s.h.P)(hu:s.h.up=true)(hx:s.h.ps[i]? =ae x)(hp:s.h.pl[q]? =ae p)(he:s.g.ep[i]? =ae ep)(h8:ts.size<=8)(hy:Ej x p i q ts):
 aU prog 77 #[ay<|ae ⟨xb,0,af⟩,ag ah i,ag ah ep,ag ah q,dA ts] w fun e w'=>e=aT (ag ah 0)/\∃h' p',Yf w w' B xb N s.h s.L i q p x.t ts h' p':=by
 obtain⟨h1,ht,Kz,NU,hc⟩:=hy;obtain⟨e1,e2,_⟩:=a.CW hu hx he;have hb:s.h.bars x ep=0:=by
  unfold HS.bars;rw[hu,if_neg<|by simp,if_neg<|by omega]
 have qg:=(a.pg.sn.ed q p hp).fB;refine(agF a.ha a.ax hi hp hx hb h1 ht h8 (by omega)<|by omega).mono fun e w' h=>?_;cases h with
 |not ho g=>exact absurd Kz<|ho _
 |out ho yz g=>rw[NU]at yz;cases yz
 |bad ho yz lI hm ha=>exact absurd hc lI
 | @ok _ t v' ho yz lI hm ha=>
   obtain⟨sn,ext⟩:=a.pg.sn.put (by omega) hu v' hi hx hp hc;exact⟨rfl,_,⟨p.lb,p.bm,v',p.s.lC i x.t ts,p.out⟩,hm,ha,sn,rfl,avp hc,ext,by show(p.s.lC i x.t ts).es.length=_;rw[X8 hc];simp,rfl,⟨rfl,rfl,rfl,rfl⟩,(qF.gZ (p':=⟨p.lb,p.bm,v',p.s.lC i x.t ts,p.out⟩) hp rfl).trans<|.dQ _ _ _,_,mQ (dM.1 hx).1,h1,rfl⟩
def avP(a:bH w B pb xb N s)(hi:(i:Int)<s.h.P)(hu:s.h.up=true)(hx:s.h.ps[i]? =ae x)(hq:q<s.h.pl.length)(he:s.g.ep[i]? =ae ep)(h8:ts.size<=8):
 aU prog 77 #[ay<|ae ⟨xb,0,af⟩,ag ah i,.int .i64<|ep-1,ag ah q,dA ts] w fun e w'=>e=aT (ag ah 7)/\w=w':=by
 have hb:=adg a hu hx he;have:=agE (ep:=ep-1) a.ha hi hq hx (by rw[hb];decide) h8;rw[hb]at this;exact this
end
end
section
section
variable{w w':aj}{B pb xb N M:Nat}{s:dB}
def kK.Eh(a:bH w B pb xb N s){n':Nat}{h':HS}{L':List Rc}(m:bU w w' B xb N s.h n' h')(ax:iP h'.pl)(hn:n'<=M)(hM:N<=M)(sn:Sn M h' L')(wd:uH s.h s.L h' L'):kK w w' B pb xb s M ⟨h',L',s.g,s.v⟩:=kK.of a m ⟨wd.P,wd.Q,wd.T,wd.K⟩ ax hn hM wd.up<|a.pg.Eh sn wd
variable{k:Nat}{m:Ms}
def avQ(a:bH w B pb xb N s)(hk:s.h.fl[k]? =ae m):aU prog 83 #[ay<|ae ⟨xb,0,af⟩,ag ah k] w fun e w'=>e=aT (ag ah 0)/\∃s2,kK w w' B pb xb s (N+1) s2:=
 (apI a.ha hk).mono fun e w' ⟨h1,fv,mv⟩=>⟨h1,_,kK.Eh a mv a.ax (by omega) (by omega) ((a.pg.sn.drop fv k).mono<|by omega)<|.X0 fv _⟩
def avR(a:bH w B pb xb N s)(hk:s.h.fl[k]? =ae m):aU prog 85 #[ay<|ae ⟨xb,0,af⟩,ag ah k] w fun e w'=>e=aT (ag ah 0)/\∃s2,kK w w' B pb xb s (N+1) s2:=
 (apA a.ha hk).mono fun e w' ⟨h1,hs⟩=>(by
   obtain⟨fv,mv⟩:=hs.going a.ha;exact⟨h1,_,kK.Eh a mv a.ax (by omega) (by omega) ((a.pg.sn.copy fv<|gz hk).mono<|by omega)<|.X0 fv _⟩)
def avS(a:bH w B pb xb N s)(hN:N<=90000000)(hk:s.h.fl[k]? =ae m):aU prog 81 #[ay<|ae ⟨xb,0,af⟩,ag ah k] w fun e w'=>e=aT (ag ah 0)/\∃s2,kK w w' B pb xb s (N+1) s2:=by
 have hm:=gz hk;obtain⟨mo,ma⟩:=a.pg.sn.ms m hm;have hP:=mo.p;have hQ:=mo.q;have Rw:=a.pg.sn.P1.2;have hQ4:=a.pg.sn.Q1.2;obtain⟨i,hi⟩:=uA hP.1;obtain⟨q,hq⟩:=uA hQ.1;rcases mo.k with aQ|kL
 ·obtain⟨p,hp⟩:=a.q (q:=q) (by omega);cases ho:p.out with
  |true=>exact(avg a.ha hk aQ hq hp ho).mono fun e w' ⟨h1,fv,mv⟩=>⟨h1,_,kK.Eh a mv a.ax (by omega) (by omega) ((a.pg.sn.drop fv k).mono<|by omega)<|.X0 fv _⟩
  |false=>
   have qg:=(a.pg.sn.ed q p hp).fB;refine(avh a.ha a.ax hk aQ hq hp ho (a.pg.sn.WO (by omega) mo).1 (by unfold dU;omega)<|by omega).mono fun e w' ⟨h1,fv,v',w3,mv,ax,Em⟩=>?_;obtain⟨iZ,XW⟩:=Em.going mv.at_;obtain⟨sn,wd⟩:=a.pg.sn.marked hN hk hq hp fv v' iZ;exact⟨h1,_,kK.Eh a (mv.trans XW) ax (dm _) (by omega) sn wd⟩
 ·obtain⟨x,hx⟩:=a.ps (i:=i) (by omega);refine(avf a.ha hk kL (by omega) hx hq (by omega) hi<|a.pg.sn.ac6 (by omega) (.inr rfl) (.inl rfl) (by omega) hx).mono fun e w' ⟨h1,fv,h',kr,mv⟩=>?_;obtain⟨L',sn,wd,_,iR,_⟩:=(a.pg.sn.drop fv k).kZ mo (ma kL) hi hx kr;exact⟨h1,_,kK.Eh a mv (by rw[iR];exact a.ax) (by omega) (by omega) sn<|(uH.X0 fv _).trans wd⟩
def avT(a:bH w B pb xb N s)(hN:N<=80000000):aU prog 56 #[ay<|ae ⟨xb,0,af⟩] w fun e w'=>e=aT (.int .i64<|if s.h.up then 0 else 5)/\∃s2,kK w w' B pb xb s (N+6) s2:=by
 cases hu:s.h.up with
 |false=>exact(agW a.ha hu).mono fun e w' ⟨h1,h2⟩=>by subst h2;exact⟨h1,s,(kK.still a<|Fr.refl _ _).mono<|by omega⟩
 |true=>
  refine(agX a.ha hu fun j h1 x hj t hx=>a.pg.sn.ajB (by omega) hu hj t hx).mono fun e w' ⟨ok,h',h1,ho,mv⟩=>?_;obtain⟨e1,L',sn,wd,iR⟩:=a.pg.sn.tick hu ho;subst e1;exact⟨h1,_,kK.Eh a mv (by rw[iR];exact a.ax) (by omega) (by omega) sn wd⟩
end
end
def vO(c:Int)(hc:eP c){n:Nat}(hn:1<=n)(sS:n<=1000)(w:aj):aU prog 49 #[.int .i64 c,.int .i64 n] w fun e w'=>∃k:Nat,k<n/\e=aT (.int .i64 k)/\w=w':=by
 have hx: -9223372036854775808<=c/\c<=9223372036854775807:=by simpa[eP,Lit.wf,IntKind.min,IntKind.max,IntKind.signed,IntKind.bits]using hc
 obtain⟨h1,h2⟩:=hx;have Zm:(n:Int)≠0:=by omega
 have hnm:(n:Int)≠-1:=by omega
 have e0:((n:Int)==0)=false:=by simpa using Zm
 have key:∀d:Int,0<=d->d<=9223372036854775807->IntKind.i64.wrap (d.tmod n)=((d%n).toNat:Int)/\(d%n).toNat<n/\d.tmod n=((d%n).toNat:Int):=fun d hd hd2=>by
  have h3:d.tmod n=d%n:=amS hd;have h4:=Int.emod_nonneg d Zm;have h5:=Int.emod_lt_of_pos d (show(0:Int)<n by omega);refine⟨?_,by omega,by omega⟩;rw[h3,wrap_i64 h4<|by omega];omega
 clear hc;by_cases aDL:c<0
 ·obtain⟨k1,k2,k3⟩:=key (-(c+1)) (by omega) (by omega);have w1:IntKind.i64.wrap (c+1)=c+1:=by
   simp only[IntKind.wrap,IntKind.bits,IntKind.signed];simp<;>omega
  have w2:IntKind.i64.wrap (-(c+1))= -(c+1):=wrap_i64 (by omega) (by omega);clear key;go_enter func49,ntmps49
  go_wp2
  go_ret;refine⟨(-(c+1)%n).toNat,k2,?_,rfl⟩;show Ending.returned (Value.int .i64<|max (-(c+1)%n) 0)=_;exact fG (fun z=>Ending.returned<|Value.int .i64 z)<|by omega
 ·obtain⟨k1,k2,k3⟩:=key c (by omega) (by omega);clear key;go_enter func49,ntmps49
  go_wp2
  go_ret;refine⟨(c%n).toNat,k2,?_,rfl⟩;show Ending.returned (Value.int .i64<|max (c%n) 0)=_;exact fG (fun z=>Ending.returned<|Value.int .i64 z)<|by omega
section
section
variable{w w':aj}{B pb xb N:Nat}{s s':dB}
def bH.uf(a:bH w B pb xb N s){eg cap i:Nat}{e:Int}(dS:s.v.ev=aJ (ae ⟨eg,0,af⟩) s.g.ep.length cap)(he:s.g.ep[i]? =ae e):w.cell? ⟨pb,0,af⟩=ae (ay<|ae ⟨xb,0,af⟩)/\w.cell? ⟨pb,5,af⟩=ae (aJ (ae ⟨eg,0,af⟩) s.g.ep.length cap)/\w.cell? ⟨eg,i,af⟩=ae (ag ah e)/\w.cell? ⟨pb,6,af⟩=ae (aB s.g.dn)/\pb<w.heap.size/\eg<w.heap.size:=by
 obtain⟨c0,_,_,c5,c6,_⟩:=a.cells;have dF:=a.pa.ep;rw[dS]at c5 dF;exact⟨c0,c5,yH dF he,c6,aX a.pa.blk,(dF.lt eg rfl).2⟩
structure TL(s:dB)(i q:Nat)(s':dB):Prop where
 wr:s'.g.wr=s.g.wr
 Ei:qF i s.h s'.h
 ok:∀x p,s.h.ps[i]? =ae x->(x.s=0\/x.s=1)->s.h.pl[q]? =ae p->p.out=false->∃x2 p2,s'.h.ps[i]? =ae x2/\x2.s=1/\x2.aZ.getD q 0≠0/\s'.h.pl[q]? =ae p2/\p2.s=p.s.opened i x2.t/\p2.out=false/\(x.s=0->(bI x2.aZ 1 4).length=1)
def adm(a:bH w B pb xb N s)(hN:N<=80000000){i q:Nat}(hi:(i:Int)<s.h.P)(hq:(q:Int)<s.h.Q)(hu:s.h.up=true):
 aU prog 25 #[ay<|ae ⟨pb,0,af⟩,ag ah i,ag ah q] w fun e w'=>e=aT (aB true)/\∃s',bW w w' B pb xb s (N+4) s'/\s'.h.up=true/\TL s i q s':=by
 obtain⟨x,hx⟩:=a.ps hi;obtain⟨ep,he⟩:=a.ep hi;obtain⟨e1,e2,e3⟩:=a.CW hu hx he;have oh:i<s.g.ep.length:=(dM.1 he).1;obtain⟨eg,iI,dS,_⟩:=vN a.pa.ep (by omega);have A:Hid (bH w B pb xb N s):=a;have fF:Hid (N<=80000000):=hN;have HI:Hid ((i:Int)<s.h.P):=hi;have HQ:Hid ((q:Int)<s.h.Q):=hq;have HU:Hid (s.h.up=true):=hu;have HX:Hid (s.h.ps[i]? =ae x):=hx;have HE:Hid (s.g.ep[i]? =ae ep):=he;have kU:Hid (s.v.ev=aJ (ae ⟨eg,0,af⟩) s.g.ep.length iI):=dS;have zh:(i:Int)<(s.g.ep.length:Int):=by omega
 have uS:(0:Int)<=(i:Int):=by omega
 have hep:ep<=80000000:=by omega
 have yE:IntKind.i64.wrap (ep-1)=ep-1:=wrap_i64 (by omega) (by omega);clear a hi hq hu hx he dS hN e1 e3 oh;go_enter func25,ntmps25
 go_wp2_with fail
 refine(Iq A.o (by have:=fF.o;omega) HI.o HU.o HX.o).mono ?_;rintro e w1 ⟨n1,n2,t1⟩;rename_i va vb gB eX;obtain⟨aa,ac,rfl,_⟩:=kR n1;obtain⟨ba,bc,rfl,_⟩:=kR n2;have T1:Hid (bW w w1 B pb xb s (N+1)<|s.fD eX gB):=t1;generalize AA:(bI x.aZ 1 4).length=l1;generalize BL:(bI x.aZ 2 4).length=l2;clear n1 n2 t1 AA BL;go_wp2_with fail
 have ZW:Hid (∃W:aj,W=w1.alloc (aC #[ag ah x.e,ag ah x.t,ag ah x.s,.slice aa l1 ac,.slice ba l2 bc] 58)):=⟨_,rfl⟩;obtain⟨W1,eW⟩:=ZW.o;rw[<-eW];have iH:Hid (Fr aP w1 W1):=by subst eW;exact bG _
 have X1:Hid (W1.heap[w1.heap.size]? =ae (aC #[ag ah x.e,ag ah x.t,ag ah x.s,.slice aa l1 ac,.slice ba l2 bc] 58 (0,0))):=by subst eW;exact aDY _ _
 have lH:Hid (bH W1 B pb xb (N+1)<|s.fD eX gB):=T1.o.at_.after iH.o;clear ZW eW;obtain⟨d0,d5,de,d6,aI,oW⟩:=lH.o.uf kU.o HE.o;have HC:Hid (aU prog 63 #[ay<|ae ⟨xb,0,af⟩,ag ah i,.int .i64<|ep-1,ag ah q] W1.drew fun e w'=>e=aT (ag ah 7)/\W1.drew=w'):=by
  have hb:=adg lH.o HU.o HX.o HE.o;have wS:q<s.h.pl.length:=by
   have h1:=HQ.o;have h2:s.h.Q=s.h.pl.length:=lH.o.ha.hQ.1;omega
  have:=agz (ep:=ep-1) (lH.o.ha.after<|(Fr.refl _ _).drew) HI.o wS HX.o (by rw[hb];decide);rw[hb]at this;exact this
 go_region_held3 (fun w'=>w'.cell? ⟨pb,0,af⟩=ae (ay<|ae ⟨xb,0,af⟩)/\w'.cell? ⟨pb,5,af⟩=ae (aJ (ae ⟨eg,0,af⟩) s.g.ep.length iI)/\w'.cell? ⟨eg,i,af⟩=ae (ag ah ep))
  (first|exact⟨d0,d5,de⟩|go_keep)
  ((go_at_call 63;with_reducible refine HC.o.mono ?_;rintro e w2 ⟨rfl,rfl⟩))
 go_wp2_with fail
 have sV:Hid (∀V,Fr aP W1 V->aU prog 63 #[ay<|ae ⟨xb,0,af⟩,ag ah i,ag ah ep,ag ah q] V (adf V B pb xb (N+1) (s.fD eX gB) i q x)):=fun V f=>avH (lH.o.after f) (by have:=fF.o;omega) HI.o HQ.o HU.o HX.o HE.o;go_region_held3 (fun w'=>w'.cell? ⟨pb,0,af⟩=ae (ay<|ae ⟨xb,0,af⟩)/\w'.cell? ⟨pb,5,af⟩=ae (aJ (ae ⟨eg,0,af⟩) s.g.ep.length iI)/\w'.cell? ⟨eg,i,af⟩=ae (ag ah ep))
  (first|with_reducible exact C3|exact⟨d0,d5,de⟩|go_keep)
  ((go_at_call 63;with_reducible refine(sV.o _<|((Fr.refl _ _).drew).drew).mono ?_;rintro e w3 ⟨t3,Kv,r3,ax3⟩
    rename_i code x2 s2
    have T3:Hid (kK W1.drew.drew w3 B pb xb (s.fD eX gB) (N+3) s2):=t3
    have JS:Hid (s2.h.ps[i]? =ae x2):=Kv
    have R3:Hid (PT x code x2):=r3
    have JU:Hid (s2.v.ev=aJ (ae ⟨eg,0,af⟩) s2.g.ep.length iI):=by show s2.v.ev=_;rw[t3.v,t3.g];exact kU.o
    have nJ:Hid (s2.g.ep[i]? =ae ep):=by show s2.g.ep[i]? =_;rw[t3.g];exact HE.o
    have C3:w3.cell? ⟨pb,0,af⟩=ae (ay<|ae ⟨xb,0,af⟩)/\w3.cell? ⟨pb,5,af⟩=ae (aJ (ae ⟨eg,0,af⟩) s.g.ep.length iI)/\w3.cell? ⟨eg,i,af⟩=ae (ag ah ep):=by
     obtain⟨k0,k5,ke,_⟩:=t3.to.at_.uf JU.o nJ.o;rw[t3.g]at k5;exact⟨k0,k5,ke⟩
    have AX3:Hid (ajM (s.fD eX gB) i q x s2 x2):=ax3
    clear t3 Kv r3 ax3))
 go_wp2_with fail
 have F3:Hid (Fr ((s.fD eX gB).fA pb xb) W1 w3):=((((Fr.refl (fun _=>False) _).drew).drew).mono fun _ h=>h.elim).trans T3.o.to.fr fun _=>.inl;have X3:Hid (w3.heap[w1.heap.size]? =ae (aC #[ag ah x.e,ag ah x.t,ag ah x.s,.slice aa l1 ac,.slice ba l2 bc] 58 (0,0))):=(F3.o.block _ (aX X1.o)<|lH.o.zV X1.o<|by decide).trans X1.o;refine(Iq T3.o.to.at_ (by have:=fF.o;omega) (by have h1:s2.h.P=s.h.P:=T3.o.to.cf.1;rw[h1];exact HI.o) (T3.o.up.trans HU.o) JS.o).mono ?_;rintro e w4 ⟨n1,n2,t4⟩;rename_i va vb FN QH;obtain⟨ca,cc,rfl,_⟩:=kR n1;obtain⟨da,dc,rfl,_⟩:=kR n2;have T4:Hid (bW w3 w4 B pb xb s2 (N+4)<|s2.fD QH FN):=t4;obtain⟨_,_,_,g6,aeY,_⟩:=t4.at_.uf JU.o nJ.o;have X4:Hid (w4.heap[w1.heap.size]? =ae (aC #[ag ah x.e,ag ah x.t,ag ah x.s,.slice aa l1 ac,.slice ba l2 bc] 58 (0,0))):=(t4.fr.block _ (aX X3.o)<|T3.o.to.at_.zV X3.o<|by decide).trans X3.o;have kE:(s2.fD QH FN).g.dn=false:=by
  show s2.g.dn=false;rw[T3.o.to.at_.pg.dn,show s2.h.up=true from T3.o.up.trans HU.o];rfl
 rw[kE]at g6;have y1:w4.cell? ⟨w1.heap.size,1,af⟩=ae (ag ah x.t):=aK X4.o 1;have y2:w4.cell? ⟨w1.heap.size,2,af⟩=ae (ag ah x.s):=aK X4.o 2;have y1l:w1.heap.size<w4.heap.size:=aX X4.o;have jQ:Hid (∀V,Fr aP w4 V->bW w V B pb xb s (N+4) (s2.fD QH FN)):=fun V f=>(((T1.o.after iH.o).trans<|bW.behind (((Fr.refl _ _).drew).drew) T3.o.to).trans T4.o).after f;have Yg:Hid ((s2.fD QH FN).h.up=true/\TL s i q (s2.fD QH FN)):=⟨T3.o.up.trans HU.o,(show s2.g.wr=s.g.wr by rw[T3.o.g];rfl),AX3.o.Ei,fun y p hy hs hp ho=>by
  rw[HX.o]at hy;cases hy;obtain⟨z1,z2,p2,z3,z4,z5⟩:=AX3.o.ok hs p hp ho;refine⟨x2,p2,JS.o,z1,z2,z3,z4,z5,fun h0=>?_⟩;have r:=R3.o;cases r with
  |new _ _ _ h3=>exact h3
  |_=>omega⟩
 clear n1 n2 t4 kE d0 d5 de d6 aI oW;have XT:Hid (0<=x.t/\x.t<=80000000):=by
  have k:=(A.o.pg.sn.up HU.o i x HX.o).k;have f:=A.o.pg.sn.valid.qL i;have:=A.o.pg.sn.fB;have:=fF.o;exact⟨by rw[k.t];exact f.t0,by rw[k.t];have:=f.t1;omega⟩
 obtain⟨xe,xt,xs,xa,wU,xc,xd,xi,xw,xg⟩:=x;have XT':Hid (0<=xt/\xt<=80000000):=XT.o;obtain⟨ye,yt,ys,ya,TM,yc,yd,yi,yw,yg⟩:=x2;simp only at y1 y2;generalize VE:(bI (⟨ye,yt,ys,ya,TM,yc,yd,yi,yw,yg⟩:PS).aZ 1 4).length=tl;generalize(bI (⟨ye,yt,ys,ya,TM,yc,yd,yi,yw,yg⟩:PS).aZ 2 4).length=tl2;have r:=R3.o;clear R3;cases r with
 |busy hs=>
  rcases hs with hs|hs<;>simp only at hs<;>subst hs<;>go_wp2<;>go_ret<;>exact⟨rfl,_,jQ.o _<|bG _,Yg.o⟩
 |out hs=>
  rcases hs with hs|hs<;>simp only at hs<;>subst hs<;>go_wp2<;>go_ret<;>exact⟨rfl,_,jQ.o _<|bG _,Yg.o⟩
 |new hs h1 h2 h3=>
  simp only at hs h1 h2;rw[VE]at h3;subst hs h1 h2 h3;have uT:IntKind.i64.wrap (xt+1)=xt+1:=wrap_i64 (by have:=XT'.o;omega) (by have:=XT'.o;omega);go_wp2
  go_ret;exact⟨rfl,_,jQ.o _<|bG _,Yg.o⟩
 |more hs h1 h2=>
  simp only at hs h1 h2;subst hs h1 h2;go_wp2
  go_ret;exact⟨rfl,_,jQ.o _<|bG _,Yg.o⟩
end
end
section
section
variable{w w':aj}{B pb xb N:Nat}{s s':dB}
def avU(a:bH w B pb xb N s)(hN:N<=80000000){i q:Nat}(hi:(i:Int)<s.h.P)(hq:(q:Int)<s.h.Q)(hu:s.h.up=false):
 aU prog 25 #[ay<|ae ⟨pb,0,af⟩,ag ah i,ag ah q] w fun e w'=>e=aT (aB true)/\Fr aP w w':=by
 obtain⟨x,hx⟩:=a.ps hi;obtain⟨ep,he⟩:=a.ep hi;have xX:=a.pg.ee i ep he;have NZ:=(a.pg.sn.valid.qL i).e1;have KP:=a.pg.sn.fB;have oh:i<s.g.ep.length:=(dM.1 he).1;obtain⟨eg,iI,dS,_⟩:=vN a.pa.ep (by omega);have yE:IntKind.i64.wrap (ep-1)=ep-1:=wrap_i64 (by omega) (by omega);have A:Hid (bH w B pb xb N s):=a;have HI:Hid ((i:Int)<s.h.P):=hi;have HU:Hid (s.h.up=false):=hu;have HE:Hid (s.g.ep[i]? =ae ep):=he;have kU:Hid (s.v.ev=aJ (ae ⟨eg,0,af⟩) s.g.ep.length iI):=dS;have HC:Hid (∀(V:aj) (e0:Int),Fr aP w V->aU prog 63 #[ay<|ae ⟨xb,0,af⟩,ag ah i,ag ah e0,ag ah q] V fun e w'=>e=aT (ag ah 5)/\V=w'):=fun V e0 f=>by
  have hb:=adh hu x e0;have wS:q<s.h.pl.length:=by
   have h2:s.h.Q=s.h.pl.length:=a.ha.hQ.1;omega
  have:=agz (ep:=e0) (a.ha.after f) hi wS hx (by rw[hb];decide);rw[hb]at this;exact this
 have zh:(i:Int)<(s.g.ep.length:Int):=by omega
 have uS:(0:Int)<=(i:Int):=by omega
 clear a hi hq hu hx he dS hN oh xX NZ KP;go_enter func25,ntmps25
 go_wp2_with fail
 refine(PQ A.o HI.o HU.o).mono ?_;rintro e w1 ⟨rfl,bM⟩;have F1:Hid (Fr aP w w1):=bM;clear bM;go_wp2_with fail
 have ZW:Hid (∃W:aj,W=w1.alloc (aC #[ag ah 0,ag ah 0,ag ah 0,aJ af 0 0,aJ af 0 0] 58)):=⟨_,rfl⟩;obtain⟨W1,eW⟩:=ZW.o;rw[<-eW];have iH:Hid (Fr aP w W1):=by subst eW;exact F1.o.trans (bG _) fun _ h=>h.elim
 clear ZW eW;obtain⟨d0,d5,de,d6,aI,oW⟩:=(A.o.after iH.o).uf kU.o HE.o;go_region_held3 (fun w'=>w'.cell? ⟨pb,0,af⟩=ae (ay<|ae ⟨xb,0,af⟩)/\w'.cell? ⟨pb,5,af⟩=ae (aJ (ae ⟨eg,0,af⟩) s.g.ep.length iI)/\w'.cell? ⟨eg,i,af⟩=ae (ag ah ep))
  (first|exact⟨d0,d5,de⟩|go_keep)
  ((go_at_call 63;with_reducible refine(HC.o _ (ep-1)<|iH.o.drew).mono ?_;rintro e w2 ⟨rfl,rfl⟩))
 go_wp2_with fail
 go_region_held3 (fun w'=>w'.cell? ⟨pb,0,af⟩=ae (ay<|ae ⟨xb,0,af⟩)/\w'.cell? ⟨pb,5,af⟩=ae (aJ (ae ⟨eg,0,af⟩) s.g.ep.length iI)/\w'.cell? ⟨eg,i,af⟩=ae (ag ah ep))
  (first|exact⟨d0,d5,de⟩|go_keep)
  ((go_at_call 63;with_reducible refine(HC.o _ ep<|(iH.o.drew).drew).mono ?_;rintro e w2 ⟨rfl,rfl⟩))
 go_wp2_with fail
 refine(PQ (A.o.after<|(iH.o.drew).drew) HI.o HU.o).mono ?_;rintro e w4 ⟨rfl,rZ⟩;have F4:Hid (Fr aP w w4):=((iH.o.drew).drew).trans rZ fun _ h=>h.elim;obtain⟨_,_,_,g6,aeY,_⟩:=(A.o.after F4.o).uf kU.o HE.o;have kE:s.g.dn=true:=by rw[A.o.pg.dn,HU.o];rfl
 rw[kE]at g6;clear rZ kE;go_wp2
 go_ret;exact⟨rfl,F4.o.trans (bG _) fun _ h=>h.elim⟩
def CX(w:aj)(B pb xb:Nat)(s:dB)(N:Nat)(R:dB->Prop)(e:Ending)(w':aj):Prop:=e=aT (aB true)/\∃s',bW w w' B pb xb s N s'/\R s'
structure avV(w w':aj)(B pb xb:Nat)(s:dB)(N:Nat):Prop where
 ex:∃s',bW w w' B pb xb s N s'
def kV(w:aj)(B pb xb:Nat)(s:dB)(N:Nat)(e:Ending)(w':aj):Prop:=e=aT (aB true)/\avV w w' B pb xb s N
def CX.done{R:dB->Prop}{e:Ending}(d:CX w B pb xb s N R e w'):kV w B pb xb s N e w':=⟨d.1,d.2.choose,d.2.choose_spec.1⟩
def avW(a:bH w B pb xb N s)(hN:N<=80000000){i q:Nat}(hi:(i:Int)<s.h.P)(hq:(q:Int)<s.h.Q):aU prog 25 #[ay<|ae ⟨pb,0,af⟩,ag ah i,ag ah q] w (kV w B pb xb s<|N+4):=by
 cases hu:s.h.up with
 |true=>exact(adm a hN hi hq hu).mono fun e w' ⟨h1,s',h2,_⟩=>⟨h1,s',h2⟩
 |false=>exact(avU a hN hi hq hu).mono fun e w' ⟨h1,h2⟩=>⟨h1,s,(bW.still a h2).mono<|by omega⟩
end
end
section
section
variable{w w':aj}{B pb xb N:Nat}{s:dB}
def vP(k p q m:Int)(ts:ByteArray)(fl:Bool):Value:=gY #[ag ah k,ag ah p,ag ah q,ag ah m,dA ts,aB fl]
def PU(a:bH w B pb xb N s):aU prog 36 #[ay<|ae ⟨xb,0,af⟩] w fun e w'=>e=aT (ag ah s.h.fl.length)/\Fr aP w w':=an1 a.ha
def ado(f:Nat):Prop:=∀{w:aj} {B pb xb N:Nat} {s:dB} {k:Nat} {m:Ms},bH w B pb xb N s->N<=90000000->s.h.fl[k]? =ae m->aU prog f #[ay<|ae ⟨xb,0,af⟩,ag ah k] w fun e w'=>e=aT (ag ah 0)/\∃s2,kK w w' B pb xb s (N+1) s2
def avX:ado 83:=fun a _ hk=>avQ a hk
def avY:ado 85:=fun a _ hk=>avR a hk
def ajR:ado 81:=fun a hN hk=>avS a hN hk
variable{ts:ByteArray}
def adp(a:bH w B pb xb N s)(hN:N<=80000000)(k p q m:Int)(hm:eP m)(fl:Bool)(hk:k=6\/k=7\/k=8):
 aU prog 109 #[ay<|ae ⟨pb,0,af⟩,vP k p q m ts fl] w (kV w B pb xb s<|N+21):=by
 have A:Hid (bH w B pb xb N s):=a;have fF:Hid (N<=80000000):=hN;have HM:Hid (eP m):=hm;obtain⟨c0,_⟩:=a.cells;have aI:=aX a.pa.blk;have BB:=a.pg.sn.fl;unfold vP;clear a hN hm;rcases hk with rfl|rfl|rfl
 ·go_enter func109,ntmps109
  go_wp2_with fail
  refine(PU<|A.o.after<|bG _).mono ?_;rintro e w1 ⟨rfl,bM⟩;have F1:Hid (Fr aP w w1):=(bG _).trans bM fun _ h=>h.elim;have BX:Hid (w1.heap[w.heap.size]? =ae (aC #[ag ah 6,ag ah p,ag ah q,ag ah m,dA ts,aB fl] 28 (0,0))):=(bM.block _ (by simp) id).trans<|aDY _ _;have d0:=(F1.o.cell (p:=⟨pb,0,af⟩) aI id).trans c0;have kY:pb<w1.heap.size:=fK aI F1.o.size;have b0:w1.cell? ⟨w.heap.size,0,af⟩=ae (ag ah 6):=aK BX.o 0;have b3:w1.cell? ⟨w.heap.size,3,af⟩=ae (ag ah m):=aK BX.o 3;clear bM;go_wp2_with fail
  go_loopw [5,6] (fun v iv w'=>v=ag ah s.h.fl.length/\iv=ag ah 0/\w'=w1) (fun _ _ _=>0)
  case atStart=>exact⟨rfl,rfl,rfl⟩
  case round=>
   obtain⟨rfl,rfl,rfl⟩:=hrel
   by_cases hz:0<s.h.fl.length
   ·have hzi:(0:Int)<(s.h.fl.length:Int):=by omega
    go_wp2_with fail
    refine(vO m HM.o (n:=20) (by omega) (by omega) _).mono ?_
    rintro e w2 ⟨zy,PW,rfl,rfl⟩
    have Dw:(0:Int)<=(zy:Int):=by omega
    go_wp2_with fail
    refine(vO m HM.o (n:=s.h.fl.length) (by omega) (by omega) _).mono ?_
    rintro e w2 ⟨kk,vT,rfl,rfl⟩
    go_wp2_with fail
    refine(ajR (A.o.after F1.o) (by have:=fF.o;omega)<|eY vT).mono ?_
    rintro e w3 ⟨rfl,s2,t3⟩
    have jQ:Hid (kV w B pb xb s (N+21) (aT<|aB true) w3):=⟨rfl,s2,(bW.behind F1.o t3.to).mono<|by omega⟩
    have e0:w3.cell? ⟨w.heap.size,0,af⟩=ae (ag ah 6):=aK ((t3.to.fr.block _ (aX BX.o)<|(A.o.after F1.o).zV BX.o<|by decide).trans BX.o) 0
    clear t3
    go_wp2
    go_ret
    exact jQ.o
   ·have iE:s.h.fl.length=0:=by omega
    have jQ:Hid (kV w B pb xb s (N+21) (aT<|aB true) wr):=⟨rfl,s,(bW.still A.o F1.o).mono<|by omega⟩
    rw[iE]
    go_wp2_with fail
    refine(vO m HM.o (n:=20) (by omega) (by omega) _).mono ?_
    rintro e w2 ⟨zy,PW,rfl,rfl⟩
    have Dw:(0:Int)<=(zy:Int):=by omega
    go_wp2
    go_ret
    exact jQ.o
 ·go_enter func109,ntmps109
  go_wp2_with fail
  refine(PU<|A.o.after<|bG _).mono ?_;rintro e w1 ⟨rfl,bM⟩;have F1:Hid (Fr aP w w1):=(bG _).trans bM fun _ h=>h.elim;have BX:Hid (w1.heap[w.heap.size]? =ae (aC #[ag ah 7,ag ah p,ag ah q,ag ah m,dA ts,aB fl] 28 (0,0))):=(bM.block _ (by simp) id).trans<|aDY _ _;have d0:=(F1.o.cell (p:=⟨pb,0,af⟩) aI id).trans c0;have kY:pb<w1.heap.size:=fK aI F1.o.size;have b0:w1.cell? ⟨w.heap.size,0,af⟩=ae (ag ah 7):=aK BX.o 0;have b3:w1.cell? ⟨w.heap.size,3,af⟩=ae (ag ah m):=aK BX.o 3;clear bM;go_wp2_with fail
  go_loopw [5,6] (fun v iv w'=>v=ag ah s.h.fl.length/\iv=ag ah 0/\w'=w1) (fun _ _ _=>0)
  case atStart=>exact⟨rfl,rfl,rfl⟩
  case round=>
   obtain⟨rfl,rfl,rfl⟩:=hrel
   by_cases hz:0<s.h.fl.length
   ·have hzi:(0:Int)<(s.h.fl.length:Int):=by omega
    go_wp2_with fail
    refine(vO m HM.o (n:=20) (by omega) (by omega) _).mono ?_
    rintro e w2 ⟨zy,PW,rfl,rfl⟩
    have Dw:(0:Int)<=(zy:Int):=by omega
    go_wp2_with fail
    refine(vO m HM.o (n:=s.h.fl.length) (by omega) (by omega) _).mono ?_
    rintro e w2 ⟨kk,vT,rfl,rfl⟩
    go_wp2_with fail
    refine(avX (A.o.after F1.o) (by have:=fF.o;omega)<|eY vT).mono ?_
    rintro e w3 ⟨rfl,s2,t3⟩
    have jQ:Hid (kV w B pb xb s (N+21) (aT<|aB true) w3):=⟨rfl,s2,(bW.behind F1.o t3.to).mono<|by omega⟩
    have e0:w3.cell? ⟨w.heap.size,0,af⟩=ae (ag ah 7):=aK ((t3.to.fr.block _ (aX BX.o)<|(A.o.after F1.o).zV BX.o<|by decide).trans BX.o) 0
    clear t3
    go_wp2
    go_ret
    exact jQ.o
   ·have iE:s.h.fl.length=0:=by omega
    have jQ:Hid (kV w B pb xb s (N+21) (aT<|aB true) wr):=⟨rfl,s,(bW.still A.o F1.o).mono<|by omega⟩
    rw[iE]
    go_wp2_with fail
    refine(vO m HM.o (n:=20) (by omega) (by omega) _).mono ?_
    rintro e w2 ⟨zy,PW,rfl,rfl⟩
    have Dw:(0:Int)<=(zy:Int):=by omega
    go_wp2
    go_ret
    exact jQ.o
 ·go_enter func109,ntmps109
  go_wp2_with fail
  refine(PU<|A.o.after<|bG _).mono ?_;rintro e w1 ⟨rfl,bM⟩;have F1:Hid (Fr aP w w1):=(bG _).trans bM fun _ h=>h.elim;have BX:Hid (w1.heap[w.heap.size]? =ae (aC #[ag ah 8,ag ah p,ag ah q,ag ah m,dA ts,aB fl] 28 (0,0))):=(bM.block _ (by simp) id).trans<|aDY _ _;have d0:=(F1.o.cell (p:=⟨pb,0,af⟩) aI id).trans c0;have kY:pb<w1.heap.size:=fK aI F1.o.size;have b0:w1.cell? ⟨w.heap.size,0,af⟩=ae (ag ah 8):=aK BX.o 0;have b3:w1.cell? ⟨w.heap.size,3,af⟩=ae (ag ah m):=aK BX.o 3;clear bM;go_wp2_with fail
  go_loopw [5,6] (fun v iv w'=>v=ag ah s.h.fl.length/\iv=ag ah 0/\w'=w1) (fun _ _ _=>0)
  case atStart=>exact⟨rfl,rfl,rfl⟩
  case round=>
   obtain⟨rfl,rfl,rfl⟩:=hrel
   by_cases hz:0<s.h.fl.length
   ·have hzi:(0:Int)<(s.h.fl.length:Int):=by omega
    go_wp2_with fail
    refine(vO m HM.o (n:=20) (by omega) (by omega) _).mono ?_
    rintro e w2 ⟨zy,PW,rfl,rfl⟩
    have Dw:(0:Int)<=(zy:Int):=by omega
    go_wp2_with fail
    refine(vO m HM.o (n:=s.h.fl.length) (by omega) (by omega) _).mono ?_
    rintro e w2 ⟨kk,vT,rfl,rfl⟩
    go_wp2_with fail
    refine(avY (A.o.after F1.o) (by have:=fF.o;omega)<|eY vT).mono ?_
    rintro e w3 ⟨rfl,s2,t3⟩
    have jQ:Hid (kV w B pb xb s (N+21) (aT<|aB true) w3):=⟨rfl,s2,(bW.behind F1.o t3.to).mono<|by omega⟩
    have e0:w3.cell? ⟨w.heap.size,0,af⟩=ae (ag ah 8):=aK ((t3.to.fr.block _ (aX BX.o)<|(A.o.after F1.o).zV BX.o<|by decide).trans BX.o) 0
    clear t3
    go_wp2
    go_ret
    exact jQ.o
   ·have iE:s.h.fl.length=0:=by omega
    have jQ:Hid (kV w B pb xb s (N+21) (aT<|aB true) wr):=⟨rfl,s,(bW.still A.o F1.o).mono<|by omega⟩
    rw[iE]
    go_wp2_with fail
    refine(vO m HM.o (n:=20) (by omega) (by omega) _).mono ?_
    rintro e w2 ⟨zy,PW,rfl,rfl⟩
    have Dw:(0:Int)<=(zy:Int):=by omega
    go_wp2
    go_ret
    exact jQ.o
def avZ(a:bH w B pb xb N s)(hN:N<=80000000)(p q m:Int)(hm:eP m)(fl:Bool):
 aU prog 109 #[ay<|ae ⟨pb,0,af⟩,vP 9 p q m ts fl] w (kV w B pb xb s<|N+21):=by
 have A:Hid (bH w B pb xb N s):=a;have fF:Hid (N<=80000000):=hN;have HM:Hid (eP m):=hm;obtain⟨c0,_⟩:=a.cells;have aI:=aX a.pa.blk;unfold vP;clear a hN hm;go_enter func109,ntmps109
 go_wp2_with fail
 refine(PU<|A.o.after<|bG _).mono ?_;rintro e w1 ⟨rfl,bM⟩;have F1:Hid (Fr aP w w1):=(bG _).trans bM fun _ h=>h.elim;have BX:Hid (w1.heap[w.heap.size]? =ae (aC #[ag ah 9,ag ah p,ag ah q,ag ah m,dA ts,aB fl] 28 (0,0))):=(bM.block _ (by simp) id).trans<|aDY _ _;clear bM;go_wp2_with fail
 go_loopw [5,6] (fun v iv w'=>∃(i:Nat) (s2:dB),v=ag ah s2.h.fl.length/\iv=ag ah i/\i<=20/\bW w w' B pb xb s (N+i) s2/\w'.heap[w.heap.size]? =ae (aC #[ag ah 9,ag ah p,ag ah q,ag ah m,dA ts,aB fl] 28 (0,0))) (fun _ iv _=>21-(fH iv).toNat)
 case atStart=>exact⟨0,s,rfl,rfl,by omega,bW.still A.o F1.o,BX.o⟩
 case round=>
  obtain⟨i,s2,rfl,rfl,aB3,t2,Z5⟩:=hrel
  have T2:Hid (bW w wr B pb xb s (N+i) s2):=t2
  have BX2:Hid (wr.heap[w.heap.size]? =ae (aC #[ag ah 9,ag ah p,ag ah q,ag ah m,dA ts,aB fl] 28 (0,0))):=Z5
  obtain⟨d0,_⟩:=t2.at_.cells
  have kY:=aX t2.at_.pa.blk
  have b0:wr.cell? ⟨w.heap.size,0,af⟩=ae (ag ah 9):=aK Z5 0
  have b3:wr.cell? ⟨w.heap.size,3,af⟩=ae (ag ah m):=aK Z5 3
  have BB:=t2.at_.pg.sn.fl
  have jQ:Hid (kV w B pb xb s (N+21) (aT<|aB true) wr):=⟨rfl,s2,t2.mono<|by omega⟩
  clear t2 Z5 c0 aI
  go_wp2_with fail
  refine(vO m HM.o (n:=20) (by omega) (by omega) _).mono ?_
  rintro e w2 ⟨zy,PW,rfl,rfl⟩
  by_cases hik:(i:Int)<=(zy:Int)
  ·by_cases hz:0<s2.h.fl.length
   ·have hzi:(0:Int)<(s2.h.fl.length:Int):=by omega
    go_wp2_with fail
    refine(ajR (k:=0) T2.o.at_ (by have:=fF.o;omega)<|eY hz).mono ?_
    rintro e w3 ⟨rfl,s3,t3⟩
    have T3:Hid (bW w w3 B pb xb s (N+i+1) s3):=T2.o.trans t3.to
    have TN:Hid (w3.heap[w.heap.size]? =ae (aC #[ag ah 9,ag ah p,ag ah q,ag ah m,dA ts,aB fl] 28 (0,0))):=(t3.to.fr.block _ (aX BX2.o)<|T2.o.at_.zV BX2.o<|by decide).trans BX2.o
    obtain⟨g0,_⟩:=t3.to.at_.cells
    have QG:=aX t3.to.at_.pa.blk
    have e0:w3.cell? ⟨w.heap.size,0,af⟩=ae (ag ah 9):=aK TN.o 0
    clear t3 d0 b0 b3 kY
    go_wp2_with fail
    refine(PU T3.o.at_).mono ?_
    rintro e w4 ⟨rfl,rZ⟩
    have T4:Hid (bW w w4 B pb xb s (N+i+1) s3):=T3.o.after rZ
    have BX4:Hid (w4.heap[w.heap.size]? =ae (aC #[ag ah 9,ag ah p,ag ah q,ag ah m,dA ts,aB fl] 28 (0,0))):=(rZ.block _ (aX TN.o) id).trans TN.o
    clear rZ g0 QG e0
    go_wp2_with fail
    go_roundw
    case rel=>exact⟨i+1,s3,rfl,by go_num,by omega,T4.o,BX4.o⟩
    case measure=>simp[fH]<;>omega
   ·have iE:((s2.h.fl.length:Nat):Int)=0:=by omega
    rw[iE]
    go_wp2
    go_ret
    exact jQ.o
  ·go_wp2
   go_ret
   exact jQ.o
end
end
section
def av2{w:aj}{va vb:az}{ra t:List Rec}(ha:E6 w va ra)(hb:E6 w vb (ra++t)):
 aU prog 58 #[va,vb] w fun e w'=>e=aT (aB true)/\∃q,w'=w.drewN q:=by
 have HA:Hid (E6 w va ra):=ha;obtain⟨a1,c1,e1,o6⟩:∃a1 c1,va=.slice a1 ra.length c1/\ra.length<=maxLen:=by
  rcases ha with⟨rfl,rfl⟩|⟨g,cap,rfl,h1,h2,_⟩
  ·exact⟨af,0,rfl,mi _⟩
  ·exact⟨_,_,rfl,eG h1 h2⟩
 subst e1;unfold dU at o6;rcases hb with⟨rfl,h0⟩|⟨g,cap,rfl,h1,h2,h3⟩
 ·obtain⟨rfl,rfl⟩:=List.append_eq_nil_iff.1 h0;have HB:Hid (E6 w (aJ af 0 0) []):=.inl ⟨rfl,rfl⟩;clear ha h0;go_enter func58,ntmps58
  go_wp2_with (go_at_call 98;refine(afD HA.o HB.o).mono ?_;rintro e w1 ⟨rfl,q,rfl⟩)
  go_ret;exact⟨rfl,q,rfl⟩
 ·have HB:Hid (E6 w (aJ (ae ⟨g,0,af⟩) ra.length cap) ra):=.inr ⟨g,cap,rfl,by simp at h1;omega,h2,fun k r hk=>h3 k r (by rw[uz (dM.1 hk).1];exact hk)⟩;have hl:(ra++t).length=ra.length+t.length:=by simp
  rw[hl]at h1⊢
  unfold dU at h2;have hi:(0:Int)<=(ra.length:Int):=Int.natCast_nonneg _;have hj:(ra.length:Int)<=(cap:Int):=by omega
  clear ha h3 hl;go_enter func58,ntmps58
  go_wp2_with (go_at_call 98;refine(afD HA.o HB.o).mono ?_;rintro e w1 ⟨rfl,q,rfl⟩)
  go_ret;exact⟨rfl,q,rfl⟩
def oZ(fa:List Fa)(q:Nat)(l:List Wn):List Wn:=l.filter fun w=>decide (w.q=(q:Int))&&decide (jI fa w.p w.t=1)
def ajS(fa:List Fa)(q:Nat)(l:List Wn)(x:Wn):oZ fa q (l++[x])=oZ fa q l++if x.q=(q:Int)/\jI fa x.p x.t=1 then[x]else[]:=by
 unfold oZ;rw[zD];congr 1;by_cases h1:x.q=(q:Int)<;>by_cases h2:jI fa x.p x.t=1<;>simp[h1,h2]
variable{fa:List Fa}{q:Nat}{l:List Rec}
def av3{wr:List Wn}{rest:List (Int×ByteArray)}(hf:(oZ fa q wr).map (fun w=>(w.p,w.s))=l.map (fun r=>(r.p,r.s))++rest){k:Nat}{x:Wn}(hk:wr[k]? =ae x)(hx:x.q=(q:Int)/\jI fa x.p x.t=1){r:Rec}(hr:l[(oZ fa q<|wr.take k).length]? =ae r):r.p=x.p/\r.s=x.s:=by
 have h1:oZ fa q (wr.take<|k+1)=oZ fa q (wr.take k)++[x]:=by
  rw[AP,hk,EX,ajS,if_pos hx]
 have h2:oZ fa q wr=oZ fa q (wr.take<|k+1)++oZ fa q (wr.drop<|k+1):=by
  unfold oZ;rw[<-zD,aag]
 have h3:((oZ fa q wr).map fun w=>(w.p,w.s))[(oZ fa q<|wr.take k).length]? =ae (x.p,x.s):=by
  rw[h2,h1,Oe,Oe,AQ,xC<|by simp,EZ,Nat.sub_self];rfl
 rw[hf,uz (by rw[EZ];exact(dM.1 hr).1),afg,hr]at h3;simp only[GM,gu,uD]at h3;exact h3
def ajT{wr:List Wn}{rest:List (Int×ByteArray)}(hf:(oZ fa q wr).map (fun w=>(w.p,w.s))=l.map (fun r=>(r.p,r.s))++rest):l.length<=(oZ fa q wr).length:=by
 have:=fG List.length hf;simp only[EZ,iV]at this;omega
end
section
section
variable{w w':aj}{B pb xb N:Nat}{s:dB}
variable{i:Nat}{x:PS}{ep:Int}
def av4(a:bH w B pb xb N s)(hi:(i:Int)<s.h.P)(hu:s.h.up=true)(hx:s.h.ps[i]? =ae x)(he:s.g.ep[i]? =ae ep)(hs:x.s=0\/x.s=2\/x.s=3)(c:Bool):
 aU prog 28 #[ay<|ae ⟨xb,0,af⟩,ag ah i,ag ah ep,aB c] w fun e w'=>e=aT (.int .i64<|if x.s=0 then 8 else 9)/\w=w':=by
 obtain⟨e1,e2,_⟩:=a.CW hu hx he;have hb:s.h.bars x ep=0:=by
  unfold HS.bars;rw[hu,if_neg<|by simp,if_neg<|by omega]
 by_cases h0:x.s=0
 ·rw[if_pos h0];exact aoS a.ha hi hx hb h0 c
 ·rw[if_neg h0];exact aoT a.ha hi hx hb (by omega) c
def av5(a:bH w B pb xb N s)(hi:(i:Int)<s.h.P)(hu:s.h.up=true)(hx:s.h.ps[i]? =ae x)(he:s.g.ep[i]? =ae ep)(c:Bool):
 aU prog 28 #[ay<|ae ⟨xb,0,af⟩,ag ah i,.int .i64<|ep-1,aB c] w fun e w'=>e=aT (ag ah 7)/\w=w':=by
 have hb:=adg a hu hx he;have:=agw (ep:=ep-1) a.ha hi hx (by rw[hb];decide) c;rw[hb]at this;exact this
end
end
section
section
variable{w w1 w2 w3 w':aj}{B pb xb N M:Nat}{s s1 s3 s':dB}
def bW.mid{n1 n':Nat}{h':HS}{L':List Rc}(t1:bW w w1 B pb xb s N s1)(m:bU w1 w2 B xb n1 s1.h n' h')(t2:bW w2 w3 B pb xb ⟨h',L',s1.g,s1.v⟩ M s3)(hc:h'.P=s1.h.P/\h'.Q=s1.h.Q/\h'.T=s1.h.T/\h'.K=s1.h.K):bW w w3 B pb xb s M s3:=by
 have av6:∀k,(⟨h',L',s1.g,s1.v⟩:dB).fA pb xb k->s1.fA pb xb k\/w1.heap.size<=k:=fun k hk=>by
  rcases hk with hk|hk
  ·exact(m.sub k hk).imp .inl id
  ·exact .inl<|.inr hk
 have ajU:∀k,(⟨h',L',s1.g,s1.v⟩:dB).fA pb xb k->s.fA pb xb k\/w.heap.size<=k:=fun k hk=>by
  rcases av6 k hk with e|e
  ·exact t1.sub k e
  ·exact .inr<|eG t1.fr.size e
 have f2:Fr (s.fA pb xb) w w2:=t1.fr.trans m.fr fun k e=>t1.sub k<|.inl e;refine⟨t2.at_,f2.trans t2.fr fun k e=>ajU k e,fun k hk=>?_,⟨t2.cf.1.trans<|hc.1.trans t1.cf.1,t2.cf.2.1.trans<|hc.2.1.trans t1.cf.2.1,t2.cf.2.2.1.trans<|hc.2.2.1.trans t1.cf.2.2.1,t2.cf.2.2.2.trans<|hc.2.2.2.trans t1.cf.2.2.2⟩⟩;rcases t2.sub k hk with e|e
 ·exact ajU k e
 ·exact .inr<|eG f2.size e
structure xY(w w':aj)(B xb N:Nat)(h:HS)(L:List Rc)(r:Rc)(h':HS):Prop where
 mv:bU w w' B xb N h N h'
 sn:Sn (N+1) h' (L++[r])
 pl:h'.pl=h.pl
 up:h'.up=h.up
 cf:h'.P=h.P/\h'.Q=h.Q/\h'.T=h.T/\h'.K=h.K
 wo:jH h r true h'
structure PY(s:dB)(i:Nat)(x:PS)(cm:Bool)(s':dB):Prop where
 wr:s'.g.wr=s.g.wr
 Ei:qF i s.h s'.h
 me:∃x',s'.h.ps[i]? =ae x'/\x'.s=(if cm then 2 else 3)/\x'.wa=1
 dec:gm s'.L i x.t cm
variable{i:Nat}{x:PS}{cm:Bool}{h':HS}
def xY.f{L:List Rc}{fa:List Fa}{v:PV}{s:dB}(en:xY w w' B xb N s.h L ⟨3,i,if cm then 1 else 0,x.t⟩ h')(hx:s.h.ps[i]? =ae x):PY s i x cm ⟨h',s.L++[⟨3,i,if cm then 1 else 0,x.t⟩],{s.g with fa:=fa},v⟩:=
 ⟨rfl,qF.wrote rfl en.wo,⟨_,Ws hx rfl en.wo,by cases cm<;>simp[PS.bY],by simp[PS.bY]⟩,⟨⟨3,i,if cm then 1 else 0,x.t⟩,aah _<|oN.2 rfl,rfl,rfl,rfl,rfl⟩⟩
def av7(a:bH w B pb xb N s)(hN:N<=90000000)(hi:(i:Int)<s.h.P)(hu:s.h.up=true)(hx:s.h.ps[i]? =ae x){ep:Int}(he:s.g.ep[i]? =ae ep)(hs:x.s=1)(c:Bool):
 aU prog 28 #[ay<|ae ⟨xb,0,af⟩,ag ah i,ag ah ep,aB c] w fun e w'=>e=aT (ag ah 0)/\∃h',xY w w' B xb N s.h s.L ⟨3,i,if c then 1 else 0,x.t⟩ h':=by
 obtain⟨e1,e2,_⟩:=a.CW hu hx he;have hb:s.h.bars x ep=0:=by
  unfold HS.bars;rw[hu,if_neg<|by simp,if_neg<|by omega]
 have hn:=a.pg.sn.TF hu hi hx hs (a:=if c then 1 else 0) (by cases c<;>simp);refine(agx a.ha hi hx hb hs c<|a.pg.sn.may (by omega) hn).mono fun e w' h=>?_;cases h with
 |ok ho hm=>
  obtain⟨_,sn,jv,rfl⟩:=a.pg.sn.LC hu hn (fun e=>by simp at e) ho;exact⟨rfl,_,hm,sn,rfl,rfl,⟨rfl,rfl,rfl,rfl⟩,ho⟩
 |ru ho hm=>
  have:=(a.pg.sn.LC hu hn (fun e=>by simp at e) ho).1;cases this
def ajV{W W3 w5:aj}{iZ:az}{t:Int}(a:bH W B pb xb N s)(en:xY W.drew.drew W3 B xb N s.h s.L ⟨3,i,if cm then 1 else 0,t⟩ h')(b:gQ W3 B pb xb s.h s.g s.v)(_:(i:Int)<s.h.P){V:aj}(hW:Fr aP W3 V)(hg:V.grownBy w5 s.v.fv.ownBlock)(iO:w5.ownsRow B 114 3 iZ (s.g.fa.length+1) (s.g.fa.flatMap Fa.cs++Fa.cs ⟨i,t,if cm then 1 else 2⟩))(dX:∀k,iZ.ownBlock=ae k->s.v.fv.ownBlock=ae k\/W3.heap.size<=k):
 bW W3 (w5.setCell ⟨pb,8,af⟩ iZ) B pb xb ⟨h',s.L,s.g,s.v⟩ (N+1) ⟨h',s.L++[⟨3,i,if cm then 1 else 0,t⟩],{s.g with fa:=s.g.fa++[⟨i,t,if cm then 1 else 2⟩]},{s.v with fv:=iZ}⟩:=by
 have b':gQ W3 B pb xb h' s.g s.v:=by
  refine⟨?_,b.ep,b.wr,b.fa,b.gt,b.gl,b.rc,b.st,b.ap,b.hb⟩;rw[en.cf.1,en.cf.2.1,en.cf.2.2.1,en.cf.2.2.2];exact b.blk
 exact ajI (s:=⟨h',s.L,s.g,s.v⟩) en.mv.at_ (by show iP h'.pl;rw[en.pl];exact a.ax) b' a.wr a.fa (by omega) hW hg iO dX<|a.pg.ended en.sn en.cf.1 en.up en.pl
def ajW(a:bH w B pb xb N s)(hN:N<=80000000)(hi:(i:Int)<s.h.P)(hu:s.h.up=true)(cm:Bool)(di:∀x,s.h.ps[i]? =ae x->x.s=0\/x.s=1\/x.s=2\/x.s=3):
 aU prog 62 #[ay<|ae ⟨pb,0,af⟩,ag ah i,aB cm] w (CX w B pb xb s (N+4) fun s'=>∀x,s.h.ps[i]? =ae x->x.s=1->PY s i x cm s'):=by
 obtain⟨i0,dR,iE,gG,iU⟩:=aEd ajH;obtain⟨x,hx⟩:=a.ps hi;obtain⟨ep,he⟩:=a.ep hi;obtain⟨e1,e2,e3⟩:=a.CW hu hx he;have oh:i<s.g.ep.length:=(dM.1 he).1;obtain⟨eg,iI,dS,_⟩:=vN a.pa.ep (by omega);have A:Hid (bH w B pb xb N s):=a;have fF:Hid (N<=80000000):=hN;have HI:Hid ((i:Int)<s.h.P):=hi;have HU:Hid (s.h.up=true):=hu;have HX:Hid (s.h.ps[i]? =ae x):=hx;have HE:Hid (s.g.ep[i]? =ae ep):=he;have kU:Hid (s.v.ev=aJ (ae ⟨eg,0,af⟩) s.g.ep.length iI):=dS;have zh:(i:Int)<(s.g.ep.length:Int):=by omega
 have uS:(0:Int)<=(i:Int):=by omega
 have hep:ep<=80000000:=by omega
 have yE:IntKind.i64.wrap (ep-1)=ep-1:=wrap_i64 (by omega) (by omega);have ML:Hid (x.s=0\/x.s=1\/x.s=2\/x.s=3):=di x hx;clear a hi hu hx he dS hN e1 e3 oh di;go_enter func62,ntmps62
 go_wp2_with fail
 refine(Iq A.o (by have:=fF.o;omega) HI.o HU.o HX.o).mono ?_;rintro e w1 ⟨n1,n2,t1⟩;rename_i va vb gB eX;obtain⟨aa,ac,rfl,_⟩:=kR n1;obtain⟨ba,bc,rfl,_⟩:=kR n2;have T1:Hid (bW w w1 B pb xb s (N+1)<|s.fD eX gB):=t1;generalize AA:(bI x.aZ 1 4).length=l1;generalize BL:(bI x.aZ 2 4).length=l2;clear n1 n2 t1 AA BL;go_wp2_with fail
 have ZW:Hid (∃W:aj,W=w1.alloc (aC #[ag ah x.e,ag ah x.t,ag ah x.s,.slice aa l1 ac,.slice ba l2 bc] 58)):=⟨_,rfl⟩;obtain⟨W1,eW⟩:=ZW.o;rw[<-eW];have iH:Hid (Fr aP w1 W1):=by subst eW;exact bG _
 have X1:Hid (W1.heap[w1.heap.size]? =ae (aC #[ag ah x.e,ag ah x.t,ag ah x.s,.slice aa l1 ac,.slice ba l2 bc] 58 (0,0))):=by subst eW;exact aDY _ _
 have lH:Hid (bH W1 B pb xb (N+1)<|s.fD eX gB):=T1.o.at_.after iH.o;clear ZW eW;obtain⟨d0,d5,de,d6,aI,oW⟩:=lH.o.uf kU.o HE.o;have HC:Hid (∀(V:aj) (c:Bool),Fr aP W1 V->aU prog 28 #[ay<|ae ⟨xb,0,af⟩,ag ah i,.int .i64<|ep-1,aB c] V fun e w'=>e=aT (ag ah 7)/\V=w'):=fun V c f=>av5 (lH.o.after f) HI.o HU.o HX.o HE.o c;go_region_held3 (fun w'=>w'.cell? ⟨pb,0,af⟩=ae (ay<|ae ⟨xb,0,af⟩)/\w'.cell? ⟨pb,5,af⟩=ae (aJ (ae ⟨eg,0,af⟩) s.g.ep.length iI)/\w'.cell? ⟨eg,i,af⟩=ae (ag ah ep))
  (first|exact⟨d0,d5,de⟩|go_keep)
  ((go_at_call 28;with_reducible refine(HC.o _ _<|(Fr.refl _ _).drew).mono ?_;rintro e w2 ⟨rfl,rfl⟩))
 go_wp2_with fail
 by_cases h1:x.s=1
 ·have zA:Hid (x.s=1):=h1;have sV:Hid (∀(V:aj) (c:Bool),Fr aP W1 V->aU prog 28 #[ay<|ae ⟨xb,0,af⟩,ag ah i,ag ah ep,aB c] V fun e w'=>e=aT (ag ah 0)/\∃h',xY V w' B xb (N+1) s.h s.L ⟨3,i,if c then 1 else 0,x.t⟩ h'):=fun V c f=>av7 (lH.o.after f) (by have:=fF.o;omega) HI.o HU.o HX.o HE.o zA.o c;go_region_held3 (fun w'=>w'.cell? ⟨pb,0,af⟩=ae (ay<|ae ⟨xb,0,af⟩)/\w'.cell? ⟨pb,5,af⟩=ae (aJ (ae ⟨eg,0,af⟩) s.g.ep.length iI)/\w'.cell? ⟨eg,i,af⟩=ae (ag ah ep))
   (first|with_reducible exact C3|exact⟨d0,d5,de⟩|go_keep)
   ((go_at_call 28;with_reducible refine(sV.o _ _<|((Fr.refl _ _).drew).drew).mono ?_;rintro e w3 ⟨rfl,h3,en⟩
     have EN:Hid (xY W1.drew.drew w3 B xb (N+1) s.h s.L ⟨3,i,if cm then 1 else 0,x.t⟩ h3):=en
     have p3:gQ w3 B pb xb s.h (s.fD eX gB).g (s.fD eX gB).v:=((lH.o.after<|((Fr.refl _ _).drew).drew).pa).stay en.mv.fr fun k e hf=>(lH.o.after<|((Fr.refl _ _).drew).drew).ha.off (lH.o.after<|((Fr.refl _ _).drew).drew).pa e hf
     have P3:Hid (gQ w3 B pb xb s.h (s.fD eX gB).g (s.fD eX gB).v):=p3
     have C3:w3.cell? ⟨pb,0,af⟩=ae (ay<|ae ⟨xb,0,af⟩)/\w3.cell? ⟨pb,5,af⟩=ae (aJ (ae ⟨eg,0,af⟩) s.g.ep.length iI)/\w3.cell? ⟨eg,i,af⟩=ae (ag ah ep):=⟨aK p3.blk 0,(aK p3.blk 5).trans (by rw[<-kU.o];rfl),yH (by have:=p3.ep;rw[show(s.fD eX gB).v.ev=aJ (ae ⟨eg,0,af⟩) s.g.ep.length iI from kU.o]at this;exact this) HE.o⟩
     clear en p3))
  have kE:(s.fD eX gB).g.dn=false:=by
   show s.g.dn=false;rw[A.o.pg.dn,HU.o];rfl
  have g6:w3.cell? ⟨pb,6,af⟩=ae (aB false):=by rw[<-kE];exact aK P3.o.blk 6
  have X3:Hid (w3.heap[w1.heap.size]? =ae (aC #[ag ah x.e,ag ah x.t,ag ah x.s,.slice aa l1 ac,.slice ba l2 bc] 58 (0,0))):=(EN.o.mv.fr.block _ (aX X1.o) fun e=>(lH.o.after<|((Fr.refl _ _).drew).drew).zV (show W1.drew.drew.heap[w1.heap.size]? =_ from X1.o) (by decide)<|.inl e).trans X1.o;have uk:pb<w3.heap.size:=aX P3.o.blk;have l7:w1.heap.size<w3.heap.size:=aX X3.o;clear HC sV kE d0 d5 de d6 C3;obtain⟨xe,xt,xs,xa,wU,xc,xd,xi,xw,xg⟩:=x;have hs:=zA.o;simp only at hs;subst hs;have y1:w3.cell? ⟨w1.heap.size,1,af⟩=ae (ag ah xt):=aK X3.o 1;have y2:w3.cell? ⟨w1.heap.size,2,af⟩=ae (ag ah 1):=aK X3.o 2;obtain⟨fa,fc,pz,_⟩:=pq P3.o.fa;have Ef:Hid ((s.fD eX gB).v.fv=.slice fa eX.length fc):=pz;have zW:Hid (w3.ownsRow B 114 3 (.slice fa eX.length fc) eX.length<|eX.flatMap Fa.cs):=by have:=P3.o.fa;rw[pz]at this;exact this
  have q8:w3.cell? ⟨pb,8,af⟩=ae (.slice fa eX.length fc):=(aK P3.o.blk 8).trans<|fG ae pz;have dh:Value.ownBlock (.slice fa eX.length fc)≠ae pb:=GY zW.o P3.o.blk (by decide);have f8:w3.frozen? ⟨pb,8,af⟩=false:=jS P3.o.blk 8;have f9:∀o,(w3.alloc o).frozen? ⟨pb,8,af⟩=false:=fun o=>(KZ uk o).trans f8;have BB:Hid (eX.length<=N+1):=lH.o.fa;clear pz zA ML h1;cases cm;all_goals
   go_wp2_with fail
   go_region_law
    ((refine aEt _ (by rfl) _ _ _ (by rfl) B 114 i0 _ 3 24 underlying45 dR iE gG iU rfl (by omega) (.slice fa eX.length fc) eX.length (eX.flatMap Fa.cs) (by rfl) (by first|exact(((Fr.refl (fun _=>False) w3).alloc _).drew).ownsRow zW.o (fun _ _=>id)|exact(((Fr.refl (fun _=>False) w3).drew).alloc _).ownsRow zW.o fun _ _=>id)
       ⟨w3.heap.size,0,af⟩ 1 1 [ag ah i,ag ah xt,_] (by rfl) (by rfl) (aD7 (cs:=#[ag ah i,ag ah xt,_]) (t:=114) (fr:=(0,0)) (by first|exact aDY _ _|exact QQ _ _ _)) (by simp[Value.oneCell'])
       (by omega) (by have:=fF.o;have:=BB.out;simp only[dU];omega) (by have:=fF.o;have:=BB.out;omega) (by have:=P3.o.hb;simp<;>omega) (w3.heap.size+1) (by simp) ?_;intro gg cap w5 pY mO vk En;have k0:=(mO.cell_far ⟨pb,8,af⟩ (by simp<;>omega)<|iW dh);have k1:=(mO.frozen_far ⟨pb,8,af⟩ (by simp<;>omega)<|iW dh);simp only[World.cell?_drew,World.frozen?_drew,f9]at k0 k1))
   all_goals
    have I9:∀k,Value.ownBlock (aJ (ae ⟨gg,0,af⟩) (eX.length+1) cap)=ae k->(s.fD eX gB).v.fv.ownBlock=ae k\/w3.heap.size<=k:=fun k hk=>by
     rw[Ef.o];simp only[Value.ownBlock,gu]at hk;subst hk;rcases vk with h1|h1
     ·exact .inl h1
     ·exact .inr<|by omega
    have G3:∃V,Fr aP w3 V/\V.grownBy w5 (Value.ownBlock<|.slice fa eX.length fc):=⟨_,by first|exact((Fr.refl _ _).alloc _).drew|exact((Fr.refl _ _).drew).alloc _,mO⟩
    obtain⟨V,fV,gV⟩:=G3
    first
     |have TO:=ajV lH.o (cm:=false) EN.o P3.o HI.o fV (by rw[Ef.o];exact gV) pY I9
     |have TO:=ajV lH.o (cm:=true) EN.o P3.o HI.o fV (by rw[Ef.o];exact gV) pY I9
    clear pY mO vk En k0 k1 I9 fV gV
    generalize w5.setCell ⟨pb,8,af⟩ (aJ (ae ⟨gg,0,af⟩) (eX.length+1) cap)=W4 at TO⊢
    generalize(Value.slice (ae ⟨gg,0,af⟩) (eX.length+1) cap)=FN at TO
    have T4:Hid _:=TO
    clear TO
    go_wp2_with fail
    obtain⟨x4,hx4⟩:=T4.o.at_.ps (i:=i) (show(i:Int)<h3.P by rw[EN.o.cf.1];exact HI.o)
    refine(Iq T4.o.at_ (by have:=fF.o;omega) (show(i:Int)<h3.P by rw[EN.o.cf.1];exact HI.o) (show h3.up=true by rw[EN.o.up];exact HU.o) hx4).mono ?_
    rintro e w6 ⟨n1,n2,t6⟩
    rename_i va vb fv6 fa6
    obtain⟨ca,cc,rfl,_⟩:=kR n1
    obtain⟨da,dc,rfl,_⟩:=kR n2
    have jQ:Hid (∀V,Fr aP w6 V->CX w B pb xb s (N+4) (fun s'=>∀x,s.h.ps[i]? =ae x->x.s=1->PY s i x _ s') (aT<|aB true) V):=fun V f=>⟨rfl,_,(((T1.o.after iH.o).after<|((Fr.refl _ _).drew).drew).mid EN.o.mv ((T4.o.trans t6).after f) EN.o.cf).mono<|by omega,fun y hy _=>by rw[HX.o]at hy;cases hy;first|exact xY.f (cm:=false) (s:=s) EN.o HX.o|exact xY.f (cm:=true) (s:=s) EN.o HX.o⟩
    clear n1 n2 t6 hx4
    generalize(bI x4.aZ 1 4).length=m1
    generalize(bI x4.aZ 2 4).length=m2
    go_wp2
    go_ret
    exact jQ.o _<|bG _
 ·have zA:Hid (x.s=0\/x.s=2\/x.s=3):=(by have:=ML.o;omega:x.s=0\/x.s=2\/x.s=3);obtain⟨code,ae0⟩:∃code:Int,code=(if x.s=0 then 8 else 9):=⟨_,rfl⟩;have HCD:Hid (code=(if x.s=0 then 8 else 9)):=ae0;have sV:Hid (∀(V:aj) (c:Bool),Fr aP W1 V->aU prog 28 #[ay<|ae ⟨xb,0,af⟩,ag ah i,ag ah ep,aB c] V fun e w'=>e=aT (ag ah code)/\V=w'):=fun V c f=>by
   have:=av4 (lH.o.after f) HI.o HU.o HX.o HE.o zA.o c;rw[<-ae0]at this;exact this
  clear ae0;go_region_held3 (fun w'=>w'.cell? ⟨pb,0,af⟩=ae (ay<|ae ⟨xb,0,af⟩)/\w'.cell? ⟨pb,5,af⟩=ae (aJ (ae ⟨eg,0,af⟩) s.g.ep.length iI)/\w'.cell? ⟨eg,i,af⟩=ae (ag ah ep))
   (first|exact⟨d0,d5,de⟩|go_keep)
   ((go_at_call 28;with_reducible refine(sV.o _ _<|((Fr.refl _ _).drew).drew).mono ?_;rintro e w2 ⟨rfl,rfl⟩))
  have kE:(s.fD eX gB).g.dn=false:=by
   show s.g.dn=false;rw[A.o.pg.dn,HU.o];rfl
  rw[kE]at d6;have y2:W1.cell? ⟨w1.heap.size,2,af⟩=ae (ag ah x.s):=aK X1.o 2;have jQ:Hid (∀V,Fr aP W1 V->CX w B pb xb s (N+4) (fun s'=>∀x,s.h.ps[i]? =ae x->x.s=1->PY s i x cm s') (aT<|aB true) V):=fun V f=>⟨rfl,_,((T1.o.after iH.o).after f).mono<|by omega,fun y hy h=>by rw[HX.o]at hy;cases hy;have:=zA.o;omega⟩;clear HC sV kE ML h1;obtain⟨xe,xt,xs,xa,wU,xc,xd,xi,xw,xg⟩:=x;have hs:=zA.o;simp only at hs y2;clear zA;have hc:=HCD.o;clear HCD;simp only at hc;rcases hs with hs|hs|hs<;>subst hs<;>simp only[show((2:Int)=0)=False by decide,show((3:Int)=0)=False by decide,if_true,kQ]at hc<;>subst hc<;>go_wp2<;>go_ret<;>exact jQ.o _<|((Fr.refl _ _).drew).drew
end
end
section
section
variable{w w':aj}{B pb xb N:Nat}{s:dB}
def av8(a:bH w B pb xb N s)(hN:N<=80000000){i:Nat}(hi:(i:Int)<s.h.P)(cm:Bool)(hu:s.h.up=false):
 aU prog 62 #[ay<|ae ⟨pb,0,af⟩,ag ah i,aB cm] w fun e w'=>e=aT (aB true)/\Fr aP w w':=by
 obtain⟨x,hx⟩:=a.ps hi;obtain⟨ep,he⟩:=a.ep hi;have xX:=a.pg.ee i ep he;have NZ:=(a.pg.sn.valid.qL i).e1;have KP:=a.pg.sn.fB;have oh:i<s.g.ep.length:=(dM.1 he).1;obtain⟨eg,iI,dS,_⟩:=vN a.pa.ep (by omega);have yE:IntKind.i64.wrap (ep-1)=ep-1:=wrap_i64 (by omega) (by omega);have A:Hid (bH w B pb xb N s):=a;have HI:Hid ((i:Int)<s.h.P):=hi;have HU:Hid (s.h.up=false):=hu;have HE:Hid (s.g.ep[i]? =ae ep):=he;have kU:Hid (s.v.ev=aJ (ae ⟨eg,0,af⟩) s.g.ep.length iI):=dS;have HC:Hid (∀(V:aj) (e0:Int) (c:Bool),Fr aP w V->aU prog 28 #[ay<|ae ⟨xb,0,af⟩,ag ah i,ag ah e0,aB c] V fun e w'=>e=aT (ag ah 5)/\V=w'):=fun V e0 c f=>by
  have hb:=adh hu x e0;have:=agw (ep:=e0) (a.ha.after f) hi hx (by rw[hb];decide) c;rw[hb]at this;exact this
 have zh:(i:Int)<(s.g.ep.length:Int):=by omega
 have uS:(0:Int)<=(i:Int):=by omega
 clear a hi hu hx he dS hN oh xX NZ KP;go_enter func62,ntmps62
 go_wp2_with fail
 refine(PQ A.o HI.o HU.o).mono ?_;rintro e w1 ⟨rfl,bM⟩;have F1:Hid (Fr aP w w1):=bM;clear bM;go_wp2_with fail
 have ZW:Hid (∃W:aj,W=w1.alloc (aC #[ag ah 0,ag ah 0,ag ah 0,aJ af 0 0,aJ af 0 0] 58)):=⟨_,rfl⟩;obtain⟨W1,eW⟩:=ZW.o;rw[<-eW];have iH:Hid (Fr aP w W1):=by subst eW;exact F1.o.trans (bG _) fun _ h=>h.elim
 clear ZW eW;obtain⟨d0,d5,de,d6,aI,oW⟩:=(A.o.after iH.o).uf kU.o HE.o;go_region_held3 (fun w'=>w'.cell? ⟨pb,0,af⟩=ae (ay<|ae ⟨xb,0,af⟩)/\w'.cell? ⟨pb,5,af⟩=ae (aJ (ae ⟨eg,0,af⟩) s.g.ep.length iI)/\w'.cell? ⟨eg,i,af⟩=ae (ag ah ep))
  (first|exact⟨d0,d5,de⟩|go_keep)
  ((go_at_call 28;with_reducible refine(HC.o _ (ep-1) _<|iH.o.drew).mono ?_;rintro e w2 ⟨rfl,rfl⟩))
 go_wp2_with fail
 go_region_held3 (fun w'=>w'.cell? ⟨pb,0,af⟩=ae (ay<|ae ⟨xb,0,af⟩)/\w'.cell? ⟨pb,5,af⟩=ae (aJ (ae ⟨eg,0,af⟩) s.g.ep.length iI)/\w'.cell? ⟨eg,i,af⟩=ae (ag ah ep))
  (first|exact⟨d0,d5,de⟩|go_keep)
  ((go_at_call 28;with_reducible refine(HC.o _ ep _<|(iH.o.drew).drew).mono ?_;rintro e w2 ⟨rfl,rfl⟩))
 have kE:s.g.dn=true:=by rw[A.o.pg.dn,HU.o];rfl
 rw[kE]at d6;clear kE;go_wp2
 go_ret;exact⟨rfl,(iH.o.drew).drew⟩
def av9(a:bH w B pb xb N s)(hN:N<=80000000){i:Nat}(hi:(i:Int)<s.h.P)(cm:Bool):aU prog 62 #[ay<|ae ⟨pb,0,af⟩,ag ah i,aB cm] w (kV w B pb xb s<|N+4):=by
 cases hu:s.h.up with
 |true=>
  obtain⟨x,hx⟩:=a.ps hi;have k:=(a.pg.sn.up hu i x hx).k;have f:=a.pg.sn.valid.qL i;have s0:=f.s0;have s1:=f.s1;rw[<-k.s]at s0 s1;exact(ajW a hN hi hu cm fun y hy=>by rw[hx]at hy;cases hy;omega).mono fun _ _ d=>d.done
 |false=>exact(av8 a hN hi cm hu).mono fun e w' ⟨h1,h2⟩=>⟨h1,s,(bW.still a h2).mono<|by omega⟩
end
end
section
section
variable{w w':aj}{B pb xb N:Nat}{s:dB}
variable{i:Nat}{x:PS}
def awc(a:bH w B pb xb N s)(hN:N<=90000000)(hi:(i:Int)<s.h.P)(hu:s.h.up=true)(hx:s.h.ps[i]? =ae x)(hs:x.s=1\/x.s=2\/x.s=3):
 aU prog 74 #[ay<|ae ⟨xb,0,af⟩,ag ah i] w fun e w'=>e=aT (dK #[ag ah 0,ag ah 9])/\∃s2 x2,kK w w' B pb xb s (N+1) s2/\s2.h.ps[i]? =ae x2/\(x2.s=2\/x2.s=3):=by
 by_cases h1:x.s=1
 ·have hn:=a.pg.sn.TF hu hi hx h1 (a:=0)<|.inl rfl;refine(aoP a.ha hi hu hx h1<|a.pg.sn.may (by omega) hn).mono fun e w' h=>?_;cases h with
  |mk ho hm=>
   obtain⟨_,sn,jv,rfl⟩:=a.pg.sn.LC hu hn (fun e=>by simp at e) ho;have lL:=(dM.1 hx).1;have gJ:(jV s.h.ps ⟨3,i,0,x.t⟩)[i]? =ae (x.bY ⟨3,i,0,x.t⟩):=by
    have hg:(s.h.ps.getD i pJ)=x:=by rw[QJ,hx];rfl
    simp only[jV,Oc,hg];exact mQ lL
   exact⟨rfl,_,x.bY ⟨3,i,0,x.t⟩,kK.of a hm ⟨rfl,rfl,rfl,rfl⟩ a.ax (by omega) (by omega) rfl<|a.pg.abort sn rfl rfl rfl,gJ,.inr<|by simp[PS.bY]⟩
 ·exact(aoQ a.ha hi hu hx<|by omega).mono fun e w' ⟨g1,g2⟩=>by subst g2;exact⟨g1,s,x,(kK.still a<|Fr.refl _ _).mono<|by omega,hx,by omega⟩
def ajY{h:HS}{L:List Rc}(ha:aF w B xb N h)(c:Sn N h L)(hN:N<=90000000)(hi:(i:Int)<h.P)(hu:h.up=true)(hx:h.ps[i]? =ae x)(hs:x.s=0):
 aU prog 74 #[ay<|ae ⟨xb,0,af⟩,ag ah i] w fun e w'=>e=aT (dK #[.int .i64<|x.e+1,ag ah 0])/\∃h',xY w w' B xb N h L ⟨1,i,0,x.e+1⟩ h':=by
 have hn:=c.avn hu hi hx;refine(aoR ha hi hu hx hs<|c.may (by omega) hn).mono fun e w' h=>?_;cases h with
 |ok ho hm=>
  obtain⟨_,sn,jv,rfl⟩:=c.LC hu hn (fun e=>by simp at e) ho;exact⟨rfl,_,hm,sn,rfl,rfl,⟨rfl,rfl,rfl,rfl⟩,ho⟩
 |ru ho hm=>
  have:=(c.LC hu hn (fun e=>by simp at e) ho).1;cases this
def awd(a:bH w B pb xb N s)(hN:N<=90000000)(hi:(i:Int)<s.h.P)(hu:s.h.up=true)(hx:s.h.ps[i]? =ae x)(hs:x.s=0):
 aU prog 74 #[ay<|ae ⟨xb,0,af⟩,ag ah i] w fun e w'=>e=aT (dK #[.int .i64<|x.e+1,ag ah 0])/\∃h',xY w w' B xb N s.h s.L ⟨1,i,0,x.e+1⟩ h':=ajY a.ha a.pg.sn hN hi hu hx hs
def awe(a:bH w B pb xb N s)(hN:N<=80000000)(hi:(i:Int)<s.h.P)(hu:s.h.up=false):
 aU prog 107 #[ay<|ae ⟨pb,0,af⟩,ag ah i] w fun e w'=>e=aT (aB true)/\Fr aP w w':=by
 obtain⟨x,hx⟩:=a.ps hi;obtain⟨ep,he⟩:=a.ep hi;have xX:=a.pg.ee i ep he;have NZ:=(a.pg.sn.valid.qL i).e1;have KP:=a.pg.sn.fB;have oh:i<s.g.ep.length:=(dM.1 he).1;obtain⟨eg,iI,dS,_⟩:=vN a.pa.ep (by omega);have yE:IntKind.i64.wrap (ep-1)=ep-1:=wrap_i64 (by omega) (by omega);have A:Hid (bH w B pb xb N s):=a;have HI:Hid ((i:Int)<s.h.P):=hi;have HU:Hid (s.h.up=false):=hu;have HE:Hid (s.g.ep[i]? =ae ep):=he;have kU:Hid (s.v.ev=aJ (ae ⟨eg,0,af⟩) s.g.ep.length iI):=dS;have HC:Hid (∀(V:aj),Fr aP w V->aU prog 74 #[ay<|ae ⟨xb,0,af⟩,ag ah i] V fun e w'=>e=aT (dK #[ag ah 0,ag ah 5])/\V=w'):=fun V f=>aoO (a.ha.after f) ⟨by omega,hi⟩ hu;clear a hi hu hx he dS hN oh xX NZ KP yE;go_enter func107,ntmps107
 go_wp2_with fail
 refine(PQ A.o HI.o HU.o).mono ?_;rintro e w1 ⟨rfl,bM⟩;have F1:Hid (Fr aP w w1):=bM;clear bM;obtain⟨d0,d5,de,d6,aI,oW⟩:=(A.o.after F1.o).uf kU.o HE.o;have kE:s.g.dn=true:=by rw[A.o.pg.dn,HU.o];rfl
 rw[kE]at d6;clear kE;go_wp2_with fail
 refine(HC.o _<|F1.o.trans (bG _) fun _ h=>h.elim).mono ?_;rintro e w2 ⟨rfl,rfl⟩;go_wp2
 go_ret;exact⟨rfl,F1.o.trans (bG _) fun _ h=>h.elim⟩
def awf(a:bH w B pb xb N s)(hN:N<=80000000)(hi:(i:Int)<s.h.P)(hu:s.h.up=true)(di:∀x,s.h.ps[i]? =ae x->x.s=0\/x.s=1\/x.s=2\/x.s=3):
 aU prog 107 #[ay<|ae ⟨pb,0,af⟩,ag ah i] w (kV w B pb xb s<|N+4):=by
 obtain⟨x,hx⟩:=a.ps hi;obtain⟨ep,he⟩:=a.ep hi;obtain⟨e1,e2,e3⟩:=a.CW hu hx he;have oh:i<s.g.ep.length:=(dM.1 he).1;obtain⟨eg,iI,dS,_⟩:=vN a.pa.ep (by omega);have A:Hid (bH w B pb xb N s):=a;have fF:Hid (N<=80000000):=hN;have HI:Hid ((i:Int)<s.h.P):=hi;have HU:Hid (s.h.up=true):=hu;have HX:Hid (s.h.ps[i]? =ae x):=hx;have HE:Hid (s.g.ep[i]? =ae ep):=he;have kU:Hid (s.v.ev=aJ (ae ⟨eg,0,af⟩) s.g.ep.length iI):=dS;have zh:(i:Int)<(s.g.ep.length:Int):=by omega
 have uS:(0:Int)<=(i:Int):=by omega
 have hep:ep<=80000000:=by omega
 have yE:IntKind.i64.wrap (ep-1)=ep-1:=wrap_i64 (by omega) (by omega);have Wy:Hid (x.e=ep):=e1;have ML:Hid (x.s=0\/x.s=1\/x.s=2\/x.s=3):=di x hx;have uT:IntKind.i64.wrap (ep+1)=ep+1:=wrap_i64 (by omega) (by omega);clear a hi hu hx he dS hN e1 e3 oh di yE;go_enter func107,ntmps107
 go_wp2_with fail
 refine(Iq A.o (by have:=fF.o;omega) HI.o HU.o HX.o).mono ?_;rintro e w1 ⟨n1,n2,t1⟩;rename_i va vb gB eX;obtain⟨aa,ac,rfl,_⟩:=kR n1;obtain⟨ba,bc,rfl,_⟩:=kR n2;have T1:Hid (bW w w1 B pb xb s (N+1)<|s.fD eX gB):=t1;obtain⟨d0,d5,de,d6,aI,oW⟩:=t1.at_.uf kU.o HE.o;generalize AA:(bI x.aZ 1 4).length=l1;generalize BL:(bI x.aZ 2 4).length=l2;clear n1 n2 t1 AA BL;go_wp2_with fail
 have ZW:Hid (∃W:aj,W=w1.alloc (aC #[ag ah x.e,ag ah x.t,ag ah x.s,.slice aa l1 ac,.slice ba l2 bc] 58)):=⟨_,rfl⟩;obtain⟨W1,eW⟩:=ZW.o;rw[<-eW];have iH:Hid (Fr aP w1 W1):=by subst eW;exact bG _
 have X1:Hid (W1.heap[w1.heap.size]? =ae (aC #[ag ah x.e,ag ah x.t,ag ah x.s,.slice aa l1 ac,.slice ba l2 bc] 58 (0,0))):=by subst eW;exact aDY _ _
 have lH:Hid (bH W1 B pb xb (N+1)<|s.fD eX gB):=T1.o.at_.after iH.o;clear ZW eW d0 d5 de d6 aI oW;by_cases h1:x.s=0
 ·have zA:Hid (x.s=0):=h1;clear h1 ML;have HC:Hid (aU prog 74 #[ay<|ae ⟨xb,0,af⟩,ag ah i] W1 fun e w'=>e=aT (dK #[.int .i64<|ep+1,ag ah 0])/\∃h',xY W1 w' B xb (N+1) s.h s.L ⟨1,i,0,ep+1⟩ h'):=by
   have:=awd lH.o (by have:=fF.o;omega) HI.o HU.o HX.o zA.o;rw[Wy.o]at this;exact this
  refine HC.o.mono ?_;rintro e w3 ⟨rfl,h3,en⟩;have EN:Hid (xY W1 w3 B xb (N+1) s.h s.L ⟨1,i,0,ep+1⟩ h3):=en;have p3:gQ w3 B pb xb s.h (s.fD eX gB).g (s.fD eX gB).v:=lH.o.pa.stay en.mv.fr fun k e hf=>lH.o.ha.off lH.o.pa e hf;have P3:Hid (gQ w3 B pb xb s.h (s.fD eX gB).g (s.fD eX gB).v):=p3;have Gx:w3.ownsRow B 3 1 (aJ (ae ⟨eg,0,af⟩) s.g.ep.length iI) s.g.ep.length (gy s.g.ep):=by have:=p3.ep;rw[show(s.fD eX gB).v.ev=aJ (ae ⟨eg,0,af⟩) s.g.ep.length iI from kU.o]at this;exact this
  have c0:w3.cell? ⟨pb,5,af⟩=ae (aJ (ae ⟨eg,0,af⟩) s.g.ep.length iI):=(aK p3.blk 5).trans (by rw[<-kU.o];rfl);have ce:w3.cell? ⟨eg,i,af⟩=ae (ag ah ep):=yH Gx HE.o;have cf:w3.frozen? ⟨eg,i,af⟩=false:=Gx.frozenAt i;have kE:(s.fD eX gB).g.dn=false:=by
   show s.g.dn=false;rw[A.o.pg.dn,HU.o];rfl
  have c6:w3.cell? ⟨pb,6,af⟩=ae (aB false):=by rw[<-kE];exact aK p3.blk 6
  have X3:Hid (w3.heap[w1.heap.size]? =ae (aC #[ag ah x.e,ag ah x.t,ag ah x.s,.slice aa l1 ac,.slice ba l2 bc] 58 (0,0))):=(en.mv.fr.block _ (aX X1.o) fun e=>lH.o.zV X1.o (by decide)<|.inl e).trans X1.o;have l7:w1.heap.size<w3.heap.size:=aX X3.o;have uk:pb<w3.heap.size:=aX p3.blk;have hpe:pb≠eg:=fun e=>by
   have h1:=iK Gx (k:=eg) rfl;rw[<-e,lM p3.blk]at h1;exact absurd h1<|by decide
  have y2:w3.cell? ⟨w1.heap.size,2,af⟩=ae (ag ah 0):=(aK X3.o 2).trans (by rw[<-zA.o];rfl);clear en p3 Gx kE;go_wp2
  go_ret;have b':gQ w3 B pb xb h3 (s.fD eX gB).g (s.fD eX gB).v:=by
   refine⟨?_,P3.o.ep,P3.o.wr,P3.o.fa,P3.o.gt,P3.o.gl,P3.o.rc,P3.o.st,P3.o.ap,P3.o.hb⟩;rw[EN.o.cf.1,EN.o.cf.2.1,EN.o.cf.2.2.1,EN.o.cf.2.2.2];exact P3.o.blk
  have TO:=avJ (s:=⟨h3,s.L,(s.fD eX gB).g,(s.fD eX gB).v⟩) (N:=N+1) (i:=i) (e0:=ep+1) EN.o.mv.at_ (by show iP h3.pl;rw[EN.o.pl];exact lH.o.ax) b' lH.o.wr lH.o.fa (by omega) kU.o<|lH.o.pg.avw HE.o EN.o.sn EN.o.cf.1 EN.o.up EN.o.pl;exact⟨rfl,_,((T1.o.after iH.o).mid EN.o.mv TO EN.o.cf).mono<|by omega⟩
 ·have zA:Hid (x.s=1\/x.s=2\/x.s=3):=(by have:=ML.o;omega:x.s=1\/x.s=2\/x.s=3);clear h1 ML Wy uT;refine(awc lH.o (by have:=fF.o;omega) HI.o HU.o HX.o zA.o).mono ?_;rintro e w3 ⟨rfl,s2,x2,t3,qh,Dx⟩;have T3:Hid (kK W1 w3 B pb xb (s.fD eX gB) (N+2) s2):=t3;have JS:Hid (s2.h.ps[i]? =ae x2):=qh;have HS2:Hid (x2.s=2\/x2.s=3):=Dx;have JU:Hid (s2.v.ev=aJ (ae ⟨eg,0,af⟩) s2.g.ep.length iI):=by show s2.v.ev=_;rw[t3.v,t3.g];exact kU.o
  have nJ:Hid (s2.g.ep[i]? =ae ep):=by show s2.g.ep[i]? =_;rw[t3.g];exact HE.o
  obtain⟨d0,d5,de,d6,aI,oW⟩:=t3.to.at_.uf JU.o nJ.o;have kE:s2.g.dn=false:=by rw[t3.to.at_.pg.dn,show s2.h.up=true from t3.up.trans HU.o];rfl
  rw[kE]at d6;have X3:Hid (w3.heap[w1.heap.size]? =ae (aC #[ag ah x.e,ag ah x.t,ag ah x.s,.slice aa l1 ac,.slice ba l2 bc] 58 (0,0))):=(t3.to.fr.block _ (aX X1.o)<|lH.o.zV X1.o<|by decide).trans X1.o;have l7:w1.heap.size<w3.heap.size:=aX X3.o;have y2:w3.cell? ⟨w1.heap.size,2,af⟩=ae (ag ah x.s):=aK X3.o 2;clear t3 qh Dx kE;obtain⟨xe,xt,xs,xa,wU,xc,xd,xi,xw,xg⟩:=x;have hs:=zA.o;simp only at hs y2;have hb:(xs !=0)=true:=by simp only[bne_iff_ne,ne_eq];omega
  clear zA hs;go_wp2_with fail
  refine(Iq T3.o.to.at_ (by have:=fF.o;omega) (by have h1:s2.h.P=s.h.P:=T3.o.to.cf.1;rw[h1];exact HI.o) (T3.o.up.trans HU.o) JS.o).mono ?_;rintro e w4 ⟨n1,n2,t4⟩;rename_i va vb FN QH;obtain⟨ca,cc,rfl,_⟩:=kR n1;obtain⟨da,dc,rfl,_⟩:=kR n2;have jQ:Hid (∀V,Fr aP w4 V->kV w B pb xb s (N+4) (aT<|aB true) V):=fun V f=>⟨rfl,_,((((T1.o.after iH.o).trans T3.o.to).trans t4).after f).mono<|by omega⟩;obtain⟨ye,yt,ys,ya,TM,yc,yd,yi,yw,yg⟩:=x2;have h2:=HS2.o;simp only at h2;clear n1 n2 t4 HS2;generalize(bI (⟨ye,yt,ys,ya,TM,yc,yd,yi,yw,yg⟩:PS).aZ 1 4).length=m1;generalize(bI (⟨ye,yt,ys,ya,TM,yc,yd,yi,yw,yg⟩:PS).aZ 2 4).length=m2;rcases h2 with h2|h2<;>subst h2<;>go_wp2<;>go_ret<;>exact jQ.o _<|bG _
def awg(a:bH w B pb xb N s)(hN:N<=80000000)(hi:(i:Int)<s.h.P):aU prog 107 #[ay<|ae ⟨pb,0,af⟩,ag ah i] w (kV w B pb xb s<|N+4):=by
 cases hu:s.h.up with
 |true=>
  obtain⟨x,hx⟩:=a.ps hi;have k:=(a.pg.sn.up hu i x hx).k;have f:=a.pg.sn.valid.qL i;have s0:=f.s0;have s1:=f.s1;rw[<-k.s]at s0 s1;exact awf a hN hi hu fun y hy=>by rw[hx]at hy;cases hy;omega
 |false=>exact(awe a hN hi hu).mono fun e w' ⟨h1,h2⟩=>⟨h1,s,(bW.still a h2).mono<|by omega⟩
end
end
section
section
variable{w w':aj}{B pb xb N:Nat}{s:dB}
variable{q:Nat}{p:PL}
def ajZ{h:HS}{L:List Rc}{n M:Nat}(ha:aF w B xb n h)(sn:Sn M h L)(hn:n<=90000000)(hM:M<=90000000)(hp:h.pl[q]? =ae p):
 aU prog 23 #[ay<|ae ⟨xb,0,af⟩,ag ah q] w fun e w'=>∃va vl,e=aT (dK #[gY #[aB p.out,ag ah p.s.es.length,ag ah p.s.dC,va],ag ah 0])/\(∃pa pc,va=.slice pa vl pc)/\Fr aP w w':=by
 have k:=sn.ed q p hp;have:=k.fB;refine(an2 ha hp k.inv (by omega)<|by omega).mono fun e w' ⟨va,S,h1,_,h3,h4⟩=>?_;obtain⟨pa,pc,h5,_⟩:=kR h3;exact⟨va,S.length,h1,⟨pa,pc,h5⟩,h4⟩
def TP(a:bH w B pb xb N s)(hN:N<=90000000)(hp:s.h.pl[q]? =ae p):
 aU prog 23 #[ay<|ae ⟨xb,0,af⟩,ag ah q] w fun e w'=>∃va vl,e=aT (dK #[gY #[aB p.out,ag ah p.s.es.length,ag ah p.s.dC,va],ag ah 0])/\(∃pa pc,va=.slice pa vl pc)/\Fr aP w w':=ajZ a.ha a.pg.sn hN hN hp
end
end
section
section
variable{w w' V:aj}{B pb xb N:Nat}{s s':dB}
def awh(a:bH w B pb xb N s)(hN:N<=90000000){q:Nat}{p:PL}(hp:s.h.pl[q]? =ae p):
 aU prog 57 #[ay<|ae ⟨xb,0,af⟩,ag ah q,ag ah 0,ag ah 1000] w fun e w'=>∃va,e=aT (dK #[va,ag ah 0])/\w'.ownsRow w.heap.size 94 3 va (p.s.bn 0 p.s.dC).length (qJ<|p.s.bn 0 p.s.dC)/\Fr aP w w':=by
 have k:=a.pg.sn.ed q p hp;have:=k.fB;have h:=an0 a.ha hp 0 1000 k.inv (by omega);rw[anE k.inv]at h;exact h
def dB.JV(s:dB)(q:Nat)(p:PL)(u:az):dB:=⟨s.h,s.L,{s.g with gt:=s.g.gt.set q<|p.s.bn 0 p.s.dC,st:=s.g.st.set q p.s.dC},{s.v with gs:=s.v.gs.set q u}⟩
def awi{gg gc sg sc q:Nat}{u:az}{p:PL}(a:bH w B pb xb N s)(f:Fr aP w V)(hp:s.h.pl[q]? =ae p)(wz:s.v.gv=aJ (ae ⟨gg,0,af⟩) s.v.gs.length gc)(DF:s.v.sv=aJ (ae ⟨sg,0,af⟩) s.g.st.length sc)(hu:V.ownsRow w.heap.size 94 3 u (p.s.bn 0 p.s.dC).length (qJ<|p.s.bn 0 p.s.dC))(hB:B<=w.heap.size):
 bW w ((V.setCell ⟨gg,q,af⟩ u).setCell ⟨sg,q,af⟩<|ag ah p.s.dC) B pb xb s N (s.JV q p u):=by
 have hq:q<s.v.gs.length:=by rw[a.pa.gl,a.pg.gl];exact(dM.1 hp).1
 obtain⟨b1,h1,f1,g1⟩:=avK (q:=q) (a.after f) wz (BO hu hB) hq;obtain⟨b2,h2,f2,g2⟩:=avL (q:=q) (m:=p.s.dC) (g:={s.g with gt:=s.g.gt.set q<|p.s.bn 0 p.s.dC}) h1 b1 DF;have g2':s.fA pb xb sg:=.inr (.inr<|.inr<|.inr<|.inr<|.inr<|.inl (by rw[DF];rfl));refine⟨⟨h2,a.ax,b2,a.pg.looked hp,a.wr,a.fa⟩,((f.mono fun _ h=>h.elim).trans f1 fun k e=>.inl (by rw[e];exact g1)).trans f2 (fun k e=>.inl (by rw[e];exact g2')),fun k hk=>?_,rfl,rfl,rfl,rfl⟩;rcases hk with hk|hk|hk|hk|hk|hk|hk|⟨z,hz,hk⟩
 ·exact .inl<|.inl hk
 ·exact .inl<|.inr<|.inl hk
 ·exact .inl<|.inr<|.inr<|.inl hk
 ·exact .inl<|.inr<|.inr<|.inr<|.inl hk
 ·exact .inl<|.inr<|.inr<|.inr<|.inr<|.inl hk
 ·exact .inl<|.inr<|.inr<|.inr<|.inr<|.inr<|.inl hk
 ·exact .inl<|.inr<|.inr<|.inr<|.inr<|.inr<|.inr<|.inl hk
 ·have Gl:z∈s.v.gs.set q u:=hz;rcases ae7 Gl with Gl|rfl
  ·exact .inl<|.inr<|.inr<|.inr<|.inr<|.inr<|.inr<|.inr ⟨z,Gl,hk⟩
  ·exact .inr (hu.lt k hk).1
structure zX(s:dB)(q:Nat)(s':dB):Prop where
 h:s'.h=s.h
 L:s'.L=s.L
 wr:s'.g.wr=s.g.wr
 gt:∀(k:Nat) (p:PL),k<q->s.h.pl[k]? =ae p->s'.g.gt[k]? =ae (p.s.bn 0 p.s.dC)
def aj0(s s':dB):Prop:=∃Q:Nat,s.h.Q=Q/\zX s Q s'
def zX.zero(s:dB):zX s 0 s:=⟨rfl,rfl,rfl,fun _ _ h=>by omega⟩
variable{q:Nat}{s1:dB}
def zX.fD(a:zX s q s1)(fa:List Fa)(fv:az):zX s q (s1.fD fa fv):=⟨a.h,a.L,a.wr,a.gt⟩
def zX.JV(a:zX s q s1){p:PL}(hp:s1.h.pl[q]? =ae p)(hl:q<s1.g.gt.length)(u:az):zX s (q+1) (s1.JV q p u):=⟨a.h,a.L,a.wr,fun k p' hk vU=>by
 by_cases e:k=q
 ·subst e;rw[a.h,vU]at hp;cases hp;exact mQ hl
 ·exact(uZ<|iW e).trans<|a.gt k p' (by omega) vU⟩
def aj1(a:bH w B pb xb N s)(hN:N<=80000000):aU prog 21 #[ay<|ae ⟨pb,0,af⟩] w (CX w B pb xb s (N+6)<|aj0 s):=by
 have A:Hid (bH w B pb xb N s):=a;have fF:Hid (N<=80000000):=hN;obtain⟨Q,hQ⟩:=uA (show 0<=s.h.Q by have:=a.pg.sn.Q1;omega);obtain⟨P,hP⟩:=uA (show 0<=s.h.P by have:=a.pg.sn.P1;omega);have HQ:Hid (s.h.Q=Q):=hQ;have HP:Hid (s.h.P=P):=hP;have hQ4:Q<=4:=by have:=a.pg.sn.Q1.2;omega
 have Rw:P<=6:=by have:=a.pg.sn.P1.2;omega
 clear a hN hQ hP;go_enter func21,ntmps21
 go_wp2_with fail
 go_loopw [3] (fun i w'=>∃(q:Nat) (s':dB),q<=Q/\i=ag ah q/\bW w w' B pb xb s N s'/\zX s q s') (fun i _=>Q-(fH i).toNat)
 case atStart=>exact⟨0,s,mi _,rfl,bW.refl A.o,.zero s⟩
 case round=>
  obtain⟨q,s1,hq,rfl,t1,lk1⟩:=hrel
  have LK1:Hid (zX s q s1):=lk1
  clear lk1
  have T1:Hid (bW w wr B pb xb s N s1):=t1
  obtain⟨c0,c1,c2,_,_,c7,c8,c9,Z7⟩:=t1.at_.cells
  rw[t1.cf.2.1,HQ.o]at c2
  rw[t1.cf.1,HP.o]at c1
  have aI:=aX t1.at_.pa.blk
  clear t1
  by_cases hlq:q<Q
  ·have Yh:(q:Int)<(Q:Int):=by omega
   have rV:(0:Int)<=(q:Int):=by omega
   obtain⟨p,hp⟩:=T1.o.at_.q (q:=q) (by rw[T1.o.cf.2.1,HQ.o];omega)
   have yY:Hid (s1.h.pl[q]? =ae p):=hp
   clear hp
   go_wp2_with fail
   refine(TP T1.o.at_ (by have:=fF.o;omega) yY.o).mono ?_
   rintro e w1 ⟨va,vl,rfl,sZ,bM⟩
   obtain⟨pa,pc,rfl⟩:=sZ
   have F1:Hid (Fr aP wr w1):=bM
   have d0:=(bM.cell (p:=⟨pb,0,af⟩) aI id).trans c0
   have kY:pb<w1.heap.size:=fK aI bM.size
   clear bM
   go_wp2_with fail
   have ZW:Hid (∃W:aj,W=w1.alloc (aC #[aB p.out,ag ah p.s.es.length,ag ah p.s.dC,.slice pa vl pc] 62)):=⟨_,rfl⟩
   obtain⟨W1,eW⟩:=ZW.o
   rw[<-eW]
   have iH:Hid (Fr aP wr W1):=by subst eW;exact F1.o.trans (bG _) fun _ h=>h.elim
   have Y1:Hid (W1.heap[w1.heap.size]? =ae (aC #[aB p.out,ag ah p.s.es.length,ag ah p.s.dC,.slice pa vl pc] 62 (0,0))):=by subst eW;exact aDY _ _
   clear ZW eW d0 kY
   refine(awh (T1.o.at_.after iH.o) (by have:=fF.o;omega) yY.o).mono ?_
   rintro e w2 ⟨u,rfl,hu,jP⟩
   obtain⟨ua,uc,rfl⟩:=aax hu
   obtain⟨rs,zq⟩:∃rs,rs=p.s.bn 0 p.s.dC:=⟨_,rfl⟩
   rw[<-zq]at hu⊢
   have PZ:Hid (rs=p.s.bn 0 p.s.dC):=zq
   have U2:Hid (w2.ownsRow wr.heap.size 94 3 (.slice ua rs.length uc) rs.length<|qJ rs):=BO hu iH.o.size
   have F2:Hid (Fr aP wr w2):=iH.o.trans jP fun _ h=>h.elim
   have Y2:Hid (w2.heap[w1.heap.size]? =ae (aC #[aB p.out,ag ah p.s.es.length,ag ah p.s.dC,.slice pa vl pc] 62 (0,0))):=(jP.block _ (aX Y1.o) id).trans Y1.o
   have lS:Hid (bH w2 B pb xb N s1):=T1.o.at_.after F2.o
   clear hu jP zq
   have wS:q<s1.h.pl.length:=(dM.1 yY.o).1
   have LKS:Hid (zX s (q+1)<|s1.JV q p<|.slice ua rs.length uc):=LK1.o.JV yY.o (by rw[lS.o.pg.gl];exact wS) _
   obtain⟨s0,ads,BA,zg⟩:=lS.o.pg.bn q p yY.o
   have adt:q<s1.v.gs.length:=by rw[lS.o.pa.gl,lS.o.pg.gl];exact wS
   obtain⟨gg,gc,wz,adu,_⟩:=vN lS.o.pa.gt<|by omega
   have aB5:q<s1.g.st.length:=by rw[lS.o.pg.sl];exact wS
   obtain⟨sg,sc,DF,aj6,_⟩:=vN lS.o.pa.st<|by omega
   have Yi:Hid (s1.v.gv=aJ (ae ⟨gg,0,af⟩) s1.v.gs.length gc):=wz
   have HSV:Hid (s1.v.sv=aJ (ae ⟨sg,0,af⟩) s1.g.st.length sc):=DF
   obtain⟨uq,huq⟩:∃uq,s1.v.gs[q]? =ae uq:=⟨_,eY adt⟩
   have UQ:Hid (w2.ownsRow B 94 3 uq (s0.bn 0 s0.dC).length<|qJ<|s0.bn 0 s0.dC):=lS.o.pa.rc q uq _ huq BA
   have e9:w2.cell? ⟨pb,9,af⟩=ae (aJ (ae ⟨gg,0,af⟩) s1.v.gs.length gc):=by rw[<-wz];exact lS.o.cells.2.2.2.2.2.2.2.1
   have e10:w2.cell? ⟨pb,10,af⟩=ae (aJ (ae ⟨sg,0,af⟩) s1.g.st.length sc):=by rw[<-DF];exact lS.o.cells.2.2.2.2.2.2.2.2
   have eg:w2.cell? ⟨gg,q,af⟩=ae uq:=by
    have hr:=lS.o.pa.gt;rw[wz]at hr;rw[hr.cellAt q<|by omega];exact huq
   have es:w2.cell? ⟨sg,q,af⟩=ae (ag ah s0.dC):=by
    have hr:=lS.o.pa.st;rw[DF]at hr;exact yH (l:=s1.g.st.map Int.ofNat) (by rw[EZ];exact hr) (by rw[afg,zg];rfl)
   have efg:w2.frozen? ⟨gg,q,af⟩=false:=by
    have hr:=lS.o.pa.gt;rw[wz]at hr;exact hr.frozenAt q
   have efs:w2.frozen? ⟨sg,q,af⟩=false:=by
    have hr:=lS.o.pa.st;rw[DF]at hr;exact hr.frozenAt q
   have aB6:(q:Int)<(s1.v.gs.length:Int):=by omega
   have aB7:(q:Int)<(s1.g.st.length:Int):=by omega
   obtain⟨tl,VE⟩:=ads.bn
   have BEG:Hid (aU prog 58 #[uq,.slice ua rs.length uc] w2 fun e w'=>e=aT (aB true)/\∃n,w'=w2.drewN n):=by
    have h2:=afC U2.o;rw[PZ.o,VE]at h2;have:=av2 (afC UQ.o) h2;rw[PZ.o,VE];exact this
   have awj:(s0.dC:Int)<=(p.s.dC:Int):=by have:=ads.dC;omega
   have Ah:pb<w2.heap.size:=aX lS.o.pa.blk
   have y2:w2.cell? ⟨w1.heap.size,2,af⟩=ae (ag ah p.s.dC):=aK Y2.o 2
   have rQ:w1.heap.size<w2.heap.size:=aX Y2.o
   clear ads BA zg wz DF VE huq c9 Z7
   go_wp2_with fail
   refine BEG.o.mono ?_
   rintro e W3 ⟨rfl,n3,Yj⟩
   have F3:Hid (Fr aP w2 W3):=by rw[Yj];exact(Fr.refl _ _).drewN n3
   have x9:=(F3.o.cell (p:=⟨pb,9,af⟩) Ah id).trans e9
   have Z8:=(F3.o.cell (p:=⟨pb,10,af⟩) Ah id).trans e10
   have xg:=(F3.o.cell (p:=⟨gg,q,af⟩) adu id).trans eg
   have xs:=(F3.o.cell (p:=⟨sg,q,af⟩) aj6 id).trans es
   have xy:=(F3.o.cell (p:=⟨w1.heap.size,2,af⟩) rQ id).trans y2
   have xfg:W3.frozen? ⟨gg,q,af⟩=false:=by rw[Yj];simpa using efg
   have xfs:W3.frozen? ⟨sg,q,af⟩=false:=by rw[Yj];simpa using efs
   have hsd:decide ((p.s.dC:Int)<(s0.dC:Int))=false:=qW<|by omega
   have hsn:decide (p.s.dC<s0.dC)=false:=qW<|by omega
   have QG:pb<W3.heap.size:=fK Ah F3.o.size
   have aB8:gg<W3.heap.size:=fK adu F3.o.size
   have awm:sg<W3.heap.size:=fK aj6 F3.o.size
   have awn:w1.heap.size<W3.heap.size:=fK rQ F3.o.size
   clear Yj e9 e10 eg es y2 efg efs BEG awj
   go_wp2_with fail
   go_quiet (fail)
   go_wp2_with fail
   have ZW:Hid (∃W:aj,W=(W3.drewN nq).setCell ⟨gg,q,af⟩ (.slice ua rs.length uc)):=⟨_,rfl⟩
   obtain⟨W4,eW⟩:=ZW.o
   rw[<-eW]
   have uu:gg≠sg:=fun e=>by
    have h1:=iK lS.o.pa.gt (k:=gg) (by rw[Yi.o];rfl);have h2:=iK lS.o.pa.st (k:=sg) (by rw[HSV.o];rfl);rw[e,h2]at h1;exact absurd h1<|by decide
   have hgp:gg≠pb:=fun e=>by
    have h1:=iK lS.o.pa.gt (k:=gg) (by rw[Yi.o];rfl);rw[e,lM lS.o.pa.blk]at h1;exact absurd h1<|by decide
   have hgb:gg≠w1.heap.size:=fun e=>by
    have h1:=iK lS.o.pa.gt (k:=gg) (by rw[Yi.o];rfl);rw[e,lM Y2.o]at h1;exact absurd h1<|by decide
   have F4:Hid (Fr (fun k=>k=gg) W3 W4):=by rw[eW];exact Fr.setCell (S:=fun k=>k=gg) (p:=⟨gg,q,af⟩) (((Fr.refl (fun _=>False) _).drewN nq).mono fun _ h=>h.elim) (.inl rfl) _
   have v10:=(F4.o.cell (p:=⟨pb,10,af⟩) QG fun e=>hgp e.symm).trans Z8
   have vs:=(F4.o.cell (p:=⟨sg,q,af⟩) awm fun e=>uu e.symm).trans xs
   have vy:=(F4.o.cell (p:=⟨w1.heap.size,2,af⟩) awn fun e=>hgb e.symm).trans xy
   have vfs:W4.frozen? ⟨sg,q,af⟩=false:=by
    have hr:=lS.o.pa.st;rw[HSV.o]at hr;exact((F4.o.mono fun k h=>.inl h).ownsRow (F3.o.ownsRow hr fun _ _=>id) fun k hk e=>uu (by rw[<-e];simpa[Value.ownBlock]using hk.symm)).frozenAt q
   have E4:Hid (∃m,W4=(W3.drewN m).setCell ⟨gg,q,af⟩ (.slice ua rs.length uc)):=⟨nq,eW⟩
   clear ZW eW x9 Z8 xg xs xy xfg xfs hsd hsn
   go_region
   have ZW:Hid (∃W:aj,W=(W4.setCell ⟨sg,q,af⟩<|ag ah p.s.dC).drew):=⟨_,rfl⟩
   obtain⟨W5,eW⟩:=ZW.o
   rw[<-eW]
   have T5:Hid (bW wr W5 B pb xb s1 N<|s1.JV q p<|.slice ua rs.length uc):=by
    obtain⟨m,e4⟩:=E4.o;have fV:Fr aP wr (W3.drewN m):=(F2.o.trans F3.o fun _ h=>h.elim).trans ((Fr.refl (fun _=>False) _).drewN m) fun _ h=>h.elim;have hu:=((Fr.refl (fun _=>False) W3).drewN m).ownsRow (F3.o.ownsRow U2.o fun _ _=>id) fun _ _=>id;rw[PZ.o]at hu e4;have:=awi T1.o.at_ fV yY.o Yi.o HSV.o hu<|aaq<|aai T1.o.at_.pa.hb<|aX T1.o.at_.pa.blk;rw[<-e4]at this;rw[eW,PZ.o];exact this.after<|(Fr.refl _ _).drew
   clear ZW eW v10 vs vy vfs E4 F4 uu hgp hgb
   obtain⟨rest,Dp⟩:=T5.o.at_.pg.avu yY.o
   have adx:Hid ((oZ s1.g.fa q s1.g.wr).map (fun w=>(w.p,w.s))=rs.map (fun r=>(r.p,r.s))++rest):=by
    show _=rs.map _++rest;rw[PZ.o];exact Dp
   obtain⟨z0,z1,z2,_,_,z7,z8,_,_⟩:=T5.o.at_.cells
   obtain⟨wa,wc,hwv,hwm⟩:=pq T5.o.at_.pa.wr
   have HWV:Hid (W5.ownsRow B 66 4 (.slice wa s1.g.wr.length wc) s1.g.wr.length<|s1.g.wr.flatMap Wn.cs):=by have:=T5.o.at_.pa.wr;rw[hwv]at this;exact this
   have z7':W5.cell? ⟨pb,7,af⟩=ae (.slice wa s1.g.wr.length wc):=z7.trans<|fG ae hwv
   have HFR:Hid (W5.ownsRow B 114 3 s1.v.fv s1.g.fa.length<|s1.g.fa.flatMap Fa.cs):=T5.o.at_.pa.fa
   have HU5:Hid (W5.ownsRow B 94 3 (.slice ua rs.length uc) rs.length<|qJ rs):=by
    have:=T5.o.at_.pa.rc q (.slice ua rs.length uc) (p.s.bn 0 p.s.dC) (mQ adt) (mQ (by rw[<-lS.o.pa.gl];exact adt));rw[<-PZ.o]at this;exact this
   have En:=aX T5.o.at_.pa.blk
   have Zy:(s1.g.wr.length:Int)<=80000000:=by have:=T1.o.at_.wr;have:=fF.o;omega
   have UO:(rs.length:Int)<=100000000:=by
    have h1:=ajT adx.o;have h2:(oZ s1.g.fa q s1.g.wr).length<=s1.g.wr.length:=GH _ _;omega
   clear Dp hwv z7 z1 z2 hwm
   go_wp2_with fail
   go_loopw [9,10] (fun av kv w'=>∃kk:Nat,kk<=s1.g.wr.length/\av=ag ah (oZ s1.g.fa q<|s1.g.wr.take kk).length/\kv=ag ah kk/\Fr aP W5 w') (fun _ kv _=>s1.g.wr.length-(fH kv).toNat)
   case atStart=>exact⟨0,mi _,rfl,rfl,Fr.refl _ _⟩
   case round=>
    obtain⟨kk,vT,rfl,rfl,dO⟩:=hrel
    have FR:Hid (Fr aP W5 wr):=dO
    have y0:=(dO.cell (p:=⟨pb,0,af⟩) En id).trans z0
    have y7:=(dO.cell (p:=⟨pb,7,af⟩) En id).trans z7'
    have y8:=(dO.cell (p:=⟨pb,8,af⟩) En id).trans z8
    have TQ:pb<wr.heap.size:=fK En dO.size
    have h4:(oZ s1.g.fa q<|s1.g.wr.take kk).length<=kk:=eG (GH _ _) (by rw[EY];omega)
    generalize dX:(oZ s1.g.fa q<|s1.g.wr.take kk).length=av at h4⊢
    have VF:Hid ((oZ s1.g.fa q<|s1.g.wr.take kk).length=av):=dX
    clear dO dX
    by_cases h1:kk<s1.g.wr.length
    ·by_cases h2:av<rs.length
     ·have h1i:(kk:Int)<(s1.g.wr.length:Int):=by omega
      have h2i:(av:Int)<(rs.length:Int):=by omega
      have uS:(0:Int)<=(kk:Int):=by omega
      have ha0:(0:Int)<=(av:Int):=by omega
      obtain⟨x,hx⟩:∃x,s1.g.wr[kk]? =ae x:=⟨_,eY h1⟩
      have HX:Hid (s1.g.wr[kk]? =ae x):=hx
      have dF:=FR.o.ownsRow HWV.o fun _ _=>id
      obtain⟨wg,aCa,hv,bV,_⟩:=vN dF<|by omega
      simp only[aD6]at hv
      obtain⟨rfl,_,rfl⟩:=hv
      have r0:wr.cell? ⟨wg,kk*4,af⟩=ae (ag ah x.q):=Ip Wn.len dF hx (j:=0) rfl
      have r1:wr.cell? ⟨wg,kk*4+1,af⟩=ae (ag ah x.p):=Ip Wn.len dF hx (j:=1) rfl
      have r2:wr.cell? ⟨wg,kk*4+2,af⟩=ae (ag ah x.t):=Ip Wn.len dF hx (j:=2) rfl
      have r3:wr.cell? ⟨wg,kk*4+3,af⟩=ae (dA x.s):=Ip Wn.len dF hx (j:=3) rfl
      obtain⟨r,hr⟩:∃r,rs[av]? =ae r:=⟨_,eY h2⟩
      have HR:Hid (rs[av]? =ae r):=hr
      have Z9:=FR.o.ownsRow HU5.o fun _ _=>id
      obtain⟨rg,aaA,EE,hrg,_⟩:=vN Z9<|by omega
      simp only[aD6]at EE
      obtain⟨rfl,_,rfl⟩:=EE
      have q1:wr.cell? ⟨rg,av*3+1,af⟩=ae (ag ah r.p):=Ip (cs:=Rec.cs) (fun _=>rfl) Z9 hr (j:=1) rfl
      have q2:wr.cell? ⟨rg,av*3+2,af⟩=ae (dA r.s):=Ip (cs:=Rec.cs) (fun _=>rfl) Z9 hr (j:=2) rfl
      have E8:Hid (oZ s1.g.fa q (s1.g.wr.take<|kk+1)=oZ s1.g.fa q (s1.g.wr.take kk)++if x.q=(q:Int)/\jI s1.g.fa x.p x.t=1 then[x]else[]):=by
       show oZ s1.g.fa q (s1.g.wr.take<|kk+1)=_;rw[AP,hx,EX,ajS]
      clear hx hr dF Z9
      go_wp2_with fail
      refine(adb (B:=B) (fs:=s1.g.fa) (v:=s1.v.fv) ((FR.o.trans (bG _) fun _ h=>h.elim).ownsRow HFR.o fun _ _=>id) (((bG _).cell (p:=⟨pb,8,af⟩) TQ id).trans y8) _ _).mono ?_
      rintro e w6 ⟨rfl,rfl⟩
      generalize Gy:jI s1.g.fa x.p x.t=f0
      have MK:Hid (jI s1.g.fa x.p x.t=f0):=Gy
      clear Gy
      by_cases e1:x.q=(q:Int)
      ·have e1':(x.q==(q:Int))=true:=by simpa using e1
       by_cases e2:f0=1
       ·obtain⟨m1,m2⟩:=av3 adx.o HX.o ⟨e1,by rw[MK.o];exact e2⟩ (by rw[VF.o];exact HR.o)
        rw[m1]at q1
        rw[m2]at q2
        have HL:Hid ((oZ s1.g.fa q<|s1.g.wr.take<|kk+1).length=av+1):=by
         show _=av+1;rw[E8.o,if_pos ⟨e1,by rw[MK.o];exact e2⟩,iV,VF.o];rfl
        subst e2
        clear m1 m2 E8
        go_wp2_with fail
        go_quiet (fail)
        go_wp2_with fail
        go_roundw
        case rel=>exact⟨kk+1,by omega,by rw[HL.o];go_num,by go_num,FR.o.trans ((bG _).drewN _) fun _ h=>h.elim⟩
        case measure=>simp[fH]<;>omega
       ·have e2':(f0==1)=false:=by simpa using e2
        have HL:Hid ((oZ s1.g.fa q<|s1.g.wr.take<|kk+1).length=av):=by
         show _=av;rw[E8.o,if_neg (fun z=>e2 (by rw[<-MK.o];exact z.2)),ql,VF.o]
        clear E8 e2 e1
        go_wp2_with fail
        go_roundw
        case rel=>exact⟨kk+1,by omega,by rw[HL.o],by go_num,FR.o.trans (bG _) fun _ h=>h.elim⟩
        case measure=>simp[fH]<;>omega
      ·have e1':(x.q==(q:Int))=false:=by simpa using e1
       have HL:Hid ((oZ s1.g.fa q<|s1.g.wr.take<|kk+1).length=av):=by
        show _=av;rw[E8.o,if_neg fun z=>e1 z.1,ql,VF.o]
       clear E8 e1
       go_wp2_with fail
       go_roundw
       case rel=>exact⟨kk+1,by omega,by rw[HL.o],by go_num,FR.o.trans (bG _) fun _ h=>h.elim⟩
       case measure=>simp[fH]<;>omega
     ·have TE:Hid (bW w wr B pb xb s N<|s1.JV q p<|.slice ua rs.length uc):=(T1.o.trans T5.o).after FR.o
      go_wp2_with fail
      exact⟨⟨q+1,_,by omega,by go_num,TE.o,LKS.o⟩,by simp[fH]<;>omega⟩
    ·have TE:Hid (bW w wr B pb xb s N<|s1.JV q p<|.slice ua rs.length uc):=(T1.o.trans T5.o).after FR.o
     have h2:¬av<rs.length:=by
      have h3:=ajT adx.o;have h5:=VF.o;rw[DJ<|by omega]at h5;omega
     go_wp2_with fail
     exact⟨⟨q+1,_,by omega,by go_num,TE.o,LKS.o⟩,by simp[fH]<;>omega⟩
  ·clear c0 c7 c8 c9 Z7
   go_wp2_with fail
   go_loopw [13] (fun nv w'=>∃(n:Nat) (s':dB),n<=P/\nv=ag ah n/\bW w w' B pb xb s (N+n) s'/\zX s Q s') (fun nv _=>P-(fH nv).toNat)
   case atStart=>exact⟨0,s1,mi _,rfl,T1.o,(by omega:q=Q)▸LK1.o⟩
   case round=>
    clear T1 c1 c2 aI hlq hq
    obtain⟨n,s2,hn,rfl,t2,lk2⟩:=hrel
    have LK2:Hid (zX s Q s2):=lk2
    clear lk2 LK1
    have T2:Hid (bW w wr B pb xb s (N+n) s2):=t2
    obtain⟨_,c1,_,_,_,_⟩:=t2.at_.cells
    rw[t2.cf.1,HP.o]at c1
    have aI:=aX t2.at_.pa.blk
    clear t2
    by_cases D8:n<P
    ·have adz:(n:Int)<(P:Int):=by omega
     go_wp2_with fail
     cases hu:s2.h.up with
     |true=>
      obtain⟨x,hx⟩:=T2.o.at_.ps (i:=n) (by rw[T2.o.cf.1,HP.o];exact adz)
      refine(Iq T2.o.at_ (by have:=fF.o;omega) (by rw[T2.o.cf.1,HP.o];exact adz) hu hx).mono ?_
      rintro e w3 ⟨n1,n2,t3⟩
      rename_i va vb fv3 fa3
      obtain⟨ca,cc,rfl,_⟩:=kR n1
      obtain⟨da,dc,rfl,_⟩:=kR n2
      have T3:Hid (bW w w3 B pb xb s (N+n+1)<|s2.fD fa3 fv3):=T2.o.trans t3
      generalize(bI x.aZ 1 4).length=m1
      generalize(bI x.aZ 2 4).length=m2
      clear n1 n2 t3 hx
      go_wp2_with fail
      go_roundw
      case rel=>exact⟨n+1,_,by omega,by go_num,T3.o.after<|bG _,LK2.o.fD _ _⟩
      case measure=>simp[fH]<;>omega
     |false=>
      refine(PQ T2.o.at_ (by rw[T2.o.cf.1,HP.o];exact adz) hu).mono ?_
      rintro e w3 ⟨rfl,lZ⟩
      have T3:Hid (bW w w3 B pb xb s (N+n+1) s2):=(T2.o.after lZ).mono<|by omega
      clear lZ
      go_wp2_with fail
      go_roundw
      case rel=>exact⟨n+1,_,by omega,by go_num,T3.o.after<|bG _,LK2.o⟩
      case measure=>simp[fH]<;>omega
    ·go_wp2
     go_ret
     exact⟨rfl,s2,T2.o.mono<|by omega,Q,HQ.o,LK2.o⟩
def awt(a:bH w B pb xb N s)(hN:N<=80000000):aU prog 21 #[ay<|ae ⟨pb,0,af⟩] w (kV w B pb xb s<|N+6):=(aj1 a hN).mono fun _ _ d=>d.done
end
end
end Go.Proofs.YtkelpcjiediamaaGreat
