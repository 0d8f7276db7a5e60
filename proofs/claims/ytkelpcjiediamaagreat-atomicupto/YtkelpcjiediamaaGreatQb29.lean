import Derived.Test.YtkelpcjiediamaaGreatQb28
set_option maxRecDepth 100000
set_option maxHeartbeats 0
set_option linter.all false
namespace Go.Proofs.YtkelpcjiediamaaGreat
def aCS:=@Go.Lib.cell?_alloc_some
open Go renaming Calls→aK,Program→dO,TypeId→bW,Value→aj,World→ah,execOp→dJ,maxLen→dH
open Go.RowKit renaming intOf→dX
open Option renaming none→af,some→ae
open Go.Proofs.Tryz
open Go.RowKit Go.Maps
section
def fM(L:List Rc)(p t:Int)(c:Bool):Prop:=∃r∈L,r.k=3/\r.p=p/\r.m=t/\r.a=if c then 1 else 0
structure afr(L:List Rc)(p:Int):Prop where
 le:∀t c,fM L p t c->t<(aY L p).t\/(t=(aY L p).t/\(aY L p).s≠1)
 one:∀t c c',fM L p t c->fM L p t c'->c=c'
 now:2<=(aY L p).s->fM L p (aY L p).t (decide<|(aY L p).s=2)
section
variable{P Q:Int}{L:List Rc}{r:Rc}{p t:Int}{c c':Bool}
def fM.snoc(d:fM L p t c)(r:Rc):fM (L++[r]) p t c:=by
 obtain⟨x,hx,h⟩:=d;exact⟨x,H7 _ hx,h⟩
def fM.more(d:fM L p t c)(l:List Rc):fM (L++l) p t c:=by
 obtain⟨x,hx,h⟩:=d;exact⟨x,H7 _ hx,h⟩
def fM.CS(d:fM (L++[r]) p t c):fM L p t c\/(r.k=3/\r.p=p/\r.m=t/\r.a=if c then 1 else 0):=by
 obtain⟨x,hx,h⟩:=d;rcases og.1 hx with hx|hx
 ·exact .inl ⟨x,hx,h⟩
 ·rw[nY.1 hx]at h;exact .inr h
def Valid.NC(hv:Valid P Q L)(p:Int):afr L p:=by
 induction hv with
 |nil=>exact⟨fun t c ⟨r,hr,_⟩=>by simp at hr,fun t c c' ⟨r,hr,_⟩=>by simp at hr,fun h=>by simp[aY,CG]at h⟩
 | @snoc L r hv hn ih=>
   by_cases hp:r.p=p
   ·subst hp;have hz:=xE L r r.p;rcases hn.kind with⟨k1,k2,k3⟩|⟨k1,k2,k3⟩|⟨k1,k2,k3,k4⟩|⟨k1,k2,k3,k4⟩
    ·have e:aY (L++[r]) r.p={aY L r.p with e:=r.m}:=by rw[hz];simp[St.step,k1]
     have old:∀{t c},fM (L++[r]) r.p t c->fM L r.p t c:=fun d=>d.CS.resolve_right (by omega);rw[show afr (L++[r]) r.p↔_ from Iff.rfl];exact⟨fun t c d=>by rw[e];exact ih.le t c<|old d,fun t c c' d d'=>ih.one t c c' (old d)<|old d',fun h=>by rw[e]at h⊢;exact(ih.now h).snoc r⟩
    ·have e:aY (L++[r]) r.p=⟨(aY L r.p).e,r.m,1,(if(aY L r.p).s=0 then[]else(aY L r.p).ps)++[r.a]⟩:=by rw[hz];simp[St.step,k1]
     have old:∀{t c},fM (L++[r]) r.p t c->fM L r.p t c:=fun d=>d.CS.resolve_right (by omega);refine⟨fun t c d=>?_,fun t c c' d d'=>ih.one t c c' (old d)<|old d',fun h=>?_⟩
     ·have:=ih.le t c<|old d;rw[e];show t<r.m\/_;rcases k3 with⟨k3,k4⟩|⟨k3,k4,_⟩<;>omega
     ·rw[e]at h;exact absurd h (by show¬(2:Int)<=1;omega)
    ·have e:aY (L++[r]) r.p={aY L r.p with s:=3-r.a}:=by rw[hz];simp[St.step,k1]
     have lt:∀{t c},fM L r.p t c->t<(aY L r.p).t:=fun{t c} d=>by have:=ih.le t c d;omega
     refine⟨fun t c d=>?_,fun t c c' d d'=>?_,fun _=>?_⟩
     ·rw[e];show t<(aY L r.p).t\/(t=(aY L r.p).t/\3-r.a≠1);rcases d.CS with d|⟨_,_,h3,_⟩
      ·exact .inl<|lt d
      ·exact .inr ⟨by omega,by omega⟩
     ·rcases d.CS with d|⟨_,_,h3,h4⟩<;>rcases d'.CS with d'|⟨_,_,h3',h4'⟩
      ·exact ih.one t c c' d d'
      ·have:=lt d;omega
      ·have:=lt d';omega
      ·cases c<;>cases c'<;>simp_all
     ·rw[e];refine⟨r,Ut _<|by simp,k1,rfl,k4,?_⟩;show r.a=if decide (3-r.a=2)=true then 1 else 0
      rcases k2 with k2|k2<;>rw[k2]<;>rfl
    ·have e:aY (L++[r]) r.p={aY L r.p with s:=0}:=by rw[hz];simp[St.step,k1]
     have old:∀{t c},fM (L++[r]) r.p t c->fM L r.p t c:=fun d=>d.CS.resolve_right (by omega);refine⟨fun t c d=>?_,fun t c c' d d'=>ih.one t c c' (old d)<|old d',fun h=>?_⟩
     ·have:=ih.le t c<|old d;rw[e];show t<(aY L r.p).t\/(t=(aY L r.p).t/\(0:Int)≠1);omega
     ·rw[e]at h;exact absurd h (by show¬(2:Int)<=0;omega)
   ·have hz:aY (L++[r]) p=aY L p:=by rw[xE,St.FM _ hp]
    have old:∀{t c},fM (L++[r]) p t c->fM L p t c:=fun d=>d.CS.resolve_right fun h=>hp h.2.1;exact⟨fun t c d=>by rw[hz];exact ih.le t c<|old d,fun t c c' d d'=>ih.one t c c' (old d)<|old d',fun h=>by rw[hz]at h⊢;exact(ih.now h).snoc r⟩
end
structure PK(z:St)(x:PS):Prop where
 e:x.e=z.e
 t:x.t=z.t
 s:x.s=z.s
 none:x.s=0->x.a=0/\x.b=0/\x.c=0/\x.d=0
 some:x.s≠0->∀q:Nat,q<4->(1<=x.aT.getD q 0↔(q:Int)∈z.ps)
 eG:∀q:Nat,0<=x.aT.getD q 0/\x.aT.getD q 0<=2/\(x.s<=1->x.aT.getD q 0<=1)
variable{z:St}{x:PS}
def wK.pk{D:List Du}{tm hi i:Int}(h:wK z D tm hi i x):PK z x:=⟨h.e,h.t,h.s,h.none,h.some,h.eG⟩
def PK.aou(h:PK z x)(i:Int):wK z ((bF x.aT 2 4).map fun q=>⟨i,q,0+x.wa,x.ga⟩) 0 (-x.si) i x:=
 ⟨h.e,h.t,h.s,h.none,h.some,h.eG,List.filter_eq_self.2 fun d hd=>by
  obtain⟨q,_,rfl⟩:=Ie.1 hd;simp,fun _=>by omega⟩
structure PC(T K:Int)(x:PS):Prop where
 si:0<=x.si/\x.si<=51/\(x.s<=1->x.si<T)
 wa:0<=x.wa/\x.wa<=16
 ga:0<=x.ga/\x.ga<=16
 due:2<=x.s->(1<=x.wa/\x.wa<=K)/\(1<=x.ga/\x.ga<=K)
structure PP(pl:List PL)(i:Int)(x:PS):Prop where
 opn:2<=x.s->∀(q:Nat) (p:PL) (t:Int),pl[q]? =ae p->p.s.nw i=ae (t,true)->x.aT.getD q 0=2
 CU:2<=x.s->bF x.aT 2 4≠[]
structure PR(pl:List PL)(T K:Int)(z:St)(i:Int)(x:PS):Prop where
 k:PK z x
 c:PC T K x
 p:PP pl i x
structure LK(N:Nat)(L:List Rc)(s:aA):Prop where
 inv:Inv s
 dec:∀e∈s.es,e.k≠1->fM L e.p e.t (decide<|e.k=2)
 eG:s.es.length<=N
structure Sn(N:Nat)(h:HS)(L:List Rc):Prop where
 P1:1<=h.P/\h.P<=6
 Q1:1<=h.Q/\h.Q<=4
 T1:1<=h.T/\h.T<=50
 K1:1<=h.K/\h.K<=16
 h6:h.ps.length=6
 valid:Valid h.P h.Q L
 eG:L.length<=N
 jb:h.jb=ed (L.flatMap dL)
 br:h.br=false
 kp:0<=h.kp/\h.kp<=16
 opn:Ir h.pl L h.P
 dG:∀(q:Nat) (p:PL),h.pl[q]? =ae p->LK N L p.s
 ms:tX h.pl h.P h.Q L h.fl
 dec:∀m∈h.fl,fM L m.p m.t m.c
 fl:h.fl.length<=100
 up:h.up=true->∀(i:Nat) (x:PS),h.ps[i]? =ae x->PR h.pl h.T h.K (aY L i) i x
 dn:h.up=false->h.ps=vF
section
variable{N:Nat}{h:HS}{L:List Rc}{r:Rc}
def LK.mono{M:Nat}{s:aA}(k:LK N L s)(hM:N<=M):LK M L s:=⟨k.inv,k.dec,dP k.eG hM⟩
def LK.snoc{s:aA}(k:LK N L s)(r:Rc):LK N (L++[r]) s:=⟨k.inv,fun e he hk=>(k.dec e he hk).snoc r,k.eG⟩
def Sn.mono{M:Nat}(s:Sn N h L)(hM:N<=M):Sn M h L:=
 ⟨s.P1,s.Q1,s.T1,s.K1,s.h6,s.valid,dP s.eG hM,s.jb,s.br,s.kp,s.opn,fun q p hp=>(s.dG q p hp).mono hM,s.ms,s.dec,s.fl,s.up,s.dn⟩
def Sn.may(c:Sn N h L)(hN:N<=100000000)(hn:Next h.P h.Q L r):lM h r:=by
 have hs:=hn.small c.valid c.P1.2 c.Q1.2;have hf:=c.eG;refine⟨⟨L.length,by omega,hs⟩,c.kp,?_,fun hk=>?_⟩
 ·rw[c.jb,FT,CP];omega
 ·rcases hn.kind with⟨h1,_⟩|⟨h1,_⟩|⟨_,h2,_⟩|⟨h1,_⟩
  ·omega
  ·omega
  ·exact h2
  ·omega
def Sn.lL(c:Sn N h L)(hN:N<=100000000):Ve h L []:=by
 have hs:=c.valid.small c.P1.2 c.Q1.2;have hf:=c.eG;exact⟨by rw[c.jb,qh],by simp,⟨L.length,by omega,hs⟩,c.valid.end_,by omega⟩
def PK.bJ{P Q:Int}{z x}(hn:Next P Q L r)(hv:Valid P Q L)(hQ:Q<=4)(hz:z=aY L r.p)(k:PK z x):PK (aY (L++[r]) r.p) (x.bJ r):=by
 subst hz;have pr:=k.aou r.p;rw[xE];rcases hn.kind with⟨k1,k2,k3⟩|⟨k1,k2,k3⟩|⟨k1,k2,k3,k4⟩|⟨k1,k2,k3,k4⟩
 ·exact(pr.amC rfl k1).pk
 ·have:=(pr.add rfl k1 ⟨k2.1,by omega⟩ (by omega) (0- -x.si) rfl).pk;exact⟨this.e,this.t,this.s,this.none,this.some,this.eG⟩
 ·exact(pr.end_ rfl k1 k2 k3 (Q:=4) (bV _) (fun q hq=>by have:=(hv.qY r.p).ps q hq;omega)).pk
 ·exact(pr.done (D':=[]) rfl k1 rfl).pk
def PK.other{z x}{i:Int}(hp:r.p≠i)(hz:z=aY L i)(k:PK z x):PK (aY (L++[r]) i) x:=by
 subst hz;rw[xE,St.FM _ hp];exact k
end
end
section
def aA.data(s:aA):List gm:=s.es.filter fun e=>decide<|e.k=1
def Qt(L L':List Rc):Prop:=∃l,L'=L++l/\∀r∈l,r.k=4\/(r.k=3/\r.a=0)
def Qt.refl(L:List Rc):Qt L L:=⟨[],by simp,by simp⟩
def Qt.trans{L L' Qq:List Rc}(a:Qt L L')(b:Qt L' Qq):Qt L Qq:=by
 obtain⟨l,rfl,h1⟩:=a;obtain⟨l',rfl,h2⟩:=b;exact⟨l++l',by simp,fun r hr=>(og.1 hr).elim (h1 r)<|h2 r⟩
def Qt.one{L:List Rc}{r:Rc}(h:r.k=4\/(r.k=3/\r.a=0)):Qt L (L++[r]):=⟨[r],rfl,by simpa using h⟩
structure Gw(p p':PL):Prop where
 ext:Ext p.s p'.s
 data:p'.s.data=p.s.data
def sF(pl fE:List PL):Prop:=fE.length=pl.length/\∀(q:Nat) (p:PL),pl[q]? =ae p->∃p',fE[q]? =ae p'/\Gw p p'
def Ext.trans{a b c:aA}(h:Ext a b)(h':Ext b c):Ext a c:=by
 obtain⟨t,ht⟩:=h.es;obtain⟨t',O3⟩:=h'.es;have hm:∀e∈a.es,e∈b.es:=fun e he=>by rw[ht];exact H7 _ he
 exact⟨⟨t++t',by rw[O3,ht];simp⟩,fun e he hk ho=>h'.open_ e (hm e he) hk<|h.open_ e he hk ho,fun e he hk ho=>(h'.nH e (hm e he) hk<|h.open_ e he hk ho).trans<|h.nH e he hk ho⟩
def Gw.refl(p:PL):Gw p p:=⟨.refl _,rfl⟩
def Gw.trans{a b c:PL}(h:Gw a b)(h':Gw b c):Gw a c:=⟨h.ext.trans h'.ext,h'.data.trans h.data⟩
def sF.refl(pl:List PL):sF pl pl:=⟨rfl,fun _ p hp=>⟨p,hp,.refl p⟩⟩
def sF.trans{a b c:List PL}(h:sF a b)(h':sF b c):sF a c:=⟨h'.1.trans h.1,fun q p hp=>by
 obtain⟨p1,h1,g1⟩:=h.2 q p hp;obtain⟨p2,h2,g2⟩:=h'.2 q p1 h1;exact⟨p2,h2,g1.trans g2⟩⟩
def sF.set{pl:List PL}{q:Nat}{p p':PL}(hp:pl[q]? =ae p)(g:Gw p p'):sF pl (pl.set q p'):=⟨by simp,fun j a ha=>by
 by_cases e:q=j
 ·subst e;rw[hp]at ha;cases ha;exact⟨p',mD (dD.1 hp).1,g⟩
 ·exact⟨a,by rw[vz e];exact ha,.refl a⟩⟩
structure tY(h:HS)(L:List Rc)(h':HS)(L':List Rc):Prop where
 P:h'.P=h.P
 Q:h'.Q=h.Q
 T:h'.T=h.T
 K:h'.K=h.K
 up:h'.up=h.up
 qt:Qt L L'
 grow:sF h.pl h'.pl
def tY.refl(h:HS)(L:List Rc):tY h L h L:=⟨rfl,rfl,rfl,rfl,rfl,.refl L,.refl _⟩
def tY.trans{a b c:HS}{L L' Qq:List Rc}(h:tY a L b L')(h':tY b L' c Qq):tY a L c Qq:=
 ⟨h'.P.trans h.P,h'.Q.trans h.Q,h'.T.trans h.T,h'.K.trans h.K,h'.up.trans h.up,h.qt.trans h'.qt,h.grow.trans h'.grow⟩
def ND{ts:List Int}{l q:Int}:q∈bF ts l 4↔∃k:Nat,k<4/\q=k/\l<=ts.getD k 0:=by
 unfold bF;simp only[Ie,JL,Ic,UA];exact⟨fun⟨k,⟨h1,h2⟩,h3⟩=>⟨k,h1,h3.symm,h2⟩,fun⟨k,h1,h2,h3⟩=>⟨k,⟨h1,h3⟩,h2.symm⟩⟩
section
variable{N:Nat}{h h':HS}{L:List Rc}{r:Rc}
def Sn.aov(c:Sn N h L)(hu:h.up=true){ps:List PS}(h6:ps.length=6)(hp:∀(i:Nat) (x:PS),ps[i]? =ae x->PR h.pl h.T h.K (aY L i) i x):Sn N {h with ps:=ps} L:=
 ⟨c.P1,c.Q1,c.T1,c.K1,h6,c.valid,c.eG,c.jb,c.br,c.kp,c.opn,c.dG,c.ms,c.dec,c.fl,fun _=>hp,fun e=>by rw[show h.up=false from e]at hu;cases hu⟩
def Sn.dE(c:Sn N h L)(hu:h.up=true){i:Nat}{x':PS}(hr:PR h.pl h.T h.K (aY L i) i x'):Sn N (h.dE i x') L:=
 c.aov hu (by rw[yK];exact c.h6) fun j a ha=>by
  rcases Bc ha with⟨rfl,rfl⟩|⟨_,ha'⟩
  ·exact hr
  ·exact c.up hu j a ha'
def Sn.ZX(c:Sn N h L)(fv:aj){l:List Ms}(hl:l.length<=100)(hm:tX h.pl h.P h.Q L l)(hd:∀m∈l,fM L m.p m.t m.c):Sn N (h.gp fv l) L:=
 ⟨c.P1,c.Q1,c.T1,c.K1,c.h6,c.valid,c.eG,c.jb,c.br,c.kp,c.opn,c.dG,hm,hd,hl,c.up,c.dn⟩
variable{i P Q t:Int}{x:PS}{q:Nat}{p:PL}{s:aA}{c:Bool}{m:Ms}
def PC.bJ{T K:Int}(c:PC T K x)(hT:1<=T)(hK:1<=K/\K<=16)(hn:Next P Q L r)(k:PK (aY L r.p) x):PC T K (x.bJ r):=by
 obtain⟨s1,s2,s3⟩:=c.si;rcases hn.kind with⟨k1,_⟩|⟨k1,_,k3⟩|⟨k1,k2,_⟩|⟨k1,_⟩
 ·rw[show x.bJ r={x with e:=r.m}by simp[PS.bJ,k1]];exact⟨c.si,c.wa,c.ga,c.due⟩
 ·rw[show x.bJ r=({x with s:=1,t:=r.m}:PS).tie r.a 1 by simp[PS.bJ,k1]];obtain⟨_,_,r3,r4,r5,r6⟩:=FP ({x with s:=1,t:=r.m}:PS) r.a 1;have hs:=k.s;refine⟨⟨by rw[r4];exact s1,by rw[r4];exact s2,fun _=>by rw[r4];exact s3<|by omega⟩,by rw[r5];exact c.wa,by rw[r6];exact c.ga,fun e=>?_⟩;rw[r3]at e;exact absurd e (by show¬(2:Int)<=1;omega)
 ·rw[show x.bJ r={x with s:=if r.a=1 then 2 else 3,a:=lZ x.a,b:=lZ x.b,c:=lZ x.c,d:=lZ x.d,wa:=1,ga:=1}by simp[PS.bJ,k1]];refine⟨⟨s1,s2,fun e=>?_⟩,by simp only;omega,by simp only;omega,fun _=>by simp only;omega⟩;have e':(if r.a=1 then(2:Int)else 3)<=1:=e;split at e'<;>omega
 ·rw[show x.bJ r=⟨x.e,x.t,0,0,0,0,0,0,0,0⟩by simp[PS.bJ,k1]];exact⟨⟨by simp,by simp,fun _=>by simp only;omega⟩,by simp,by simp,fun e=>absurd e (by show¬(2:Int)<=0;omega)⟩
def PP.bJ{pl:List PL}(p:PP pl r.p x)(ho:Ir pl L P)(hv:Valid P Q L)(hQ:Q<=4)(hn:Next P Q L r)(k:PK (aY L r.p) x):PP pl r.p (x.bJ r):=by
 rcases hn.kind with⟨k1,_⟩|⟨k1,_⟩|⟨k1,k2,k3,_⟩|⟨k1,_⟩
 ·rw[show x.bJ r={x with e:=r.m}by simp[PS.bJ,k1]];exact⟨p.opn,p.CU⟩
 ·have e:¬2<=(x.bJ r).s:=by
   rw[show x.bJ r=({x with s:=1,t:=r.m}:PS).tie r.a 1 by simp[PS.bJ,k1],(FP _ _ _).2.2.1];show¬(2:Int)<=1;omega
  exact⟨fun z=>absurd z e,fun z=>absurd z e⟩
 ·have gq:x.s≠0:=by have:=k.s;omega
  have two:∀q:Nat,(q:Int)∈(aY L r.p).ps->q<4/\(x.bJ r).aT.getD q 0=2:=fun q hq=>by
   have h4:q<4:=by have:=(hv.qY r.p).ps _ hq;omega
   have:=(k.some gq q h4).2 hq;exact⟨h4,by rw[Qa k1,lZ,if_pos this]⟩
  refine⟨fun _ q a t ha hi=>(two q (ho q a ha r.p t hi).2.2.2.2).2,fun _=>?_⟩;obtain⟨q,l,hq⟩:=List.exists_cons_of_ne_nil (hv.parts r.p<|by omega);have rF:q∈(aY L r.p).ps:=by rw[hq];simp
  obtain⟨n,rfl⟩:=vw ((hv.qY r.p).ps q rF).1;obtain⟨h4,h5⟩:=two n rF;exact List.ne_nil_of_mem<|ND.2 ⟨n,h4,rfl,by rw[h5];decide⟩
 ·rw[show x.bJ r=⟨x.e,x.t,0,0,0,0,0,0,0,0⟩by simp[PS.bJ,k1]];exact⟨fun e=>absurd e (by show¬(2:Int)<=0;omega),fun e=>absurd e (by show¬(2:Int)<=0;omega)⟩
def Sn.wrote(c:Sn N h L)(hu:h.up=true)(hn:Next h.P h.Q L r)(h4:r.k=4->∀(q:Nat) (p:PL),h.pl[q]? =ae p->∀t,p.s.nw r.p≠ae (t,true))(jv:aj):Sn (N+1) {h.oU jv (ed<|dL r)with ps:=jE h.ps r} (L++[r]):=by
 have sW:=hn.p1;have Qp:=c.P1.2;refine⟨c.P1,c.Q1,c.T1,c.K1,by show(jE h.ps r).length=6;simp[jE,c.h6],hn.valid c.valid,by have:=c.eG;simp<;>omega,?_,c.br,c.kp,c.opn.snoc hn h4,fun q p hp=>((c.dG q p hp).snoc r).mono<|by omega,c.ms.snoc hn,fun m hm=>(c.dec m hm).snoc r,c.fl,fun _ i x hx=>?_,fun e=>?_⟩
 ·show h.jb++ed (dL r)=ed ((L++[r]).flatMap dL);rw[c.jb,anQ,Zt]
 ·rcases anR hx hn.p0 (by omega) c.h6 with⟨x0,h0,e,rfl⟩|⟨e,h0⟩
  ·have pr:=c.up hu i x0 h0;rw[<-e]at pr⊢
   exact⟨pr.k.bJ hn c.valid c.Q1.2 rfl,pr.c.bJ c.T1.1 c.K1 hn pr.k,pr.p.bJ c.opn c.valid c.Q1.2 hn pr.k⟩
  ·have pr:=c.up hu i x h0;exact⟨pr.k.other e rfl,pr.c,pr.p⟩
 ·rw[show h.up=false from e]at hu;cases hu
def Sn.J9(c:Sn N h L)(hu:h.up=true)(hn:Next h.P h.Q L r)(h4:r.k=4->∀(q:Nat) (p:PL),h.pl[q]? =ae p->∀t,p.s.nw r.p≠ae (t,true)){ok:Bool}(ho:jo h r ok h'):ok=true/\Sn (N+1) h' (L++[r])/\∃jv,h'={h.oU jv (ed<|dL r)with ps:=jE h.ps r}:=by
 cases ho with
 |ok jv hb=>exact⟨rfl,c.wrote hu hn h4 jv,jv,rfl⟩
 |sD jv hb=>rw[c.br]at hb;cases hb
def Sn.gy(c:Sn N h L){p':PL}(hp:h.pl[q]? =ae p)(hl:LK (N+1) L p'.s)(hn:∀i t,p'.s.nw i=ae (t,true)->0<=i/\i<h.P/\1<=(aY L i).s/\(aY L i).t=t/\(q:Int)∈(aY L i).ps)(ho:∀i t,p'.s.nw i=ae (t,true)->p.s.nw i=ae (t,true)\/((aY L i).s=1/\(aY L i).t=t)):Sn (N+1) (h.gy q p') L:=by
 refine⟨c.P1,c.Q1,c.T1,c.K1,c.h6,c.valid,YI c.eG,c.jb,c.br,c.kp,c.opn.set hn,fun j a ha=>?_,c.ms.set hp ho,c.dec,c.fl,fun hu i x hx=>?_,c.dn⟩
 ·rcases Bc ha with⟨_,rfl⟩|⟨_,ha'⟩
  ·exact hl
  ·exact(c.dG j a ha').mono<|by omega
 ·have pr:=c.up hu i x hx;refine⟨pr.k,pr.c,fun h2 j a t ha hi=>?_,pr.p.CU⟩;rcases Bc ha with⟨e1,rfl⟩|⟨_,ha'⟩
  ·subst e1;rcases ho _ _ hi with e|⟨e,_⟩
   ·exact pr.p.opn h2 j p t hp e
   ·have:=pr.k.s;omega
  ·exact pr.p.opn h2 j a t ha' hi
def Sn.Qr(c:Sn N h L)(hp:h.pl[q]? =ae p){s':aA}(hs:∀i t,s'.nw i=ae (t,true)->p.s.nw i=ae (t,true)):(∀i t,s'.nw i=ae (t,true)->0<=i/\i<h.P/\1<=(aY L i).s/\(aY L i).t=t/\(q:Int)∈(aY L i).ps)/\(∀i t,s'.nw i=ae (t,true)->p.s.nw i=ae (t,true)\/((aY L i).s=1/\(aY L i).t=t)):=
 ⟨fun i t hi=>c.opn q p hp i t<|hs i t hi,fun i t hi=>.inl<|hs i t hi⟩
def Sn.out(c:Sn N h L)(hp:h.pl[q]? =ae p)(o:Bool):Sn (N+1) (h.gy q {p with out:=o}) L:=
 c.gy hp (p':={p with out:=o}) ((c.dG q p hp).mono<|by omega) (c.Qr hp fun _ _ z=>z).1 (c.Qr hp fun _ _ z=>z).2
def afs:(s.closed i t c).es=s.es\/(s.closed i t c).es=s.es++[⟨aA.wJ c,i,t,⟨#[]⟩⟩]:=by
 unfold aA.closed;split
 ·exact .inr rfl
 ·exact .inl rfl
def aft:(s.closed i t c).data=s.data:=by
 unfold aA.data;rcases afs (s:=s) (i:=i) (t:=t) (c:=c)with e|e<;>rw[e];rw[yJ];have:aA.wJ c≠1:=by cases c<;>simp[aA.wJ]
 simp[this]
def LK.closed(k:LK N L s)(hi:dQ i)(ht:dQ t)(hd:fM L i t c):LK (N+1) L (s.closed i t c):=by
 refine⟨(Y0 k.inv i t c hi ht).1,fun e he hk=>?_,by have:=Zd s i t c;have:=k.eG;omega⟩;rcases afs (s:=s) (i:=i) (t:=t) (c:=c)with e1|e1<;>rw[e1]at he
 ·exact k.dec e he hk
 ·rcases og.1 he with he|he
  ·exact k.dec e he hk
  ·rw[nY.1 he];show fM L i t (decide<|aA.wJ c=2);have:decide (aA.wJ c=2)=c:=by cases c<;>rfl
   rw[this];exact hd
def Sn.Vp(c:Sn N h L)(hN:N<=100000000)(mo:xG h.P h.Q L m):dQ m.p/\dQ m.t:=by
 have:=mo.p;have:=mo.t;have:=(c.valid.qY m.p).t1;have:=c.eG;have:=c.P1.2;exact⟨J3 (by omega)<|by omega,J3 (by omega)<|by omega⟩
def Sn.shut(c:Sn N h L)(hN:N<=100000000)(hp:h.pl[q]? =ae p)(v':aj)(mo:xG h.P h.Q L m)(hd:fM L m.p m.t m.c):Sn (N+1) (h.gy q ⟨p.lb,p.bm,v',p.s.closed m.p m.t m.c,p.out⟩) L/\Gw p ⟨p.lb,p.bm,v',p.s.closed m.p m.t m.c,p.out⟩:=by
 obtain⟨i1,i2⟩:=c.Vp hN mo;have:=c.Qr hp (s':=p.s.closed m.p m.t m.c) fun i t z=>(ZT z).1;exact⟨c.gy hp (p':=⟨p.lb,p.bm,v',p.s.closed m.p m.t m.c,p.out⟩) ((c.dG q p hp).closed i1 i2 hd) this.1 this.2,(Y0 (c.dG q p hp).inv _ _ _ i1 i2).2,aft⟩
end
end
section
section
variable{h:HS}
def agm(i t:Int)(c:Bool):∀(qs:List Int) {l:List Ms},l.length<=100->(uG l i t c qs).length<=100
 |[],_,h=>h
 |q::qs,l,h=>agm i t c qs (l:=rq l ⟨1,q,i,t,c⟩)<|afl h _
def tX.agn{pl:List PL}{P Q:Int}{L:List Rc}{i t:Int}{c:Bool}:∀(qs:List Int) {l:List Ms},tX pl P Q L l->(∀q∈qs,xG P Q L ⟨1,q,i,t,c⟩)->tX pl P Q L (uG l i t c qs)
 |[],_,h,_=>h
 |q::qs,l,h,hq=>tX.agn qs (l:=rq l ⟨1,q,i,t,c⟩) (h.send (hq q<|by simp) fun e=>by simp at e) fun k hk=>hq k<|by simp[hk]
end
end
section
variable{P:dO}{w w':ah}{o:Oper}{a:Act}{Q:Exit->Act->ah->Prop}{v y v':aj}
def ass(w:ah)(t ti ty e:bW)(k:IntKind)(i:TypeInfo)(z:aj)(ht:P.underlying t=ae (.slice e))(Js:P.underlying ti=ae (.int k))(hi:P.info? e=ae i)(hz:i.zero=ae z)(dS:0<i.size)(n:Nat)(hn:0<n)(h63:n<=dH)(aBF:n*i.bytes<=140737488355328):
 (Builtin.append_ #[t,ti] ty #[.slice af 0 0,.int .i64 n]).run P w=.ok (.slice (ae ⟨w.heap.size,0,af⟩) n<|grownCap w n 0 e) (w.drew.alloc<|.cells (Builtin.zeroCells z.cells n++Builtin.zeroCells z.cells (grownCap w n 0 e-n)) e):=by
 have hw:IntKind.i64.wrap (n:Int)=n:=wrap_i64 (by omega) (by simp only[dH]at h63;omega);have n1:¬((n:Int)<0):=by omega
 have n2:¬(281474976710656<(n:Int)*(i.bytes:Int)):=by
  have:((n*i.bytes:Nat):Int)<=140737488355328:=by omega
  rw[Int.natCast_mul]at this;omega
 have n3:¬(n*i.size=0):=by
  have:=Nat.mul_pos hn dS;omega
 have n4:n≠0:=by omega
 have ayd:¬(9223372036854775807<(n:Int)):=by simp only[dH]at h63;omega
 have aye:¬(281474976710656<Builtin.nextslicecap n 0*i.bytes):=by rw[nextslicecap_zero hn];omega
 simp[Builtin.append_,aCP ht,aCP Js,sizeOf,typeInfo,hi,asInt,asIntOf,hw,n1,n2,n3,n4,zeroValue,hz,ayd,aye,Question.forced,run_firstCells_none,newRow,grownCap]
def ast{K:Act->ah->Prop}(s x:Operand)(t ti:bW)(ho:o.op=.call {callee:=.builtin .append,args:=#[s,x],argTypes:=#[t,ti]})(hs:a.eval s=v)(hx:a.eval x=y)(hr:(Builtin.append_ #[t,ti] o.type #[v,y]).run P w=.ok v' w')(h:K (a.put o.dst v') w'):o.wp P a w K Q:=by
 unfold Oper.wp dJ;simp only[ho,resolve,invoke,builtin,Sem.run_bind,Sem.run_pure,Result.andThen_ok,adL,yM,zL,hs,hx,hr];exact h
def ahJ{ops:Array Oper}{rest:List Oper}(hgd:o.guard=af)(s x:Operand)(t ti:bW)(ho:o.op=.call {callee:=.builtin .append,args:=#[s,x],argTypes:=#[t,ti]})(hs:a.eval s=v)(hx:a.eval x=y)(hr:(Builtin.append_ #[t,ti] o.type #[v,y]).run P w=.ok v' w')(h:wpList P ops Q rest (a.put o.dst v') w'):wpList P ops Q (o::rest) a w:=
 wpList_plain hgd fun _ hK=>ast s x t ti ho hs hx hr<|hK _ _ h
def asu{n cap:Nat}{z:Array aj}(hzs:z.size=5)(uU:n<=cap)(hm:cap<=dH):
 (w.alloc<|.cells (Builtin.zeroCells z n++Builtin.zeroCells z (cap-n)) 119).drew.ownsRow w.heap.size 119 5 (.slice (ae ⟨w.heap.size,0,af⟩) 0 cap) 0 []:=by
 refine⟨rfl,.inr ⟨w.heap.size,cap,_,rfl,bV _,aB0 _ _,lK _,hm,?_,by simp⟩⟩;simp only[Array.size_append,size_zeroCells,hzs];omega
def asv(o:Obj):Fr aH w (w.alloc o).drew:=⟨rfl,rfl,rfl,(aZ (w:=w) o).size,fun k hk _=>(aZ (w:=w) o).block k hk id⟩
def asw(n:Nat)(hb:n*40<=140737488355328):
 aK prog 170 #[.slice af 0 0,.int .i64 n] w fun e w'=>∃v,e=.returned v/\w'.ownsRow w.heap.size 119 5 v 0 []/\Fr aH w w':=by
 obtain⟨i0,dF,gG,fO,iH⟩:=aCf Iu;have hN:(n:Int)<=140737488355328:=by omega
 have HB:Hid (n*40<=140737488355328):=hb;clear hb;by_cases h0:n=0
 ·subst h0;go_enter func170,ntmps170
  go_wp2
  go_ret;exact⟨_,rfl,aCb _ _ _ _,Fr.refl _ _⟩
 ·have oJ:(0:Int)<n:=by omega
  have BO:∀W:ah,(Builtin.append_ #[107,3] 107 #[.slice af 0 0,.int .i64 n]).run prog W=.ok (.slice (ae ⟨W.heap.size,0,af⟩) n<|grownCap W n 0 119) (W.drew.alloc<|.cells (Builtin.zeroCells (Value.agg #[.int .i64 0,.int .i64 0,.int .i64 0,.int .i64 0,.bool false]).cells n++Builtin.zeroCells (Value.agg #[.int .i64 0,.int .i64 0,.int .i64 0,.int .i64 0,.bool false]).cells (grownCap W n 0 119-n)) 119):=
   fun W=>ass W 107 3 107 119 _ i0 _ underlying107 underlying3 dF gG (by omega) n (by omega) (by simp only[dH];omega) (by rw[iH];exact HB)
  have HC:Hid (n<=grownCap w n 0 119/\grownCap w n 0 119<=dH):=⟨grownCap_ge w n 0 119,grownCap_le_maxLen w n 0 119 (by simp only[dH];omega)⟩;go_enter func170,ntmps170
  go_wp2_with (at_builtin;refine ahJ rfl _ _ 107 3 rfl (v:=.slice af 0 0) (y:=.int .i64 n) rfl rfl (BO _) ?_)
  go_ret;refine⟨_,rfl,?_,?_⟩
  ·have hk:n<=grownCap w n 0 119/\grownCap w n 0 119<=maxLen:=HC;exact asu rfl hk.1 hk.2
  ·exact asv _
abbrev y9:=List<|aj×List Ms
def y9.all(r:y9):List Ms:=r.flatMap (·.2)
def asx(r:y9)(x:aj×List Ms):y9.all (r++[x])=y9.all r++x.2:=by simp[y9.all]
def ahK(l:List Ms):∀u∈l.flatMap Ms.cs,u.oneCell'=true:=by
 intro u hu;simp only[YJ]at hu;obtain⟨e,_,he⟩:=hu;simp only[Ms.cs,jC,oN,oO]at he;rcases he with rfl|rfl|rfl|rfl|rfl<;>rfl
variable{rows:y9}
def ahL{B B':Nat}{x:aj}{n m:Nat}{xs ys:List aj}(hv:w.ownsRow B 119 5 v n xs)(hx:w.ownsRow B' 119 5 x m ys)(h1:∀u∈ys,u.oneCell'=true)(hb:(n+m)*40<=140737488355328)(hB:B<=w.heap.size):
 ∃v' w',(Builtin.append_ #[107,107] 107 #[v,x]).run prog w=.ok v' w'/\w'.ownsRow B 119 5 v' (n+m) (xs++ys)/\w.grownBy w' v.ownBlock:=by
 obtain⟨i0,dF,gG,fO,iH⟩:=aCf Iu;rcases hx.2 with⟨rfl,rfl⟩|⟨g,cap,cur,rfl,_⟩
 ·have hy:ys=[]:=YD (by simpa using hx.1);subst hy;refine⟨v,w,?_,by simpa using hv,⟨rfl,rfl,rfl,bV _,fun _ _ _=>rfl⟩⟩;rcases hv.2 with⟨rfl,rfl⟩|⟨g,cap,cur,rfl,_,_,hc,_⟩
  ·simp[Builtin.append_,aCP underlying107,sizeOf,typeInfo,dF,Builtin.lenOf,Builtin.firstCells]
  ·simp[Builtin.append_,aCP underlying107,sizeOf,typeInfo,dF,Builtin.lenOf,Builtin.firstCells,loadCells,hc,storeCells]
 ·obtain⟨v',w',h2,h3,h4,_⟩:=run_append_own (P:=prog) w B 107 107 119 i0 _ 5 40 underlying107 dF gG fO iH rfl (by decide) v n xs hv ⟨g,0,af⟩ m cap ys hx.1 (hx.cells rfl) h1 (by simp only[dH];omega) hb hB;exact⟨v',w',h2,h3,h4⟩
def pre(rows:y9)(j:Nat):List Ms:=y9.all<|rows.take j
def abq{j:Nat}{x:aj×List Ms}(h:rows[j]? =ae x):pre rows (j+1)=pre rows j++x.2:=by
 unfold pre;rw[zK,h,Ea,asx]
def ahM(rows:y9):pre rows rows.length=rows.all:=by simp[pre]
def ahN(j:Nat):(pre rows j).length<=rows.all.length:=by
 have e:rows.all=pre rows j++y9.all (rows.drop j):=by
  unfold pre y9.all;rw[<-Fq,YE]
 rw[e];simp
def asy{C:Nat}(hC:w.heap[C]? =ae (.cells (rows.map (·.1)).toArray 107 (0,0)))(hr:∀x∈rows,∃Bm,w.ownsRow Bm 119 5 x.1 x.2.length<|x.2.flatMap Ms.cs)(hb:rows.all.length*40<=140737488355328)(hn:rows.length<=4):
 aK prog 116 #[.slice (ae ⟨C,0,af⟩) rows.length rows.length] w fun e w'=>∃v,e=.returned v/\w'.ownsRow w.heap.size 119 5 v rows.all.length (rows.all.flatMap Ms.cs)/\Fr aH w w':=by
 have HC:Hid (w.heap[C]? =ae (.cells (rows.map (·.1)).toArray 107 (0,0))):=hC;have HR:Hid (∀x∈rows,∃Bm,w.ownsRow Bm 119 5 x.1 x.2.length<|x.2.flatMap Ms.cs):=hr;have HB:Hid (rows.all.length*40<=140737488355328):=hb;have hlr:(rows.length:Int)<=4:=by omega
 clear hC hr hb hn;go_enter func116,ntmps116
 go_wp2_with fail
 go_loopw [3,11] (fun sv iv w'=>∃j:Nat,j<=rows.length/\iv=.int .i64 j/\sv=.int .i64 ((pre rows j).length:Nat)/\w=w') (fun _ iv _=>rows.length-(dX iv).toNat)
 case atStart=>exact⟨0,lK _,rfl,rfl,rfl⟩
 case round=>
  obtain⟨j,hj,rfl,rfl,hw⟩:=hrel
  subst hw
  have HP:=ahN (rows:=rows)<|j+1
  have HBn:rows.all.length*40<=140737488355328:=HB
  by_cases aB:j<rows.length
  ·obtain⟨⟨v,l⟩,hx⟩:∃x,rows[j]? =ae x:=⟨_,dR aB⟩
   obtain⟨Bm,bY⟩:=HR.out (v,l)<|fD hx
   obtain⟨la,Wy,e,_⟩:=oL bY
   simp only at e
   subst e
   have c0:=aG HC.out (o:=j)
   simp[hx]at c0
   have fP:=eP List.length<|abq hx
   simp only[iQ]at fP
   have q1:IntKind.i64.wrap (((pre rows j).length:Int)+(l.length:Int))=((pre rows j).length:Int)+(l.length:Int):=wrap_i64 (by omega)<|by omega
   have HPS:Hid ((pre rows<|j+1).length=(pre rows j).length+l.length):=fP
   generalize(pre rows j).length=pj at*
   clear hx bY fP HP HBn
   go_wp2
   go_roundw
   case rel=>exact⟨j+1,by omega,by go_num,by rw[HPS.out];simp,trivial⟩
   case measure=>simp[dX]<;>omega
  ·have O8:j=rows.length:=by omega
   subst O8
   rw[ahM]
   clear HP HBn aB
   go_wp2_with (go_at_call 170;refine(asw rows.all.length HB.out).mono ?_;rintro e w1 ⟨nv,rfl,xh,bg⟩)
   have HN1:Hid (w1.ownsRow w.heap.size 119 5 nv 0 []):=xh
   have JR:Hid (Fr aH w w1):=bg
   clear xh bg
   go_loopw [6,27] (fun nv iv w'=>∃j:Nat,j<=rows.length/\iv=.int .i64 j/\w'.ownsRow w.heap.size 119 5 nv (pre rows j).length ((pre rows j).flatMap Ms.cs)/\Fr aH w w') (fun _ iv _=>rows.length-(dX iv).toNat)
   case atStart=>exact⟨0,lK _,rfl,HN1.out,JR.out⟩
   case round=>
    obtain⟨j,BR,rfl,iy,dA⟩:=hrel
    have HO:Hid (wr.ownsRow w.heap.size 119 5 u6 (pre rows j).length<|(pre rows j).flatMap Ms.cs):=iy
    have HF:Hid (Fr aH w wr):=dA
    clear iy dA
    by_cases aB:j<rows.length
    ·obtain⟨⟨v,l⟩,hx⟩:∃x,rows[j]? =ae x:=⟨_,dR aB⟩
     obtain⟨Bm,bY⟩:=HR.out (v,l)<|fD hx
     obtain⟨la,Wy,e,_⟩:=oL bY
     simp only at e bY
     subst e
     have hC1:wr.heap[C]? =ae (.cells (rows.map (·.1)).toArray 107 (0,0)):=(HF.out.block C (iU.1 HC.out).1 id).trans HC.out
     have c0:=aG hC1 (o:=j)
     simp[hx]at c0
     have J4:Hid (wr.ownsRow Bm 119 5 (.slice la l.length Wy) l.length<|l.flatMap Ms.cs):=HF.out.ownsRow bY fun _ _=>id
     have HPS:Hid (pre rows (j+1)=pre rows j++l):=abq hx
     have WA:Hid (((pre rows j).length+l.length)*40<=140737488355328):=by
      have h1:=ahN (rows:=rows)<|j+1;have h2:rows.all.length*40<=140737488355328:=HB;rw[abq hx,iQ]at h1;simp only at h1;show((pre rows j).length+l.length)*40<=140737488355328;omega
     obtain⟨v1,w2,BO,akD,akE⟩:=ahL HO.out J4.out (ahK l) WA.out<|HF.out.size
     have ZI:Hid ((Builtin.append_ #[107,107] 107 #[u6,.slice la l.length Wy]).run prog wr=.ok v1 w2):=BO
     have HO2:Hid (w2.ownsRow w.heap.size 119 5 v1 ((pre rows j).length+l.length)<|(pre rows j).flatMap Ms.cs++l.flatMap Ms.cs):=akD
     have HG2:Hid (wr.grownBy w2 u6.ownBlock):=akE
     clear hx bY hC1 BO akD akE
     go_wp2_with (at_builtin;refine ahJ rfl _ _ 107 107 rfl (v:=u6) (y:=.slice la l.length Wy) rfl rfl ZI.out ?_)
     go_roundw
     case rel=>
      refine⟨j+1,by omega,by go_num,?_,HF.out.grown HG2.out fun k hk=>.inr<|(HO.out.lt k hk).1⟩
      rw[HPS.out]
      simpa using HO2.out
     case measure=>simp[dX]<;>omega
    ·have O8:j=rows.length:=by omega
     subst O8
     have HO2:Hid (wr.ownsRow w.heap.size 119 5 u6 rows.all.length<|rows.all.flatMap Ms.cs):=by have:=HO.out;rw[ahM]at this;exact this
     clear HO
     go_wp2
     go_ret
     exact⟨_,rfl,HO2.out,HF.out⟩
end
section
section
variable{w w':ah}{B xb n:Nat}{h:HS}
variable{k q:Nat}{m:Ms}{p:PL}
def atp(hh:ay w B xb n h)(hk:h.fl[k]? =ae m)(Pq:m.k=2){i:Nat}(hi:i<6){x:PS}(hx:h.ps[i]? =ae x)(hq:m.q=q)(l9:q<4)(hp:m.p=i)(hm:lM h ⟨4,i,0,x.t⟩):
 aK prog 81 #[.pointer<|ae ⟨xb,0,af⟩,.int .i64 k] w fun r w'=>r=.returned (.int .i64 0)/\∃fv h',xH (h.gp fv<|h.fl.eraseIdx k) i x m h'/\bI w w' B xb n h n h':=by
 have HH:Hid (ay w B xb n h):=hh;have mM:=(List.getElem?_eq_some_iff.mp hk).1;have HM:Hid (decide ((0:Int)<=k/\(k:Int)<h.fl.length)=true):=jI (by omega);have HK:Hid (h.fl[k]? =ae m):=hk;have HC:Hid (∀W fv,ay W B xb n (h.gp fv<|h.fl.eraseIdx k)->aK prog 55 #[.pointer<|ae ⟨xb,4,af⟩,.agg #[.int .i64 2,.int .i64 q,.int .i64 i,.int .i64 m.t,.bool m.c]] W fun e w'=>e=.returned (.tuple #[])/\∃h',xH (h.gp fv<|h.fl.eraseIdx k) i x m h'/\bI W w' B xb n (h.gp fv<|h.fl.eraseIdx k) n h'):=fun W fv hW=>by
  have:=afk hW hi (x:=x) hx m hq l9 hp ⟨hm.small,hm.kp,hm.room,hm.end_⟩;rw[Pq,hq,hp]at this;exact this
 have aB:=aS hh.blk;have HT:Hid (∀W,ay W B xb n h->aK prog 140 #[.pointer<|ae ⟨xb,69,af⟩,.int .i64 k] W fun r w'=>r=.returned (.agg #[.int .i64 2,.int .i64 q,.int .i64 i,.int .i64 m.t,.bool m.c])/\∃fv,bI W w' B xb n h n<|h.gp fv<|h.fl.eraseIdx k):=fun W hW=>by
  have:=Vo hW hk;rw[Pq,hq,hp]at this;exact this
 clear hh hk hm hx hq hp;go_enter func81,ntmps81
 go_wp2_with (first
  |(go_at_call 139;refine(Nl HH.out k).mono ?_;rw[HM.out];rintro e w1 ⟨rfl,rfl⟩)
  |(go_at_call 140;refine(HT.out _ HH.out).mono ?_;rintro e w2 ⟨rfl,fv,dm⟩
    have M2:Hid (bI w w2 B xb n h n<|h.gp fv<|h.fl.eraseIdx k):=dm
    have nU:=aS dm.at_.blk
    clear dm))
 go_region_law
  ((go_simp;go_at_call 55;refine(HC.out _ fv<|M2.out.at_.after<|(aZ _).drew).mono ?_;rintro e w3 ⟨rfl,h',hr,dm⟩
    have R3:Hid (xH (h.gp fv<|h.fl.eraseIdx k) i x m h'/\bI w w3 B xb n h n h'):=⟨hr,M2.out.trans<|dm.behind<|(aZ _).drew⟩
    clear hr dm))
 all_goals
  go_wp2
  go_ret
  exact⟨rfl,fv,h',R3.out⟩
def atq(hh:ay w B xb n h)(hk:h.fl[k]? =ae m)(Pq:m.k=1)(hq:m.q=q)(iF:h.pl[q]? =ae p)(ho:p.out=true):
 aK prog 81 #[.pointer<|ae ⟨xb,0,af⟩,.int .i64 k] w fun r w'=>r=.returned (.int .i64 0)/\∃fv,bI w w' B xb n h n (h.gp fv<|h.fl.eraseIdx k):=by
 have HH:Hid (ay w B xb n h):=hh;have mM:=(List.getElem?_eq_some_iff.mp hk).1;have vV:=(List.getElem?_eq_some_iff.mp iF).1;have HM:Hid (decide ((0:Int)<=k/\(k:Int)<h.fl.length)=true):=jI (by omega);have aB:=aS hh.blk;have HT:Hid (∀W,ay W B xb n h->aK prog 140 #[.pointer<|ae ⟨xb,69,af⟩,.int .i64 k] W fun r w'=>r=.returned (.agg #[.int .i64 1,.int .i64 q,.int .i64 m.p,.int .i64 m.t,.bool m.c])/\∃fv,bI W w' B xb n h n<|h.gp fv<|h.fl.eraseIdx k):=fun W hW=>by
  have:=Vo hW hk;rw[Pq,hq]at this;exact this
 have yP:Hid (h.pl[q]? =ae p):=iF;have HO:Hid (p.out=true):=ho;have uV:(q:Int)<(h.pl.length:Int):=by omega
 have qV:(0:Int)<=(q:Int):=by omega
 clear hh hk hq iF ho;go_enter func81,ntmps81
 go_wp2_with (first
  |(go_at_call 139;refine(Nl HH.out k).mono ?_;rw[HM.out];rintro e w1 ⟨rfl,rfl⟩)
  |(go_at_call 140;refine(HT.out _ HH.out).mono ?_;rintro e w2 ⟨rfl,fv,dm⟩
    have M2:Hid (bI w w2 B xb n h n<|h.gp fv<|h.fl.eraseIdx k):=dm
    have nU:=aS dm.at_.blk
    obtain⟨g,cap,gZ,hg,oH,c0,c1⟩:=dm.at_.place (k:=q) (p:=p) yP.out
    rw[HO.out]at c1
    have kM:cap<=9223372036854775807:=by
     rcases dm.at_.jD.2 with⟨e,_⟩|⟨_,_,_,e,_,_,_,h2,_⟩
     ·rw[gZ]at e;cases e
     ·rw[gZ]at e;cases e;exact h2
    have cP:w2.cell? ⟨xb,68,af⟩=ae (.slice (ae ⟨g,0,af⟩) h.pl.length cap):=by
     have:=dm.at_.cV;rw[gZ]at this;exact this
    clear dm gZ))
 go_region_law
  ((go_simp;go_at_call 141;refine(anW (pb:=g) (po:=q*2) (by exact aCS _ c1) ⟨1,q,m.p,m.t,m.c⟩).mono ?_;rintro e w3 ⟨rfl,lG⟩
    have F3:Hid (Fr aH w2 w3):=((aZ _).drew).trans lG fun _ h=>h.elim
    clear lG))
 all_goals
  go_wp2_with fail
  go_simp
  go_loopw [33] (fun i w'=>i=.int .i64 0/\w'=w3) (fun _ _=>0)
  case atStart=>exact⟨rfl,rfl⟩
  case round=>
   obtain⟨rfl,rfl⟩:=hrel
   go_wp2
   go_ret
   exact⟨rfl,fv,M2.out.after F3.out⟩
def atr(hh:ay w B xb n h)(ha:iC h.pl)(hk:h.fl[k]? =ae m)(Pq:m.k=1)(hq:m.q=q)(iF:h.pl[q]? =ae p)(ho:p.out=false)
 (hp:(Lit.int .i64 m.p).wf=true)(hn:n<dH)(hb:(p.s.es.length+1)*40<=140737488355328):
 aK prog 81 #[.pointer<|ae ⟨xb,0,af⟩,.int .i64 k] w fun r w'=>r=.returned (.int .i64 0)/\∃fv v' w3,bI w w3 B xb n h (n+1) ((h.gp fv<|h.fl.eraseIdx k).gy q ⟨p.lb,p.bm,v',p.s.closed m.p m.t m.c,p.out⟩)/\iC ((h.gp fv<|h.fl.eraseIdx k).gy q ⟨p.lb,p.bm,v',p.s.closed m.p m.t m.c,p.out⟩).pl/\
  wM w3 w' B xb (n+1) ((h.gp fv<|h.fl.eraseIdx k).gy q ⟨p.lb,p.bm,v',p.s.closed m.p m.t m.c,p.out⟩) m.kC:=by
 have HH:Hid (ay w B xb n h):=hh
 have mM:=(List.getElem?_eq_some_iff.mp hk).1
 have vV:=(List.getElem?_eq_some_iff.mp iF).1
 have HM:Hid (decide ((0:Int)<=k/\(k:Int)<h.fl.length)=true):=jI<|by omega
 have aB:=aS hh.blk
 have HT:Hid (∀W,ay W B xb n h->aK prog 140 #[.pointer<|ae ⟨xb,69,af⟩,.int .i64 k] W fun r w'=>r=.returned (.agg #[.int .i64 1,.int .i64 q,.int .i64 m.p,.int .i64 m.t,.bool m.c])/\∃fv,bI W w' B xb n h n<|h.gp fv<|h.fl.eraseIdx k):=fun W hW=>by
  have:=Vo hW hk;rw[Pq,hq]at this;exact this
 have yP:Hid (h.pl[q]? =ae p):=iF
 have HO:Hid (p.out=false):=ho
 have HA:Hid (iC h.pl):=ha
 have HP:Hid ((Lit.int .i64 m.p).wf=true):=hp
 have HN:Hid (n<dH):=hn
 have HB:Hid ((p.s.es.length+1)*40<=140737488355328):=hb
 have HAK:Hid (m.kC=⟨2,q,m.p,m.t,m.c⟩):=by
  obtain⟨mk,mq,mp,mt,mc⟩:=m;cases hq;rfl
 have uV:(q:Int)<(h.pl.length:Int):=by omega
 have qV:(0:Int)<=(q:Int):=by omega
 clear hh hk hq iF ho ha hp hn hb
 go_enter func81,ntmps81
 go_wp2_with (first
  |(go_at_call 139;refine(Nl HH.out k).mono ?_;rw[HM.out];rintro e w1 ⟨rfl,rfl⟩)
  |(go_at_call 140;refine(HT.out _ HH.out).mono ?_;rintro e w2 ⟨rfl,fv,dm⟩
    have M2:Hid (bI w w2 B xb n h n<|h.gp fv<|h.fl.eraseIdx k):=dm
    have nU:=aS dm.at_.blk
    obtain⟨g,cap,gZ,hg,oH,c0,c1⟩:=dm.at_.place (k:=q) (p:=p) yP.out
    rw[HO.out]at c1
    have kM:cap<=9223372036854775807:=by
     rcases dm.at_.jD.2 with⟨e,_⟩|⟨_,_,_,e,_,_,_,h2,_⟩
     ·rw[gZ]at e;cases e
     ·rw[gZ]at e;cases e;exact h2
    have cP:w2.cell? ⟨xb,68,af⟩=ae (.slice (ae ⟨g,0,af⟩) h.pl.length cap):=by
     have:=dm.at_.cV;rw[gZ]at this;exact this
    clear dm gZ))
 go_region_law
  ((go_simp;go_at_call 141;refine(anX (pb:=g) (po:=q*2) ((M2.out.at_.after<|(aZ _).drew).dG p<|fD yP.out) (by exact aCS _ c0) (by exact aCS _ c1) ⟨1,q,m.p,m.t,m.c⟩ HP.out HN.out HB.out).mono ?_;rintro e w3 ⟨b,v',rfl,lH,hbs,Pv⟩
    have L3:=(M2.out.at_.after<|(aZ _).drew).U1 HA.out yP.out (Nat.le_succ n) Pv
    have M3:Hid (bI w w3 B xb n h (n+1)<|(h.gp fv<|h.fl.eraseIdx k).gy q ⟨p.lb,p.bm,v',p.s.closed m.p m.t m.c,p.out⟩):=M2.out.trans<|L3.1.behind<|(aZ _).drew
    have A3:Hid (iC ((h.gp fv<|h.fl.eraseIdx k).gy q ⟨p.lb,p.bm,v',p.s.closed m.p m.t m.c,p.out⟩).pl):=L3.2
    have x0:w3.cell? ⟨b,0,af⟩=ae (.int .i64 2):=(aG lH 0).trans rfl
    have x1:w3.cell? ⟨b,1,af⟩=ae (.int .i64 q):=(aG lH 1).trans rfl
    have x2:w3.cell? ⟨b,2,af⟩=ae (.int .i64 m.p):=(aG lH 2).trans rfl
    have x3:w3.cell? ⟨b,3,af⟩=ae (.int .i64 m.t):=(aG lH 3).trans rfl
    have x4:w3.cell? ⟨b,4,af⟩=ae (.bool m.c):=(aG lH 4).trans rfl
    have DT:=aS lH
    have uT:=aS M3.out.at_.blk
    clear Pv L3 lH hbs))
 all_goals
  go_wp2_with fail
  go_simp
  go_loopw [33] (fun i w'=>(i=.int .i64 0/\w'=w3)\/(i=.int .i64 1/\wM w3 w' B xb (n+1) ((h.gp fv<|h.fl.eraseIdx k).gy q ⟨p.lb,p.bm,v',p.s.closed m.p m.t m.c,p.out⟩) m.kC)) (fun i _=>1-(dX i).toNat)
  case atStart=>exact .inl ⟨rfl,rfl⟩
  case round=>
   rcases hrel with⟨rfl,rfl⟩|⟨rfl,hs⟩
   ·go_wp2_with fail
    go_region_law
     ((go_simp;go_at_call 120;refine(ZQ (M3.out.at_.after<|(aZ _).drew) ⟨2,q,m.p,m.t,m.c⟩).mono ?_;rintro e w4 ⟨rfl,hs⟩
       have S4:Hid (wM wr w4 B xb (n+1) ((h.gp fv<|h.fl.eraseIdx k).gy q ⟨p.lb,p.bm,v',p.s.closed m.p m.t m.c,p.out⟩) m.kC):=by
        show wM _ _ _ _ _ _ _;rw[HAK.out];exact hs.behind<|(aZ _).drew
       clear hs))
    all_goals
     go_wp2
     go_roundw
     case rel=>exact .inr ⟨by go_num,S4.out⟩
     case measure=>simp[dX]
   ·have S3:Hid (wM w3 wr B xb (n+1) ((h.gp fv<|h.fl.eraseIdx k).gy q ⟨p.lb,p.bm,v',p.s.closed m.p m.t m.c,p.out⟩) m.kC):=hs
    clear hs
    go_wp2
    go_ret
    exact⟨rfl,fv,v',w3,M3.out,A3.out,S3.out⟩
end
end
end Go.Proofs.YtkelpcjiediamaaGreat
