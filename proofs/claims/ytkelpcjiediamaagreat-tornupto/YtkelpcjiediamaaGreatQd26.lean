import Derived.Test.YtkelpcjiediamaaGreatQd25
set_option maxRecDepth 100000
set_option maxHeartbeats 0
set_option linter.all false
namespace Go.Proofs.YtkelpcjiediamaaGreat
open Go renaming Calls→aU,Frame→bu,TypeId→dw,Value→az,World→aj,execOp→dP,maxLen→dU,stepG→bD,undef→ai
open Go.Ending renaming returned→aT
open Go.IntKind renaming i64→ah
open Go.Item renaming inRegion→bQ
open Go.Obj renaming cells→aC
open Go.Value renaming agg→gY,bool→aB,int→ag,pointer→ay,slice→aJ,string→dA
open Option renaming none→af,some→ae
open Go.Proofs.Tryz
open Go.RowKit Go.Maps
section
open _root_.Go.Proofs.YtkelpcjiediamaaGreat.Twin (yV kJ fC Bh Bg HS.taken)
def TR(h h3:HS):Prop:=∃fZ h2,Bh h h.fl fZ/\pW (HS.taken h fZ) (fC h.fl++kJ h.fl h.pl) h2/\Bg h2 h3
inductive Lv(T:Int)(fl:List Ms)(i:Nat)(x:PS)(m:Nat):Prop
 |idle (hs:x.s=0)
 |going (hs:x.s=1) (hm:T-x.si+2<=m)
 |due (hs:x.s=2\/x.s=3) (hm:x.wa+1<=m)
 |Em (hs:x.s=2\/x.s=3) (hm:1<=m) (hf:∀q∈bI x.aZ 2 4,∃c,(⟨1,q,i,x.t,c⟩:Ms)∈fl)
section
variable{N:Nat}{h h' h1 h2 h3:HS}{L:List Rc}{i j m:Nat}{x y:PS}
variable{fl:List Ms}{z:Ms}{pl:List PL}
def Lv.mono{T:Int}{fl':List Ms}{k:Nat}(v:Lv T fl i x m)(hf:∀z∈fl,z∈fl')(hk:m<=k):Lv T fl' i x k:=by
 cases v with
 |idle hs=>exact .idle hs
 |going hs hm=>exact .going hs<|by omega
 |due hs hm=>exact .due hs<|by omega
 |Em hs hm EK=>exact .Em hs (by omega) fun q hq=>(EK q hq).imp fun c hc=>hf _ hc
def awu(hb:h.br=false)(hq:0<=z.q/\z.q<4)(hx:h.ps[i]? =ae x)(hj:z.p=(j:Int))(hy:h.ps[j]? =ae y)(a:yM h j y z h1):
 h1.br=false/\h1.up=h.up/\∃x1,h1.ps[i]? =ae x1/\(x1.s=0\/(x1.s=x.s/\x1.t=x.t/\x1.si=x.si/\x1.wa=x.wa/\∀q:Nat,2<=x1.aZ.getD q 0->2<=x.aZ.getD q 0/\¬(h.up=true/\(x.s=2\/x.s=3)/\z.p=i/\z.t=x.t/\z.q=q))):=by
 have KA:=(dM.1 hy).1;cases a with
 |idle hi=>
  refine⟨hb,rfl,x,hx,.inr ⟨rfl,rfl,rfl,rfl,fun q h2=>⟨h2,fun⟨z1,z2,z3,z4,z5⟩=>?_⟩⟩⟩;obtain rfl:j=i:=by omega
  rw[hx]at hy;cases hy;exact hi ⟨z1,z2,z4.symm⟩
 |done hi ht hw=>
  cases hw with
  |ru jv qc=>rw[hb]at qc;cases qc
  |ok jv _=>
   refine⟨hb,rfl,?_⟩;rw[OB hy rfl];by_cases e:j=i
   ·subst e;exact⟨_,mQ KA,.inl<|by simp[PS.bY]⟩
   ·exact⟨x,(uZ e).trans hx,.inr ⟨rfl,rfl,rfl,rfl,fun q h2=>⟨h2,fun z=>e<|by omega⟩⟩⟩
 |tie hi ht=>
  refine⟨hb,rfl,?_⟩;by_cases e:j=i
  ·subst e;rw[hx]at hy;cases hy;obtain⟨_,r2,r3,r4,r5,_⟩:=G6 x z.q.toNat 1;refine⟨_,mQ KA,.inr ⟨r3,r2,r4,r5,fun q h2=>?_⟩⟩;rw[G5 x z.q.toNat 1 (by omega) (by omega) q]at h2;split at h2
   ·omega
   ·exact⟨h2,fun w=>by omega⟩
  ·exact⟨x,(uZ e).trans hx,.inr ⟨rfl,rfl,rfl,rfl,fun q h2=>⟨h2,fun z=>e<|by omega⟩⟩⟩
def awv{A:List Ms}:∀{h:HS} {x:PS},h.br=false->h.up=true->(∀z∈A,0<=z.q/\z.q<4)->pW h A h2->h.ps[i]? =ae x->
 ∃x2,h2.ps[i]? =ae x2/\(x2.s=0\/(x2.s=x.s/\x2.t=x.t/\x2.si=x.si/\x2.wa=x.wa/\∀q:Nat,2<=x2.aZ.getD q 0->2<=x.aZ.getD q 0/\((x.s=2\/x.s=3)->∀z∈A,¬(z.p=i/\z.t=x.t/\z.q=q)))):=by
 induction A with
 |nil=>
  intro h x _ _ _ k hx;cases k;exact⟨x,hx,.inr ⟨rfl,rfl,rfl,rfl,fun q h2=>⟨h2,fun _ z hz=>by simp at hz⟩⟩⟩
 |cons z A ih=>
  intro h x hb hu hq k hx;cases k with
  |cons hi hy a r=>
   obtain⟨b1,u1,x1,gJ,ho⟩:=awu hb (hq z<|by simp) hx hi hy a;obtain⟨x2,qh,Vh⟩:=ih b1 (u1.trans hu) (fun z hz=>hq z<|by simp[hz]) r gJ;refine⟨x2,qh,?_⟩;rcases ho with ho|⟨e1,e2,e3,e4,e5⟩
   ·rcases Vh with h0|⟨f1,_⟩
    ·exact .inl h0
    ·exact .inl<|f1.trans ho
   ·rcases Vh with h0|⟨f1,f2,f3,f4,f5⟩
    ·exact .inl h0
    ·refine .inr ⟨f1.trans e1,f2.trans e2,f3.trans e3,f4.trans e4,fun q h2=>?_⟩;obtain⟨g1,g2⟩:=f5 q h2;obtain⟨g3,g4⟩:=e5 q g1;refine⟨g3,fun hs y hy=>?_⟩;rcases jR.1 hy with rfl|hy
     ·exact fun w=>g4 ⟨hu,hs,w⟩
     ·have:=g2 (by rw[e1];exact hs) y hy;rw[e2]at this;exact this
def akd(ts:List Int)(l:Int):(bI ts l 4).length<=4:=by
 unfold bI;rw[EZ];exact eG (GH _ _)<|by simp
def adA{i t:Int}{c:Bool}:∀(qs:List Int) {l:List Ms},l.length+qs.length<=100->(∀z∈l,z∈vz l i t c qs)/\(∀q∈qs,(⟨1,q,i,t,c⟩:Ms)∈vz l i t c qs)/\(vz l i t c qs).length<=l.length+qs.length
 |[],l,_=>⟨fun _ hz=>hz,by simp,dm _⟩
 |q::qs,l,hl=>by
  rw[oq]at hl;have e:sF l ⟨1,q,i,t,c⟩=l++[⟨1,q,i,t,c⟩]:=by unfold sF;rw[if_neg<|by omega]
  have hs:vz l i t c (q::qs)=vz (l++[⟨1,q,i,t,c⟩]) i t c qs:=by rw[<-e];rfl
  obtain⟨k1,k2,k3⟩:=adA (i:=i) (t:=t) (c:=c) qs (l:=l++[⟨1,q,i,t,c⟩]) (by simp<;>omega);rw[hs];refine⟨fun z hz=>k1 z<|by simp[hz],fun q' sQ=>?_,by simp at k3⊢;omega⟩;rcases jR.1 sQ with rfl|sQ
  ·exact k1 _<|by simp
  ·exact k2 q' sQ
def aww(zi:i≠j)(_:h.br=false)(_:h.ps[j]? =ae y)(l:vC h j y true h'):h'.ps[i]? =h.ps[i]? :=by
 cases l with
 |wH=>exact uZ zi.symm
 |idle=>rfl
 |timeout hs ht hw=>
  cases hw with
  |ok jv _=>
   show(jV _ _)[i]? =_;simp only[jV,Oc,HS.dQ,List.set_set];exact uZ zi.symm
 |rem hs hr=>cases hr<;>exact uZ zi.symm
def awx(hl:h.fl.length+4<=100)(l:vC h j y true h'):(∀z∈h.fl,z∈h'.fl)/\h'.fl.length<=h.fl.length+4/\h'.T=h.T:=by
 cases l with
 |wH=>exact⟨fun _ z=>z,VW _ _,rfl⟩
 |idle=>exact⟨fun _ z=>z,VW _ _,rfl⟩
 |timeout hs ht hw=>
  cases hw with
  |ok jv _=>exact⟨fun _ z=>z,VW _ _,rfl⟩
 |rem hs hr=>
  cases hr with
  |wait=>exact⟨fun _ z=>z,VW _ _,rfl⟩
  |due fv hw=>
   have:=akd y.aZ 2;obtain⟨k1,_,k3⟩:=adA (i:=j) (t:=y.t) (c:=y.s==2) (bI y.aZ 2 4) (l:=h.fl) (by omega);exact⟨k1,eG k3<|by omega,rfl⟩
def awy(c:Sn N h L)(hu:h.up=true)(hx:h.ps[i]? =ae x)(hl:h.fl.length+4<=100)(l:vC h i x true h')(v:Lv h.T [] i x (m+1)):∃x',h'.ps[i]? =ae x'/\Lv h'.T h'.fl i x' m:=by
 have pr:=c.up hu i x hx;have lL:=(dM.1 hx).1;have Zi:=pr.c.si;cases l with
 |idle hs=>
  refine⟨x,hx,?_⟩;cases v with
  |idle h0=>exact .idle h0
  |going h1=>exact absurd (.inl h1) hs
  |due h1=>exact absurd (.inr h1) hs
  |Em h1=>exact absurd (.inr h1) hs
 |wH hs ht=>
  refine⟨_,mQ lL,?_⟩;cases v with
  |idle h0=>omega
  |going _ hm=>exact .going hs (by show h.T-(x.si+1)+2<=m;omega)
  |due h1=>omega
  |Em h1=>omega
 |timeout hs ht hw=>
  cases hw with
  |ok jv _=>
   have gJ:(h.dQ i {x with si:=x.si+1}).ps[i]? =ae {x with si:=x.si+1}:=mQ lL;rw[OB gJ rfl];refine⟨_,mQ (by show i<(h.ps.set i _).length;rw[zF];exact lL),?_⟩;cases v with
   |idle h0=>omega
   |going _ hm=>exact .due (.inr<|by simp[PS.bY]) (by simp only[PS.bY];simp<;>omega)
   |due h1=>omega
   |Em h1=>omega
 |rem hs hr=>
  have pn:=pr.p.Ce (by omega);have du:=pr.c.due (by omega);have hm:x.wa+1<=(m+1:Nat):=by
   cases v with
   |idle h0=>omega
   |going h1=>omega
   |due _ hm=>exact hm
   |Em _ _ hf=>
    obtain⟨q,hq⟩:=List.exists_mem_of_ne_nil _ pn;obtain⟨_,hc⟩:=hf q hq;simp at hc
  cases hr with
  |wait hw=>exact⟨_,mQ lL,.due hs (by show x.wa-1+1<=(m:Int);omega)⟩
  |due fv hw=>
   refine⟨_,mQ lL,.Em hs (by omega) fun q hq=>⟨x.s==2,?_⟩⟩;have:=akd x.aZ 2;exact(adA (i:=i) (t:=x.t) (c:=x.s==2) (bI x.aZ 2 4) (l:=h.fl)<|by omega).2.1 q hq
def awz(c:Sn N h L)(hu:h.up=true)(hf:h.fl=[])(t:qM h j h1):(j:Int)<=h.P->h1.fl.length<=4*j/\h1.T=h.T/\∀(i:Nat) (x:PS),h.ps[i]? =ae x->Lv h.T [] i x (m+1)->∃x1,h1.ps[i]? =ae x1/\(i<j->Lv h1.T h1.fl i x1 m)/\(j<=i->x1=x):=by
 induction t with
 |zero=>exact fun _=>⟨by rw[hf];simp,rfl,fun i x hx _=>⟨x,hx,fun z=>by omega,fun _=>rfl⟩⟩
 | @succ k g g' y t hy l ih=>
   intro hj;obtain⟨L1,c1,w1,_⟩:=c.PM hu t (by omega);obtain⟨k1,k2,k3⟩:=ih (by omega);have hP:=c.P1;have hl:g.fl.length+4<=100:=by omega
   have Z4:g.up=true:=w1.up.trans hu;obtain⟨f1,f2,f3⟩:=awx hl l;refine⟨by omega,f3.trans k2,fun i x hx v=>?_⟩;obtain⟨x1,gJ,v1,e1⟩:=k3 i x hx v;by_cases hi:i=k
   ·subst hi;obtain rfl:=e1<|dm _;rw[gJ]at hy;cases hy;obtain⟨x2,qh,v2⟩:=awy c1 Z4 gJ hl l (by rw[k2];exact v);exact⟨x2,qh,fun _=>v2,fun z=>by omega⟩
   ·refine⟨x1,(aww hi c1.br hy l).trans gJ,fun z=>?_,fun z=>e1<|by omega⟩;rw[f3];exact(v1<|by omega).mono f1<|dm _
def awC{q:Nat}{p:PL}(hz:z∈fl)(hk:z.k=1)(hq:z.q=(q:Int))(hp:pl[q]? =ae p)(ho:p.out=false):z.kZ∈kJ fl pl:=by
 unfold kJ;refine aal.2 ⟨q,GN.2 (dM.1 hp).1,?_⟩;simp only[hp,ho,kP,kQ];exact Je.2 ⟨z,KU.2 ⟨hz,by simp[hk,hq]⟩,rfl⟩
def ake(c:Sn N h L)(hN:N<=90000000)(hu:h.up=true)(hQ:h.Q=h.pl.length)(ho:∀(q:Nat) (p:PL),h.pl[q]? =ae p->p.out=false)(r:TR h h3)(v:∀(i:Nat) (x:PS),(i:Int)<h.P->h.ps[i]? =ae x->Lv h.T h.fl i x (m+1)):
 (∀(i:Nat) (x:PS),(i:Int)<h.P->h3.ps[i]? =ae x->Lv h3.T h3.fl i x m)/\(∀(q:Nat) (p:PL),h3.pl[q]? =ae p->p.out=false):=by
 obtain⟨fZ,h2,hs,kr,tk⟩:=r;obtain⟨c1,_,_⟩:=c.taken hN hs;have ak:=c.oV hN hs;obtain⟨L2,c2,w2,p2,f2⟩:=c1.XY ak kr;have QI:h2.up=true:=w2.up.trans hu;have hP:=c.P1;have Yk:=c.Q1;have pl2:∀(q:Nat) (p:PL),h2.pl[q]? =ae p->p.out=false:=fun q p hp=>by
  rw[p2]at hp;have vU:fZ[q]? =ae p:=hp;have hl:q<h.pl.length:=by rw[<-hs.len];exact(dM.1 vU).1
  obtain⟨v',e⟩:=hs.get q _<|eY hl;rw[e]at vU;cases vU;exact ho q h.pl[q]<|eY hl
 have hA:∀z∈fC h.fl++kJ h.fl h.pl,0<=z.q/\z.q<4:=fun z hz=>by
  have h1:=(ak z hz).1.q;have h2:(HS.taken h fZ).Q=h.Q:=rfl;omega
 have v2:∀(i:Nat) (x:PS),(i:Int)<h.P->h2.ps[i]? =ae x->Lv h2.T [] i x (m+1):=fun i x hi qh=>by
  have lL:i<h.ps.length:=by rw[c.h6];omega
  obtain⟨y,hy⟩:∃y,h.ps[i]? =ae y:=⟨_,eY lL⟩;obtain⟨x2,akf,tr⟩:=awv (h:=HS.taken h fZ) c.br hu hA kr hy;rw[qh]at akf;cases akf;have hT:h2.T=h.T:=w2.T;rcases tr with h0|⟨e1,e2,e3,e4,e5⟩
  ·exact .idle h0
  cases v i y hi hy with
  |idle h0=>exact .idle<|e1.trans h0
  |going h1 hm=>exact .going (e1.trans h1) (by rw[hT,e3];exact hm)
  |due h1 hm=>exact .due (by rw[e1];exact h1) (by rw[e4];exact hm)
  |Em h1 hm hf=>
   exfalso;have hpn:=(c2.up QI i x qh).p.Ce (by rw[e1];omega);obtain⟨q,hq⟩:=List.exists_mem_of_ne_nil _ hpn;obtain⟨k,xZ,rfl,h2k⟩:=OJ.1 hq;obtain⟨g1,g2⟩:=e5 k h2k;obtain⟨cc,hc⟩:=hf k<|OJ.2 ⟨k,xZ,rfl,g1⟩;have TJ:=(c.ms _ hc).1.q;have nZ:k<h.pl.length:=by have:(k:Int)<h.Q:=TJ.2;omega
   have fE:=awC (pl:=h.pl) hc rfl rfl (eY nZ)<|ho k _<|eY nZ;exact g2 h1 _ (aah _ fE) ⟨rfl,rfl,rfl⟩
 cases tk with
 |down hd=>rw[QI]at hd;cases hd
 |up _ t=>
  have jP:h2.fl=[]:=f2;cases t with
  |ru hj t hx l=>
   obtain⟨L3,c3,w3,_⟩:=c2.PM QI t (by have:=c2.P1;omega);have:=(c3.look (w3.up.trans QI) (by rw[w3.P];omega) hx l).1;cases this
  |all t=>
   have hP2:h2.P=h.P:=w2.P;obtain⟨L3,c3,w3,p3⟩:=c2.PM QI t (by have:=c2.P1;omega);refine⟨fun i x hi hx=>?_,fun q p hp=>pl2 q p (by rw[<-p3];exact hp)⟩;have lL:i<h2.ps.length:=by rw[c2.h6];omega
   have hy:=eY lL;obtain⟨_,_,k3⟩:=awz (m:=m) c2 QI jP t (by have:=c2.P1;omega);obtain⟨x1,gJ,v1,_⟩:=k3 i _ hy<|v2 i _ hi hy;rw[hx]at gJ;cases gJ;exact v1<|by omega
def Lv.over{T K:Int}{z:St}(v:Lv T fl i x 0)(p:PR pl T K z i x):x.s=0:=by
 have h1:=p.c.si;cases v with
 |idle hs=>exact hs
 |going hs hm=>omega
 |due hs hm=>have:=p.c.due (by omega);omega
 |Em hs hm=>omega
end
end
section
variable{a:Addr}{v:az}{b:Nat}
def akg{fo s0:Nat->Prop}{w:aj}(bP:au.oQ (au.bJ fo s0) w)(h1:¬(s0 a.block\/fo a.block))(hc:w.cell? a=ae v):au.aG ((au.bJ fo s0).cut w.heap.size) v:=
 bP.obj.cell (fun z=>z.elim h1 fun y=>by have:=nU hc;have:w.heap.size<=a.block:=y;omega) hc
def awE{fo s0:Nat->Prop}{w:aj}(bP:au.oQ (au.bJ fo s0) w){off:Nat}(h1:¬(s0 a.block\/fo a.block))(hc:w.cell? a=ae (ay<|ae ⟨b,off,af⟩)):¬(s0 b\/fo b):=fun z=>(akg bP h1 hc).ptr<|.inl z
def MM{fo s0:Nat->Prop}{w:aj}(bP:au.oQ (au.bJ fo s0) w)(h1:¬(s0 a.block\/fo a.block))(hc:w.cell? a=ae v)(hb:v.ownBlock=ae b):¬(s0 b\/fo b):=fun z=>Twin.TC (akg bP h1 hc) hb<|.inl z
section
variable{w w1 w':aj}{B pb xb N:Nat}{s s':dB}{fo s0:Nat->Prop}
def gQ.same{h:HS}{g:PG}{v:PV}(a:gQ w B pb xb h g v)(e:w1.heap=w.heap):gQ w1 B pb xb h g v:=by
 have row:∀{ty:dw} {wd:Nat} {v:az} {k:Nat} {xs:List az},w.ownsRow B ty wd v k xs->w1.ownsRow B ty wd v k xs:=fun{ty wd v k xs} ho=>by
  refine⟨ho.1,?_⟩;rcases ho.2 with⟨q1,q2⟩|⟨g,cap,cur,q1,q2,q3,q4⟩
  ·exact .inl ⟨q1,q2⟩
  ·exact .inr ⟨g,cap,cur,q1,q2,by rw[e];exact q3,q4⟩
 exact⟨by rw[e];exact a.blk,row a.ep,row a.wr,row a.fa,row a.gt,a.gl,fun q u l h1 h2=>row<|a.rc q u l h1 h2,row a.st,a.ap,a.hb⟩
def bH.same(a:bH w B pb xb N s)(e:w1.heap=w.heap):bH w1 B pb xb N s:=⟨Twin.aF.same a.ha (fun b _=>by rw[e]) (by rw[e];exact dm _),a.ax,a.pa.same e,a.pg,a.wr,a.fa⟩
def bH.re(a:bH w B pb xb N s)(t:Nat->Question->Nat)(d:Nat):bH (au.re w t d) B pb xb N s:=a.same rfl
def bH.free(a:bH w B pb xb N s)(bP:au.oQ (au.bJ fo s0) w)(hp:¬(s0 pb\/fo pb)):∀b,s.fA pb xb b->¬(s0 b\/fo b):=by
 obtain⟨c0,_,_,c5,_,c7,c8,c9,Z7⟩:=a.cells;have hx:¬(s0 xb\/fo xb):=awE bP (a:=⟨pb,0,af⟩) hp c0;rintro b (hk|rfl|hk|hk|hk|hk|hk|⟨u,hu,hk⟩)
 ·exact Twin.aF.free a.ha bP hx b hk
 ·exact hp
 ·exact MM bP (a:=⟨pb,5,af⟩) hp c5 hk
 ·exact MM bP (a:=⟨pb,7,af⟩) hp c7 hk
 ·exact MM bP (a:=⟨pb,8,af⟩) hp c8 hk
 ·exact MM bP (a:=⟨pb,9,af⟩) hp c9 hk
 ·exact MM bP (a:=⟨pb,10,af⟩) hp Z7 hk
 ·obtain⟨k,kL⟩:=VN.1 hu;have nZ:=(dM.1 kL).1;obtain⟨gg,gc,wz,_⟩:=vN a.pa.gt (by omega);have Gt:¬(s0 gg\/fo gg):=MM bP (a:=⟨pb,9,af⟩) hp c9 (by rw[wz];rfl);have hr:=a.pa.gt;rw[wz]at hr;exact MM bP (a:=⟨gg,k,af⟩) Gt (by rw[hr.cellAt k<|by omega];exact kL) hk
structure wV(w w':aj)(B pb xb:Nat)(s:dB)(N:Nat)(s':dB):Prop where
 at_:bH w' B pb xb N s'
 dL:Fr (fun k=>B<=k) w w'
 cf:s'.h.P=s.h.P/\s'.h.Q=s.h.Q/\s'.h.T=s.h.T/\s'.h.K=s.h.K
variable{M:Nat}
def bW.zY(a:bH w B pb xb M s)(t:bW w w' B pb xb s N s'):wV w w' B pb xb s N s':=⟨t.at_,t.dL a,t.cf⟩
def wV.mono(t:wV w w' B pb xb s N s')(hM:N<=M):wV w w' B pb xb s M s':=⟨t.at_.mono hM,t.dL,t.cf⟩
def wV.trans{s2:dB}(a:wV w w1 B pb xb s M s2)(b:wV w1 w' B pb xb s2 N s'):wV w w' B pb xb s N s':=
 ⟨b.at_,a.dL.trans b.dL fun _=>.inl,⟨b.cf.1.trans a.cf.1,b.cf.2.1.trans a.cf.2.1,b.cf.2.2.1.trans a.cf.2.2.1,b.cf.2.2.2.trans a.cf.2.2.2⟩⟩
def adB(a:bH w B pb xb N s)(hN:N<=70000000)(hp:¬(s0 pb\/fo pb))(hB:∀k,s0 k->B<=k):
 au.tX (au.bJ fo s0) prog 20 #[ay<|ae ⟨xb,0,af⟩] w (fun B' v w'=>∃Wg s2,B'=au.bJ fo (fun b=>s0 b\/b=Wg)/\w.heap.size<=Wg/\v=ag ah s.h.fl.length/\wV w w' B pb xb s (N+306) s2/\s2.g=s.g/\s2.h.up=s.h.up/\TR s.h s2.h/\∀p t b,gm s.L p t b->gm s2.L p t b):=by
 intro c cs;refine au.Reach.ok fun bP=>?_;have BJ:=a.free bP hp;have hx:¬(s0 xb\/fo xb):=BJ xb<|.inl<|.inl rfl;have sn:=a.pg.sn;have DC:=XZ s.h.fl s.h.pl;have BB:=sn.fl;have key:=Twin.au3 (s:=s0) a.ha a.ax hx sn.fl (by omega) (fun p hp=>by
  obtain⟨q,hq⟩:=VN.1 hp;have:=(sn.ed q p hq).fB;omega) (fun m hm=>(sn.WO (by omega) (sn.ms m hm).1).1) (fun m hm _=>by
  have h1:=(sn.ms m hm).1.q;have h2:=a.ha.hQ.1;exact⟨m.q.toNat,by omega,by omega⟩) (fun fZ k h2 m hs kr hm=>sn.avk (by omega) hs kr hm) (fun fZ h2 hs kr hu j h1 x hj t hx=>sn.avl (by omega) hs kr hu hj t hx) (by omega)
 refine(key c cs).mono ?_;rintro B' fr' w' ⟨v,rfl,Wg,h3,rfl,rfl,pr⟩;obtain⟨fZ,h2,hs,_,kr,tk⟩:=pr.ex;obtain⟨L',sn',wd⟩:=sn.round (by omega) hs kr tk;refine⟨_,rfl,Wg,⟨h3,L',s.g,s.v⟩,rfl,pr.wg,rfl,?_,rfl,wd.up,⟨fZ,h2,hs,kr,tk⟩,fun _ _ _ d=>wd.qt.more d⟩;have Vf:∀b,s.v.fA pb b->w'.heap[b]? =w.heap[b]? :=fun b hb=>pr.fr b (a.pa.qK hb).1 (fun z=>BJ b (.inr hb)<|.inl z) fun z=>a.ha.off a.pa z hb;have f:Fr (fun k=>¬s.v.fA pb k) w w':=⟨pr.os,pr.tape,pr.output,pr.size,fun k _ hk=>Vf k<|Classical.not_not.1 hk⟩;have p1:=a.pa.stay f fun k e hk=>e hk;refine⟨⟨pr.at_.mono<|by omega,pr.apart,⟨?_,p1.ep,p1.wr,p1.fa,p1.gt,p1.gl,p1.rc,p1.st,p1.ap,p1.hb⟩,a.pg.Eh sn' wd,eG a.wr<|by omega,eG a.fa<|by omega⟩,⟨pr.os,pr.tape,pr.output,pr.size,fun k hk hb=>?_⟩,⟨wd.P,wd.Q,wd.T,wd.K⟩⟩
 ·show _=ae (Obj.cells #[_,ag ah h3.P,ag ah h3.Q,ag ah h3.T,ag ah h3.K,_,_,_,_,_,_] 48 (0,0));rw[wd.P,wd.Q,wd.T,wd.K];exact p1.blk
 ·exact pr.fr k hk (fun z=>hb<|hB k z) fun z=>hb (a.ha.qK z).2
end
end
section
open Go Go.Conc Twin fJ
def akh{fo s:Nat->Prop}{b:bu}{a:Act}{ops:Array Oper}{i:Nat}{rest:List Nat}{k:List Item}{cs cs2:List bu}{w:aj}{Q:au.cO->bu->aj->Prop}{o:Oper}{v:az}
 (ho:ops[i]? =ae o)(hw:Region.wanted o (yielded ops a.tmps)=true)(hk:b.kind≠.early)(aO:au.sG prog (au.bJ fo s).let_ o.op=true)(hf:∃fn,prog.funcs[b.fn]? =ae fn)(KE:au.bT (au.bJ fo s) a.tmps)
 (hr:∀d,(dP a.eval o).run prog (w.at d)=.ok (.value v) (w.at d))
 (hn:∀d,au.Reach (au.bJ fo s) prog (b.at (a.put o.dst v)<|bQ ops rest::k) cs (w.at d) Q cs2):au.Reach (au.bJ fo s) prog (b.at a<|bQ ops (i::rest)::k) cs w Q cs2:=by
 refine au.Reach.ok fun bP=>au.Reach.step fun d=>?_;have h5:∀q,s q\/fo q->1<=q:=fun q hq=>(bP.low q hq).1;have L:=au.lets h5;obtain⟨fn,qy⟩:=hf;let fr:Frame:={(default:bu)with fn:=b.fn,kind:=.normal,tmps:=a.tmps}
 have hF:au.fO (au.bJ fo s) prog fr:=⟨⟨fn,qy⟩,KE,(fun it jy=>absurd jy<|by simp[fr,default,instInhabitedFrame.default]),rfl,.inl rfl,rfl,rfl⟩;have hE:au.Env (au.bJ fo s) prog a.eval:=hF.env L.toFit;have hc:=au.abM L.toFit L.abO hE (o:=o) aO;have dS:=ajn hc (w:=w.at d) ⟨bP.okW.obj,bP.okW.low⟩<|hr d;refine⟨_,_,w.at d,_,aEF ho hw hk<|hr d,⟨bP.obj,bP.low,bP.mG⟩,dm _,fun e he=>?_,hn d⟩;exact au.LM<|dS e<|aD4 he
end
section
noncomputable def adE:Code:=au.cutAt (.refuse "") [true,false,true,false]<|Tryz.f108.body.getD .skip
def awG:au.codeOk prog au.lF adE=true:=by kernel_rfl
def akj(args:Array az)(w:aj)(R:Ending->aj->Prop):Prop:=
 adE.wp prog (bodyPost prog Tryz.f108 R) {tmps:=args++Array.replicate (Tryz.f108.ntmps-args.size) ai,defers:=[]} w
section
variable{w w':aj}{B pb xb N:Nat}{s s':dB}{fo s0:Nat->Prop}
def awH(a:bH w B pb xb N s)(hN:N<=80000000):akj #[ay<|ae ⟨pb,0,af⟩,ag ah 5] w (kV w B pb xb s<|N+6):=by
 have A:Hid (bH w B pb xb N s):=a;have fF:Hid (N<=80000000):=hN;obtain⟨c0,_⟩:=a.cells;have aI:=aX a.pa.blk;clear a hN;unfold akj;simp only[ntmps108,GK,oq,wB,Nat.reduceAdd,Nat.reduceSub,VQ,VP,VT,VR,xH,nP];obtain⟨Q0,gX⟩:∃Q0,bodyPost prog Tryz.f108 (kV w B pb xb s<|N+6)=Q0:=⟨_,rfl⟩;rw[gX];simp only[adE,Tryz.f108,ik,au.cutAt,if_true,kQ,kP];rw[<-gX];clear gX;go_wp2_with fail
 refine(avT A.o fF.o).mono ?_;rintro e w1 ⟨rfl,s2,ht⟩;have T:Hid (bW w w1 B pb xb s (N+6) s2):=ht.to;obtain⟨_,_,_,_,e6,_⟩:=ht.to.at_.cells;have kY:=aX ht.to.at_.pa.blk;have kE:s2.g.dn= !s.h.up:=by rw[ht.to.at_.pg.dn,ht.up]
 rw[kE]at e6;clear kE ht;cases hu:s.h.up with
 |true=>
  rw[hu]at e6;simp only[if_true]at*
  go_wp2
  go_ret;exact⟨rfl,⟨s2,T.o⟩⟩
 |false=>
  rw[hu]at e6;simp only[kP,kQ,afk]at*
  go_wp2
  go_ret;exact⟨rfl,⟨s2,T.o⟩⟩
def bW.JP{t t':Nat->Question->Nat}{d d':Nat}(b:bW (au.re w t d) (au.re w' t' d') B pb xb s N s')(on:au.On w w'):bW w w' B pb xb s N s':=
 ⟨b.at_.same rfl,⟨on.os,on.tape,on.output,on.size,b.fr.block⟩,b.sub,b.cf⟩
def Bi(hp:¬(s0 pb\/fo pb))(hl:pb<w.heap.size):au.aG ((au.bJ fo s0).cut w.heap.size) (ay<|ae ⟨pb,0,af⟩):=.rE fun z=>z.elim hp fun y=>by have:w.heap.size<=pb:=y;omega
def yZ(h5:∀b,s0 b\/fo b->1<=b):au.Cm (au.bJ fo s0) prog:=fun k hk=>au.LQ fun b hb=>hb.elim (h5 b) fun z=>by omega
structure ug(fo s0:Nat->Prop)(w w':aj)(B pb xb:Nat)(s:dB)(N:Nat)(B':au.cO):Prop where
 ex:∃s1 s',B'=au.bJ fo s1/\(∀k,s1 k->s0 k\/w.heap.size<=k)/\wV w w' B pb xb s N s'
def awI(a:bH w B pb xb N s)(hN:N<=80000000)(hp:¬(s0 pb\/fo pb)):
 au.tX (au.bJ fo s0) prog 108 #[ay<|ae ⟨pb,0,af⟩,ag ah 5] w (fun B' v w'=>v=aB true/\ug fo s0 w w' B pb xb s (N+6) B'):=by
 intro c cs;refine au.Reach.ok fun bP=>?_;have h5:∀b,s0 b\/fo b->1<=b:=fun b hb=>(bP.low b hb).1;refine(au.adC (R:=fun t d=>kV (au.re w t d) B pb xb s<|N+6) (au.lets h5) (yZ h5) func108 rfl (au.aki [true,false,true,false] _) awG (au.bT.two (Bi hp<|aX a.pa.blk) .int) (fun t d=>awH (a.re t d) hN) (fun t d e w' hq=>⟨_,hq.1⟩) c cs).mono ?_;rintro B' fr' w' ⟨v,rfl,rfl,_,on,t,d,t',j,hq⟩;obtain⟨h1,⟨s',ht⟩⟩:=hq;exact⟨v,rfl,by simpa using h1,⟨_,s',rfl,fun k hk=>.inl hk,(ht.JP on).zY a⟩⟩
end
end
section
open Go.RowKit Go.Maps Go.Conc Go.Proofs.YtkelpcjiediamaaGreat.Twin fJ
noncomputable def d108:Code:=Tryz.f108.body.getD .skip
noncomputable def Yl:Code:=iQ<|fU d108
noncomputable def P7:Code:=au.gq [true,false,true,false] d108
def awJ:d108=.seq (iQ d108) (.seq (.seq (iQ Yl)<|.cond (.tmp 9) P7 .skip)<|fU<|fU d108):=rfl
def awK:au.codeOk prog au.lF (iQ d108)=true:=by kernel_rfl
def awL:au.codeOk prog au.lF (iQ Yl)=true:=by kernel_rfl
def awM:au.codeOk prog au.lF (iQ P7)=true:=by kernel_rfl
noncomputable def JW:Code:=au.gq [true,false,true,false,true]<|Tryz.f108.body.getD .skip
noncomputable def y9:Array Oper:=match iQ JW with| .region _ o _=>o|_=>#[]
def awN:P7=.seq (iQ P7) JW:=rfl
def awO:JW=.seq (.region 3 y9 false) (fU JW):=rfl
def awP:au.codeOk prog au.lF (fU JW)=true:=by kernel_rfl
def t108(pb xb n:Nat)(u6 Gz u16 FO FP P8:az):Array Value:=#[ay<|ae ⟨pb,0,af⟩,ag ah 11,ai,ai,aB false,ag ah n,u6,ai,ag ah 11,aB true,ay<|ae ⟨pb,0,af⟩,ay<|ae ⟨pb,0,af⟩,ay<|ae ⟨pb,0,af⟩,ay<|ae ⟨xb,0,af⟩,ag ah n,Gz,u16,FO,FP,P8,ai,ai,ai,ai,ai,ai,ai,ai,ai,ai,ai,ai,ai,ai,ai,ai,ai,ai,ai,ai]
def CY(pb:Nat)(u4 u8 u9:az):Array Value:=#[ay<|ae ⟨pb,0,af⟩,ag ah 11,ai,ai,u4,ai,ai,ai,u8,u9,ai,ai,ai,ai,ai,ai,ai,ai,ai,ai,ai,ai,ai,ai,ai,ai,ai,ai,ai,ai,ai,ai,ai,ai,ai,ai,ai,ai,ai,ai]
def akk(pb:Nat):#[Value.pointer<|ae ⟨pb,0,af⟩,ag ah 11]++Array.replicate (Tryz.f108.ntmps- #[Value.pointer<|ae ⟨pb,0,af⟩,ag ah 11].size) ai=CY pb ai ai undef:=by kernel_rfl
section
variable{w w':aj}{B pb xb N:Nat}{s:dB}{fo s0:Nat->Prop}
variable{W:aj}
def awQ(pb:Nat):(iQ d108).wp prog (fun e a' w'=>e=.normal/\a'=⟨CY pb (aB false) ai ai,[]⟩/\w'=W) ⟨CY pb ai ai ai,[]⟩ W:=by
 simp only[d108,Tryz.f108,ik,iQ,CY];go_wp2
def awR(pb:Nat):(iQ Yl).wp prog (fun e a' w'=>e=.normal/\a'=⟨CY pb (aB false) (ag ah 11)<|aB true,[]⟩/\w'=W) ⟨CY pb (aB false) ai ai,[]⟩ W:=by
 simp only[Yl,d108,Tryz.f108,ik,iQ,fU,CY];go_wp2
def awS(a:bH w B pb xb N s):(iQ P7).wp prog (fun e a' w'=>e=.normal/\a'=⟨t108 pb xb s.h.fl.length ai ai ai ai ai ai,[]⟩/\Fr aP w w') ⟨CY pb (aB false) (ag ah 11)<|aB true,[]⟩ w:=by
 have A:Hid (bH w B pb xb N s):=a;obtain⟨c0,_⟩:=a.cells;have aI:=aX a.pa.blk;clear a;simp only[P7,au.gq,d108,Tryz.f108,ik,iQ,CY,if_true,kQ,kP];go_wp2_with fail
 refine(PU A.o).mono ?_;rintro e w1 ⟨rfl,bM⟩;have F:Hid (Fr aP w w1):=bM;clear bM;go_wp2
 exact⟨rfl,F.o⟩
def awT(n:Nat)(Gz u16 FO FP P8:az):(fU JW).wp prog (fun e a' w'=>e=.ret/\a'.tmps.getD 4 ai=aB true/\w'=W) ⟨t108 pb xb n (ag ah n) Gz u16 FO FP P8,[]⟩ W:=by
 simp only[JW,au.gq,Tryz.f108,ik,fU,t108,if_true,kQ,kP];go_wp2
def awU(n:Nat)(k:List Item)(cs:List bu)(w:aj):bD prog true (G ((base 108).at ⟨t108 pb xb n ai ai ai ai ai ai,[]⟩<|bQ y9 [0,1,2,3,4,5]::k) cs) w=
 .go (G ((base 108).at ⟨t108 pb xb n ai (ay<|ae ⟨pb,0,af⟩) ai ai ai ai,[]⟩<|bQ y9 [1,2,3,4,5]::k) cs) w #[]:=
 Il (P:=prog) (main:=true) (b:=base 108) (a:=⟨t108 pb xb n ai ai ai ai ai ai,[]⟩) (ops:=y9) (i:=0) (rest:=[1,2,3,4,5]) (k:=k) (cs:=cs) (w:=w) (v:=ay<|ae ⟨pb,0,af⟩) rfl rfl (by decide) rfl rfl
def awV(n:Nat)(k:List Item)(cs:List bu)(w:aj):bD prog true (G ((base 108).at ⟨t108 pb xb n ai (ay<|ae ⟨pb,0,af⟩) ai ai ai ai,[]⟩<|bQ y9 [1,2,3,4,5]::k) cs) w=
 .go (G ((base 108).at ⟨t108 pb xb n ai (ay<|ae ⟨pb,0,af⟩) (ay<|ae ⟨pb,0,af⟩) ai ai ai,[]⟩<|bQ y9 [2,3,4,5]::k) cs) w #[]:=
 Il (P:=prog) (main:=true) (b:=base 108) (a:=⟨t108 pb xb n ai (ay<|ae ⟨pb,0,af⟩) ai ai ai ai,[]⟩) (ops:=y9) (i:=1) (rest:=[2,3,4,5]) (k:=k) (cs:=cs) (w:=w) (v:=ay<|ae ⟨pb,0,af⟩) rfl rfl (by decide) (by kernel_rfl) (by kernel_rfl)
def awW(n:Nat)(k:List Item)(cs:List bu)(w:aj):bD prog true (G ((base 108).at ⟨t108 pb xb n ai (ay<|ae ⟨pb,0,af⟩) (ay<|ae ⟨pb,0,af⟩) ai ai ai,[]⟩<|bQ y9 [2,3,4,5]::k) cs) w=
 .go (G ((base 108).at ⟨t108 pb xb n ai (ay<|ae ⟨pb,0,af⟩) (ay<|ae ⟨pb,0,af⟩) (ay<|ae ⟨pb,0,af⟩) ai ai,[]⟩<|bQ y9 [3,4,5]::k) cs) w #[]:=
 Il (P:=prog) (main:=true) (b:=base 108) (a:=⟨t108 pb xb n ai (ay<|ae ⟨pb,0,af⟩) (ay<|ae ⟨pb,0,af⟩) ai ai ai,[]⟩) (ops:=y9) (i:=2) (rest:=[3,4,5]) (k:=k) (cs:=cs) (w:=w) (v:=ay<|ae ⟨pb,0,af⟩) rfl rfl (by decide) (by kernel_rfl) (by kernel_rfl)
def awX(n m:Nat)(k:List Item)(cs:List bu)(w:aj)(Gz u16 FO FP:az):bD prog true (G ((base 108).at ⟨t108 pb xb n ai Gz u16 FO FP<|ag ah m,[]⟩<|bQ y9 [5]::k) cs) w=
 .go (G ((base 108).at ⟨t108 pb xb n (ag ah m) Gz u16 FO FP<|ag ah m,[]⟩<|bQ y9 []::k) cs) w #[]:=
 Il (P:=prog) (main:=true) (b:=base 108) (a:=⟨t108 pb xb n ai Gz u16 FO FP<|ag ah m,[]⟩) (ops:=y9) (i:=5) (rest:=[]) (k:=k) (cs:=cs) (w:=w) (v:=ag ah m) rfl rfl (by decide) rfl rfl
def awY(n:Nat)(hc:W.cell? ⟨pb,0,af⟩=ae (ay<|ae ⟨xb,0,af⟩)){o:Oper}(aO:o.op=.load 33 (.tmp 17)):(dP (Act.mk (t108 pb xb n ai (ay<|ae ⟨pb,0,af⟩) (ay<|ae ⟨pb,0,af⟩) (ay<|ae ⟨pb,0,af⟩) ai ai) []).eval o).run prog W=.ok (.value<|ay<|ae ⟨xb,0,af⟩) W:=by
 unfold dP;rw[aO];simp only[t108];go_simp
def akl{Bn:au.cO}{n:Nat}{u6 Gz u16 FO FP P8:az}(h1:au.aG Bn (ay<|ae ⟨pb,0,af⟩))(h2:au.aG Bn (ay<|ae ⟨xb,0,af⟩))(k1:au.aG Bn u6)(k2:au.aG Bn Gz)(k3:au.aG Bn u16)(k4:au.aG Bn FO)(k5:au.aG Bn FP)(k6:au.aG Bn P8):au.bT Bn (t108 pb xb n u6 Gz u16 FO FP P8):=fun v hv=>by
 simp only[t108,tu,jR,pF,pG,or_self]at hv;repeat' (rcases hv with rfl|hv)
 all_goals first|assumption|exact .int|exact .bool|exact au.rC|(subst hv;exact au.rC)
def awZ(a:bH w B pb xb N s)(hN:N<=70000000)(hp:¬(s0 pb\/fo pb))(hB:∀k,s0 k->B<=k):
 au.tX (au.bJ fo s0) prog 108 #[ay<|ae ⟨pb,0,af⟩,ag ah 11] w (fun B' v w'=>v=aB true/\ug fo s0 w w' B pb xb s (N+306) B'):=by
 intro c cs;refine au.Reach.ok fun bP=>?_;have h5:∀b,s0 b\/fo b->1<=b:=fun b hb=>(bP.low b hb).1;have hl:=aX a.pa.blk;have hx:¬(s0 xb\/fo xb):=a.free bP hp xb<|.inl<|.inl rfl;have L:=au.lets h5;have C:=yZ h5;rw[aEX (c:=d108) _ func108 rfl,akk,awJ];have aw0:au.bT ((au.bJ fo s0).cut w.heap.size) (CY pb ai ai ai):=by
  rw[<-akk];exact au.bT.append (au.bT.two (Bi hp hl) .int) fun v hv=>by
   obtain⟨_,rfl⟩:=Oa.1 hv;exact au.rC
 refine jO fun g1=>?_;refine au.Hr (w:=w.at g1) (K:=fun t d e a' w'=>e=.normal/\a'=⟨CY pb (aB false) ai ai,[]⟩/\w'=au.re (w.at g1) t d) L C awK aw0 rfl ⟨_,func108⟩ rfl (fun t d=>aEq (awQ pb) fun e a' w' hq=>⟨.inl hq.1,hq⟩) ?_ ?_;rotate_left
 ·rintro a1 w1 todo _ _ _ ⟨t,d,t',j,e,_⟩;cases e
 rintro a1 wa Ym aw1 _ ⟨t,d,t',j,_,rfl,Jk⟩;have ea:wa.heap=w.heap:=show(au.re wa t' j).heap=(au.re (w.at g1) t d).heap from fG World.heap Jk;clear Jk;refine jO fun g2=>?_;refine jO fun g3=>?_;refine au.Hr (w:=(wa.at g2).at g3) (K:=fun t d e a' w'=>e=.normal/\a'=⟨CY pb (aB false) (ag ah 11)<|aB true,[]⟩/\w'=au.re ((wa.at g2).at g3) t d) L C awL aw1 rfl ⟨_,func108⟩ rfl (fun t d=>aEq (awR pb) fun e a' w' hq=>⟨.inl hq.1,hq⟩) ?_ ?_;rotate_left
 ·rintro a1 w1 todo _ _ _ ⟨t,d,t',j,e,_⟩;cases e
 rintro a1 wb Yn aw2 _ ⟨t,d,t',j,_,rfl,hwb⟩;have eb:wb.heap=wa.heap:=show(au.re wb t' j).heap=(au.re ((wa.at g2).at g3) t d).heap from fG World.heap hwb;clear hwb;refine jD (fun _=>aEc (t:=true) rfl) fun g4=>?_;rw[if_pos rfl,awN];refine jO fun g5=>?_;have ab:bH wb B pb xb N s:=a.same<|eb.trans ea;refine au.Hr (w:=(wb.at g4).at g5) (K:=fun t d e a' w'=>e=.normal/\a'=⟨t108 pb xb s.h.fl.length ai ai ai ai ai ai,[]⟩/\Fr aP (au.re ((wb.at g4).at g5) t d) w') L C awM aw2 rfl ⟨_,func108⟩ rfl (fun t d=>aEq (awS<|ab.same rfl) fun e a' w' hq=>⟨.inl hq.1,hq⟩) ?_ ?_;rotate_left
 ·rintro a1 w1 todo _ _ _ ⟨t,d,t',j,e,_⟩;cases e
 rintro a1 w1 lY MF _ ⟨t,d,t',j,_,rfl,bM⟩;have f1:Fr aP w w1:=⟨lY.os.trans<|Yn.os.trans Ym.os,lY.tape.trans<|Yn.tape.trans Ym.tape,lY.output.trans<|Yn.output.trans Ym.output,eG Ym.size<|eG Yn.size lY.size,fun b hb h=>(bM.block b (by show b<wb.heap.size;rw[eb,ea];exact hb) h).trans (by show wb.heap[b]? =_;rw[eb,ea])⟩;have a1:=a.after f1;clear bM;rw[awO];refine jO fun d1=>?_;refine vK fun d2=>?_;rw[show List.range y9.size=[0,1,2,3,4,5]from rfl];refine jD (fun w=>awU _ _ _ w) fun d3=>?_;refine jD (fun w=>awV _ _ _ w) fun d4=>?_;refine jD (fun w=>awW _ _ _ w) fun d5=>?_;refine akh (v:=ay<|ae ⟨xb,0,af⟩) rfl rfl (by decide) (by kernel_rfl) ⟨_,func108⟩ ?_ (fun d=>awY _ (by exact a1.cells.1) rfl) fun d6=>?_
 ·exact akl (.rE hp) (.rE hx) au.rC (.rE hp) (.rE hp) (.rE hp) au.rC au.rC
 refine XP (f:=20) (post:=fun B' v w'=>∃(d:Nat) (Wg:Nat) (s2:dB),B'=au.bJ fo (fun b=>s0 b\/b=Wg)/\w1.heap.size<=Wg/\v=ag ah s.h.fl.length/\wV (w1.at d) w' B pb xb s (N+306) s2) rfl rfl (by decide) rfl func20 rfl rfl (vs:=#[ay<|ae ⟨xb,0,af⟩]) (by kernel_rfl) (fun d=>(adB (w:=w1.at d) (a1.same rfl) hN hp hB).mono fun B' v w' hg=>?_) ?_
 ·obtain⟨Wg,s2,q1,q2,q3,q4,_⟩:=hg;exact⟨d,Wg,s2,q1,q2,q3,q4⟩
 rintro B' v w2 ⟨dd,Wg,s2,rfl,bV,rfl,zY⟩;refine au.Reach.ok fun N7=>?_;have FQ:∀b,(s0 b\/b=Wg)\/fo b->1<=b:=fun b hb=>(N7.low b hb).1;change au.Reach _ _ ((base 108).at ⟨t108 pb xb s.h.fl.length ai (ay<|ae ⟨pb,0,af⟩) (ay<|ae ⟨pb,0,af⟩) (ay<|ae ⟨pb,0,af⟩) (ay<|ae ⟨xb,0,af⟩)<|ag ah s.h.fl.length,[]⟩<|bQ y9 [5]:: .code (fU JW):: .code (fU<|fU d108)::[]) _ _ _ _;refine jD (fun w=>awX _ _ _ _ w _ _ _ _) fun d7=>?_;refine vM fun d8=>?_;refine au.Hr (w:=(w2.at d7).at d8) (K:=fun t d e a' w'=>e=.ret/\a'.tmps.getD 4 ai=aB true/\w'=au.re ((w2.at d7).at d8) t d) (au.lets FQ) (yZ FQ) awP ?_ rfl ⟨_,func108⟩ rfl (fun t d=>aEq (awT _ _ _ _ _ _) fun e a' w' hq=>⟨.inr hq.1,hq⟩) ?_ ?_
 ·have np:¬((au.bJ fo fun b=>s0 b\/b=Wg).cut w2.heap.size).bZ pb:=fun z=>z.elim (fun z=>z.elim (fun z=>z.elim (fun y=>hp<|.inl y) fun e=>by have:=f1.size;omega) fun y=>hp<|.inr y) fun y=>by have:w2.heap.size<=pb:=y;have:=aX zY.at_.pa.blk;omega
  have nx:¬((au.bJ fo fun b=>s0 b\/b=Wg).cut w2.heap.size).bZ xb:=fun z=>z.elim (fun z=>z.elim (fun z=>z.elim (fun y=>hx<|.inl y) fun e=>by have:=f1.size;have:=aX a.ha.blk;omega) fun y=>hx<|.inr y) fun y=>by have:w2.heap.size<=xb:=y;have:=aX zY.at_.ha.blk;omega
  exact akl (.rE np) (.rE nx) .int (.rE np) (.rE np) (.rE np) (.rE nx) .int
 ·rintro a3 w3 _ _ _ ⟨t,d,t',j,e,_⟩;cases e
 rintro a3 w3 todo MO ac4 hd3 ⟨t,d,t',j,_,uo,hw3⟩;have e3:w3.heap=w2.heap:=show(au.re w3 t' j).heap=(au.re ((w2.at d7).at d8) t d).heap from fG World.heap hw3;refine au.TU (au.lets FQ) (yZ FQ) (fn:=Tryz.f108) (v:=aB true) (t:=t') (k:=j) rfl hd3 rfl func108 ac4 ?_ fun d9 _=>⟨_,rfl,rfl,⟨_,s2,rfl,?_,?_⟩⟩
 ·rw[<-uo];exact aET rfl _ _ _
 ·rintro k (hk|rfl)
  ·exact .inl hk
  ·exact .inr<|eG f1.size bV
 ·have z2:w1.heap.size<=w2.heap.size:=zY.dL.size;refine⟨zY.at_.same e3,⟨MO.os.trans<|zY.dL.os.trans f1.os,MO.tape.trans<|zY.dL.tape.trans f1.tape,MO.output.trans<|zY.dL.output.trans f1.output,?_,fun b hb h=>?_⟩,zY.cf⟩
  ·show w.heap.size<=w3.heap.size;rw[e3];exact eG f1.size z2
  ·show w3.heap[b]? =_;rw[e3];exact(zY.dL.block b (fK hb f1.size) h).trans<|f1.block b hb id
end
end
section
noncomputable def b48:Code:=au.cutAt (.refuse "") [true,true,true,false,true,true,true,true,true,true,true,true,true,true,false]<|Tryz.f48.body.getD .skip
def aw3:au.codeOk prog au.lF b48=true:=by kernel_rfl
def akm(args:Array az)(w:aj)(R:Ending->aj->Prop):Prop:=
 b48.wp prog (bodyPost prog Tryz.f48 R) {tmps:=args++Array.replicate (Tryz.f48.ntmps-args.size) ai,defers:=[]} w
section
variable{w w':aj}{B pb xb N:Nat}{s s':dB}
def bW.skip{w1:aj}(a:bH w B pb xb N s)(f:Fr aP w w1){M:Nat}(t:bW w1 w' B pb xb s M s'):bW w w' B pb xb s M s':=(bW.still a f).trans t
end
end
section
def aw4:(prog.info? 66).map (fun i=>(i.zero,i.size,i.bytes))=ae (ae<|gY #[ag ah 0,ag ah 0,ag ah 0,dA ⟨#[]⟩],4,40):=by kernel_rfl
section
variable{w w':aj}{B pb xb N:Nat}{s s':dB}
def aw5{W W3 W5 w5:aj}{iZ:az}{i q:Nat}{t:Int}{ts:ByteArray}{h':HS}{p p':PL}(a:bH W B pb xb N s)(hp:s.h.pl[q]? =ae p)(en:Yf W.drew.drew W3 B xb N s.h s.L i q p t ts h' p')(b:gQ W5 B pb xb s.h s.g s.v)(f5:Fr aP W3 W5){V:aj}(hW:Fr aP W5 V)(hg:V.grownBy w5 s.v.wv.ownBlock)(iO:w5.ownsRow B 66 4 iZ (s.g.wr.length+1) (s.g.wr.flatMap Wn.cs++Wn.cs ⟨q,i,t,ts⟩))(dX:∀k,iZ.ownBlock=ae k->s.v.wv.ownBlock=ae k\/W5.heap.size<=k):
 bW W3 (w5.setCell ⟨pb,7,af⟩ iZ) B pb xb ⟨h',s.L,s.g,s.v⟩ (N+1) ⟨h',s.L,{s.g with wr:=s.g.wr++[⟨q,i,t,ts⟩]},{s.v with wv:=iZ}⟩:=by
 have b':gQ W5 B pb xb h' s.g s.v:=by
  refine⟨?_,b.ep,b.wr,b.fa,b.gt,b.gl,b.rc,b.st,b.ap,b.hb⟩;rw[en.cf.1,en.cf.2.1,en.cf.2.2.1,en.cf.2.2.2];exact b.blk
 exact bW.behind f5<|avI (s:=⟨h',s.L,s.g,s.v⟩) (en.mv.at_.after f5) en.ax b' a.wr a.fa (by omega) hW hg iO dX<|a.pg.put hp en.sn en.cf.1 en.up en.pl en.data en.ext
structure P9(s:dB)(i q:Nat)(x:PS)(ts:ByteArray)(s':dB):Prop where
 wr:s'.g.wr=s.g.wr++[⟨q,i,x.t,ts⟩]
 Ei:qF i s.h s'.h
 me:∃x',s'.h.ps[i]? =ae x'/\x'.s=1/\x'.t=x.t
def akn(a:bH w B pb xb N s)(hN:N<=80000000){i q:Nat}(hi:(i:Int)<s.h.P)(hu:s.h.up=true){x:PS}(hx:s.h.ps[i]? =ae x){p:PL}(hp:s.h.pl[q]? =ae p){ts:ByteArray}(h8:ts.size<=8):
 aU prog 61 #[ay<|ae ⟨pb,0,af⟩,ag ah i,ag ah q,dA ts] w (CX w B pb xb s (N+4) fun s'=>Ej x p i q ts->P9 s i q x ts s'):=by
 obtain⟨i0,dR,iE,gG,iU⟩:=aEd aw4;obtain⟨ep,he⟩:=a.ep hi;obtain⟨e1,e2,e3⟩:=a.CW hu hx he;have oh:i<s.g.ep.length:=(dM.1 he).1;obtain⟨eg,iI,dS,_⟩:=vN a.pa.ep (by omega);have A:Hid (bH w B pb xb N s):=a;have fF:Hid (N<=80000000):=hN;have HI:Hid ((i:Int)<s.h.P):=hi;have HU:Hid (s.h.up=true):=hu;have HX:Hid (s.h.ps[i]? =ae x):=hx;have HE:Hid (s.g.ep[i]? =ae ep):=he;have kU:Hid (s.v.ev=aJ (ae ⟨eg,0,af⟩) s.g.ep.length iI):=dS;have zh:(i:Int)<(s.g.ep.length:Int):=by omega
 have uS:(0:Int)<=(i:Int):=by omega
 have hep:ep<=80000000:=by omega
 have yE:IntKind.i64.wrap (ep-1)=ep-1:=wrap_i64 (by omega) (by omega);have HP:Hid (s.h.pl[q]? =ae p):=hp;have H8:Hid (ts.size<=8):=h8;have hlen:(p.s.es.length:Int)<=80000000:=by have:=(a.pg.sn.ed q p hp).fB;omega
 have aDP:(0:Int)<=(p.s.es.length:Int):=by omega
 have Zy:IntKind.i64.wrap ((p.s.es.length:Int)+1)=(p.s.es.length:Int)+1:=wrap_i64 (by omega) (by omega);clear a hi hu hx he dS hN e1 e3 oh hp h8;go_enter func61,ntmps61
 go_wp2_with fail
 refine(Iq A.o (by have:=fF.o;omega) HI.o HU.o HX.o).mono ?_;rintro e w1 ⟨n1,n2,t1⟩;rename_i va vb gB eX;obtain⟨aa,ac,rfl,_⟩:=kR n1;obtain⟨ba,bc,rfl,_⟩:=kR n2;have T1:Hid (bW w w1 B pb xb s (N+1)<|s.fD eX gB):=t1;obtain⟨d0,d5,de,d6,aI,oW⟩:=t1.at_.uf kU.o HE.o;generalize AA:(bI x.aZ 1 4).length=l1;generalize BL:(bI x.aZ 2 4).length=l2;clear n1 n2 t1 AA BL;go_wp2_with fail
 have ZW:Hid (∃W:aj,W=w1.alloc (aC #[ag ah x.e,ag ah x.t,ag ah x.s,.slice aa l1 ac,.slice ba l2 bc] 58)):=⟨_,rfl⟩;obtain⟨W1,eW⟩:=ZW.o;rw[<-eW];have iH:Hid (Fr aP w1 W1):=by subst eW;exact bG _
 have X1:Hid (W1.heap[w1.heap.size]? =ae (aC #[ag ah x.e,ag ah x.t,ag ah x.s,.slice aa l1 ac,.slice ba l2 bc] 58 (0,0))):=by subst eW;exact aDY _ _
 have lH:Hid (bH W1 B pb xb (N+1)<|s.fD eX gB):=T1.o.at_.after iH.o;clear ZW eW d0 d5 de d6 aI oW;refine(TP lH.o (by have:=fF.o;omega) HP.o).mono ?_;rintro e w2 ⟨va,vl,rfl,sZ,jP⟩;obtain⟨pa,pc,rfl⟩:=sZ;have F2:Hid (Fr aP W1 w2):=jP;have ako:Hid (bH w2 B pb xb (N+1)<|s.fD eX gB):=lH.o.after jP;obtain⟨d0,d5,de,d6,aI,oW⟩:=ako.o.uf kU.o HE.o;clear jP;go_wp2_with fail
 have ZW:Hid (∃W:aj,W=w2.alloc (aC #[aB p.out,ag ah p.s.es.length,ag ah p.s.dC,.slice pa vl pc] 62)):=⟨_,rfl⟩;obtain⟨W2,eW⟩:=ZW.o;rw[<-eW];have FW2:Hid (Fr aP w2 W2):=by subst eW;exact bG _
 have Y2:Hid (W2.heap[w2.heap.size]? =ae (aC #[aB p.out,ag ah p.s.es.length,ag ah p.s.dC,.slice pa vl pc] 62 (0,0))):=by subst eW;exact aDY _ _
 have Yo:Hid (Fr aP W1 W2):=F2.o.trans FW2.o fun _ h=>h.elim;have X2:Hid (W2.heap[w1.heap.size]? =ae (aC #[ag ah x.e,ag ah x.t,ag ah x.s,.slice aa l1 ac,.slice ba l2 bc] 58 (0,0))):=(Yo.o.block _ (aX X1.o) id).trans X1.o;have lS:Hid (bH W2 B pb xb (N+1)<|s.fD eX gB):=lH.o.after Yo.o;clear ZW eW d0 d5 de d6 aI oW ako;obtain⟨d0,d5,de,d6,aI,oW⟩:=lS.o.uf kU.o HE.o;have HC:Hid (∀(V:aj) (ts:ByteArray),ts.size<=8->Fr aP W2 V->aU prog 77 #[ay<|ae ⟨xb,0,af⟩,ag ah i,.int .i64<|ep-1,ag ah q,dA ts] V fun e w'=>e=aT (ag ah 7)/\V=w'):=fun V ts h8 f=>avP (lS.o.after f) HI.o HU.o HX.o (dM.1 HP.o).1 HE.o h8;go_region_held3 (fun w'=>w'.cell? ⟨pb,0,af⟩=ae (ay<|ae ⟨xb,0,af⟩)/\w'.cell? ⟨pb,5,af⟩=ae (aJ (ae ⟨eg,0,af⟩) s.g.ep.length iI)/\w'.cell? ⟨eg,i,af⟩=ae (ag ah ep))
  (first|exact⟨d0,d5,de⟩|go_keep)
  ((go_at_call 77;with_reducible refine(HC.o _ _ (by decide)<|(Fr.refl _ _).drew).mono ?_;rintro e w4 ⟨rfl,rfl⟩))
 go_wp2_with fail
 by_cases hy:Ej x p i q ts
 ·have HY:Hid (Ej x p i q ts):=hy;clear hy;have sV:Hid (∀(V:aj),Fr aP W2 V->aU prog 77 #[ay<|ae ⟨xb,0,af⟩,ag ah i,ag ah ep,ag ah q,dA ts] V fun e w'=>e=aT (ag ah 0)/\∃h' p',Yf V w' B xb (N+1) s.h s.L i q p x.t ts h' p'):=fun V f=>avO (s:=s.fD eX gB) (lS.o.after f) (by have:=fF.o;omega) HI.o HU.o HX.o HP.o HE.o H8.o HY.o;go_region_held3 (fun w'=>w'.cell? ⟨pb,0,af⟩=ae (ay<|ae ⟨xb,0,af⟩)/\w'.cell? ⟨pb,5,af⟩=ae (aJ (ae ⟨eg,0,af⟩) s.g.ep.length iI)/\w'.cell? ⟨eg,i,af⟩=ae (ag ah ep))
   (first|with_reducible exact C3|exact⟨d0,d5,de⟩|go_keep)
   ((go_at_call 77;with_reducible refine(sV.o _<|((Fr.refl _ _).drew).drew).mono ?_;rintro e w3 ⟨rfl,h3,p3,en⟩
     have EN:Hid (Yf W2.drew.drew w3 B xb (N+1) s.h s.L i q p x.t ts h3 p3):=en
     have VG:gQ w3 B pb xb s.h (s.fD eX gB).g (s.fD eX gB).v:=((lS.o.after<|((Fr.refl _ _).drew).drew).pa).stay en.mv.fr fun k e hf=>(lS.o.after<|((Fr.refl _ _).drew).drew).ha.off (lS.o.after<|((Fr.refl _ _).drew).drew).pa e hf
     have P3:Hid (gQ w3 B pb xb s.h (s.fD eX gB).g (s.fD eX gB).v):=VG
     have C3:w3.cell? ⟨pb,0,af⟩=ae (ay<|ae ⟨xb,0,af⟩)/\w3.cell? ⟨pb,5,af⟩=ae (aJ (ae ⟨eg,0,af⟩) s.g.ep.length iI)/\w3.cell? ⟨eg,i,af⟩=ae (ag ah ep):=⟨aK VG.blk 0,(aK VG.blk 5).trans (by rw[<-kU.o];rfl),yH (by have:=VG.ep;rw[show(s.fD eX gB).v.ev=aJ (ae ⟨eg,0,af⟩) s.g.ep.length iI from kU.o]at this;exact this) HE.o⟩
     clear en VG))
  have kE:(s.fD eX gB).g.dn=false:=by
   show s.g.dn=false;rw[A.o.pg.dn,HU.o];rfl
  have g0:w3.cell? ⟨pb,0,af⟩=ae (ay<|ae ⟨xb,0,af⟩):=aK P3.o.blk 0;have uk:pb<w3.heap.size:=aX P3.o.blk;have nb:∀{b:Nat} {cs:Array az} {ty:dw},W2.heap[b]? =ae (.cells cs ty (0,0))->[48,3,66,114,67,94,111,5,98,119,163,1000000,55].contains ty=false->w3.heap[b]? =ae (.cells cs ty (0,0)):=fun{b cs ty} hb IK=>(EN.o.mv.fr.block _ (aX hb) fun e=>(lS.o.after<|((Fr.refl _ _).drew).drew).zV (show W2.drew.drew.heap[b]? =_ from hb) IK<|.inl e).trans hb;have X3:Hid (w3.heap[w1.heap.size]? =ae (aC #[ag ah x.e,ag ah x.t,ag ah x.s,.slice aa l1 ac,.slice ba l2 bc] 58 (0,0))):=nb X2.o (by decide);have Y3:Hid (w3.heap[w2.heap.size]? =ae (aC #[aB p.out,ag ah p.s.es.length,ag ah p.s.dC,.slice pa vl pc] 62 (0,0))):=nb Y2.o (by decide);clear nb HC sV d0 d5 de d6 C3 aI oW;go_wp2_with fail
  refine(ajZ EN.o.mv.at_ EN.o.sn (by have:=fF.o;omega) (by have:=fF.o;omega) (q:=q) (p:=p3) (by rw[EN.o.pl];exact mQ (dM.1 HP.o).1)).mono ?_;rw[EN.o.len];rintro e w5 ⟨va,Yp,rfl,sZ,ng⟩;obtain⟨Yq,Yr,rfl⟩:=sZ;simp only[Int.natCast_add,Int.cast_ofNat_Int];have P5:Hid (gQ w5 B pb xb s.h (s.fD eX gB).g (s.fD eX gB).v):=P3.o.after ng;have F5:Hid (Fr aP w3 w5):=ng;have En:pb<w5.heap.size:=aX P5.o.blk;have g6:w5.cell? ⟨pb,6,af⟩=ae (aB false):=by rw[<-kE];exact aK P5.o.blk 6
  have X5:Hid (w5.heap[w1.heap.size]? =ae (aC #[ag ah x.e,ag ah x.t,ag ah x.s,.slice aa l1 ac,.slice ba l2 bc] 58 (0,0))):=(ng.block _ (aX X3.o) id).trans X3.o;have Y5:Hid (w5.heap[w2.heap.size]? =ae (aC #[aB p.out,ag ah p.s.es.length,ag ah p.s.dC,.slice pa vl pc] 62 (0,0))):=(ng.block _ (aX Y3.o) id).trans Y3.o;have aw6:Hid (x.s=1):=HY.o.1;have b1:w1.heap.size<w5.heap.size:=aX X5.o;have b2:w2.heap.size<w5.heap.size:=aX Y5.o;clear ng kE g0;go_wp2_with fail
  have ZW:Hid (∃W:aj,W=w5.alloc (aC #[aB p3.out,.int .i64<|(p.s.es.length:Int)+1,ag ah p3.s.dC,.slice Yq Yp Yr] 62)):=⟨_,rfl⟩;obtain⟨W5,eW⟩:=ZW.o;rw[<-eW];have Yt:Hid (Fr aP w5 W5):=by subst eW;exact bG _
  have Z6:Hid (W5.heap[w5.heap.size]? =ae (aC #[aB p3.out,.int .i64<|(p.s.es.length:Int)+1,ag ah p3.s.dC,.slice Yq Yp Yr] 62 (0,0))):=by subst eW;exact aDY _ _
  have X6:Hid (W5.heap[w1.heap.size]? =ae (aC #[ag ah x.e,ag ah x.t,ag ah x.s,.slice aa l1 ac,.slice ba l2 bc] 58 (0,0))):=(Yt.o.block _ (aX X5.o) id).trans X5.o;have Y6:Hid (W5.heap[w2.heap.size]? =ae (aC #[aB p.out,ag ah p.s.es.length,ag ah p.s.dC,.slice pa vl pc] 62 (0,0))):=(Yt.o.block _ (aX Y5.o) id).trans Y5.o;have P6:Hid (gQ W5 B pb xb s.h (s.fD eX gB).g (s.fD eX gB).v):=P5.o.after Yt.o;clear ZW eW g6 En b1 b2 uk;obtain⟨fa,fc,pz,_⟩:=pq P6.o.wr;have Ef:Hid ((s.fD eX gB).v.wv=.slice fa s.g.wr.length fc):=pz;have zW:Hid (W5.ownsRow B 66 4 (.slice fa s.g.wr.length fc) s.g.wr.length<|s.g.wr.flatMap Wn.cs):=by have:=P6.o.wr;rw[pz]at this;exact this
  have q8:W5.cell? ⟨pb,7,af⟩=ae (.slice fa s.g.wr.length fc):=(aK P6.o.blk 7).trans<|fG ae pz;have dh:Value.ownBlock (.slice fa s.g.wr.length fc)≠ae pb:=GY zW.o P6.o.blk (by decide);have adH:pb<W5.heap.size:=aX P6.o.blk;have f8:W5.frozen? ⟨pb,7,af⟩=false:=jS P6.o.blk 7;have f9:∀o,(W5.alloc o).frozen? ⟨pb,7,af⟩=false:=fun o=>(KZ adH o).trans f8;have BB:Hid (s.g.wr.length<=N+1):=lH.o.wr;have y1:W5.cell? ⟨w1.heap.size,1,af⟩=ae (ag ah x.t):=aK X6.o 1;clear pz;go_region_law
   ((refine aEt _ (by rfl) _ _ _ (by rfl) B 66 i0 _ 4 40 underlying44 dR iE gG iU rfl (by omega) (.slice fa s.g.wr.length fc) s.g.wr.length (s.g.wr.flatMap Wn.cs) (by rfl) (by first|exact(((Fr.refl (fun _=>False) W5).alloc _).drew).ownsRow zW.o (fun _ _=>id)|exact(((Fr.refl (fun _=>False) W5).drew).alloc _).ownsRow zW.o fun _ _=>id)
      ⟨W5.heap.size,0,af⟩ 1 1 [ag ah q,ag ah i,ag ah x.t,dA ts] (by rfl) (by rfl) (aD7 (cs:=#[ag ah q,ag ah i,ag ah x.t,dA ts]) (t:=66) (fr:=(0,0)) (by first|exact aDY _ _|exact QQ _ _ _)) (by simp[Value.oneCell'])
      (by omega) (by have:=fF.o;have:=BB.out;simp only[dU];omega) (by have:=fF.o;have:=BB.out;omega) (by have:=P6.o.hb;simp<;>omega) (W5.heap.size+1) (by simp) ?_;intro gg cap w7 pY mO vk JG;have k0:=(mO.cell_far ⟨pb,7,af⟩ (by simp<;>omega)<|iW dh);have k1:=(mO.frozen_far ⟨pb,7,af⟩ (by simp<;>omega)<|iW dh);simp only[World.cell?_drew,World.frozen?_drew,f9]at k0 k1))
  all_goals
   have I9:∀k,Value.ownBlock (aJ (ae ⟨gg,0,af⟩) (s.g.wr.length+1) cap)=ae k->(s.fD eX gB).v.wv.ownBlock=ae k\/W5.heap.size<=k:=fun k hk=>by
    rw[Ef.o];simp only[Value.ownBlock,gu]at hk;subst hk;rcases vk with h1|h1
    ·exact .inl h1
    ·exact .inr<|by omega
   have G3:∃V,Fr aP W5 V/\V.grownBy w7 (Value.ownBlock<|.slice fa s.g.wr.length fc):=⟨_,by first|exact((Fr.refl _ _).alloc _).drew|exact((Fr.refl _ _).drew).alloc _,mO⟩
   obtain⟨V,fV,gV⟩:=G3
   have TO:=aw5 lS.o HP.o EN.o P6.o (F5.o.trans Yt.o fun _ h=>h.elim) fV (by rw[Ef.o];exact gV) pY I9
   have F7:Fr (fun k=>k=pb\/Value.ownBlock (.slice fa s.g.wr.length fc)=ae k) W5 (w7.setCell ⟨pb,7,af⟩<|aJ (ae ⟨gg,0,af⟩) (s.g.wr.length+1) cap):=((fV.mono fun _ h=>h.elim).grown gV fun k e=>.inl<|.inr e).setCell (p:=⟨pb,7,af⟩) (.inl<|.inl rfl) _
   clear pY mO vk JG k0 k1 I9 fV gV
   generalize w7.setCell ⟨pb,7,af⟩ (aJ (ae ⟨gg,0,af⟩) (s.g.wr.length+1) cap)=W7 at TO F7⊢
   generalize(Value.slice (ae ⟨gg,0,af⟩) (s.g.wr.length+1) cap)=fv7 at TO
   have ho:∀{b:Nat} {cs:Array az} {ty:dw},W5.heap[b]? =ae (.cells cs ty (0,0))->ty≠48->ty≠66->W7.heap[b]? =ae (.cells cs ty (0,0)):=fun{b cs ty} hb h1 h2=>(F7.block b (aX hb) (fun e=>by
    rcases e with e|e
    ·rw[e,P6.o.blk]at hb;simp only[gu,Obj.cells.injEq]at hb;exact h1 hb.2.1.symm
    ·have h3:=iK zW.o e;rw[lM hb]at h3;exact h2 h3)).trans hb
   have u1:W7.cell? ⟨w1.heap.size,2,af⟩=ae (ag ah x.s):=aK (ho X6.o (by decide)<|by decide) 2
   have u2:W7.cell? ⟨w2.heap.size,1,af⟩=ae (ag ah p.s.es.length):=aK (ho Y6.o (by decide)<|by decide) 1
   have u3:W7.cell? ⟨w5.heap.size,1,af⟩=ae (.int .i64<|(p.s.es.length:Int)+1):=aK (ho Z6.o (by decide)<|by decide) 1
   have jQ:Hid (CX w B pb xb s (N+4) (fun s'=>Ej x p i q ts->P9 s i q x ts s') (aT<|aB true) W7):=⟨rfl,_,((((T1.o.after iH.o).after Yo.o).after<|((Fr.refl _ _).drew).drew).mid EN.o.mv TO EN.o.cf).mono<|by omega,fun _=>⟨rfl,EN.o.Ei,EN.o.me⟩⟩
   rw[aw6.o]at u1
   clear TO F7 ho y1 q8
   go_wp2
   go_ret
   exact jQ.o
 ·have HNO:Hid (¬Ej x p i q ts):=hy;clear hy;have sV:Hid (∀(V:aj),Fr aP W2 V->aU prog 77 #[ay<|ae ⟨xb,0,af⟩,ag ah i,ag ah ep,ag ah q,dA ts] V fun e w'=>∃code s2,e=aT (ag ah code)/\Ye V w' B pb xb (N+1) (s.fD eX gB) q p x code s2):=fun V f=>avN (lS.o.after f) (by have:=fF.o;omega) HI.o HU.o HX.o HP.o HE.o H8.o HNO.o;go_region_held3 (fun w'=>w'.cell? ⟨pb,0,af⟩=ae (ay<|ae ⟨xb,0,af⟩)/\w'.cell? ⟨pb,5,af⟩=ae (aJ (ae ⟨eg,0,af⟩) s.g.ep.length iI)/\w'.cell? ⟨eg,i,af⟩=ae (ag ah ep))
   (first|with_reducible exact C3|exact⟨d0,d5,de⟩|go_keep)
   ((go_at_call 77;with_reducible refine(sV.o _<|((Fr.refl _ _).drew).drew).mono ?_;rintro e w3 ⟨code,s2,rfl,un⟩
     have UN:Hid (Ye W2.drew.drew w3 B pb xb (N+1) (s.fD eX gB) q p x code s2):=un
     have JU:Hid (s2.v.ev=aJ (ae ⟨eg,0,af⟩) s2.g.ep.length iI):=by show s2.v.ev=_;rw[un.to.v,un.to.g];exact kU.o
     have nJ:Hid (s2.g.ep[i]? =ae ep):=by show s2.g.ep[i]? =_;rw[un.to.g];exact HE.o
     have C3:w3.cell? ⟨pb,0,af⟩=ae (ay<|ae ⟨xb,0,af⟩)/\w3.cell? ⟨pb,5,af⟩=ae (aJ (ae ⟨eg,0,af⟩) s.g.ep.length iI)/\w3.cell? ⟨eg,i,af⟩=ae (ag ah ep):=by
      obtain⟨k0,k5,ke,_⟩:=un.to.to.at_.uf JU.o nJ.o;rw[un.to.g]at k5;exact⟨k0,k5,ke⟩
     clear un))
  obtain⟨p2,yz,qg⟩:=UN.o.len;have HP2:Hid (s2.h.pl[q]? =ae p2):=yz;have HES:Hid (p2.s=p.s):=qg;clear yz qg;obtain⟨g0,_,_,g6,uk,_⟩:=UN.o.to.to.at_.uf JU.o nJ.o;have F3:Hid (Fr ((s.fD eX gB).fA pb xb) W2 w3):=((((Fr.refl (fun _=>False) _).drew).drew).mono fun _ h=>h.elim).trans UN.o.to.to.fr fun _=>.inl;have X3:Hid (w3.heap[w1.heap.size]? =ae (aC #[ag ah x.e,ag ah x.t,ag ah x.s,.slice aa l1 ac,.slice ba l2 bc] 58 (0,0))):=(F3.o.block _ (aX X2.o)<|lS.o.zV X2.o<|by decide).trans X2.o;have Y3:Hid (w3.heap[w2.heap.size]? =ae (aC #[aB p.out,ag ah p.s.es.length,ag ah p.s.dC,.slice pa vl pc] 62 (0,0))):=(F3.o.block _ (aX Y2.o)<|lS.o.zV Y2.o<|by decide).trans Y2.o;clear g6 d0 d5 de d6 aI oW HC sV C3;go_wp2_with fail
  refine(TP UN.o.to.to.at_ (by have:=fF.o;omega) HP2.o).mono ?_;rw[HES.o];rintro e w5 ⟨va,Yp,rfl,sZ,ng⟩;obtain⟨Yq,Yr,rfl⟩:=sZ;have F5:Hid (Fr aP w3 w5):=ng;obtain⟨g0,_,_,g6,En,_⟩:=(UN.o.to.to.at_.after ng).uf JU.o nJ.o;have kE:s2.g.dn=false:=by rw[UN.o.to.to.at_.pg.dn,show s2.h.up=true from UN.o.to.up.trans HU.o];rfl
  rw[kE]at g6;have X5:Hid (w5.heap[w1.heap.size]? =ae (aC #[ag ah x.e,ag ah x.t,ag ah x.s,.slice aa l1 ac,.slice ba l2 bc] 58 (0,0))):=(ng.block _ (aX X3.o) id).trans X3.o;have Y5:Hid (w5.heap[w2.heap.size]? =ae (aC #[aB p.out,ag ah p.s.es.length,ag ah p.s.dC,.slice pa vl pc] 62 (0,0))):=(ng.block _ (aX Y3.o) id).trans Y3.o;have y2:w5.cell? ⟨w1.heap.size,2,af⟩=ae (ag ah x.s):=aK X5.o 2;have y3:w5.cell? ⟨w2.heap.size,1,af⟩=ae (ag ah p.s.es.length):=aK Y5.o 1;have b1:w1.heap.size<w5.heap.size:=aX X5.o;have b2:w2.heap.size<w5.heap.size:=aX Y5.o;have jQ:Hid (∀V,Fr aP w5 V->CX w B pb xb s (N+4) (fun s'=>Ej x p i q ts->P9 s i q x ts s') (aT<|aB true) V):=fun V f=>⟨rfl,_,(((((T1.o.after iH.o).after Yo.o).trans<|bW.behind (((Fr.refl _ _).drew).drew) UN.o.to.to).after F5.o).after f).mono<|by omega,fun h=>absurd h HNO.o⟩;have hcb:(code==0)=false:=by simpa using UN.o.no
  have bP:=UN.o.ok;clear ng kE F3 g0;obtain⟨xe,xt,xs,xa,wU,xc,xd,xi,xw,xg⟩:=x;simp only at bP y2;generalize(p.s.es.length:Int)=ln at y3⊢
  by_cases hs:xs=1
  ·subst hs;rcases bP with bP|bP|bP|bP
   ·exact absurd rfl bP
   all_goals
    subst bP
    clear hcb
    go_wp2
    go_ret
    exact jQ.o _<|bG _
  ·have um:(xs !=1)=true:=by simpa using hs
   clear bP hs;go_wp2
   go_ret;exact jQ.o _<|bG _
end
end
section
section
variable{w w':aj}{B pb xb N:Nat}{s:dB}
variable{i q:Nat}{ts:ByteArray}
def aw7(a:bH w B pb xb N s)(hN:N<=80000000)(hi:(i:Int)<s.h.P)(hu:s.h.up=false){p:PL}(hp:s.h.pl[q]? =ae p)(h8:ts.size<=8):
 aU prog 61 #[ay<|ae ⟨pb,0,af⟩,ag ah i,ag ah q,dA ts] w fun e w'=>e=aT (aB true)/\Fr aP w w':=by
 obtain⟨x,hx⟩:=a.ps hi;obtain⟨ep,he⟩:=a.ep hi;have xX:=a.pg.ee i ep he;have NZ:=(a.pg.sn.valid.qL i).e1;have KP:=a.pg.sn.fB;have oh:i<s.g.ep.length:=(dM.1 he).1;obtain⟨eg,iI,dS,_⟩:=vN a.pa.ep (by omega);have yE:IntKind.i64.wrap (ep-1)=ep-1:=wrap_i64 (by omega) (by omega);have A:Hid (bH w B pb xb N s):=a;have HI:Hid ((i:Int)<s.h.P):=hi;have HU:Hid (s.h.up=false):=hu;have HE:Hid (s.g.ep[i]? =ae ep):=he;have kU:Hid (s.v.ev=aJ (ae ⟨eg,0,af⟩) s.g.ep.length iI):=dS;have HC:Hid (∀(V:aj) (e0:Int) (ts:ByteArray),ts.size<=8->Fr aP w V->aU prog 77 #[ay<|ae ⟨xb,0,af⟩,ag ah i,ag ah e0,ag ah q,dA ts] V fun e w'=>e=aT (ag ah 5)/\V=w'):=fun V e0 ts h8 f=>by
  have hb:=adh hu x e0;have:=agE (ep:=e0) (a.ha.after f) hi (dM.1 hp).1 hx (by rw[hb];decide) h8;rw[hb]at this;exact this
 have fF:Hid (N<=80000000):=hN;have HP:Hid (s.h.pl[q]? =ae p):=hp;have H8:Hid (ts.size<=8):=h8;have zh:(i:Int)<(s.g.ep.length:Int):=by omega
 have uS:(0:Int)<=(i:Int):=by omega
 clear a hi hu hx he dS hN oh xX NZ KP hp h8;go_enter func61,ntmps61
 go_wp2_with fail
 refine(PQ A.o HI.o HU.o).mono ?_;rintro e w1 ⟨rfl,bM⟩;have F1:Hid (Fr aP w w1):=bM;clear bM;obtain⟨d0,d5,de,d6,aI,oW⟩:=(A.o.after F1.o).uf kU.o HE.o;go_wp2_with fail
 refine(TP (A.o.after<|F1.o.trans (bG _) fun _ h=>h.elim) (by have:=fF.o;omega) HP.o).mono ?_;rintro e w2 ⟨va,vl,rfl,sZ,jP⟩;obtain⟨pa,pc,rfl⟩:=sZ;have F2:Hid (Fr aP w w2):=(F1.o.trans (bG _) fun _ h=>h.elim).trans jP fun _ h=>h.elim;clear jP d0 d5 de d6 aI oW;obtain⟨d0,d5,de,d6,aI,oW⟩:=(A.o.after F2.o).uf kU.o HE.o;go_wp2_with fail
 have ZW:Hid (∃W:aj,W=w2.alloc (aC #[aB p.out,ag ah p.s.es.length,ag ah p.s.dC,.slice pa vl pc] 62)):=⟨_,rfl⟩;obtain⟨W2,eW⟩:=ZW.o;rw[<-eW];have FW2:Hid (Fr aP w2 W2):=by subst eW;exact bG _
 have Y2:Hid (W2.heap[w2.heap.size]? =ae (aC #[aB p.out,ag ah p.s.es.length,ag ah p.s.dC,.slice pa vl pc] 62 (0,0))):=by subst eW;exact aDY _ _
 have TV:Hid (Fr aP w W2):=F2.o.trans FW2.o fun _ h=>h.elim;clear ZW eW d0 d5 de d6 aI oW;obtain⟨d0,d5,de,d6,aI,oW⟩:=(A.o.after TV.o).uf kU.o HE.o;go_region_held3 (fun w'=>w'.cell? ⟨pb,0,af⟩=ae (ay<|ae ⟨xb,0,af⟩)/\w'.cell? ⟨pb,5,af⟩=ae (aJ (ae ⟨eg,0,af⟩) s.g.ep.length iI)/\w'.cell? ⟨eg,i,af⟩=ae (ag ah ep))
  (first|exact⟨d0,d5,de⟩|go_keep)
  ((go_at_call 77;with_reducible refine(HC.o _ (ep-1) _ (by decide)<|TV.o.drew).mono ?_;rintro e w4 ⟨rfl,rfl⟩))
 go_wp2_with fail
 go_region_held3 (fun w'=>w'.cell? ⟨pb,0,af⟩=ae (ay<|ae ⟨xb,0,af⟩)/\w'.cell? ⟨pb,5,af⟩=ae (aJ (ae ⟨eg,0,af⟩) s.g.ep.length iI)/\w'.cell? ⟨eg,i,af⟩=ae (ag ah ep))
  (first|exact⟨d0,d5,de⟩|go_keep)
  ((go_at_call 77;with_reducible refine(HC.o _ ep _ H8.o<|(TV.o.drew).drew).mono ?_;rintro e w4 ⟨rfl,rfl⟩))
 go_wp2_with fail
 refine(TP (A.o.after<|(TV.o.drew).drew) (by have:=fF.o;omega) HP.o).mono ?_;rintro e w5 ⟨va,Yp,rfl,sZ,ng⟩;obtain⟨Yq,Yr,rfl⟩:=sZ;have F5:Hid (Fr aP w w5):=((TV.o.drew).drew).trans ng fun _ h=>h.elim;have Y5:Hid (w5.heap[w2.heap.size]? =ae (aC #[aB p.out,ag ah p.s.es.length,ag ah p.s.dC,.slice pa vl pc] 62 (0,0))):=(ng.block _ (aX Y2.o) id).trans Y2.o;clear d0 d5 de d6 aI oW;obtain⟨_,_,_,d6,aI,_⟩:=(A.o.after F5.o).uf kU.o HE.o;have kE:s.g.dn=true:=by rw[A.o.pg.dn,HU.o];rfl
 rw[kE]at d6;have y3:w5.cell? ⟨w2.heap.size,1,af⟩=ae (ag ah p.s.es.length):=aK Y5.o 1;have b2:w2.heap.size<w5.heap.size:=aX Y5.o;clear ng kE;generalize(p.s.es.length:Int)=ln at y3⊢
 go_wp2
 go_ret;exact⟨rfl,F5.o.trans (bG _) fun _ h=>h.elim⟩
def aw8(a:bH w B pb xb N s)(hN:N<=80000000)(hi:(i:Int)<s.h.P)(hq:(q:Int)<s.h.Q)(h8:ts.size<=8):aU prog 61 #[ay<|ae ⟨pb,0,af⟩,ag ah i,ag ah q,dA ts] w (kV w B pb xb s<|N+4):=by
 obtain⟨p,hp⟩:=a.q hq;cases hu:s.h.up with
 |true=>
  obtain⟨x,hx⟩:=a.ps hi;exact(akn a hN hi hu hx hp h8).mono fun _ _ d=>d.done
 |false=>exact(aw7 a hN hi hu hp h8).mono fun e w' ⟨h1,h2⟩=>⟨h1,s,(bW.still a h2).mono<|by omega⟩
end
end
section
section
variable{w w':aj}{B pb xb N:Nat}{s:dB}
def aw9(a:bH w B pb xb N s){q:Nat}(hq:(q:Int)<s.h.Q)(o:Bool):aU prog 52 #[ay<|ae ⟨xb,0,af⟩,ag ah q,aB o] w fun e w'=>e=aT (ag ah 0)/\∃s2,kK w w' B pb xb s (N+1) s2:=by
 obtain⟨p,hp⟩:=a.q hq;exact(agO a.ha hp o).mono fun e w' ⟨h1,mv⟩=>⟨h1,_,kK.Eh a mv (a.ax.out hp o) (by omega) (by omega) (a.pg.sn.out hp o) ⟨rfl,rfl,rfl,rfl,rfl,.refl _,.set hp ⟨.refl _,rfl⟩⟩⟩
end
end
section
section
variable{w w':aj}{B pb xb N:Nat}{s:dB}
structure JX(w w':aj)(B pb xb N:Nat)(s:dB):Prop where
 ex:∃h',aF w' B xb N h'/\gQ w' B pb xb h' s.g s.v/\Fr (fun k=>k=xb) w w'/\iP h'.pl/\Pg N h' s.L {s.g with dn:=true}/\(h'.P=s.h.P/\h'.Q=s.h.Q/\h'.T=s.h.T/\h'.K=s.h.K)/\(∀k,h'.fA xb k->s.h.fA xb k)/\s.g.wr.length<=N/\s.g.fa.length<=N
def JX.cell{M:Nat}{w0:aj}(f:JX w w' B pb xb N s)(a:bH w0 B pb xb M s):w'.cell? ⟨pb,6,af⟩=ae (.bool<|!s.h.up):=by
 obtain⟨h',_,b,_⟩:=f.ex;rw[<-a.pg.dn];exact aK b.blk 6
def JX.note{V:aj}(f:JX w w' B pb xb N s)(g:Fr aP w' V):∃s2,bW w (V.setCell ⟨pb,6,af⟩<|aB true) B pb xb s N s2:=by
 obtain⟨h',ha,b,fr,ax,pg,cf,sub,l1,l2⟩:=f.ex;obtain⟨n1,n2,n3⟩:=adi (d:=true) (ha.after g)<|b.after g;exact⟨⟨h',s.L,{s.g with dn:=true},s.v⟩,⟨n2,ax,n1,pg,l1,l2⟩,((fr.trans g fun _ h=>h.elim).mono fun k e=>.inl<|.inl<|.inl e).trans n3 fun k e=>.inl<|.inr<|.inl e,fun k hk=>hk.elim (fun e=>.inl<|.inl<|sub k e) fun e=>.inl<|.inr e,cf⟩
def axa(a:bH w B pb xb N s):aU prog 44 #[ay<|ae ⟨xb,0,af⟩] w fun e w'=>e=aT (.int .i64<|if s.h.up then 0 else 5)/\JX w w' B pb xb N s:=
 (afZ a.ha).mono fun e w' ⟨h1,h2,h3⟩=>⟨h1,by
   have st:gQ w' B pb xb s.h s.g s.v:=a.pa.stay h3 fun k e hk=>a.ha.off a.pa (.inl e) hk;cases hu:s.h.up with
   |true=>
    rw[hu,if_pos rfl]at h2;exact⟨s.h.qY,h2,⟨st.blk,st.ep,st.wr,st.fa,st.gt,st.gl,st.rc,st.st,st.ap,st.hb⟩,h3,a.ax,a.pg.PN,⟨rfl,rfl,rfl,rfl⟩,fun _ h=>h,a.wr,a.fa⟩
   |false=>
    rw[hu,if_neg<|by decide]at h2;have hd:({s.g with dn:=true}:PG)=s.g:=by
     have:=a.pg.dn;rw[hu]at this;cases hg:s.g with
     |mk=>rw[hg]at this;simp_all
    exact⟨s.h,h2,st,h3,a.ax,by rw[hd];exact a.pg,⟨rfl,rfl,rfl,rfl⟩,fun _ h=>h,a.wr,a.fa⟩⟩
end
end
section
section
variable{w w':aj}{B pb xb N:Nat}{s:dB}
def JX.soft(f:JX w w' B pb xb N s):w'.frozen? ⟨pb,6,af⟩=false:=by
 obtain⟨h',_,b,_⟩:=f.ex;exact jS b.blk 6
end
end
section
section
variable{w w':aj}{B pb xb N:Nat}{s:dB}
structure JY(w w':aj)(B pb xb N:Nat)(s:dB):Prop where
 ex:∃h',aF w' B xb N h'/\gQ w' B pb xb h' s.g s.v/\Fr (s.h.fA xb) w w'/\iP h'.pl/\Pg N h' s.L {s.g with dn:=false}/\(h'.P=s.h.P/\h'.Q=s.h.Q/\h'.T=s.h.T/\h'.K=s.h.K)/\(∀k,h'.fA xb k->s.h.fA xb k\/w.heap.size<=k)/\s.g.wr.length<=N/\s.g.fa.length<=N
def JY.cell{M:Nat}{w0:aj}(f:JY w w' B pb xb N s)(a:bH w0 B pb xb M s):w'.cell? ⟨pb,6,af⟩=ae (.bool<|!s.h.up):=by
 obtain⟨h',_,b,_⟩:=f.ex;rw[<-a.pg.dn];exact aK b.blk 6
def JY.note{V:aj}(f:JY w w' B pb xb N s)(g:Fr aP w' V):∃s2,bW w (V.setCell ⟨pb,6,af⟩<|aB false) B pb xb s N s2:=by
 obtain⟨h',ha,b,fr,ax,pg,cf,sub,l1,l2⟩:=f.ex;obtain⟨n1,n2,n3⟩:=adi (d:=false) (ha.after g)<|b.after g;exact⟨⟨h',s.L,{s.g with dn:=false},s.v⟩,⟨n2,ax,n1,pg,l1,l2⟩,((fr.trans g fun _ h=>h.elim).mono fun k e=>.inl<|.inl e).trans n3 fun k e=>.inl<|.inr<|.inl e,fun k hk=>hk.elim (fun e=>(sub k e).imp .inl id) fun e=>.inl<|.inr e,cf⟩
def JY.soft(f:JY w w' B pb xb N s):w'.frozen? ⟨pb,6,af⟩=false:=by
 obtain⟨h',_,b,_⟩:=f.ex;exact jS b.blk 6
def axb(a:bH w B pb xb N s)(hN:N<=70000000):aU prog 29 #[ay<|ae ⟨xb,0,af⟩] w fun e w'=>e=aT (.int .i64<|if s.h.up then 6 else 0)/\JY w w' B pb xb N s:=by
 cases hu:s.h.up with
 |true=>
  exact(an8 a.ha hu).mono fun e w' ⟨h1,h2⟩=>⟨h1,by
   subst h2;have hd:({s.g with dn:=false}:PG)=s.g:=by
    have:=a.pg.dn;rw[hu]at this;cases hg:s.g with
    |mk=>rw[hg]at this;simp_all
   exact⟨s.h,a.ha,a.pa,Fr.refl _ _,a.ax,by rw[hd];exact a.pg,⟨rfl,rfl,rfl,rfl⟩,fun _ h=>.inl h,a.wr,a.fa⟩⟩
 |false=>
  exact(WI a.ha hu (a.pg.sn.dn hu)<|a.pg.sn.kT<|by omega).mono fun e w' ⟨h1,jv,mv⟩=>⟨h1,by
   have st:gQ w' B pb xb s.h s.g s.v:=a.pa.stay mv.fr fun k e hk=>a.ha.off a.pa e hk;exact⟨s.h.DV jv s.L,mv.at_,⟨st.blk,st.ep,st.wr,st.fa,st.gt,st.gl,st.rc,st.st,st.ap,st.hb⟩,mv.fr,a.ax,a.pg.MI jv,⟨rfl,rfl,rfl,rfl⟩,mv.sub,a.wr,a.fa⟩⟩
end
end
end Go.Proofs.YtkelpcjiediamaaGreat
