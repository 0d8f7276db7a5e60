import Derived.Test.YtkelpcjiediamaaGreatQb25
set_option maxRecDepth 100000
set_option maxHeartbeats 0
set_option linter.all false
namespace Go.Proofs.YtkelpcjiediamaaGreat
open Go renaming Calls→aK,TypeId→bW,Value→aj,World→ah,maxLen→dH
open Option renaming none→af,some→ae
open Go.Proofs.Tryz
open Go.RowKit Go.Maps
section
section
variable{w w':ah}{B xb n:Nat}{h:HS}
def anM(hh:ay w B xb n h)(hu:h.up=false)(hz:h.ps=vF){L:List Rc}{tl:List UInt8}(hJ:Ve h L tl):
 aK prog 29 #[.pointer<|ae ⟨xb,0,af⟩] w fun r w'=>r=.returned (.int .i64 0)/\∃jv,bI w w' B xb n h n (h.FY jv L):=by
 have HC:Hid (aK prog 68 #[.pointer<|ae ⟨xb,4,af⟩] w fun r w'=>r=.returned (.tuple #[])/\∃jv,ay w' B xb n (h.FY jv L)/\Fr (fun k=>k=xb) w w'/\jv.ownBlock=h.jv.ownBlock):=anH hh hz hJ;have c5:=hh.cU;rw[hu]at c5;clear hh hJ hz;go_enter func29,ntmps29
 go_wp2_with (go_at_call 68;refine HC.out.mono ?_;rintro e w1 ⟨rfl,jv,h1,h2,h3⟩;have H1:Hid (ay w1 B xb n (h.FY jv L)/\Fr (fun k=>k=xb) w w1/\jv.ownBlock=h.jv.ownBlock):=⟨h1,h2,h3⟩;clear h1 h2 h3)
 go_ret;refine⟨rfl,jv,bI.own H1.out.2.1 H1.out.1 fun k hk=>?_⟩;rcases hk with e|e|e
 ·exact .inl e
 ·exact .inr<|.inl (by rw[<-H1.out.2.2];exact e)
 ·exact .inr<|.inr e
def aff:∀(l:List PL) (k:Nat) (p:PL) (o:Bool),l[k]? =ae p->oP (l.set k {p with out:=o})=(oP l).set (k*2+1) (.bool o)
 |[],k,p,o,h=>by simp at h
 |x::r,0,p,o,h=>by
  simp only[xA,fJ]at h;subst h;simp[oP,PL.cs]
 |x::r,k+1,p,o,h=>by
  simp only[zJ]at h;have:=aff r k p o h;simp only[oP,List.set_cons_succ,nZ]at this⊢
  rw[this,adI _ _ (by simp[PL.cs]<;>omega)];congr 2;simp[PL.cs]<;>omega
def iC.out{pl:List PL}(h:iC pl){k:Nat}{p:PL}(hk:pl[k]? =ae p)(o:Bool):iC (pl.set k {p with out:=o}):=by
 have mM:=(dD.1 hk).1;have pick:∀{i:Nat} {a:PL},(pl.set k {p with out:=o})[i]? =ae a->∃a',pl[i]? =ae a'/\a'.lb=a.lb/\a'.bm=a.bm/\a'.v=a.v:=fun{i a} hi=>by
  by_cases e:i=k
  ·subst e;rw[mD mM]at hi;obtain rfl:=(qE hi);exact⟨p,hk,rfl,rfl,rfl⟩
  ·rw[vz fun e2=>e e2.symm]at hi;exact⟨a,hi,rfl,rfl,rfl⟩
 intro i j a b yj hi hj x h1 h2;obtain⟨a',ha,e1,e2,e3⟩:=pick hi;obtain⟨b',hb,f1,f2,f3⟩:=pick hj;exact h i j a' b' yj ha hb x (by rw[e1,e2,e3];exact h1) (by rw[f1,f2,f3];exact h2)
def anN(hh:ay w B xb n h){q:Nat}{p:PL}(hp:h.pl[q]? =ae p)(o:Bool):
 aK prog 52 #[.pointer<|ae ⟨xb,0,af⟩,.int .i64 q,.bool o] w fun r w'=>r=.returned (.int .i64 0)/\bI w w' B xb n h n (h.gy q {p with out:=o}):=by
 have HH:Hid (ay w B xb n h):=hh;have hq:=(dD.1 hp).1;have HM:Hid (decide (0<=(q:Int)/\(q:Int)<h.pl.length)=true):=jI ⟨by omega,by omega⟩;have HP:Hid (h.pl[q]? =ae p):=hp;obtain⟨g,cap,gZ,hg,uU,c0,c1⟩:=hh.place hp;have Nv:Hid (h.pv=.slice (ae ⟨g,0,af⟩) h.pl.length cap):=gZ;have cV:=hh.cV;rw[gZ]at cV;have gf:∀o,w.frozen? ⟨g,o,af⟩=false:=by
  have hr:=hh.jD;rw[gZ]at hr;exact fun o=>hr.frozenAt o
 have qV:(0:Int)<=(q:Int):=by omega
 have uV:(q:Int)<h.pl.length:=by omega
 clear hh hp gZ;go_enter func52,ntmps52
 go_wp2_with (go_at_call 50;refine(JW HH.out q).mono ?_;rw[HM.out];rintro e w1 ⟨rfl,rfl⟩)
 go_ret;have hr:=HH.out.jD;rw[Nv.out]at hr;have hs:=aeh hr (j:=q*2+1) (by omega)<|.bool o;have fs:Fr (fun k=>h.pv.ownBlock=ae k) w (w.setCell ⟨g,q*2+1,af⟩<|.bool o):=(Fr.refl (fun k=>h.pv.ownBlock=ae k) w).setCell (p:=⟨g,q*2+1,af⟩) (.inl (by rw[Nv.out];rfl)) _;have hh:=HH.out;have row:∀{ty:bW} {wd:Nat} {v:aj} {k:Nat} {xs:List aj},w.ownsRow B ty wd v k xs->ty≠98->(w.setCell ⟨g,q*2+1,af⟩<|.bool o).ownsRow B ty wd v k xs:=fun ho h5=>fs.ownsRow ho (fun q hq e=>by
  have t0:=ig ho hq;rw[ig hh.jD e]at t0;exact h5 t0.symm)
 have dM:ay (w.setCell ⟨g,q*2+1,af⟩<|.bool o) B xb n (h.gy q {p with out:=o}):=by
  refine⟨(fs.block xb (aS hh.blk) hh.Zf).trans hh.blk,row hh.lL<|by decide,?_,row hh.lY<|by decide,fun a ha=>?_,hh.hx,hh.hP,?_,hh.h6⟩
  ·show(w.setCell ⟨g,q*2+1,af⟩<|.bool o).ownsRow B 98 2 h.pv (h.pl.set q {p with out:=o}).length (oP<|h.pl.set q {p with out:=o});rw[yK,aff h.pl q p o HP.out,Nv.out];exact hs
  ·have hm:∃a'∈h.pl,a'.lb=a.lb/\a'.bm=a.bm/\a'.v=a.v/\a'.s=a.s:=by
    rcases adD ha with e|e
    ·exact⟨a,e,rfl,rfl,rfl,rfl⟩
    ·exact⟨p,fD HP.out,by rw[e],by rw[e],by rw[e],by rw[e]⟩
   obtain⟨a',h1,h2,h3,h4,h5⟩:=hm;rw[<-h2,<-h3,<-h4,<-h5];refine(hh.dG a' h1).stay fs fun k e hf=>?_;have t0:=ig hh.jD e;rcases(hh.dG a' h1).tags hf with t1|t1|t1<;>rw[t0]at t1<;>cases t1
  ·show h.Q=((h.pl.set q _).length:Int)/\_;rw[yK];exact hh.hQ
 refine⟨rfl,dM,fs.mono fun k e=>.inl<|.inr<|.inr<|.inl e,fun k hk=>?_⟩;rcases hk with e|e|e|e|⟨a,ha,hf⟩
 ·exact .inl<|.inl e
 ·exact .inl<|.inr<|.inl e
 ·exact .inl<|.inr<|.inr<|.inl e
 ·exact .inl<|.inr<|.inr<|.inr<|.inl e
 ·rcases adD ha with e|e
  ·exact .inl<|.inr<|.inr<|.inr<|.inr ⟨a,e,hf⟩
  ·subst e;exact .inl<|.inr<|.inr<|.inr<|.inr ⟨p,fD HP.out,hf⟩
end
end
section
def Ir(pl:List PL)(L:List Rc)(P:Int):Prop:=
 ∀(q:Nat) (p:PL),pl[q]? =ae p->∀i t,p.s.nw i=ae (t,true)->0<=i/\i<P/\1<=(aY L i).s/\(aY L i).t=t/\(q:Int)∈(aY L i).ps
structure xG(P Q:Int)(L:List Rc)(m:Ms):Prop where
 k:m.k=1\/m.k=2
 q:0<=m.q/\m.q<Q
 p:0<=m.p/\m.p<P
 t:0<=m.t/\m.t<=(aY L m.p).t
 s:m.t=(aY L m.p).t->(aY L m.p).s≠1
 ps:m.t=(aY L m.p).t->m.q∈(aY L m.p).ps
def Nw(pl:List PL)(m:Ms):Prop:=∀(q:Nat) (p:PL),pl[q]? =ae p->m.q=(q:Int)->p.s.nw m.p≠ae (m.t,true)
def tX(pl:List PL)(P Q:Int)(L:List Rc)(F:List Ms):Prop:=∀m∈F,xG P Q L m/\(m.k=2->Nw pl m)
structure J5(tm:Int)(x:PS):Prop where
 si:0<=x.si/\x.si<=tm
 wa: -tm<=x.wa/\x.wa<=16
 ga:0<=x.ga/\x.ga<=16
def Eh(tm:Int)(ps:List PS):Prop:=∀x∈ps,J5 tm x
variable{tm:Int}{x:PS}{ps:List PS}
def J5.bJ(h:J5 tm x)(ht:0<=tm)(r:Rc):J5 tm (x.bJ r):=by
 unfold PS.bJ;split
 ·exact⟨h.si,h.wa,h.ga⟩
 ·split
  ·obtain⟨_,_,_,r4,r5,r6⟩:=FP ({x with s:=1,t:=r.m}:PS) r.a 1;exact⟨by rw[r4];exact h.si,by rw[r5];exact h.wa,by rw[r6];exact h.ga⟩
  ·split
   ·exact⟨h.si,by simp only;omega,by simp only;omega⟩
   ·exact⟨by simp only;omega,by simp only;omega,by simp only;omega⟩
def afg(ht:0<=tm):J5 tm oQ:=⟨by simp only[oQ];omega,by simp only[oQ];omega,by simp only[oQ];omega⟩
def Eh.set(h:Eh tm ps)(hx:J5 tm x)(i:Nat):Eh tm (ps.set i x):=fun z hz=>by
 rcases adD hz with hz|rfl
 ·exact h z hz
 ·exact hx
def Eh.jE(h:Eh tm ps)(ht:0<=tm)(r:Rc):Eh tm (jE ps r):=by
 refine h.set (J5.bJ ?_ ht r) _;by_cases hl:r.p.toNat<ps.length
 ·rw[Pz,dR hl];exact h _<|List.getElem_mem hl
 ·rw[Pz,adJ<|by omega];exact afg ht
def anO(ht:0<=tm):Eh tm vF:=fun x hx=>by
 simp only[vF,jC,oN,oO,or_self]at hx;subst hx;exact afg ht
def anP(ht:0<=tm)(L:List Rc):Eh tm (replay L):=by
 suffices h:∀(L:List Rc) (ps:List PS),Eh tm ps->Eh tm (L.foldl Go.Proofs.YtkelpcjiediamaaGreat.jE ps)from h L vF (anO ht)
 intro L;induction L with
 |nil=>intro ps h;exact h
 |cons r L ih=>intro ps h;exact ih _<|h.jE ht r
section
variable{h:HS}
variable{P Q:Int}{L:List Rc}
def Valid.end_(hv:Valid P Q L):∀r∈L,r.k=3->r.a=0\/r.a=1:=by
 induction hv with
 |nil=>intro r hr;simp at hr
 | @snoc L r hv hn ih=>
   intro x hx hk;rcases og.1 hx with hx|hx
   ·exact ih x hx hk
   ·rw[nY.1 hx]at hk⊢
    rcases hn.kind with⟨h1,_⟩|⟨h1,_⟩|⟨_,h2,_⟩|⟨h1,_⟩
    ·omega
    ·omega
    ·exact h2
    ·omega
def Ir.snoc{pl:List PL}{L:List Rc}{P Q:Int}{r:Rc}(ho:Ir pl L P)(hn:Next P Q L r)(h4:r.k=4->∀(q:Nat) (p:PL),pl[q]? =ae p->∀t,p.s.nw r.p≠ae (t,true)):Ir pl (L++[r]) P:=by
 intro q p hp i t hi;obtain⟨h0,h1,h2,h3,h5⟩:=ho q p hp i t hi;rw[xE];by_cases e:r.p=i
 ·subst e;rcases hn.kind with⟨k1,k2,k3⟩|⟨k1,k2,k3⟩|⟨k1,k2,k3,k4⟩|⟨k1,k2,k3,k4⟩
  ·rw[show(aY L r.p).step r.p r={aY L r.p with e:=r.m}by simp[St.step,k1]];exact⟨h0,h1,h2,h3,h5⟩
  ·rw[show(aY L r.p).step r.p r=⟨(aY L r.p).e,r.m,1,(if(aY L r.p).s=0 then[]else(aY L r.p).ps)++[r.a]⟩by simp[St.step,k1]];rcases k3 with⟨k3,k4⟩|⟨k3,k4,k5⟩
   ·omega
   ·refine⟨h0,h1,by simp,by simp only;omega,?_⟩;simp only[k3];rw[if_neg<|by decide];exact H7 _ h5
  ·rw[show(aY L r.p).step r.p r={aY L r.p with s:=3-r.a}by simp[St.step,k1]];exact⟨h0,h1,by simp only;omega,h3,h5⟩
  ·exact absurd hi<|h4 k1 q p hp t
 ·rw[St.FM _ e];exact⟨h0,h1,h2,h3,h5⟩
def xG.snoc{P Q:Int}{L:List Rc}{r:Rc}{m:Ms}(hm:xG P Q L m)(hn:Next P Q L r):xG P Q (L++[r]) m:=by
 obtain⟨hk,hq,hp,ht,hs,fP⟩:=hm;by_cases e:r.p=m.p
 ·refine⟨hk,hq,hp,?_,?_,?_⟩<;>rw[xE]<;>rw[<-e]at ht hs fP⊢
  ·rcases hn.kind with⟨k1,k2,k3⟩|⟨k1,k2,k3⟩|⟨k1,k2,k3,k4⟩|⟨k1,k2,k3,k4⟩
   ·rw[show(aY L r.p).step r.p r={aY L r.p with e:=r.m}by simp[St.step,k1]];exact ht
   ·rw[show(aY L r.p).step r.p r=⟨(aY L r.p).e,r.m,1,(if(aY L r.p).s=0 then[]else(aY L r.p).ps)++[r.a]⟩by simp[St.step,k1]];simp only;rcases k3 with⟨k3,k4⟩|⟨k3,k4,k5⟩<;>omega
   ·rw[show(aY L r.p).step r.p r={aY L r.p with s:=3-r.a}by simp[St.step,k1]];exact ht
   ·rw[show(aY L r.p).step r.p r={aY L r.p with s:=0}by simp[St.step,k1]];exact ht
  ·rcases hn.kind with⟨k1,k2,k3⟩|⟨k1,k2,k3⟩|⟨k1,k2,k3,k4⟩|⟨k1,k2,k3,k4⟩
   ·rw[show(aY L r.p).step r.p r={aY L r.p with e:=r.m}by simp[St.step,k1]];exact hs
   ·rw[show(aY L r.p).step r.p r=⟨(aY L r.p).e,r.m,1,(if(aY L r.p).s=0 then[]else(aY L r.p).ps)++[r.a]⟩by simp[St.step,k1]];simp only;rcases k3 with⟨k3,k4⟩|⟨k3,k4,k5⟩
    ·omega
    ·intro e2;exact absurd k3<|hs<|by omega
   ·rw[show(aY L r.p).step r.p r={aY L r.p with s:=3-r.a}by simp[St.step,k1]];simp only;omega
   ·rw[show(aY L r.p).step r.p r={aY L r.p with s:=0}by simp[St.step,k1]];simp
  ·rcases hn.kind with⟨k1,k2,k3⟩|⟨k1,k2,k3⟩|⟨k1,k2,k3,k4⟩|⟨k1,k2,k3,k4⟩
   ·rw[show(aY L r.p).step r.p r={aY L r.p with e:=r.m}by simp[St.step,k1]];exact fP
   ·rw[show(aY L r.p).step r.p r=⟨(aY L r.p).e,r.m,1,(if(aY L r.p).s=0 then[]else(aY L r.p).ps)++[r.a]⟩by simp[St.step,k1]];simp only;rcases k3 with⟨k3,k4⟩|⟨k3,k4,k5⟩
    ·intro e2;omega
    ·intro e2;exact absurd k3<|hs<|by omega
   ·rw[show(aY L r.p).step r.p r={aY L r.p with s:=3-r.a}by simp[St.step,k1]];exact fP
   ·rw[show(aY L r.p).step r.p r={aY L r.p with s:=0}by simp[St.step,k1]];exact fP
 ·refine⟨hk,hq,hp,?_,?_,?_⟩<;>rw[xE,St.FM _ e]
  ·exact ht
  ·exact hs
  ·exact fP
def tX.snoc{pl:List PL}{P Q:Int}{L:List Rc}{F:List Ms}{r:Rc}(hm:tX pl P Q L F)(hn:Next P Q L r):tX pl P Q (L++[r]) F:=fun m hx=>⟨(hm m hx).1.snoc hn,(hm m hx).2⟩
def Valid.parts(hv:Valid P Q L):∀p,(aY L p).s≠0->(aY L p).ps≠[]:=by
 induction hv with
 |nil=>intro p h;exact absurd rfl h
 | @snoc L r hv hn ih=>
   intro p;rw[xE];by_cases e:r.p=p
   ·subst e;rcases hn.kind with⟨k1,k2,k3⟩|⟨k1,k2,k3⟩|⟨k1,k2,k3,k4⟩|⟨k1,k2,k3,k4⟩
    ·rw[show(aY L r.p).step r.p r={aY L r.p with e:=r.m}by simp[St.step,k1]];exact ih r.p
    ·rw[show(aY L r.p).step r.p r=⟨(aY L r.p).e,r.m,1,(if(aY L r.p).s=0 then[]else(aY L r.p).ps)++[r.a]⟩by simp[St.step,k1]];simp
    ·rw[show(aY L r.p).step r.p r={aY L r.p with s:=3-r.a}by simp[St.step,k1]];exact fun _=>ih r.p<|by omega
    ·rw[show(aY L r.p).step r.p r={aY L r.p with s:=0}by simp[St.step,k1]];intro z;exact absurd rfl z
   ·rw[St.FM _ e];exact ih p
def Next.valid{r:Rc}(hn:Next P Q L r)(hv:Valid P Q L):Valid P Q (L++[r]):=.snoc hv hn
def anQ(L:List Rc)(r:Rc):(L++[r]).flatMap dL=L.flatMap dL++dL r:=by simp
end
end
section
section
variable{r:Rc}
def anR{ps:List PS}{i:Nat}{x:PS}(hx:(jE ps r)[i]? =ae x)(hp:0<=r.p)(h6:r.p<6)(hl:ps.length=6):(∃x0,ps[i]? =ae x0/\r.p=i/\x=x0.bJ r)\/(r.p≠i/\ps[i]? =ae x):=by
 obtain⟨k,hk⟩:=vw hp;have e:r.p.toNat=k:=by omega
 unfold jE at hx;rw[e]at hx;have mM:k<ps.length:=by omega
 by_cases h1:k=i
 ·subst h1;rw[mD mM]at hx;refine .inl ⟨ps[k],dR mM,hk,?_⟩;have:=qE hx;rw[<-this];simp[List.getD,dR mM]
 ·rw[vz h1]at hx;exact .inr ⟨by omega,hx⟩
end
end
section
section
variable{h:HS}
def Bc{α:Type}{l:List α}{k i:Nat}{v a:α}(hi:(l.set k v)[i]? =ae a):(i=k/\a=v)\/(i≠k/\l[i]? =ae a):=by
 by_cases e:i=k
 ·subst e;have hl:i<(l.set i v).length:=(dD.1 hi).1;rw[yK]at hl;rw[mD hl]at hi;exact .inl ⟨rfl,(qE hi).symm⟩
 ·rw[vz fun e2=>e e2.symm]at hi;exact .inr ⟨e,hi⟩
variable{i P t0:Int}{pl:List PL}{L:List Rc}{q:Nat}{p':PL}{s:aA}
def Ir.set(o:Ir pl L P)(hn:∀i t,p'.s.nw i=ae (t,true)->0<=i/\i<P/\1<=(aY L i).s/\(aY L i).t=t/\(q:Int)∈(aY L i).ps):Ir (pl.set q p') L P:=by
 intro j a ha i t hi;rcases Bc ha with⟨e1,rfl⟩|⟨e1,ha'⟩
 ·rw[e1];exact hn i t hi
 ·exact o j a ha' i t hi
def tX.set{Q:Int}{F:List Ms}(hm:tX pl P Q L F){p:PL}(hp:pl[q]? =ae p)(ho:∀i t,p'.s.nw i=ae (t,true)->p.s.nw i=ae (t,true)\/((aY L i).s=1/\(aY L i).t=t)):tX (pl.set q p') P Q L F:=by
 intro m hx;refine⟨(hm m hx).1,fun h2 j a ha hj hi=>?_⟩;rcases Bc ha with⟨e1,rfl⟩|⟨e1,ha'⟩
 ·subst e1;rcases ho _ _ hi with e|⟨e,e2⟩
  ·exact(hm m hx).2 h2 j p hp hj e
  ·exact(hm m hx).1.s e2.symm e
 ·exact(hm m hx).2 h2 j a ha' hj hi
def Vk{j t:Int}(h:(s.opened i t0).nw j=ae (t,true)):s.nw j=ae (t,true)\/(j=i/\t=t0):=by
 unfold aA.opened at h;split at h
 ·unfold aA.set at h;simp only at h;split at h
  ·rename_i e;simp only[fJ,tV,and_true]at h;exact .inr ⟨e,h.symm⟩
  ·exact .inl h
 ·exact .inl h
def anS{x:ByteArray}:(s.kH i t0 x).nw=s.nw:=by
 unfold aA.kH;split<;>rfl
end
end
section
attribute [local go_sem ↓] Go.wp_at_zero Go.wp_at_succ
def ZO:∀(l:List Ms) (k:Nat) (e:Ms) (j:Nat),l[k]? =ae e->j<5->(l.flatMap Ms.cs)[k*5+j]? =e.cs[j]?
 |[],k,e,j,h,_=>by simp at h
 |x::r,0,e,j,h,hj=>by
  simp only[xA,fJ]at h;subst h;simp only[nZ,Nat.zero_mul,Cm];exact tJ<|by simpa[Ms.cs]using hj
 |x::r,k+1,e,j,h,hj=>by
  simp only[zJ]at h;have:=ZO r k e j h hj;rw[nZ,wG (by simp[Ms.cs]<;>omega)];rw[<-this];congr 1;simp[Ms.cs]<;>omega
def Vl{w:ah}{B:Nat}{v:aj}{l:List Ms}(h:w.ownsRow B 119 5 v l.length (l.flatMap Ms.cs)){k:Nat}{e:Ms}(hk:l[k]? =ae e):
 ∃g cap,v=.slice (ae ⟨g,0,af⟩) l.length cap/\g<w.heap.size/\l.length<=cap/\cap<=dH/\w.cell? ⟨g,k*5,af⟩=ae (.int .i64 e.k)/\w.cell? ⟨g,k*5+1,af⟩=ae (.int .i64 e.q)/\w.cell? ⟨g,k*5+2,af⟩=ae (.int .i64 e.p)/\w.cell? ⟨g,k*5+3,af⟩=ae (.int .i64 e.t)/\w.cell? ⟨g,k*5+4,af⟩=ae (.bool e.c):=by
 rcases h.2 with⟨rfl,h0⟩|⟨g,cap,cur,rfl,_,_,h1,h2,_⟩
 ·have:=(List.getElem?_eq_some_iff.mp hk).1;omega
 ·have hc:=h.cells (g:=g) rfl;have key:∀j u,j<5->e.cs[j]? =ae u->w.cell? ⟨g,k*5+j,af⟩=ae u:=fun j u hj hu=>by
   have:=hc (k*5+j) u<|(ZO l k e j hk hj).trans hu;rw[aCo]at this;simpa using this
  exact⟨g,cap,rfl,(h.lt g rfl).2,h1,h2,key 0 _ (by omega) rfl,key 1 _ (by omega) rfl,key 2 _ (by omega) rfl,key 3 _ (by omega) rfl,key 4 _ (by omega) rfl⟩
section
variable{w:ah}{B:Nat}
end
end
section
def Iu:(prog.info? 119).map (fun i=>(i.zero,i.size,i.bytes))=ae (ae<|.agg #[.int .i64 0,.int .i64 0,.int .i64 0,.int .i64 0,.bool false],5,40):=by kernel_rfl
def HS.gp(h:HS)(v:aj)(l:List Ms):HS:={h with fv:=v,fl:=l}
def HS.anT{h:HS}(h6:h.ps.length=6)(v:aj)(l:List Ms):h.cells.toArray.setIfInBounds 69 v=(h.gp v l).cells.toArray:=by
 obtain⟨P,Q,T,K,jv,jb,up,ps,br,kp,pv,pl,fv,fl⟩:=h;obtain⟨⟨e0,t0,s0,a0,b0,c0,d0,x0,y0,z0⟩,⟨e1,t1,s1,a1,b1,c1,d1,x1,y1,z1⟩,⟨e2,t2,s2,a2,b2,c2,d2,x2,y2,z2⟩,⟨e3,t3,s3,a3,b3,c3,d3,x3,y3,z3⟩,⟨e4,t4,s4,a4,b4,c4,d4,x4,y4,z4⟩,⟨e5,t5,s5,a5,b5,c5,d5,x5,y5,z5⟩,rfl⟩:=Ze h6;kernel_rfl
section
variable{w w':ah}{B xb n:Nat}{h:HS}
def ay.ZP{w3:ah}{fv:aj}{l:List Ms}(hh:ay w B xb n h)(f3:Fr (fun q=>h.fv.ownBlock=ae q) w w3)(iy:w3.ownsRow B 119 5 fv l.length (l.flatMap Ms.cs))(dM:∀q,fv.ownBlock=ae q->h.fv.ownBlock=ae q\/w.heap.size<=q):bI w (w3.setCell ⟨xb,69,af⟩ fv) B xb n h n (h.gp fv l):=by
 have hz:=aS hh.blk;have n1:h.fv.ownBlock≠ae xb:=UR hh.lY hh.blk (by decide);have fs:Fr (fun q=>q=xb) w3 (w3.setCell ⟨xb,69,af⟩ fv):=(Fr.refl (fun q=>q=xb) w3).setCell (p:=⟨xb,69,af⟩) (.inl rfl) _;have f4:Fr (fun q=>q=xb\/h.fv.ownBlock=ae q) w (w3.setCell ⟨xb,69,af⟩ fv):=(f3.mono fun q e=>.inl<|.inr e).trans fs fun q e=>.inl<|.inl e;have key:∀{ty:bW} {wd:Nat} {v:aj} {n:Nat} {xs:List aj},w.ownsRow B ty wd v n xs->ty≠119->ty≠111->∀q,v.ownBlock=ae q->¬(q=xb\/h.fv.ownBlock=ae q):=fun{ty wd v n xs} hr h1 h2 q hq e=>by
  have ht:=ig hr hq;rcases e with e|e
  ·subst e;rw[lD hh.blk]at ht;exact h2 ht.symm
  ·have:=ig hh.lY e;rw[ht]at this;exact h1 this
 refine⟨⟨?_,f4.ownsRow hh.lL<|key hh.lL (by decide)<|by decide,f4.ownsRow hh.jD<|key hh.jD (by decide)<|by decide,?_,fun p hp=>?_,hh.hx,hh.hP,hh.hQ,hh.h6⟩,?_,?_⟩
 ·rw[jQ<|(f3.block _ hz n1).trans hh.blk,HS.anT hh.h6 fv l]
 ·refine fs.ownsRow iy fun q hq e=>?_;subst e;rcases dM _ hq with a|a
  ·exact n1 a
  ·omega
 ·refine(hh.dG p hp).stay f4 fun q hq hf=>?_;rcases hq with hq|hq
  ·subst hq;exact hh.JV hp hf
  ·have h0:=ig hh.lY hq;rcases(hh.dG p hp).tags hf with h1|h1|h1<;>rw[h0]at h1<;>cases h1
 ·exact f4.mono fun q e=>.inl (by rcases e with e|e;exact .inl e;exact .inr<|.inr<|.inr<|.inl e)
 ·intro x hx;rcases hx with e|e|e|e|e
  ·exact .inl<|.inl e
  ·exact .inl<|.inr<|.inl e
  ·exact .inl<|.inr<|.inr<|.inl e
  ·rcases dM x e with a|a
   ·exact .inl<|.inr<|.inr<|.inr<|.inl a
   ·exact .inr a
  ·exact .inl<|.inr<|.inr<|.inr<|.inr e
inductive wM(w w':ah)(B xb n:Nat)(h:HS)(m:Ms):Prop
 |lost (hl:100<=h.fl.length) (f:Fr aH w w'):wM w w' B xb n h m
 |gp (hl:h.fl.length<100) (fv:aj) (mv:bI w w' B xb n h n (h.gp fv<|h.fl++[m])) (dM:∀q,fv.ownBlock=ae q->h.fv.ownBlock=ae q\/w.heap.size<=q):wM w w' B xb n h m
def ZQ(hh:ay w B xb n h)(m:Ms):
 aK prog 120 #[.pointer<|ae ⟨xb,69,af⟩,.agg #[.int .i64 m.k,.int .i64 m.q,.int .i64 m.p,.int .i64 m.t,.bool m.c]] w fun e w'=>e=.returned (.tuple #[])/\wM w w' B xb n h m:=by
 obtain⟨i0,dF,gG,fO,iH⟩:=aCf Iu;have H:Hid (ay w B xb n h):=hh;have c0:=hh.cF;obtain⟨la,lc,hl,BQ⟩:=oL hh.lY;have Vm:Hid (h.fv=.slice la h.fl.length lc):=hl;rw[hl]at c0;have cf:∀o,w.frozen? ⟨xb,o,af⟩=false:=jP hh.blk;have aB:=aS hh.blk;have xh:Value.ownBlock (.slice la h.fl.length lc)≠ae xb:=by rw[<-hl];exact UR hh.lY hh.blk<|by decide
 have hBw:B<=w.heap.size:=YO<|YF hh.hx aB;have J4:Hid (w.ownsRow B 119 5 (.slice la h.fl.length lc) h.fl.length<|h.fl.flatMap Ms.cs):=by have:=hh.lY;rw[hl]at this;exact this
 clear hh hl BQ;by_cases hb:h.fl.length<100
 ·go_enter func120,ntmps120
  go_wp2_with fail
  go_region_law
   ((refine aCu _ (by rfl) _ _ _ (by rfl) B 119 i0 _ 5 40 underlying107 dF gG fO iH rfl (by omega) (.slice la h.fl.length lc) h.fl.length (h.fl.flatMap Ms.cs) (by rfl) (by exact(((aZ _).alloc _).drew).ownsRow J4.out fun _ _=>id)
      ⟨w.heap.size+1,0,af⟩ 1 1 [.int .i64 m.k,.int .i64 m.q,.int .i64 m.p,.int .i64 m.t,.bool m.c] (by rfl) (by rfl) (aB9 (cs:=#[.int .i64 m.k,.int .i64 m.q,.int .i64 m.p,.int .i64 m.t,.bool m.c]) (t:=119) (fr:=(0,0)) (by show((w.alloc _).alloc _).heap[_]? =_;exact AZ _<|by simp)) (by simp[Value.oneCell'])
      (by omega) (by simp only[dH];omega) (by omega) (by simp<;>omega) (w.heap.size+1+1) (by simp) ?_;intro gg cap w3 iy o8 dM uT
     have lH:=(o8.block xb (by simp<;>omega)<|iI xh).trans<|(((aZ _).alloc _).drew.block _ aB id).trans H.out.blk
     have k0:w3.cell? ⟨xb,69,af⟩=ae (.slice la h.fl.length lc):=(aG lH 69).trans<|by rw[(HS.c4 H.out.h6).2.2.2,Vm.out]
     have k1:∀o,w3.frozen? ⟨xb,o,af⟩=false:=jP lH
     clear lH))
  all_goals
   go_wp2
   go_end0
   refine⟨rfl,.gp hb _ (H.out.ZP (by rw[Vm.out];exact(((((aZ _).alloc _).drew).mono fun _ h=>h.elim).grown o8 fun q e=>.inl e)) (by simpa[Ms.cs]using iy) ?_) ?_⟩
   all_goals
    intro q hq
    simp only[Value.ownBlock,fJ]at hq
    subst hq
    rcases dM with a|a
    ·exact .inl (by rw[Vm.out];exact a)
    ·exact .inr<|by omega
 ·go_enter func120,ntmps120
  go_wp2
  go_end0
  exact⟨rfl,.lost (by omega)<|aZ _⟩
end
end
section
section
variable{w w':ah}{B xb n:Nat}{h:HS}
variable{k:Nat}{m:Ms}
def azB(hh:ay w B xb n h)(hk:h.fl[k]? =ae m):
 aK prog 87 #[.pointer<|ae ⟨xb,0,af⟩,.int .i64 k] w fun r w'=>r=.returned (.tuple #[.agg #[.int .i64 m.k,.int .i64 m.q,.int .i64 m.p,.int .i64 m.t,.bool m.c],.int .i64 0])/\Fr aH w w':=by
 have HH:Hid (ay w B xb n h):=hh;have mM:=(List.getElem?_eq_some_iff.mp hk).1;have HM:Hid (decide ((0:Int)<=k/\(k:Int)<h.fl.length)=true):=jI (by omega);have cF:=hh.cF;obtain⟨g,cap,e,hg,oH,kM,c0,c1,c2,c3,c4⟩:=Vl hh.lY hk;unfold dH at kM;rw[e]at cF;have aB:=aS hh.blk;clear hh hk e;go_enter func87,ntmps87
 go_wp2_with (go_at_call 139;refine(Nl (by exact HH.out.after<|aZ _) k).mono ?_;rw[HM.out];rintro e w1 ⟨rfl,rfl⟩)
 refine aCk (Ij rfl _ _ _ 119 _ (0,0) _ rfl (aB0 _ _) underlying119 rfl<|by kernel_rfl) rfl ?_;exact⟨rfl,aZ _⟩
def wM.behind{w1:ah}(f:Fr aH w w1)(s:wM w1 w' B xb n h m):wM w w' B xb n h m:=by
 cases s with
 |lost hl g=>exact .lost hl<|f.trans g fun _ h=>h.elim
 |gp hl fv mv dM=>exact .gp hl fv ⟨mv.at_,(f.mono fun _ h=>h.elim).trans mv.fr fun _=>.inl,fun k hk=>by
   rcases mv.sub k hk with e|e
   ·exact .inl e
   ·exact .inr<|dP f.size e⟩ (fun q hq=>by
   rcases dM q hq with e|e
   ·exact .inl e
   ·exact .inr<|dP f.size e)
def anU(hh:ay w B xb n h)(hk:h.fl[k]? =ae m):
 aK prog 85 #[.pointer<|ae ⟨xb,0,af⟩,.int .i64 k] w fun r w'=>r=.returned (.int .i64 0)/\wM w w' B xb n h m:=by
 have HH:Hid (ay w B xb n h):=hh;have mM:=(List.getElem?_eq_some_iff.mp hk).1;have HM:Hid (decide ((0:Int)<=k/\(k:Int)<h.fl.length)=true):=jI (by omega);have cF:=hh.cF;obtain⟨g,cap,e,hg,oH,kM,c0,c1,c2,c3,c4⟩:=Vl hh.lY hk;unfold dH at kM;rw[e]at cF;have aB:=aS hh.blk;clear hh hk e;go_enter func85,ntmps85
 go_wp2_with (go_at_call 139;refine(Nl HH.out k).mono ?_;rw[HM.out];rintro e w1 ⟨rfl,rfl⟩)
 go_region_law
  ((go_simp;go_at_call 120;refine(ZQ (HH.out.after<|(Fr.refl _ _).drew) m).mono ?_;rintro e w2 ⟨rfl,hs⟩
    have S2:Hid (wM w w2 B xb n h m):=hs.behind<|(Fr.refl _ _).drew
    clear hs))
 all_goals
  go_wp2
  go_ret
  exact⟨rfl,S2.out⟩
end
end
def anV{w:ah}{B lb bm n:Nat}{v:aj}{s:aA}(h:dK w B lb bm v n s)(p t:Int)(c:Bool)(hp:(Lit.int .i64 p).wf=true)(hn:n<dH)(hb:(s.es.length+1)*40<=140737488355328):
 aK prog 187 #[.pointer<|ae ⟨lb,0,af⟩,.int .i64 p,.int .i64 t,.bool c] w fun e w'=>e=.returned (.bool<|s.isOpen p t)/\
  ∃v',Left w w' B lb bm v v' (n+1) (s.closed p t c):=by
 have H:Hid (dK w B lb bm v n s):=h
 have HP:Hid ((Lit.int .i64 p).wf=true):=hp
 have HN:Hid (n<dH):=hn
 have HK:Hid (keyOf prog 3 (.int .i64 p)=ae (.int .i64 p)):=aCO underlying3 hp
 have HB:Hid ((s.es.length+1)*40<=140737488355328):=hb
 clear h hp hb hn
 by_cases ho:s.isOpen p t=true
 ·cases c
  ·have hs:s.closed p t false=(s.put ⟨3,p,t,⟨#[]⟩⟩).set p t false:=by simp[aA.closed,ho,aA.wJ]
   rw[hs,ho]
   clear hs
   go_enter func187,ntmps187
   go_wp2_with (first
    |(go_at_call 122;refine(FC H.out _ _ HP.out).mono ?_;rintro e w' ⟨rfl,rfl⟩)
    |(go_at_call 184;refine(YS H.out ⟨3,p,t,⟨#[]⟩⟩ HB.out).mono ?_;rintro e w1 ⟨rfl,v',kz,bg,jf⟩
      have k1:w1.cell? ⟨lb,2,af⟩=ae (.map<|ae bm):=by rw[aG kz.blk];rfl)
    |(at_mapUpdate;refine PM _ rfl _ _ _ 161 rfl 3 189 zN underlying161 bm n (iW s.nw) rfl (by exact kz.map) HN.out _ _ _ rfl rfl HK.out (iW ((s.put ⟨3,p,t,⟨#[]⟩⟩).set p t false).nw) (MX _ _ _ _) (MZ _ _ _ _) ?_;intro w2 DK LC))
   go_ret
   have f2:Fr (fun k=>k=bm) w1 w2:=(Fr.refl (fun k=>k=bm) w1).JO LC<|.inl rfl
   refine⟨rfl,v',kz.Na f2 DK,?_,jf⟩
   exact(bg.mono fun k hk=>.inl (by rcases hk with e|e;exact .inl e;exact .inr<|.inr e)).trans f2 fun k hk=>.inl<|.inr<|.inl hk
  ·have hs:s.closed p t true=(s.put ⟨2,p,t,⟨#[]⟩⟩).set p t false:=by simp[aA.closed,ho,aA.wJ]
   rw[hs,ho]
   clear hs
   go_enter func187,ntmps187
   go_wp2_with (first
    |(go_at_call 122;refine(FC H.out _ _ HP.out).mono ?_;rintro e w' ⟨rfl,rfl⟩)
    |(go_at_call 184;refine(YS H.out ⟨2,p,t,⟨#[]⟩⟩ HB.out).mono ?_;rintro e w1 ⟨rfl,v',kz,bg,jf⟩
      have k1:w1.cell? ⟨lb,2,af⟩=ae (.map<|ae bm):=by rw[aG kz.blk];rfl)
    |(at_mapUpdate;refine PM _ rfl _ _ _ 161 rfl 3 189 zN underlying161 bm n (iW s.nw) rfl (by exact kz.map) HN.out _ _ _ rfl rfl HK.out (iW ((s.put ⟨2,p,t,⟨#[]⟩⟩).set p t false).nw) (MX _ _ _ _) (MZ _ _ _ _) ?_;intro w2 DK LC))
   go_ret
   have f2:Fr (fun k=>k=bm) w1 w2:=(Fr.refl (fun k=>k=bm) w1).JO LC<|.inl rfl
   refine⟨rfl,v',kz.Na f2 DK,?_,jf⟩
   exact(bg.mono fun k hk=>.inl (by rcases hk with e|e;exact .inl e;exact .inr<|.inr e)).trans f2 fun k hk=>.inl<|.inr<|.inl hk
 ·have hs:s.closed p t c=s:=by simp[aA.closed,ho]
  have sS:s.isOpen p t=false:=by simpa using ho
  rw[hs,sS]
  clear hs ho
  go_enter func187,ntmps187
  go_wp2_with (go_at_call 122;refine(FC H.out _ _ HP.out).mono ?_;rintro e w' ⟨rfl,rfl⟩)
  go_ret
  exact⟨rfl,v,H.out.mono<|by omega,Fr.refl _ _,fun k hk=>.inl hk⟩
section
def Ms.kC(m:Ms):Ms:={m with k:=2}
def mX{w:ah}{a:Addr}{v:aj}(hc:w.cell? a=ae v):a.block<w.heap.size:=by
 unfold World.cell? at hc;split at hc
 ·rename_i hb;exact(iU.1 hb).1
 ·cases hc
def dK.rV{w:ah}{B lb bm n:Nat}{v:aj}{s:aA}(h:dK w B lb bm v n s){k:Nat}(hk:k=lb\/k=bm\/v.ownBlock=ae k):k<w.heap.size:=by
 rcases hk with rfl|rfl|e
 ·exact h.lt
 ·exact h.map.lt
 ·exact(h.row.lt _ e).2
def Left.told{w W w1:ah}{B lb bm n:Nat}{v v':aj}{s:aA}(h:Left W w1 B lb bm v v' n s)(f:Fr aH w W)(o o':Obj):
 ((w1.alloc o).alloc o').heap[w1.heap.size+1]? =ae o'/\w.heap.size<=w1.heap.size+1/\Left w ((w1.alloc o).alloc o') B lb bm v v' n s:=by
 have f2:Fr aH w1 ((w1.alloc o).alloc o'):=((Fr.refl _ _).alloc _).alloc _;have h1:=aB0 (w1.alloc o) o';have hs:=h.fr.size;have sZ:=f.size;refine⟨by simpa using h1,by omega,f2.logAt h.log id id fun _ _=>id,?_,fun k hk=>?_⟩
 ·exact(f.mono fun _ h=>h.elim).trans (h.fr.trans (f2.mono fun _ h=>h.elim) fun _ h=>.inl h) fun _ h=>.inl h
 ·rcases h.Nb k hk with e|e
  ·exact .inl e
  ·exact .inr<|by omega
section
variable{w:ah}{B lb bm n:Nat}{v:aj}{s:aA}
variable{pb po:Nat}
def anW(c1:w.cell? ⟨pb,po+1,af⟩=ae (.bool true))(m:Ms):
 aK prog 141 #[.pointer<|ae ⟨pb,po,af⟩,.agg #[.int .i64 m.k,.int .i64 m.q,.int .i64 m.p,.int .i64 m.t,.bool m.c]] w fun e w'=>e=.returned (.slice af 0 0)/\Fr aH w w':=by
 have aB:pb<w.heap.size:=mX c1;go_enter func141,ntmps141
 go_wp2
 go_ret;exact⟨rfl,aZ _⟩
def anX(h:dK w B lb bm v n s)(c0:w.cell? ⟨pb,po,af⟩=ae (ptr lb))(c1:w.cell? ⟨pb,po+1,af⟩=ae (.bool false))(m:Ms)
 (hp:(Lit.int .i64 m.p).wf=true)(hn:n<dH)(hb:(s.es.length+1)*40<=140737488355328):
 aK prog 141 #[.pointer<|ae ⟨pb,po,af⟩,.agg #[.int .i64 m.k,.int .i64 m.q,.int .i64 m.p,.int .i64 m.t,.bool m.c]] w fun e w'=>
  ∃b v',e=.returned (.slice (ae ⟨b,0,af⟩) 1 1)/\w'.heap[b]? =ae (.cells m.kC.cs.toArray 119 (0,0))/\w.heap.size<=b/\Left w w' B lb bm v v' (n+1) (s.closed m.p m.t m.c):=by
 have H:Hid (dK w B lb bm v n s):=h
 have HP:Hid ((Lit.int .i64 m.p).wf=true):=hp
 have HN:Hid (n<dH):=hn
 have HB:Hid ((s.es.length+1)*40<=140737488355328):=hb
 clear h hp hb hn
 unfold ptr at c0
 have aB:pb<w.heap.size:=mX c1
 go_enter func141,ntmps141
 have HF:Hid (¬(w.heap.size=lb\/w.heap.size=bm\/v.ownBlock=ae w.heap.size)):=fun e=>PI _<|H.out.rV e
 go_wp2
 go_region_law
  ((go_simp;go_at_call 187;refine(anV (Fr.logAt ((aZ _).trans ((Fr.refl (fun _=>False) _).drew) fun _ h=>h.elim) H.out id id fun _ _=>id) m.p m.t m.c HP.out HN.out HB.out).mono ?_;rintro e w1 ⟨rfl,v',kz⟩
    have H1:Hid (Left (w.alloc<|.cells #[.int .i64 m.k,.int .i64 m.q,.int .i64 m.p,.int .i64 m.t,.bool m.c] 119).drew w1 B lb bm v v' (n+1)<|s.closed m.p m.t m.c):=kz
    have BN:w1.heap[w.heap.size]? =ae (.cells #[.int .i64 m.k,.int .i64 m.q,.int .i64 m.p,.int .i64 m.t,.bool m.c] 119 (0,0)):=(kz.fr.block w.heap.size (by simp) HF.out).trans<|aB0 _ _
    have k0:w1.cell? ⟨w.heap.size,0,af⟩=ae (.int .i64 m.k):=by rw[aG BN];rfl
    have k1:w1.cell? ⟨w.heap.size,1,af⟩=ae (.int .i64 m.q):=by rw[aG BN];rfl
    have k2:w1.cell? ⟨w.heap.size,2,af⟩=ae (.int .i64 m.p):=by rw[aG BN];rfl
    have k3:w1.cell? ⟨w.heap.size,3,af⟩=ae (.int .i64 m.t):=by rw[aG BN];rfl
    have k4:w1.cell? ⟨w.heap.size,4,af⟩=ae (.bool m.c):=by rw[aG BN];rfl
    clear kz BN))
 all_goals
  go_wp2
  go_ret
  exact⟨w1.heap.size+1,v',rfl,(H1.out.told ((aZ _).trans ((Fr.refl (fun _=>False) _).drew) fun _ h=>h.elim) _ _)⟩
end
end
end Go.Proofs.YtkelpcjiediamaaGreat
