import Derived.Test.YtkelpcjiediamaaGreatQb16
import Derived.Deep.QuietTactic
import Derived.BigQuiet
set_option maxRecDepth 100000
set_option maxHeartbeats 0
set_option linter.all false
namespace Go.Proofs.YtkelpcjiediamaaGreat
def aB7:=@Go.Value.slice.injEq
open Go renaming Calls→aK,TypeId→bW,Value→aj,World→ah,maxLen→dH
open Go.RowKit renaming intOf→dX
open Option renaming none→af,some→ae
open Go.Proofs.Tryz
open Go.RowKit Go.Maps
section
def Ec(w:ah)(v:aj)(rs:List Rec):Prop:=
 (v=.slice af 0 0/\rs=[])\/∃g cap,v=.slice (ae ⟨g,0,af⟩) rs.length cap/\rs.length<=cap/\cap<=dH/\
   ∀(k:Nat) r,rs[k]? =ae r->w.cell? ⟨g,k*3,af⟩=ae (.int .i64 r.o)/\w.cell? ⟨g,k*3+1,af⟩=ae (.int .i64 r.p)/\w.cell? ⟨g,k*3+2,af⟩=ae (.string r.s)
def ad6:∀(l:List Rec) (k:Nat) (e:Rec) (j:Nat),l[k]? =ae e->j<3->(qi l)[k*3+j]? =e.cs[j]?
 |[],k,e,j,h,_=>by simp at h
 |x::r,0,e,j,h,hj=>by
  simp only[xA,fJ]at h;subst h;simp only[qi,nZ];rw[tJ (by simp[Rec.cs]<;>omega)];simp
 |x::r,k+1,e,j,h,hj=>by
  simp only[zJ]at h;have:=ad6 r k e j h hj;simp only[qi,nZ]at this⊢
  rw[wG (by simp[Rec.cs]<;>omega),<-this];congr 1;simp[Rec.cs]<;>omega
variable{w:ah}{rs:List Rec}
def ad7{B:Nat}{v:aj}(h:w.ownsRow B 94 3 v rs.length (qi rs)):Ec w v rs:=by
 rcases ad2 h with⟨rfl,rfl⟩|⟨g,cap,rfl,h1,h2,_⟩
 ·exact .inl ⟨rfl,rfl⟩
 ·refine .inr ⟨g,cap,rfl,h1,h2,fun k r hk=>?_⟩;have hc:=h.cells (g:=g) rfl;have key:∀j u,j<3->r.cs[j]? =ae u->w.cell? ⟨g,k*3+j,af⟩=ae u:=fun j u hj hu=>by
   have:=hc (k*3+j) u<|(ad6 rs k r j hk hj).trans hu;rw[aCo]at this;simpa using this
  exact⟨key 0 _ (by omega) rfl,key 1 _ (by omega) rfl,key 2 _ (by omega) rfl⟩
def ad8{va vb:aj}(ha:Ec w va rs)(hb:Ec w vb rs):
 aK prog 98 #[va,vb] w fun e w'=>e=.returned (.bool true)/\∃q,w'=w.drewN q:=by
 obtain⟨a1,c1,rfl,oH⟩:∃a1 c1,va=.slice a1 rs.length c1/\rs.length<=maxLen:=by
  rcases ha with⟨rfl,rfl⟩|⟨g,cap,rfl,h1,h2,_⟩
  ·exact⟨af,0,rfl,lK _⟩
  ·exact⟨_,_,rfl,dP h1 h2⟩
 obtain⟨a2,c2,rfl⟩:∃a2 c2,vb=.slice a2 rs.length c2:=by
  rcases hb with⟨rfl,rfl⟩|⟨g,cap,rfl,h1,h2,_⟩
  ·exact⟨af,0,rfl⟩
  ·exact⟨_,_,rfl⟩
 unfold dH at oH;have HA:Hid (Ec w (.slice a1 rs.length c1) rs):=ha;have HB:Hid (Ec w (.slice a2 rs.length c2) rs):=hb;clear ha hb;go_enter func98,ntmps98
 go_wp2_with fail
 go_loopw [5] (fun i w'=>∃k:Nat,k<=rs.length/\i=.int .i64 k/\∃q,w'=w.drewN q) (fun i _=>rs.length-(dX i).toNat)
 case atStart=>exact⟨0,lK _,rfl,0,rfl⟩
 case round=>
  obtain⟨k,hk,rfl,q,rfl⟩:=hrel
  by_cases aB:k<rs.length
  ·obtain⟨r,hr⟩:∃r,rs[k]? =ae r:=⟨_,dR aB⟩
   obtain⟨g1,rfl,x0,x1,x2⟩:∃g1,a1=ae ⟨g1,0,af⟩/\w.cell? ⟨g1,k*3,af⟩=ae (.int .i64 r.o)/\w.cell? ⟨g1,k*3+1,af⟩=ae (.int .i64 r.p)/\w.cell? ⟨g1,k*3+2,af⟩=ae (.string r.s):=by
    rcases HA.out with⟨_,h0⟩|⟨g,cap,e,h1,h2,h3⟩
    ·rw[h0]at aB;simp at aB
    ·simp only[aB7]at e;exact⟨g,e.1,h3 k r hr⟩
   obtain⟨g2,rfl,y0,y1,y2⟩:∃g1,a2=ae ⟨g1,0,af⟩/\w.cell? ⟨g1,k*3,af⟩=ae (.int .i64 r.o)/\w.cell? ⟨g1,k*3+1,af⟩=ae (.int .i64 r.p)/\w.cell? ⟨g1,k*3+2,af⟩=ae (.string r.s):=by
    rcases HB.out with⟨_,h0⟩|⟨g,cap,e,h1,h2,h3⟩
    ·rw[h0]at aB;simp at aB
    ·simp only[aB7]at e;exact⟨g,e.1,h3 k r hr⟩
   clear hr
   go_wp2_with fail
   go_quiet (fail)
   go_wp2
   go_roundw
   case rel=>exact⟨k+1,by omega,by go_num,q+nq,by simp[World.drewN]⟩
   case measure=>simp[dX]<;>omega
  ·go_wp2
   go_ret
   exact⟨rfl,q,rfl⟩
end
def gm.ends(x e:gm):Prop:=x.k≠1/\x.p=e.p/\x.t=e.t
structure alN(es:List gm)(i:Nat)(e:gm)(q:Int):Prop where
 nz:q≠0
 nH:nH es e.p e.t=ae q
 late:∃(m:Nat) (x:gm),i<m/\es[m]? =ae x/\x.ends e
 all:∀x∈es,x.ends e->x.k=q
def alO(s:aA)(S:Nat):Prop:=∀(i:Nat) e,i<S->s.es[i]? =ae e->e.k=1->∃q,alN s.es i e q
section
def dQ(n:Int):Prop:=(Lit.int .i64 n).wf=true
def cnt(es:List gm):Nat:=(es.filter fun e=>decide<|e.k=1).length
structure Inv(s:aA):Prop where
 wf:s.Wf
 kinds:∀e∈s.es,e.k=1\/e.k=2\/e.k=3
 Nj:∀e∈s.es,∃t' o,s.nw e.p=ae (t',o)/\e.t<=t'/\(e.k≠1->e.t<t'\/o=false)
 closed:∀(i:Nat) e,s.es[i]? =ae e->e.k=1->s.isOpen e.p e.t=false->∃(m:Nat) (x:gm),i<m/\s.es[m]? =ae x/\x.ends e
 uniq:∀x∈s.es,∀y∈s.es,x.k≠1->y.k≠1->x.p=y.p->x.t=y.t->x.k=y.k
 d:s.d=cnt s.es
 YZ:s.d<=200
def alP:Inv ⟨[],0,fun _=>af⟩:=
 ⟨fun e h=>by simp at h,fun e h=>by simp at h,fun e h=>by simp at h,fun i e h=>by simp at h,fun e h=>by simp at h,rfl,by simp⟩
structure Ext(s s':aA):Prop where
 es:∃t,s'.es=s.es++t
 open_:∀e∈s.es,e.k=1->s.isOpen e.p e.t=false->s'.isOpen e.p e.t=false
 nH:∀e∈s.es,e.k=1->s.isOpen e.p e.t=false->nH s'.es e.p e.t=nH s.es e.p e.t
def Ext.refl(s:aA):Ext s s:=⟨⟨[],by simp⟩,fun _ _ _ h=>h,fun _ _ _ _=>rfl⟩
variable{s s':aA}{p t:Int}{i:Nat}{e:gm}
def UJ:s.isOpen p t=true↔s.nw p=ae (t,true):=by simp[aA.isOpen]
def PQ:s.isOpen p t=false↔s.nw p≠ae (t,true):=by simp[aA.isOpen]
def ad9{α:Type}{l:List α}{x e:α}(h:(l++[x])[i]? =ae e):l[i]? =ae e\/(i=l.length/\e=x):=by
 by_cases hi:i<l.length
 ·rw[tJ hi]at h;exact .inl h
 ·rw[wG<|by omega]at h;have:i-l.length=0:=by
   have:=(dD.1 h).1;simp at this;omega
  rw[this]at h;simp at h;exact .inr ⟨by omega,h.symm⟩
def aea(h:Inv s)(p t:Int):Inv (s.opened p t)/\Ext s (s.opened p t):=by
 unfold aA.opened;split
 ·rename_i hc;have G7:∀t' o,s.nw p=ae (t',o)->o=false/\t'<t:=fun t' o e=>by
   simp only[aA.yN,e,lX,Bool.not_eq_true',UA]at hc;exact hc
  have aF:∀e∈s.es,(s.set p t true).isOpen e.p e.t=false\/e.p≠p:=fun e he=>by
   by_cases ep:e.p=p
   ·left;obtain⟨t',o,h1,h2,_⟩:=h.Nj e he;rw[ep]at h1;have:=G7 t' o h1;rw[PQ];simp only[aA.set,ep,if_true,ne_eq,fJ,tV,and_true];omega
   ·exact .inr ep
  have EP:∀e∈s.es,s.isOpen e.p e.t=(s.set p t true).isOpen e.p e.t:=fun e he=>by
   by_cases ep:e.p=p
   ·obtain⟨t',o,h1,h2,_⟩:=h.Nj e he;have h3:=G7 t' o (by rw[<-ep];exact h1);have a:s.isOpen e.p e.t=false:=by
     rw[PQ,h1,h3.1];simp
    rcases aF e he with h4|h4
    ·rw[a,h4]
    ·exact absurd ep h4
   ·simp[aA.isOpen,aA.set,ep]
  refine⟨⟨h.wf,h.kinds,?_,?_,h.uniq,h.d,h.YZ⟩,⟨⟨[],by simp[aA.set]⟩,fun e he h1 h2=>by rw[<-EP e he];exact h2,fun _ _ _ _=>rfl⟩⟩
  ·intro e he;obtain⟨t',o,h1,h2,h3⟩:=h.Nj e he;by_cases ep:e.p=p
   ·have h4:=G7 t' o (by rw[<-ep];exact h1);exact⟨t,true,by simp[aA.set,ep],by omega,fun _=>.inl<|by omega⟩
   ·exact⟨t',o,by simp[aA.set,ep];exact h1,h2,h3⟩
  ·intro i e he hk ho;exact h.closed i e he hk (by rw[EP e<|fD he];exact ho)
 ·exact⟨h,Ext.refl s⟩
def alQ(es:List gm)(x:gm)(hx:x.k=1)(p t:Int):nH (es++[x]) p t=nH es p t:=by
 rw[PO,if_neg<|by simp[hx]]
def alR(h:Inv s)(p t:Int)(x:ByteArray)(hp:dQ p)(ht:dQ t):Inv (s.kH p t x)/\Ext s (s.kH p t x):=by
 unfold aA.kH;split
 ·rename_i hc;have ho:s.isOpen p t=true:=by
   unfold aA.nD at hc;split at hc
   ·cases hc
   ·rename_i h1;simpa using h1
  have hd:s.d<200:=by
   unfold aA.nD at hc;split at hc
   ·cases hc
   ·split at hc
    ·cases hc
    ·split at hc
     ·cases hc
     ·omega
  have hn:=UJ.1 ho;refine⟨⟨?_,?_,?_,?_,?_,?_,?_⟩,⟨⟨[⟨1,p,t,x⟩],rfl⟩,fun _ _ _ h=>h,fun e _ _ _=>alQ _ _ rfl _ _⟩⟩
  ·intro e he;simp only[aA.put,og,nY]at he;rcases he with he|rfl
   ·exact h.wf e he
   ·exact⟨hp,ht⟩
  ·intro e he;simp only[aA.put,og,nY]at he;rcases he with he|rfl
   ·exact h.kinds e he
   ·exact .inl rfl
  ·intro e he;simp only[aA.put,og,nY]at he;rcases he with he|rfl
   ·exact h.Nj e he
   ·exact⟨t,true,hn,Int.le_refl _,fun h=>absurd rfl h⟩
  ·intro i e he hk aF;simp only[aA.put]at he⊢
   rcases ad9 he with he|⟨_,rfl⟩
   ·obtain⟨m,y,h1,h2,h3⟩:=h.closed i e he hk aF;exact⟨m,y,h1,by rw[tJ (dD.1 h2).1];exact h2,h3⟩
   ·exact absurd ho (by rw[show s.isOpen p t=false from aF];simp)
  ·intro a ha b hb h1 h2 h3 h4;simp only[aA.put,og,nY]at ha hb;rcases ha with ha|rfl
   ·rcases hb with hb|rfl
    ·exact h.uniq a ha b hb h1 h2 h3 h4
    ·exact absurd rfl h2
   ·exact absurd rfl h1
  ·simp only[aA.put,cnt,yJ,iQ];have:=h.d;unfold cnt at this;simp[this]
  ·show s.d+1<=200;omega
 ·exact⟨h,Ext.refl s⟩
def Y0(h:Inv s)(p t:Int)(c:Bool)(hp:dQ p)(ht:dQ t):Inv (s.closed p t c)/\Ext s (s.closed p t c):=by
 unfold aA.closed;split
 ·rename_i ho;have hn:=UJ.1 ho;have uu:aA.wJ c=2\/aA.wJ c=3:=by cases c<;>simp[aA.wJ]
  have aI:aA.wJ c≠1:=by rcases uu with e|e<;>rw[e]<;>decide
  have ajD:∀q u:Int,((s.put ⟨aA.wJ c,p,t,⟨#[]⟩⟩).set p t false).isOpen q u=false↔(s.isOpen q u=false\/(q=p/\u=t)):=fun q u=>by
   rw[PQ,PQ];simp only[aA.set,aA.put];by_cases e:q=p
   ·subst e;simp only[if_true,true_and,hn,ne_eq,fJ,tV];by_cases e2:u=t
    ·subst e2;simp
    ·simp[iI e2]
   ·simp[e]
  refine⟨⟨?_,?_,?_,?_,?_,?_,h.YZ⟩,⟨⟨[⟨aA.wJ c,p,t,⟨#[]⟩⟩],rfl⟩,fun e _ _ h2=>(ajD _ _).2<|.inl h2,fun e he hk h2=>?_⟩⟩
  ·intro e he;simp only[aA.put,aA.set,og,nY]at he;rcases he with he|rfl
   ·exact h.wf e he
   ·exact⟨hp,ht⟩
  ·intro e he;simp only[aA.put,aA.set,og,nY]at he;rcases he with he|rfl
   ·exact h.kinds e he
   ·exact .inr uu
  ·intro e he;simp only[aA.put,aA.set,og,nY]at he;rcases he with he|rfl
   ·obtain⟨t',o,h1,h2,h3⟩:=h.Nj e he;by_cases ep:e.p=p
    ·rw[ep,hn]at h1;simp only[fJ,tV]at h1;obtain⟨rfl,rfl⟩:=h1;exact⟨t,false,by simp[aA.set,ep],h2,fun _=>.inr rfl⟩
    ·exact⟨t',o,by simp[aA.set,aA.put,ep];exact h1,h2,h3⟩
   ·exact⟨t,false,by simp[aA.set],Int.le_refl _,fun _=>.inr rfl⟩
  ·intro i e he hk aF;simp only[aA.put,aA.set]at he⊢
   rcases ad9 he with he|⟨_,rfl⟩
   ·rcases(ajD _ _).1 aF with h1|⟨h1,h2⟩
    ·obtain⟨m,y,h1,h2,h3⟩:=h.closed i e he hk h1;exact⟨m,y,h1,by rw[tJ (dD.1 h2).1];exact h2,h3⟩
    ·exact⟨s.es.length,⟨aA.wJ c,p,t,⟨#[]⟩⟩,(dD.1 he).1,by simp,⟨aI,h1.symm,h2.symm⟩⟩
   ·exact absurd hk aI
  ·have old:∀a∈s.es,a.k≠1->a.p=p->a.t=t->False:=fun a ha h1 h2 h3=>by
    obtain⟨t',o,g1,g2,g3⟩:=h.Nj a ha;rw[h2,hn]at g1;simp only[fJ,tV]at g1;obtain⟨rfl,rfl⟩:=g1;rcases g3 h1 with g4|g4
    ·omega
    ·cases g4
   intro a ha b hb h1 h2 h3 h4;simp only[aA.put,aA.set,og,nY]at ha hb;rcases ha with ha|rfl
   ·rcases hb with hb|rfl
    ·exact h.uniq a ha b hb h1 h2 h3 h4
    ·exact(old a ha h1 h3 h4).elim
   ·rcases hb with hb|rfl
    ·exact(old b hb h2 h3.symm h4.symm).elim
    ·rfl
  ·simp only[aA.put,aA.set,cnt,yJ,iQ];have:=h.d;unfold cnt at this;simp[this,aI]
  ·simp only[aA.put,aA.set];rw[PO,if_neg];rintro⟨_,h3,h4⟩;rw[<-h3,<-h4]at h2;rw[ho]at h2;cases h2
 ·exact⟨h,Ext.refl s⟩
def aeb{α:Type}(p:α->Bool):∀(l:List α) (k:Nat) (e:α),k<l.findIdx p->l[k]? =ae e->p e=false
 |[],k,e,_,h=>by simp at h
 |x::r,0,e,hk,h=>by
  simp only[xA,fJ]at h;subst h;cases hp:p x
  ·rfl
  ·simp[UD,hp]at hk
 |x::r,k+1,e,hk,h=>by
  cases hp:p x
  ·refine aeb p r k e ?_ (by simpa using h);rw[UD,hp]at hk;simp only[cond_false]at hk;omega
  ·simp[UD,hp]at hk
def aec{α:Type}(p:α->Bool):∀(l:List α) (k:Nat),k<=l.length->(∀(j:Nat) e,j<k->l[j]? =ae e->p e=false)->k<=l.findIdx p
 |_,0,_,_=>lK _
 |[],k+1,h,_=>by simp at h
 |x::r,k+1,h,ha=>by
  have h0:=ha 0 x (by omega) (by simp);have:=aec p r k (by simpa using h) (fun j e hj he=>ha (j+1) e (by omega)<|by simpa using he);simp[UD,h0,this]
def Y4(hi:i<s.bZ)(he:s.es[i]? =ae e)(hk:e.k=1):s.isOpen e.p e.t=false:=by
 have:=aeb s.blocked s.es i e hi he;simpa[aA.blocked,hk]using this
def Ext.get(E:Ext s s')(he:s.es[i]? =ae e):s'.es[i]? =ae e:=by
 obtain⟨t,ht⟩:=E.es;rw[ht,tJ (dD.1 he).1];exact he
def Ext.length(E:Ext s s'):s.es.length<=s'.es.length:=by
 obtain⟨t,ht⟩:=E.es;rw[ht];simp
def Ext.bZ(E:Ext s s'):s.bZ<=s'.bZ:=by
 refine aec s'.blocked s'.es s.bZ (dP s.Nc E.length) fun j e hj he=>?_;have hl:j<s.es.length:=dY hj s.Nc;have he0:s.es[j]? =ae e:=by
  have h1:=E.get<|dR hl;rw[h1]at he;rw[dR hl];exact he
 by_cases hk:e.k=1
 ·have:=E.open_ e (fD he0) hk<|Y4 hj he0 hk;simp[aA.blocked,this]
 ·simp[aA.blocked,hk]
def Ext.pick(E:Ext s s')(hi:i<s.bZ):s'.pick i=s.pick i:=by
 have hl:i<s.es.length:=dY hi s.Nc;have he:=dR hl;simp only[aA.pick,he,E.get he];by_cases hk:s.es[i].k=1
 ·have:=E.nH _ (fD he) hk<|Y4 hi he hk;simp[aA.CB,this]
 ·simp[aA.CB,hk]
def Ext.aed(E:Ext s s'):∀k,k<=s.bZ->s'.aU 0 k=s.aU 0 k
 |0,_=>by simp[aA.aU]
 |k+1,h=>by rw[s'.FH<|by omega,s.FH<|by omega,Ext.aed E k<|by omega,E.pick<|by omega]
def Ext.aU(E:Ext s s'):∃t,s'.aU 0 s'.bZ=s.aU 0 s.bZ++t:=by
 obtain⟨t,ht⟩:=s'.YW (a:=0) (k:=s.bZ) (by omega)<|s'.bZ-s.bZ;rw[show s.bZ+(s'.bZ-s.bZ)=s'.bZ by have:=E.bZ;omega]at ht;exact⟨t,by rw[ht,E.aed _<|bV _]⟩
def aee(e:gm)(q:Int):∀(es:List gm) (o:Option Int),(∀x∈es,x.ends e->x.k=q)->((∃x∈es,x.ends e)\/o=ae q)->
 es.foldl (fun o x=>if x.k≠1/\x.p=e.p/\x.t=e.t then ae x.k else o) o=ae q
 |[],o,_,h=>by
  rcases h with⟨x,hx,_⟩|h
  ·simp at hx
  ·exact h
 |x::r,o,ji,h=>by
  rw[List.foldl_cons];refine aee e q r _ (fun y hy=>ji y<|by simp[hy]) ?_;by_cases hx:x.ends e
  ·right;rw[if_pos<|show x.k≠1/\x.p=e.p/\x.t=e.t from hx,ji x (by simp) hx]
  ·rw[if_neg<|show¬(x.k≠1/\x.p=e.p/\x.t=e.t)from hx];rcases h with⟨y,hy,OZ⟩|h
   ·rcases jC.1 hy with rfl|hy
    ·exact absurd OZ hx
    ·exact .inl ⟨y,hy,OZ⟩
   ·exact .inr h
def alS(es:List gm)(e:gm)(q:Int)(ji:∀x∈es,x.ends e->x.k=q)(hex:∃x∈es,x.ends e):nH es e.p e.t=ae q:=
 aee e q es af ji (.inl hex)
def alT(h:Inv s):alO s s.bZ:=by
 intro i e hi he hk;obtain⟨m,x,h1,h2,h3⟩:=h.closed i e he hk<|Y4 hi he hk;have hx:=fD h2;have ji:∀y∈s.es,y.ends e->y.k=x.k:=fun y hy OZ=>h.uniq y hy x hx OZ.1 h3.1 (OZ.2.1.trans h3.2.1.symm)<|OZ.2.2.trans h3.2.2.symm;refine⟨x.k,?_,alS _ _ _ ji ⟨x,hx,h3⟩,⟨m,x,h1,h2,h3⟩,ji⟩;rcases h.kinds x hx with e1|e1|e1<;>rw[e1]<;>decide
def aef(s:aA):∀k,k<=s.es.length->(s.aU 0 k).length<=cnt (s.es.take k)
 |0,_=>by simp[aA.aU]
 |k+1,h=>by
  have ih:=aef s k (by omega);have he:=dR (l:=s.es) (i:=k) (by omega);rw[s.FH<|by omega,zK,he];simp only[iQ,cnt,yJ,Ea]at ih⊢
  have:(s.pick k).length<=(List.filter (fun e=>decide<|e.k=1) [s.es[k]]).length:=by
   simp only[aA.pick,he];by_cases hk:s.es[k].k=1
   ·simp only[List.filter_cons,hk,decide_true,if_true,List.filter_nil,ny,vC];split<;>simp
   ·simp[aA.CB,hk]
  omega
def alU(h:Inv s):s.AV 0 1000=s.aU 0 s.bZ:=by
 unfold aA.AV;rw[show aA.start 0=0 by simp[aA.start]];refine D8 ?_;have h1:=aef s s.bZ s.Nc;have h2:cnt (s.es.take s.bZ)<=cnt s.es:=by
  unfold cnt;exact(List.Sublist.filter _<|List.take_sublist _ _).length_le
 have:=h.d;have:=h.YZ;show _<=(1000:Int).toNat;simp<;>omega
end
section
def UK:(prog.info? 3).map (fun i=>(i.zero,i.size,i.bytes))=ae (ae<|.int .i64 0,1,8):=by kernel_rfl
def aeg:aj->Nat
 | .slice _ n _=>n
 |_=>0
def fK(l:List Int):List Value:=l.map<|Value.int .i64
variable{w:ah}{B:Nat}{v:aj}{l:List Int}
def Y7(h:w.ownsRow B 3 1 v l.length (fK l)):
 (v=.slice af 0 0/\l=[])\/∃g cap,v=.slice (ae ⟨g,0,af⟩) l.length cap/\l.length<=cap/\cap<=dH/\B<=g/\g<w.heap.size:=by
 rcases h.2 with⟨hv,h0⟩|⟨g,cap,cur,hv,hb,hg,h1,h2,_⟩
 ·exact .inl ⟨hv,YD h0⟩
 ·exact .inr ⟨g,cap,hv,h1,h2,hb,aS hg⟩
def zO{g n cap:Nat}(h:w.ownsRow B 3 1 (.slice (ae ⟨g,0,af⟩) n cap) l.length (fK l)){k:Nat}{x:Int}(hk:l[k]? =ae x):w.cell? ⟨g,k,af⟩=ae (.int .i64 x):=by
 have:=h.cells (g:=g) rfl k (.int .i64 x) (by simp[fK,hk]);rw[aCo]at this;simpa using this
def lC(h:w.ownsRow B 3 1 v l.length (fK l)):∃a cap,v=.slice a l.length cap/\l.length<=maxLen:=by
 rcases Y7 h with⟨rfl,rfl⟩|⟨g,cap,rfl,h1,h2,_⟩
 ·exact⟨af,0,rfl,lK _⟩
 ·exact⟨_,_,rfl,dP h1 h2⟩
end
def aeh{w:ah}{B:Nat}{ty:bW}{wd g n cap:Nat}{xs:List aj}(h:w.ownsRow B ty wd (.slice (ae ⟨g,0,af⟩) n cap) n xs){j:Nat}(_hj:j<n*wd)(u:aj):
 (w.setCell ⟨g,j,af⟩ u).ownsRow B ty wd (.slice (ae ⟨g,0,af⟩) n cap) n (xs.set j u):=by
 refine⟨by simpa using h.1,?_⟩;rcases h.2 with⟨h1,_⟩|⟨g',acs,cur,h1,hb,hg,h2,h3,h4,h5⟩
 ·cases h1
 ·simp only[aB7,fJ,Addr.mk.injEq]at h1;obtain⟨⟨rfl,_⟩,_,rfl⟩:=h1;refine .inr ⟨g,cap,cur.setIfInBounds j u,rfl,hb,jQ hg j u,h2,h3,by simpa using h4,?_⟩;rw[<-h5];simp[List.take_set]
def Zd(s:aA)(p t:Int)(c:Bool):(s.closed p t c).es.length<=s.es.length+1:=by unfold aA.closed;split<;>simp[aA.put,aA.set]
def aem{w:ah}{B lb bm n:Nat}{v:aj}{s:aA}(h:dK w B lb bm v n s)(p t:Int)(hp:dQ p)(hn:n<dH):
 aK prog 126 #[.pointer<|ae ⟨lb,0,af⟩,.int .i64 p,.int .i64 t] w fun e w'=>e=.returned (.bool<|s.yN p t)/\Left w w' B lb bm v v (n+1) (s.opened p t):=
 (alk h p t hp hn).mono fun _ _ ⟨h1,h2,h3⟩=>⟨h1,h2,h3.mono fun _ e=>.inl<|.inr<|.inl e,fun _ hk=>.inl hk⟩
end Go.Proofs.YtkelpcjiediamaaGreat
