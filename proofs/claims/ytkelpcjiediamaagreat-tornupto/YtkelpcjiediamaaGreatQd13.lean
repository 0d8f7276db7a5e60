import Derived.Test.YtkelpcjiediamaaGreatQd12
import Derived.Deep.QuietTactic
import Derived.BigQuiet
set_option maxRecDepth 100000
set_option maxHeartbeats 0
set_option linter.all false
namespace Go.Proofs.YtkelpcjiediamaaGreat
def aD6:=@Go.Value.slice.injEq
open Go renaming Calls→aU,TypeId→dw,Value→az,World→aj,maxLen→dU
open Go.Ending renaming returned→aT
open Go.IntKind renaming i64→ah
open Go.RowKit renaming intOf→fH
open Go.Value renaming bool→aB,int→ag,pointer→ay,slice→aJ,string→dA
open Option renaming none→af,some→ae
open Go.Proofs.Tryz
open Go.RowKit Go.Maps
section
def E6(w:aj)(v:az)(rs:List Rec):Prop:=
 (v=aJ af 0 0/\rs=[])\/∃g cap,v=aJ (ae ⟨g,0,af⟩) rs.length cap/\rs.length<=cap/\cap<=dU/\
   ∀(k:Nat) r,rs[k]? =ae r->w.cell? ⟨g,k*3,af⟩=ae (ag ah r.o)/\w.cell? ⟨g,k*3+1,af⟩=ae (ag ah r.p)/\w.cell? ⟨g,k*3+2,af⟩=ae (dA r.s)
def afB:∀(l:List Rec) (k:Nat) (e:Rec) (j:Nat),l[k]? =ae e->j<3->(qJ l)[k*3+j]? =e.cs[j]?
 |[],k,e,j,h,_=>by simp at h
 |x::r,0,e,j,h,hj=>by
  simp only[xE,gu]at h;subst h;simp only[qJ,oO];rw[uz (by simp[Rec.cs]<;>omega)];simp
 |x::r,k+1,e,j,h,hj=>by
  simp only[zB]at h;have:=afB r k e j h hj;simp only[qJ,oO]at this⊢
  rw[xC (by simp[Rec.cs]<;>omega),<-this];congr 1;simp[Rec.cs]<;>omega
variable{w:aj}{rs:List Rec}
def afC{B:Nat}{v:az}(h:w.ownsRow B 94 3 v rs.length (qJ rs)):E6 w v rs:=by
 rcases afx h with⟨rfl,rfl⟩|⟨g,cap,rfl,h1,h2,_⟩
 ·exact .inl ⟨rfl,rfl⟩
 ·refine .inr ⟨g,cap,rfl,h1,h2,fun k r hk=>?_⟩;have hc:=h.cells (g:=g) rfl;have key:∀j u,j<3->r.cs[j]? =ae u->w.cell? ⟨g,k*3+j,af⟩=ae u:=fun j u hj hu=>by
   have:=hc (k*3+j) u<|(afB rs k r j hk hj).trans hu;rw[aEn]at this;simpa using this
  exact⟨key 0 _ (by omega) rfl,key 1 _ (by omega) rfl,key 2 _ (by omega) rfl⟩
def afD{va vb:az}(ha:E6 w va rs)(hb:E6 w vb rs):
 aU prog 98 #[va,vb] w fun e w'=>e=aT (aB true)/\∃q,w'=w.drewN q:=by
 obtain⟨a1,c1,rfl,o6⟩:∃a1 c1,va=.slice a1 rs.length c1/\rs.length<=maxLen:=by
  rcases ha with⟨rfl,rfl⟩|⟨g,cap,rfl,h1,h2,_⟩
  ·exact⟨af,0,rfl,mi _⟩
  ·exact⟨_,_,rfl,eG h1 h2⟩
 obtain⟨a2,c2,rfl⟩:∃a2 c2,vb=.slice a2 rs.length c2:=by
  rcases hb with⟨rfl,rfl⟩|⟨g,cap,rfl,h1,h2,_⟩
  ·exact⟨af,0,rfl⟩
  ·exact⟨_,_,rfl⟩
 unfold dU at o6;have HA:Hid (E6 w (.slice a1 rs.length c1) rs):=ha;have HB:Hid (E6 w (.slice a2 rs.length c2) rs):=hb;clear ha hb;go_enter func98,ntmps98
 go_wp2_with fail
 go_loopw [5] (fun i w'=>∃k:Nat,k<=rs.length/\i=ag ah k/\∃q,w'=w.drewN q) (fun i _=>rs.length-(fH i).toNat)
 case atStart=>exact⟨0,mi _,rfl,0,rfl⟩
 case round=>
  obtain⟨k,hk,rfl,q,rfl⟩:=hrel
  by_cases aI:k<rs.length
  ·obtain⟨r,hr⟩:∃r,rs[k]? =ae r:=⟨_,eY aI⟩
   obtain⟨g1,rfl,x0,x1,x2⟩:∃g1,a1=ae ⟨g1,0,af⟩/\w.cell? ⟨g1,k*3,af⟩=ae (ag ah r.o)/\w.cell? ⟨g1,k*3+1,af⟩=ae (ag ah r.p)/\w.cell? ⟨g1,k*3+2,af⟩=ae (dA r.s):=by
    rcases HA.o with⟨_,h0⟩|⟨g,cap,e,h1,h2,h3⟩
    ·rw[h0]at aI;simp at aI
    ·simp only[aD6]at e;exact⟨g,e.1,h3 k r hr⟩
   obtain⟨g2,rfl,y0,y1,y2⟩:∃g1,a2=ae ⟨g1,0,af⟩/\w.cell? ⟨g1,k*3,af⟩=ae (ag ah r.o)/\w.cell? ⟨g1,k*3+1,af⟩=ae (ag ah r.p)/\w.cell? ⟨g1,k*3+2,af⟩=ae (dA r.s):=by
    rcases HB.o with⟨_,h0⟩|⟨g,cap,e,h1,h2,h3⟩
    ·rw[h0]at aI;simp at aI
    ·simp only[aD6]at e;exact⟨g,e.1,h3 k r hr⟩
   clear hr
   go_wp2_with fail
   go_quiet (fail)
   go_wp2
   go_roundw
   case rel=>exact⟨k+1,by omega,by go_num,q+nq,by simp[World.drewN]⟩
   case measure=>simp[fH]<;>omega
  ·go_wp2
   go_ret
   exact⟨rfl,q,rfl⟩
end
def iy.ends(x e:iy):Prop:=x.k≠1/\x.p=e.p/\x.t=e.t
structure anw(es:List iy)(i:Nat)(e:iy)(q:Int):Prop where
 nz:q≠0
 oz:oz es e.p e.t=ae q
 late:∃(m:Nat) (x:iy),i<m/\es[m]? =ae x/\x.ends e
 all:∀x∈es,x.ends e->x.k=q
def anx(s:aH)(S:Nat):Prop:=∀(i:Nat) e,i<S->s.es[i]? =ae e->e.k=1->∃q,anw s.es i e q
section
def eP(n:Int):Prop:=(Lit.int .i64 n).wf=true
def cnt(es:List iy):Nat:=(es.filter fun e=>decide<|e.k=1).length
structure Inv(s:aH):Prop where
 wf:s.Wf
 kinds:∀e∈s.es,e.k=1\/e.k=2\/e.k=3
 Ot:∀e∈s.es,∃t' o,s.nw e.p=ae (t',o)/\e.t<=t'/\(e.k≠1->e.t<t'\/o=false)
 closed:∀(i:Nat) e,s.es[i]? =ae e->e.k=1->s.isOpen e.p e.t=false->∃(m:Nat) (x:iy),i<m/\s.es[m]? =ae x/\x.ends e
 uniq:∀x∈s.es,∀y∈s.es,x.k≠1->y.k≠1->x.p=y.p->x.t=y.t->x.k=y.k
 d:s.d=cnt s.es
 aaB:s.d<=200
def anz:Inv ⟨[],0,fun _=>af⟩:=
 ⟨fun e h=>by simp at h,fun e h=>by simp at h,fun e h=>by simp at h,fun i e h=>by simp at h,fun e h=>by simp at h,rfl,by simp⟩
structure Ext(s s':aH):Prop where
 es:∃t,s'.es=s.es++t
 open_:∀e∈s.es,e.k=1->s.isOpen e.p e.t=false->s'.isOpen e.p e.t=false
 oz:∀e∈s.es,e.k=1->s.isOpen e.p e.t=false->oz s'.es e.p e.t=oz s.es e.p e.t
def Ext.refl(s:aH):Ext s s:=⟨⟨[],by simp⟩,fun _ _ _ h=>h,fun _ _ _ _=>rfl⟩
variable{s s':aH}{p t:Int}{i:Nat}{e:iy}
def V4:s.isOpen p t=true↔s.nw p=ae (t,true):=by simp[aH.isOpen]
def QS:s.isOpen p t=false↔s.nw p≠ae (t,true):=by simp[aH.isOpen]
def afE{α:Type}{l:List α}{x e:α}(h:(l++[x])[i]? =ae e):l[i]? =ae e\/(i=l.length/\e=x):=by
 by_cases hi:i<l.length
 ·rw[uz hi]at h;exact .inl h
 ·rw[xC<|by omega]at h;have:i-l.length=0:=by
   have:=(dM.1 h).1;simp at this;omega
  rw[this]at h;simp at h;exact .inr ⟨by omega,h.symm⟩
def afF(h:Inv s)(p t:Int):Inv (s.opened p t)/\Ext s (s.opened p t):=by
 unfold aH.opened;split
 ·rename_i hc;have IE:∀t' o,s.nw p=ae (t',o)->o=false/\t'<t:=fun t' o e=>by
   simp only[aH.zH,e,mg,Bool.not_eq_true',VS]at hc;exact hc
  have aO:∀e∈s.es,(s.set p t true).isOpen e.p e.t=false\/e.p≠p:=fun e he=>by
   by_cases ep:e.p=p
   ·left;obtain⟨t',o,h1,h2,_⟩:=h.Ot e he;rw[ep]at h1;have:=IE t' o h1;rw[QS];simp only[aH.set,ep,if_true,ne_eq,gu,uD,and_true];omega
   ·exact .inr ep
  have F9:∀e∈s.es,s.isOpen e.p e.t=(s.set p t true).isOpen e.p e.t:=fun e he=>by
   by_cases ep:e.p=p
   ·obtain⟨t',o,h1,h2,_⟩:=h.Ot e he;have h3:=IE t' o (by rw[<-ep];exact h1);have a:s.isOpen e.p e.t=false:=by
     rw[QS,h1,h3.1];simp
    rcases aO e he with h4|h4
    ·rw[a,h4]
    ·exact absurd ep h4
   ·simp[aH.isOpen,aH.set,ep]
  refine⟨⟨h.wf,h.kinds,?_,?_,h.uniq,h.d,h.aaB⟩,⟨⟨[],by simp[aH.set]⟩,fun e he h1 h2=>by rw[<-F9 e he];exact h2,fun _ _ _ _=>rfl⟩⟩
  ·intro e he;obtain⟨t',o,h1,h2,h3⟩:=h.Ot e he;by_cases ep:e.p=p
   ·have h4:=IE t' o (by rw[<-ep];exact h1);exact⟨t,true,by simp[aH.set,ep],by omega,fun _=>.inl<|by omega⟩
   ·exact⟨t',o,by simp[aH.set,ep];exact h1,h2,h3⟩
  ·intro i e he hk ho;exact h.closed i e he hk (by rw[F9 e<|gz he];exact ho)
 ·exact⟨h,Ext.refl s⟩
def anA(es:List iy)(x:iy)(hx:x.k=1)(p t:Int):oz (es++[x]) p t=oz es p t:=by
 rw[QR,if_neg<|by simp[hx]]
def anB(h:Inv s)(p t:Int)(x:ByteArray)(hp:eP p)(ht:eP t):Inv (s.lC p t x)/\Ext s (s.lC p t x):=by
 unfold aH.lC;split
 ·rename_i hc;have ho:s.isOpen p t=true:=by
   unfold aH.ou at hc;split at hc
   ·cases hc
   ·rename_i h1;simpa using h1
  have hd:s.d<200:=by
   unfold aH.ou at hc;split at hc
   ·cases hc
   ·split at hc
    ·cases hc
    ·split at hc
     ·cases hc
     ·omega
  have hn:=V4.1 ho;refine⟨⟨?_,?_,?_,?_,?_,?_,?_⟩,⟨⟨[⟨1,p,t,x⟩],rfl⟩,fun _ _ _ h=>h,fun e _ _ _=>anA _ _ rfl _ _⟩⟩
  ·intro e he;simp only[aH.put,oP,oN]at he;rcases he with he|rfl
   ·exact h.wf e he
   ·exact⟨hp,ht⟩
  ·intro e he;simp only[aH.put,oP,oN]at he;rcases he with he|rfl
   ·exact h.kinds e he
   ·exact .inl rfl
  ·intro e he;simp only[aH.put,oP,oN]at he;rcases he with he|rfl
   ·exact h.Ot e he
   ·exact⟨t,true,hn,Int.le_refl _,fun h=>absurd rfl h⟩
  ·intro i e he hk aO;simp only[aH.put]at he⊢
   rcases afE he with he|⟨_,rfl⟩
   ·obtain⟨m,y,h1,h2,h3⟩:=h.closed i e he hk aO;exact⟨m,y,h1,by rw[uz (dM.1 h2).1];exact h2,h3⟩
   ·exact absurd ho (by rw[show s.isOpen p t=false from aO];simp)
  ·intro a ha b hb h1 h2 h3 h4;simp only[aH.put,oP,oN]at ha hb;rcases ha with ha|rfl
   ·rcases hb with hb|rfl
    ·exact h.uniq a ha b hb h1 h2 h3 h4
    ·exact absurd rfl h2
   ·exact absurd rfl h1
  ·simp only[aH.put,cnt,zD,iV];have:=h.d;unfold cnt at this;simp[this]
  ·show s.d+1<=200;omega
 ·exact⟨h,Ext.refl s⟩
def aaC(h:Inv s)(p t:Int)(c:Bool)(hp:eP p)(ht:eP t):Inv (s.closed p t c)/\Ext s (s.closed p t c):=by
 unfold aH.closed;split
 ·rename_i ho;have hn:=V4.1 ho;have vT:aH.xI c=2\/aH.xI c=3:=by cases c<;>simp[aH.xI]
  have aQ:aH.xI c≠1:=by rcases vT with e|e<;>rw[e]<;>decide
  have alg:∀q u:Int,((s.put ⟨aH.xI c,p,t,⟨#[]⟩⟩).set p t false).isOpen q u=false↔(s.isOpen q u=false\/(q=p/\u=t)):=fun q u=>by
   rw[QS,QS];simp only[aH.set,aH.put];by_cases e:q=p
   ·subst e;simp only[if_true,true_and,hn,ne_eq,gu,uD];by_cases e2:u=t
    ·subst e2;simp
    ·simp[iW e2]
   ·simp[e]
  refine⟨⟨?_,?_,?_,?_,?_,?_,h.aaB⟩,⟨⟨[⟨aH.xI c,p,t,⟨#[]⟩⟩],rfl⟩,fun e _ _ h2=>(alg _ _).2<|.inl h2,fun e he hk h2=>?_⟩⟩
  ·intro e he;simp only[aH.put,aH.set,oP,oN]at he;rcases he with he|rfl
   ·exact h.wf e he
   ·exact⟨hp,ht⟩
  ·intro e he;simp only[aH.put,aH.set,oP,oN]at he;rcases he with he|rfl
   ·exact h.kinds e he
   ·exact .inr vT
  ·intro e he;simp only[aH.put,aH.set,oP,oN]at he;rcases he with he|rfl
   ·obtain⟨t',o,h1,h2,h3⟩:=h.Ot e he;by_cases ep:e.p=p
    ·rw[ep,hn]at h1;simp only[gu,uD]at h1;obtain⟨rfl,rfl⟩:=h1;exact⟨t,false,by simp[aH.set,ep],h2,fun _=>.inr rfl⟩
    ·exact⟨t',o,by simp[aH.set,aH.put,ep];exact h1,h2,h3⟩
   ·exact⟨t,false,by simp[aH.set],Int.le_refl _,fun _=>.inr rfl⟩
  ·intro i e he hk aO;simp only[aH.put,aH.set]at he⊢
   rcases afE he with he|⟨_,rfl⟩
   ·rcases(alg _ _).1 aO with h1|⟨h1,h2⟩
    ·obtain⟨m,y,h1,h2,h3⟩:=h.closed i e he hk h1;exact⟨m,y,h1,by rw[uz (dM.1 h2).1];exact h2,h3⟩
    ·exact⟨s.es.length,⟨aH.xI c,p,t,⟨#[]⟩⟩,(dM.1 he).1,by simp,⟨aQ,h1.symm,h2.symm⟩⟩
   ·exact absurd hk aQ
  ·have old:∀a∈s.es,a.k≠1->a.p=p->a.t=t->False:=fun a ha h1 h2 h3=>by
    obtain⟨t',o,g1,g2,g3⟩:=h.Ot a ha;rw[h2,hn]at g1;simp only[gu,uD]at g1;obtain⟨rfl,rfl⟩:=g1;rcases g3 h1 with g4|g4
    ·omega
    ·cases g4
   intro a ha b hb h1 h2 h3 h4;simp only[aH.put,aH.set,oP,oN]at ha hb;rcases ha with ha|rfl
   ·rcases hb with hb|rfl
    ·exact h.uniq a ha b hb h1 h2 h3 h4
    ·exact(old a ha h1 h3 h4).elim
   ·rcases hb with hb|rfl
    ·exact(old b hb h2 h3.symm h4.symm).elim
    ·rfl
  ·simp only[aH.put,aH.set,cnt,zD,iV];have:=h.d;unfold cnt at this;simp[this,aQ]
  ·simp only[aH.put,aH.set];rw[QR,if_neg];rintro⟨_,h3,h4⟩;rw[<-h3,<-h4]at h2;rw[ho]at h2;cases h2
 ·exact⟨h,Ext.refl s⟩
def afG{α:Type}(p:α->Bool):∀(l:List α) (k:Nat) (e:α),k<l.findIdx p->l[k]? =ae e->p e=false
 |[],k,e,_,h=>by simp at h
 |x::r,0,e,hk,h=>by
  simp only[xE,gu]at h;subst h;cases hp:p x
  ·rfl
  ·simp[VV,hp]at hk
 |x::r,k+1,e,hk,h=>by
  cases hp:p x
  ·refine afG p r k e ?_ (by simpa using h);rw[VV,hp]at hk;simp only[cond_false]at hk;omega
  ·simp[VV,hp]at hk
def afH{α:Type}(p:α->Bool):∀(l:List α) (k:Nat),k<=l.length->(∀(j:Nat) e,j<k->l[j]? =ae e->p e=false)->k<=l.findIdx p
 |_,0,_,_=>mi _
 |[],k+1,h,_=>by simp at h
 |x::r,k+1,h,ha=>by
  have h0:=ha 0 x (by omega) (by simp);have:=afH p r k (by simpa using h) (fun j e hj he=>ha (j+1) e (by omega)<|by simpa using he);simp[VV,h0,this]
def aaD(hi:i<s.dC)(he:s.es[i]? =ae e)(hk:e.k=1):s.isOpen e.p e.t=false:=by
 have:=afG s.blocked s.es i e hi he;simpa[aH.blocked,hk]using this
def Ext.get(E:Ext s s')(he:s.es[i]? =ae e):s'.es[i]? =ae e:=by
 obtain⟨t,ht⟩:=E.es;rw[ht,uz (dM.1 he).1];exact he
def Ext.length(E:Ext s s'):s.es.length<=s'.es.length:=by
 obtain⟨t,ht⟩:=E.es;rw[ht];simp
def Ext.dC(E:Ext s s'):s.dC<=s'.dC:=by
 refine afH s'.blocked s'.es s.dC (eG s.Oo E.length) fun j e hj he=>?_;have hl:j<s.es.length:=fK hj s.Oo;have he0:s.es[j]? =ae e:=by
  have h1:=E.get<|eY hl;rw[h1]at he;rw[eY hl];exact he
 by_cases hk:e.k=1
 ·have:=E.open_ e (gz he0) hk<|aaD hj he0 hk;simp[aH.blocked,this]
 ·simp[aH.blocked,hk]
def Ext.pick(E:Ext s s')(hi:i<s.dC):s'.pick i=s.pick i:=by
 have hl:i<s.es.length:=fK hi s.Oo;have he:=eY hl;simp only[aH.pick,he,E.get he];by_cases hk:s.es[i].k=1
 ·have:=E.oz _ (gz he) hk<|aaD hi he hk;simp[aH.DL,this]
 ·simp[aH.DL,hk]
def Ext.afI(E:Ext s s'):∀k,k<=s.dC->s'.bn 0 k=s.bn 0 k
 |0,_=>by simp[aH.bn]
 |k+1,h=>by rw[s'.GV<|by omega,s.GV<|by omega,Ext.afI E k<|by omega,E.pick<|by omega]
def Ext.bn(E:Ext s s'):∃t,s'.bn 0 s'.dC=s.bn 0 s.dC++t:=by
 obtain⟨t,ht⟩:=s'.aay (a:=0) (k:=s.dC) (by omega)<|s'.dC-s.dC;rw[show s.dC+(s'.dC-s.dC)=s'.dC by have:=E.dC;omega]at ht;exact⟨t,by rw[ht,E.afI _<|dm _]⟩
def afJ(e:iy)(q:Int):∀(es:List iy) (o:Option Int),(∀x∈es,x.ends e->x.k=q)->((∃x∈es,x.ends e)\/o=ae q)->
 es.foldl (fun o x=>if x.k≠1/\x.p=e.p/\x.t=e.t then ae x.k else o) o=ae q
 |[],o,_,h=>by
  rcases h with⟨x,hx,_⟩|h
  ·simp at hx
  ·exact h
 |x::r,o,jF,h=>by
  rw[afj];refine afJ e q r _ (fun y hy=>jF y<|by simp[hy]) ?_;by_cases hx:x.ends e
  ·right;rw[if_pos<|show x.k≠1/\x.p=e.p/\x.t=e.t from hx,jF x (by simp) hx]
  ·rw[if_neg<|show¬(x.k≠1/\x.p=e.p/\x.t=e.t)from hx];rcases h with⟨y,hy,Qp⟩|h
   ·rcases jR.1 hy with rfl|hy
    ·exact absurd Qp hx
    ·exact .inl ⟨y,hy,Qp⟩
   ·exact .inr h
def anC(es:List iy)(e:iy)(q:Int)(jF:∀x∈es,x.ends e->x.k=q)(hex:∃x∈es,x.ends e):oz es e.p e.t=ae q:=
 afJ e q es af jF (.inl hex)
def anD(h:Inv s):anx s s.dC:=by
 intro i e hi he hk;obtain⟨m,x,h1,h2,h3⟩:=h.closed i e he hk<|aaD hi he hk;have hx:=gz h2;have jF:∀y∈s.es,y.ends e->y.k=x.k:=fun y hy Qp=>h.uniq y hy x hx Qp.1 h3.1 (Qp.2.1.trans h3.2.1.symm)<|Qp.2.2.trans h3.2.2.symm;refine⟨x.k,?_,anC _ _ _ jF ⟨x,hx,h3⟩,⟨m,x,h1,h2,h3⟩,jF⟩;rcases h.kinds x hx with e1|e1|e1<;>rw[e1]<;>decide
def afK(s:aH):∀k,k<=s.es.length->(s.bn 0 k).length<=cnt (s.es.take k)
 |0,_=>by simp[aH.bn]
 |k+1,h=>by
  have ih:=afK s k (by omega);have he:=eY (l:=s.es) (i:=k) (by omega);rw[s.GV<|by omega,AP,he];simp only[iV,cnt,zD,EX]at ih⊢
  have:(s.pick k).length<=(List.filter (fun e=>decide<|e.k=1) [s.es[k]]).length:=by
   simp only[aH.pick,he];by_cases hk:s.es[k].k=1
   ·simp only[List.filter_cons,hk,decide_true,if_true,List.filter_nil,oq,wB];split<;>simp
   ·simp[aH.DL,hk]
  omega
def anE(h:Inv s):s.BN 0 1000=s.bn 0 s.dC:=by
 unfold aH.BN;rw[show aH.start 0=0 by simp[aH.start]];refine DJ ?_;have h1:=afK s s.dC s.Oo;have h2:cnt (s.es.take s.dC)<=cnt s.es:=by
  unfold cnt;exact(List.Sublist.filter _<|List.take_sublist _ _).length_le
 have:=h.d;have:=h.aaB;show _<=(1000:Int).toNat;simp<;>omega
end
section
def V5:(prog.info? 3).map (fun i=>(i.zero,i.size,i.bytes))=ae (ae<|ag ah 0,1,8):=by kernel_rfl
def afL:az->Nat
 | .slice _ n _=>n
 |_=>0
def gy(l:List Int):List Value:=l.map<|Value.int .i64
variable{w:aj}{B:Nat}{v:az}{l:List Int}
def aaE(h:w.ownsRow B 3 1 v l.length (gy l)):
 (v=aJ af 0 0/\l=[])\/∃g cap,v=aJ (ae ⟨g,0,af⟩) l.length cap/\l.length<=cap/\cap<=dU/\B<=g/\g<w.heap.size:=by
 rcases h.2 with⟨hv,h0⟩|⟨g,cap,cur,hv,hb,hg,h1,h2,_⟩
 ·exact .inl ⟨hv,aaf h0⟩
 ·exact .inr ⟨g,cap,hv,h1,h2,hb,aX hg⟩
def yH{g n cap:Nat}(h:w.ownsRow B 3 1 (aJ (ae ⟨g,0,af⟩) n cap) l.length (gy l)){k:Nat}{x:Int}(hk:l[k]? =ae x):w.cell? ⟨g,k,af⟩=ae (ag ah x):=by
 have:=h.cells (g:=g) rfl k (ag ah x) (by simp[gy,hk]);rw[aEn]at this;simpa using this
def kR(h:w.ownsRow B 3 1 v l.length (gy l)):∃a cap,v=.slice a l.length cap/\l.length<=maxLen:=by
 rcases aaE h with⟨rfl,rfl⟩|⟨g,cap,rfl,h1,h2,_⟩
 ·exact⟨af,0,rfl,mi _⟩
 ·exact⟨_,_,rfl,eG h1 h2⟩
end
def afM{w:aj}{B:Nat}{ty:dw}{wd g n cap:Nat}{xs:List az}(h:w.ownsRow B ty wd (aJ (ae ⟨g,0,af⟩) n cap) n xs){j:Nat}(_hj:j<n*wd)(u:az):
 (w.setCell ⟨g,j,af⟩ u).ownsRow B ty wd (aJ (ae ⟨g,0,af⟩) n cap) n (xs.set j u):=by
 refine⟨by simpa using h.1,?_⟩;rcases h.2 with⟨h1,_⟩|⟨g',ad4,cur,h1,hb,hg,h2,h3,h4,h5⟩
 ·cases h1
 ·simp only[aD6,gu,Addr.mk.injEq]at h1;obtain⟨⟨rfl,_⟩,_,rfl⟩:=h1;refine .inr ⟨g,cap,cur.setIfInBounds j u,rfl,hb,jT hg j u,h2,h3,by simpa using h4,?_⟩;rw[<-h5];simp[List.take_set]
def aaK(s:aH)(p t:Int)(c:Bool):(s.closed p t c).es.length<=s.es.length+1:=by unfold aH.closed;split<;>simp[aH.put,aH.set]
def afR{w:aj}{B lb bm n:Nat}{v:az}{s:aH}(h:dY w B lb bm v n s)(p t:Int)(hp:eP p)(hn:n<dU):
 aU prog 126 #[ay<|ae ⟨lb,0,af⟩,ag ah p,ag ah t] w fun e w'=>e=aT (.bool<|s.zH p t)/\Left w w' B lb bm v v (n+1) (s.opened p t):=
 (am3 h p t hp hn).mono fun _ _ ⟨h1,h2,h3⟩=>⟨h1,h2,h3.mono fun _ e=>.inl<|.inr<|.inl e,fun _ hk=>.inl hk⟩
end Go.Proofs.YtkelpcjiediamaaGreat
