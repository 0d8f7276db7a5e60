import Derived.Test.YtkelpcjiediamaaGreatQf11
import Derived.Deep.QuietTactic
import Derived.BigQuiet
set_option maxRecDepth 100000
set_option maxHeartbeats 0
set_option linter.all false
namespace Go.Proofs.YtkelpcjiediamaaGreat
def aFi:=@Go.Value.slice.injEq
open Go renaming Calls→aW,TypeId→dJ,Value→aA,World→ay,maxLen→eP
open Go.Ending renaming returned→aV
open Go.IntKind renaming i64→ah
open Go.RowKit renaming Hid→aj,intOf→eU
open Go.Value renaming bool→aF,int→ag,pointer→az,slice→aN,string→dK
open Go.World renaming cell?→aB,ownsRow→bD,setCell→aX
open Option renaming none→af,some→ae
open Go.Proofs.Tryz
open Go.RowKit Go.Maps
section
def FH(w:ay)(v:aA)(rs:List Rec):Prop:=
 (v=aN af 0 0/\rs=[])\/∃g cap,v=aN (ae ⟨g,0,af⟩) rs.length cap/\rs.length<=cap/\cap<=eP/\
   ∀(k:Nat) r,rs[k]? =ae r->aB w ⟨g,k*3,af⟩=ae (ag ah r.o)/\aB w ⟨g,k*3+1,af⟩=ae (ag ah r.p)/\aB w ⟨g,k*3+2,af⟩=ae (dK r.s)
def aga:∀(l:List Rec) (k:Nat) (e:Rec) (j:Nat),l[k]? =ae e->j<3->(rq l)[k*3+j]? =e.cs[j]?
 |[],k,e,j,h,_=>by simp at h
 |x::r,0,e,j,h,hj=>by
  simp only[yV,gU]at h;subst h;simp only[rq,pF];rw[vg (by simp[Rec.cs]<;>omega)];simp
 |x::r,k+1,e,j,h,hj=>by
  simp only[Bi]at h;have:=aga r k e j h hj;simp only[rq,pF]at this⊢
  rw[yj (by simp[Rec.cs]<;>omega),<-this];congr 1;simp[Rec.cs]<;>omega
variable{w:ay}{rs:List Rec}
def agb{B:Nat}{v:aA}(h:bD w B 94 3 v rs.length (rq rs)):FH w v rs:=by
 rcases af6 h with⟨rfl,rfl⟩|⟨g,cap,rfl,h1,h2,_⟩
 ·exact .inl ⟨rfl,rfl⟩
 ·refine .inr ⟨g,cap,rfl,h1,h2,fun k r hk=>?_⟩;have hc:=h.cells (g:=g) rfl;have key:∀j u,j<3->r.cs[j]? =ae u->aB w ⟨g,k*3+j,af⟩=ae u:=fun j u hj hu=>by
   have:=hc (k*3+j) u<|(aga rs k r j hk hj).t hu;rw[aFA]at this;simpa using this
  exact⟨key 0 _ (by omega) rfl,key 1 _ (by omega) rfl,key 2 _ (by omega) rfl⟩
def agc{va vb:aA}(ha:FH w va rs)(hb:FH w vb rs):
 aW prog 98 #[va,vb] w fun e w'=>e=aV (aF true)/\∃q,w'=w.drewN q:=by
 obtain⟨a1,c1,rfl,pV⟩:∃a1 c1,va=.slice a1 rs.length c1/\rs.length<=maxLen:=by
  rcases ha with⟨rfl,rfl⟩|⟨g,cap,rfl,h1,h2,_⟩
  ·exact⟨af,0,rfl,kH _⟩
  ·exact⟨_,_,rfl,fG h1 h2⟩
 obtain⟨a2,c2,rfl⟩:∃a2 c2,vb=.slice a2 rs.length c2:=by
  rcases hb with⟨rfl,rfl⟩|⟨g,cap,rfl,h1,h2,_⟩
  ·exact⟨af,0,rfl⟩
  ·exact⟨_,_,rfl⟩
 unfold eP at pV;have HA:aj (FH w (.slice a1 rs.length c1) rs):=ha;have HB:aj (FH w (.slice a2 rs.length c2) rs):=hb;clear ha hb;go_enter func98,ntmps98
 go_wp2_with fail
 go_loopw [5] (fun i w'=>∃k:Nat,k<=rs.length/\i=ag ah k/\∃q,w'=w.drewN q) (fun i _=>rs.length-(eU i).toNat)
 case atStart=>exact⟨0,kH _,rfl,0,rfl⟩
 case round=>
  obtain⟨k,hk,rfl,q,rfl⟩:=hrel
  by_cases aK:k<rs.length
  ·obtain⟨r,hr⟩:∃r,rs[k]? =ae r:=⟨_,eY aK⟩
   obtain⟨g1,rfl,x0,x1,x2⟩:∃g1,a1=ae ⟨g1,0,af⟩/\aB w ⟨g1,k*3,af⟩=ae (ag ah r.o)/\aB w ⟨g1,k*3+1,af⟩=ae (ag ah r.p)/\aB w ⟨g1,k*3+2,af⟩=ae (dK r.s):=by
    rcases HA.o with⟨_,h0⟩|⟨g,cap,e,h1,h2,h3⟩
    ·rw[h0]at aK;simp at aK
    ·simp only[aFi]at e;exact⟨g,e.1,h3 k r hr⟩
   obtain⟨g2,rfl,y0,y1,y2⟩:∃g1,a2=ae ⟨g1,0,af⟩/\aB w ⟨g1,k*3,af⟩=ae (ag ah r.o)/\aB w ⟨g1,k*3+1,af⟩=ae (ag ah r.p)/\aB w ⟨g1,k*3+2,af⟩=ae (dK r.s):=by
    rcases HB.o with⟨_,h0⟩|⟨g,cap,e,h1,h2,h3⟩
    ·rw[h0]at aK;simp at aK
    ·simp only[aFi]at e;exact⟨g,e.1,h3 k r hr⟩
   clear hr
   go_wp2_with fail
   go_quiet (fail)
   go_wp2
   go_roundw
   case rel=>exact⟨k+1,by omega,by go_num,q+nq,by simp[World.drewN]⟩
   case measure=>simp[eU]<;>omega
  ·go_wp2
   go_ret
   exact⟨rfl,q,rfl⟩
end
def iG.ends(x e:iG):Prop:=x.k≠1/\x.p=e.p/\x.t=e.t
structure aod(es:List iG)(i:Nat)(e:iG)(q:Int):Prop where
 nz:q≠0
 oO:oO es e.p e.t=ae q
 late:∃(m:Nat) (x:iG),i<m/\es[m]? =ae x/\x.ends e
 all:∀x∈es,x.ends e->x.k=q
def aoe(s:aJ)(S:Nat):Prop:=∀(i:Nat) e,i<S->s.es[i]? =ae e->e.k=1->∃q,aod s.es i e q
section
def fO(n:Int):Prop:=(Lit.int .i64 n).wf=true
def cnt(es:List iG):Nat:=(es.filter fun e=>decide<|e.k=1).length
structure Inv(s:aJ):Prop where
 wf:s.Wf
 kinds:∀e∈s.es,e.k=1\/e.k=2\/e.k=3
 OZ:∀e∈s.es,∃t' o,s.nw e.p=ae (t',o)/\e.t<=t'/\(e.k≠1->e.t<t'\/o=false)
 closed:∀(i:Nat) e,s.es[i]? =ae e->e.k=1->s.isOpen e.p e.t=false->∃(m:Nat) (x:iG),i<m/\s.es[m]? =ae x/\x.ends e
 uniq:∀x∈s.es,∀y∈s.es,x.k≠1->y.k≠1->x.p=y.p->x.t=y.t->x.k=y.k
 d:s.d=cnt s.es
 aaY:s.d<=200
 shut:∀p t,s.nw p=ae (t,false)->∃e∈s.es,e.k≠1/\e.p=p/\e.t=t
def aof:Inv ⟨[],0,fun _=>af⟩:=
 ⟨fun e h=>by simp at h,fun e h=>by simp at h,fun e h=>by simp at h,fun i e h=>by simp at h,fun e h=>by simp at h,rfl,by simp,fun _ _ h=>by simp at h⟩
structure Ext(s s':aJ):Prop where
 es:∃t,s'.es=s.es++t
 open_:∀e∈s.es,e.k=1->s.isOpen e.p e.t=false->s'.isOpen e.p e.t=false
 oO:∀e∈s.es,e.k=1->s.isOpen e.p e.t=false->oO s'.es e.p e.t=oO s.es e.p e.t
def Ext.refl(s:aJ):Ext s s:=⟨⟨[],by simp⟩,fun _ _ _ h=>h,fun _ _ _ _=>rfl⟩
variable{s s':aJ}{p t:Int}{i:Nat}{e:iG}
def RS:s.isOpen p t=true↔s.nw p=ae (t,true):=by simp[aJ.isOpen]
def RU:s.isOpen p t=false↔s.nw p≠ae (t,true):=by simp[aJ.isOpen]
def agd{α:Type}{l:List α}{x e:α}(h:(l++[x])[i]? =ae e):l[i]? =ae e\/(i=l.length/\e=x):=by
 by_cases hi:i<l.length
 ·rw[vg hi]at h;exact .inl h
 ·rw[yj<|by omega]at h;have:i-l.length=0:=by
   have:=(dS.1 h).1;simp at this;omega
  rw[this]at h;simp at h;exact .inr ⟨by omega,h.s⟩
def age(h:Inv s)(p t:Int):Inv (s.opened p t)/\Ext s (s.opened p t):=by
 unfold aJ.opened;split
 ·rename_i hc;have Ja:∀t' o,s.nw p=ae (t',o)->o=false/\t'<t:=fun t' o e=>by
   simp only[aJ.wZ,e,mX,Bool.not_eq_true',WN]at hc;exact hc
  have aP:∀e∈s.es,(s.set p t true).isOpen e.p e.t=false\/e.p≠p:=fun e he=>by
   by_cases ep:e.p=p
   ·left;obtain⟨t',o,h1,h2,_⟩:=h.OZ e he;rw[ep]at h1;have:=Ja t' o h1;rw[RU];simp only[aJ.set,ep,if_true,ne_eq,gU,uu,and_true];omega
   ·exact .inr ep
  have GI:∀e∈s.es,s.isOpen e.p e.t=(s.set p t true).isOpen e.p e.t:=fun e he=>by
   by_cases ep:e.p=p
   ·obtain⟨t',o,h1,h2,_⟩:=h.OZ e he;have h3:=Ja t' o (by rw[<-ep];exact h1);have a:s.isOpen e.p e.t=false:=by
     rw[RU,h1,h3.1];simp
    rcases aP e he with h4|h4
    ·rw[a,h4]
    ·exact absurd ep h4
   ·simp[aJ.isOpen,aJ.set,ep]
  refine⟨⟨h.wf,h.kinds,?_,?_,h.uniq,h.d,h.aaY,fun q u hq=>h.shut q u (by
   by_cases e:q=p
   ·simp[aJ.set,e]at hq
   ·simpa[aJ.set,e]using hq)⟩,⟨⟨[],by simp[aJ.set]⟩,fun e he h1 h2=>by rw[<-GI e he];exact h2,fun _ _ _ _=>rfl⟩⟩
  ·intro e he;obtain⟨t',o,h1,h2,h3⟩:=h.OZ e he;by_cases ep:e.p=p
   ·have h4:=Ja t' o (by rw[<-ep];exact h1);exact⟨t,true,by simp[aJ.set,ep],by omega,fun _=>.inl<|by omega⟩
   ·exact⟨t',o,by simp[aJ.set,ep];exact h1,h2,h3⟩
  ·intro i e he hk ho;exact h.closed i e he hk (by rw[GI e<|gZ he];exact ho)
 ·exact⟨h,Ext.refl s⟩
def aog(es:List iG)(x:iG)(hx:x.k=1)(p t:Int):oO (es++[x]) p t=oO es p t:=by
 rw[RQ,if_neg<|by simp[hx]]
def aoh(h:Inv s)(p t:Int)(x:ByteArray)(hp:fO p)(ht:fO t):Inv (s.lQ p t x)/\Ext s (s.lQ p t x):=by
 unfold aJ.lQ;split
 ·rename_i hc;have ho:s.isOpen p t=true:=by
   unfold aJ.nK at hc;split at hc
   ·cases hc
   ·rename_i h1;simpa using h1
  have hd:s.d<200:=by
   unfold aJ.nK at hc;split at hc
   ·cases hc
   ·split at hc
    ·cases hc
    ·split at hc
     ·cases hc
     ·omega
  have hn:=RS.1 ho;refine⟨⟨?_,?_,?_,?_,?_,?_,?_,fun q u hq=>(h.shut q u hq).imp fun e he=>⟨CJ _ he.1,he.2⟩⟩,⟨⟨[⟨1,p,t,x⟩],rfl⟩,fun _ _ _ h=>h,fun e _ _ _=>aog _ _ rfl _ _⟩⟩
  ·intro e he;simp only[aJ.put,oN,oM]at he;rcases he with he|rfl
   ·exact h.wf e he
   ·exact⟨hp,ht⟩
  ·intro e he;simp only[aJ.put,oN,oM]at he;rcases he with he|rfl
   ·exact h.kinds e he
   ·exact .inl rfl
  ·intro e he;simp only[aJ.put,oN,oM]at he;rcases he with he|rfl
   ·exact h.OZ e he
   ·exact⟨t,true,hn,Int.le_refl _,fun h=>absurd rfl h⟩
  ·intro i e he hk aP;simp only[aJ.put]at he⊢
   rcases agd he with he|⟨_,rfl⟩
   ·obtain⟨m,y,h1,h2,h3⟩:=h.closed i e he hk aP;exact⟨m,y,h1,by rw[vg (dS.1 h2).1];exact h2,h3⟩
   ·exact absurd ho (by rw[show s.isOpen p t=false from aP];simp)
  ·intro a ha b hb h1 h2 h3 h4;simp only[aJ.put,oN,oM]at ha hb;rcases ha with ha|rfl
   ·rcases hb with hb|rfl
    ·exact h.uniq a ha b hb h1 h2 h3 h4
    ·exact absurd rfl h2
   ·exact absurd rfl h1
  ·simp only[aJ.put,cnt,tu,iW];have:=h.d;unfold cnt at this;simp[this]
  ·show s.d+1<=200;omega
 ·exact⟨h,Ext.refl s⟩
def aaZ(h:Inv s)(p t:Int)(c:Bool)(hp:fO p)(ht:fO t):Inv (s.closed p t c)/\Ext s (s.closed p t c):=by
 unfold aJ.closed;split
 ·rename_i ho;have hn:=RS.1 ho;have uS:aJ.xh c=2\/aJ.xh c=3:=by cases c<;>simp[aJ.xh]
  have aT:aJ.xh c≠1:=by rcases uS with e|e<;>rw[e]<;>decide
  have al1:∀q u:Int,((s.put ⟨aJ.xh c,p,t,⟨#[]⟩⟩).set p t false).isOpen q u=false↔(s.isOpen q u=false\/(q=p/\u=t)):=fun q u=>by
   rw[RU,RU];simp only[aJ.set,aJ.put];by_cases e:q=p
   ·subst e;simp only[if_true,true_and,hn,ne_eq,gU,uu];by_cases e2:u=t
    ·subst e2;simp
    ·simp[Ne.s e2]
   ·simp[e]
  refine⟨⟨?_,?_,?_,?_,?_,?_,h.aaY,fun q u hq=>by
   by_cases e:q=p
   ·simp only[aJ.set,e,if_true,gU,uu,and_true]at hq;exact⟨⟨aJ.xh c,p,t,⟨#[]⟩⟩,Rx _<|by simp,aT,e.s,hq⟩
   ·exact(h.shut q u<|by simpa[aJ.set,aJ.put,e]using hq).imp fun y hy=>⟨CJ _ hy.1,hy.2⟩⟩,⟨⟨[⟨aJ.xh c,p,t,⟨#[]⟩⟩],rfl⟩,fun e _ _ h2=>(al1 _ _).2<|.inl h2,fun e he hk h2=>?_⟩⟩
  ·intro e he;simp only[aJ.put,aJ.set,oN,oM]at he;rcases he with he|rfl
   ·exact h.wf e he
   ·exact⟨hp,ht⟩
  ·intro e he;simp only[aJ.put,aJ.set,oN,oM]at he;rcases he with he|rfl
   ·exact h.kinds e he
   ·exact .inr uS
  ·intro e he;simp only[aJ.put,aJ.set,oN,oM]at he;rcases he with he|rfl
   ·obtain⟨t',o,h1,h2,h3⟩:=h.OZ e he;by_cases ep:e.p=p
    ·rw[ep,hn]at h1;simp only[gU,uu]at h1;obtain⟨rfl,rfl⟩:=h1;exact⟨t,false,by simp[aJ.set,ep],h2,fun _=>.inr rfl⟩
    ·exact⟨t',o,by simp[aJ.set,aJ.put,ep];exact h1,h2,h3⟩
   ·exact⟨t,false,by simp[aJ.set],Int.le_refl _,fun _=>.inr rfl⟩
  ·intro i e he hk aP;simp only[aJ.put,aJ.set]at he⊢
   rcases agd he with he|⟨_,rfl⟩
   ·rcases(al1 _ _).1 aP with h1|⟨h1,h2⟩
    ·obtain⟨m,y,h1,h2,h3⟩:=h.closed i e he hk h1;exact⟨m,y,h1,by rw[vg (dS.1 h2).1];exact h2,h3⟩
    ·exact⟨s.es.length,⟨aJ.xh c,p,t,⟨#[]⟩⟩,(dS.1 he).1,by simp,⟨aT,h1.s,h2.s⟩⟩
   ·exact absurd hk aT
  ·have old:∀a∈s.es,a.k≠1->a.p=p->a.t=t->False:=fun a ha h1 h2 h3=>by
    obtain⟨t',o,g1,g2,g3⟩:=h.OZ a ha;rw[h2,hn]at g1;simp only[gU,uu]at g1;obtain⟨rfl,rfl⟩:=g1;rcases g3 h1 with g4|g4
    ·omega
    ·cases g4
   intro a ha b hb h1 h2 h3 h4;simp only[aJ.put,aJ.set,oN,oM]at ha hb;rcases ha with ha|rfl
   ·rcases hb with hb|rfl
    ·exact h.uniq a ha b hb h1 h2 h3 h4
    ·exact(old a ha h1 h3 h4).e
   ·rcases hb with hb|rfl
    ·exact(old b hb h2 h3.s h4.s).e
    ·rfl
  ·simp only[aJ.put,aJ.set,cnt,tu,iW];have:=h.d;unfold cnt at this;simp[this,aT]
  ·simp only[aJ.put,aJ.set];rw[RQ,if_neg];rintro⟨_,h3,h4⟩;rw[<-h3,<-h4]at h2;rw[ho]at h2;cases h2
 ·exact⟨h,Ext.refl s⟩
def agf{α:Type}(p:α->Bool):∀(l:List α) (k:Nat) (e:α),k<l.findIdx p->l[k]? =ae e->p e=false
 |[],k,e,_,h=>by simp at h
 |x::r,0,e,hk,h=>by
  simp only[yV,gU]at h;subst h;cases hp:p x
  ·rfl
  ·simp[WQ,hp]at hk
 |x::r,k+1,e,hk,h=>by
  cases hp:p x
  ·refine agf p r k e ?_ (by simpa using h);rw[WQ,hp]at hk;simp only[cond_false]at hk;omega
  ·simp[WQ,hp]at hk
def agh{α:Type}(p:α->Bool):∀(l:List α) (k:Nat),k<=l.length->(∀(j:Nat) e,j<k->l[j]? =ae e->p e=false)->k<=l.findIdx p
 |_,0,_,_=>kH _
 |[],k+1,h,_=>by simp at h
 |x::r,k+1,h,ha=>by
  have h0:=ha 0 x (by omega) (by simp);have:=agh p r k (by simpa using h) (fun j e hj he=>ha (j+1) e (by omega)<|by simpa using he);simp[WQ,h0,this]
def aa0(hi:i<s.dC)(he:s.es[i]? =ae e)(hk:e.k=1):s.isOpen e.p e.t=false:=by
 have:=agf s.blocked s.es i e hi he;simpa[aJ.blocked,hk]using this
def Ext.get(E:Ext s s')(he:s.es[i]? =ae e):s'.es[i]? =ae e:=by
 obtain⟨t,ht⟩:=E.es;rw[ht,vg (dS.1 he).1];exact he
def Ext.length(E:Ext s s'):s.es.length<=s'.es.length:=by
 obtain⟨t,ht⟩:=E.es;rw[ht];simp
def Ext.dC(E:Ext s s'):s.dC<=s'.dC:=by
 refine agh s'.blocked s'.es s.dC (fG s.LJ E.length) fun j e hj he=>?_;have hl:j<s.es.length:=gu hj s.LJ;have he0:s.es[j]? =ae e:=by
  have h1:=E.get<|eY hl;rw[h1]at he;rw[eY hl];exact he
 by_cases hk:e.k=1
 ·have:=E.open_ e (gZ he0) hk<|aa0 hj he0 hk;simp[aJ.blocked,this]
 ·simp[aJ.blocked,hk]
def Ext.pick(E:Ext s s')(hi:i<s.dC):s'.pick i=s.pick i:=by
 have hl:i<s.es.length:=gu hi s.LJ;have he:=eY hl;simp only[aJ.pick,he,E.get he];by_cases hk:s.es[i].k=1
 ·have:=E.oO _ (gZ he) hk<|aa0 hi he hk;simp[aJ.Ea,this]
 ·simp[aJ.Ea,hk]
def Ext.agi(E:Ext s s'):∀k,k<=s.dC->s'.bF 0 k=s.bF 0 k
 |0,_=>by simp[aJ.bF]
 |k+1,h=>by rw[s'.Hu<|by omega,s.Hu<|by omega,Ext.agi E k<|by omega,E.pick<|by omega]
def Ext.bF(E:Ext s s'):∃t,s'.bF 0 s'.dC=s.bF 0 s.dC++t:=by
 obtain⟨t,ht⟩:=s'.aaV (a:=0) (k:=s.dC) (by omega)<|s'.dC-s.dC;rw[show s.dC+(s'.dC-s.dC)=s'.dC by have:=E.dC;omega]at ht;exact⟨t,by rw[ht,E.agi _<|dI _]⟩
def agj(e:iG)(q:Int):∀(es:List iG) (o:Option Int),(∀x∈es,x.ends e->x.k=q)->((∃x∈es,x.ends e)\/o=ae q)->
 es.foldl (fun o x=>if x.k≠1/\x.p=e.p/\x.t=e.t then ae x.k else o) o=ae q
 |[],o,_,h=>by
  rcases h with⟨x,hx,_⟩|h
  ·simp at hx
  ·exact h
 |x::r,o,jR,h=>by
  rw[List.foldl_cons];refine agj e q r _ (fun y hy=>jR y<|by simp[hy]) ?_;by_cases hx:x.ends e
  ·right;rw[if_pos<|show x.k≠1/\x.p=e.p/\x.t=e.t from hx,jR x (by simp) hx]
  ·rw[if_neg<|show¬(x.k≠1/\x.p=e.p/\x.t=e.t)from hx];rcases h with⟨y,hy,QT⟩|h
   ·rcases jZ.1 hy with rfl|hy
    ·exact absurd QT hx
    ·exact .inl ⟨y,hy,QT⟩
   ·exact .inr h
def aoi(es:List iG)(e:iG)(q:Int)(jR:∀x∈es,x.ends e->x.k=q)(hex:∃x∈es,x.ends e):oO es e.p e.t=ae q:=
 agj e q es af jR (.inl hex)
def agk(h:Inv s):aoe s s.dC:=by
 intro i e hi he hk;obtain⟨m,x,h1,h2,h3⟩:=h.closed i e he hk<|aa0 hi he hk;have hx:=gZ h2;have jR:∀y∈s.es,y.ends e->y.k=x.k:=fun y hy QT=>h.uniq y hy x hx QT.1 h3.1 (QT.2.1.t h3.2.1.s)<|QT.2.2.t h3.2.2.s;refine⟨x.k,?_,aoi _ _ _ jR ⟨x,hx,h3⟩,⟨m,x,h1,h2,h3⟩,jR⟩;rcases h.kinds x hx with e1|e1|e1<;>rw[e1]<;>decide
def agl(s:aJ):∀k,k<=s.es.length->(s.bF 0 k).length<=cnt (s.es.take k)
 |0,_=>by simp[aJ.bF]
 |k+1,h=>by
  have ih:=agl s k (by omega);have he:=eY (l:=s.es) (i:=k) (by omega);rw[s.Hu<|by omega,yu,he];simp only[iW,cnt,tu,CO]at ih⊢
  have:(s.pick k).length<=(List.filter (fun e=>decide<|e.k=1) [s.es[k]]).length:=by
   simp only[aJ.pick,he];by_cases hk:s.es[k].k=1
   ·simp only[List.filter_cons,hk,decide_true,if_true,List.filter_nil,oH,wu];split<;>simp
   ·simp[aJ.Ea,hk]
  omega
def aoj(h:Inv s):s.CS 0 1000=s.bF 0 s.dC:=by
 unfold aJ.CS;rw[show aJ.start 0=0 by simp[aJ.start]];refine Fp ?_;have h1:=agl s s.dC s.LJ;have h2:cnt (s.es.take s.dC)<=cnt s.es:=by
  unfold cnt;exact(List.Sublist.filter _<|List.take_sublist _ _).length_le
 have:=h.d;have:=h.aaY;show _<=(1000:Int).toNat;simp<;>omega
end
section
def RV:(prog.info? 3).map (fun i=>(i.zero,i.size,i.bytes))=ae (ae<|ag ah 0,1,8):=by kernel_rfl
def agm:aA->Nat
 | .slice _ n _=>n
 |_=>0
def gm(l:List Int):List Value:=l.map<|Value.int .i64
variable{w:ay}{B:Nat}{v:aA}{l:List Int}
def aa1(h:bD w B 3 1 v l.length (gm l)):
 (v=aN af 0 0/\l=[])\/∃g cap,v=aN (ae ⟨g,0,af⟩) l.length cap/\l.length<=cap/\cap<=eP/\B<=g/\g<w.heap.size:=by
 rcases h.2 with⟨hv,h0⟩|⟨g,cap,cur,hv,hb,hg,h1,h2,_⟩
 ·exact .inl ⟨hv,aaC h0⟩
 ·exact .inr ⟨g,cap,hv,h1,h2,hb,bn hg⟩
def Bo{g n cap:Nat}(h:bD w B 3 1 (aN (ae ⟨g,0,af⟩) n cap) l.length (gm l)){k:Nat}{x:Int}(hk:l[k]? =ae x):aB w ⟨g,k,af⟩=ae (ag ah x):=by
 have:=h.cells (g:=g) rfl k (ag ah x) (by simp[gm,hk]);rw[aFA]at this;simpa using this
def lI(h:bD w B 3 1 v l.length (gm l)):∃a cap,v=.slice a l.length cap/\l.length<=maxLen:=by
 rcases aa1 h with⟨rfl,rfl⟩|⟨g,cap,rfl,h1,h2,_⟩
 ·exact⟨af,0,rfl,kH _⟩
 ·exact⟨_,_,rfl,fG h1 h2⟩
end
def agn{w:ay}{B:Nat}{ty:dJ}{wd g n cap:Nat}{xs:List aA}(h:bD w B ty wd (aN (ae ⟨g,0,af⟩) n cap) n xs){j:Nat}(_hj:j<n*wd)(u:aA):
 (aX w ⟨g,j,af⟩ u).ownsRow B ty wd (aN (ae ⟨g,0,af⟩) n cap) n (xs.set j u):=by
 refine⟨by simpa using h.1,?_⟩;rcases h.2 with⟨h1,_⟩|⟨g',aeG,cur,h1,hb,hg,h2,h3,h4,h5⟩
 ·cases h1
 ·simp only[aFi,gU,Addr.mk.injEq]at h1;obtain⟨⟨rfl,_⟩,_,rfl⟩:=h1;refine .inr ⟨g,cap,cur.setIfInBounds j u,rfl,hb,kU hg j u,h2,h3,by simpa using h4,?_⟩;rw[<-h5];simp[List.take_set]
def aa8(s:aJ)(p t:Int)(c:Bool):(s.closed p t c).es.length<=s.es.length+1:=by unfold aJ.closed;split<;>simp[aJ.put,aJ.set]
def agt{w:ay}{B lb bm n:Nat}{v:aA}{s:aJ}(h:fA w B lb bm v n s)(p t:Int)(hp:fO p)(hn:n<eP):
 aW prog 126 #[az<|ae ⟨lb,0,af⟩,ag ah p,ag ah t] w fun e w'=>e=aV (.bool<|s.wZ p t)/\Left w w' B lb bm v v (n+1) (s.opened p t):=
 (anN h p t hp hn).z fun _ _ ⟨h1,h2,h3⟩=>⟨h1,h2,h3.z fun _ e=>.inl<|.inr<|.inl e,fun _ hk=>.inl hk⟩
