/-
  What is proved: where Config and script are together of bulk at most 1,048,576, Heralds answers true, and both read behind the call as before.
-/
import Derived.Test.YtkelpcjiediamaaGreatQk7
set_option maxRecDepth 100000
set_option maxHeartbeats 0
set_option linter.all false
namespace Go.Proofs.YtkelpcjiediamaaGreat
open Bool renaming false->ah,true->A
open Go renaming Calls->aH,Frame->bK,FuncId->jK,Oper->fA,TypeId->dB,Value->ai,World->ae,execOp->eG,undef->F
open Go.Ending renaming returned->aU
open Go.IntKind renaming i64->Z
open Go.Item renaming inRegion->dm
open Go.Obj renaming cells->aC
open Go.Proofs.Tryz renaming prog->aj
open Go.RowKit renaming Hid->I,intOf->bM
open Go.Value renaming agg->jf,bool->aA,int->V,pointer->ak,slice->aP,string->dN
open Go.World renaming alloc->bH,cell?->au,heap->R
open Option renaming none->U,some->Y
open _root_.Array renaming replicate->iD,size->M
open _root_.List renaming length->O
open Go.Proofs.Tryz
open ag
open Go.RowKit Go.Maps
section
open Go.RowKit Go.Maps Go.Conc
open Twin gy
open ag (jW nK rW)
def nU(D:List Nat)(B:dE)(t:Array ai):Prop:=∀j,D.contains j=ah->∀v,t[j]? =Y v->aK B v
def lay(D:List Nat)(f:Nat->ai):List (Nat×ai):=D.map λj=>(j,f j)
def tidy(D:List Nat)(t:Array ai):Array Value:=jW (lay D λ_=>F) t
def ae0(D f):nK (lay D f)=D:=by simp[nK,lay,Function.comp_def]
variable{t:Array ai}{f:Nat->ai}{D:List Nat}{B:dE}
def JS:∀{ov:List (Nat×ai)},(jW ov t).size=t.size|[]=>J|x::r=>by simp only[jW,Array.size_setIfInBounds];exact JS
def Oh{i:Nat}:∀{D:List Nat},(jW (lay D f) t)[i]? =if D.contains i then(if i<t.size then Y (f i)else U)else t[i]?|[]=>J|j::D=>by show((jW (lay D f) t).setIfInBounds j _)[i]? =_;rw[alQ,JS];by_cases e:j=i;{grind};have H:¬i=j:=YV;rw[if_neg e,Oh];simp[H]
def ae1:jW (lay D λj=>t.getD j F) (tidy D t)=t:=by refine afZ λi=>?_;rw[Oh,tidy,JS];by_cases h:D.contains i=A;{by_cases hi:i<t.size;{simp_all};grind};rw[if_neg h,Oh,if_neg h]
def xw{i}(h:D.contains i=ah):(jW (lay D f) t).getD i F=t.getD i undef:=by rw[Uy,Uy,Oh,h,if_neg Xa]
def LI{i}(h:D.contains i=A)(H:i<t.size):(jW (lay D f) t).getD i F=f i:=by rw[Uy,Oh,if_pos h,if_pos H];rfl
def nU.tidy(h:nU D B t):bZ B (tidy D t):=λv hv=>by have⟨i,H⟩:=au3.1 hv;rw[YtkelpcjiediamaaGreat.tidy,Oh]at H;split at H;{grind[yw]};exact h i Zv v H
theorem nU.of(h:bZ B t):nU D B (jW (lay D f) t):=λj H v hv=>by rw[Oh,H,if_neg Xa]at hv;exact h v Zv
theorem nU.z{B'}(h:nU D B t)(hi:∀v,aK B v->aK B' v):nU D B' t:=λj H v hv=>hi v<|h j H v hv
theorem nU.getD(h:nU D B t){j}(H:D.contains j=ah):aK B (t.getD j F):=by rw[Uy];cases e:t[j]? with|none=>exact yw|some v=>exact h j H v e
def nU.put{a H i v}(h:nU D B a.tmps)(p:qi a i v H)(hv:D.contains i=A\/aK B v):nU D B H.tmps:=λj hj u hu=>by (have e1:H.tmps.getD j F=u:=Y0);grind[cases qi,nU.getD]
def asv(h:D.contains 1=A/\D.contains 0=ah){c s n}:tidy D (#[c,s]++iD n F)=#[c,F]++iD n undef:=by refine afZ λi=>?_;rw[tidy,Oh];grind
section
variable{fo s:Nat->Prop}{b:bK}{a:Act}{ops:Array fA}{i:Nat}{rest:List Nat}{k:List Item}{cs cs2:List bK}{w:ae}{Q:dE->bK->ae->Prop}{o:fA}{v:ai}{d:Nat}
def abh(ho:ops[i]? =o)(hg:o.guard=U)(hd:o.dst=d)(hk:b.kind≠.early)
 (hr:∀d,(eG a.eval o).run aj (w.at d)=.ok (.value v) (w.at d))
 (pO:∀d,∀e∈(eG a.eval o).events aj (w.at d) #[],EvL (yR<|bz fo s) w e)
 (hn:∀H dd,qi a d v H->ag.Reach (bz fo s) aj (b.at H<|dm ops rest::k) cs (w.at dd) Q cs2):ag.Reach (bz fo s) aj (b.at a<|dm ops (i::rest)::k) cs w Q cs2:=by
 refine ag.Reach.ok λbY=>ag.Reach.step λdd=>?_;refine⟨_,_,w.at dd,_,stepG_value ho (by simp[Region.wanted,hg]) hk<|hr dd,{bY with},fC _,λe he=>pO dd e<|aQW he,?_⟩;rw[hd];exact hn _ dd<|.of a d v
variable{n:Nat}{c:Code}{D:List Nat}{f:jK}{fn:Func}{K:Array ai->ae->Prop}
theorem asw{W}(H:o.op=.move (.tmp n)\/o.op=.assign (.tmp n)):(eG a.eval o).events aj W #[]=#[]:=by rcases H with H|H<;>(unfold eG;simp_all)
def asx(ho:ops[i]? =o)(hg:o.guard=U)(hd:o.dst=d)(hk:b.kind≠.early)(bu:o.op=.move (.tmp n)\/o.op=.assign (.tmp n))(h:a.tmps.getD n F=v) (hn:∀H dd,qi a d v H->ag.Reach (bz fo s) aj (b.at H<|dm ops rest::k) cs (w.at dd) Q cs2):ag.Reach (bz fo s) aj (b.at a<|dm ops (i::rest)::k) cs w Q cs2:=abh ho hg hd hk (λ_=>asu h bu) (by grind[asw]) hn
def rdL{c}(h:c.block<n)(H:¬s c.block):EvL (yR<|bz fo s) n ⟨.cell c,ah,ah⟩:=aq3 (E:=⟨λ_=>False,λ_=>False,λ_ z=>z⟩) (.inl J) (λ_ e=>e▸⟨h,H⟩) Zv
def abj(hK:∀x w t d,K x (re w t d)->K x w)(qL:prog.funcs[f]? =fn)(bY:codeOk aj kC c=A)(hM:rW D c=A)(ha:nU D ((bz fo s).cut w) a.tmps)(hd:a.defers=[]) (xE:∀t d,c.wp aj (λe x w'=>e=.normal/\K x.tmps w') ⟨tidy D a.tmps,[]⟩<|re w t d) (hn:∀x w1,On w w1->K x w1->nU D ((bz fo s).cut w1) (jW (lay D λj=>a.tmps.getD j F) x)->ag.Reach (bz fo s) aj ((base f).at ⟨jW (lay D λj=>a.tmps.getD j F) x,[]⟩ k) cs w1 Q cs2):ag.Reach (bz fo s) aj ((base f).at a<|.code c::k) cs w Q cs2:=by refine ag.Reach.ok λHw=>?_;have h5:=λb hb=>(Hw.low b hb).1;have⟨tm,df⟩:=a;obtain rfl:df=[]:=hd;have:=YQ (b:=base f) (K:=λt d e H w'=>e=.normal/\K H.tmps w') (lets h5) (JR h5) (λit hi=>by (obtain rfl:it=.code c:=Zv);rw[ae0];exact .inr hM) (.same c<|.off J _) bY ha.tidy J ⟨_,qL⟩ J (λt d=>aQ3 (xE t d) Zv) (λH w' on Fh hd ⟨t,d,t',j,_,h⟩=>by have⟨x,df⟩:=H;obtain rfl:df=[]:=hd;exact hn x w' on (hK _ _ _ _ h)<|.of Fh) Zv (λ_ H w' todo _ _ _ ⟨t,d,t',j,e,_⟩=>aQC) (λh=>absurd J h);rw[ae1]at this;omega
end
end
section
open Go.RowKit Go.Maps Go.Conc
open Twin gy
def Df(a):a=((List.range a.size).map λi=>a.getD i F).toArray:=Array.ext Xy Y0
def aHb{a:Act}{o W x b f k p q m ts H}(h:a.eval x=ak (Y ⟨b,f,U⟩))(h0:W (b,f)=Y (V Z k))(h1:W (b,f+1)=Y (V Z p))(h2:W (b,f+2)=Y (V Z q))(h3:W (b,f+3)=Y (V Z m))(h4:W (b,f+4)=Y (dN ts))(h5:W (b,f+5)=Y (aA H))(bu:o.op=.load 28 x):(eG a.eval o).run aj W=.ok (.value<|jf #[k,p,q,m,ts,H]) W:=by unfold eG;rw[bu];simp only[h];go_simp
abbrev cO(ops:Array fA)(i d:Nat)(p:Op):Prop:=ops[i]?.map (λo=>(o.guard,o.dst,o.op))=Y (U,Y d,p)
theorem cO.ex{ops i d p}(z:cO ops i d p):∃o,ops[i]? =Y o/\o.guard=U/\o.dst=d/\o.op=p:=Zv
structure LJ(a:Act)(d d2:Nat)(v:ai)(a':Act):Prop where
 sz:a'.tmps.size=a.tmps.size
 at_:d2<a.tmps.size->a'.tmps.getD d2 F=v
 ne:∀j,d≠j->d2≠j->a'.tmps.getD j F=a.tmps.getD j F
 df:a'.defers=a.defers
 ok:∀B:dE,bZ B a.tmps->aK B v->bZ B a'.tmps
 okX:∀(D:List Nat) (B:dE),nU D B a.tmps->aK B v->nU D B a'.tmps
section
variable{fo s:Nat->Prop}{f0:jK}{a:Act}{ops:Array fA}{i j e0:Nat}{rest:List Nat}{k:List Item}{cs cs2:List bK}{w:ae}{Q:dE->bK->ae->Prop}{v:ai}{d d2:Nat}{p:Op}
def cO.go(z:cO ops i d p)(bu:vS aj kC p=A)(hf:∃fn,prog.funcs[f0]? =Y fn)(ha:bZ ((bz fo s).cut w) a.tmps)(hv:aK ((bz fo s).cut w) v)(hr:∀o W,o.op=p->W.heap=w.heap->(eG a.eval o).run aj W=.ok (.value v) W) (hn:∀H e,qi a d v H->bZ ((bz fo s).cut w) H.tmps->ag.Reach (bz fo s) aj ((base f0).at H<|dm ops rest::k) cs (w.at e) Q cs2):ag.Reach (bz fo s) aj ((base f0).at a<|dm ops (i::rest)::k) cs (w.at e0) Q cs2:=have⟨o,h1,h2,h3,h4⟩:=z.ex;aG7 h1 h2 h3 (λe=>aQC) (by rwa[h4]) hf (λv hv=>aG9 Zv<|ha v hv) (λd=>hr o _ h4 J) λH e q=>hn H e q<|q.ok _ ha hv
def cO.mv{n:Nat}(z:cO ops i d p)(hp:p=.move (.tmp n)\/p=.assign (.tmp n))(h:a.tmps.getD n F=v) (hn:∀H e,qi a d v H->ag.Reach (bz fo s) aj ((base f0).at H<|dm ops rest::k) cs (w.at e) Q cs2):ag.Reach (bz fo s) aj ((base f0).at a<|dm ops (i::rest)::k) cs (w.at e0) Q cs2:=have⟨o,h1,h2,h3,h4⟩:=z.ex;asx h1 h2 h3 (λe=>aQC) Zv h λH e q=>hn H e q
variable{fn:Func}{c:Code}{K:Array ai->ae->Prop}
def cO.site{f args qI vs post}(z:cO ops i d (.call {callee:=.value<|.func f,args,argTypes:=qI}))(z2:cO ops j d2 (.assign<|.tmp d))(hf:prog.funcs[f]? =fn)(OD:(fn.name== "runtime.NumGoroutine")=ah)(hb:fn.body=c)(hv:args.map a.eval=vs)(gV:d<a.tmps.size)
 (QY:∀e,xQ (bz fo s) aj f vs (w.at e) post)(hs:∀B' v w',post B' v w'->∃s1,B'=bz fo s1)
 (hn:∀B' v w' a' e,post B' v w'->LJ a d d2 v a'->ag.Reach B' aj ((base f0).at a' k) cs (w'.at e) Q cs2):ag.Reach (bz fo s) aj ((base f0).at a<|dm ops [i,j]::k) cs (w.at e0) Q cs2:=by
 have⟨o,h1,h2,h3,h4⟩:=z.ex;have⟨o2,g1,g2,g3,g4⟩:=z2.ex;refine aG8 h1 h2 h3 (λe=>aQC) h4 hf OD hb hv (λe=>QY e) λB' v w' a' q hp=>?_;obtain⟨s1,rfl⟩:=hs B' v w' hp;refine asx g1 g2 g3 (λe=>aQC) g4 (q.at_ gV) λa2 e H=>?_;refine JL λe2=>?_;exact hn _ v w' a2 e2 hp ⟨H.sz.t q.sz,λh=>H.at_<|q.sz▸h,λj h1 h2=>(H.ne j h2).t<|q.ne j h1,H.df.t q.df,(by grind[qi.ok]),λD B h hv=>(h.put q hv).put H hv⟩
def ae3{c0}(hK:∀x w t d,K x (re w t d)->K x w)(qL:prog.funcs[f0]? =fn)(bY:codeOk aj kC c=A)(ha:bZ ((bz fo s).cut w) a.tmps)(hd:a.defers=[])
 (xE:∀t d,c.wp aj (λe x w'=>e=.ret/\K x.tmps w') ⟨a.tmps,[]⟩<|re w t d)(rU:∀x w' W,K x w'->(results fn x).run aj W=.ok v W)
 (hn:∀x w1 d,On w w1->K x w1->Q (bz fo s) (c0.finish v) (w1.at d)):
 ag.Reach (bz fo s) aj ((base f0).at a<|.code c::k) (c0::cs) (w.at e0) Q cs:=by
 refine ag.Reach.ok λHw=>?_;have H:=λb hb=>(Hw.low b hb).1;have⟨tm,df⟩:=a;obtain rfl:df=[]:=hd;refine UW (K:=λt d e a' w'=>e=.ret/\K a'.tmps w') (lets H) (JR H) bY ha J ⟨_,qL⟩ J (λt d=>aQ3 (xE t d) Zv) ?_ ?_
 ·rintro a1 w1 _ _ _ ⟨t,d,t',j,e,_⟩;cases e
 rintro a1 w1 todo on Fh hd ⟨t,d,t',j,_,hk⟩;exact agR (lets H) (JR H) (t:=t') (k:=j) J hd J qL Fh (rU _ _ _ hk) λd2 _=>hn a1.tmps w1 d2 {on with} Zv
def Qv(hK:∀x w t d,K x (re w t d)->K x w)(qL:prog.funcs[f0]? =fn)(bY:codeOk aj kC c=A)(ha:bZ ((bz fo s).cut w) a.tmps)(H:a.defers=[])
 (xE:∀t d,c.wp aj (λe x w'=>e=.normal/\K x.tmps w') ⟨a.tmps,[]⟩<|re w t d)
 (hn:∀x w1,On w w1->K x w1->bZ ((bz fo s).cut w1) x->ag.Reach (bz fo s) aj ((base f0).at ⟨x,[]⟩ k) cs w1 Q cs2):
 ag.Reach (bz fo s) aj ((base f0).at a<|.code c::k) cs (w.at e0) Q cs2:=by
 refine ag.Reach.ok λHw=>?_;have h5:=λb hb=>(Hw.low b hb).1;have⟨tm,df⟩:=a;obtain rfl:df=[]:=H;refine UW (K:=λt d e a' w'=>e=.normal/\K a'.tmps w') (lets h5) (JR h5) bY ha J ⟨_,qL⟩ J (λt d=>aQ3 (xE t d) Zv) ?_ ?_
 ·rintro⟨x,df⟩ w1 on Fh H ⟨t,d,t',j,_,hk⟩;obtain rfl:df=[]:=H;exact hn x w1 {on with} Zv Fh
 ·rintro a1 w1 todo _ _ _ ⟨t,d,t',j,e,_⟩;cases e
def asy{p S}(hK:∀x w t d,K x (re w t d)->K x w)(qL:prog.funcs[f0]? =fn)(hS:S=jd p c)(fE:S≠.ret)(bY:codeOk aj kC (mJ p c)=A)(ha:bZ ((bz fo s).cut w) a.tmps)(hd:a.defers=[])
 (xE:∀t d,(mJ p c).wp aj (λe x w'=>e=.ret/\K x.tmps w') ⟨a.tmps,[]⟩<|re w t d)
 (hn:∀x w1 l,On w w1->K x w1->bZ ((bz fo s).cut w1) x->ag.Reach (bz fo s) aj ((base f0).at ⟨x,[]⟩<|.code S::l) cs w1 Q cs2):
 ag.Reach (bz fo s) aj ((base f0).at a<|.code c::k) cs (w.at e0) Q cs2:=by
 refine ag.Reach.ok λHw=>?_;have h5:=λb hb=>(Hw.low b hb).1;have⟨tm,H⟩:=a;obtain rfl:H=[]:=hd;refine aj1 (lets h5) (JR h5) hS fE bY ha J ⟨_,qL⟩ J (λt d=>xE t d) ?_;rintro⟨x,H⟩ w1 l on Fh hd ⟨t,d,t',j,hk⟩;obtain rfl:H=[]:=hd;exact hn x w1 l {on with} Zv Fh
end
end
section
open Go.RowKit Go.Maps Go.Conc
open Twin gy
def yK:Code->Array fA| .region _ o _=>o|_=>#[]
noncomputable def d35:Code:=Tryz.f35.body.getD .skip
def XY:List Bool:=[A,A,A,ah,A,A,A,A,A,A,ah]
noncomputable def Tz:Code:=jd XY d35
noncomputable def Qw:Array Oper:=yK<|qh Tz
def asz:Tz=.seq (.region 11 Qw ah) (jA Tz):=KG
def aHc:codeOk aj kC (mJ XY d35)=true:=KG
def aHd:codeOk aj kC (jA Tz)=true:=KG
def r35:List.range Qw.size=[0,1,2,3,4,5]:=KG
def aHf:cO Qw 0 45 (.move<|.tmp 0):=by unfold cO;kernel_rfl
def aHg:cO Qw 1 46 (.nilCheck<|.tmp 45):=by unfold cO;kernel_rfl
def aHh:cO Qw 2 47 (.fieldAddr 37 (.tmp 46) 0):=by unfold cO;kernel_rfl
def aHi:cO Qw 3 48 (.load 33<|.tmp 47):=by unfold cO;kernel_rfl
def aHj:cO Qw 4 49 (.call {callee:=.value<|.func 20,args:=#[.tmp 48],argTypes:=#[33]}):=by unfold cO;kernel_rfl
def aHk:cO Qw 5 7 (.assign<|.tmp 49):=by unfold cO;kernel_rfl
def aHl:List.range 101=[0,1,2,3,4,5,6,7,8,9,10,11,12,13,14,15,16,17,18,19,20,21,22,23,24,25,26,27,28,29,30,31,32,33,34,35,36,37,38,39,40,41,42,43,44,45,46,47,48,49,50,51,52,53,54,55,56,57,58,59,60,61,62,63,64,65,66,67,68,69,70,71,72,73,74,75,76,77,78,79,80,81,82,83,84,85,86,87,88,89,90,91,92,93,94,95,96,97,98,99,100]:=KG
structure T35(wb:Nat)(a:Array ai):Prop where
 sz:a.size=101
 a0:a.getD 0 F=ak (Y ⟨wb,0,U⟩)
section
variable{w w' B wb xb yb bb N n h y o fo s aP0}
variable{ts}{a:Act}{W b}
def aHm(w wb p q m H):
 (mJ XY d35).wp aj (λe x w'=>e=.ret/\T35 wb x.tmps/\Fr aB w w') {tmps:=#[ptr wb,kV 11 p q m ts H]++iD (Tryz.f35.ntmps- #[ptr wb,kV 11 p q m ts H].size) F,defers:=[]} w:=by
 unfold ptr kV;simp only[ntmps35,F7,Cc,EF,Nat.reduceAdd,Nat.reduceSub,OM,OL,OV,OO,zy,qV];refine aj6 λQ0 TA=>?_;simp only[XY,d35,Tryz.f35,iT,mJ,Ff,if_true,jX,kG];rw[<-TA];go_wp2_with fail
 exact⟨⟨J,J⟩,aQ _⟩
def aHn{a}{c:Nat}{aPX:ae->Prop}(T:T35 wb a)(a7:a.getD 7 F=c)(hc:W (wb,1)=Y (ak<|Y ⟨yb,0,U⟩))(hR:aH aj 91 #[ak yb] W λe w'=>e=c/\aPX w'):(jA Tz).wp aj (λe x w'=>e=.ret/\x.tmps.getD 4 F=A/\aPX w') ⟨a,[]⟩ W:=by have⟨sz,a0⟩:=T;have HR:=aQe hR;have⟨Q0,H⟩:∃Q0:Exit->Act->ae->Prop,(λe x w'=>e=.ret/\x.tmps.getD 4 F=aA A/\aPX w')=Q0:=⟨_,J⟩;rw[H,Df a,sz,aHl];simp only[uj,uA,a0,a7];simp;simp only[Tz,jA,jd,XY,d35,Tryz.f35,iT,if_true,jX,kG];rw[<-H];go_wp2_with fail;apply HR.z;rintro e w2 ⟨rfl,hr⟩;have H2:=aQe hr;clear hr;go_wp2;exact H2
def aHo{n:Nat}(h:a.eval (.tmp n)=ak (Y ⟨b,0,U⟩)){o}(bu:o.op=.nilCheck (.tmp n)):(eG a.eval o).run aj W=.ok (.value<|ak b) W:=by unfold eG;simp_all
def aHp{n:Nat}(h:a.eval (.tmp n)=ak (Y ⟨b,0,U⟩)){o}(bu:o.op=.fieldAddr 37 (.tmp n) 0):(eG a.eval o).run aj W=.ok (.value<|ak b) W:=by unfold eG;rw[bu];simp only[h];go_simp
def aHq{n x:Nat}(h:a.eval (.tmp n)=ak (Y ⟨b,0,U⟩))(hc:W b=Y (ak x)){o}(bu:o.op=.load 33 (.tmp n)):(eG a.eval o).run aj W=.ok (.value<|ak x) W:=by unfold eG;rw[bu];simp only[h];go_simp
def LH.Tq{w1 H y3 t t' d d'}(r:LH (re w1 t d) (re H t' d') B yb y y3)(on:On w1 H):LH w1 H B yb y y3:=have⟨sh,ga,al,tk,mv⟩:=r;⟨sh,ga,al,tk,mv.at_.same J,{on with block:=mv.fr.block},mv.sub⟩
theorem aHr(g:fJ w B wb xb yb bb N n h y o)(hN:N<=70000000)(hw:¬(s wb\/fo wb))(hZ:∀k,(gF wb xb yb bb h y o k\/s k)\/w<=k->aP0 k)(p q m fl):xQ (bz fo s) aj 35 #[ptr wb,kV 11 p q m ts fl] w (λB' v w'=>v=A/\Aw fo s aP0 w w' B wb xb yb bb (N+308) n B'):=by intro c cs;refine ag.Reach.ok λbY=>?_;have h5:=λb hb=>(bY.low b hb).1;have⟨fx,fy,hx,_,_⟩:=g.free bY hw;have hs:∀k,s k->¬Ag wb xb yb h y k/\¬o.all bb k:=λk H=>⟨λe=>e.e Zv Zv,(by grind[fJ.asr])⟩;rw[enter_at (c:=d35) _ func35 rfl];apply aj1 (p:=XY) (c:=d35) (S:=Tz) (w:=w) (K:=λt d x w'=>T35 wb x.tmps/\Fr aB (re w t d) w') (lets h5) (JR h5) J (by rw[asz];grind) aHc (bZ.append (bZ.two (Fg hw g.lt)<|Oe 11 p q m ts fl) λv hv=>by grind[yw]) J ⟨_,func35⟩ J (λt d=>aHm _ _ p q m fl);rintro⟨a1,df⟩ w1 l sQ aa7 hd ⟨t,d,t',j,T,hf⟩;obtain rfl:df=[]:=hd;have f1:Fr aB w w1:=⟨sQ.os,sQ.tape,sQ.output,sQ.size,λb hb h=>hf.block b hb h⟩;have g1:=g.a f1;have⟨c0,c1,_⟩:=g1.iK.cells;have vp:=Fg hw g1.lt;have vx:=Fg hx<|bF g1.both.xa.blk;clear hf sQ;rw[asz];refine kz λd1=>?_;refine yZ λd2=>?_;rw[r35];refine aHf.mv (w:=w1) (e0:=d2) (.inl J) T.a0 λa2 e2 q2=>?_;have z2:=q2.sz.t T.sz;refine aHg.go (w:=w1) J Y0 (q2.ok _ aa7 vp) vp (λo W ho _=>aHo (q2.at_ (by rw[T.sz];decide)) ho) λa3 e3 q3 GU=>?_;have z3:=q3.sz.t z2;refine aHh.go (w:=w1) J Y0 GU vp (λo W ho _=>aHp (q3.at_ YV) ho) λa4 e4 q4 LM=>?_;have z4:=q4.sz.t z3;refine aHi.go (w:=w1) J Y0 LM vx (λo W ho hW=>aHq (q4.at_ YV) (by unfold World.cell?;rw[hW];exact c0) ho) λa5 e5 q5 y8=>?_;have z5:a5.tmps.size=101:=q5.sz.t z4;refine aHj.site (w:=w1) aHk func20 J J (vs:=#[ptr xb]) (post:=λB' v w'=>∃Wg h3 e,B'=bz fo (λb=>s b\/b=Wg)/\v=y.N/\abg s (w1.at e) w' B xb yb N h y Wg h3) ?_ YV (λe=>((g1.same (w1:=w1.at e) J).half hN hw).z Zv) Zv ?_;{have e1:a5.eval (.tmp 48)=ak xb:=q5.at_ YV;simp[e1,ptr]};rintro B' v w2 a6 e6 ⟨Wg,h3,e',rfl,rfl,hd⟩ q6;have g2:=g1.same (w1:=w1.at e') J;have sz2:w1<=M (R w2):=hd.r.size;(have gr:∀k,s k\/k=Wg->s k\/w1<=k:=λk H=>H.imp id λe=>by rw[e];exact hd.r.wg);have c2:w2 (wb,1)=ak yb:=(hd.fr.cell (p:=⟨wb,1,U⟩) g1.lt<|by grind[cases fJ]).t c1;have⟨tl,co⟩:=g.both.gK.core;have k:=g.both.gK;have h6:=g.both.xa.h6;refine ae3 (w:=w2) (v:=A) (K:=λx w'=>x.getD 4 F=A/\∃y3 t d t' d',LH (re w2 t d) (re w' t' d') B yb y y3) Y0 func35 aHd (λv hv=>Og gr sz2<|q6.ok _ y8 .int v hv) (q6.df.t<|q5.df.t<|q4.df.t<|q3.df.t q2.df) (λt d=>aQ3 (aHn (aPX:=λw'=>∃y3,LH (re w2 t d) w' B yb y y3) ⟨q6.sz.t z5,?_⟩ (q6.at_ YV) c2<|aF6 (hd.ya.same J) g.both.ay co.E6 (λg hg=>by have:=k.gl g hg;omega) (by grind[aGg]) λG' y2 hy yr MK=>aGi k YV h6 hy yr MK) λe x w' hq=>⟨hq.1,hq.2.1,?_⟩) (λx w' W H=>by rw[<-H.1];exact aRm J _ _ _) λx w3 d9 on ⟨_,y3,t,d,t',d',hr⟩=>⟨_,J,J,?_⟩;{have e2:a5.tmps.getD 0 F=_:=(q5.ne 0 Xa).t ((q4.ne 0 Xa).t<|(q3.ne 0 Xa).t<|(q2.ne 0 Xa).t T.a0);grind[cases LJ]};{have⟨y3,hy⟩:=hq.2.2;exact⟨y3,t,d,w'.tape,w'.drawn,hy⟩};have⟨gm,fr,sub⟩:=hd.done g2 hN hs eH<|hr.Tq on;refine⟨⟨_,h3,y3,o,J,λk H=>(gr k H).imp id λz=>dX f1.size z,gm.same J,λk H=>(aeZ sub k H).e Zv λa=>hZ k<|dX f1.size a⟩,?_⟩;have f3:Fr aP0 (w1.at e') w3:=fr.z λk H=>hZ k<|.inl<|H.imp (λa=>.inl<|.inr a) id;exact⟨f3.os.t f1.os,f3.tape.t f1.tape,f3.output.t f1.output,dX f1.size f3.size,λb hb hS=>(f3.block b (gZ hb f1.size) hS).t<|f1.block b hb id⟩
end
end
section
open Go.RowKit Go.Maps Go.Conc
open Twin gy
section
variable{w w':ae}{B wb xb yb bb N n:Nat}{h h':HS}{y y':RS}{o:jY}{fo s aP0:Nat->Prop}
theorem fJ.aHt{aPV}(g:fJ w B wb xb yb bb N n h y o)(hZ:∀k,(gF wb xb yb bb h y o k\/s k)\/w<=k->aP0 k)(t:rC w w' B xb yb h y aPV h' y'){K}(hM:aPV<=K){m}(hm:n<=m):Aw fo s aP0 w w' B wb xb yb bb K m (bz fo s):=⟨⟨s,h',y',o,J,λ_=>.inl,(g.goes t).z hM hm,λk H=>hZ k<|(aeZ t.sub k H).imp .inl id⟩,t.fr.z λk H=>hZ k<|.inl<|.inl<|.inl<|.inr H⟩
def aHu(g:fJ w B wb xb yb bb N n h y o)(hN:N<=70000000)(hw:¬(s wb\/fo wb))(hZ:∀k,(gF wb xb yb bb h y o k\/s k)\/w<=k->aP0 k){k}(hk:k=5\/k=10\/k=11\/k=12\/k=13\/k=14)(p q m){ts}(H):xQ (bz fo s) aj 35 #[ptr wb,kV k p q m ts H] w (λB' v w'=>v=A/\Aw fo s aP0 w w' B wb xb yb bb (N+308) n B'):=by by_cases h11:k=11;{subst h11;exact aHr g hN hw hZ p q m H};{exact(aG2 hw g.lt λt d=>aG1 (g.re t d) YV YV p q m H).z<|by grind[fJ.aHt]}
end
noncomputable def d12:Code:=Tryz.f12.body.getD .skip
def XZ:List Bool:=[A,ah,A,A,A,A,A,A,ah]
noncomputable def s12:Code:=jd XZ d12
noncomputable def z12:Array Oper:=yK<|qh s12
def asB:s12=.seq (.region 19 z12 ah) .ret:=KG
def aHv:codeOk aj kC (mJ XZ d12)=true:=KG
def r12:List.range z12.size=[0,1,2,3]:=KG
def aHw:cO z12 0 35 (.move<|.tmp 0):=by unfold cO;kernel_rfl
def aHx:cO z12 1 36 (.load 28<|.tmp 3):=by unfold cO;kernel_rfl
def aHy:cO z12 2 37 (.call {callee:=.value<|.func 35,args:=#[.tmp 35,.tmp 36],argTypes:=#[29,28]}):=by unfold cO;kernel_rfl
def aHz:cO z12 3 4 (.assign<|.tmp 37):=by unfold cO;kernel_rfl
structure T12(wb b:Nat)(k p q m:Int)(ts:ByteArray)(fl:Bool)(a:Array ai)(w':ae):Prop where
 sz:a.size=96
 a0:a.getD 0 F=ak (Y ⟨wb,0,U⟩)
 a3:a.getD 3 F=ak (Y ⟨b,0,U⟩)
 bx:w'.heap[b]? =Y (aC #[V Z k,V Z p,V Z q,V Z m,dN ts,aA fl] 28 (0,0))
section
variable{w w':ae}{B wb xb yb bb N n:Nat}{h:HS}{y:RS}{o:jY}{fo s aP0:Nat->Prop}
variable{ts:ByteArray}
def aHA(w wb k p q m)(hk:k=5\/k=10\/k=11\/k=12\/k=13\/k=14)(H):
 (mJ XZ d12).wp aj (λe x w'=>e=.ret/\T12 wb (M (R w)) k p q m ts H x.tmps w'/\Fr aB w w') {tmps:=#[ptr wb,kV k p q m ts H]++iD (Tryz.f12.ntmps- #[ptr wb,kV k p q m ts H].size) F,defers:=[]} w:=by
 unfold ptr kV;have HK:=aQe hk;clear hk;simp only[ntmps12,F7,Cc,EF,Nat.reduceAdd,Nat.reduceSub,OM,OL,OV,OO,zy,qV];refine aj6 λQ0 TA=>?_;simp only[XZ,d12,Tryz.f12,iT,mJ,Ff,if_true,jX,kG];rw[<-TA];rcases HK with rfl|rfl|rfl|rfl|rfl|rfl;all_goals
  go_wp2_with fail
  exact⟨⟨J,J,J,heap_alloc_new _ _⟩,aQ _⟩
def aHB(g:fJ w B wb xb yb bb N n h y o)(hN:N<=70000000)(hw:¬(s wb\/fo wb))(hZ:∀k,(gF wb xb yb bb h y o k\/s k)\/w<=k->aP0 k){k}(H:k=5\/k=10\/k=11\/k=12\/k=13\/k=14)(p q m fl):
 xQ (bz fo s) aj 12 #[ptr wb,kV k p q m ts fl] w (λB' v w'=>v=A/\Aw fo s aP0 w w' B wb xb yb bb (N+308) n B'):=by
 intro c cs;refine ag.Reach.ok λbY=>?_;have h5:=λb hb=>(bY.low b hb).1;rw[enter_at _ func12 rfl];apply aj1 (S:=s12) (lets h5) (JR h5) J (by rw[asB];grind) aHv (bZ.append (bZ.two (Fg hw g.lt)<|Oe k p q m ts fl) λv hv=>by
  grind[yw]) J ⟨_,func12⟩ J (λt d=>aHA _ wb k p q m H fl)
 rintro⟨a1,df⟩ w1 l sQ aa7 hd ⟨t,d,t',j,T,hf⟩;obtain rfl:df=[]:=hd;have f1:Fr aB w w1:={sQ with block:=λb hb h=>hf.block b hb h}
 have g1:=g.a f1;have bx:=T.bx;have vp:=Fg hw g1.lt;clear hf sQ;rw[asB];refine kz λd1=>?_;refine yZ λd2=>?_;rw[r12];refine aHw.mv (.inl J) T.a0 λa2 e2 q2=>?_;have z2:=q2.sz.t T.sz;refine aHx.go J Y0 (q2.ok _ aa7 vp) (Oe k p q m ts fl) (λo W ho hW=>aHb (x:=.tmp 3) ((q2.ne 3 Xa).t T.a3) (aJ (by rwa[hW]) 0) (aJ (by rwa[hW]) 1) (aJ (by rwa[hW]) 2) (aJ (by rwa[hW]) 3) (aJ (by rwa[hW]) 4) (aJ (by rwa[hW]) 5) ho) λa3 e3 q3 GU=>?_;have z3:=q3.sz.t z2;refine aHy.site aHz func35 J J (vs:=#[ptr wb,kV k p q m ts fl]) (post:=λB' v w'=>v=A/\∃e,Aw fo s aP0 (w1.at e) w' B wb xb yb bb (N+308) n B') ?_ YV (λe=>(aHu (g1.same (w1:=w1.at e) J) hN hw (λk H=>hZ k<|H.imp_right<|dX f1.size) H p q m fl).z Zv) (by grind[Aw.ex]) ?_
 ·have e1:a3.eval (.tmp 35)=ptr wb:=(q3.ne 35 Xa).t (q2.at_ (by rw[T.sz];decide));have e2:a3.eval (.tmp 36)=kV k p q m ts fl:=q3.at_ YV;grind
 rintro B' v w2 a4 e4 ⟨rfl,e',hg⟩ q4;obtain⟨s1,h2,y2,o2,rfl,gr,g2,in2⟩:=hg.ex;have fr:=hg.eU;have sz2:w1<=M (R w2):=fr.size;refine ae3 (K:=λx w'=>x.getD 4 F=A/\w'.heap=w2.heap) (λx w t d h=>h) func12 J (λv hv=>Og gr sz2<|q4.ok _ GU .bool v hv) (q4.df.t<|q3.df.t q2.df) (λt d=>?_) (λx w' W H=>by rw[<-H.1];exact aRm J _ _ _) λx w3 d9 on H=>⟨_,J,J,⟨s1,h2,y2,o2,J,λk H=>(gr k H).imp id λz=>dX f1.size z,g2.same H.2,in2⟩,?_⟩
 ·have r4:=q4.at_ YV;go_wp2
  rfl
 ·exact⟨on.os.t<|fr.os.t f1.os,on.tape.t<|fr.tape.t f1.tape,on.output.t<|fr.output.t f1.output,dX f1.size (by show w1<=M (R w3);grind),λb hb hS=>by
   show w3.heap[b]? =_;rw[H.2];exact(fr.block b (gZ hb f1.size) hS).t<|f1.block b hb id⟩
end
end
section
noncomputable def b12:Code:=cutAt (.refuse "") XZ<|Tryz.f12.body.getD .skip
def aHJ:codeOk aj kC b12=true:=KG
def asH(args:Array ai)(w:ae)(aPX:Ending->ae->Prop):Prop:=
 b12.wp aj (bodyPost aj Tryz.f12 aPX) {tmps:=args++iD (Tryz.f12.ntmps-args.size) F,defers:=[]} w
structure TD(aP0:Nat->Prop)(w w':ae)(B wb xb yb bb N n:Nat):Prop where
 xx:∃h' y' o',fJ w' B wb xb yb bb N n h' y' o'/\∀k,gF wb xb yb bb h' y' o' k->aP0 k
 eU:Fr aP0 w w'
def Dh(H:Nat->Prop)(w:ae)(B wb xb yb bb N n:Nat)(e:Ending)(w':ae):Prop:=e=A/\TD H w w' B wb xb yb bb N n
section
variable{w w1 w':ae}{B wb xb yb bb N n:Nat}{h h':HS}{y y':RS}{o:jY}{fo s aP0:Nat->Prop}
def fJ.asks(g:fJ w B wb xb yb bb N n h y o)(H:N<=90000000):Ask w (Ag wb xb yb h y) (ptr xb) (ptr yb):=g.both.ask H g.both.Zl
variable{aPV K m:Nat}{e:Ending}{k:Int}{ts:ByteArray}
theorem fJ.asI(f:Fr aB w w1)(g:fJ w1 B wb xb yb bb N n h y o)(hZ:∀k,gF wb xb yb bb h y o k\/w1<=k->aP0 k)(a:Qs w1 B xb yb h y aPV e w')(hM:aPV<=K)(H:n<=m):Dh aP0 w B wb xb yb bb K m e w':=have⟨he,h',y',t⟩:=a;⟨he,⟨h',y',o,(g.goes t).z hM H,(by grind[aeZ,cases rC])⟩,(f.z Zv).t (t.fr.z λk hk=>hZ k<|.inl<|.inl<|.inr hk) λ_=>.inl⟩
theorem fJ.aHK(f:Fr aB w w1)(g:fJ w1 B wb xb yb bb N n h y o)(hZ:∀k,gF wb xb yb bb h y o k\/w1<=k->aP0 k)(a:asi w1 B xb yb h y aPV e w')(hM:aPV<=K)(H:n<=m):Dh aP0 w B wb xb yb bb K m e w':=have⟨he,h',y',t⟩:=a;g.asI f hZ ⟨he,h',y',t.go⟩ hM H
def fJ.ae5(g:fJ w B wb xb yb bb N n h y o)(hZ:∀k,gF wb xb yb bb h y o k->aP0 k)(hM:N<=K)(H:n<=m)(f:Fr aB w w'):TD aP0 w w' B wb xb yb bb K m:=⟨⟨h,y,o,(g.a f).z hM H,hZ⟩,f.z Zv⟩
def fJ.X0(f:Fr aB w w1)(g:fJ w1 B wb xb yb bb N n h y o)(hZ:∀k,gF wb xb yb bb h y o k->aP0 k){l}(hM:N<=K)(H:l<=m)(a:pM w1 w' B (Ag wb xb yb h y) aP0 wb xb yb bb l):TD aP0 w w' B wb xb yb bb K m:=have⟨o',sc,iy⟩:=a.iK;⟨⟨h,y,o',⟨(g.both.sU a.aW).z hM,sc.z H,g.l7,g.mO⟩,λk hk=>hk.e (λa=>hZ k<|.inl a)<|iy k⟩,(f.z Zv).t a.eU λ_=>.inl⟩
def call33(f:Fr aB w w1)(g:fJ w1 B wb xb yb bb N n h y o)(hZ:∀k,gF wb xb yb bb h y o k\/w1<=k->aP0 k)(hN:N<=70000000)(hk:k=1\/k=2\/k=3\/k=4)(p q m)(zZ:ts.size<=2^47)(H):aH aj 33 #[ptr wb,kV k p q m ts H] w1 (Dh aP0 w B wb xb yb bb (N+30)<|n+2):=(aHH g YV hk p q m zZ H).z<|by grind[fJ.aHK]
def call34(f:Fr aB w w1)(g:fJ w1 B wb xb yb bb N n h y o)(hZ:∀k,gF wb xb yb bb h y o k\/w1<=k->aP0 k)(hN:N<=70000000)(hk:k=6\/k=7\/k=8\/k=9\/k=16)(p q m)(hm:fF m)(H):aH aj 34 #[ptr wb,kV k p q m ts H] w1 (Dh aP0 w B wb xb yb bb (N+30)<|n+2):=by have key:∀{e w' aPV},aPV<=N+30->Qs w1 B xb yb h y aPV e w'->Dh aP0 w B wb xb yb bb (N+30) (n+2) e w':=(by grind[fJ.asI]);by_cases k3:k=6\/k=7\/k=8;{exact(aHI g YV k3 p q m H).z Zv};(obtain rfl|rfl:k=9\/k=16:=YV);{exact(aGX g hN p q m hm H).z Zv};exact(aBm g.iK (g.asks YV) p q m hm ts H).z λ_ _ ⟨h1,h2⟩=>⟨h1,(g.ae5 Zv YV YV h2).xx,((f.t h2 Zv).z Zv)⟩
def aHL(g:fJ w B wb xb yb bb N n h y o)(hZ:∀k,gF wb xb yb bb h y o k\/w<=k->aP0 k)(hN:N<=70000000)(hn:n<=9000000)(k p q m)(hp:fF p)(hq:fF q)(hm:fF m)(zZ:ts.size<=2^47)(fl)(hk:¬(k=5\/k=10\/k=11\/k=12\/k=13\/k=14)):asH #[ptr wb,kV k p q m ts fl] w (Dh aP0 w B wb xb yb bb (N+30)<|n+2):=by have z1:∀{W},Fr aB w W->∀k,gF wb xb yb bb h y o k\/W<=k->aP0 k:=λf k hk=>hZ k<|hk.imp_right<|dX f.size;have z2:∀{W},Fr aB w W->∀k,o.all bb k\/W<=k->aP0 k:=λf k hk=>z1 f k<|hk.imp_left .inr;have z3:∀k,gF wb xb yb bb h y o k->aP0 k:=Zv;have⟨sj,hj⟩:=(g.asks YV).pG;have⟨sn,_,Ha⟩:=(g.asks YV).num;have H33:I ((k=1\/k=2\/k=3\/k=4)->∀W,Fr aB w W->aH aj 33 #[ak wb,kV k p q m ts fl] W (Dh aP0 w B wb xb yb bb (N+30)<|n+2)):=λhk W fW=>call33 fW (g.a fW) (z1 fW) hN hk p q m zZ fl;have H34:I ((k=6\/k=7\/k=8\/k=9\/k=16)->∀W,Fr aB w W->aH aj 34 #[ak wb,kV k p q m ts fl] W (Dh aP0 w B wb xb yb bb (N+30)<|n+2)):=λhk W fW=>call34 fW (g.a fW) (z1 fW) hN hk p q m hm fl;have H38:I (∀W,Fr aB w W->aH aj 38 #[ak wb,p] W (Dh aP0 w B wb xb yb bb (N+30)<|n+2)):=λW fW=>(asD (g.a fW).iK (z2 fW) ((g.a fW).asks YV) hn p hp).z λ_ _ ⟨h1,h2⟩=>⟨h1,(g.a fW).X0 fW z3 YV YV h2⟩;have H39:I (∀W,Fr aB w W->aH aj 39 #[ak wb,q] W (Dh aP0 w B wb xb yb bb (N+30)<|n+2)):=λW fW=>(asE (g.a fW).iK (z2 fW) ((g.a fW).asks YV) hn q hq).z λ_ _ ⟨h1,h2⟩=>⟨h1,(g.a fW).X0 fW z3 YV YV h2⟩;have H40:I (∀W,Fr aB w W->aH aj 40 #[ak wb,q,p,m] W (Dh aP0 w B wb xb yb bb (N+30)<|n+2)):=λW fW=>(asF (g.a fW).iK (z2 fW) ((g.a fW).asks YV) hn q p m hq).z λ_ _ ⟨h1,h2⟩=>⟨h1,(g.a fW).X0 fW z3 YV YV h2⟩;have H41:I (∀W,Fr aB w W->aH aj 41 #[ak wb,q] W (Dh aP0 w B wb xb yb bb (N+30)<|n+2)):=λW fW=>(asG (g.a fW).iK (z2 fW) ((g.a fW).asks YV) hn q hq).z λ_ _ ⟨h1,h2⟩=>⟨h1,(g.a fW).X0 fW z3 YV YV h2⟩;have HJ:=aQe hj;have HN:=aQe Ha;have HF:I (∀w',Fr aB w w'->Dh aP0 w B wb xb yb bb (N+30) (n+2) (aU A) w'):=λw' f=>⟨J,g.ae5 z3 YV YV f⟩;have⟨c0,c1,c2⟩:=g.iK.cells;have qC:=g.lt;have HK:=aQe hk;unfold ptr at c0 c1 HJ HN⊢;unfold kV at H33 H34⊢;clear g hN hn hp hq hm zZ hk hj Ha c2 hZ z1 z2 z3;unfold asH;simp only[ntmps12,F7,Cc,EF,Nat.reduceAdd,Nat.reduceSub,OM,OL,OV,OO,zy,qV];have⟨Q0,iw⟩:∃Q0,bodyPost aj Tryz.f12 (Dh aP0 w B wb xb yb bb (N+30)<|n+2)=Q0:=⟨_,J⟩;rw[iw];simp only[b12,XZ,Tryz.f12,iT,cutAt,if_true,jX,kG];rw[<-iw];clear iw;by_cases Q7:k=1\/k=2\/k=3\/k=4;{have H:=aQe<|H33 Q7;clear H33 H34 H38 H39 H40 H41 HJ HN HF HK;rcases Q7 with rfl|rfl|rfl|rfl;all_goals go_wp2_with fail;apply(H _<|aQ _).z;rintro e w1 ⟨rfl,hr⟩;have aPX:=aQe hr;clear hr;go_wp2_with fail;go_ret;exact⟨J,aPX⟩};by_cases Ut:k=6\/k=7\/k=8\/k=9\/k=16;{have H:=aQe<|H34 Ut;clear H33 H34 H38 H39 H40 H41 HJ HN HF HK Q7;rcases Ut with rfl|rfl|rfl|rfl|rfl;all_goals go_wp2_with fail;apply(H _<|aQ _).z;rintro e w1 ⟨rfl,hr⟩;have aPX:=aQe hr;clear hr;go_wp2_with fail;go_ret;exact⟨J,aPX⟩};clear H33 H34;by_cases k4:k=17\/k=18\/k=19\/k=20;{clear HJ HN HF HK Q7 Ut;rcases k4 with rfl|rfl|rfl|rfl;all_goals go_wp2_with fail;(first|apply(H38 _<|aQ _).z|apply(H39 _<|aQ _).z|apply(H40 _<|aQ _).z|apply(H41 _<|aQ _).z);rintro e w1 ⟨rfl,hr⟩;have aPX:=aQe hr;clear hr;go_wp2_with fail;go_ret;exact⟨J,aPX⟩};clear H38 H39 H40 H41;by_cases k15:k=15;{subst k15;clear HJ HK Q7 Ut k4;go_wp2_with fail;apply(HN _<|(aQ _).aW).a.z;rintro e w1 ⟨rfl,aI⟩;have F1:=aQe<|(aQ _).t aI Zv;have d1:au w1 (wb,1)=Y (ak yb):=(by grind[Fr.cell,Hid]);clear aI;go_wp2_with fail;apply(HN _<|F1.aW).b.z;rintro e w2 ⟨rfl,bJ⟩;have F2:=aQe<|F1.t bJ Zv;clear bJ;go_wp2_with fail;go_ret;exact HF _ F2};by_cases k21:k=21;{subst k21;clear HN HK Q7 Ut k4 k15;go_wp2_with fail;apply(HJ _<|(aQ _).aW).a.z;rintro e w1 ⟨rfl,aI⟩;have F1:=aQe<|(aQ _).t aI Zv;have d1:au w1 (wb,1)=Y (ak yb):=(by grind[Fr.cell,Hid]);clear aI;go_wp2_with fail;apply(HJ _<|F1.aW).b.z;rintro e w2 ⟨rfl,bJ⟩;have F2:=aQe<|F1.t bJ Zv;clear bJ;go_wp2_with fail;go_ret;exact HF _ F2};have hk:=HK;simp only[not_or]at hk Q7 Ut k4;have⟨n1,n2,n3,n4⟩:=Q7;have⟨n6,n7,n8,n9,n16⟩:=Ut;have⟨n17,n18,n19,n20⟩:=k4;have⟨n5,n10,n11,n12,n13,n14⟩:=hk;go_wp2;go_ret;exact HF _<|aQ _
def asJ(g:fJ w B wb xb yb bb N n h y o)(hN:N<=70000000)(hn:n<=9000000)(hw:¬(s wb\/fo wb))(hZ:∀k,(gF wb xb yb bb h y o k\/s k)\/w<=k->aP0 k)(k p q m)(hp:fF p)(H:fF q)(hm:fF m)(zZ:ts.size<=2^47)(fl):
 xQ (bz fo s) aj 12 #[ptr wb,kV k p q m ts fl] w (λB' v w'=>v=A/\Aw fo s aP0 w w' B wb xb yb bb (N+308) (n+2) B'):=by
 by_cases hk:k=5\/k=10\/k=11\/k=12\/k=13\/k=14
 ·refine(aHB g hN hw hZ hk p q m fl).z λB' v w' ⟨h1,h2⟩=>⟨h1,?_,h2.eU⟩;have⟨s1,h',y',o',e1,e2,e3,e4⟩:=h2.ex;exact⟨s1,h',y',o',e1,e2,e3.z YV YV,e4⟩
 intro c cs;refine ag.Reach.ok λbY=>?_;have h5:=λb hb=>(bY.low b hb).1;apply(amU (lets h5) (JR h5) func12 J (agS _ _) aHJ (bZ.two (Fg hw g.lt)<|Oe k p q m ts fl) (λt d=>aHL (g.re t d) (λk hk=>hZ k<|hk.imp_left .inl) hN hn k p q m hp H hm zZ fl hk) (λt d e w' H=>⟨_,H.1⟩) c cs).z;rintro B' fr' w' ⟨v,rfl,rfl,_,on,t,d,t',j,H⟩;have⟨h1,⟨h',y',o',gm,iy⟩,eU⟩:=H;exact⟨v,J,Zv,⟨s,h',y',o',J,λ_=>.inl,(gm.z YV YV).same J,iy⟩,{on with block:=eU.block}⟩
end
end
section
set_option linter.all false
open Go.RowKit Go.Maps Go.Conc
open Twin gy
noncomputable def d43:Code:=Tryz.f43.body.getD .skip
noncomputable def X4:Code:=jd [A,ah,A] d43
noncomputable def JU:Code:=match X4 with| .block _ (.loop c)=>c|_=>.skip
noncomputable def TE:Array Oper:=yK<|jd [A,ah,ah] JU
noncomputable def X6:Array Oper:=yK<|jd [A,A,A,A,ah] d43
noncomputable def X7:Array Oper:=yK<|jd [A,A,A,A,A,ah] d43
noncomputable def y9(p:List Bool):Code:=jd p d43
noncomputable def GV(p:List Bool):Code:=jd p JU
def aHM:d43=.seq (y9 [ah]) (.seq (.seq (y9 [A,ah,ah])<|.block 0<|.loop JU)<|.seq (y9 [A,A,ah])<|.seq (y9 [A,A,A,ah])<|.seq (.region 21 X6 ah)<|.seq (.region 22 X7 ah)<|y9 [A,A,A,A,A,A]):=KG
def asK:JU=.seq (.seq (GV [ah,ah])<|.cond (.tmp 19) .skip<|.exit 0) (.seq (.block 1<|.seq (.region 4 TE ah)<|GV [A,ah,A])<|GV [A,A]):=KG
def Qx:codeOk aj kC (y9 [ah])=A/\codeOk aj kC (y9 [A,ah,ah])=A/\codeOk aj kC (y9 [A,A,ah])=A/\codeOk aj kC (y9 [A,A,A,ah])=A/\codeOk aj kC (y9 [A,A,A,A,A,A])=A/\codeOk aj kC (GV [ah,ah])=A/\codeOk aj kC (GV [A,ah,A])=A/\codeOk aj kC (GV [A,A])=true:=aQv
def r43:List.range TE.size=[0,1,2,3,4]/\List.range X6.size=[0,1,2,3]/\List.range X7.size=[0,1,2,3]:=aQv
def aHN:cO TE 0 22 (.move<|.tmp 0):=by unfold cO;kernel_rfl
def aHO:cO TE 1 23 (.move<|.tmp 3):=by unfold cO;kernel_rfl
def aHP:cO TE 2 24 (.build 28 #[(0,.const<|V Z 16),(3,.tmp 23)]):=by unfold cO;kernel_rfl
def aHQ:cO TE 3 25 (.call {callee:=.value<|.func 12,args:=#[.tmp 22,.tmp 24],argTypes:=#[29,28]}):=by unfold cO;kernel_rfl
def aHR:cO TE 4 4 (.assign<|.tmp 25):=by unfold cO;kernel_rfl
def aHS:cO X6 0 60 (.move<|.tmp 0):=by unfold cO;kernel_rfl
def aHT:cO X6 1 61 (.build 28 #[(0,.const<|V Z 21)]):=by unfold cO;kernel_rfl
def aHU:cO X6 2 62 (.call {callee:=.value<|.func 12,args:=#[.tmp 60,.tmp 61],argTypes:=#[29,28]}):=by unfold cO;kernel_rfl
def aHV:cO X6 3 11 (.assign<|.tmp 62):=by unfold cO;kernel_rfl
def aHW:cO X7 0 63 (.move<|.tmp 0):=by unfold cO;kernel_rfl
def aHX:cO X7 1 64 (.build 28 #[(0,.const<|V Z 15)]):=by unfold cO;kernel_rfl
def aHY:cO X7 2 65 (.call {callee:=.value<|.func 12,args:=#[.tmp 63,.tmp 64],argTypes:=#[29,28]}):=by unfold cO;kernel_rfl
def aHZ:cO X7 3 12 (.assign<|.tmp 65):=by unfold cO;kernel_rfl
def TF:List.range 70=[0,1,2,3,4,5,6,7,8,9,10,11,12,13,14,15,16,17,18,19,20,21,22,23,24,25,26,27,28,29,30,31,32,33,34,35,36,37,38,39,40,41,42,43,44,45,46,47,48,49,50,51,52,53,54,55,56,57,58,59,60,61,62,63,64,65,66,67,68,69]:=KG
section
variable{a:Act}{o W}
def aH0{k}(bu:o.op=.build 28 #[(0,.const k)]):(eG a.eval o).run aj W=.ok (.value<|kV k 0 0 0 ⟨#[]⟩ ah) W:=by unfold eG kV;go_simp
def aH1{k m}{n:Nat}(h:a.eval (.tmp n)=V Z m)(H:o.op=.build 28 #[(0,.const k),(3,.tmp n)]):(eG a.eval o).run aj W=.ok (.value<|kV k 0 0 m ⟨#[]⟩ ah) W:=by unfold eG kV;rw[H];simp only[acL,uj,uA,h];go_simp
end
structure rD(wb:Nat)(a:Array ai):Prop where
 sz:a.size=70
 a0:a.getD 0 F=ak (Y ⟨wb,0,U⟩)
section
variable{w' W B wb xb yb bb n h o a}
def aH2(W wb):(y9 [ah]).wp aj (λe x w'=>e=.normal/\rD wb x.tmps/\w'.heap=W.heap) ⟨#[ptr wb]++iD (Tryz.f43.ntmps- #[ptr wb].size) F,[]⟩ W:=by unfold ptr;simp only[ntmps43,F7,Cc,EF,Nat.reduceAdd,Nat.reduceSub,OM,OL,OV,OO,zy,qV];simp only[y9,jd,d43,Tryz.f43,iT,if_true,jX,kG];go_wp2;exact⟨J,J⟩
def aH3(T:rD wb a):(y9 [A,ah,ah]).wp aj (λe x w'=>e=.normal/\(rD wb x.tmps/\x.tmps.getD 3 F=V Z (-1))/\w'.heap=W.heap) ⟨a,[]⟩ W:=by have⟨sz,a0⟩:=T;have⟨H,iw⟩:∃H:Exit->Act->ae->Prop,(λe x w'=>e=.normal/\(rD wb x.tmps/\x.tmps.getD 3 F=V Z (-1))/\w'.heap=W.heap)=H:=⟨_,J⟩;rw[iw,Df a,sz,TF];simp only[uj,uA,a0];simp only[y9,jd,JU,X4,d43,Tryz.f43,iT,if_true,jX,kG];rw[<-iw];go_wp2;exact⟨J,J⟩
variable{i aPT aP0}
def aH4{nf:Nat}(T:rD wb a)(a3:a.getD 3 F=V Z i)(c1:W (wb,1)=Y (ak<|Y ⟨yb,0,U⟩))(H:I (aH aj 37 #[ak yb] W λe w'=>e=nf/\Fr aB W w')):(GV [ah,ah]).wp aj (λe x w'=>e=.normal/\(rD wb x.tmps/\x.tmps.getD 3 F=i/\x.tmps.getD 19 F=(decide<|i<=nf))/\Fr aB W w') ⟨a,[]⟩ W:=by have⟨sz,a0⟩:=T;have⟨Q0,iw⟩:∃Q0:Exit->Act->ae->Prop,(λe x w'=>e=.normal/\(rD wb x.tmps/\x.tmps.getD 3 F=V Z i/\x.tmps.getD 19 F=aA (decide<|i<=nf))/\Fr aB W w')=Q0:=⟨_,J⟩;rw[iw,Df a,sz,TF];simp only[uj,uA,a0,a3];simp only[GV,jd,JU,X4,d43,Tryz.f43,iT,if_true,jX,kG];rw[<-iw];go_wp2_with fail;apply H.z;rintro e w1 ⟨rfl,aI⟩;have F1:=aQe aI;clear aI;go_wp2;exact⟨⟨J,J⟩,F1⟩
def aH5{v}(T:rD wb a)(a3:a.getD 3 F=v)(a4:a.getD 4 F=A):(GV [A,ah,A]).wp aj (λe x w'=>e=.normal/\(rD wb x.tmps/\x.tmps.getD 3 F=v)/\w'.heap=W.heap) ⟨a,[]⟩ W:=by have⟨sz,a0⟩:=T;have⟨H,iw⟩:∃H:Exit->Act->ae->Prop,(λe x w'=>e=.normal/\(rD wb x.tmps/\x.tmps.getD 3 F=v)/\w'.heap=W.heap)=H:=⟨_,J⟩;rw[iw,Df a,sz,TF];simp only[uj,uA,a0,a3,a4];simp only[GV,jd,JU,X4,d43,Tryz.f43,iT,if_true,jX,kG];rw[<-iw];go_wp2;exact⟨J,J⟩
def aH6(T:rD wb a)(a3:a.getD 3 F=V Z i)(hi: -1<=i/\i<=1000):(GV [A,A]).wp aj (λe x w'=>e=.normal/\(rD wb x.tmps/\x.tmps.getD 3 F=V Z (i+1))/\w'.heap=W.heap) ⟨a,[]⟩ W:=by have⟨sz,a0⟩:=T;have⟨H,iw⟩:∃H:Exit->Act->ae->Prop,(λe x w'=>e=.normal/\(rD wb x.tmps/\x.tmps.getD 3 F=V Z (i+1))/\w'.heap=W.heap)=H:=⟨_,J⟩;rw[iw,Df a,sz,TF];simp only[uj,uA,a0,a3];simp only[GV,jd,JU,X4,d43,Tryz.f43,iT,if_true,jX,kG];rw[<-iw];go_wp2;exact⟨J,J⟩
def aH7(T:rD wb a)(Ee:a.getD 11 F=A)(H:a.getD 12 F=A):(y9 [A,A,A,A,A,A]).wp aj (λe x w'=>e=.ret/\x.tmps.getD 2 F=A/\w'.heap=W.heap) ⟨a,[]⟩ W:=by have⟨sz,a0⟩:=T;have⟨Q0,iw⟩:∃Q0:Exit->Act->ae->Prop,(λe x w'=>e=.ret/\x.tmps.getD 2 F=aA A/\w'.heap=W.heap)=Q0:=⟨_,J⟩;rw[iw,Df a,sz,TF];simp only[uj,uA,a0,Ee,H];simp only[y9,jd,JU,X4,d43,Tryz.f43,iT,if_true,jX,kG];rw[<-iw];go_wp2
theorem aH8(T:rD wb a)(hs:jw W B aPT wb xb yb bb n o)(hZ:∀k,o.all bb k\/W<=k->aP0 k)(ha:Ask W aPT (ptr xb) (ptr yb))(hn:n<=8500000):(y9 [A,A,ah]).wp aj (λe x w'=>e=.normal/\rD wb x.tmps/\pM W w' B aPT aP0 wb xb yb bb (n+16)) ⟨a,[]⟩ W:=by have⟨sz,a0⟩:=T;have HA:=aQe ha;have HS:=hs;have HN:=aQe hn;have HZ:=aQe hZ;have⟨Q0,iw⟩:∃Q0:Exit->Act->ae->Prop,(λe x w'=>e=.normal/\rD wb x.tmps/\pM W w' B aPT aP0 wb xb yb bb (n+16))=Q0:=⟨_,J⟩;rw[iw,Df a,sz,TF];simp only[uj,uA,a0];simp;clear sz a0 hs ha hn hZ;simp only[y9,jd,d43,Tryz.f43,iT,if_true,jX,kG];rw[<-iw];clear iw;go_wp2;go_loopw [5] (λi w'=>∃k:Nat,k<=8/\i=V Z ((k:Int)-1)/\pM W w' B aPT aP0 wb xb yb bb (n+2*k)) (λi _=>9-(bM i+1).toNat);(case atStart=>exact⟨0,YV,J,(by grind[pM.asC,Hid,Fr.refl])⟩);case round=>obtain⟨k,hk,rfl,bT⟩:=hrel;have H:=aQe bT;clear bT;by_cases aO:(k:Int)-1<=6;{have HKI:I (fF<|(k:Int)-1):=yY YV YV;(have HKN:I (n+2*k<=9000000):=by have:=HN.o;show n+2*k<=9000000;omega);have⟨ok,bY,hkZ⟩:=H.iK;have KZ:I (∀k,ok.all bb k\/wr<=k->aP0 k):=λk hk=>hk.e (hkZ k) λa=>HZ k<|dX H.eU.size a;have HOK:=aQe bY;clear bY hkZ;go_wp2_with (first|(go_at_call 38;apply(asD HOK KZ (HA.aW H.aW) HKN _ HKI).z;rintro e w2 ⟨rfl,bJ⟩;have uT:=aQe<|H.t bJ;clear bJ));go_roundw;(case rel=>exact⟨k+1,YV,Y4,uT⟩);case measure=>simp[bM]<;>omega};(have Yq:k=8:=YV);subst Yq;go_wp2;exact⟨⟨J,J⟩,H⟩
theorem aH9(T:rD wb a)(hs:jw W B aPT wb xb yb bb n o)(hZ:∀k,o.all bb k\/W<=k->aP0 k)(ha:Ask W aPT (ptr xb) (ptr yb))(hn:n<=8500000):(y9 [A,A,A,ah]).wp aj (λe x w'=>e=.normal/\rD wb x.tmps/\pM W w' B aPT aP0 wb xb yb bb (n+18)) ⟨a,[]⟩ W:=by have⟨sz,a0⟩:=T;have HA:=aQe ha;have HS:=aQe hs;have HN:=aQe hn;have HZ:=aQe hZ;have⟨Q0,iw⟩:∃Q0:Exit->Act->ae->Prop,(λe x w'=>e=.normal/\rD wb x.tmps/\pM W w' B aPT aP0 wb xb yb bb (n+18))=Q0:=⟨_,J⟩;rw[iw,Df a,sz,TF];simp only[uj,uA,a0];simp only[Uy];clear sz a0 hs ha hn hZ;simp only[y9,jd,d43,Tryz.f43,iT,if_true,jX,kG];rw[<-iw];clear iw;go_wp2_with fail;go_loopw [7] (λi w'=>∃k:Nat,k<=6/\i=V Z ((k:Int)-1)/\pM W w' B aPT aP0 wb xb yb bb (n+3*k)) (λi _=>7-(bM i+1).toNat);(case atStart=>exact⟨0,YV,J,pM.asC HS (λk H=>HZ k H) eH⟩);case round=>obtain⟨k,H,rfl,bT⟩:=hrel;have HF:=aQe bT;clear bT;by_cases aO:(k:Int)-1<=4;{have HKI:I (fF<|(k:Int)-1):=yY (by omega) (by omega);(have HKN:I (n+3*k+3<=9000000):=by have:=HN.o;show n+3*k+3<=9000000;omega);have⟨ok,bY,hkZ⟩:=HF.o.iK;have KZ:I (∀k,ok.all bb k\/wr<=k->aP0 k):=λk H=>H.e (hkZ k) λa=>HZ.o k<|dX HF.o.eU.size a;have HOK:=aQe bY;clear bY hkZ;go_wp2_with (first|(go_at_call 39;apply(asE HOK.o KZ.o (HA.o.aW HF.o.aW) (by have:=HKN.o;omega) _ HKI.o).z;rintro e w2 ⟨rfl,bJ⟩;have uT:=aQe<|HF.o.t bJ;have⟨o2,J6,fV⟩:=bJ.iK;have Z2:I (∀k,o2.all bb k\/w2<=k->aP0 k):=λk H=>H.e (fV k) λa=>HZ.o k<|dX uT.o.eU.size a;have DF:=aQe J6;clear bJ J6 fV)|(go_at_call 40;apply(asF DF.o Z2.o (HA.o.aW uT.o.aW) (by have:=HKN.o;omega) _ 0 1000 HKI.o).z;rintro e w3 ⟨rfl,iL⟩;have J5:=aQe<|uT.o.t iL;have⟨o3,zS,hz3⟩:=iL.iK;have Z3:I (∀k,o3.all bb k\/w3<=k->aP0 k):=λk H=>H.e (hz3 k) λa=>HZ.o k<|dX J5.o.eU.size a;have HO3:=aQe zS;clear iL zS hz3)|(go_at_call 41;apply(asG HO3.o Z3.o (HA.o.aW J5.o.aW) (by have:=HKN.o;omega) _ HKI.o).z;rintro e w4 ⟨rfl,pU⟩;have HF4:=aQe<|J5.o.t pU;clear pU));go_roundw;(case rel=>exact⟨k+1,YV,Y4,HF4.o⟩);case measure=>simp[bM]<;>omega};(have vN:k=6:=YV);subst vN;go_wp2_with fail;exact⟨⟨J,J⟩,HF.o⟩
end
end
section
set_option linter.all false
open Go.RowKit Go.Maps Go.Conc
open Twin gy
structure nV(fo s0 aP0:Nat->Prop)(w0:ae)(s:Nat->Prop)(w:ae)(B wb xb yb bb N n:Nat):Prop where
 xx:∃h y o,fJ w B wb xb yb bb N n h y o/\∀k,gF wb xb yb bb h y o k->aP0 k
 hw:¬(s wb\/fo wb)
 hZ:∀k,s k\/M (R w0)<=k->aP0 k
 gr:∀k,s k->s0 k\/M (R w0)<=k
 eU:Fr aP0 w0 w
section
variable{w0 w w1 w' W:ae}{B wb xb yb bb N n aPV m:Nat}{h h':HS}{y y':RS}{o:jY}{fo s0 s aP0:Nat->Prop}{a:Act}{cs cs2:List bK}{Q:dE->bK->ae->Prop}{rest:List Item}
theorem nV.lt(g:nV fo s0 aP0 w0 s w B wb xb yb bb N n):wb<w:=let ⟨_,_,_,g,_⟩:=g.xx;g.lt
theorem nV.step(g:nV fo s0 aP0 w0 s w B wb xb yb bb N n){B'}(t:Aw fo s aP0 w w' B wb xb yb bb aPV m B'):∃s',B'=bz fo s'/\(∀k,s' k->s k\/w<=k)/\nV fo s0 aP0 w0 s' w' B wb xb yb bb aPV m:=have⟨s',h',y',o',e,H,gm⟩:=t.ex;have⟨_,_,_,g0,_⟩:=g.xx;have hl:=g0.lt;have hs:=g.eU.size;⟨s',e,H,Zv,(by grind[cases nV]),λk hk=>g.hZ k Zv,(by grind[cases nV]),g.eU.t t.eU λ_=>.inl⟩
def nV.res(g:nV fo s0 aP0 w0 s w B wb xb yb bb N n)(on:On w w1){t t' d d'}(r:TD aP0 (re w t d) (re w1 t' d') B wb xb yb bb aPV m):nV fo s0 aP0 w0 s w1 B wb xb yb bb aPV m:=have⟨h',y',H,gm,hi⟩:=r.xx;⟨⟨h',y',H,gm.same J,hi⟩,g.hw,g.hZ,g.gr,g.eU.t {on with block:=r.eU.block} λ_=>.inl⟩
theorem nV.same(g:nV fo s0 aP0 w0 s w B wb xb yb bb N n)(H:On w w1)(e:w1.heap=w.heap):nV fo s0 aP0 w0 s w1 B wb xb yb bb N n:=have⟨h',y',o',gm,hi⟩:=g.xx;⟨⟨h',y',o',gm.same e,hi⟩,g.hw,g.hZ,g.gr,g.eU.t {H with block:=Zv} λ_=>.inl⟩
theorem nV.at(g:nV fo s0 aP0 w0 s w B wb xb yb bb N n)(e):nV fo s0 aP0 w0 s (w.at e) B wb xb yb bb N n:=g.same ⟨J,fC _,J,J⟩ J
theorem nV.z(g:nV fo s0 aP0 w0 s w B wb xb yb bb N n)(hM:N<=aPV)(H:n<=m):nV fo s0 aP0 w0 s w B wb xb yb bb aPV m:=
 {g with xx:=let ⟨h,y,o,z,hi⟩:=g.xx;⟨h,y,o,z.z hM H,hi⟩}
def nV.act(g:nV fo s0 aP0 w0 s w B wb xb yb bb N n)(hN:N<=70000000)(hn:n<=9000000)(k p q m)(hp:fF p)(hq:fF q)(hm:fF m){ts}(zZ:ts.size<=2^47)(H):xQ (bz fo s) aj 12 #[ptr wb,kV k p q m ts H] w (λB' v w'=>v=A/\Aw fo s aP0 w w' B wb xb yb bb (N+308) (n+2) B'):=let ⟨_,_,_,z,hi⟩:=g.xx;asJ z hN hn g.hw (λk hk=>hk.e (by grind[cases nV]) λa=>g.hZ k<|dX g.eU.size a) k p q m hp hq hm zZ H
structure Oi(fo s0 aP0:Nat->Prop)(w0:ae)(B wb xb yb bb:Nat)(s:Nat->Prop)(w:ae)(N n:Nat)(a:Act):Prop where
 g:nV fo s0 aP0 w0 s w B wb xb yb bb N n
 T:rD wb a.tmps
 df:a.defers=[]
 ok:bZ ((bz fo s).cut (M (R w))) a.tmps
def Oi.vp(H:Oi fo s0 aP0 w0 B wb xb yb bb s w N n a):aK ((bz fo s).cut w) (ak wb):=Fg H.g.hw H.g.lt
def asL:(⟨#[]⟩:ByteArray).size<=2^47:=Xa
variable{B':dE}
theorem Aw.at{e}(t:Aw fo s aP0 (w.at e) w' B wb xb yb bb N n B'):Aw fo s aP0 w w' B wb xb yb bb N n B':=⟨t.ex,t.eU.os,t.eU.tape,t.eU.output,t.eU.size,t.eU.block⟩
def Aw.bz(t:Aw fo s aP0 w w' B wb xb yb bb N n B'):∃H,B'=bz fo H:=(by grind[cases Aw])
def asM{k:Nat}(H:Oi fo s0 aP0 w0 B wb xb yb bb s w N n a)(a3:a.tmps.getD 3 F=V Z ((k:Int)-1)){asN} (hn:∀x w2 (nf:Nat),nf<=100->Oi fo s0 aP0 w0 B wb xb yb bb s w2 N n ⟨x,[]⟩->x.getD 3 F=V Z ((k:Int)-1)->x.getD 19 F=(decide<|(k:Int)-1<=nf)->ag.Reach (bz fo s) aj ((base 43).at ⟨x,[]⟩ asN) cs w2 Q cs2):ag.Reach (bz fo s) aj ((base 43).at a<|.code (GV [ah,ah])::asN) cs w Q cs2:=by have⟨h,y,o,g,hi⟩:=H.g.xx;have⟨tl,co⟩:=g.both.gK.core;have⟨_,c1,_⟩:=g.iK.cells;refine Qv (K:=λx w'=>(rD wb x/\x.getD 3 F=V Z ((k:Int)-1)/\x.getD 19 F=(decide<|(k:Int)-1<=y.N))/\∃t d t' d',Fr aB (re w t d)<|re w' t' d') Y0 func43 Qx.2.2.2.2.2.1 H.ok H.df (λt d=>aQ3 (aH4 (nf:=y.N) (yb:=yb) H.T a3 c1<|Zn (g.re t d).both.ya) λe x w' hq=>⟨hq.1,hq.2.1,t,d,w'.tape,w'.drawn,hq.2.2⟩) λx w2 Tt hK BV=>?_;have⟨⟨T2,b3,LP⟩,t,d,t',d',f⟩:=hK;exact hn x w2 _ co.E6 ⟨H.g.res Tt<|(g.re t d).ae5 hi YV YV f,T2,J,BV⟩ b3 LP
def aIb(hN:N+32000<=70000000)(hn:n+300<=9000000)(yO:∀s w a,Oi fo s0 aP0 w0 B wb xb yb bb s w (N+308*103) (n+2*103) a->ag.Reach (bz fo s) aj ((base 43).at a rest) cs w Q cs2):
 ∀m k s w a,k+m=103->Oi fo s0 aP0 w0 B wb xb yb bb s w (N+308*k) (n+2*k) a->a.tmps.getD 3 F=V Z ((k:Int)-1)->ag.Reach (bz fo s) aj ((base 43).at a<|.code JU:: .inLoop JU:: .inBlock 0::rest) cs w Q cs2:=by
 intro m;induction m with
 |zero=>
  intro k s w a hk aPS a3;rw[asK];refine kz λd1=>kz λd2=>asM {aPS with g:=(aPS.g.at d1).at d2} a3 λx w2 nf hnf H b3 LP=>?_;rw[jr YV]at LP;refine jM (λ_=>aQZ LP) λd4=>?_;rw[if_neg Xa];refine jM (λ_=>aRA J) λd5=>?_;exact yO s _ _ {H with g:=((H.g.at d4).at d5).z YV YV}
 |succ m ih=>
  intro k s w a hk aPS a3;rw[asK];refine kz λd1=>kz λd2=>asM {aPS with g:=(aPS.g.at d1).at d2} a3 λx w2 nf hnf H b3 LP=>?_;by_cases aO:(k:Int)-1<=nf;rotate_left
  ·rw[jr aO]at LP;refine jM (λ_=>aQZ LP) λd4=>?_;rw[if_neg Xa];refine jM (λ_=>aRA J) λd5=>?_;exact yO s _ _ {H with g:=((H.g.at d4).at d5).z YV YV}
  rw[iC aO]at LP;refine jM (λ_=>aQZ LP) λd4=>?_;rw[if_pos rfl];refine jM (λ_=>aQ2) λd5=>?_;refine kz λd6=>?_;refine jM (λ_=>aQ6) λd7=>?_;refine kz λd8=>?_;refine yZ λd9=>?_;rw[r43.1];refine aHN.mv (.inl J) H.T.a0 λa3 e3 q3=>?_;have z3:=q3.sz.t H.T.sz;have GU:=q3.ok _ H.ok H.vp;refine aHO.mv (.inl J) ((q3.ne 3 Xa).t b3) λa4 e4 q4=>?_;have z4:=q4.sz.t z3;have LM:=q4.ok _ GU .int;refine aHP.go KG Y0 LM (by grind[Oe]) (λo W ho _=>aH1 (q4.at_ YV) ho) λa5 e5 q5 y8=>?_;have z5:=q5.sz.t z4;refine aHQ.site aHR func12 J J (post:=λB' v w'=>v=A/\Aw fo s aP0 w2 w' B wb xb yb bb (N+308*k+308) (n+2*k+2) B') ?_ YV (λe=>((H.g.at e).act YV YV 16 0 0 ((k:Int)-1) Zk Zk (yY YV YV) asL ah).z λB' v w' h=>⟨h.1,h.2.at⟩) (λB' v w' h=>h.2.bz) ?_
  ·have e1:a5.eval (.tmp 22)=ptr wb:=(q5.ne 22 Xa).t ((q4.ne 22 Xa).t<|q3.at_ (by rw[H.T.sz];decide));have e2:a5.eval (.tmp 24)=kV 16 0 0 _ _ _:=q5.at_ YV;simp_all
  rintro B' v w3 a6 e6 ⟨rfl,hg⟩ q6;obtain⟨s',rfl,gr,g3⟩:=H.g.step hg;have aW:=λj h1 h2 h3 h4 h5=>(q6.ne j (Ne.s h4)<|Ne.s h5).t<|(q5.ne j<|Ne.s h3).t<|(q4.ne j<|Ne.s h2).t<|q3.ne j<|Ne.s h1;have T6:rD wb _:=⟨q6.sz.t z5,(aW 0 Xa Xa Xa Xa Xa).t H.T.a0⟩;have Oj:=λv hv=>Og gr hg.eU.size<|q6.ok _ y8 .bool v hv;refine Qv (K:=λx w'=>(rD wb x/\x.getD 3 F=V Z ((k:Int)-1))/\w'.heap=w3.heap) (λx w t d h=>h) func43 Qx.2.2.2.2.2.2.1 Oj (q6.df.t<|q5.df.t<|q4.df.t q3.df) (λt d=>aQ3 (aH5 T6 Zv<|q6.at_ YV) λe x w' hq=>hq) λx7 w4 BI hK Qy=>?_;refine jM (λ_=>aRj) λd10=>?_;refine Qv (K:=λx w'=>(rD wb x/\x.getD 3 F=V Z ((k:Int)-1+1))/\w'.heap=w4.heap) (λx w t d h=>h) func43 Qx.2.2.2.2.2.2.2 Qy J (λt d=>aQ3 (aH6 hK.1.1 hK.1.2 YV) λe x w' hq=>hq) λx8 w5 zQ Oq ok8=>?_;refine jM (λ_=>aRt) λd11=>?_;refine ih (k+1) s' _ _ YV ⟨(((g3.same BI hK.2).same zQ Oq.2).at _).z YV YV,Oq.1.1,J,ok8⟩<|Oq.1.2.t ?_;grind
def asO{ops id d0 d1 d2 d3 k}(H:Oi fo s0 aP0 w0 B wb xb yb bb s w N n a)(hN:N<=70000000)(hn:n<=9000000)(hr:List.range ops.size=[0,1,2,3])(o0:cO ops 0 d0 (.move<|.tmp 0))(o1:cO ops 1 d1 (.build 28 #[(0,.const<|V Z k)]))(o2:cO ops 2 d2 (.call {callee:=.value<|.func 12,args:=#[.tmp d0,.tmp d1],argTypes:=#[29,28]}))(o3:cO ops 3 d3 (.assign<|.tmp d2))
 (hd:d0<70/\d1<70/\d2<70/\d3<70/\d0≠0/\d1≠0/\d2≠0/\d3≠0/\d0≠d1)(bu:vS aj kC (.build 28 #[(0,.const k)])=A)
 (hgo:∀s w a',Oi fo s0 aP0 w0 B wb xb yb bb s w (N+308) (n+2) a'->a'.tmps.getD d3 F=A->(∀j,j≠d0->j≠d1->j≠d2->j≠d3->a'.tmps.getD j F=a.tmps.getD j F)->ag.Reach (bz fo s) aj ((base 43).at a' rest) cs w Q cs2):
 ag.Reach (bz fo s) aj ((base 43).at a<|.code (.region id ops ah)::rest) cs w Q cs2:=by
 refine yZ λd9=>?_;rw[hr];refine o0.mv (.inl J) H.T.a0 λa3 e3 q3=>?_;have z3:=q3.sz.t H.T.sz;have GU:=q3.ok _ H.ok H.vp;refine o1.go bu Y0 GU (Oe k 0 0 0 _ _) (λo W ho _=>aH0 ho) λa5 e5 q5 y8=>?_;have z5:=q5.sz.t z3;refine o2.site o3 func12 J J (post:=λB' v w'=>v=A/\Aw fo s aP0 w w' B wb xb yb bb (N+308) (n+2) B') ?_ YV (λe=>((H.g.at e).act hN hn k 0 0 0 Zk Zk Zk asL ah).z λB' v w' h=>⟨h.1,h.2.at⟩) (λB' v w' h=>h.2.bz) ?_
 ·have e1:a5.eval (.tmp d0)=ptr wb:=(q5.ne d0 YV).t (q3.at_ (by rw[H.T.sz];omega));have e2:a5.eval (.tmp d1)=kV k 0 0 0 ⟨#[]⟩ false:=q5.at_ YV;grind
 rintro B' v w3 a6 e6 ⟨rfl,hg⟩ q6;obtain⟨s',rfl,gr,g3⟩:=H.g.step hg;have aW:∀j,j≠d0->j≠d1->j≠d2->j≠d3->a6.tmps.getD j F=a.tmps.getD j undef:=(by grind[cases LJ,qi.ne]);exact hgo s' _ a6 ⟨g3.at e6,⟨q6.sz.t z5,(by grind[rD.a0,Oi.T])⟩,q6.df.t<|q5.df.t<|q3.df.t H.df,λv hv=>Og gr hg.eU.size<|q6.ok _ y8 .bool v hv⟩ (q6.at_ YV) aW
def aId(g:nV fo s0 aP0 w0 s w B wb xb yb bb N n)(hN:N+33000<=70000000)(hn:n+1000<=8500000):
 xQ (bz fo s) aj 43 #[ptr wb] w (λB' v w'=>v=A/\∃s',B'=bz fo s'/\(∀k,s' k->s k\/w<=k)/\w<=M (R w')/\nV fo s0 aP0 w0 s' w' B wb xb yb bb (N+32340) (n+300)):=by
 intro c cs;rw[enter_at (c:=d43) _ func43 rfl,aHM];have g1:nV fo s aP0 w s w B wb xb yb bb N n:=⟨g.xx,g.hw,λk hk=>g.hZ k<|hk.imp_right<|dX g.eU.size,λ_=>.inl,Fr.refl _ _⟩;refine kz λd1=>?_;refine Qv (K:=λx w'=>rD wb x/\w'.heap=w.heap) (λx w t d h=>h) func43 Qx.1 (bZ.append (λv hv=>by
  obtain rfl:v=ptr wb:=Zv
  exact Fg g.hw g.lt) λv hv=>by
  grind[yw]) J (λt d=>aQ3 (aH2 _ wb) λe x w' H=>H) λx1 w1 sQ Ud JM=>?_
 refine kz λd2=>kz λd3=>?_;refine Qv (w:=w1) (K:=λx w'=>(rD wb x/\x.getD 3 F=V Z (-1))/\w'.heap=w1.heap) (λx w t d h=>h) func43 Qx.2.1 JM J (λt d=>aQ3 (aH3 Ud.1) λe x w' H=>H) λx2 w2 Tt Oq BV=>?_;refine jM (λ_=>aQ6) λd4=>?_;refine jM (λ_=>aRz) λd5=>?_;refine aIb YV YV ?_ 103 0 s _ _ J ⟨(((g1.same sQ Ud.2).same Tt Oq.2).at d4).at d5,Oq.1.1,J,BV⟩ Oq.1.2;rintro s3 w3 a3 A3;have⟨h3,y3,o3,g3,i3⟩:=A3.g.xx;refine kz λd6=>?_;refine Qv (K:=λx w'=>rD wb x/\∃t d t' d',pM (re w3 t d) (re w' t' d') B (Ag wb xb yb h3 y3) aP0 wb xb yb bb<|n+2*103+16) Y0 func43 Qx.2.2.1 A3.ok A3.df (λt d=>aQ3 (aH8 A3.T (g3.re t d).iK (λk hk=>hk.e (λa=>i3 k<|.inr a) λa=>A3.g.hZ k<|dX A3.g.eU.size a) ((g3.re t d).asks YV) YV) λe x w' H=>⟨H.1,H.2.1,t,d,w'.tape,w'.drawn,H.2.2⟩) λx4 w4 BI hK4 LM=>?_;have⟨T4,t4,d4',t4',aNA,as4⟩:=hK4;have G4:=A3.g.res BI<|(g3.re t4 _).X0 eH i3 (fC _) (fC _) as4;have⟨h4,y4,o4,g4,i4⟩:=G4.xx;refine kz λd7=>?_;refine Qv (K:=λx w'=>rD wb x/\∃t d t' d',pM (re w4 t d) (re w' t' d') B (Ag wb xb yb h4 y4) aP0 wb xb yb bb<|n+2*103+16+18) Y0 func43 Qx.2.2.2.1 LM J (λt d=>aQ3 (aH9 T4 (g4.re t d).iK (λk hk=>hk.e (λa=>i4 k<|.inr a) λa=>G4.hZ k<|dX G4.eU.size a) ((g4.re t d).asks YV) YV) λe x w' H=>⟨H.1,H.2.1,t,d,w'.tape,w'.drawn,H.2.2⟩) λx5 w5 zQ Yt y8=>?_;have⟨T5,t5,d5',t5',aND,as5⟩:=Yt;have G5:=G4.res zQ<|(g4.re t5 _).X0 eH i4 (fC _) (fC _) as5;refine kz λd8=>?_;refine asO ⟨G5.at d8,T5,J,y8⟩ YV YV r43.2.1 aHS aHT aHU aHV Xa KG λs6 w6 a6 A6 h11 _=>?_;refine kz λd9=>?_;refine asO {A6 with g:=A6.g.at d9} YV YV r43.2.2 aHW aHX aHY aHZ Xa KG λs7 w7 a7 A7 h12 k7=>?_;refine ae3 (K:=λx w'=>x.getD 2 F=A/\w'.heap=w7.heap) (λx w t d h=>h) func43 Qx.2.2.2.2.1 A7.ok A7.df (λt d=>aQ3 (aH7 A7.T Zv h12) λe x w' H=>H) (λx w' W hk=>by rw[<-hk.1];exact aRm J _ _ _) λx w8 d10 on hk=>⟨_,J,J,s7,J,A7.g.gr,?_⟩;have G8:=((A7.g.same on hk.2).at d10).z (aPV:=N+32340) (m:=n+300) YV YV;exact⟨G8.eU.size,G8.xx,G8.hw,(by grind[cases nV]),λk hk=>(G8.gr k hk).e (g.gr k) λz=>dX g.eU.size z,g.eU.t G8.eU λ_=>.inl⟩
end
end
section
set_option linter.all false
open Go.RowKit Go.Maps Go.Conc
open Twin gy
noncomputable def d14:Code:=Tryz.f14.body.getD .skip
noncomputable def kQ(p:List Bool):Code:=jd p d14
noncomputable def z14:Array Oper:=yK<|kQ [A,ah]
noncomputable def y14:Array Oper:=yK<|kQ [A,A,A,A,ah]
noncomputable def x14:Array Oper:=yK<|kQ [A,A,A,A,A,A,A,ah]
def aIg:d14=.seq (kQ [ah]) (.seq (.region 1 z14 ah)<|kQ [A,A]):=KG
def asP:kQ [A,A,A,A]=.seq (.region 4 y14 ah) (kQ [A,A,A,A,A]):=KG
def asQ:kQ [A,A,A,A,A,A,A]=.seq (.region 7 x14 ah) (kQ [A,A,A,A,A,A,A,A]):=KG
def afa:codeOk aj kC (kQ [ah])=A/\codeOk aj kC (mJ [A,A]<|kQ [A,A])=A/\codeOk aj kC (mJ [A,A]<|kQ [A,A,A,A,A])=A/\codeOk aj kC (kQ [A,A,A,A,A,A,A,A])=true:=aQv
def r14:List.range z14.size=[0,1,2]/\List.range y14.size=[0,1,2]/\List.range x14.size=[0,1,2]:=aQv
def akf:cO z14 0 9 (.move<|.tmp 0)/\cO y14 0 21 (.move<|.tmp 0)/\cO x14 0 33 (.move<|.tmp 0):=⟨by unfold cO;kernel_rfl,by unfold cO;kernel_rfl,by unfold cO;kernel_rfl⟩
def akg:cO z14 1 10 (.call {callee:=.value<|.func 43,args:=#[.tmp 9],argTypes:=#[29]})/\cO y14 1 22 (.call {callee:=.value<|.func 43,args:=#[.tmp 21],argTypes:=#[29]})/\cO x14 1 34 (.call {callee:=.value<|.func 43,args:=#[.tmp 33],argTypes:=#[29]}):=⟨by unfold cO;kernel_rfl,by unfold cO;kernel_rfl,by unfold cO;kernel_rfl⟩
def akh:cO z14 2 3 (.assign<|.tmp 10)/\cO y14 2 4 (.assign<|.tmp 22)/\cO x14 2 7 (.assign<|.tmp 34):=⟨by unfold cO;kernel_rfl,by unfold cO;kernel_rfl,by unfold cO;kernel_rfl⟩
def aki:List.range 55=[0,1,2,3,4,5,6,7,8,9,10,11,12,13,14,15,16,17,18,19,20,21,22,23,24,25,26,27,28,29,30,31,32,33,34,35,36,37,38,39,40,41,42,43,44,45,46,47,48,49,50,51,52,53,54]:=KG
structure Ed(wb:Nat)(a:Array ai):Prop where
 sz:a.size=55
 a0:a.getD 0 F=ak (Y ⟨wb,0,U⟩)
section
variable{w0 w w1 w' W B wb xb yb bb N n h h' y y' o fo s0 s a}
def aIh(W wb):(kQ [ah]).wp aj (λe x w'=>e=.normal/\Ed wb x.tmps/\w'.heap=W.heap) ⟨#[ptr wb]++iD (Tryz.f14.ntmps- #[ptr wb].size) F,[]⟩ W:=by unfold ptr;simp only[ntmps14,F7,Cc,EF,Nat.reduceAdd,Nat.reduceSub,OM,OL,OV,OO,zy,qV];simp only[kQ,jd,d14,Tryz.f14,iT,if_true,jX,kG];go_wp2;exact⟨J,J⟩
def aIi(T:Ed wb a)(a3:a.getD 3 F=A)(g:fJ W B wb xb yb bb N n h y o)(H:I (lS 44 45 #[ak xb] #[ak yb] xb yb h y W λr r2 w'=>Ec B xb yb h y N W r r2 w')):(mJ [A,A]<|kQ [A,A]).wp aj (λe x w'=>e=.ret/\(Ed wb x.tmps/\x.tmps.getD 3 F=A)/\∃h' y',tJ W w' B xb yb h y N h' y') ⟨a,[]⟩ W:=by have⟨sz,a0⟩:=T;have⟨c0,c1,_⟩:=g.iK.cells;have G:=g;unfold ptr at c0 c1;have⟨Q0,iw⟩:∃Q0:Exit->Act->ae->Prop,(λe x w'=>e=.ret/\(Ed wb x.tmps/\x.tmps.getD 3 F=aA A)/\∃h' y',tJ W w' B xb yb h y N h' y')=Q0:=⟨_,J⟩;rw[iw,Df a,sz,aki];simp only[uj,uA,a0,a3];simp;clear sz a0 a3 g;simp only[kQ,jd,mJ,Ff,d14,Tryz.f14,iT,if_true,jX,kG];rw[<-iw];clear iw;go_wp2_with fail;apply H.z;rintro e w1 ⟨r,rfl,aI,hc⟩;have HC:=aQe hc;have d1:w1 (wb,1)=ak yb:=(by grind[Fr.cell,fJ.lt,Hid,fJ.l7,fJ.mO]);clear aI hc;go_wp2_with fail;apply(HC _ eH).z;rintro e w2 ⟨r2,rfl,_,hb⟩;have HB:=aQe hb;clear hb;go_wp2;exact⟨⟨J,J⟩,HB⟩
def aIj(T:Ed wb a)(a3:a.getD 3 F=A)(a4:a.getD 4 F=A)(g:fJ W B wb xb yb bb N n h y o)(H:I (lS 29 46 #[ak xb] #[ak yb] xb yb h y W λr r2 w'=>Ec B xb yb h y N W r r2 w')):(mJ [A,A]<|kQ [A,A,A,A,A]).wp aj (λe x w'=>e=.ret/\(Ed wb x.tmps/\x.tmps.getD 3 F=A/\x.tmps.getD 4 F=A/\∃i,x.tmps.getD 5 F=V Z i/\x.tmps.getD 6 F=i)/\∃h' y',tJ W w' B xb yb h y N h' y') ⟨a,[]⟩ W:=by have⟨sz,a0⟩:=T;have⟨c0,c1,_⟩:=g.iK.cells;have G:=g;unfold ptr at c0 c1;have⟨Q0,iw⟩:∃Q0:Exit->Act->ae->Prop,(λe x w'=>e=.ret/\(Ed wb x.tmps/\x.tmps.getD 3 F=aA A/\x.tmps.getD 4 F=aA A/\∃i,x.tmps.getD 5 F=V Z i/\x.tmps.getD 6 F=V Z i)/\∃h' y',tJ W w' B xb yb h y N h' y')=Q0:=⟨_,J⟩;rw[iw,Df a,sz,aki];simp only[uj,uA,a0,a3,a4];simp;clear sz a0 a3 a4 g;simp only[kQ,jd,mJ,Ff,d14,Tryz.f14,iT,if_true,jX,kG];rw[<-iw];clear iw;go_wp2_with fail;apply H.z;rintro e w1 ⟨r,rfl,aI,hc⟩;have HC:=aQe hc;have d1:w1 (wb,1)=ak yb:=(by grind[Fr.cell,fJ.lt,Hid,fJ.l7,fJ.mO]);clear aI hc;go_wp2_with fail;apply(HC _ eH).z;rintro e w2 ⟨r2,rfl,⟨i,rfl,rfl⟩,hb⟩;have HB:=aQe hb;clear hb HC;go_wp2;exact⟨⟨J,J⟩,HB⟩
def aIk{i}(T:Ed wb a)(a3:a.getD 3 F=A)(a4:a.getD 4 F=A)(a5:a.getD 5 F=V Z i)(a6:a.getD 6 F=i)(a7:a.getD 7 F=A)(c2:W (wb,2)=Y (ak<|Y ⟨bb,0,U⟩))(H:I (aH aj 13 #[ak bb] W λe w'=>e=A/\Fr aB W w')):(kQ [A,A,A,A,A,A,A,A]).wp aj (λe x w'=>e=.ret/\x.tmps.getD 2 F=A/\Fr aB W w') ⟨a,[]⟩ W:=by have⟨sz,a0⟩:=T;have⟨Q0,iw⟩:∃Q0:Exit->Act->ae->Prop,(λe x w'=>e=.ret/\x.tmps.getD 2 F=aA A/\Fr aB W w')=Q0:=⟨_,J⟩;rw[iw,Df a,sz,aki];simp only[uj,uA,a0,a3,a4,a5,a6,a7];simp;simp only[kQ,jd,d14,Tryz.f14,iT,if_true,jX,kG];rw[<-iw];go_wp2_with fail;apply H.z;rintro e w1 ⟨rfl,aI⟩;have F1:=aQe aI;clear aI H;go_wp2;exact F1
end
section
variable{w0 w w1 w' W B wb xb yb bb N n h h' y y' o fo s0 s aP0 a cs cs2 Q rest}
structure A14(fo s0 aP0:Nat->Prop)(w0:ae)(B wb xb yb bb:Nat)(s:Nat->Prop)(w:ae)(N n:Nat)(a:Act):Prop where
 g:nV fo s0 aP0 w0 s w B wb xb yb bb N n
 T:Ed wb a.tmps
 df:a.defers=[]
 ok:bZ ((bz fo s).cut (M (R w))) a.tmps
def akk{ops id d0 d1 d2}(H:A14 fo s0 aP0 w0 B wb xb yb bb s w N n a)(hN:N+33000<=70000000)(hn:n+1000<=8500000)(hr:List.range ops.size=[0,1,2])(o0:cO ops 0 d0 (.move<|.tmp 0))(o1:cO ops 1 d1 (.call {callee:=.value<|.func 43,args:=#[.tmp d0],argTypes:=#[29]}))(o2:cO ops 2 d2 (.assign<|.tmp d1))
 (hd:d0<55/\d1<55/\d2<55/\d0≠0/\d1≠0/\d2≠0)
 (hgo:∀s w a',A14 fo s0 aP0 w0 B wb xb yb bb s w (N+32340) (n+300) a'->a'.tmps.getD d2 F=A->(∀j,j≠d0->j≠d1->j≠d2->a'.tmps.getD j F=a.tmps.getD j F)->ag.Reach (bz fo s) aj ((base 14).at a' rest) cs w Q cs2):
 ag.Reach (bz fo s) aj ((base 14).at a<|.code (.region id ops ah)::rest) cs w Q cs2:=by
 refine yZ λd9=>?_;rw[hr];refine o0.mv (.inl J) H.T.a0 λa3 e3 q3=>?_;have z3:=q3.sz.t H.T.sz;have GU:=q3.ok _ H.ok<|Fg H.g.hw H.g.lt;refine o1.site o2 func43 J J (post:=λB' v w'=>v=A/\∃s',B'=bz fo s'/\(∀k,s' k->s k\/w<=k)/\w<=M (R w')/\nV fo s0 aP0 w0 s' w' B wb xb yb bb (N+32340) (n+300)) ?_ YV (λe=>aId (H.g.at e) hN hn) Zv ?_
 ·have e1:a3.eval (.tmp d0)=ptr wb:=q3.at_ (by rw[H.T.sz];omega);simp[e1]
 rintro B' v w3 a6 e6 ⟨rfl,s',rfl,gr,sz,g3⟩ q6;have aW:∀j,j≠d0->j≠d1->j≠d2->a6.tmps.getD j F=a.tmps.getD j undef:=(by grind[cases LJ,qi.ne]);exact hgo s' _ a6 ⟨g3.at e6,⟨q6.sz.t z3,(by grind[Ed.a0,A14.T])⟩,q6.df.t<|q3.df.t H.df,λv hv=>Og gr sz<|q6.ok _ GU .bool v hv⟩ (q6.at_ YV) aW
def nV.both(g:nV fo s0 aP0 w0 s w B wb xb yb bb N n)(g0:fJ w B wb xb yb bb N n h y o)(hi:∀k,gF wb xb yb bb h y o k->aP0 k)(on:On w w1){t t' d d'}(r:∃h' y',tJ (re w t d) (re w1 t' d') B xb yb h y N h' y'):nV fo s0 aP0 w0 s w1 B wb xb yb bb N n:=have⟨h',y',r⟩:=r;g.res on ⟨⟨h',y',o,(g0.re t d).goes r.go,λk H=>(aeZ r.sub k H).e (hi k) λa=>g.hZ k<|dX g.eU.size a⟩,r.fr.z λk H=>hi k<|.inl<|.inr H⟩
theorem akl(g:nV fo s0 aP0 w0 s w B wb xb yb bb N n)(hN:N+100000<=70000000)(hn:n+3000<=8500000):
 xQ (bz fo s) aj 14 #[ptr wb] w (λB' v w'=>v=A/\(∃s',B'=bz fo s'/\∀k,s' k->s k\/w<=k)/\Fr aP0 w w'):=by
 intro c cs;rw[enter_at (c:=d14) _ func14 rfl,aIg];have g1:nV fo s aP0 w s w B wb xb yb bb N n:=⟨g.xx,g.hw,λk hk=>g.hZ k<|hk.imp_right<|dX g.eU.size,λ_=>.inl,Fr.refl _ _⟩;refine kz λd1=>?_;refine Qv (K:=λx w'=>Ed wb x/\w'.heap=w.heap) (λx w t d h=>h) func14 afa.1 (bZ.append (λv hv=>by
  obtain rfl:v=ptr wb:=Zv
  exact Fg g.hw g.lt) λv hv=>by
  grind[yw]) J (λt d=>aQ3 (aIh _ wb) λe x w' H=>H) λx1 w1 sQ Ud JM=>?_
 refine kz λd2=>?_;refine akk ⟨(g1.same sQ Ud.2).at d2,Ud.1,J,JM⟩ YV YV r14.1 akf.1 akg.1 akh.1 Xa λs2 w2 a2 A2 b3 _=>?_;have⟨h2,y2,o2,g2,i2⟩:=A2.g.xx;refine asy (S:=kQ [A,A,A,A]) (K:=λx w'=>(Ed wb x/\x.getD 3 F=A)/\∃t d t' d',∃h' y',tJ (re w2 t d) (re w' t' d') B xb yb h2 y2 (N+32340) h' y') Y0 func14 J (by rw[asP];grind) afa.2.1 A2.ok A2.df (λt d=>aQ3 (aIi A2.T b3 (g2.re t d) (g2.re t d).both.asc) λe x w' H=>⟨H.1,H.2.1,t,d,w'.tape,w'.drawn,H.2.2⟩) λx3 w3 l3 on3 hK3 GU=>?_;have⟨⟨T3,c3⟩,t,d,t',d',r3⟩:=hK3;have G3:=A2.g.both g2 i2 on3 r3;rw[asP];refine kz λd3=>?_;refine akk ⟨G3.at d3,T3,J,GU⟩ YV YV r14.2.1 akf.2.1 akg.2.1 akh.2.1 Xa λs4 w4 a4 A4 b4 k4=>?_;have⟨h4,y4,o4,g4,i4⟩:=A4.g.xx;refine asy (e0:=w4.drawn) (p:=[A,A]) (S:=kQ [A,A,A,A,A,A,A]) (K:=λx w'=>(Ed wb x/\x.getD 3 F=A/\x.getD 4 F=A/\∃i,x.getD 5 F=V Z i/\x.getD 6 F=i)/\∃t d t' d',∃h' y',tJ (re w4 t d) (re w' t' d') B xb yb h4 y4 (N+32340+32340) h' y') Y0 func14 J (by rw[asQ];grind) afa.2.2.1 A4.ok A4.df (λt d=>aQ3 (aIj A4.T Zv b4 (g4.re t d)<|(g4.re t d).both.ase YV) λe x w' H=>⟨H.1,H.2.1,t,d,w'.tape,w'.drawn,H.2.2⟩) λx5 w5 l5 zQ Yt y8=>?_;have⟨⟨T5,e3,e4,i,e5,e6⟩,t,d,t',d',r5⟩:=Yt;have G5:=A4.g.both g4 i4 zQ r5;rw[asQ];refine kz λd5=>?_;refine akk (w:=w5.at d5) ⟨G5.at d5,T5,J,y8⟩ YV YV r14.2.2 akf.2.2 akg.2.2 akh.2.2 Xa λs6 w6 a6 A6 b7 k6=>?_;have⟨h6,y6,o6,g6,i6⟩:=A6.g.xx;have⟨_,_,c2⟩:=g6.iK.cells;refine ae3 (w:=w6) (e0:=w6.drawn) (v:=aA A) (K:=λx w'=>x.getD 2 F=aA A/\∃t d t' d',Fr aB (re w6 t d)<|re w' t' d') Y0 func14 afa.2.2.2 A6.ok A6.df (λt d=>aQ3 (aIk A6.T Zv Zv Zv ((k6 6 Xa Xa Xa).t e6) b7 c2<|(g6.re t d).iK.looks YV) λe x w' H=>⟨H.1,H.2.1,t,d,w'.tape,w'.drawn,H.2.2⟩) (λx w' W hk=>by rw[<-hk.1];exact aRm J _ _ _) λx w8 d10 on ⟨_,t,d,t',d',f⟩=>⟨_,J,J,⟨s6,J,A6.g.gr⟩,?_⟩;exact A6.g.eU.t {on with block:=λb hb _=>f.block b hb id} λ_=>.inl
end
end
section
open Go.RowKit Go.Maps Go.Conc
open Twin gy
section
variable{a:Act}{o W}
variable{x y b sb so f p q t k m ts fl}
def aIm(h:a.eval x=ak (Y ⟨b,0,U⟩))(H:W.heap[b]? =aC #[V Z p,V Z q,V Z t,V Z k] 23 (0,0))(bu:o.op=.load 23 x):(eG a.eval o).run aj W=.ok (.value<|gU p q t k) W:=by have h0:W b=p:=aJ H 0;have h1:W (b,1)=q:=aJ H 1;have h2:W (b,2)=t:=aJ H 2;have h3:W (b,3)=k:=aJ H 3;clear H;unfold eG gU;rw[bu];simp only[h];go_simp
def asT{n cap i:Nat}(h:a.eval x=aP (Y ⟨sb,so,U⟩) n cap)(h2:a.eval y=i)(hi:i<n)(bu:o.op=.indexAddr 26 x y):(eG a.eval o).run aj W=.ok (.value<|ak<|Y (sb,so+i*6)) W:=by
 have h3:(i:Int)<(n:Int):=YV
 have h4:(0:Int)<=(i:Int):=YV
 unfold eG;rw[bu];simp only[h,h2];go_simp
def asU(h:a.eval x=ak (Y ⟨b,f,U⟩))(h0:W (b,f)=Y (V Z k))(h1:W (b,f+1)=Y (V Z p))(h2:W (b,f+2)=Y (V Z q))(h3:W (b,f+3)=Y (V Z m))(h4:W (b,f+4)=Y (dN ts))(h5:W (b,f+5)=Y (aA fl))(H:o.op=.load 28 x):(eG a.eval o).run aj W=.ok (.value<|ast k p q m ts fl) W:=by unfold eG ast;rw[H];simp only[h];go_simp
def aIn(h:a.eval x=ak (Y ⟨b,0,U⟩))(hb:W.heap[b]? =aC #[V Z p,V Z q,V Z t,V Z k] 23 (0,0))(bu:o.op=.load 23 x):∀e∈(eG a.eval o).events aj W #[],∃n,e=⟨.cell ⟨b,n,U⟩,ah,ah⟩:=by intro e H;have h0:W b=p:=aJ hb 0;have h1:W (b,1)=q:=aJ hb 1;have h2:W (b,2)=t:=aJ hb 2;have h3:W (b,3)=k:=aJ hb 3;clear hb;unfold eG at H;rw[bu]at H;simp only[h]at H;simp[go_sem,h0,h1,h2,h3]at H;rcases H with rfl|rfl|rfl|rfl<;>exact⟨_,J⟩
def asV(h:a.eval x=ak (Y ⟨b,f,U⟩))(h0:W (b,f)=Y (V Z k))(h1:W (b,f+1)=Y (V Z p))(h2:W (b,f+2)=Y (V Z q))(h3:W (b,f+3)=Y (V Z m))(h4:W (b,f+4)=Y (dN ts))(h5:W (b,f+5)=Y (aA fl))(bu:o.op=.load 28 x):∀e∈(eG a.eval o).events aj W #[],∃n,e=⟨.cell ⟨b,n,U⟩,ah,ah⟩:=by intro e H;unfold eG at H;rw[bu]at H;simp only[h]at H;simp[go_sem,h0,h1,h2,h3,h4,h5]at H;rcases H with rfl|rfl|rfl|rfl|rfl|rfl<;>exact⟨_,J⟩
def asW{n cap i:Nat}(h:a.eval x=aP (Y ⟨sb,so,U⟩) n cap)(h2:a.eval y=i)(hi:i<n)(bu:o.op=.indexAddr 26 x y):(eG a.eval o).events aj W #[]=#[]:=by
 have h3:(i:Int)<(n:Int):=YV
 have h4:(0:Int)<=(i:Int):=YV
 unfold eG;rw[bu];simp only[h,h2];simp[go_sem,h3]
theorem asX{v}(H:o.op=.assign (.const v)):(eG a.eval o).events aj W #[]=#[]:=by unfold eG;rw[H];rfl
def asY{H n cap}(h:a.eval x=.slice H n cap)(bu:o.op=.call {callee:=.builtin .len,args:=#[x],argTypes:=#[26]}):(eG a.eval o).run aj W=.ok (.value n) W/\(eG a.eval o).events aj W #[]=#[]:=by
 unfold eG;rw[bu];have h':#[x].map a.eval=#[.slice H n cap]:=by simp only[acL,uj,uA,h]
 constructor
 ·simp only[resolve,h'];simp[go_sem]
 ·simp only[resolve,h'];simp[go_sem]
def asZ{i n:Nat}(h:a.eval x=V Z i)(h2:a.eval y=n)(H:o.op=.binOp .lss 3 x y 3):(eG a.eval o).run aj W=.ok (.value<|.bool<|decide<|i<n) W/\(eG a.eval o).events aj W #[]=#[]:=by unfold eG;rw[H];simp only[h,h2];constructor;{simp[go_sem]};simp[go_sem]
end
structure BJ where
 k:Int
 p:Int
 q:Int
 m:Int
 s:ByteArray
 c:Bool
def BJ.at_(w:ae)(H o:Nat)(x:BJ):Prop:=w.cell? (H,o)=x.k/\w (H,o+1)=x.p/\w (H,o+2)=x.q/\ w.cell? (H,o+3)=x.m/\w (H,o+4)=x.s/\w (H,o+5)=x.c
def IK(w:ae)(ao:Option Addr)(l:List BJ):Prop:=∀(i:Nat) x,l[i]? =Y x->(∃H so,ao=Y ⟨H,so,U⟩/\H<w/\x.at_ w H (so+i*6))/\fF x.p/\fF x.q/\fF x.m
theorem BJ.aW{w w' H o B}{x:BJ}(h:x.at_ w H o)(f:Fr (λk=>B<=k) w w')(hB:w<=B)(hs:H<w):x.at_ w' H o:=have⟨c0,c1,c2,c3,c4,c5⟩:=h;have k:∀o,w' (H,o)=w (H,o):=λo=>f.cell (p:=⟨H,o,U⟩) hs (λe=>by have:B<=H:=e;omega);⟨by rw[k];exact c0,by rw[k];exact c1,by rw[k];exact c2,by rw[k];exact c3,by rw[k];exact c4,by rw[k];exact c5⟩
end
section
open Go.RowKit Go.Maps Go.Conc
open Twin gy
variable{Bn:dE}{v:ai}{n:Nat}
theorem as3(p q t k:Int):aK Bn (gU p q t k):=.agg λx hx=>by simp only[MQ,zA,Dy,DC]at hx;rcases hx with rfl|rfl|rfl|rfl<;>exact .int
def as6{x:ai}:(#[x,v]++iD n undef:Array ai).getD 1 F=v:=by rw[Uy,Array.getElem?_append];rfl
def as7{D:List Nat}(h1:D.contains 1=A){p q t k:Int}:nU D Bn (#[gU p q t k,v]++iD n F):=λj hj u hu=>by rw[Array.getElem?_append]at hu;split at hu;{match j with|0=>cases hu;exact as3 _ _ _ _|1=>rw[h1]at hj;cases hj|j+2=>simp at hu};rw[Array.getElem?_replicate]at hu;split at hu;{cases hu;exact yw};cases hu
end
section
open Go.RowKit Go.Maps Go.Conc
open Twin gy
noncomputable def d9:Code:=Tryz.f9.body.getD .skip
end
section
open Go.RowKit Go.Maps Go.Conc
open Twin gy
noncomputable def d7:Code:=Tryz.f7.body.getD .skip
noncomputable def aIq:Code:=jd [ah] d7
noncomputable def c7:Code:=jd [A,A] d7
def Qy:codeOk aj kC aIq=A/\codeOk aj kC c7=true:=by and_intros<;>kernel_rfl
end
section
open Go.RowKit Go.Maps Go.Conc
open Twin gy
noncomputable def d8:Code:=Tryz.f8.body.getD .skip
noncomputable def c8:Code:=jd [A,A,A,A,A,A] d8
end
def p8:List Bool:=[A,A,A,A]
section
open Go.RowKit Go.Maps Go.Conc
open Twin gy
open ag (jW nK rW)
def as9{fo s a k cs cs2 w Q D f fn p c S}{K:Array ai->ae->Prop}(hK:∀x w t d,K x (re w t d)->K x w)(qL:prog.funcs[f]? =Y fn)(hS:S=jd p c)(fE:S≠.ret)(bY:codeOk aj kC (mJ p c)=A)(hM:rW D (mJ p c)=A)(ha:nU D ((bz fo s).cut (M (R w))) a.tmps)(hd:a.defers=[]) (xE:∀t d,(mJ p c).wp aj (λe x w'=>e=.ret/\K x.tmps w') ⟨tidy D a.tmps,[]⟩<|re w t d) (hn:∀x w1 l,On w w1->K x w1->nU D ((bz fo s).cut w1) (jW (lay D λj=>a.tmps.getD j F) x)->ag.Reach (bz fo s) aj ((base f).at ⟨jW (lay D λj=>a.tmps.getD j F) x,[]⟩<|.code S::l) cs w1 Q cs2):ag.Reach (bz fo s) aj ((base f).at a<|.code c::k) cs w Q cs2:=by refine ag.Reach.ok λHw=>?_;have h5:∀b,s b\/fo b->1<=b:=λb hb=>(Hw.low b hb).1;have⟨tm,df⟩:=a;obtain rfl:df=[]:=hd;have:=YQ (ov:=lay D λj=>tm.getD j F) (z:=A) (S:=S) (b:=base f) (k:=k) (cs:=cs) (cs2:=cs2) (Q:=Q) (K:=λt d e H w'=>e=.ret/\K H.tmps w') (lets h5) (JR h5) (λit hi=>by (obtain rfl:it=.code (mJ p c):=by simpa using hi);rw[ae0];exact .inr hM) (Qu p c hS) bY ha.tidy J ⟨_,qL⟩ J (λt d=>aQ3 (xE t d) λe H w' hq=>⟨hq.1,hq⟩) (λH w' _ _ _ ⟨t,d,t',j,e,_⟩=>aQC) (λ_=>fE) (λh=>by cases h) (λ_ H w' l on Fh hd ⟨t,d,t',j,_,h⟩=>by have⟨x,df⟩:=H;obtain rfl:df=[]:=hd;exact hn x w' l on (hK _ _ _ _ h)<|.of Fh);rw[ae1]at this;exact this
end
section
set_option linter.all false
open Go.RowKit Go.Maps Go.Conc
open Twin gy
noncomputable def d10:Code:=Tryz.f10.body.getD .skip
noncomputable def zF(p:List Bool):Code:=jd p d10
noncomputable def TG:Code:=match zF [A,A,A,ah,A]with| .block _ (.loop c)=>c|_=>.skip
noncomputable def E4(p:List Bool):Code:=jd p TG
noncomputable def akn:Array Oper:=yK<|zF [A,A,A,ah,ah]
noncomputable def TJ:Array Oper:=yK<|E4 [ah,ah]
noncomputable def Ol:Array Oper:=yK<|E4 [A,ah,ah]
noncomputable def abt:Array Oper:=yK<|zF [A,A,A,A,ah]
def ata:zF [A,A,A]=.seq (.seq (.region 4 akn ah)<|.block 0<|.loop TG) (.seq (.region 13 abt ah) .ret):=KG
def atb:TG=.seq (.seq (.region 5 TJ ah)<|.cond (.tmp 23) .skip<|.exit 0) (.seq (.block 1<|.seq (.region 7 Ol ah)<|E4 [A,ah,A])<|E4 [A,A]):=KG
def x9:List Nat:=[1,21,27,29]
def afb:codeOk aj kC (mJ [A,A,A] d10)=A/\codeOk aj kC (E4 [A,ah,A])=A/\codeOk aj kC (E4 [A,A])=A/\codeOk aj kC (cutAt (.refuse "") [A,A,A] d10)=true:=aQv
def afc:ag.rW x9 (mJ [A,A,A] d10)=A/\ag.rW x9 (E4 [A,ah,A])=A/\ag.rW x9 (E4 [A,A])=A/\ag.rW x9 (cutAt (.refuse "") [A,A,A] d10)=true:=aQv
def Qi:List.range akn.size=[0]/\List.range TJ.size=[0,1,2,3]/\List.range Ol.size=[0,1,2,3,4,5,6]/\List.range abt.size=[0,1,2]:=aQv
def aIr:cO akn 0 7 (.assign<|.const<|V Z 0):=by unfold cO;kernel_rfl
def aIs:cO TJ 0 20 (.move<|.tmp 7):=by unfold cO;kernel_rfl
def aIt:cO TJ 1 21 (.move<|.tmp 1):=by unfold cO;kernel_rfl
def aIu:cO TJ 2 22 (.call {callee:=.builtin .len,args:=#[.tmp 21],argTypes:=#[26]}):=by unfold cO;kernel_rfl
def aIv:cO TJ 3 23 (.binOp .lss 3 (.tmp 20) (.tmp 22) 3):=by unfold cO;kernel_rfl
def aIw:cO Ol 0 26 (.move<|.tmp 5):=by unfold cO;kernel_rfl
def aIx:cO Ol 1 27 (.move<|.tmp 1):=by unfold cO;kernel_rfl
def aIy:cO Ol 2 28 (.move<|.tmp 7):=by unfold cO;kernel_rfl
def aIz:cO Ol 3 29 (.indexAddr 26 (.tmp 27)<|.tmp 28):=by unfold cO;kernel_rfl
def aIA:cO Ol 4 30 (.load 28<|.tmp 29):=by unfold cO;kernel_rfl
def aIB:cO Ol 5 31 (.call {callee:=.value<|.func 12,args:=#[.tmp 26,.tmp 30],argTypes:=#[29,28]}):=by unfold cO;kernel_rfl
def aIC:cO Ol 6 6 (.assign<|.tmp 31):=by unfold cO;kernel_rfl
def aID:cO abt 0 41 (.move<|.tmp 5):=by unfold cO;kernel_rfl
def aIE:cO abt 1 42 (.call {callee:=.value<|.func 14,args:=#[.tmp 41],argTypes:=#[29]}):=by unfold cO;kernel_rfl
def aIF:cO abt 2 4 (.assign<|.tmp 42):=by unfold cO;kernel_rfl
def atc:List.range 43=[0,1,2,3,4,5,6,7,8,9,10,11,12,13,14,15,16,17,18,19,20,21,22,23,24,25,26,27,28,29,30,31,32,33,34,35,36,37,38,39,40,41,42]:=KG
structure tN(v1:ai)(wb i:Nat)(a:Array ai):Prop where
 sz:a.size=43
 a1:a.getD 1 F=v1
 a5:a.getD 5 F=ak (Y ⟨wb,0,U⟩)
 a7:a.getD 7 F=V Z i
variable{v1 i}
def tN.put{wb j a H v}(T:tN v1 wb i a.tmps)(q:qi a j v H)(h:j≠1/\j≠5/\j≠7):tN v1 wb i H.tmps:=⟨q.sz.t T.sz,(q.ne 1 h.1).t T.a1,(q.ne 5 h.2.1).t T.a5,(q.ne 7 h.2.2).t T.a7⟩
def tN.tidy{wb t}(T:tN v1 wb i t):tN F wb i (tidy x9 t):=⟨JS.t T.sz,LI J (by rw[T.sz];decide),(xw J).t T.a5,(xw J).t T.a7⟩
def tN.lay{wb f x}(T:tN F wb i x)(h:f 1=v1):tN v1 wb i (ag.jW (lay x9 f) x):=⟨JS.t T.sz,(LI J (by rw[T.sz];decide)).t h,(xw J).t T.a5,(xw J).t T.a7⟩
structure S10(w:ae)(x:Array ai)(w':ae):Prop where
 ex:∃wb,(x.size=43/\x.getD 5 F=ak (Y ⟨wb,0,U⟩))/\(∃xb yb bb h y o,fJ w' (M (R w)+1) wb xb yb bb 0 0 h y o)/\Fr aB w w'
section
variable{w0 w w1 w' W wb xb yb bb h y o a}
variable{K}
def aIG{p q:Nat}{T}(hg:Good p q T K)(w):(mJ [A,A,A] d10).wp aj (λe x w'=>e=.ret/\S10 w x.tmps w') ⟨#[gU p q T K,F]++iD (Tryz.f10.ntmps-2) F,[]⟩ w:=by
 have HG:=aQe hg;have ZW:I (∃w0,w0=bH w (aC #[p,q,T,K] 23)):=⟨_,J⟩;clear hg;unfold gU;simp only[ntmps10,F7,Cc,EF,Nat.reduceAdd,Nat.reduceSub,OM,OL,OV,OO,zy,qV];refine aj6 λQ0 TA=>?_;simp only[d10,Tryz.f10,iT,mJ,Ff,if_true,jX,kG];rw[<-TA];go_wp2_with fail;have⟨w0,H⟩:=ZW;rw[<-H];have F0:I (Fr aB w w0):=by subst H;exact aQ _
 have S0:I (w0=M (R w)+1):=Y0
 clear ZW H;apply(show aH aj 11 #[gU p q T K] _ _ from aeS _ HG).z;rintro e w1 ⟨wb,xb,yb,bb,hs,y,o,rfl,hb⟩;have aPX:I ((∃xb yb bb h y o,fJ w1 (w+1) wb xb yb bb 0 0 h y o)/\Fr aB w w1):=⟨⟨xb,yb,bb,hs,y,o,S0▸hb.xx⟩,F0.t hb.fr Zv⟩;clear hb;unfold ptr;go_wp2_with fail;exact⟨wb,⟨J,J⟩,aPX⟩
def aIH{P Q T}(hg:¬Good P Q T K)(w):(cutAt (.refuse "") [A,A,A] d10).wp aj (λe x w'=>e=.ret/\x.tmps.getD 4 F=A/\Fr aB w w') ⟨#[gU P Q T K,F]++iD (Tryz.f10.ntmps-2) F,[]⟩ w:=by have HG:=aQe hg;clear hg;unfold gU;simp only[ntmps10,F7,Cc,EF,Nat.reduceAdd,Nat.reduceSub,OM,OL,OV,OO,zy,qV];have⟨Q0,H⟩:∃Q0:Exit->Act->ae->Prop,(λe x w'=>e=.ret/\x.tmps.getD 4 F=aA A/\Fr aB w w')=Q0:=⟨_,J⟩;rw[H];simp only[d10,Tryz.f10,iT,cutAt,if_true,jX,kG];rw[<-H];clear H;go_wp2_with fail;apply(show aH _ 11 _ _ _ from ar7 _ HG).z;rintro e w1 ⟨rfl,aI⟩;have F1:=aQe<|(aQ _).t aI Zv;clear aI;go_wp2_with fail;exact F1
def aII(T:tN v1 wb i a)(a6:a.getD 6 F=A)(c2:W (wb,2)=Y (ak<|Y ⟨bb,0,U⟩))(H:I (aH aj 13 #[ak bb] W λe w'=>e=A/\Fr aB W w')):(E4 [A,ah,A]).wp aj (λe x w'=>e=.normal/\tN v1 wb i x.tmps/\Fr aB W w') ⟨a,[]⟩ W:=by have⟨sz,a1,a5,a7⟩:=T;have⟨Q0,iw⟩:∃Q0:Exit->Act->ae->Prop,(λe x w'=>e=.normal/\tN v1 wb i x.tmps/\Fr aB W w')=Q0:=⟨_,J⟩;rw[iw,Df a,sz,atc];simp only[uj,uA,a1,a5,a6,a7];simp only[E4,TG,zF,jd,d10,Tryz.f10,iT,if_true,jX,kG];rw[<-iw];go_wp2_with fail;apply H.z;rintro e w1 ⟨rfl,aI⟩;have F1:=aQe aI;clear aI H;go_wp2;exact⟨⟨J,J,J,J⟩,F1⟩
def aIJ(T:tN v1 wb i a)(hi:i<=1000000):(E4 [A,A]).wp aj (λe x w'=>e=.normal/\tN v1 wb (i+1) x.tmps/\w'.heap=W.heap) ⟨a,[]⟩ W:=by have⟨sz,a1,a5,a7⟩:=T;have⟨H,iw⟩:∃H:Exit->Act->ae->Prop,(λe x w'=>e=.normal/\tN v1 wb (i+1) x.tmps/\w'.heap=W.heap)=H:=⟨_,J⟩;rw[iw,Df a,sz,atc];simp only[uj,uA,a1,a5,a7];simp only[E4,TG,zF,jd,d10,Tryz.f10,iT,if_true,jX,kG];rw[<-iw];go_wp2;exact⟨J,J,J,J⟩
end
end
section
set_option linter.all false
open Go.RowKit Go.Maps Go.Conc
open Twin gy
structure D10(fo s:Nat->Prop)(B wb xb yb bb:Nat)(w0:ae)(v1:ai)(i:Nat)(a:Act)(w:ae):Prop where
 T:tN v1 wb i a.tmps
 df:a.defers=[]
 ok:nU x9 ((bz fo s).cut (M (R w))) a.tmps
 g:nV fo (λ_=>False) (λk=>M (R w0)<=k) w0 s w B wb xb yb bb (308*i) (2*i)
section
variable{fo s:Nat->Prop}{B wb xb yb bb:Nat}{w0 w:ae}{ao:Option Addr}{cap:Nat}{l:List BJ}{rest:List Item}{cs cs2:List bK}{Q:dE->bK->ae->Prop}{a:Act}{i n d e0:Nat}{p:Op}{v:ai}{ops:Array fA}{rst:List Nat}{f0:jK}
def cO.ev(z:cO ops i d p)(hr:∀o W,o.op=p->(eG a.eval o).run aj W=.ok (.value v) W/\(eG a.eval o).events aj W #[]=#[]) (hn:∀H e,qi a d v H->ag.Reach (bz fo s) aj ((base f0).at H<|dm ops rst::rest) cs (w.at e) Q cs2):ag.Reach (bz fo s) aj ((base f0).at a<|dm ops (i::rst)::rest) cs (w.at e0) Q cs2:=have⟨o,h1,h2,h3,h4⟩:=z.ex;abh h1 h2 h3 (λe=>aQC) Zv Zv λH e q=>hn H e q
def atg(T:tN (.slice ao n cap) wb i a.tmps)(ok:nU x9 ((bz fo s).cut w) a.tmps)(hd:a.defers=[]) (hn:∀H e,tN (.slice ao n cap) wb i H.tmps->H.tmps.getD 23 F=aA (decide<|i<n)->nU x9 ((bz fo s).cut w) H.tmps->H.defers=[]->ag.Reach (bz fo s) aj ((base 10).at H rest) cs (w.at e) Q cs2):ag.Reach (bz fo s) aj ((base 10).at a<|.code (.region 5 TJ ah)::rest) cs (w.at e0) Q cs2:=by refine yZ λd1=>?_;refine aIs.mv (.inl J) T.a7 λa2 e2 p2=>?_;have T2:=T.put p2 Xa;refine aIt.mv (.inl J) T2.a1 λa3 e3 p3=>?_;have T3:=T2.put p3 Xa;have h21:a3.eval (.tmp 21)=.slice ao n _:=p3.at_ (by rw[T2.sz];decide);refine aIu.ev (λo W ho=>asY h21 ho) λa4 e4 p4=>?_;have T4:=T3.put p4 Xa;have Ua:a4.eval (.tmp 20)=i:=(p4.ne 20 Xa).t (by grind[qi.ne,qi.at_,cases tN]);have h22:a4.eval (.tmp 22)=.int _ n:=p4.at_ (by rw[T3.sz];decide);refine aIv.ev (λo W ho=>asZ Ua h22 ho) λa5 e5 p5=>?_;refine JL λd2=>?_;exact hn a5 d2 (T4.put p5 Xa) (p5.at_ (by rw[T4.sz];decide)) ((((ok.put p2<|.inr .int).put p3<|.inl J).put p4<|.inr .int).put p5<|.inr .bool)<|p5.df.t<|p4.df.t<|p3.df.t<|p2.df.t hd
def aIK(hl:IK w0 ao l)(hs:∀x∈l,x.s.size<=2^47)(hlen:O l<=200000)(yO:∀s a w,D10 fo s B wb xb yb bb w0 (.slice ao l cap) l a w->ag.Reach (bz fo s) aj ((base 10).at a rest) cs w Q cs2):∀m i s a w,i+m=O l->D10 fo s B wb xb yb bb w0 (.slice ao l cap) i a w->ag.Reach (bz fo s) aj ((base 10).at a<|.code TG:: .inLoop TG:: .inBlock 0::rest) cs w Q cs2:=by intro m;induction m with|zero=>intro i s a w hi aPX;(obtain rfl:i=O l:=YV);rw[atb];refine kz λd1=>kz λd2=>?_;refine atg (w:=w) (e0:=d2) aPX.T aPX.ok aPX.df λa2 d3 T2 Uu BV Uh=>?_;rw[jr YV]at Uu;refine jM (λ_=>aQZ (t:=ah) Uu) λd4=>?_;rw[if_neg Xa];refine jM (λ_=>aRA J) λd5=>?_;exact yO s a2 _ ⟨T2,Uh,BV,aPX.g.at d5⟩|succ m ih=>intro i s a w hi aPX;(have AU:i<O l:=YV);have⟨x,hx⟩:∃x,l[i]? =Y x:=Y0;obtain⟨⟨sb,so,rfl,Yg,dR⟩,ip,iq,im⟩:=hl i x hx;have AA:=hs x<|iO hx;rw[atb];refine kz λd1=>kz λd2=>?_;refine atg (w:=w) (e0:=d2) aPX.T aPX.ok aPX.df λa2 d3 T2 Uu BV Uh=>?_;rw[iC AU]at Uu;refine jM (λ_=>aQZ (t:=A) Uu) λd4=>?_;rw[if_pos rfl];refine jM (λ_=>aQ2) λd5=>?_;refine kz λd6=>?_;refine jM (λ_=>aQ6) λd7=>?_;refine kz λd8=>?_;refine yZ λd9=>?_;rw[Qi.2.2.1];have⟨c0,c1,c2,c3,c4,c5⟩:=BJ.aW dR aPX.g.eU (fC _) Yg;(have AQ:¬s sb:=λz=>by have:w0<=sb:=aPX.g.hZ sb<|.inl z;omega);have LX:sb<w:=gZ Yg aPX.g.eU.size;have v5:aK ((bz fo s).cut w) (ak wb):=Fg aPX.g.hw aPX.g.lt;refine aIw.mv (w:=w) (e0:=d9) (.inl J) T2.a5 λa3 e3 p3=>?_;have GU:=BV.put p3<|.inr v5;have T3:=T2.put p3 Xa;refine aIx.mv (w:=w) (.inl J) T3.a1 λa4 e4 p4=>?_;have LM:=GU.put p4<|.inl J;have T4:=T3.put p4 Xa;refine aIy.mv (w:=w) (.inl J) T4.a7 λa5 e5 p5=>?_;have y8:=LM.put p5<|.inr .int;have T5:=T4.put p5 Xa;have h27:a5.eval (.tmp 27)=aP (Y (sb,so)) (O l) cap:=(p5.ne 27 Xa).t (p4.at_ (by rw[T3.sz];decide));have h28:a5.eval (.tmp 28)=i:=p5.at_ (by rw[T4.sz];decide);refine aIz.ev (w:=w) (v:=ak<|Y (sb,so+i*6)) (λo W ho=>⟨asT h27 h28 AU ho,asW h27 h28 AU ho⟩) λa6 e6 p6=>?_;have Oj:=y8.put p6<|.inl J;have T6:=T5.put p6 Xa;have h29:a6.eval (.tmp 29)=ak (Y (sb,so+i*6)):=p6.at_ (by rw[T5.sz];decide);have⟨oe,oe1,oe2,oe3,Qz⟩:=aIA.ex;refine abh (w:=w.at e6) (v:=kV x.k x.p x.q x.m x.s x.c) oe1 oe2 oe3 (λe=>aQC) (λd=>asU (x:=.tmp 29) h29 c0 c1 c2 c3 c4 c5 Qz) (λd e he=>by obtain⟨n,rfl⟩:=asV (x:=.tmp 29) (W:=(w.at e6).at d) h29 c0 c1 c2 c3 c4 c5 Qz e he;exact rdL LX AQ) λa7 e7 p7=>?_;have Qy:=Oj.put p7<|.inr<|Oe _ _ _ _ _ _;have T7:=T6.put p7 Xa;refine aIB.site (w:=w) (e0:=e7) aIC func12 J J (vs:=#[ptr wb,kV x.k x.p x.q x.m x.s x.c]) (post:=λB' v w'=>v=A/\Aw fo s (λk=>w0<=k) w w' B wb xb yb bb (308*i+308) (2*i+2) B') ?_ (by rw[T7.sz];decide) (λe=>((aPX.g.at e).act YV YV x.k x.p x.q x.m ip iq im AA x.c).z λB' v w' h=>⟨h.1,h.2.at⟩) (λB' v w' h=>h.2.bz) ?_;{have e1:a7.eval (.tmp 26)=ptr wb:=(p7.ne 26 Xa).t ((p6.ne 26 Xa).t<|(p5.ne 26 Xa).t<|(p4.ne 26 Xa).t<|p3.at_ (by rw[T2.sz];decide));have e2:a7.eval (.tmp 30)=kV x.k x.p x.q x.m x.s x.c:=p7.at_ (by rw[T6.sz];decide);simp[e1,e2]};rintro B' v w3 a9 e9 ⟨rfl,hg⟩ q9;obtain⟨s',rfl,gr,g3⟩:=aPX.g.step hg;have⟨h3,y3,o3,gm3,i3⟩:=g3.xx;have T9:tN (aP (Y (sb,so)) (O l) cap) wb i a9.tmps:=⟨q9.sz.t T7.sz,(by grind[cases LJ,tN.a1]),(by grind[cases LJ,tN.a5]),(by grind[cases LJ,tN.a7])⟩;have h6:a9.tmps.getD 6 F=true:=q9.at_ (by rw[T7.sz];decide);have ok9:nU x9 ((bz fo s').cut w3) a9.tmps:=(q9.okX _ _ Qy .bool).z λv hv=>Og gr hg.eU.size hv;have df9:a9.defers=[]:=q9.df.t<|p7.df.t<|p6.df.t<|p5.df.t<|p4.df.t<|p3.df.t Uh;have⟨_,_,cc2⟩:=gm3.iK.cells;refine abj (D:=x9) (w:=w3.at e9) (K:=λx w'=>tN F wb i x/\∃t d t' d',Fr aB (re w3 t d)<|re w' t' d') Y0 func10 afb.2.1 afc.2.1 ok9 df9 (λt d=>aQ3 (aII T9.tidy ((xw J).t h6) cc2<|(gm3.re t d).iK.looks YV) λe x w' hq=>⟨hq.1,hq.2.1,t,d,w'.tape,w'.drawn,hq.2.2⟩) λx10 w4 BI hK ath=>?_;have⟨H,t,d,t',d',f4⟩:=hK;replace H:=H.lay (f:=λj=>a9.tmps.getD j F) T9.a1;have g4:=g3.res (t:=t) (d:=d) (t':=t') (d':=d') ⟨BI.tape,BI.size,BI.os,BI.output⟩<|(gm3.re t d).ae5 i3 (fC _) (fC _) f4;refine jM (λ_=>aRj) λaIO=>?_;generalize ag.jW (lay x9 λj=>a9.tmps.getD j F) x10=y10 at H ath⊢;refine abj (D:=x9) (w:=w4.at aIO) (K:=λx w'=>tN F wb (i+1) x/\w'.heap=w4.heap) (λ_ _ _ _ h=>h) func10 afb.2.2.1 afc.2.2.1 ath J (λt d=>aQ3 (aIJ H.tidy YV) λe x w' hq=>⟨hq.1,hq.2⟩) λx11 w5 zQ hK aIP=>?_;refine jM (λ_=>aRt) λd11=>?_;exact ih (i+1) s' _ _ YV ⟨hK.1.lay H.a1,J,aIP,((g4.same ⟨zQ.tape,zQ.size,zQ.os,zQ.output⟩ hK.2).at d11).z YV YV⟩
def ati{D f fn X8 c}{K:Array ai->ae->Prop}(hK:∀x w t d,K x (re w t d)->K x w)(qL:prog.funcs[f]? =Y fn)(bY:codeOk aj kC (cutAt (.refuse "") X8 c)=A)(hM:ag.rW D (cutAt (.refuse "") X8 c)=A)(ha:nU D ((bz fo s).cut w.heap.size) a.tmps)(hd:a.defers=[])
 (xE:∀t d,(cutAt (.refuse "") X8 c).wp aj (λe x w'=>e=.ret/\K x.tmps w') ⟨tidy D a.tmps,[]⟩<|re w t d)
 (hn:∀x w1 H,On w w1->K x w1->ag.Reach (bz fo s) aj {(base f).at ⟨ag.jW (lay D λj=>a.tmps.getD j F) x,[]⟩ H with mode:=.returning} cs w1 Q cs2):
 ag.Reach (bz fo s) aj ((base f).at a<|.code c::rest) cs w Q cs2:=by
 refine ag.Reach.ok λHw=>?_;have h5:=λb hb=>(Hw.low b hb).1;have⟨tm,df⟩:=a;obtain rfl:df=[]:=hd;have:=YQ (b:=base f) (k:=rest) (K:=λt d e a' w'=>e=.ret/\K a'.tmps w') (lets h5) (JR h5) (λit hi=>by
  obtain rfl:it=.code (cutAt (.refuse "") X8 c):=Zv
  rw[ae0];exact .inr hM) (agS _ c) bY ha.tidy J ⟨_,qL⟩ J (λt d=>aQ3 (xE t d) Zv)
  (λa' w' on Fh hd ⟨t,d,t',j,e,_⟩=>aQC) Zv (λ_ a' w' H on Fh hd ⟨t,d,t',j,_,h⟩=>by
    have⟨x,df⟩:=a';obtain rfl:df=[]:=hd;exact hn x w' _ on<|hK _ _ _ _ h) (λh=>absurd J h)
 rw[ae1]at this;omega
end
def aIQ{fo w P Q T K ao cap l}(hl:IK w ao l)(hs:∀x∈l,x.s.size<=2^47)(hlen:O l<=200000):xQ (bz fo λ_=>False) aj 10 #[gU P Q T K,.slice ao l cap] w (λB' v w'=>v=A/\(∃s',B'=bz fo s')/\Fr (λk=>w<=k) w w'):=by intro c cs;refine ag.Reach.ok λbY=>?_;rw[enter_at (c:=d10) _ func10 rfl];have⟨H,hA,Ez,Dx,OG⟩:∃H,#[gU P Q T K,.slice ao (O l) cap]++iD (Tryz.f10.ntmps- #[gU P Q T K,.slice ao (O l) cap].size) F=H/\H.getD 1 F=.slice ao (O l) cap/\tidy x9 H=#[gU P Q T K,F]++iD (Tryz.f10.ntmps-2) F/\∀B,nU x9 B H:=⟨_,J,as6,asv ⟨J,J⟩,λ_=>as7 J⟩;rw[hA];by_cases hg:Good P Q T K;rotate_left;{apply ati (D:=x9) (X8:=[A,A,A]) (K:=λx w'=>x.getD 4 F=A/\∃t d t' d',Fr aB (re w t d)<|re w' t' d') Y0 func10 afb.2.2.2 afc.2.2.2 (OG _) J (λt d=>by rw[Dx];exact aQ3 (aIH hg _) λe x w' hq=>⟨hq.1,hq.2.1,t,d,w'.tape,w'.drawn,hq.2.2⟩);rintro x w1 todo on ⟨rU,t,d,t',d',f⟩;refine jM (λw=>aRZ (v:=A) J J func10 (by rw[<-rU,<-xw (D:=x9) (i:=4) rfl];exact aRm J _ _ _) KG) λd9=>?_;exact ag.Reach.here λ_=>⟨_,J,J,⟨_,J⟩,on.os,on.tape,on.output,on.size,λb hb _=>f.block b hb id⟩};obtain⟨p,rfl⟩:=lW (show 0<=P by have:=hg.1.1;omega);obtain⟨q,rfl⟩:=lW (show 0<=Q by have:=hg.2.1.1;omega);apply as9 (D:=x9) (p:=[A,A,A]) (S:=zF [A,A,A]) (K:=λx w'=>∃t d t' d',S10 (re w t d) x<|re w' t' d') Y0 func10 J (by rw[ata];grind) afb.1 afc.1 (OG _) J (λt d=>by rw[Dx];exact aQ3 (aIG hg _) λe x w' hq=>⟨hq.1,t,d,w'.tape,w'.drawn,hq.2⟩);rintro x1 w1 l1 sQ ⟨t,d,t',d',hS⟩ JM;have⟨wb,⟨sz,g5⟩,⟨xb,yb,bb,h,y,o,gm⟩,f1⟩:=hS.ex;have xP:Fr aB w w1:=⟨sQ.os,sQ.tape,sQ.output,sQ.size,λb hb h=>f1.block b hb h⟩;replace gm:fJ w1 (w+1) wb xb yb bb 0 0 h y o:=gm.same (w1:=w1) J;have g1:=(LI (D:=x9) (f:=λj=>H.getD j F) (t:=x1) (i:=1) J YV).t Ez;replace sz:=(JS (ov:=lay x9 λj=>H.getD j F)).t sz;replace g5:=(xw (D:=x9) (f:=λj=>H.getD j F) J).t g5;generalize ag.jW (lay x9 λj=>H.getD j F) x1=a1 at sz g1 g5 JM⊢;have hwb:=gm.iK.fB wb<|.inl J;(have hw:¬((λ_:Nat=>False) wb\/fo wb):=λz=>z.e id λz=>by have:=(bY.low wb<|.inr z).2;omega);have G1:nV fo (λ_=>False) (λk=>w<=k) w (λ_=>False) w1 (w+1) wb xb yb bb 0 0:=⟨⟨h,y,o,gm,λk hk=>Nat.le_of_succ_le<|hk.e (gm.iK.fB k) λa=>(gm.iK.book.Pj a).2⟩,hw,Zv,λ_=>.inl,xP.z Zv⟩;rw[ata];refine kz λd1=>kz λd2=>yZ λd3=>?_;rw[Qi.1];refine aIr.ev (w:=w1) (e0:=d3) (v:=V Z 0) (by grind[asR,asX]) λa2 e2 p2=>?_;refine JL λd4=>?_;refine jM (λ_=>aQ6) λd5=>jM (λ_=>aRz) λd6=>?_;refine aIK (B:=w+1) (wb:=wb) (xb:=xb) (yb:=yb) (bb:=bb) (w0:=w) hl hs hlen ?_ (O l) 0 (λ_=>False) a2 _ YV ⟨⟨p2.sz.t sz,(p2.ne 1 Xa).t g1,(p2.ne 5 Xa).t g5,(by grind[qi.at_])⟩,p2.df,JM.put p2<|.inr .int,G1.at d6⟩;intro s2 a3 w3 aPX;refine kz λd7=>yZ λd8=>?_;rw[Qi.2.2.2];refine aID.mv (w:=w3) (e0:=d8) (.inl J) aPX.T.a5 λa4 e4 p4=>?_;have T4:=aPX.T.put p4 Xa;refine aIE.site (w:=w3) aIF func14 J J (vs:=#[ptr wb]) (post:=λB' v w'=>v=A/\(∃s',B'=bz fo s')/\Fr (λk=>w<=k) w3 w') ?_ (by rw[T4.sz];decide) (λe=>(akl (aPX.g.at e) YV YV).z λB' v w' ⟨h1,h2,h3⟩=>⟨h1,Zv,h3.os,h3.tape,h3.output,h3.size,h3.block⟩) Zv ?_;{have e1:a4.eval (.tmp 41)=ptr wb:=p4.at_ (by rw[aPX.T.sz];decide);simp[e1]};rintro B' v w5 a5 e5 ⟨rfl,⟨s',rfl⟩,f5⟩ q5;have h4:=q5.at_ (by rw[T4.sz];decide);refine jM (λ_=>step_ret) λd9=>?_;refine jM (λw=>aRZ (v:=A) J (q5.df.t<|p4.df.t aPX.df) func10 (by rw[<-h4];exact aRm J _ _ _) KG) λd10=>?_;have f6:=aPX.g.eU.t f5 λ_=>.inl;exact ag.Reach.here λ_=>⟨_,J,J,⟨_,J⟩,f6.os,f6.tape,f6.output,f6.size,f6.block⟩
end
section
open Go.ChangeShapes Go.WideShapes Go.ChangeAt Go.RowKit
def atj:ownKnob prog.godebug=none:=KG
def atl:prog.cellsOf 28=6:=KG
def aIR:prog.cellsOf 9=1:=KG
def aIS:prog.cellsOf 4=1:=KG
variable{H}
def akp{enc w spare held n cs}{x:DataW H×List MemPlace}(h:DataW.trod enc aj w 0 spare held n 23 cs=Y x):∃P Q T K,cs=[V Z P,V Z Q,V Z T,V Z K]/\fF P/\fF Q/\fF T/\fF K:=by have⟨xs,m,_,_,hl,hx,hf⟩:=DataW.trod_struct underlying23 h;match cs,hl with|[c0,c1,c2,c3],_=>have f0:DataW.trod _ _ w 0 _ _ m 3 (([c0,c1,c2,c3].drop 0).take<|prog.cellsOf 3)=xs[0]? :=hf 0 _ J;have f1:DataW.trod _ _ w 0 _ _ m 3 (([c0,c1,c2,c3].drop 1).take<|prog.cellsOf 3)=xs[1]? :=hf 1 _ J;have f2:DataW.trod _ _ w 0 _ _ m 3 (([c0,c1,c2,c3].drop 2).take<|prog.cellsOf 3)=xs[2]? :=hf 2 _ J;have f3:DataW.trod _ _ w 0 _ _ m 3 (([c0,c1,c2,c3].drop 3).take<|prog.cellsOf 3)=xs[3]? :=hf 3 _ J;match xs,hx with|[x0,x1,x2,x3],_=>simp only[ag0,List.drop_zero,au8,List.take_succ_cons,al1,Q9,Rf]at f0 f1 f2 f3;have⟨a0,e0,_,w0⟩:=aRl underlying3 f0;have⟨a1,e1,_,w1⟩:=aRl underlying3 f1;have⟨a2,e2,_,w2⟩:=aRl underlying3 f2;have⟨a3,e3,_,w3⟩:=aRl underlying3 f3;simp at e0 e1 e2 e3;subst e0 e1 e2 e3;exact⟨a0,a1,a2,a3,J,w0,w1,w2,w3⟩
def abz(d:DataW H):1<=Rows.uptoBulk d:=by cases d with|lit l=>cases l<;>simp[Rows.uptoBulk]|_=>simp[Rows.uptoBulk]
def atm:∀l m:List (DataW H),Rows.uptoBulkAll (l++m)=Rows.uptoBulkAll l+Rows.uptoBulkAll m|[],m=>(by simp[Rows.uptoBulkAll])|x::r,m=>by rw[qV];simp only[Rows.uptoBulkAll,atm r m];omega
def atn{α:Type}{p:Nat->α->Prop}:∀(n:Nat),(∀i,i<n->∃x,p i x)->∃l:List α,O l=n/\∀(i:Nat) x,l[i]? =Y x->p i x|0,_=>Y0|n+1,h=>by have⟨l,hl,hp⟩:=atn n (λi hi=>h i YV);have⟨x,hx⟩:=h n YV;refine⟨l++[x],by simp[hl],λi y hy=>?_⟩;grind
def ato{D:Nat->DataW H}:∀n:Nat,(∀i,i<n->7<=Rows.uptoBulk (D i))->7*n<=Rows.uptoBulkAll ((List.range n).map D)|0,_=>jQ _|n+1,h=>by have h1:=ato n λi hi=>h i YV;have h2:=h n YV;rw[Yz,acM,atm];simp only[uj,uA,Rows.uptoBulkAll];omega
end
section
open Go.ChangeShapes Go.WideShapes Go.ChangeAt Go.RowKit
def was(n:Nat):Nat->Prop:=λb=>b=1\/(5<=b/\b<n)
def aIT:(begin aj (λ_ _=>0) default).world.heap.size=5:=KG
def aIU:(begin aj (λ_ _=>0) default).world.heap[0]? =Y (.cells ((Array.range prog.types.size).map λt=>.int .u64<|Int.ofNat t) 0):=KG
def aIV:(begin aj (λ_ _=>0) default).world.heap[2]? =Y (.finalizers #[] U):=KG
def aIW:(begin aj (λ_ _=>0) default).world.heap[3]? =aC #[ah] 0:=KG
def aIX:(begin aj (λ_ _=>0) default).world.heap[4]? =Y (.finalizers #[] U):=KG
def gsz:prog.globals.size=0:=KG
def atr{o:Obj}(h:o.alike (.finalizers #[] U)):∃a b,o=.finalizers a b:=by cases o with|finalizers a b=>exact⟨a,b,J⟩|_=>cases h
def att{w}(h:w.ShapedOpen aj):pz (bz (was (M (R w))) λ_=>False) w:=by
 have hk:∀k,k<5->∃o o₀,w.heap[k]? =Y o/\(begin aj (λ_ _=>0) default).world.heap[k]? =Y o₀/\(if World.looseAt k=A then o.alike o₀ else o=o₀):=λk hk=>by have:=h.2 k (by rw[gsz];exact jQ _) (by rw[aIT];exact hk);rw[gsz]at this;exact this
 have h5:5<=M (R w):=have⟨o,_,ho,_⟩:=hk 4 Xa;(uZ.1 ho).1
 refine⟨λb o H ho=>?_,λb H=>?_,h5⟩;{have aO:=(uZ.1 ho).1;have nH:¬was w b:=λz=>H<|.inl<|.inr z;have h4:b<5:=Nat.lt_of_not_le λz=>nH<|.inr ⟨z,aO⟩;have h1:b≠1:=λz=>nH<|.inl z;have⟨o',o₀,e1,e2,e3⟩:=hk b h4;rw[ho]at e1;cases e1;match b,h4,h1 with|0,_,_=>rw[aIU]at e2;cases e2;have e:o=_:=e3;subst e;intro v hv;obtain⟨t,_,rfl⟩:=Array.mem_map.1 hv;exact .int|2,_,_=>rw[aIV]at e2;cases e2;obtain⟨_,_,rfl⟩:=atr e3;trivial|3,_,_=>rw[aIW]at e2;cases e2;have e:o=_:=e3;subst e;intro v hv;simp at hv;subst hv;exact .bool|4,_,_=>rw[aIX]at e2;cases e2;obtain⟨_,_,rfl⟩:=atr e3;trivial};rcases H with H|H|H;{exact H.e};{subst H;exact⟨fC _,YV⟩};exact⟨YV,H.2⟩
def atu{p s c}(f fn) (hn:c.program=p.name)(hs:c.sum=p.sum)(nY:c.spec=s.name) (hstart:c.start=.entering)(nZ:c.outside=[])(iy:c.inits=[])(Uj:c.under=U)(hi4:c.initsInPlace=[]/\c.initsUnfollowed=ah/\c.initsRecurse=ah/\c.initsNamed=[]/\c.initsPassed=[])(TV:c.noBlocks=ah)(Oo:c.leaving=A)(IQ:c.followed=U)(aLv:c.narrowed=s.cond.isSome)(Yr:c.still=ah) (qL:p.checked.prog.funcNamed c.func=Y f)(hf:p.checked.prog.funcs[f]? =Y fn) (closed:joinedFacts p.checked.prog f fn s.bare c=A) (aLw:fn.isInstance p.checked.prog c.origin c.targs)(aLx:fn.isWrapper p.checked.prog c.wrapper c.mainSum) (h:∀os:Os,os.Started->∀(H:Type) (enc:dB×ai->H),(∀a b,enc a=enc b->a=b)->∀aPT:Stop.Interp,ReturnsInLeavingWide c.assume p.checked os f .any (c.pre enc p.checked.prog fn s) ((s.at aPT).post enc p.checked.prog fn c.apart c.fresh c.handsOn c.again)):c.holds p s:=by
 simp only[joinedFacts,pq,beq_iff_eq,Array.all_eq_true_iff_forall_mem,af4,OU]at closed;have⟨⟨⟨⟨⟨⟨⟨⟨⟨⟨⟨⟨⟨⟨⟨⟨⟨⟨⟨⟨⟨⟨⟨⟨⟨⟨⟨⟨⟨⟨⟨k1,k2⟩,k3⟩,k4⟩,k5⟩,k6⟩,k7⟩,k8⟩,k9⟩,k10⟩,k11⟩,k12⟩,k13⟩,k14⟩,k15⟩,k16⟩,k17⟩,aLF⟩,k18⟩,k19⟩,k20⟩,k21⟩,k22⟩,k23⟩,aLK⟩,k24⟩,aLL⟩,aLM⟩,k25⟩,k26⟩,k27⟩,k28⟩:=closed;have hq:∀os,Stop.quiet p.checked.prog os:=λos k hk=>by rw[k9]at hk;cases hk
 refine⟨k1,hn,hs,nY,k2,k3,by unfold OpenClaim.startFits;rw[hstart];exact k24,by unfold OpenClaim.startTold;rw[hstart];exact⟨iy,Uj,hi4⟩,f,fn,qL,hf,⟨k4,k19⟩,(λhb=>by rw[TV]at hb;cases hb),by unfold OpenClaim.namedList;rw[IQ];exact k5,aLw,aLx,k6.t k7.s,⟨k8.t k9.s,by unfold Program.envWorded;rw[k9];rfl,aLK⟩,k10,k11,k12,k13,k14,⟨k15,k27,k28⟩,⟨k16,k20⟩,⟨k17,k21,k25,k26⟩,⟨k22,aLL,aLM,aLF⟩,(by rw[nZ,aLv];cases FP:c.shortTexts with|none=>simp|some _=>rw[FP]at k23;cases k23),λn Uw=>varReadable_some<|k18 n Uw,⟨_,by unfold OpenClaim.world;rw[nZ,hstart];exact WideRow.started_initial,hq _⟩,[],by unfold OpenClaim.lists;rw[IQ],λos st _ H enc inj=>?_⟩;have st':os.Started:=by unfold OpenClaim.world at st;rw[nZ,hstart]at st;exact st
 rw[OpenClaim.post_not_still Yr];unfold OpenClaim.form;rw[hstart,k6];intro aPT;have e1:c.okInput=Input.okWide:=by unfold OpenClaim.okInput;rw[TV]
 have e2:c.atReturn p.checked.prog=leavingAtReturn p.checked.prog:=by unfold OpenClaim.atReturn;rw[Oo]
 have e3:c.always p.checked.prog []=nothingAlways:=by unfold OpenClaim.always;rw[IQ]
 have e4:s.post enc p.checked.prog fn aPT c.outside c.apart c.fresh c.handsOn c.again=(s.at aPT).post enc p.checked.prog fn c.apart c.fresh c.handsOn c.again:=by rw[nZ];rfl
 rw[e1,e2,e3];show ReturnsInOpen _ _ _ _ _ _ _ _ (s.post enc p.checked.prog fn aPT c.outside c.apart c.fresh c.handsOn c.again) _ _;rw[e4];exact h os st' H enc inj aPT k24
end
section
set_option linter.all false
open Go.ChangeShapes Go.WideShapes Go.ChangeAt Go.RowKit Go.Conc Go.Maps
open Twin gy
noncomputable def d5:Code:=Tryz.f5.body.getD .skip
noncomputable def abA:Code:=jd [ah] d5
noncomputable def z5:Array Oper:=yK<|jd [A,ah] d5
def aIY:d5=.seq abA (.seq (.region 1 z5 ah) .ret):=KG
def QA:List Nat:=[1,6]
def y8:codeOk aj kC abA=A/\ag.rW QA abA=A/\List.range z5.size=[0,1,2,3]:=aQv
def aIZ:cO z5 0 5 (.load 23<|.tmp 2):=by unfold cO;kernel_rfl
def aI0:cO z5 1 6 (.move<|.tmp 1):=by unfold cO;kernel_rfl
def aI1:cO z5 2 7 (.call {callee:=.value<|.func 10,args:=#[.tmp 5,.tmp 6],argTypes:=#[23,26]}):=by unfold cO;kernel_rfl
def aI2:cO z5 3 4 (.assign<|.tmp 7):=by unfold cO;kernel_rfl
def aI3(W p q t k):abA.wp aj (λe x w'=>e=.normal/\(x.tmps.size=8/\x.tmps.getD 2 F=ak (M (R W)))/\w'.heap[M (R W)]? =aC #[V Z p,V Z q,V Z t,V Z k] 23 (0,0)/\Fr aB W w') ⟨#[gU p q t k,F]++iD (Tryz.f5.ntmps-2) F,[]⟩ W:=by unfold gU;have⟨H,iw⟩:∃H:Exit->Act->ae->Prop,(λe x w'=>e=.normal/\(x.tmps.size=8/\x.tmps.getD 2 F=ak W)/\w'.heap[M (R W)]? =aC #[p,q,t,k] 23 (0,0)/\Fr aB W w')=H:=⟨_,J⟩;rw[iw];simp only[abA,d5,jd,Tryz.f5,iT,jX,kG];go_wp2;rw[<-iw];exact⟨J,⟨J,J⟩,heap_alloc_new _ _,aQ _⟩
variable{w:ae}{H:Type}{n:Nat}
def aI4{fo P Q T K ao cap l}(hl:IK w ao l)(hs:∀x∈l,x.s.size<=2^47)(hlen:O l<=180000){cs}:
 ag.Reach (bz fo λ_=>False) aj (Frame.enter aj 5 #[gU P Q T K,.slice ao l cap] .normal) cs w (ag.AtRet aj Tryz.f5 λv w'=>v=A/\Fr (λk=>w<=k) w w') cs:=by
 rw[enter_at (c:=d5) _ func5 rfl,aIY];refine kz λd1=>?_;have⟨aPS,hA,Ez,Dx,OG⟩:∃aPS,#[gU P Q T K,.slice ao _ _]++iD (Tryz.f5.ntmps- #[gU P Q T K,.slice ao l cap].size) F=aPS/\aPS.getD 1 F=.slice ao l cap/\tidy QA aPS=#[gU P Q T K,F]++iD (Tryz.f5.ntmps-2) F/\∀B,nU QA B aPS:=⟨_,J,as6,asv ⟨J,J⟩,λ_=>as7 J⟩;rw[hA];apply abj (D:=QA) (w:=w.at d1) (K:=λx w'=>(x.size=8/\x.getD 2 F=ak w)/\w'.heap[M (R w)]? =aC #[P,Q,T,K] 23 (0,0)/\∀b,b<M (R w)->w'.heap[b]? =w.heap[b]?) (λ_ _ _ _ h=>h) func5 y8.1 y8.2.1 (OG _) J (λt d=>by rw[Dx];exact aQ3 (aI3 _ P Q T K) λe x w' hq=>⟨hq.1,hq.2.1,hq.2.2.1,λb hb=>hq.2.2.2.block b hb id⟩);rintro x2 w1 sQ ⟨⟨sz,g2⟩,hb,L9⟩ BV;have g1:=(LI (D:=QA) (f:=λj=>aPS.getD j F) (t:=x2) (i:=1) J YV).t Ez;replace sz:=(JS (ov:=lay QA λj=>aPS.getD j F)).t sz;replace g2:=(xw (D:=QA) (f:=λj=>aPS.getD j F) J).t g2;generalize ag.jW (lay QA λj=>aPS.getD j F) x2=a2 at sz g1 g2 BV⊢
 have f1:Fr aB w w1:={sQ with block:=Zv}
 have nX:IK w1 ao l:=λi x hx=>have⟨⟨sb,so,e,h1,h2⟩,h3⟩:=hl i x hx;⟨⟨sb,so,e,Zv,BJ.aW (B:=w) h2 (f1.z Zv) YV h1⟩,h3⟩
 refine kz λd2=>?_;refine yZ λd3=>?_;rw[y8.2.2];have⟨oe,oe1,oe2,oe3,Qz⟩:=aIZ.ex;refine abh (w:=w1.at d3) (v:=gU P Q T K) oe1 oe2 oe3 (λe=>aQC) (λd=>aIm (x:=.tmp 2) g2 hb Qz) (λd e he=>by
  obtain⟨n,rfl⟩:=aIn (a:=⟨a2,[]⟩) (W:=(w1.at d3).at d) (x:=.tmp 2) g2 hb Qz e he;exact rdL (bF hb) id) λa3 e3 p3=>?_
 refine aI0.mv (w:=w1) (e0:=e3) (.inl J) ((p3.ne 1 Xa).t g1) λa4 e4 p4=>?_;have z4:=p4.sz.t<|p3.sz.t sz;refine aI1.site (w:=w1) aI2 func10 J J (vs:=#[gU P Q T K,.slice ao l cap]) (post:=λB' v w'=>v=A/\(∃s',B'=bz fo s')/\Fr (λk=>w1<=k) w1 w') ?_ YV (λe=>(aIQ (w:=w1.at e) (λi x hx=>nX i x hx) hs YV).z λB' v w' ⟨h1,h2,h3⟩=>⟨h1,h2,h3.os,h3.tape,h3.output,h3.size,h3.block⟩) Zv ?_
 ·have e1:a4.eval (.tmp 5)=gU P Q T K:=(p4.ne 5 Xa).t (by grind[qi.at_]);have e2:a4.eval (.tmp 6)=.slice ao l cap:=p4.at_ (by grind[cases qi]);grind
 rintro B' v w5 a5 e5 ⟨rfl,⟨s',rfl⟩,f5⟩ q5;have hdf:=q5.df.t<|p4.df.t p3.df;have h4:=q5.at_ YV;have⟨tm,df⟩:=a5;obtain rfl:df=[]:=hdf;refine jM (λ_=>step_ret) λf4=>?_;refine ag.Reach.here λ_=>⟨J,J,J,func5,KG,A,λd=>⟨?_,KG,J,?_⟩⟩
 ·have e4:=h4;rw[<-e4];exact aRm J _ _ _
 ·have g0:Fr (λk=>w<=k) w w1:=f1.z Zv;have g3:=g0.t f5 λk hk=>dX f1.size hk;exact{g3 with}
def atv:∀(l:List (DataW H)) (i:Nat) (d:DataW H),l[i]? =Y d->Rows.uptoBulk d<=Rows.uptoBulkAll l|[],i,d,h=>aQB|x::r,0,d,h=>(by simp at h;subst h;simp only[Rows.uptoBulkAll];omega)|x::r,i+1,d,h=>by have:=atv r i d h;simp only[Rows.uptoBulkAll];omega
def atw{enc spare held cs}{x:DataW H×List MemPlace}(h:DataW.trod enc aj w 0 spare held n 28 cs=Y x):∃y:BJ,cs=[V Z y.k,y.p,y.q,y.m,y.s,y.c]/\fF y.p/\fF y.q/\fF y.m/\7+y.s.size<=Rows.uptoBulk x.1:=by have⟨xs,m,_,mV,hl,hx,hf⟩:=DataW.trod_struct underlying28 h;rw[atl]at hl;match cs,hl with|[c0,c1,c2,c3,c4,c5],_=>have f0:DataW.trod _ _ w 0 _ _ m 3 (([c0,c1,c2,c3,c4,c5].drop 0).take<|prog.cellsOf 3)=xs[0]? :=hf 0 _ J;have f1:DataW.trod _ _ w 0 _ _ m 3 (([c0,c1,c2,c3,c4,c5].drop 1).take<|prog.cellsOf 3)=xs[1]? :=hf 1 _ J;have f2:DataW.trod _ _ w 0 _ _ m 3 (([c0,c1,c2,c3,c4,c5].drop 2).take<|prog.cellsOf 3)=xs[2]? :=hf 2 _ J;have f3:DataW.trod _ _ w 0 spare held m 3 (([c0,c1,c2,c3,c4,c5].drop 3).take<|prog.cellsOf 3)=xs[3]? :=hf 3 _ J;have f4:DataW.trod enc aj w 0 spare held m 9 (([c0,c1,c2,c3,c4,c5].drop 4).take<|prog.cellsOf 9)=xs[4]? :=hf 4 _ J;have f5:DataW.trod enc aj w 0 spare held m 4 (([c0,c1,c2,c3,c4,c5].drop 5).take<|prog.cellsOf 4)=xs[5]? :=hf 5 _ J;match xs,hx with|[x0,x1,x2,x3,x4,x5],_=>simp only[ag0,aIS,aIR,List.drop_zero,au8,List.take_succ_cons,al1,Q9,Rf]at f0 f1 f2 f3 f4 f5;have⟨a0,e0,_,_⟩:=aRl underlying3 f0;have⟨a1,e1,_,w1⟩:=aRl underlying3 f1;have⟨a2,e2,_,w2⟩:=aRl underlying3 f2;have⟨a3,e3,_,w3⟩:=aRl underlying3 f3;have⟨a4,e4,d4,_⟩:=DataW.trod_string Y0 f4;have⟨a5,e5,_⟩:=DataW.trod_bool Y0 f5;simp at e0 e1 e2 e3 e4 e5;subst e0 e1 e2 e3 e4 e5;refine⟨⟨a0,a1,a2,a3,a4,a5⟩,J,w1,w2,w3,?_⟩;rw[mV];have b0:=abz x0.1;have b1:=abz x1.1;have b2:=abz x2.1;have b3:=abz x3.1;have b5:=abz x5.1;have hz:a4.data.toList=a4.size:=Y0;simp only[Rows.uptoBulk,Rows.uptoBulkAll,uj,uA,d4];omega
def akq{enc}{v:ai}{x:DataW H×List MemPlace}(h:DataW.trod enc aj w 0 (λ_=>A) A n 26 v.cells.toList=Y x)(hv:∃a l c,v=.slice a l c):∃ao cap,∃l,v=.slice ao (O l) cap/\IK w ao l/\7*l<=Rows.uptoBulk x.1/\∀y∈l,y.s.size<=Rows.uptoBulk x.1:=by obtain⟨a0,l0,c0,rfl⟩:=hv;rcases Deep.open_slice underlying26 h with⟨hcs,rfl⟩|⟨a,len,cap,m,k,D,Pl,hcs,_,hl,hm,TQ,rfl,G7⟩;{simp[Value.cells]at hcs;obtain⟨rfl,rfl,rfl⟩:=hcs;exact⟨U,0,[],J,λi x hx=>Zv,jQ _,Zv⟩};simp[Value.cells]at hcs;obtain⟨rfl,rfl,rfl⟩:=hcs;simp at TQ;subst TQ;rw[atl]at G7;have⟨l,hls,eF⟩:=atn (p:=λi (y:BJ)=>i<l0/\(∃sb so,a=((sb,so):Addr)/\sb<M (R w)/\y.at_ w sb (so+i*6))/\fF y.p/\fF y.q/\fF y.m/\7+y.s.size<=Rows.uptoBulk (D i)) l0 (λi hi=>by have⟨cs,h1,h2⟩:=G7 i YV;obtain⟨y,rfl,w1,w2,w3,h7⟩:=atw h2;have⟨_,_,hcell⟩:=World.cells?_some h1;have⟨cs0,g1,g2⟩:=G7 0 YV;obtain⟨y0,rfl,_⟩:=atw g2;have⟨_,_,aI5⟩:=World.cells?_some g1;have⟨sb,so,spot⟩:=a;have h0:=aI5 0 YV;(have aLT:spot=none:=by have:=World.cell?_spot h0;simpa[Addr.add]using this);subst aLT;have hc:∀j u,j<6->[Value.int .i64 y.k,y.p,y.q,y.m,y.s,y.c][j]? =u->w (sb,so+i*6+j)=u:=(by grind[Addr.add_lit]);exact⟨y,hi,⟨sb,so,J,World.block_lt_of_cell? w (sb,so+i*6+0)<|hc 0 _ YV J,⟨hc 0 _ YV J,Zv,Zv,Zv,Zv,Zv⟩⟩,w1,w2,w3,h7⟩);(have auu:Rows.uptoBulkAll ((List.range l0).map D)<=Rows.uptoBulk (DataW.slice ((List.range l0).map D)<|(List.range<|m-l0).map λj=>D<|l0+j):=by simp only[Rows.uptoBulk];omega);refine⟨a,_,l,by rw[hls],λi x hx=>?_,?_,λy hy=>?_⟩;{grind};{(have:=ato (D:=D) l0 λi hi=>by have⟨_,_,_,_,_,h7⟩:=eF i _ (gG YV);omega);grind};obtain⟨i,hi,rfl⟩:=UA hy;have⟨dL,_,_,_,_,h7⟩:=eF i _<|gG hi;have hb:=atv ((List.range l0).map D) i (D i) Zv;grind
def aI6(os)(started:os.Started)(H)(enc:dB×ai->H)(aPT):
 ReturnsInLeavingWide {} Tryz.checked os 5 .any ((Rows.OpenSpec.upto Rows.heraldsSpec).pre6 enc aj Tryz.f5 Rows.heraldsUptoRow.domain ah) (((Rows.OpenSpec.upto Rows.heraldsSpec).at aPT).post enc aj Tryz.f5 ah A ah ah):=by
 apply aRN (C:=Tryz.checked) atj started
  (OpenSpec.witness (enc:=enc) (C:=Tryz.checked) (s:=Rows.OpenSpec.upto Rows.heraldsSpec) (k:=Rows.uptoSmall) J ah ⟨#[],#[jf #[V Z 0,V Z 0,V Z 0,V Z 0],aP U 0 0],[]⟩ 8 KG KG KG
    (x:=([.agg [.lit<|.int .i64 0,.lit<|.int .i64 0,.lit<|.int .i64 0,.lit<|.int .i64 0],.nil],[],[])) KG J KG)
 intro w0 tape i _ acE _ Uo acF _;have⟨_,_,_,fn',QE,_,_,_,_,OH⟩:=Uo;have e:=Kz<|QE.s.t func5;subst e;have⟨ds,gs,before,hw,_,hk⟩:=(OpenSpec.pre_some (k:=Rows.uptoSmall) J _ _ _ _).1 acF.1;have hW:=DataW.Whole.of_heap (w':=w0.forCall tape i) aQr hw;have⟨ih,args,iv⟩:=i;generalize w0.forCall tape ⟨ih,args,iv⟩=W at acE hW OH⊢
 clear hw acF QE;simp only at hW OH⊢
 have hval:=OH;have Ux:=hW;obtain⟨p,q,Ky,hV,rfl,_,_⟩:=hW;have hA:=Ky;rw[params5]at hA hval;obtain⟨v0,v1,d0,d1,p0,p1,rfl,rfl,rfl,h0,h1⟩:=trodAll_two hA;obtain⟨rfl,rfl⟩:=trodVars_none hV;have bY:=hval 0 23 v0 J J;have⟨a0,len,cap,bV⟩:=okWide_slice underlying26<|hval 1 26 v1 J J;have h0k:=h0;have h1k:=h1;have⟨fuel,hf⟩:=h0;have⟨aP3,aI⟩:=h1;clear Ky OH;simp at Ux hk;have aO:=λx hx=>by simpa using Ux.lt x hx
 have aLW:∀W',Below W W W'->DataW.Trod enc aj W' 0 (λb=>decide<|b<W) A 23 v0 d0 p0:=
  λW' hn=>Below.trod laidOut KG Y0 h0k hn Zv
 have aLX:∀W',Below W W W'->DataW.Trod enc aj W' 0 (λb=>decide<|b<W) A 26 v1 d1 p1:=
  λW' hn=>Below.trod laidOut KG Y0 h1k hn Zv
 have⟨P,Q,T,K,hcs,hP,hQ,hT,hK⟩:=akp hf;have hv:v0=gU P Q T K:=by
  obtain⟨cs,rfl,_⟩:=okWide_struct underlying23 bY;have e:cs.toList=[V Z P,V Z Q,V Z T,V Z K]:=hcs;have e2:cs=#[V Z P,V Z Q,V Z T,V Z K]:=Zv
  rw[e2];rfl
 subst hv;obtain⟨ao,cap',l,rfl,eF,hl,gV⟩:=akq aI Zv;have aLY:Rows.uptoBulk d1<=1048576:=by
  have h1:=Yy hk;simp only[Rows.uptoBulkAll]at h1;omega
 have hlen:O l<=180000:=by
  grind
 obtain⟨N,last,o,w',t',r1,r2,r3,r4⟩:=as8 (att acE) (aI4 (cap:=cap') eF Zv hlen);refine⟨N,last,o,w',t',r1,r2,r3,r4.mono λv hvf=>?_⟩;obtain⟨rfl,bT⟩:=hvf;have hb:Below W W w':=⟨bT.os,bT.tape,bT.output,bT.size,(by grind[cases Fr])⟩;refine aR1 ⟨_,_,_,[],p0++p1,[],Ux,?_,?_,J,hb.frame _,Zv⟩
 ·exact trodAll_mk1<|shut_bool Y0 _
 ·exact trodAll_mk2 (aLW _ hb)<|aLX _ hb
theorem heralds_holds:Rows.HeraldsUptoSaid:=atu 5 _ J J J J J J J ⟨J,J,J,J,J⟩ J J J J J KG func5 KG (Yy KG) (by unfold Func.isWrapper;first|(exact⟨J,J⟩)) (λos started H enc _ aPT=>aI6 os started H _ aPT)
end
section
open Go.RowKit Go.Maps Go.Conc
structure Gd where
 B:Nat
 wb:Nat
 xb:Nat
 yb:Nat
 bb:Nat
abbrev Gd.Is(c:Gd)(w:ae)(N n:Nat)(h:HS)(y:RS)(o:jY):Prop:=fJ w c.B c.wb c.xb c.yb c.bb N n h y o
abbrev Gd.aPT(c:Gd)(h:HS)(y:RS)(o:jY)(k:Nat):Prop:=gF c.wb c.xb c.yb c.bb h y o k
section
variable{w w' w0}{c d:Gd}{N n aPV m h y o fo s S}
theorem Gd.lt(g:c.Is w N n h y o){k}(H:c.aPT h y o k):k<w:=H.e (g.iK.Gl k) λa=>(g.iK.book.Pj a).1
theorem Gd.clear(g:c.Is w N n h y o)(bY:pz (bz fo s) w)(hw:¬(s c.wb\/fo c.wb)){k}(H:c.aPT h y o k):¬s k:=λz=>by have⟨fx,fy,_⟩:=g.free bY hw;rcases H with(rfl|a|a)|a;{grind};{grind};{grind};grind[fJ.asr]
theorem Gd.stay(g:c.Is w N n h y o)(f:Fr S w w')(hS:∀k,S k->¬c.aPT h y o k):c.Is w' N n h y o:=
 g.ass (λk H=>⟨λe=>hS k H<|.inl e,λe=>hS k H<|.inr e⟩) {g.both with xa:=g.both.xa.stay f λk H e=>hS k H<|.inl<|.inr<|.inl e,ya:=g.both.ya.stay f λk H e=>hS k H<|.inl<|.inr<|.inr e} (by grind[Fr.z]) λ_=>.inl
structure GG(fo:Nat->Prop)(w0:ae)(c d:Gd)(s:Nat->Prop)(w:ae)(N n:Nat):Prop where
 ex:∃h y o h' y' o',c.Is w N n h y o/\d.Is w N n h' y' o'/\(∀k,c.aPT h y o k->d.aPT h' y' o' k->False)/\∀k,c.aPT h y o k\/d.aPT h' y' o' k->M (R w0)<=k
 hc:¬(s c.wb\/fo c.wb)
 hd:¬(s d.wb\/fo d.wb)
 hs:∀k,s k->M (R w0)<=k
 eU:Fr (λk=>M (R w0)<=k) w0 w
def GG.swap(g:GG fo w0 c d s w N n):GG fo w0 d c s w N n:=let ⟨h,y,o,h',y',o',g1,g2,a,b⟩:=g.ex;⟨Zv,g.hd,g.hc,g.hs,g.eU⟩
theorem GG.same(g:GG fo w0 c d s w N n)(on:On w w')(e:w'.heap=w.heap):GG fo w0 c d s w' N n:=
 let ⟨h,y,o,h',H,o',g1,g2,a,b⟩:=g.ex
 {g with ex:=⟨h,y,o,h',H,o',g1.same e,g2.same e,a,b⟩,eU:=g.eU.t {on with block:=Zv} λ_=>.inl}
theorem GG.at(g:GG fo w0 c d s w N n)(e):GG fo w0 c d s (w.at e) N n:=g.same ⟨J,fC _,J,J⟩ J
def GG.still(g:GG fo w0 c d s w N n)(f:Fr aB w w'):GG fo w0 c d s w' N n:=
 let ⟨h,y,o,h',H,o',g1,g2,a,b⟩:=g.ex
 {g with ex:=⟨h,y,o,h',H,o',g1.a f,g2.a f,a,b⟩,eU:=g.eU.t f Zv}
theorem GG.z(g:GG fo w0 c d s w N n)(hM:N<=aPV)(H:n<=m):GG fo w0 c d s w aPV m:=
 let ⟨h,y,o,h',y',o',g1,g2,a,b⟩:=g.ex
 {g with ex:=⟨h,y,o,h',y',o',g1.z hM H,g2.z hM H,a,b⟩}
theorem GG.lt(g:GG fo w0 c d s w N n):c.wb<w/\d.wb<w:=let ⟨_,_,_,_,_,_,H,g2,_⟩:=g.ex;⟨H.lt,g2.lt⟩
structure GGo(fo:Nat->Prop)(w0:ae)(c d:Gd)(s:Nat->Prop)(w w':ae)(N n:Nat)(B':dE):Prop where
 ex:∃s',B'=bz fo s'/\(∀k,s' k->s k\/M (R w)<=k)/\GG fo w0 c d s' w' N n
 size:M (R w)<=M (R w')
theorem GG.act(g:GG fo w0 c d s w N n)(hN:N<=70000000)(hn:n<=9000000)(k p q m)(hp:fF p)(hq:fF q)(hm:fF m){ts}(zZ:ts.size<=2^47)(fl):xQ (bz fo s) aj 12 #[ptr c.wb,kV k p q m ts fl] w (λB' v w'=>v=A/\GGo fo w0 c d s w w' (N+308) (n+2) B'):=by intro c0 cs;refine ag.Reach.ok λbY=>?_;have⟨h,y,o,h',y',o',g1,H,ap,lo⟩:=g.ex;apply(asJ g1 hN hn g.hc (λ_=>id) k p q m hp hq hm zZ fl c0 cs).z;rintro B' fr' w' ⟨v,rfl,rfl,⟨s',h3,y3,o3,rfl,gr,g3,i3⟩,eU⟩;(have off:∀k,(c.aPT h y o k\/s k)\/w<=k->¬d.aPT h' y' o' k:=λk hk hf=>hk.e (by grind[Gd.clear,cases GG]) λa=>by have:=Gd.lt H hf;omega);have sz:=g.eU.size;have low:∀k,(c.aPT h y o k\/s k)\/w<=k->w0<=k:=(by grind[cases GG]);have new:∀{b:Nat},b<w->¬(s b\/fo b)->¬(s' b\/fo b):=Zv;exact⟨_,J,J,⟨s',J,gr,⟨h3,y3,o3,h',y',o',g3,(Gd.stay H eU off).z YV YV,Zv,Zv⟩,new g1.lt g.hc,new H.lt g.hd,Zv,(by grind[Fr.t,cases GG])⟩,eU.size⟩
theorem GG.last(g:GG fo w0 c d s w N n)(hN:N+100000<=70000000)(hn:n+3000<=8500000):xQ (bz fo s) aj 14 #[ptr c.wb] w (λB' v w'=>v=A/\(∃s',B'=bz fo s'/\(∀k,s' k->s k\/w<=k)/\nV fo s' (λk=>w0<=k) w0 s' w' d.B d.wb d.xb d.yb d.bb N n)/\w<=M (R w')):=by intro c0 cs;refine ag.Reach.ok λbY=>?_;have⟨h,y,o,h',y',o',g1,H,ap,lo⟩:=g.ex;apply(akl (aP0:=λk=>(c.aPT h y o k\/s k)\/w<=k) ⟨⟨h,y,o,g1,λ_ a=>a⟩,g.hc,Zv,λ_=>.inl,Fr.refl _ _⟩ hN hn c0 cs).z;rintro B' fr' w' ⟨v,rfl,rfl,⟨s',rfl,gr⟩,eU⟩;(have off:∀k,(c.aPT h y o k\/s k)\/w<=k->¬d.aPT h' y' o' k:=λk hk hf=>hk.e (by grind[Gd.clear,cases GG]) λa=>by have:=Gd.lt H hf;omega);have sz:=g.eU.size;have l2:=H.lt;exact⟨_,J,J,⟨s',J,gr,⟨⟨h',y',o',Gd.stay H eU off,Zv⟩,(by grind[cases GG]),(by grind[cases GG]),λ_=>.inl,(by grind[Fr.t,cases GG])⟩⟩,eU.size⟩
end
end
section
set_option linter.all false
open Go.RowKit Go.Maps Go.Conc
open Twin gy
noncomputable def d6:Code:=Tryz.f6.body.getD .skip
noncomputable def c6(p:List Bool):Code:=jd p d6
noncomputable def l6:Code:=match c6 [A,A,A,A,ah,A]with| .block _ (.loop c)=>c|_=>.skip
noncomputable def e6(p:List Bool):Code:=jd p l6
noncomputable def akt:Array Oper:=yK<|c6 [A,A,A,A,ah,ah]
noncomputable def Fj:Array Oper:=yK<|e6 [ah,ah]
noncomputable def QB:Array Oper:=yK<|e6 [A,ah,ah,ah]
noncomputable def LQ:Array Oper:=yK<|e6 [A,ah,ah,A,ah]
noncomputable def IM:Array Oper:=yK<|e6 [A,ah,A,ah,ah]
noncomputable def LU:Array Oper:=yK<|e6 [A,ah,A,ah,A,ah]
noncomputable def abB:Array Oper:=yK<|c6 [A,A,A,A,A,ah]
noncomputable def abC:Array Oper:=yK<|c6 [A,A,A,A,A,A,ah]
def nD:List Nat:=[2,3,47,52,59,63,65,71,76,78]
theorem Oj:codeOk aj kC (mJ [A,A,A,A] d6)=A/\codeOk aj kC (e6 [A,ah,A,A])=A/\codeOk aj kC (e6 [A,A])=A/\codeOk aj kC (cutAt (.refuse "") [A,A,A,A] d6)=A/\codeOk aj kC (c6 [A,A,A,A,A,A,A])=true:=aQv
theorem r6:List.range akt.size=[0]/\List.range Fj.size=[0,1,2,3,4,5,6,7,8,9]/\List.range QB.size=[0,1,2,3]/\List.range LQ.size=[0,1,2,3,4,5,6]/\List.range IM.size=[0,1,2,3,4,5,6]/\List.range LU.size=[0,1,2,3,4,5,6]/\List.range abB.size=[0,1,2]/\List.range abC.size=[0,1,2]:=aQv
abbrev qG(ops:Array fA)(i d:Nat)(p:Op)(g:Option (Nat×Bool)):Prop:=ops[i]?.map (λo=>(o.guard,o.dst,o.op))=Y (g,Y d,p)
def Want(ops:Array fA)(g:Option (Nat×Bool))(t:Array ai):Prop:=∀j b,g=Y (j,b)->∃d,ops[j]?.bind (·.dst)=Y d/\d<t.size/\t.getD d F=b
section
variable{fo s f0}{a:Act}{ops:Array fA}{i j e0:Nat}{rest k cs cs2}{w:ae}{Q v}{d d2:Nat}{p g b}
theorem atz{t}(h1:ops[j]?.bind (·.dst)=d)(h2:d<t.size)(h3:t.getD d F=aA b):yielded ops t j=b:=by unfold yielded;simp_all
theorem qG.ev(z:qG ops i d p g)(hw:Want ops g a.tmps)(hr:∀o W,o.op=p->(eG a.eval o).run aj W=.ok (.value v) W/\(eG a.eval o).events aj W #[]=#[])
 (hn:∀a' e,qi a d v a'->ag.Reach (bz fo s) aj ((base f0).at a'<|dm ops rest::k) cs (w.at e) Q cs2):ag.Reach (bz fo s) aj ((base f0).at a<|dm ops (i::rest)::k) cs (w.at e0) Q cs2:=by
 have⟨o,h1,H⟩:=EC.1 z;simp at H;have⟨H,h3,h4⟩:=H;have uP:Region.wanted o (yielded ops a.tmps)=true:=by
  unfold Region.wanted;cases g with
  |none=>rw[H]
  |some g=>
   have⟨d,q1,q2,q3⟩:=hw _ _ J;grind[atz]
 refine ag.Reach.ok λbY=>ag.Reach.step λdd=>?_;refine⟨_,_,(w.at e0).at dd,_,stepG_value h1 uP (λe=>aQC) (hr o _ h4).1,{bY with},fC _,λe he=>by have:=aQW he;grind,?_⟩;rw[h3];exact hn _ dd<|.of a d v
theorem qG.skip(z:qG ops i d p (Y (j,b)))(h1:ops[j]?.bind (·.dst)=d2)(h2:d2<a.tmps.size)(h3:a.tmps.getD d2 F=(!b))
 (hn:∀a' e,qi a d F a'->ag.Reach (bz fo s) aj ((base f0).at a'<|dm ops rest::k) cs (w.at e) Q cs2):ag.Reach (bz fo s) aj ((base f0).at a<|dm ops (i::rest)::k) cs (w.at e0) Q cs2:=by
 have⟨o,g1,H⟩:=EC.1 z;simp at H;have⟨H,g3,g4⟩:=H;have uP:Region.wanted o (yielded ops a.tmps)=false:=by
  unfold Region.wanted;rw[H];simp[atz h1 h2 h3]
 refine ag.Reach.ok λbY=>ag.Reach.step λdd=>?_;refine⟨_,_,(w.at e0).at dd,_,stepG_unwanted g1 uP,{bY with},fC _,Zv,?_⟩;rw[g3];exact hn _ dd<|.of a d _
variable{W o}
end
end
section
set_option linter.all false
open Go.RowKit Go.Maps Go.Conc
open Twin gy
structure T6(v1 v2:ai)(b1 b2 i:Nat)(a:Array ai):Prop where
 sz:a.size=109
 a2:a.getD 2 F=v1
 a3:a.getD 3 F=v2
 a9:a.getD 9 F=ak (Y ⟨b1,0,U⟩)
 LV:a.getD 10 F=aA A
 Ee:a.getD 11 F=ak (Y ⟨b2,0,U⟩)
 Di:a.getD 13 F=V Z i
structure yL(L:List Nat)(B:dE)(a a':Act):Prop where
 sz:a'.tmps.size=a.tmps.size
 ne:∀j,L.contains j=ah->a'.tmps.getD j F=a.tmps.getD j F
 df:a'.defers=a.defers
 ok:nU nD B a.tmps->nU nD B a'.tmps
section
variable{fo s}{ao cap rest rs cs cs2 Q a a' a2}{i d:Nat}{v v1 v2 b1 b2 ops L B g}
theorem yL.refl(L B a):yL L B a a:=⟨J,λ_ _=>J,J,id⟩
theorem yL.put(p:yL L B a a')(q:qi a' d v a2)(h:L.contains d=A)(hv:nD.contains d=A\/aK B v):yL L B a a2:=⟨q.sz.t p.sz,(by grind[cases qi,cases yL]),q.df.t p.df,λo=>(p.ok o).put q hv⟩
theorem yL.T(p:yL L B a a')(h:L.contains 2=ah/\L.contains 3=ah/\L.contains 9=ah/\L.contains 10=ah/\L.contains 11=ah/\L.contains 13=ah)(T:T6 v1 v2 b1 b2 i a.tmps):T6 v1 v2 b1 b2 i a'.tmps:=⟨p.sz.t T.sz,(p.ne 2 h.1).t T.a2,(p.ne 3 h.2.1).t T.a3,(p.ne 9 h.2.2.1).t T.a9,(p.ne 10 h.2.2.2.1).t T.LV,(p.ne 11 h.2.2.2.2.1).t T.Ee,(p.ne 13 h.2.2.2.2.2).t T.Di⟩
end
theorem y6:Fj[4]?.bind (·.dst)=Y 50/\IM[1]?.bind (·.dst)=Y 69:=aQv
end
section
set_option linter.all false
open Go.RowKit Go.Maps Go.Conc
open Twin gy
section
variable{w w0 w1 w2}
theorem JP.two{wb xb yb bb wb' xb' yb' bb' h H y y' o o'}(f:Fr aB w w0)(b1:JP w0 w1 wb xb yb bb h y o)(b2:JP w1 w2 wb' xb' yb' bb' H y' o'):∃c d:Gd,c.wb=wb/\d.wb=wb'/\(∃h y o H y' o',c.Is w2 0 0 h y o/\d.Is w2 0 0 H y' o'/\(∀k,c.aPT h y o k->d.aPT H y' o' k->False)/\∀k,c.aPT h y o k\/d.aPT H y' o' k->w<=k)/\Fr aB w w2:=by have g1:Gd.Is ⟨w0,wb,xb,yb,bb⟩ w1 0 0 h y o:=b1.xx;have g2:Gd.Is ⟨w1,wb',xb',yb',bb'⟩ w2 0 0 H y' o':=b2.xx;have lo:∀k,Gd.aPT _ H y' o' k->w1<=k:=λk hk=>hk.e (g2.iK.fB k) λa=>(g2.iK.book.Pj a).2;refine⟨_,_,J,J,⟨h,y,o,H,y',o',g1.a b2.fr,g2,λk h1 h2=>?_,λk hk=>hk.e (λhk=>dX f.size<|hk.e (g1.iK.fB k) λa=>(g1.iK.book.Pj a).2)<|by grind[cases Fr,cases JP]⟩,(f.t b1.fr Zv).t b2.fr Zv⟩;have:=Gd.lt g1 h1;grind
end
end
section
set_option linter.all false
open Go.RowKit Go.Maps Go.Conc
open Twin gy
section
variable{i:Nat}
variable{v1 v2:ai}{b1 b2:Nat}
def T6.tidy{t}(T:T6 v1 v2 b1 b2 i t):T6 F F b1 b2 i (tidy nD t):=⟨JS.t T.sz,LI J (by rw[T.sz];decide),LI J (by rw[T.sz];decide),(xw J).t T.a9,(xw J).t T.LV,(xw J).t T.Ee,(xw J).t T.Di⟩
def T6.lay{f x}(T:T6 F F b1 b2 i x)(h:f 2=v1/\f 3=v2):T6 v1 v2 b1 b2 i (ag.jW (lay nD f) x):=⟨JS.t T.sz,(LI J (by rw[T.sz];decide)).t h.1,(LI J (by rw[T.sz];decide)).t h.2,(xw J).t T.a9,(xw J).t T.LV,(xw J).t T.Ee,(xw J).t T.Di⟩
end
end
end Go.Proofs.YtkelpcjiediamaaGreat
