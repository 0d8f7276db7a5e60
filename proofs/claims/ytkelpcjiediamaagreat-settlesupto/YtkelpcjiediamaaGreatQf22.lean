/-
  What is proved: where Config and script are together of bulk at most 1,048,576, Settles answers true, and both read behind the call as before.
-/
import Derived.Test.YtkelpcjiediamaaGreatQf7
import Derived.Test.YtkelpcjiediamaaGreatQf21
import Derived.ProofKit
import Derived.SizedLaws
import Derived.Deep.Slices
import Derived.JoinedCond
import Derived.Conc.Holds
set_option maxRecDepth 100000
set_option maxHeartbeats 0
set_option linter.all false
namespace Go.Proofs.YtkelpcjiediamaaGreat
noncomputable section
def aFN:=@Go.DataW.trod_int
open Go renaming Calls→aW,Frame→bH,FuncId→ji,TypeId→dJ,Value→aA,World→ay,undef→ai
open Go.Ending renaming returned→aV
open Go.IntKind renaming i64→ah,wrap→eF
open Go.Obj renaming cells→aG
open Go.RowKit renaming Hid→aj,intOf→eU
open Go.Value renaming agg→iF,bool→aF,int→ag,pointer→az,slice→aN,string→dK,tuple→dU
open Go.World renaming cell?→aB
open Option renaming none→af,some→ae
open _root_.Array renaming replicate→gz
open Go.Proofs.Tryz
section
open Go.RowKit Go.Maps Go.Conc
open _root_.Go.Proofs.YtkelpcjiediamaaGreat.Twin _root_.Go.Proofs.YtkelpcjiediamaaGreat.fU
def d7:Code:=Tryz.f7.body.getD .skip
def azc:Code:=au.fH [false] d7
def c7:Code:=au.fH [true,true] d7
def I7:au.codeOk prog au.kN azc=true/\au.codeOk prog au.kN c7=true:=by and_intros<;>kernel_rfl
section
variable{w:ay}
end
def azd{fo s0:Nat->Prop}{w:ay}{P Q T K:Int}(hP:fO P)(hQ:fO Q)(hT:fO T)(hK:fO K):
 au.sG (au.bP fo s0) prog 16 #[jI P Q T K] w (fun B' v w'=>B'=au.bP fo s0/\∃p q t k:Nat,v=jI p q t k/\Good p q t k/\Fr aS w w'):=by
 intro c cs;refine au.Reach.ok fun bT=>?_;have h5:∀b,s0 b\/fo b->1<=b:=fun b hb=>(bT.low b hb).1;refine(au.ail (R:=fun t d e w'=>∃p q t' k:Nat,e=aV (jI p q t' k)/\Good p q t' k/\Fr aS (au.re w t d) w') (au.lets h5) (xO h5) (by kernel_rfl) (au.cZ.one<|Ve _ _ _ _) (fun t d=>azb hP hQ hT hK) (fun t d e w' ⟨p,q,t',k,h,_⟩=>⟨_,h⟩) c cs).z ?_;rintro B' fr' w' ⟨v,rfl,rfl,_,on,t,d,t',j,p,q,t2,k,he,hg,hf⟩;refine⟨v,rfl,rfl,p,q,t2,k,by simpa using he,hg,⟨on.os,on.tape,on.output,on.size,fun b hb h=>hf.block b hb h⟩⟩
end
section
open Go.RowKit Go.Maps Go.Conc
open _root_.Go.Proofs.YtkelpcjiediamaaGreat.Twin _root_.Go.Proofs.YtkelpcjiediamaaGreat.fU
def d8:Code:=Tryz.f8.body.getD .skip
def Vh:Code:=au.fH [false] d8
def NL:Array Oper:=opsOf<|au.fH [true,false] d8
def x8:Code:=au.fH [true,true,false] d8
def Vj:Array Oper:=opsOf<|au.fH [true,true,true,false] d8
def v8:Code:=au.fH [true,true,true,true,false] d8
def aeu:Array Oper:=opsOf<|au.fH [true,true,true,true,true,false,false] d8
def c8:Code:=au.fH [true,true,true,true,true,true] d8
def rG:List Nat:=[1,20]
def NM:Lo:=⟨8,Tryz.f8,rG,au.fH [true,true,true,true,true,false,true,false,false] d8,au.fH [true,true,true,true,true,false,true,true,true] d8,opsOf<|au.fH [true,true,true,true,true,false,true,true,false] d8,5,45,46,47,48,49,42,164,0,1,10⟩
def aze:d8=.seq Vh (.seq (.region 1 NL false)<|.seq x8<|.seq (.region 4 Vj false)<|.seq v8<|.seq (.seq (.region 7 aeu false)<|.block 0<|.loop NM.b) c8):=by kernel_rfl
def aev:au.oU rG Vh=true/\au.oU rG x8=true/\au.oU rG v8=true:=by and_intros<;>kernel_rfl
def I8:au.codeOk prog au.kN Vh=true/\au.codeOk prog au.kN x8=true/\au.codeOk prog au.kN v8=true:=by and_intros<;>kernel_rfl
def Vk:wQ NL 0 18 (.load 23<|.tmp 2):=by and_intros<;>kernel_rfl
def Zt:wQ NL 1 19 (.call {callee:=.value<|.func 16,args:=#[.tmp 18],argTypes:=#[23]}):=by and_intros<;>kernel_rfl
def Zu:wQ NL 2 20 (.move<|.tmp 1):=by and_intros<;>kernel_rfl
def Zv:wQ NL 3 21 (.call {callee:=.value<|.func 15,args:=#[.tmp 19,.tmp 20],argTypes:=#[23,26]}):=by and_intros<;>kernel_rfl
def Zw:wQ NL 4 5 (.assign<|.tmp 21):=by and_intros<;>kernel_rfl
def Zx:wQ Vj 0 24 (.move<|.tmp 5):=by and_intros<;>kernel_rfl
def Zy:wQ Vj 1 25 (.call {callee:=.value<|.func 19,args:=#[.tmp 24],argTypes:=#[40]}):=by and_intros<;>kernel_rfl
def Zz:wQ Vj 2 6 (.assign<|.tmp 25):=by and_intros<;>kernel_rfl
def Vl:wQ aeu 0 7 (.assign<|.const<|ag ah 0):=by and_intros<;>kernel_rfl
def aew:List.range NL.size=[0,1,2,3,4]/\List.range Vj.size=[0,1,2]/\List.range aeu.size=[0]:=by and_intros<;>kernel_rfl
def QP:List.range 164=[0,1,2,3,4,5,6,7,8,9,10,11,12,13,14,15,16,17,18,19,20,21,22,23,24,25,26,27,28,29,30,31,32,33,34,35,36,37,38,39,40,41,42,43,44,45,46,47,48,49,50,51,52,53,54,55,56,57,58,59,60,61,62,63,64,65,66,67,68,69,70,71,72,73,74,75,76,77,78,79,80,81,82,83,84,85,86,87,88,89,90,91,92,93,94,95,96,97,98,99,100,101,102,103,104,105,106,107,108,109,110,111,112,113,114,115,116,117,118,119,120,121,122,123,124,125,126,127,128,129,130,131,132,133,134,135,136,137,138,139,140,141,142,143,144,145,146,147,148,149,150,151,152,153,154,155,156,157,158,159,160,161,162,163]:=by kernel_rfl
structure T8(pb i:Nat)(a:Array aA):Prop where
 sz:a.size=164
 a5:a.getD 5 ai=az (ae ⟨pb,0,af⟩)
 a7:a.getD 7 ai=ag ah i
variable{w W:ay}{B pb xb N i:Nat}{s:dm}{a:Array aA}
def aly:NM.Ok pb (T8 pb):=by
 refine⟨func8,?_,⟨?_,?_,?_,?_⟩,⟨?_,?_,?_,?_⟩,⟨?_,?_,?_,?_⟩,⟨?_,?_,?_,?_⟩,⟨?_,?_,?_,?_⟩,?_,?_,?_,?_,?_,by decide,fun _ _ T=>T.sz,fun _ _ T=>T.a5,fun i a a' j v T q hj=>?_,fun i x f T=>⟨yN.t T.sz,(ug rfl).t T.a5,(ug rfl).t T.a7⟩⟩;rotate_right
 ·have h:j≠5/\j≠7:=by
   rcases hj with rfl|rfl|rfl|rfl|rfl<;>decide
  exact⟨q.sz.t T.sz,(q.ne 5 h.1).t T.a5,(q.ne 7 h.2).t T.a7⟩
 all_goals kernel_rfl
def azf(T:T8 pb i a)(hi:i<1000000):NM.c7.wp prog (fun e x w'=>e=.normal/\T8 pb (i+1) x.tmps/\w'=W) ⟨a,[]⟩ W:=by
 obtain⟨sz,a5,a7⟩:=T;have hw:eF ah ((i:Int)+1)=(i:Int)+1:=wrap_i64 (by omega) (by omega);rw[zC a,sz,QP];simp only[rQ,tC,a5,a7];refine wK fun Q0 lh=>?_;simp only[NM,d8,au.fH,Tryz.f8,ik,if_true,kJ,kG];go_wp2
 rw[<-lh.o];exact⟨rfl,⟨rfl,rfl,rfl⟩,rfl⟩
def azg(T:T8 pb i a)(A:bJ w B pb xb N s){M:Nat}(hM:s.h.T+2*s.h.K+8=M):NM.c6.wp prog (fun e x w'=>e=.normal/\(T8 pb i x.tmps/\x.tmps.getD 42 ai=aF (decide<|i<M))/\w'.heap=w.heap) ⟨a,[]⟩ w:=by
 obtain⟨sz,a5,a7⟩:=T;have c3:aB w ⟨pb,3,af⟩=ae (ag ah s.h.T):=aQ A.pa.blk 3;have c4:aB w ⟨pb,4,af⟩=ae (ag ah s.h.K):=aQ A.pa.blk 4;have aK:=bn A.pa.blk;have hT:=A.pg.sn.T1;have hK:=A.pg.sn.K1;have w1:eF ah (2*s.h.K)=2*s.h.K:=wrap_i64 (by omega) (by omega);have w2:eF ah (s.h.T+2*s.h.K)=s.h.T+2*s.h.K:=wrap_i64 (by omega) (by omega);have w3:eF ah (s.h.T+2*s.h.K+8)=M:=(wrap_i64 (by omega)<|by omega).t hM;rw[zC a,sz,QP];simp only[rQ,tC,a5,a7];clear A sz a5 a7 hT hK hM;refine wK fun Q0 lh=>?_;simp only[NM,d8,au.fH,Tryz.f8,ik,if_true,kJ,kG];go_wp2_with fail
 go_quiet (fail)
 go_wp2_with fail
 rw[<-lh.o];exact⟨rfl,⟨⟨rfl,rfl,rfl⟩,by simp⟩,rfl⟩
def azh(sz:a.size=164)(a5:a.getD 5 ai=az (ae ⟨pb,0,af⟩)):x8.wp prog (fun e x w'=>e=.normal/\(x.tmps.size=164/\x.tmps.getD 5 ai=az (ae ⟨pb,0,af⟩))/\w'=W) ⟨a,[]⟩ W:=by
 rw[zC a,sz,QP];simp only[rQ,tC,a5];refine wK fun Q0 lh=>?_;simp only[x8,d8,au.fH,Tryz.f8,ik,if_true,kJ,kG];go_wp2
 rw[<-lh.o];exact⟨rfl,⟨rfl,rfl⟩,rfl⟩
def azi(sz:a.size=164)(a5:a.getD 5 ai=az (ae ⟨pb,0,af⟩))(a6:a.getD 6 ai=aF true):v8.wp prog (fun e x w'=>e=.normal/\(x.tmps.size=164/\x.tmps.getD 5 ai=az (ae ⟨pb,0,af⟩))/\w'=W) ⟨a,[]⟩ W:=by
 rw[zC a,sz,QP];simp only[rQ,tC,a5,a6];refine wK fun Q0 lh=>?_;simp only[v8,d8,au.fH,Tryz.f8,ik,if_true,kJ,kG];go_wp2
 rw[<-lh.o];exact⟨rfl,⟨rfl,rfl⟩,rfl⟩
def azj{p q t k:Int}(sz:a.size=164)(a0:a.getD 0 ai=jI p q t k):Vh.wp prog (fun e x w'=>e=.normal/\(x.tmps.size=164/\x.tmps.getD 2 ai=az (ae ⟨W.heap.size,0,af⟩))/\w'.heap[W.heap.size]? =ae (aG #[ag ah p,ag ah q,ag ah t,ag ah k] 23 (0,0))/\w'.heap.size=W.heap.size+1/\Fr aS W w') ⟨a,[]⟩ W:=by
 rw[zC a,sz,QP];simp only[rQ,tC,a0];unfold jI;refine wK fun Q0 lh=>?_;simp only[Vh,d8,au.fH,Tryz.f8,ik,kJ,kG];go_wp2
 rw[<-lh.o];exact⟨rfl,⟨rfl,rfl⟩,aFb _ _,by simp,bQ _⟩
end
section
open Go.RowKit Go.Maps
def p8:List Bool:=[true,true,true,true]
def s8:Code:=au.fH p8 c8
def azk:au.codeOk prog au.kN (au.lW p8 c8)=true:=by kernel_rfl
def azl{n:Nat}{s:aJ}{S:List Int}(h:abh n s S)(oL:∀i t,s.nw i≠ae (t,true)):S=[]:=by
 cases S with
 |nil=>rfl
 |cons x r=>
  obtain⟨t,e⟩:=(h.2.2.2 x<|h.2.2.1 x<|by simp).1 (by simp);exact absurd e<|oL x t
def azm{l:List Wn}{f:Wn->Bool}{k:Nat}{e:Wn}(h:l[k]? =ae e):((l.take<|k+1).filter f).length=((l.take k).filter f).length+if f e=true then 1 else 0:=by
 rw[yu,h,tu,iW];simp only[CO,List.filter_cons,List.filter_nil];by_cases e1:f e=true<;>simp[e1]
structure Se(s s':dm):Prop where
 h:s'.h=s.h
 L:s'.L=s.L
 wr:s'.g.wr=s.g.wr
 gt:∀(k:Nat) (p:PL),s.h.pl[k]? =ae p->s'.g.gt[k]? =ae (p.s.bF 0 p.s.dC)
variable{w w':ay}{B pb xb N:Nat}{s s':dm}{a:Array aA}
def azn{M:Nat}(T:T8 pb M a)(A0:bJ w B pb xb N s)(hN:N<=70000000)(hu:s.h.up=true)(Ls:∀(i:Nat) (x:PS),(i:Int)<s.h.P->s.h.ps[i]? =ae x->x.s=0):(au.lW p8 c8).wp prog (fun e x w'=>e=.ret/\(x.tmps.size=164/\x.tmps.getD 5 ai=az (ae ⟨pb,0,af⟩))/\∃s',cO w w' B pb xb s (N+12) s'/\Se s s') ⟨a,[]⟩ w:=by
 have A:aj (bJ w B pb xb N s):=A0;have fK:aj (N<=70000000):=hN;obtain⟨Q,hQ⟩:=qY (show 0<=s.h.Q by have:=A0.pg.sn.Q1;omega);obtain⟨P,hP⟩:=qY (show 0<=s.h.P by have:=A0.pg.sn.P1;omega);have HQ:aj (s.h.Q=Q/\s.h.P=P):=⟨hQ,hP⟩;have Qo:Q<=4:=by have:=A0.pg.sn.Q1.2;omega
 have Pn:P<=6:=by have:=A0.pg.sn.P1.2;omega
 have ZA:aj (s.h.up=true/\∀(i:Nat) (x:PS),(i:Int)<s.h.P->s.h.ps[i]? =ae x->x.s=0):=⟨hu,Ls⟩;have HL:aj (aW prog 21 #[az<|ae ⟨pb,0,af⟩] w<|yK w B pb xb s (N+6)<|YW s):=YX A0 (by omega);obtain⟨sz,a5,_⟩:=T;rw[zC a,sz,QP];simp only[rQ,tC,a5];simp only[D7];clear sz a5 A0 hN hu Ls hQ hP;refine wK fun Q0 lh=>?_;simp only[p8,c8,d8,au.fH,Tryz.f8,ik,au.lW,au.BL,if_true];go_wp2_with fail
 refine HL.o.z ?_;rintro e w1 ⟨rfl,s1,t1,Q',Rn,lk⟩;have T1:aj (cO w w1 B pb xb s (N+6) s1/\Se s s1):=⟨t1,lk.h,lk.L,lk.wr,fun k p hp=>lk.gt k p (by have:=(dS.1 hp).1;have:=A.o.ha.hQ.1;omega) hp⟩;clear t1 lk Rn HL;go_wp2_with fail
 go_loopw [9] (fun iv w'=>∃(i:Nat) (s2:dm),i<=P/\iv=ag ah i/\cO w w' B pb xb s (N+6+i) s2/\Se s s2) (fun iv _=>P-(eU iv).toNat)
 case atStart=>exact⟨0,s1,kH _,rfl,T1.o⟩
 case round=>
  obtain⟨i,s2,hi,rfl,t2,se2⟩:=hrel
  have T2:aj (cO w wr B pb xb s (N+6+i) s2/\Se s s2):=⟨t2,se2⟩
  obtain⟨y0,y1,y2,-⟩:=t2.at_.cells
  rw[show s2.h.P=P from t2.cf.1.t HQ.o.2]at y1
  rw[show s2.h.Q=Q from t2.cf.2.1.t HQ.o.1]at y2
  have Dx:=bn t2.at_.pa.blk
  clear t2 se2
  by_cases hlp:i<P
  ·have aex:(i:Int)<(P:Int):=by omega
   obtain⟨x,hx⟩:=T2.o.1.at_.ps (i:=i) (by rw[show s2.h.P=P from T2.o.1.cf.1.t HQ.o.2];exact aex)
   have hs:x.s=0:=ZA.o.2 i x (by rw[HQ.o.2];exact aex) (by rw[<-T2.o.2.h];exact hx)
   have alA:aj (aW prog 22 #[az<|ae ⟨pb,0,af⟩,ag ah i] wr<|Saw wr B pb xb (N+6+i) s2 x):=IX T2.o.1.at_ (by have:=fK.o;omega) (by rw[show s2.h.P=P from T2.o.1.cf.1.t HQ.o.2];exact aex) (by rw[T2.o.2.h];exact ZA.o.1) hx
   clear hx
   go_wp2_with fail
   refine alA.o.z ?_
   rintro e w3 ⟨n1,n2,t3⟩
   rename_i va vb iL gq
   obtain⟨aa,ac,rfl,_⟩:=lI n1
   obtain⟨ba,bc,rfl,_⟩:=lI n2
   have T3:aj (∀V,Fr aS w3 V->cO w V B pb xb s (N+6+(i+1)) (s2.gG gq iL)/\Se s (s2.gG gq iL)):=fun V f=>⟨((T2.o.1.t t3).a f).z<|by omega,T2.o.2.h,T2.o.2.L,T2.o.2.wr,T2.o.2.gt⟩
   generalize(bZ x.bG 1 4).length=l1
   generalize(bZ x.bG 2 4).length=l2
   clear n1 n2 t3 alA y0 y1 y2 Dx
   obtain⟨xe,xt,xs,xa,xM,xc,xd,xi,xw,xg⟩:=x
   simp only at hs
   subst hs
   go_wp2_with fail
   go_roundw
   case rel=>exact⟨i+1,_,by omega,by go_num,T3.o _<|bQ _⟩
   case measure=>simp[eU]<;>omega
  ·obtain rfl:i=P:=by omega
   rename ay=>w2
   have hz:aj (∀(q:Nat) (p:PL),s2.h.pl[q]? =ae p->(∀i t,p.s.nw i≠ae (t,true))/\p.s.dC=p.s.es.length):=fun q p hp=>by
    have oL:=T2.o.1.at_.pg.sn.UB (by rw[T2.o.2.h];exact ZA.o.1) (fun i x hi hx=>ZA.o.2 i x (by rw[<-T2.o.2.h];exact hi) (by rw[<-T2.o.2.h];exact hx)) hp;exact⟨oL,UC oL⟩
   go_wp2_with fail
   clear y0 y1 y2 Dx
   go_loopw [12] (fun iv w'=>∃j:Nat,j<=Q/\iv=ag ah j/\Fr aS w2 w') (fun iv _=>Q-(eU iv).toNat)
   case atStart=>exact⟨0,kH _,rfl,Fr.refl _ _⟩
   case round=>
    obtain⟨j,hj,rfl,dP⟩:=hrel
    have FR:aj (Fr aS w2 wr):=dP
    obtain⟨y0,-,y2,-⟩:=(T2.o.1.at_.a dP).cells
    rw[show s2.h.Q=Q from T2.o.1.cf.2.1.t HQ.o.1]at y2
    have Dx:=bn (T2.o.1.at_.a dP).pa.blk
    clear dP
    by_cases Lp:j<Q
    ·have EM:(j:Int)<(Q:Int):=by omega
     have sU:(0:Int)<=(j:Int):=by omega
     obtain⟨p,hp⟩:=T2.o.1.at_.q (q:=j) (by rw[show s2.h.Q=Q from T2.o.1.cf.2.1.t HQ.o.1];exact EM)
     have wB:aj (s2.h.pl[j]? =ae p):=hp
     have alB:aj (aW prog 23 #[az<|ae ⟨xb,0,af⟩,ag ah j] wr fun r w'=>∃pa pc,r=aV (dU #[iF #[aF p.out,ag ah p.s.es.length,ag ah p.s.es.length,.slice pa 0 pc],ag ah 0])/\Fr aS wr w'):=by
      have k:=T2.o.1.at_.pg.sn.dZ j p hp;have:=k.fM;have:=fK.o;refine(agB (T2.o.1.at_.a FR.o).ha hp k.inv (by omega)<|by omega).z fun r w' ⟨va,S,e,io,ni,f⟩=>?_;obtain rfl:=azl io (hz.out j p hp).1;obtain⟨pa,pc,rfl,_⟩:=lI ni;rw[(hz.out j p hp).2]at e;exact⟨pa,pc,e,f⟩
     have hlen:(p.s.es.length:Int)<=80000000:=by have:=(T2.o.1.at_.pg.sn.dZ j p hp).fM;have:=fK.o;omega
     clear hp
     go_wp2_with fail
     refine alB.o.z ?_
     rintro e w3 ⟨pa,pc,rfl,lM⟩
     have F3:aj (Fr aS w2 w3):=FR.o.t lM dw
     clear lM y0 y2 Dx alB FR
     generalize(p.s.es.length:Int)=ln
     go_wp2_with fail
     go_loopw [15,16] (fun nv kv w'=>∃kk:Nat,kk<=s2.g.wr.length/\kv=ag ah kk/\nv=ag ah ((s2.g.wr.take kk).filter fun x=>decide (x.q=(j:Int))&&decide (iR s2.g.fa x.p x.t=1)).length/\Fr aS w3 w') (fun _ kv _=>s2.g.wr.length-(eU kv).toNat)
     case atStart=>exact⟨0,kH _,rfl,by simp,bQ _⟩
     case round=>
      obtain⟨kk,uS,rfl,rfl,Rt⟩:=hrel
      have QN:aj (Fr aS w3 wr):=Rt
      have FW:aj (Fr aS w2 wr):=F3.o.t Rt dw
      have vY:=T2.o.1.at_.a FW.o
      obtain⟨wa,wc,Jr,Q4⟩:=oP vY.pa.wr
      have c7:aB wr ⟨pb,7,af⟩=ae (.slice wa s2.g.wr.length wc):=by rw[<-Jr];exact vY.cells.2.2.2.2.2.1
      have ay6:=bn vY.pa.blk
      have aDn:(s2.g.wr.length:Int)<=80000000:=by have:=T2.o.1.at_.wr;have:=fK.o;omega
      clear Rt
      by_cases h1:kk<s2.g.wr.length
      ·have h1i:(kk:Int)<(s2.g.wr.length:Int):=by omega
       have ay5:(0:Int)<=(kk:Int):=by omega
       obtain⟨x,hx⟩:∃x,s2.g.wr[kk]? =ae x:=⟨_,eY h1⟩
       have dG:=vY.pa.wr
       obtain⟨wg,akT,hv,dh,_⟩:=rF dG<|by omega
       rw[Jr]at hv
       simp only[aFi]at hv
       obtain⟨rfl,_,rfl⟩:=hv
       rw[Jr]at dG
       have r0:aB wr ⟨wg,kk*4,af⟩=ae (ag ah x.q):=BK (cs:=Wn.cs) (fun _=>rfl) dG hx (j:=0) rfl
       have r1:aB wr ⟨wg,kk*4+1,af⟩=ae (ag ah x.p):=BK (cs:=Wn.cs) (fun _=>rfl) dG hx (j:=1) rfl
       have r2:aB wr ⟨wg,kk*4+2,af⟩=ae (ag ah x.t):=BK (cs:=Wn.cs) (fun _=>rfl) dG hx (j:=2) rfl
       have HC:aj (∀V,Fr aS wr V->aW prog 18 #[az<|ae ⟨pb,0,af⟩,ag ah x.p,ag ah x.t] V fun e w'=>e=aV (.int .i64<|iR s2.g.fa x.p x.t)/\V=w'):=fun V f=>YK (B:=B) (fs:=s2.g.fa) (v:=s2.v.fv) (T2.o.1.at_.a<|FW.o.t f dw).pa.fa (T2.o.1.at_.a<|FW.o.t f dw).cells.2.2.2.2.2.2.1 x.p x.t
       have Lr:=azm (f:=fun x=>decide (x.q=(j:Int))&&decide (iR s2.g.fa x.p x.t=1)) hx
       have hle:((s2.g.wr.take kk).filter fun x=>decide (x.q=(j:Int))&&decide (iR s2.g.fa x.p x.t=1)).length<=kk:=fG (D8 _ _) (by simp<;>omega)
       generalize((s2.g.wr.take kk).filter fun x=>decide (x.q=(j:Int))&&decide (iR s2.g.fa x.p x.t=1)).length=cc at Lr hle⊢
       generalize CE:iR s2.g.fa x.p x.t=f0 at Lr
       have IW:aj (iR s2.g.fa x.p x.t=f0):=CE
       have CV:aj (((s2.g.wr.take<|kk+1).filter fun x=>decide (x.q=(j:Int))&&decide (iR s2.g.fa x.p x.t=1)).length=cc+if(decide (x.q=(j:Int))&&decide (f0=1))=true then 1 else 0):=Lr
       have hwc:eF ah ((cc:Int)+1)=(cc:Int)+1:=wrap_i64 (by omega)<|by omega
       clear hx dG Lr CE vY Jr
       go_wp2_with fail
       go_region_held3 (fun w'=>aB w' ⟨pb,7,af⟩=ae (aN (ae ⟨wg,0,af⟩) s2.g.wr.length wc)/\aB w' ⟨wg,kk*4+1,af⟩=ae (ag ah x.p)/\aB w' ⟨wg,kk*4+2,af⟩=ae (ag ah x.t))
        (first|exact⟨c7,r1,r2⟩|go_keep)
        ((go_at_call 18;with_reducible refine(HC.o _<|dR.drew).z ?_;rintro e w4 ⟨rfl,rfl⟩))
       rw[IW.o]
       have FN:aj (Fr aS w3 wr.drew):=QN.o.drew
       by_cases hq:x.q=(j:Int)
       ·rw[hq]at r0
        by_cases hf:f0=1
        ·subst hf
         go_wp2_with fail
         go_roundw
         case rel=>exact⟨kk+1,by omega,by go_num,by rw[CV.o,if_pos<|by simp[hq]];simp,FN.o⟩
         case measure=>simp[eU]<;>omega
        ·have Wj:(f0==1)=false:=by simpa using hf
         go_wp2_with fail
         go_roundw
         case rel=>exact⟨kk+1,by omega,by go_num,by rw[CV.o,if_neg<|by simp[hf]];simp,FN.o⟩
         case measure=>simp[eU]<;>omega
       ·have hqb:(x.q==(j:Int))=false:=by simpa using hq
        go_wp2_with fail
        go_roundw
        case rel=>exact⟨kk+1,by omega,by go_num,by rw[CV.o,if_neg<|by simp[hq]];simp,FN.o⟩
        case measure=>simp[eU]<;>omega
      ·obtain rfl:kk=s2.g.wr.length:=by omega
       have OI:s2.g.gt[j]? =ae (p.s.bF 0 p.s.dC):=T2.o.2.gt j p (by rw[<-T2.o.2.h];exact wB.o)
       have Vq:=T2.o.1.at_.pg.count wB.o (hz.out j p wB.o).2
       have CB:j<s2.v.gs.length:=by rw[vY.pa.gl];exact(dS.1 OI).1
       obtain⟨gg,gc,oG,Qw,_⟩:=rF vY.pa.gt<|by omega
       obtain⟨u0,yT⟩:∃u,s2.v.gs[j]? =ae u:=⟨_,eY CB⟩
       have hr:=vY.pa.rc j u0 _ yT OI
       obtain⟨ua,uc,rfl⟩:=OY hr
       have e9:aB wr ⟨pb,9,af⟩=ae (aN (ae ⟨gg,0,af⟩) s2.v.gs.length gc):=by rw[<-oG];exact vY.cells.2.2.2.2.2.2.2.1
       have eg:aB wr ⟨gg,j,af⟩=ae (.slice ua (p.s.bF 0 p.s.dC).length uc):=by
        have hr:=vY.pa.gt;rw[oG]at hr;rw[hr.cellAt j<|by omega];exact yT
       have DX:(j:Int)<(s2.v.gs.length:Int):=by omega
       rw[List.take_length]
       rw[Vq]at eg
       generalize(s2.g.wr.filter fun x=>decide (x.q=(j:Int))&&decide (iR s2.g.fa x.p x.t=1)).length=cc at eg⊢
       clear vY OI Vq CB oG yT hr Jr
       go_wp2_with fail
       exact⟨⟨j+1,by omega,by go_num,FW.o⟩,by simp[eU]<;>omega⟩
    ·go_wp2_with fail
     rw[<-lh.o]
     exact⟨rfl,⟨rfl,rfl⟩,s2,(T2.o.1.a FR.o).z<|by omega,T2.o.2⟩
end
section
open Go.RowKit Go.Maps Go.Conc
open _root_.Go.Proofs.YtkelpcjiediamaaGreat.Twin _root_.Go.Proofs.YtkelpcjiediamaaGreat.fU
open au (jd jV oU)
def Vm:Array Oper:=opsOf<|au.fH [false] s8
def alD:s8=.seq (.region 35 Vm false) .ret:=by kernel_rfl
def azu:s8≠.ret:=by
 rw[alD];intro e;cases e
def azv:au.oU rG (au.lW p8 c8)=true:=by kernel_rfl
def ZB:wQ Vm 0 162 (.move<|.tmp 5):=by and_intros<;>kernel_rfl
def ZC:wQ Vm 1 163 (.call {callee:=.value<|.func 24,args:=#[.tmp 162],argTypes:=#[40]}):=by and_intros<;>kernel_rfl
def ZE:wQ Vm 2 4 (.assign<|.tmp 163):=by and_intros<;>kernel_rfl
def azw:List.range Vm.size=[0,1,2]:=by kernel_rfl
def azx{x v:aA}{n:Nat}:(#[x,v]++gz n undef:Array aA).getD 0 ai=x:=by
 rw[D7,Ry];rfl
variable{fo:Nat->Prop}{cs:List bH}{w:ay}
def azy{s:Nat->Prop}{a:Act}{k:List Item}{cs2:List bH}{Q:au.dE->bH->ay->Prop}{D:List Nat}{f:ji}{fn:Func}{p:List Bool}{c S:Code}{K:Array aA->ay->Prop}(hK:∀x w t d,K x (au.re w t d)->K x w)(qc:prog.funcs[f]? =ae fn)(hS:S=au.fH p c)(dD:S≠.ret)(bT:au.codeOk prog au.kN (au.lW p c)=true)(hM:oU D (au.lW p c)=true)(ha:qF D ((au.bP fo s).cut w.heap.size) a.tmps)(hd:a.defers=[])
 (zN:∀t d,(au.lW p c).wp prog (fun e x w'=>e=.ret/\K x.tmps w') ⟨tidy D a.tmps,[]⟩<|au.re w t d)
 (hn:∀x w1 l,au.On w w1->K x w1->qF D ((au.bP fo s).cut w1.heap.size) (jd (lay D fun j=>a.tmps.getD j ai) x)->au.Reach (au.bP fo s) prog ((base f).at ⟨jd (lay D fun j=>a.tmps.getD j ai) x,[]⟩<|.code S::l) cs w1 Q cs2):
 au.Reach (au.bP fo s) prog ((base f).at a<|.code c::k) cs w Q cs2:=by
 refine au.Reach.ok fun WA=>?_;have h5:∀b,s b\/fo b->1<=b:=fun b hb=>(WA.low b hb).1;obtain⟨tm,df⟩:=a;obtain rfl:df=[]:=hd;have:=au.XZ (ov:=lay D fun j=>tm.getD j ai) (z:=true) (S:=S) (b:=base f) (k:=k) (cs:=cs) (cs2:=cs2) (Q:=Q) (K:=fun t d e a' w'=>e=.ret/\K a'.tmps w') (au.lets h5) (xO h5) (fun it hi=>by
  obtain rfl:it=.code (au.lW p c):=by simpa using hi
  rw[ael];exact .inr hM) (au.Kv p c hS) bT ha.tidy rfl ⟨_,qc⟩ rfl (fun t d=>aFB (zN t d) fun e a' w' hq=>⟨.inr hq.1,hq⟩)
  (fun a' w' _ _ _ ⟨t,d,t',j,e,_⟩=>by cases e) (fun _=>dD) (fun h=>by cases h) (fun _ a' w' l on QJ hd ⟨t,d,t',j,_,h⟩=>by
    obtain⟨x,df⟩:=a';obtain rfl:df=[]:=hd;exact hn x w' l on (hK _ _ _ _ h)<|.of QJ)
 rw[aem]at this;exact this
def azz{P Q T K:Int}{ao:Option Addr}{cap:Nat}{l:List Az}(hP:fO P)(hQ:fO Q)(hT:fO T)(hK:fO K)(hl:QK w ao l)(hlen:l.length<=180000):
 au.Reach (au.bP fo fun _=>False) prog (Frame.enter prog 8 #[jI P Q T K,.slice ao l.length cap] .normal) cs w (au.AtRet prog Tryz.f8 fun v w'=>v=aF true/\Fr (fun k=>w.heap.size<=k) w w') cs:=by
 rw[aF3 (c:=d8) _ func8 rfl,aze];refine jM fun d1=>?_;obtain⟨A,hA,hz,DY,DZ,hA4⟩:∃A:Array aA,#[jI P Q T K,.slice ao l.length cap]++gz (Tryz.f8.ntmps- #[jI P Q T K,.slice ao l.length cap].size) ai=A/\A.size=164/\A.getD 0 ai=jI P Q T K/\A.getD 1 ai=.slice ao l.length cap/\∀B,qF rG B A:=⟨_,rfl,by rw[ntmps8];simp,azx,aln,fun _=>alo rfl⟩;rw[hA];refine Gz (D:=rG) (w:=w.at d1) (K:=fun x w'=>(x.size=164/\x.getD 2 ai=az (ae ⟨w.heap.size,0,af⟩))/\w'.heap[w.heap.size]? =ae (aG #[ag ah P,ag ah Q,ag ah T,ag ah K] 23 (0,0))/\w'.heap.size=w.heap.size+1/\∀b,b<w.heap.size->w'.heap[b]? =w.heap[b]?) (fun _ _ _ _ h=>h) func8 I8.1 aev.1 (hA4 _) rfl (fun ta d=>aFB (azj (W:=au.re (w.at d1) ta d) (yN.t hz)<|(ug rfl).t DY) fun e x w' hq=>⟨hq.1,hq.2.1,hq.2.2.1,hq.2.2.2.1,fun b hb=>hq.2.2.2.2.block b hb id⟩) ?_;rintro x2 w1 lU ⟨⟨sz,g4⟩,hb,fP,E5⟩ uZ;have g1:=(QI (D:=rG) (f:=fun j=>A.getD j ai) (t:=x2) (i:=1) rfl (by rw[sz];decide)).t DZ;replace sz:=(yN (ov:=lay rG fun j=>A.getD j ai)).t sz;replace g4:=(ug (D:=rG) (f:=fun j=>A.getD j ai) rfl).t g4;generalize au.jd (lay rG fun j=>A.getD j ai) x2=a2 at sz g1 g4 uZ⊢
 have f1:Fr aS w w1:=⟨lU.os,lU.tape,lU.output,lU.size,fun b hb _=>E5 b hb⟩;have Zp:∀k,(fun _:Nat=>False) k->False\/w1.heap.size<=k:=fun _=>.inl;refine jM fun d2=>?_;refine uH fun d3=>?_;rw[aew.1,fF];refine BR (v:=jI P Q T K) Vk.1 Vk.2.1 Vk.2.2.1 (by decide) (fun d=>alf (x:=.tmp 2) g4 hb Vk.2.2.2) (fun d e he=>by
  obtain⟨n,rfl⟩:=alg (a:=⟨a2,[]⟩) (W:=(w1.at d3).at d) (x:=.tmp 2) g4 hb Vk.2.2.2 e he;exact Zc (bn hb) id) fun a3 e3 p3=>?_
 have zF:=uZ.put p3<|.inr<|Ve _ _ _ _;have z3:a3.tmps.size=164:=p3.sz.t sz;rw[fF];refine I4 (f:=16) (post:=fun B' v w'=>B'=au.bP fo (fun _=>False)/\∃p q t k:Nat,v=jI p q t k/\Good p q t k/\Fr aS w1 w') Zt.1 Zt.2.1 Zt.2.2.1 (by decide) Zt.2.2.2 func16 rfl rfl (vs:=#[jI P Q T K]) ?_ (fun d=>(azd (w:=w1.at d) hP hQ hT hK).z fun B' v w' hg=>?_) ?_
 ·have e1:a3.eval (.tmp 18)=jI P Q T K:=p3.at_ (by show 18<a2.size;rw[sz];decide);simp[e1]
 ·obtain⟨h1,p,q,t,k,h2,h3,h4⟩:=hg;exact⟨h1,p,q,t,k,h2,h3,h4.os,h4.tape,h4.output,h4.size,h4.block⟩
 rintro B' v w2 a4 p4 ⟨rfl,p,q,t,k,rfl,hg,f2⟩;have Gx:w1.heap.size<=w2.heap.size:=f2.size;have ES:=(zF.z fun v hv=>KE (s1:=fun _=>False) Zp Gx hv).put p4<|.inr<|Ve p q t k;have z4:a4.tmps.size=164:=p4.sz.t z3;have g14:a4.tmps.getD 1 ai=.slice ao l.length cap:=(p4.ne 1<|by decide).t ((p3.ne 1<|by decide).t g1);refine Aw Zu.1 Zu.2.1 Zu.2.2.1 (by decide) (.inl Zu.2.2.2) g14 fun a5 e5 p5=>?_;have BP:=ES.put p5<|.inl rfl;have z5:a5.tmps.size=164:=p5.sz.t z4;have f02:Fr aS w w2:=f1.t f2 dw;have AU:QK w2 ao l:=fun i x hx=>by
  obtain⟨⟨sb,so,e,h1,h2⟩,h3⟩:=hl i x hx;exact⟨⟨sb,so,e,by omega,Az.bg (B:=w.heap.size) h2 (f02.z dw) (dI _) h1⟩,h3⟩
 refine I4 (f:=15) (post:=alm fo w2 l.length) Zv.1 Zv.2.1 Zv.2.2.1 (by decide) Zv.2.2.2 func15 rfl rfl (vs:=#[jI p q t k,.slice ao l.length cap]) ?_ (fun d=>(ayU (w:=w2.at d) hg AU<|by omega).z fun B' v w' hg=>?_) ?_
 ·have e1:a5.eval (.tmp 19)=jI p q t k:=(p5.ne 19<|by decide).t (p4.at_ (by rw[z3];decide));have e2:a5.eval (.tmp 20)=.slice ao l.length cap:=p5.at_ (by rw[z4];decide);simp[e1,e2]
 ·obtain⟨s1,B,pb,xb,n,s,h1,h2,h3,h4,h5,h6,h7,h8⟩:=hg.ex;exact⟨s1,B,pb,xb,n,s,h1,h2,h3,h4,h5,h6,h7,h8.os,h8.tape,h8.output,h8.size,h8.block⟩
 rintro B' v w3 a6 p6 iT;obtain⟨s1,B,pb,xb,n,s,rfl,rfl,at3,hn,hp,hB,AX,Zr⟩:=iT.ex;have g:∀k,s1 k->False\/w2.heap.size<=k:=fun k hk=>.inr<|fG AX<|hB k hk;have sz3:w2.heap.size<=w3.heap.size:=Zr.size;have I9:au.aI ((au.bP fo s1).cut w3.heap.size) (az<|ae ⟨pb,0,af⟩):=zA hp<|bn at3.pa.blk;have BQ:=(BP.z fun v hv=>KE g sz3 hv).put p6<|.inr I9;have z6:a6.tmps.size=164:=p6.sz.t z5;refine Aw Zw.1 Zw.2.1 Zw.2.2.1 (by decide) (.inr Zw.2.2.2) (p6.at_ (by rw[z5];decide)) fun a7 e7 p7=>?_;have I7:=BQ.put p7<|.inr I9;have z7:a7.tmps.size=164:=p7.sz.t z6;have g97:a7.tmps.getD 5 ai=az (ae ⟨pb,0,af⟩):=p7.at_ (by rw[z6];decide);have df7:a7.defers=[]:=p7.df.t<|p6.df.t<|p5.df.t<|p4.df.t p3.df;refine uI fun d4=>?_;refine jM fun d5=>?_;rw[fF,fF];refine Gz (D:=rG) (w:=w3.at d5) (K:=fun x w'=>(x.size=164/\x.getD 5 ai=az (ae ⟨pb,0,af⟩))/\w'.heap=w3.heap) (fun _ _ _ _ h=>h) func8 I8.2.1 aev.2.1 I7 df7 (fun t d=>aFB (azh (yN.t z7)<|(ug rfl).t g97) fun e x w' hq=>⟨hq.1,hq.2.1,by rw[hq.2.2];rfl⟩) fun x8 w4 xK hK alE=>?_;obtain⟨⟨z8,h9⟩,hh4⟩:=hK;replace h9:=(ug (D:=rG) (f:=fun j=>a7.tmps.getD j ai) rfl).t h9;replace z8:=(yN (ov:=lay rG fun j=>a7.tmps.getD j ai)).t z8;generalize au.jd (lay rG fun j=>a7.tmps.getD j ai) x8=a8 at z8 h9 alE⊢
 have at4:bJ w4 B pb xb n s:=at3.same hh4;have fr4:Fr (fun k=>B<=k) w2 w4:=(Zr.wP (d:=d5)).KI xK hh4;have azC:au.aI ((au.bP fo s1).cut w4.heap.size) (az<|ae ⟨pb,0,af⟩):=zA hp<|bn at4.pa.blk;refine jM fun d6=>?_;refine uH fun d7=>?_;rw[aew.2.1,fF];refine Aw Zx.1 Zx.2.1 Zx.2.2.1 (by decide) (.inl Zx.2.2.2) h9 fun a9 e9 p9=>?_;have azD:=alE.put p9<|.inr azC;rw[fF];refine I4 (f:=19) (post:=fun B' v w'=>B'=au.bP fo s1/\v=aF true/\∃s',wO w4 w' B pb xb s (n+4) s'/\s'.h.up=true/\∀(k:Nat) (p:PL),s'.h.pl[k]? =ae p->p.out=false) Zy.1 Zy.2.1 Zy.2.2.1 (by decide) Zy.2.2.2 func19 rfl rfl (vs:=#[az<|ae ⟨pb,0,af⟩]) ?_ (fun d=>(ax8 (w:=w4.at d) (at4.same rfl) (by omega) hp).z fun B' v w' hg=>?_) ?_
 ·have e1:a9.eval (.tmp 24)=az (ae ⟨pb,0,af⟩):=p9.at_ (by show 24<a8.size;rw[z8];decide);simp[e1]
 ·obtain⟨q1,q2,s',⟨f1,⟨f2,f3,f4,f5,f6⟩,f7⟩,q4⟩:=hg;exact⟨q1,q2,s',⟨f1,⟨f2,f3,f4,f5,f6⟩,f7⟩,q4⟩
 rintro B' v w5 QC Oj ⟨rfl,rfl,s5,aeB,up5,in5⟩;have sz5:w4.heap.size<=w5.heap.size:=aeB.dX.size;have Zo:=(azD.put Oj<|.inr .bool).z fun v hv=>KE (s1:=s1) (fun _=>.inl) sz5 hv;have z9:a9.tmps.size=164:=p9.sz.t z8;have z10:QC.tmps.size=164:=Oj.sz.t z9;refine Aw Zz.1 Zz.2.1 Zz.2.2.1 (by decide) (.inr Zz.2.2.2) (Oj.at_ (by rw[z9];decide)) fun ER e11 Ol=>?_;have aeq:=Zo.put Ol<|.inr .bool;have z11:ER.tmps.size=164:=Ol.sz.t z10;have g5:ER.tmps.getD 5 ai=az (ae ⟨pb,0,af⟩):=(Ol.ne 5<|by decide).t ((Oj.ne 5<|by decide).t<|(p9.ne 5<|by decide).t h9);have g6:ER.tmps.getD 6 ai=aF true:=Ol.at_ (by rw[z10];decide);refine uI fun d8=>?_;refine jM fun d9=>?_;rw[fF,fF];refine Gz (D:=rG) (w:=w5.at d9) (K:=fun x w'=>(x.size=164/\x.getD 5 ai=az (ae ⟨pb,0,af⟩))/\w'.heap=w5.heap) (fun _ _ _ _ h=>h) func8 I8.2.2 aev.2.2 aeq (Ol.df.t<|Oj.df.t p9.df) (fun t d=>aFB (azi (yN.t z11) ((ug rfl).t g5)<|(ug rfl).t g6) fun e x w' hq=>⟨hq.1,hq.2.1,by rw[hq.2.2];rfl⟩) fun x12 w6 on6 hK alG=>?_;obtain⟨⟨z12,Ro⟩,hh6⟩:=hK;replace Ro:=(ug (D:=rG) (f:=fun j=>ER.tmps.getD j ai) rfl).t Ro;replace z12:=(yN (ov:=lay rG fun j=>ER.tmps.getD j ai)).t z12;generalize au.jd (lay rG fun j=>ER.tmps.getD j ai) x12=a12 at z12 Ro alG⊢
 have ZF:bJ w6 B pb xb (n+4) s5:=aeB.at_.same hh6;have fr6:Fr (fun k=>B<=k) w2 w6:=((fr4.t aeB.dX fun _=>.inl).wP (d:=d9)).KI on6 hh6;refine jM fun e1=>?_;refine jM fun e2=>?_;refine uH fun e3=>?_;rw[aew.2.2,fF,fF];refine BR (v:=ag ah 0) Vl.1 Vl.2.1 Vl.2.2.1 (by decide) (fun d=>Zb Vl.2.2.2) (fun d e he=>by rw[aen Vl.2.2.2]at he;simp at he) fun a13 e13 WG=>?_;have azI:=alG.put WG<|.inr .int;refine uI fun d12=>?_;refine jr (fun _=>aFs) fun d13=>?_;refine jr (fun _=>aFX) fun d14=>?_;rw[fF,fF,fF];have Bg:=ZF.pg.sn.T1;have hK1:=ZF.pg.sn.K1;obtain⟨M,hM⟩:=qY (show 0<=s5.h.T+2*s5.h.K+8 by omega);have T13:T8 pb 0 a13.tmps:=⟨WG.sz.t z12,(WG.ne 5<|by decide).t Ro,WG.at_ (by show 7<a12.size;rw[z12];decide)⟩;refine als NM (K:=T8 pb) (X:=fun _ _ s=>s.h.T+2*s.h.K+8=M) (V:=M+1) (M:=M) (n0:=n+4) (w0:=w2) (B:=B) (pb:=pb) (xb:=xb) aly (fun _ _ _ _ x _=>x) (fun _ _ _ _ s s2 x _ cf _ _ _ _ _=>by rw[cf.2.2.1,cf.2.2.2];exact x) (fun i a f w s n T A x=>azg T A x) (fun i a W T hi=>azf T<|by omega) (by omega) (by omega) (c:=c8) ?_ M 0 (n+4) s1 a13 _ s5 (by omega) ⟨T13,WG.df,azI,ZF.same rfl,by omega,hM,up5,in5,fun i x _ hx=>ZF.pg.sn.lv up5 (by rw[hM];rfl) hx,hp,hB,fr6.wP⟩;intro s2 n2 a14 w7 s6 R;have alJ:∀(i:Nat) (x:PS),(i:Int)<s6.h.P->s6.h.ps[i]? =ae x->x.s=0:=fun i x h1 h2=>by
  have v:=R.lv i x h1 h2;rw[show M+1-1-M=0 by omega]at v;exact v.over<|R.at_.pg.sn.up R.up i x h2
 have tq:n2<=63000000:=by have:=R.fM;omega
 refine azy (D:=rG) (p:=p8) (c:=c8) (S:=s8) (w:=w7) (K:=fun x w'=>(x.size=164/\x.getD 5 ai=az (ae ⟨pb,0,af⟩))/\∃s',bJ w' B pb xb (n2+12) s'/\Se s6 s'/\∀b,b<w7.heap.size->¬B<=b->w'.heap[b]? =w7.heap[b]?) (fun _ _ _ _ ⟨h1,s',h2,h3,h4⟩=>⟨h1,s',h2.same rfl,h3,h4⟩) func8 rfl azu azk azv R.ok R.df (fun t d=>aFB (azn (w:=au.re w7 t d) (aly.lay _ _ _ R.T) (R.at_.same rfl) (by omega) R.up alJ) fun e x w' hq=>⟨hq.1,hq.2.1,by
  obtain⟨s',t',se⟩:=hq.2.2;exact⟨s',t'.at_,se,fun b hb h=>(t'.dX<|R.at_.same (w1:=au.re w7 t d) rfl).block b hb h⟩⟩) ?_
 rintro NH w8 l8 ZG ⟨⟨Vo,OH⟩,s7,WH,se,hf8⟩ NK;replace OH:=(ug (D:=rG) (f:=fun j=>a14.tmps.getD j ai) rfl).t OH;replace Vo:=(yN (ov:=lay rG fun j=>a14.tmps.getD j ai)).t Vo;generalize au.jd (lay rG fun j=>a14.tmps.getD j ai) NH=a15 at Vo OH NK⊢
 have fr8:Fr (fun k=>B<=k) w2 w8:=R.fr.t (⟨ZG.os,ZG.tape,ZG.output,ZG.size,fun b hb h=>hf8 b hb h⟩:Fr (fun k=>B<=k) w7 w8) fun _=>.inl;have alK:∀(i:Nat) (x:PS),(i:Int)<s7.h.P->s7.h.ps[i]? =ae x->x.s=0:=by rw[se.h];exact alJ
 have hu7:s7.h.up=true:=by rw[se.h];exact R.up
 have hc7:∀(q:Nat) (l:List Rec),s7.g.gt[q]? =ae l->l.length=Nv s7.g q:=fun q l hl=>by
  have uf:=(dS.1 hl).1;rw[WH.pg.gl]at uf;obtain⟨p,qV⟩:∃p,s7.h.pl[q]? =ae p:=⟨_,eY uf⟩;have e1:=se.gt q p (by rw[<-se.h];exact qV);rw[hl]at e1;cases e1;exact WH.pg.count qV<|UC<|WH.pg.sn.UB hu7 alK qV
 have aDp:au.aI ((au.bP fo s2).cut w8.heap.size) (az<|ae ⟨pb,0,af⟩):=zA R.hp<|bn WH.pa.blk;rw[alD];refine jM fun f1=>?_;refine uH fun f2=>?_;rw[azw,fF];refine Aw ZB.1 ZB.2.1 ZB.2.2.1 (by decide) (.inl ZB.2.2.2) OH fun a16 e16 p16=>?_;have z16:a16.tmps.size=164:=p16.sz.t Vo;rw[fF];refine I4 (f:=24) (post:=fun B' v w'=>v=aF true/\(∃s1,B'=au.bP fo s1)/\Fr (fun k=>B<=k) w8 w') ZC.1 ZC.2.1 ZC.2.2.1 (by decide) ZC.2.2.2 func24 rfl rfl (vs:=#[az<|ae ⟨pb,0,af⟩]) ?_ (fun d=>(goes_call (w:=w8.at d) (WH.same rfl) (by omega) R.hp R.hB hu7 (by rw[se.h];exact R.ins) alK hc7).z fun B' v w' hg=>?_) ?_
 ·have e1:a16.eval (.tmp 162)=az (ae ⟨pb,0,af⟩):=p16.at_ (by show 162<a15.size;rw[Vo];decide);simp[e1]
 ·exact⟨hg.1,hg.2.1,hg.2.2.os,hg.2.2.tape,hg.2.2.output,hg.2.2.size,hg.2.2.block⟩
 rintro B' v w9 a17 p17 ⟨rfl,⟨s3,rfl⟩,fr9⟩;refine Aw ZE.1 ZE.2.1 ZE.2.2.1 (by decide) (.inr ZE.2.2.2) (p17.at_ (by rw[z16];decide)) fun a18 e18 p18=>?_;refine uI fun f3=>?_;have VV:a18.defers=[]:=p18.df.t<|p17.df.t p16.df;obtain⟨azO,azP⟩:=a18;obtain rfl:azP=[]:=VV;refine jr (fun _=>step_ret) fun f4=>?_;refine au.Reach.here fun _=>⟨rfl,rfl,rfl,func8,by kernel_rfl,aF true,fun d=>⟨?_,by kernel_rfl,rfl,?_⟩⟩
 ·have e4:azO.getD 4 ai=aF true:=p18.at_ (by rw[p17.sz,z16];decide);rw[<-e4];exact aFY rfl _ _ _
 ·have g3:Fr (fun k=>w.heap.size<=k) w2 w9:=(fr8.t fr9 fun _=>.inl).z fun k hk=>.inl<|fG f02.size<|fG AX hk;have g0:Fr (fun k=>w.heap.size<=k) w w2:=f02.z dw;exact((g0.t g3 fun _=>.inl).wP (d:=f4)).wP
end
section
open Go.ChangeShapes Go.WideShapes Go.ChangeAt Go.RowKit
def azQ:ownKnob prog.godebug=none:=by kernel_rfl
def azR:prog.cellsOf 23=4:=by kernel_rfl
def alP:prog.cellsOf 28=6:=by kernel_rfl
def azS:prog.cellsOf 9=1:=by kernel_rfl
def azT:prog.cellsOf 4=1:=by kernel_rfl
variable{H:Type}{w:ay}{spare:Nat->Bool}{held:Bool}{n:Nat}{cs:List aA}
def azU{enc:dJ×aA->H}{x:DataW H×List MemPlace}(h:DataW.trod enc prog w 0 spare held n 23 cs=ae x):
 ∃P Q T K:Int,cs=[ag ah P,ag ah Q,ag ah T,ag ah K]/\fO P/\fO Q/\fO T/\fO K:=by
 obtain⟨xs,m,_,_,hl,hx,hf⟩:=DataW.trod_struct underlying23 h;rw[azR]at hl;match cs,hl with
 |[c0,c1,c2,c3],_=>
  have f0:DataW.trod enc prog w 0 spare held m 3 (([c0,c1,c2,c3].drop 0).take<|prog.cellsOf 3)=xs[0]? :=hf 0 _ rfl;have f1:DataW.trod enc prog w 0 spare held m 3 (([c0,c1,c2,c3].drop 1).take<|prog.cellsOf 3)=xs[1]? :=hf 1 _ rfl;have f2:DataW.trod enc prog w 0 spare held m 3 (([c0,c1,c2,c3].drop 2).take<|prog.cellsOf 3)=xs[2]? :=hf 2 _ rfl;have f3:DataW.trod enc prog w 0 spare held m 3 (([c0,c1,c2,c3].drop 3).take<|prog.cellsOf 3)=xs[3]? :=hf 3 _ rfl;match xs,hx with
  |[x0,x1,x2,x3],_=>
   simp only[aaT,List.drop_zero,anL,List.take_succ_cons,List.take_zero,yV,Bi]at f0 f1 f2 f3;obtain⟨a0,e0,_,w0⟩:=aFN underlying3 f0;obtain⟨a1,e1,_,w1⟩:=aFN underlying3 f1;obtain⟨a2,e2,_,w2⟩:=aFN underlying3 f2;obtain⟨a3,e3,_,w3⟩:=aFN underlying3 f3;simp only[WS,and_true]at e0 e1 e2 e3;subst e0 e1 e2 e3;exact⟨a0,a1,a2,a3,rfl,w0,w1,w2,w3⟩
def azV(d:DataW H):1<=Rows.uptoBulk d:=by
 cases d with
 |lit l=>cases l<;>simp[Rows.uptoBulk]
 |_=>simp[Rows.uptoBulk]
def alQ:∀l:List (DataW H),l.length<=Rows.uptoBulkAll l
 |[]=>kH _
 |x::r=>by
  have h1:=azV x;have h2:=alQ r;simp only[Rows.uptoBulkAll,oH];omega
def alR{enc:dJ×aA->H}{x:DataW H×List MemPlace}(h:DataW.trod enc prog w 0 spare held n 28 cs=ae x):
 ∃y:Az,cs=[ag ah y.k,ag ah y.p,ag ah y.q,ag ah y.m,dK y.s,aF y.c]/\fO y.p/\fO y.q/\fO y.m/\7<=Rows.uptoBulk x.1:=by
 obtain⟨xs,m,_,iJ,hl,hx,hf⟩:=DataW.trod_struct underlying28 h;rw[alP]at hl;match cs,hl with
 |[c0,c1,c2,c3,c4,c5],_=>
  have f0:DataW.trod enc prog w 0 spare held m 3 (([c0,c1,c2,c3,c4,c5].drop 0).take<|prog.cellsOf 3)=xs[0]? :=hf 0 _ rfl;have f1:DataW.trod enc prog w 0 spare held m 3 (([c0,c1,c2,c3,c4,c5].drop 1).take<|prog.cellsOf 3)=xs[1]? :=hf 1 _ rfl;have f2:DataW.trod enc prog w 0 spare held m 3 (([c0,c1,c2,c3,c4,c5].drop 2).take<|prog.cellsOf 3)=xs[2]? :=hf 2 _ rfl;have f3:DataW.trod enc prog w 0 spare held m 3 (([c0,c1,c2,c3,c4,c5].drop 3).take<|prog.cellsOf 3)=xs[3]? :=hf 3 _ rfl;have f4:DataW.trod enc prog w 0 spare held m 9 (([c0,c1,c2,c3,c4,c5].drop 4).take<|prog.cellsOf 9)=xs[4]? :=hf 4 _ rfl;have f5:DataW.trod enc prog w 0 spare held m 4 (([c0,c1,c2,c3,c4,c5].drop 5).take<|prog.cellsOf 4)=xs[5]? :=hf 5 _ rfl;match xs,hx with
  |[x0,x1,x2,x3,x4,x5],_=>
   simp only[aaT,azT,azS,List.drop_zero,anL,List.take_succ_cons,List.take_zero,yV,Bi]at f0 f1 f2 f3 f4 f5;obtain⟨a0,e0,_,_⟩:=aFN underlying3 f0;obtain⟨a1,e1,_,w1⟩:=aFN underlying3 f1;obtain⟨a2,e2,_,w2⟩:=aFN underlying3 f2;obtain⟨a3,e3,_,w3⟩:=aFN underlying3 f3;obtain⟨a4,e4,d4,_⟩:=DataW.trod_string underlying9 f4;obtain⟨a5,e5,_⟩:=DataW.trod_bool underlying4 f5;simp only[WS,and_true]at e0 e1 e2 e3 e4 e5;subst e0 e1 e2 e3 e4 e5;refine⟨⟨a0,a1,a2,a3,a4,a5⟩,rfl,w1,w2,w3,?_⟩;rw[iJ];have h:=alQ [x0.1,x1.1,x2.1,x3.1,x4.1,x5.1];simp only[Rows.uptoBulk,rQ,tC,oH,wu]at h⊢
   omega
def alS:∀l m:List (DataW H),Rows.uptoBulkAll (l++m)=Rows.uptoBulkAll l+Rows.uptoBulkAll m
 |[],m=>by simp[Rows.uptoBulkAll]
 |x::r,m=>by
  rw[nY];simp only[Rows.uptoBulkAll,alS r m];omega
def alT{α:Type}{p:Nat->α->Prop}:∀(n:Nat),(∀i,i<n->∃x,p i x)->∃l:List α,l.length=n/\∀(i:Nat) x,l[i]? =ae x->p i x
 |0,_=>⟨[],rfl,fun i x h=>by simp at h⟩
 |n+1,h=>by
  obtain⟨l,hl,hp⟩:=alT n (fun i hi=>h i<|by omega);obtain⟨x,hx⟩:=h n (by omega);refine⟨l++[x],by simp[hl],fun i y hy=>?_⟩;by_cases hi:i<l.length
  ·rw[vg hi]at hy;exact hp i y hy
  ·rw[yj<|by omega]at hy;have h0:i-l.length=0:=by
    have:=(List.getElem?_eq_some_iff.mp hy).1;simp at this;omega
   rw[h0]at hy;obtain rfl:x=y:=by simpa using hy
   have:i=n:=by omega
   subst this;exact hx
def alU{D:Nat->DataW H}:∀n:Nat,(∀i,i<n->7<=Rows.uptoBulk (D i))->7*n<=Rows.uptoBulkAll ((List.range n).map D)
 |0,_=>kH _
 |n+1,h=>by
  have h1:=alU n fun i hi=>h i (by omega);have h2:=h n (by omega);rw[aaK,OO,alS];simp only[rQ,tC,Rows.uptoBulkAll];omega
def azW{enc:dJ×aA->H}{v:aA}{x:DataW H×List MemPlace}(h:DataW.trod enc prog w 0 (fun _=>true) true n 26 v.cells.toList=ae x)(hv:∃a l c,v=.slice a l c):
 ∃ao cap,∃l:List Az,v=.slice ao l.length cap/\QK w ao l/\7*l.length<=Rows.uptoBulk x.1:=by
 obtain⟨a0,l0,c0,rfl⟩:=hv;rcases Deep.open_slice underlying26 h with⟨hcs,rfl⟩|⟨a,len,cap,m,k,D,Pl,hcs,_,hl,hm,ZH,rfl,qX⟩
 ·simp[Value.cells]at hcs;obtain⟨rfl,rfl,rfl⟩:=hcs;exact⟨af,0,[],rfl,fun i x hx=>by simp at hx,kH _⟩
 ·simp[Value.cells]at hcs;obtain⟨rfl,rfl,rfl⟩:=hcs;simp only[if_true]at ZH;subst ZH;rw[alP]at qX;obtain⟨l,hls,dF⟩:=alT (p:=fun i (y:Az)=>i<l0/\(∃sb so,ae a=ae (⟨sb,so,af⟩:Addr)/\sb<w.heap.size/\y.at_ w sb (so+i*6))/\fO y.p/\fO y.q/\fO y.m/\7<=Rows.uptoBulk (D i)) l0 (fun i hi=>by
   obtain⟨cs,h1,h2⟩:=qX i (by omega);obtain⟨y,rfl,w1,w2,w3,h7⟩:=alR h2;obtain⟨_,_,hcell⟩:=World.cells?_some h1;obtain⟨cs0,g1,g2⟩:=qX 0 (by omega);obtain⟨y0,rfl,_⟩:=alR g2;obtain⟨_,_,azX⟩:=World.cells?_some g1;obtain⟨sb,so,spot⟩:=a;have h0:=azX 0 (by omega);have aBT:spot=none:=by
    have:=World.cell?_spot h0;simpa[Addr.add]using this
   subst aBT;have hc:∀j u,j<6->[Value.int .i64 y.k,ag ah y.p,ag ah y.q,ag ah y.m,dK y.s,aF y.c][j]? =ae u->aB w ⟨sb,so+i*6+j,af⟩=ae u:=fun j u hj hu=>by
    have:=hcell j hj;rw[aFA,aFA]at this;rw[this];exact hu
   exact⟨y,hi,⟨sb,so,rfl,World.block_lt_of_cell? w ⟨sb,so+i*6+0,af⟩<|hc 0 _ (by omega) rfl,⟨hc 0 _ (by omega) rfl,hc 1 _ (by omega) rfl,hc 2 _ (by omega) rfl,hc 3 _ (by omega) rfl,hc 4 _ (by omega) rfl,hc 5 _ (by omega) rfl⟩⟩,w1,w2,w3,h7⟩)
  refine⟨ae a,_,l,by rw[hls],fun i x hx=>?_,?_⟩
  ·obtain⟨_,h1,h2,h3,h4,_⟩:=dF i x hx;exact⟨h1,h2,h3,h4⟩
  ·have:=alU (D:=D) l0 fun i hi=>by
    obtain⟨_,_,_,_,_,h7⟩:=dF i _ (eY<|by omega);exact h7
   simp only[Rows.uptoBulk];omega
end
section
open Go.ChangeShapes Go.WideShapes Go.ChangeAt Go.RowKit
def was(n:Nat):Nat->Prop:=fun b=>b=1\/(5<=b/\b<n)
def azY:(begin prog (fun _ _=>0) default).world.heap.size=5:=by kernel_rfl
def azZ:(begin prog (fun _ _=>0) default).world.heap[0]? =ae (.cells ((Array.range prog.types.size).map fun t=>.int .u64<|Int.ofNat t) 0):=by kernel_rfl
def az0:(begin prog (fun _ _=>0) default).world.heap[2]? =ae (.finalizers #[] af):=by kernel_rfl
def az1:(begin prog (fun _ _=>0) default).world.heap[3]? =ae (aG #[aF false] 0):=by kernel_rfl
def az2:(begin prog (fun _ _=>0) default).world.heap[4]? =ae (.finalizers #[] af):=by kernel_rfl
def gsz:prog.globals.size=0:=by kernel_rfl
def alX{o:Obj}(h:o.alike (.finalizers #[] af)):∃a b,o=.finalizers a b:=by
 cases o with
 |finalizers a b=>exact⟨a,b,rfl⟩
 |_=>cases h
def az3{w:ay}(h:w.ShapedOpen prog):au.pI (au.bP (was w.heap.size) fun _=>False) w:=by
 have hk:∀k,k<5->∃o o₀,w.heap[k]? =ae o/\(begin prog (fun _ _=>0) default).world.heap[k]? =ae o₀/\(if World.looseAt k=true then o.alike o₀ else o=o₀):=fun k hk=>by
  have:=h.2 k (by rw[gsz];exact kH _) (by rw[azY];exact hk);rw[gsz]at this;exact this
 have h5:5<=w.heap.size:=by
  obtain⟨o,_,ho,_⟩:=hk 4 (by decide);exact(jF.1 ho).1
 refine⟨fun b o hb ho=>?_,fun b hb=>?_,h5⟩
 ·have aK:=(jF.1 ho).1;have jw:¬was w.heap.size b:=fun z=>hb<|.inl<|.inr z;have h4:b<5:=Nat.lt_of_not_le fun z=>jw<|.inr ⟨z,aK⟩;have h1:b≠1:=fun z=>jw<|.inl z;obtain⟨o',o₀,e1,e2,e3⟩:=hk b h4;rw[ho]at e1;cases e1;match b,h4,h1 with
  |0,_,_=>
   rw[azZ]at e2;cases e2;have e:o=_:=e3;subst e;intro v hv;obtain⟨t,_,rfl⟩:=WT.1 hv;exact .int
  |2,_,_=>
   rw[az0]at e2;cases e2;obtain⟨_,_,rfl⟩:=alX e3;trivial
  |3,_,_=>
   rw[az1]at e2;cases e2;have e:o=_:=e3;subst e;intro v hv;simp at hv;subst hv;exact .bool
  |4,_,_=>
   rw[az2]at e2;cases e2;obtain⟨_,_,rfl⟩:=alX e3;trivial
 ·rcases hb with hb|hb|hb
  ·exact hb.e
  ·subst hb;exact⟨dI _,by omega⟩
  ·exact⟨by omega,hb.2⟩
def az4{p:Pinned}{s:OpenSpec}{c:OpenClaim}(f:ji)(fn:Func)
 (hn:c.program=p.name)(hs:c.sum=p.sum)(hsp:c.spec=s.name)
 (hstart:c.start=.entering)(GL:c.outside=[])(fZ:c.inits=[])(G5:c.under=af)(hi4:c.initsInPlace=[]/\c.initsUnfollowed=false/\c.initsRecurse=false/\c.initsNamed=[]/\c.initsPassed=[])(hnb:c.noBlocks=false)(hlv:c.leaving=true)(yS:c.followed=af)(aBW:c.narrowed=s.cond.isSome)(OB:c.still=false)
 (qc:p.checked.prog.funcNamed c.func=ae f)(hf:p.checked.prog.funcs[f]? =ae fn)
 (closed:joinedFacts p.checked.prog f fn s.bare c=true)
 (aBX:fn.isInstance p.checked.prog c.origin c.targs)(aBY:fn.isWrapper p.checked.prog c.wrapper c.mainSum)
 (h:∀os:Os,os.Started->∀(H:Type) (enc:dJ×aA->H),(∀a b,enc a=enc b->a=b)->∀F:Stop.Interp,
   ReturnsInLeavingWide c.assume p.checked os f .any (c.pre enc p.checked.prog fn s) ((s.at F).post enc p.checked.prog fn c.apart c.fresh c.handsOn c.again)):c.holds p s:=by
 simp only[joinedFacts,mX,beq_iff_eq,anA,aaJ,WN]at closed
 obtain⟨⟨⟨⟨⟨⟨⟨⟨⟨⟨⟨⟨⟨⟨⟨⟨⟨⟨⟨⟨⟨⟨⟨⟨⟨⟨⟨⟨⟨⟨⟨k1,k2⟩,k3⟩,k4⟩,k5⟩,k6⟩,k7⟩,k8⟩,k9⟩,Ws⟩,k11⟩,k12⟩,Wu⟩,Wv⟩,k15⟩,k16⟩,k17⟩,aB3⟩,k18⟩,k19⟩,zX⟩,k21⟩,k22⟩,k23⟩,aB8⟩,k24⟩,aB9⟩,aCa⟩,k25⟩,k26⟩,k27⟩,k28⟩:=closed
 have hq:∀os:Os,Stop.quiet p.checked.prog os:=fun os k hk=>by rw[k9]at hk;cases hk
 refine⟨k1,hn,hs,hsp,k2,k3,by unfold OpenClaim.startFits;rw[hstart];exact k24,by unfold OpenClaim.startTold;rw[hstart];exact⟨fZ,G5,hi4⟩,f,fn,qc,hf,⟨k4,k19⟩,(fun hb=>by rw[hnb]at hb;cases hb),by unfold OpenClaim.namedList;rw[yS];exact k5,aBX,aBY,
  k6.t k7.s,⟨k8.t k9.s,by unfold Program.envWorded;rw[k9];rfl,aB8⟩,Ws,k11,k12,Wu,Wv,⟨k15,k27,k28⟩,⟨k16,zX⟩,⟨k17,k21,k25,k26⟩,⟨k22,aB9,aCa,aB3⟩,(by rw[GL,aBW];cases Ff:c.shortTexts with|none=>simp|some _=>rw[Ff]at k23;cases k23),fun n hn'=>varReadable_some<|k18 n hn',
  ⟨_,by unfold OpenClaim.world;rw[GL,hstart];exact WideRow.started_initial,hq _⟩,[],by unfold OpenClaim.lists;rw[yS],fun os st _ H enc inj=>?_⟩
 have st':os.Started:=by unfold OpenClaim.world at st;rw[GL,hstart]at st;exact st
 rw[OpenClaim.post_not_still OB]
 unfold OpenClaim.form
 rw[hstart,k6]
 intro F
 have e1:c.okInput=Input.okWide:=by unfold OpenClaim.okInput;rw[hnb]
 have e2:c.atReturn p.checked.prog=leavingAtReturn p.checked.prog:=by unfold OpenClaim.atReturn;rw[hlv]
 have e3:c.always p.checked.prog []=nothingAlways:=by unfold OpenClaim.always;rw[yS]
 have e4:s.post enc p.checked.prog fn F c.outside c.apart c.fresh c.handsOn c.again=(s.at F).post enc p.checked.prog fn c.apart c.fresh c.handsOn c.again:=by rw[GL];rfl
 rw[e1,e2,e3]
 show ReturnsInOpen _ _ _ _ _ _ _ _ (s.post enc p.checked.prog fn F c.outside c.apart c.fresh c.handsOn c.again) _ _
 rw[e4]
 exact h os st' H enc inj F k24
end
section
open Go.ChangeShapes Go.WideShapes Go.ChangeAt Go.RowKit
def az5(os:Os)(started:os.Started)(H:Type)(enc:dJ×aA->H)(F:Stop.Interp):
 ReturnsInLeavingWide {} Tryz.checked os 8 .any ((Rows.OpenSpec.upto Rows.settlesSpec).pre6 enc prog Tryz.f8 Rows.settlesUptoRow.domain false) (((Rows.OpenSpec.upto Rows.settlesSpec).at F).post enc prog Tryz.f8 false true false false):=by
 refine returnsInLeavingWide_of_good (C:=Tryz.checked) azQ started
  (OpenSpec.witness (enc:=enc) (C:=Tryz.checked) (s:=Rows.OpenSpec.upto Rows.settlesSpec) (k:=Rows.uptoSmall) rfl false ⟨#[],#[iF #[ag ah 0,ag ah 0,ag ah 0,ag ah 0],aN af 0 0],[]⟩ 8 (by kernel_rfl) (by kernel_rfl) (by kernel_rfl)
    (x:=([.agg [.lit<|.int .i64 0,.lit<|.int .i64 0,.lit<|.int .i64 0,.lit<|.int .i64 0],.nil],[],[])) (by kernel_rfl) rfl (by kernel_rfl)) ?_
 intro w0 tape i _ anx _ We anz _;obtain⟨_,_,_,fn',Ob,_,_,_,_,aaB⟩:=We;have e:fn'=Tryz.f8:=rP<|Ob.s.t func8;subst e;obtain⟨ds,gs,before,hw,_,hk⟩:=(OpenSpec.pre_some (k:=Rows.uptoSmall) rfl _ _ _ _).1 anz.1;have hW:=DataW.Whole.of_heap (w':=w0.forCall tape i) (by rfl) hw;obtain⟨ih,args,iv⟩:=i;generalize w0.forCall tape ⟨ih,args,iv⟩=W at anx hW aaB⊢
 clear hw anz Ob;simp only at hW aaB⊢
 have hval:∀(j:Nat) t v,Tryz.f8.params[j]? =ae t->args[j]? =ae v->Value.okWide prog W .any w0.heap.size t v:=aaB;have hW':=hW;obtain⟨p,q,DY,hV,rfl,_,_⟩:=hW;have hA:DataW.TrodAll enc prog W 0 (fun _=>true) true Tryz.f8.params.toList args.toList ds p:=DY;rw[params8]at hA hval;obtain⟨v0,v1,d0,d1,p0,p1,rfl,rfl,rfl,h0,h1⟩:=trodAll_two hA;obtain⟨rfl,rfl⟩:=trodVars_none hV;have bT:=hval 0 23 v0 rfl rfl;obtain⟨a0,len,cap,jP⟩:=okWide_slice underlying26<|hval 1 26 v1 rfl rfl;have h0k:=h0;have h1k:=h1;obtain⟨fuel,hf⟩:=h0;obtain⟨aE8,bU⟩:=h1;clear DY aaB;simp only[qM]at hW' hk;have aK:∀x∈p0++p1,x.block<W.heap.size:=fun x hx=>by simpa using hW'.lt x hx
 have aCi:∀(W':ay),Below W.heap.size W W'->DataW.Trod enc prog W' 0 (fun b=>decide<|b<W.heap.size) true 23 v0 d0 p0:=
  fun W' hn=>Below.trod laidOut (by kernel_rfl) (aaG<|by kernel_rfl) h0k hn fun x hx=>aK x<|CJ _ hx
 have aCj:∀(W':ay),Below W.heap.size W W'->DataW.Trod enc prog W' 0 (fun b=>decide<|b<W.heap.size) true 26 v1 d1 p1:=
  fun W' hn=>Below.trod laidOut (by kernel_rfl) (aaG<|by kernel_rfl) h1k hn fun x hx=>aK x<|Rx _ hx
 obtain⟨P,Q,T,K,hcs,hP,hQ,hT,hK⟩:=azU hf;have hv:v0=jI P Q T K:=by
  obtain⟨cs,rfl,_⟩:=okWide_struct underlying23 bT;have e:cs.toList=[ag ah P,ag ah Q,ag ah T,ag ah K]:=hcs;have e2:cs=#[ag ah P,ag ah Q,ag ah T,ag ah K]:=by rw[<-Array.toList_inj,e]
  rw[e2];rfl
 subst hv;obtain⟨ao,aeG,l,rfl,dF,hl⟩:=azW bU ⟨a0,len,cap,jP⟩;have aE9:Rows.uptoBulk d1<=1048576:=by
  have h1:Rows.uptoBulkAll [d0,d1]<=1048576:=aaG hk;simp only[Rows.uptoBulkAll]at h1;omega
 have hlen:l.length<=180000:=by
  have:7*l.length<=Rows.uptoBulk d1:=hl;omega
 obtain⟨N,last,o,w',t',r1,r2,r3,r4⟩:=au.aza (az3 anx)<|azz (cap:=aeG) hP hQ hT hK dF hlen;refine⟨N,last,o,w',t',r1,r2,r3,r4.mono fun v hvf=>?_⟩;obtain⟨rfl,dP⟩:=hvf;have hb:Below W.heap.size W w':=⟨dP.os,dP.tape,dP.output,dP.size,fun b hb=>dP.block b hb<|Nat.not_le.2 hb⟩;refine ChangeSpec.post_blind ⟨_,_,_,[],p0++p1,[],hW',?_,?_,rfl,hb.frame _,fun h=>by cases h⟩
 ·exact trodAll_mk1<|shut_bool underlying4 _
 ·exact trodAll_mk2 (aCi _ hb)<|aCj _ hb
theorem settles_holds:Rows.SettlesUptoSaid:=
 az4 8 Tryz.f8 rfl rfl rfl rfl rfl rfl rfl ⟨rfl,rfl,rfl,rfl,rfl⟩ rfl rfl rfl rfl rfl (by kernel_rfl) func8 (by kernel_rfl)
  (aaG<|by kernel_rfl) (by unfold Func.isWrapper;first|(rw[if_pos<|by decide+kernel];kernel_rfl)|(rw[if_neg<|by decide+kernel];exact⟨rfl,rfl⟩))
  (fun os started H enc _ F=>az5 os started H enc F)
end
#print axioms settles_holds
end
end Go.Proofs.YtkelpcjiediamaaGreat
