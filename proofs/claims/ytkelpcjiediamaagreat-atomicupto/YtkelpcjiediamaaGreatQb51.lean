/-
  What is proved: where the Config and the script are together of bulk at most 1,048,576, whatever the script makes producers and the network do, whatever is out and whoever crashes, Atomic answers true, and the Config and the script read behind the call as they did before.
-/
import Derived.Test.YtkelpcjiediamaaGreatQb12
import Derived.Test.YtkelpcjiediamaaGreatQb50
import Derived.ProofKit
import Derived.SizedLaws
import Derived.Deep.Slices
import Derived.JoinedCond
import Derived.Conc.Holds
set_option maxRecDepth 100000
set_option maxHeartbeats 0
set_option linter.all false
namespace Go.Proofs.YtkelpcjiediamaaGreat
def aCA:=@Go.DataW.trod_int
open Go renaming Calls→aK,Frame→aV,TypeId→bW,Value→aj,World→ah,undef→ag
open Go.RowKit renaming intOf→dX
open Option renaming none→af,some→ae
open Go.Proofs.Tryz
section
open Go.RowKit Go.Maps Go.Conc
open _root_.Go.Proofs.YtkelpcjiediamaaGreat.Twin _root_.Go.Proofs.YtkelpcjiediamaaGreat.eX
noncomputable def d7:Code:=Tryz.f7.body.getD .skip
noncomputable def SQ:Code:=ai.gK [false] d7
noncomputable def z7:Array Oper:=opsOf<|ai.gK [true,false] d7
noncomputable def c7:Code:=ai.gK [true,true] d7
def awG:d7=.seq SQ (.seq (.region 1 z7 false) c7):=by kernel_rfl
def Lp:ai.codeOk prog ai.mZ SQ=true/\ai.codeOk prog ai.mZ c7=true:=by and_intros<;>kernel_rfl
def OW:z7[0]? =ae (opAt z7 0)/\(opAt z7 0).guard=af/\(opAt z7 0).dst=ae 11/\(opAt z7 0).op=.load 23 (.tmp 2)/\List.range z7.size=[0,1,2,3,4]:=by and_intros<;>kernel_rfl
def XD:z7[1]? =ae (opAt z7 1)/\(opAt z7 1).guard=af/\(opAt z7 1).dst=ae 12/\(opAt z7 1).op=.call {callee:=.value<|.func 16,args:=#[.tmp 11],argTypes:=#[23]}:=by and_intros<;>kernel_rfl
def XE:z7[2]? =ae (opAt z7 2)/\(opAt z7 2).guard=af/\(opAt z7 2).dst=ae 13/\(opAt z7 2).op=.move (.tmp 1):=by and_intros<;>kernel_rfl
def XF:z7[3]? =ae (opAt z7 3)/\(opAt z7 3).guard=af/\(opAt z7 3).dst=ae 14/\(opAt z7 3).op=.call {callee:=.value<|.func 15,args:=#[.tmp 12,.tmp 13],argTypes:=#[23,26]}:=by and_intros<;>kernel_rfl
def XG:z7[4]? =ae (opAt z7 4)/\(opAt z7 4).guard=af/\(opAt z7 4).dst=ae 5/\(opAt z7 4).op=.assign (.tmp 14):=by and_intros<;>kernel_rfl
def awH:List.range 77=[0,1,2,3,4,5,6,7,8,9,10,11,12,13,14,15,16,17,18,19,20,21,22,23,24,25,26,27,28,29,30,31,32,33,34,35,36,37,38,39,40,41,42,43,44,45,46,47,48,49,50,51,52,53,54,55,56,57,58,59,60,61,62,63,64,65,66,67,68,69,70,71,72,73,74,75,76]:=by kernel_rfl
section
variable{w W:ah}{B pb xb N:Nat}{s:dB}{a:Array aj}
def awI{v1:aj}{p q t k:Int}:SQ.wp prog (fun e x w'=>e=.normal/\(x.tmps.size=77/\x.tmps.getD 1 ag=v1/\x.tmps.getD 2 ag=.pointer (ae ⟨W.heap.size,0,af⟩))/\w'.heap[W.heap.size]? =ae (.cells #[.int .i64 p,.int .i64 q,.int .i64 t,.int .i64 k] 23 (0,0))/\w'.heap.size=W.heap.size+1/\Fr aH W w') ⟨#[iK p q t k,v1]++Array.replicate (Tryz.f7.ntmps- #[iK p q t k,v1].size) ag,[]⟩ W:=by
 unfold iK;simp only[ntmps7,Fv,ny,vC,Nat.reduceAdd,Nat.reduceSub,Uy,Ux,UB,Uz,wI,mV];obtain⟨Q0,iT⟩:∃Q0:Exit->Act->ah->Prop,(fun e x w'=>e=.normal/\(x.tmps.size=77/\x.tmps.getD 1 ag=v1/\x.tmps.getD 2 ag=.pointer (ae ⟨W.heap.size,0,af⟩))/\w'.heap[W.heap.size]? =ae (.cells #[.int .i64 p,.int .i64 q,.int .i64 t,.int .i64 k] 23 (0,0))/\w'.heap.size=W.heap.size+1/\Fr aH W w')=Q0:=⟨_,rfl⟩;rw[iT];simp only[SQ,d7,ai.gK,Tryz.f7,gQ,lu,lq];go_wp2
 rw[<-iT];exact⟨rfl,⟨rfl,rfl,rfl⟩,aB0 _ _,by simp,aZ _⟩
def Pg.fair{h:HS}{L:List Rc}{g:PG}(c:Pg N h L g){q:Nat}{p:PL}(hp:h.pl[q]? =ae p){e:gm}(he:e∈p.s.es):¬((e.k=2/\iE g.fa e.p e.t≠1)\/(e.k=3/\iE g.fa e.p e.t=1)):=by
 rintro(⟨h1,h2⟩|⟨h1,h2⟩)
 ·have:=(c.sn.dG q p hp).dec e he (by omega);rw[jI h1]at this;exact h2<|(Ot c).2 this
 ·have:=(c.sn.dG q p hp).dec e he (by omega);rw[qC<|by omega]at this;have:=(c.sn.valid.NC e.p).one _ _ _ ((Ot c).1 h2) this;cases this
def awJ(sz:a.size=77)(a5:a.getD 5 ag=.pointer (ae ⟨pb,0,af⟩))(A0:bu w B pb xb N s)(hN:N<=80000000):c7.wp prog (fun e x w'=>e=.ret/\x.tmps.getD 4 ag=.bool true/\Fr aH w w') ⟨a,[]⟩ w:=by
 have A:Hid (bu w B pb xb N s):=A0;have fF:Hid (N<=80000000):=hN;obtain⟨Q,hQ⟩:=vw (show 0<=s.h.Q by have:=A0.pg.sn.Q1;omega);have HQ:Hid (s.h.Q=Q):=hQ;have hQ4:Q<=4:=by have:=A0.pg.sn.Q1.2;omega
 obtain⟨c0,_,c2,_,_,_,c8,_,_⟩:=A0.cells;rw[hQ]at c2;have aB:=aS A0.pa.blk;rw[Lc a,sz,awH];simp only[yM,zL,a5];simp only[Ff];clear A0 hN hQ sz a5;obtain⟨Q0,iT⟩:∃Q0:Exit->Act->ah->Prop,(fun e x w'=>e=.ret/\x.tmps[4]?.getD ag=.bool true/\Fr aH w w')=Q0:=⟨_,rfl⟩;rw[iT];simp only[c7,d7,ai.gK,Tryz.f7,gQ,if_true];have Ld:Hid ((fun e x w'=>e=.ret/\x.tmps[4]?.getD ag=.bool true/\Fr aH w w')=Q0):=iT;clear iT;go_wp2_with fail
 go_loopw [6] (fun iv w'=>∃i:Nat,i<=Q/\iv=.int .i64 i/\Fr aH w w') (fun iv _=>Q-(dX iv).toNat)
 case atStart=>exact⟨0,lK _,rfl,Fr.refl _ _⟩
 case round=>
  obtain⟨i,hi,rfl,dA⟩:=hrel
  have FR:Hid (Fr aH w wr):=dA
  have y0:=(dA.cell (p:=⟨pb,0,af⟩) aB id).trans c0
  have y2:=(dA.cell (p:=⟨pb,2,af⟩) aB id).trans c2
  have RS:pb<wr.heap.size:=dY aB dA.size
  clear dA
  by_cases hlq:i<Q
  ·have aiQ:(i:Int)<(Q:Int):=by omega
   obtain⟨p,hp⟩:=A.out.q (q:=i) (by rw[HQ.out];exact aiQ)
   have HP:Hid (s.h.pl[i]? =ae p):=hp
   clear hp
   go_wp2_with fail
   refine(amh (A.out.after FR.out).ha HP.out (by have:=(A.out.pg.sn.dG i p HP.out).eG;have:=fF.out;omega)).mono ?_
   rintro e w1 ⟨va,rfl,bY,bg⟩
   obtain⟨ea,ec,rfl,_⟩:=oL bY
   have ROW:Hid (w1.ownsRow wr.heap.size 55 4 (.slice ea p.s.es.length ec) p.s.es.length<|oh p.s.es):=bY
   have F1:Hid (Fr aH w w1):=FR.out.trans bg fun _ h=>h.elim
   have hlen:(p.s.es.length:Int)<=80000000:=by have:=(A.out.pg.sn.dG i p HP.out).eG;have:=fF.out;omega
   clear bY bg y0 y2 RS
   go_wp2_with fail
   go_loopw [9] (fun kv w'=>∃kk:Nat,kk<=p.s.es.length/\kv=.int .i64 kk/\Fr aH w1 w') (fun kv _=>p.s.es.length-(dX kv).toNat)
   case atStart=>exact⟨0,lK _,rfl,Fr.refl _ _⟩
   case round=>
    obtain⟨kk,uu,rfl,adA⟩:=hrel
    have FR2:Hid (Fr aH w1 wr):=adA
    have F2:Hid (Fr aH w wr):=F1.out.trans adA fun _ h=>h.elim
    have y8:=(F2.out.cell (p:=⟨pb,8,af⟩) aB id).trans c8
    have RS:pb<wr.heap.size:=dY aB F2.out.size
    clear adA
    by_cases h1:kk<p.s.es.length
    ·have h1i:(kk:Int)<(p.s.es.length:Int):=by omega
     have sV:(0:Int)<=(kk:Int):=by omega
     obtain⟨x,hx⟩:∃x,p.s.es[kk]? =ae x:=⟨_,dR h1⟩
     have bY:=FR2.out.ownsRow ROW.out fun _ _=>id
     obtain⟨wg,avi,hv,bH,_⟩:=uO bY<|by omega
     simp only[aB7]at hv
     obtain⟨rfl,_,rfl⟩:=hv
     have r0:wr.cell? ⟨wg,kk*4,af⟩=ae (.int .i64 x.k):=BC (cs:=gm.cs) (fun _=>rfl) bY hx (j:=0) rfl
     have r1:wr.cell? ⟨wg,kk*4+1,af⟩=ae (.int .i64 x.p):=BC (cs:=gm.cs) (fun _=>rfl) bY hx (j:=1) rfl
     have r2:wr.cell? ⟨wg,kk*4+2,af⟩=ae (.int .i64 x.t):=BC (cs:=gm.cs) (fun _=>rfl) bY hx (j:=2) rfl
     have HC:Hid (∀V,Fr aH wr V->aK prog 18 #[.pointer<|ae ⟨pb,0,af⟩,.int .i64 x.p,.int .i64 x.t] V fun e w'=>e=.returned (.int .i64<|iE s.g.fa x.p x.t)/\V=w'):=fun V f=>WS (B:=B) (fs:=s.g.fa) (v:=s.v.fv) ((F2.out.trans f fun _ h=>h.elim).ownsRow A.out.pa.fa fun _ _=>id) ((f.cell (p:=⟨pb,8,af⟩) RS id).trans y8) _ _
     have HF:=A.out.pg.fair HP.out<|fD hx
     have HKD:=(A.out.pg.sn.dG i p HP.out).inv.kinds x<|fD hx
     have HFK:Hid (¬((x.k=2/\iE s.g.fa x.p x.t≠1)\/(x.k=3/\iE s.g.fa x.p x.t=1))/\(x.k=1\/x.k=2\/x.k=3)):=⟨HF,HKD⟩
     clear hx bY HF HKD
     go_wp2_with fail
     go_region_held3 (fun w'=>w'.cell? ⟨wg,kk*4+1,af⟩=ae (.int .i64 x.p)/\w'.cell? ⟨wg,kk*4+2,af⟩=ae (.int .i64 x.t))
      (first|exact⟨r1,r2⟩|go_keep)
      ((go_at_call 18;with_reducible refine(HC.out _<|(Fr.refl _ _).drew).mono ?_;rintro e w3 ⟨rfl,rfl⟩))
     have FN:Hid (Fr aH w1 wr.drew):=FR2.out.drew
     generalize AO:iE s.g.fa x.p x.t=f0
     have EF:Hid (iE s.g.fa x.p x.t=f0):=AO
     clear AO r1 r2
     rcases HFK.out.2 with hk|hk|hk
     ·rw[hk]at r0
      go_wp2_with fail
      go_roundw
      case rel=>exact⟨kk+1,by omega,by go_num,FN.out⟩
      case measure=>simp[dX]<;>omega
     ·obtain rfl:f0=1:=Fg fun bM=>HFK.out.1 (.inl ⟨hk,by rw[EF.out];exact bM⟩)
      rw[hk]at r0
      go_wp2_with fail
      go_roundw
      case rel=>exact⟨kk+1,by omega,by go_num,FN.out⟩
      case measure=>simp[dX]<;>omega
     ·have bM:f0≠1:=fun e=>HFK.out.1 (.inr ⟨hk,by rw[EF.out];exact e⟩)
      have aBV:(f0==1)=false:=by simpa using bM
      rw[hk]at r0
      clear bM
      go_wp2_with fail
      go_roundw
      case rel=>exact⟨kk+1,by omega,by go_num,FN.out⟩
      case measure=>simp[dX]<;>omega
    ·go_wp2_with fail
     exact⟨⟨i+1,by omega,by go_num,F2.out⟩,by simp[dX]<;>omega⟩
  ·go_wp2_with fail
   rw[<-Ld.out]
   exact⟨rfl,rfl,FR.out⟩
end
def awK{fo s0:Nat->Prop}{w:ah}{P Q T K:Int}(hP:dQ P)(hQ:dQ Q)(hT:dQ T)(hK:dQ K):
 ai.ug (ai.bz fo s0) prog 16 #[iK P Q T K] w (fun B' v w'=>B'=ai.bz fo s0/\∃p q t k:Nat,v=iK p q t k/\Good p q t k/\Fr aH w w'):=by
 intro c cs;refine ai.Reach.ok fun bD=>?_;have h5:∀b,s0 b\/fo b->1<=b:=fun b hb=>(bD.low b hb).1;refine(ai.agd (R:=fun t d e w'=>∃p q t' k:Nat,e=.returned (iK p q t' k)/\Good p q t' k/\Fr aH (ai.re w t d) w') (ai.lets h5) (zk h5) (by kernel_rfl) (ai.bG.one<|SL _ _ _ _) (fun t d=>awF hP hQ hT hK) (fun t d e w' ⟨p,q,t',k,h,_⟩=>⟨_,h⟩) c cs).mono ?_;rintro B' fr' w' ⟨v,rfl,rfl,_,on,t,d,t',j,p,q,t2,k,he,hg,hf⟩;refine⟨v,rfl,rfl,p,q,t2,k,by simpa using he,hg,⟨on.os,on.tape,on.output,on.size,fun b hb h=>hf.block b hb h⟩⟩
def DD:List Nat:=[1,13]
def ajr:ai.qK DD SQ=true/\ai.qK DD c7=true:=by and_intros<;>kernel_rfl
def awL{fo:Nat->Prop}{w:ah}{P Q T K:Int}{ao:Option Addr}{cap:Nat}{l:List zl}(hP:dQ P)(hQ:dQ Q)(hT:dQ T)(hK:dQ K)(hl:OT w ao l)(hlen:l.length<=200000){cs:List aV}:
 ai.Reach (ai.bz fo fun _=>False) prog (Frame.enter prog 7 #[iK P Q T K,.slice ao l.length cap] .normal) cs w (ai.AtRet prog Tryz.f7 fun v w'=>v=.bool true/\Fr (fun k=>w.heap.size<=k) w w') cs:=by
 rw[aCX (c:=d7) _ func7 rfl,awG];refine lU fun d1=>?_;obtain⟨A,hA,Cc,Cf,TW⟩:∃A:Array aj,#[iK P Q T K,.slice ao l.length cap]++Array.replicate (Tryz.f7.ntmps- #[iK P Q T K,.slice ao l.length cap].size) ag=A/\A.getD 1 ag=.slice ao l.length cap/\tidy DD A=#[iK P Q T K,ag]++Array.replicate (Tryz.f7.ntmps- #[iK P Q T K,ag].size) ag/\∀B,qO DD B A:=⟨_,rfl,ajm,ajc ⟨rfl,rfl⟩,fun _=>ajn rfl⟩;rw[hA];refine Sr (D:=DD) (w:=w.at d1) (K:=fun x w'=>(x.size=77/\x.getD 1 ag=ag/\x.getD 2 ag=.pointer (ae ⟨w.heap.size,0,af⟩))/\w'.heap[w.heap.size]? =ae (.cells #[.int .i64 P,.int .i64 Q,.int .i64 T,.int .i64 K] 23 (0,0))/\w'.heap.size=w.heap.size+1/\∀b,b<w.heap.size->w'.heap[b]? =w.heap[b]?) (fun _ _ _ _ h=>h) func7 Lp.1 ajr.1 (TW _) rfl (fun ta d=>by rw[Cf];exact aCs (awI (W:=ai.re (w.at d1) ta d)) fun e x w' hq=>⟨hq.1,hq.2.1,hq.2.2.1,hq.2.2.2.1,fun b hb=>hq.2.2.2.2.block b hb id⟩) ?_;rintro x2 w1 ng ⟨⟨sz,g1,g2⟩,hb,dS,DT⟩ tH;replace g1:=(OQ (D:=DD) (f:=fun j=>A.getD j ag) (i:=1) rfl (by rw[sz];decide)).trans Cc;replace sz:=(EM (ov:=lay DD fun j=>A.getD j ag)).trans sz;replace g2:=(BJ (D:=DD) (f:=fun j=>A.getD j ag) rfl).trans g2;generalize ai.jr (lay DD fun j=>A.getD j ag) x2=a2 at sz g1 g2 tH⊢
 have f1:Fr aH w w1:=⟨ng.os,ng.tape,ng.output,ng.size,fun b hb _=>DT b hb⟩;have id1:∀k,(fun _:Nat=>False) k->False\/w1.heap.size<=k:=fun _=>.inl;refine lU fun d2=>?_;refine xR fun d3=>?_;rw[OW.2.2.2.2,gW];refine Jk (v:=iK P Q T K) OW.1 OW.2.1 OW.2.2.1 (by decide) (fun d=>aje (x:=.tmp 2) g2 hb OW.2.2.2.1) (fun d e he=>by
  obtain⟨n,rfl⟩:=ajf (a:=⟨a2,[]⟩) (W:=(w1.at d3).at d) (x:=.tmp 2) g2 hb OW.2.2.2.1 e he;exact rdL (aS hb) id) fun a3 e3 p3=>?_
 have Ah:=tH.put p3<|.inr<|SL _ _ _ _;have z3:a3.tmps.size=77:=p3.sz.trans sz;rw[gW];refine OH (f:=16) (post:=fun B' v w'=>B'=ai.bz fo (fun _=>False)/\∃p q t k:Nat,v=iK p q t k/\Good p q t k/\Fr aH w1 w') XD.1 XD.2.1 XD.2.2.1 (by decide) XD.2.2.2 func16 rfl rfl (vs:=#[iK P Q T K]) ?_ (fun d=>(awK (w:=w1.at d) hP hQ hT hK).mono fun B' v w' hg=>?_) ?_
 ·have e1:a3.eval (.tmp 11)=iK P Q T K:=p3.at_ (by show 11<a2.size;rw[sz];decide);simp[e1]
 ·obtain⟨h1,p,q,t,k,h2,h3,h4⟩:=hg;exact⟨h1,p,q,t,k,h2,h3,h4.os,h4.tape,h4.output,h4.size,h4.block⟩
 rintro B' v w2 a4 p4 ⟨rfl,p,q,t,k,rfl,hg,f2⟩;have Ll:w1.heap.size<=w2.heap.size:=f2.size;have G5:=(Ah.mono fun v hv=>OI (s1:=fun _=>False) id1 Ll hv).put p4<|.inr<|SL p q t k;have z4:a4.tmps.size=77:=p4.sz.trans z3;have g14:a4.tmps.getD 1 ag=.slice ao l.length cap:=(p4.ne 1<|by decide).trans ((p3.ne 1<|by decide).trans g1);refine G6 XE.1 XE.2.1 XE.2.2.1 (by decide) (.inl XE.2.2.2) g14 fun a5 e5 p5=>?_;have Dz:=G5.put p5<|.inl rfl;have z5:a5.tmps.size=77:=p5.sz.trans z4;have f02:Fr aH w w2:=f1.trans f2 fun _ h=>h.elim;have zu:OT w2 ao l:=fun i x hx=>by
  obtain⟨⟨sb,so,e,h1,h2⟩,h3⟩:=hl i x hx;exact⟨⟨sb,so,e,by omega,zl.aP (B:=w.heap.size) h2 (f02.mono fun _ h=>h.elim) (bV _) h1⟩,h3⟩
 refine OH (f:=15) (post:=ajl fo w2 l.length) XF.1 XF.2.1 XF.2.2.1 (by decide) XF.2.2.2 func15 rfl rfl (vs:=#[iK p q t k,.slice ao l.length cap]) ?_ (fun d=>(awx (w:=w2.at d) hg zu hlen).mono fun B' v w' hg=>?_) ?_
 ·have e1:a5.eval (.tmp 12)=iK p q t k:=(p5.ne 12<|by decide).trans (p4.at_ (by rw[z3];decide));have e2:a5.eval (.tmp 13)=.slice ao l.length cap:=p5.at_ (by rw[z4];decide);simp[e1,e2]
 ·obtain⟨s1,B,pb,xb,n,s,h1,h2,h3,h4,h5,h6,h7,h8⟩:=hg.ex;exact⟨s1,B,pb,xb,n,s,h1,h2,h3,h4,h5,h6,h7,h8.os,h8.tape,h8.output,h8.size,h8.block⟩
 rintro B' v w3 a6 p6 iF;obtain⟨s1,B,pb,xb,n,s,rfl,rfl,at3,hn,hp,hB,zy,XC⟩:=iF.ex;have g:∀k,s1 k->False\/w2.heap.size<=k:=fun k hk=>.inr<|dP zy<|hB k hk;have sz3:w2.heap.size<=w3.heap.size:=XC.size;have SN:ai.az ((ai.bz fo s1).cut w3.heap.size) (.pointer<|ae ⟨pb,0,af⟩):=GX hp<|aS at3.pa.blk;have DC:=(Dz.mono fun v hv=>OI g sz3 hv).put p6<|.inr SN;have z6:a6.tmps.size=77:=p6.sz.trans z5;refine G6 XG.1 XG.2.1 XG.2.2.1 (by decide) (.inr XG.2.2.2) (p6.at_ (by rw[z5];decide)) fun a7 e7 p7=>?_;have awM:=DC.put p7<|.inr SN;have z7':a7.tmps.size=77:=p7.sz.trans z6;have g57:a7.tmps.getD 5 ag=.pointer (ae ⟨pb,0,af⟩):=p7.at_ (by rw[z6];decide);have df7:a7.defers=[]:=p7.df.trans<|p6.df.trans<|p5.df.trans<|p4.df.trans p3.df;refine xU fun d4=>?_;rw[gW];refine ajd (D:=DD) (w:=w3.at d4) (K:=fun x w'=>x.getD 4 ag=.bool true/\∀b,b<w3.heap.size->w'.heap[b]? =w3.heap[b]?) (fun _ _ _ _ h=>h) func7 Lp.2 ajr.2 awM df7 (fun t d=>aCs (awJ (EM.trans z7') ((BJ rfl).trans g57) (at3.same (w1:=ai.re (w3.at d4) t d) rfl)<|by omega) fun e a' w' hq=>⟨hq.1,hq.2.1,fun b hb=>hq.2.2.block b hb id⟩) ?_;rintro x9 w5 todo BB ⟨tq,lI⟩ ah3;refine ai.Reach.here fun _=>⟨rfl,rfl,rfl,func7,by kernel_rfl,.bool true,fun d=>⟨?_,by kernel_rfl,rfl,?_⟩⟩
 ·rw[<-tq,<-BJ (D:=DD) (i:=4) rfl];exact aCT rfl _ _ _
 ·have f5:Fr aH w3 w5:=⟨BB.os,BB.tape,BB.output,BB.size,fun b hb _=>lI b hb⟩;have g3:Fr (fun k=>w.heap.size<=k) w2 w3:=XC.mono fun k hk=>.inl<|dP f02.size<|dP zy hk;have g5:Fr (fun k=>w.heap.size<=k) w3 w5:=f5.mono fun _ h=>h.elim;have g0:Fr (fun k=>w.heap.size<=k) w w2:=f02.mono fun _ h=>h.elim;exact((g0.trans g3 fun _=>.inl).trans g5 fun _=>.inl).Lu
end
section
open Go.ChangeShapes Go.WideShapes Go.ChangeAt Go.RowKit
def awP:ownKnob prog.godebug=none:=by kernel_rfl
def awQ:prog.cellsOf 23=4:=by kernel_rfl
def ajs:prog.cellsOf 28=6:=by kernel_rfl
def awR:prog.cellsOf 9=1:=by kernel_rfl
def awS:prog.cellsOf 4=1:=by kernel_rfl
variable{H:Type}{w:ah}{spare:Nat->Bool}{held:Bool}{n:Nat}{cs:List aj}
def awT{enc:bW×aj->H}{x:DataW H×List MemPlace}(h:DataW.trod enc prog w 0 spare held n 23 cs=ae x):
 ∃P Q T K:Int,cs=[.int .i64 P,.int .i64 Q,.int .i64 T,.int .i64 K]/\dQ P/\dQ Q/\dQ T/\dQ K:=by
 obtain⟨xs,m,_,_,hl,hx,hf⟩:=DataW.trod_struct underlying23 h;rw[awQ]at hl;match cs,hl with
 |[c0,c1,c2,c3],_=>
  have f0:DataW.trod enc prog w 0 spare held m 3 (([c0,c1,c2,c3].drop 0).take<|prog.cellsOf 3)=xs[0]? :=hf 0 _ rfl;have f1:DataW.trod enc prog w 0 spare held m 3 (([c0,c1,c2,c3].drop 1).take<|prog.cellsOf 3)=xs[1]? :=hf 1 _ rfl;have f2:DataW.trod enc prog w 0 spare held m 3 (([c0,c1,c2,c3].drop 2).take<|prog.cellsOf 3)=xs[2]? :=hf 2 _ rfl;have f3:DataW.trod enc prog w 0 spare held m 3 (([c0,c1,c2,c3].drop 3).take<|prog.cellsOf 3)=xs[3]? :=hf 3 _ rfl;match xs,hx with
  |[x0,x1,x2,x3],_=>
   simp only[YU,List.drop_zero,ali,List.take_succ_cons,List.take_zero,xA,zJ]at f0 f1 f2 f3;obtain⟨a0,e0,_,w0⟩:=aCA underlying3 f0;obtain⟨a1,e1,_,w1⟩:=aCA underlying3 f1;obtain⟨a2,e2,_,w2⟩:=aCA underlying3 f2;obtain⟨a3,e3,_,w3⟩:=aCA underlying3 f3;simp only[UG,and_true]at e0 e1 e2 e3;subst e0 e1 e2 e3;exact⟨a0,a1,a2,a3,rfl,w0,w1,w2,w3⟩
def awU(d:DataW H):1<=Rows.uptoBulk d:=by
 cases d with
 |lit l=>cases l<;>simp[Rows.uptoBulk]
 |_=>simp[Rows.uptoBulk]
def ajt:∀l:List (DataW H),l.length<=Rows.uptoBulkAll l
 |[]=>lK _
 |x::r=>by
  have h1:=awU x;have h2:=ajt r;simp only[Rows.uptoBulkAll,ny];omega
def aju{enc:bW×aj->H}{x:DataW H×List MemPlace}(h:DataW.trod enc prog w 0 spare held n 28 cs=ae x):
 ∃y:zl,cs=[.int .i64 y.k,.int .i64 y.p,.int .i64 y.q,.int .i64 y.m,.string y.s,.bool y.c]/\dQ y.p/\dQ y.q/\dQ y.m/\7<=Rows.uptoBulk x.1:=by
 obtain⟨xs,m,_,gq,hl,hx,hf⟩:=DataW.trod_struct underlying28 h;rw[ajs]at hl;match cs,hl with
 |[c0,c1,c2,c3,c4,c5],_=>
  have f0:DataW.trod enc prog w 0 spare held m 3 (([c0,c1,c2,c3,c4,c5].drop 0).take<|prog.cellsOf 3)=xs[0]? :=hf 0 _ rfl;have f1:DataW.trod enc prog w 0 spare held m 3 (([c0,c1,c2,c3,c4,c5].drop 1).take<|prog.cellsOf 3)=xs[1]? :=hf 1 _ rfl;have f2:DataW.trod enc prog w 0 spare held m 3 (([c0,c1,c2,c3,c4,c5].drop 2).take<|prog.cellsOf 3)=xs[2]? :=hf 2 _ rfl;have f3:DataW.trod enc prog w 0 spare held m 3 (([c0,c1,c2,c3,c4,c5].drop 3).take<|prog.cellsOf 3)=xs[3]? :=hf 3 _ rfl;have f4:DataW.trod enc prog w 0 spare held m 9 (([c0,c1,c2,c3,c4,c5].drop 4).take<|prog.cellsOf 9)=xs[4]? :=hf 4 _ rfl;have f5:DataW.trod enc prog w 0 spare held m 4 (([c0,c1,c2,c3,c4,c5].drop 5).take<|prog.cellsOf 4)=xs[5]? :=hf 5 _ rfl;match xs,hx with
  |[x0,x1,x2,x3,x4,x5],_=>
   simp only[YU,awS,awR,List.drop_zero,ali,List.take_succ_cons,List.take_zero,xA,zJ]at f0 f1 f2 f3 f4 f5;obtain⟨a0,e0,_,_⟩:=aCA underlying3 f0;obtain⟨a1,e1,_,w1⟩:=aCA underlying3 f1;obtain⟨a2,e2,_,w2⟩:=aCA underlying3 f2;obtain⟨a3,e3,_,w3⟩:=aCA underlying3 f3;obtain⟨a4,e4,d4,_⟩:=DataW.trod_string underlying9 f4;obtain⟨a5,e5,_⟩:=DataW.trod_bool underlying4 f5;simp only[UG,and_true]at e0 e1 e2 e3 e4 e5;subst e0 e1 e2 e3 e4 e5;refine⟨⟨a0,a1,a2,a3,a4,a5⟩,rfl,w1,w2,w3,?_⟩;rw[gq];have h:=ajt [x0.1,x1.1,x2.1,x3.1,x4.1,x5.1];simp only[Rows.uptoBulk,yM,zL,ny,vC]at h⊢
   omega
def ajv:∀l m:List (DataW H),Rows.uptoBulkAll (l++m)=Rows.uptoBulkAll l+Rows.uptoBulkAll m
 |[],m=>by simp[Rows.uptoBulkAll]
 |x::r,m=>by
  rw[mV];simp only[Rows.uptoBulkAll,ajv r m];omega
def ajw{α:Type}{p:Nat->α->Prop}:∀(n:Nat),(∀i,i<n->∃x,p i x)->∃l:List α,l.length=n/\∀(i:Nat) x,l[i]? =ae x->p i x
 |0,_=>⟨[],rfl,fun i x h=>by simp at h⟩
 |n+1,h=>by
  obtain⟨l,hl,hp⟩:=ajw n (fun i hi=>h i<|by omega);obtain⟨x,hx⟩:=h n (by omega);refine⟨l++[x],by simp[hl],fun i y hy=>?_⟩;by_cases hi:i<l.length
  ·rw[tJ hi]at hy;exact hp i y hy
  ·rw[wG<|by omega]at hy;have h0:i-l.length=0:=by
    have:=(List.getElem?_eq_some_iff.mp hy).1;simp at this;omega
   rw[h0]at hy;obtain rfl:x=y:=by simpa using hy
   have:i=n:=by omega
   subst this;exact hx
def ajx{D:Nat->DataW H}:∀n:Nat,(∀i,i<n->7<=Rows.uptoBulk (D i))->7*n<=Rows.uptoBulkAll ((List.range n).map D)
 |0,_=>lK _
 |n+1,h=>by
  have h1:=ajx n fun i hi=>h i (by omega);have h2:=h n (by omega);rw[YL,MS,ajv];simp only[yM,zL,Rows.uptoBulkAll];omega
def awV{enc:bW×aj->H}{v:aj}{x:DataW H×List MemPlace}(h:DataW.trod enc prog w 0 (fun _=>true) true n 26 v.cells.toList=ae x)(hv:∃a l c,v=.slice a l c):
 ∃ao cap,∃l:List zl,v=.slice ao l.length cap/\OT w ao l/\7*l.length<=Rows.uptoBulk x.1:=by
 obtain⟨a0,l0,c0,rfl⟩:=hv;rcases Deep.open_slice underlying26 h with⟨hcs,rfl⟩|⟨a,len,cap,m,k,D,Pl,hcs,_,hl,hm,XH,rfl,qg⟩
 ·simp[Value.cells]at hcs;obtain⟨rfl,rfl,rfl⟩:=hcs;exact⟨af,0,[],rfl,fun i x hx=>by simp at hx,lK _⟩
 ·simp[Value.cells]at hcs;obtain⟨rfl,rfl,rfl⟩:=hcs;simp only[if_true]at XH;subst XH;rw[ajs]at qg;obtain⟨l,hls,bU⟩:=ajw (p:=fun i (y:zl)=>i<l0/\(∃sb so,ae a=ae (⟨sb,so,af⟩:Addr)/\sb<w.heap.size/\y.at_ w sb (so+i*6))/\dQ y.p/\dQ y.q/\dQ y.m/\7<=Rows.uptoBulk (D i)) l0 (fun i hi=>by
   obtain⟨cs,h1,h2⟩:=qg i (by omega);obtain⟨y,rfl,w1,w2,w3,h7⟩:=aju h2;obtain⟨_,_,hcell⟩:=World.cells?_some h1;obtain⟨cs0,g1,g2⟩:=qg 0 (by omega);obtain⟨y0,rfl,_⟩:=aju g2;obtain⟨_,_,awW⟩:=World.cells?_some g1;obtain⟨sb,so,spot⟩:=a;have h0:=awW 0 (by omega);have ayT:spot=none:=by
    have:=World.cell?_spot h0;simpa[Addr.add]using this
   subst ayT;have hc:∀j u,j<6->[Value.int .i64 y.k,.int .i64 y.p,.int .i64 y.q,.int .i64 y.m,.string y.s,.bool y.c][j]? =ae u->w.cell? ⟨sb,so+i*6+j,af⟩=ae u:=fun j u hj hu=>by
    have:=hcell j hj;rw[aCo,aCo]at this;rw[this];exact hu
   exact⟨y,hi,⟨sb,so,rfl,World.block_lt_of_cell? w ⟨sb,so+i*6+0,af⟩<|hc 0 _ (by omega) rfl,⟨hc 0 _ (by omega) rfl,hc 1 _ (by omega) rfl,hc 2 _ (by omega) rfl,hc 3 _ (by omega) rfl,hc 4 _ (by omega) rfl,hc 5 _ (by omega) rfl⟩⟩,w1,w2,w3,h7⟩)
  refine⟨ae a,_,l,by rw[hls],fun i x hx=>?_,?_⟩
  ·obtain⟨_,h1,h2,h3,h4,_⟩:=bU i x hx;exact⟨h1,h2,h3,h4⟩
  ·have:=ajx (D:=D) l0 fun i hi=>by
    obtain⟨_,_,_,_,_,h7⟩:=bU i _ (dR<|by omega);exact h7
   simp only[Rows.uptoBulk];omega
end
section
open Go.ChangeShapes Go.WideShapes Go.ChangeAt Go.RowKit
def was(n:Nat):Nat->Prop:=fun b=>b=1\/(5<=b/\b<n)
def awX:(begin prog (fun _ _=>0) default).world.heap.size=5:=by kernel_rfl
def awY:(begin prog (fun _ _=>0) default).world.heap[0]? =ae (.cells ((Array.range prog.types.size).map fun t=>.int .u64<|Int.ofNat t) 0):=by kernel_rfl
def awZ:(begin prog (fun _ _=>0) default).world.heap[2]? =ae (.finalizers #[] af):=by kernel_rfl
def aw0:(begin prog (fun _ _=>0) default).world.heap[3]? =ae (.cells #[.bool false] 0):=by kernel_rfl
def aw1:(begin prog (fun _ _=>0) default).world.heap[4]? =ae (.finalizers #[] af):=by kernel_rfl
def gsz:prog.globals.size=0:=by kernel_rfl
def ajA{o:Obj}(h:o.alike (.finalizers #[] af)):∃a b,o=.finalizers a b:=by
 cases o with
 |finalizers a b=>exact⟨a,b,rfl⟩
 |_=>cases h
def aw2{w:ah}(h:w.ShapedOpen prog):ai.oq (ai.bz (was w.heap.size) fun _=>False) w:=by
 have hk:∀k,k<5->∃o o₀,w.heap[k]? =ae o/\(begin prog (fun _ _=>0) default).world.heap[k]? =ae o₀/\(if World.looseAt k=true then o.alike o₀ else o=o₀):=fun k hk=>by
  have:=h.2 k (by rw[gsz];exact lK _) (by rw[awX];exact hk);rw[gsz]at this;exact this
 have h5:5<=w.heap.size:=by
  obtain⟨o,_,ho,_⟩:=hk 4 (by decide);exact(iU.1 ho).1
 refine⟨fun b o hb ho=>?_,fun b hb=>?_,h5⟩
 ·have aB:=(iU.1 ho).1;have iG:¬was w.heap.size b:=fun z=>hb<|.inl<|.inr z;have h4:b<5:=Nat.lt_of_not_le fun z=>iG<|.inr ⟨z,aB⟩;have h1:b≠1:=fun z=>iG<|.inl z;obtain⟨o',o₀,e1,e2,e3⟩:=hk b h4;rw[ho]at e1;cases e1;match b,h4,h1 with
  |0,_,_=>
   rw[awY]at e2;cases e2;have e:o=_:=e3;subst e;intro v hv;obtain⟨t,_,rfl⟩:=UH.1 hv;exact .int
  |2,_,_=>
   rw[awZ]at e2;cases e2;obtain⟨_,_,rfl⟩:=ajA e3;trivial
  |3,_,_=>
   rw[aw0]at e2;cases e2;have e:o=_:=e3;subst e;intro v hv;simp at hv;subst hv;exact .bool
  |4,_,_=>
   rw[aw1]at e2;cases e2;obtain⟨_,_,rfl⟩:=ajA e3;trivial
 ·rcases hb with hb|hb|hb
  ·exact hb.elim
  ·subst hb;exact⟨bV _,by omega⟩
  ·exact⟨by omega,hb.2⟩
def aw3(os:Os)(started:os.Started)(H:Type)(enc:bW×aj->H)(F:Stop.Interp):
 ReturnsInLeavingWide {} Tryz.checked os 7 .any ((Rows.OpenSpec.upto Rows.atomicSpec).pre6 enc prog Tryz.f7 Rows.atomicUptoRow.domain false) (((Rows.OpenSpec.upto Rows.atomicSpec).at F).post enc prog Tryz.f7 false true false false):=by
 refine returnsInLeavingWide_of_good (C:=Tryz.checked) awP started
  (OpenSpec.witness (enc:=enc) (C:=Tryz.checked) (s:=Rows.OpenSpec.upto Rows.atomicSpec) (k:=Rows.uptoSmall) rfl false ⟨#[],#[.agg #[.int .i64 0,.int .i64 0,.int .i64 0,.int .i64 0],.slice af 0 0],[]⟩ 8 (by kernel_rfl) (by kernel_rfl) (by kernel_rfl)
    (x:=([.agg [.lit<|.int .i64 0,.lit<|.int .i64 0,.lit<|.int .i64 0,.lit<|.int .i64 0],.nil],[],[])) (by kernel_rfl) rfl (by kernel_rfl)) ?_
 intro w0 tape i _ ak4 _ Uc ak5 _;obtain⟨_,_,_,fn',LX,_,_,_,_,YC⟩:=Uc;have e:fn'=Tryz.f7:=qE<|LX.symm.trans func7;subst e;obtain⟨ds,gs,before,hw,_,hk⟩:=(OpenSpec.pre_some (k:=Rows.uptoSmall) rfl _ _ _ _).1 ak5.1;have hW:=DataW.Whole.of_heap (w':=w0.forCall tape i) (by rfl) hw;obtain⟨ih,args,iv⟩:=i;generalize w0.forCall tape ⟨ih,args,iv⟩=W at ak4 hW YC⊢
 clear hw ak5 LX;simp only at hW YC⊢
 have hval:∀(j:Nat) t v,Tryz.f7.params[j]? =ae t->args[j]? =ae v->Value.okWide prog W .any w0.heap.size t v:=YC;have hW':=hW;obtain⟨p,q,JF,hV,rfl,_,_⟩:=hW;have hA:DataW.TrodAll enc prog W 0 (fun _=>true) true Tryz.f7.params.toList args.toList ds p:=JF;rw[params7]at hA hval;obtain⟨v0,v1,d0,d1,p0,p1,rfl,rfl,rfl,h0,h1⟩:=trodAll_two hA;obtain⟨rfl,rfl⟩:=trodVars_none hV;have bD:=hval 0 23 v0 rfl rfl;obtain⟨a0,len,cap,jf⟩:=okWide_slice underlying26<|hval 1 26 v1 rfl rfl;have h0k:=h0;have h1k:=h1;obtain⟨fuel,hf⟩:=h0;obtain⟨aBX,bg⟩:=h1;clear JF YC;simp only[qh]at hW' hk;have aB:∀x∈p0++p1,x.block<W.heap.size:=fun x hx=>by simpa using hW'.lt x hx
 have ayW:∀(W':ah),Below W.heap.size W W'->DataW.Trod enc prog W' 0 (fun b=>decide<|b<W.heap.size) true 23 v0 d0 p0:=
  fun W' hn=>Below.trod laidOut (by kernel_rfl) (YH<|by kernel_rfl) h0k hn fun x hx=>aB x<|H7 _ hx
 have ayX:∀(W':ah),Below W.heap.size W W'->DataW.Trod enc prog W' 0 (fun b=>decide<|b<W.heap.size) true 26 v1 d1 p1:=
  fun W' hn=>Below.trod laidOut (by kernel_rfl) (YH<|by kernel_rfl) h1k hn fun x hx=>aB x<|Ut _ hx
 obtain⟨P,Q,T,K,hcs,hP,hQ,hT,hK⟩:=awT hf;have hv:v0=iK P Q T K:=by
  obtain⟨cs,rfl,_⟩:=okWide_struct underlying23 bD;have e:cs.toList=[.int .i64 P,.int .i64 Q,.int .i64 T,.int .i64 K]:=hcs;have e2:cs=#[.int .i64 P,.int .i64 Q,.int .i64 T,.int .i64 K]:=by rw[<-Array.toList_inj,e]
  rw[e2];rfl
 subst hv;obtain⟨ao,acs,l,rfl,bU,hl⟩:=awV bg ⟨a0,len,cap,jf⟩;have aBY:Rows.uptoBulk d1<=1048576:=by
  have h1:Rows.uptoBulkAll [d0,d1]<=1048576:=YH hk;simp only[Rows.uptoBulkAll]at h1;omega
 have hlen:l.length<=200000:=by
  have:7*l.length<=Rows.uptoBulk d1:=hl;omega
 obtain⟨N,last,o,w',t',r1,r2,r3,r4⟩:=ai.awE (aw2 ak4)<|awL (cap:=acs) hP hQ hT hK bU hlen;refine⟨N,last,o,w',t',r1,r2,r3,r4.mono fun v hvf=>?_⟩;obtain⟨rfl,dA⟩:=hvf;have hb:Below W.heap.size W w':=⟨dA.os,dA.tape,dA.output,dA.size,fun b hb=>dA.block b hb<|Nat.not_le.2 hb⟩;refine ChangeSpec.post_blind ⟨_,_,_,[],p0++p1,[],hW',?_,?_,rfl,hb.frame _,fun h=>by cases h⟩
 ·exact trodAll_mk1<|shut_bool underlying4 _
 ·exact trodAll_mk2 (ayW _ hb)<|ayX _ hb
def aw5{p:Pinned}{s:OpenSpec}{c:OpenClaim}(f:FuncId)(fn:Func)
 (hn:c.program=p.name)(hs:c.sum=p.sum)(hsp:c.spec=s.name)
 (hstart:c.start=.entering)(ES:c.outside=[])(eF:c.inits=[])(E6:c.under=af)(hi4:c.initsInPlace=[]/\c.initsUnfollowed=false/\c.initsRecurse=false/\c.initsNamed=[]/\c.initsPassed=[])(Yi:c.noBlocks=false)(hlv:c.leaving=true)(xn:c.followed=af)(ay0:c.narrowed=s.cond.isSome)(MK:c.still=false)
 (pO:p.checked.prog.funcNamed c.func=ae f)(hf:p.checked.prog.funcs[f]? =ae fn)
 (closed:joinedFacts p.checked.prog f fn s.bare c=true)
 (ay1:fn.isInstance p.checked.prog c.origin c.targs)(ay2:fn.isWrapper p.checked.prog c.wrapper c.mainSum)
 (h:∀os:Os,os.Started->∀(H:Type) (enc:bW×aj->H),(∀a b,enc a=enc b->a=b)->∀F:Stop.Interp,
   ReturnsInLeavingWide c.assume p.checked os f .any (c.pre enc p.checked.prog fn s) ((s.at F).post enc p.checked.prog fn c.apart c.fresh c.handsOn c.again)):c.holds p s:=by
 simp only[joinedFacts,lX,beq_iff_eq,ak8,YK,UA]at closed
 obtain⟨⟨⟨⟨⟨⟨⟨⟨⟨⟨⟨⟨⟨⟨⟨⟨⟨⟨⟨⟨⟨⟨⟨⟨⟨⟨⟨⟨⟨⟨⟨k1,k2⟩,k3⟩,k4⟩,k5⟩,k6⟩,k7⟩,k8⟩,k9⟩,Uj⟩,k11⟩,k12⟩,Uk⟩,Ul⟩,k15⟩,k16⟩,k17⟩,ay7⟩,k18⟩,k19⟩,yH⟩,k21⟩,k22⟩,k23⟩,azc⟩,k24⟩,azd⟩,aze⟩,k25⟩,k26⟩,k27⟩,k28⟩:=closed
 have hq:∀os:Os,Stop.quiet p.checked.prog os:=fun os k hk=>by rw[k9]at hk;cases hk
 refine⟨k1,hn,hs,hsp,k2,k3,by unfold OpenClaim.startFits;rw[hstart];exact k24,by unfold OpenClaim.startTold;rw[hstart];exact⟨eF,E6,hi4⟩,f,fn,pO,hf,⟨k4,k19⟩,(fun hb=>by rw[Yi]at hb;cases hb),by unfold OpenClaim.namedList;rw[xn];exact k5,ay1,ay2,
  k6.trans k7.symm,⟨k8.trans k9.symm,by unfold Program.envWorded;rw[k9];rfl,azc⟩,Uj,k11,k12,Uk,Ul,⟨k15,k27,k28⟩,⟨k16,yH⟩,⟨k17,k21,k25,k26⟩,⟨k22,azd,aze,ay7⟩,(by rw[ES,ay0];cases DY:c.shortTexts with|none=>simp|some _=>rw[DY]at k23;cases k23),fun n hn'=>varReadable_some<|k18 n hn',
  ⟨_,by unfold OpenClaim.world;rw[ES,hstart];exact WideRow.started_initial,hq _⟩,[],by unfold OpenClaim.lists;rw[xn],fun os st _ H enc inj=>?_⟩
 have st':os.Started:=by unfold OpenClaim.world at st;rw[ES,hstart]at st;exact st
 rw[OpenClaim.post_not_still MK]
 unfold OpenClaim.form
 rw[hstart,k6]
 intro F
 have e1:c.okInput=Input.okWide:=by unfold OpenClaim.okInput;rw[Yi]
 have e2:c.atReturn p.checked.prog=leavingAtReturn p.checked.prog:=by unfold OpenClaim.atReturn;rw[hlv]
 have e3:c.always p.checked.prog []=nothingAlways:=by unfold OpenClaim.always;rw[xn]
 have e4:s.post enc p.checked.prog fn F c.outside c.apart c.fresh c.handsOn c.again=(s.at F).post enc p.checked.prog fn c.apart c.fresh c.handsOn c.again:=by rw[ES];rfl
 rw[e1,e2,e3]
 show ReturnsInOpen _ _ _ _ _ _ _ _ (s.post enc p.checked.prog fn F c.outside c.apart c.fresh c.handsOn c.again) _ _
 rw[e4]
 exact h os st' H enc inj F k24
theorem atomic_holds:Rows.AtomicUptoSaid:=
 aw5 7 Tryz.f7 rfl rfl rfl rfl rfl rfl rfl ⟨rfl,rfl,rfl,rfl,rfl⟩ rfl rfl rfl rfl rfl (by kernel_rfl) func7 (by kernel_rfl)
  (YH<|by kernel_rfl) (by unfold Func.isWrapper;first|(rw[if_pos<|by decide+kernel];kernel_rfl)|(rw[if_neg<|by decide+kernel];exact⟨rfl,rfl⟩))
  (fun os started H enc _ F=>aw3 os started H enc F)
end
#print axioms atomic_holds
end Go.Proofs.YtkelpcjiediamaaGreat
