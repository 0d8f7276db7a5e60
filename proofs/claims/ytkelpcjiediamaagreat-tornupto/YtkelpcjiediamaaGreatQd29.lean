/-
  What is proved: where what is handed in is together of bulk at most 1,048,576, whatever the script, however many bytes of a decision's record are written before the keeper breaks, Torn answers true, and what was handed in reads behind the call as it did before.
-/
import Derived.Test.YtkelpcjiediamaaGreatQd8
import Derived.Test.YtkelpcjiediamaaGreatQd28
import Derived.ProofKit
import Derived.SizedLaws
import Derived.Deep.Slices
import Derived.JoinedCond
import Derived.Conc.Holds
import Derived.Carry
set_option maxRecDepth 100000
set_option maxHeartbeats 0
set_option linter.all false
namespace Go.Proofs.YtkelpcjiediamaaGreat
def aEA:=@Go.DataW.trod_int
open Go renaming Frame→bu,TypeId→dw,Value→az,World→aj,undef→ai
open Go.Ending renaming returned→aT
open Go.IntKind renaming i64→ah
open Go.Obj renaming cells→aC
open Go.Value renaming agg→gY,bool→aB,int→ag,pointer→ay,slice→aJ,string→dA
open Option renaming none→af,some→ae
open Go.Proofs.Tryz
section
open Go.RowKit Go.Maps Go.Conc
open _root_.Go.Proofs.YtkelpcjiediamaaGreat.Twin _root_.Go.Proofs.YtkelpcjiediamaaGreat.fJ
noncomputable def d7:Code:=Tryz.f7.body.getD .skip
noncomputable def ayw:Code:=au.gq [false] d7
noncomputable def c7:Code:=au.gq [true,true] d7
def IA:au.codeOk prog au.lF ayw=true/\au.codeOk prog au.lF c7=true:=by and_intros<;>kernel_rfl
section
variable{w:aj}
end
def ayx{fo s0:Nat->Prop}{w:aj}{P Q T K:Int}(hP:eP P)(hQ:eP Q)(hT:eP T)(hK:eP K):
 au.tX (au.bJ fo s0) prog 16 #[jg P Q T K] w (fun B' v w'=>B'=au.bJ fo s0/\∃p q t k:Nat,v=jg p q t k/\Good p q t k/\Fr aP w w'):=by
 intro c cs;refine au.Reach.ok fun bP=>?_;have h5:∀b,s0 b\/fo b->1<=b:=fun b hb=>(bP.low b hb).1;refine(au.ahL (R:=fun t d e w'=>∃p q t' k:Nat,e=aT (jg p q t' k)/\Good p q t' k/\Fr aP (au.re w t d) w') (au.lets h5) (yZ h5) (by kernel_rfl) (au.bT.one<|Ql _ _ _ _) (fun t d=>ayv hP hQ hT hK) (fun t d e w' ⟨p,q,t',k,h,_⟩=>⟨_,h⟩) c cs).mono ?_;rintro B' fr' w' ⟨v,rfl,rfl,_,on,t,d,t',j,p,q,t2,k,he,hg,hf⟩;refine⟨v,rfl,rfl,p,q,t2,k,by simpa using he,hg,⟨on.os,on.tape,on.output,on.size,fun b hb h=>hf.block b hb h⟩⟩
end
section
open Go.RowKit Go.Maps Go.Conc
open _root_.Go.Proofs.YtkelpcjiediamaaGreat.Twin _root_.Go.Proofs.YtkelpcjiediamaaGreat.fJ
def Y8{x v k b:az}{n:Nat}:(#[x,v,k,b]++Array.replicate n undef:Array az).getD 0 ai=x/\(#[x,v,k,b]++Array.replicate n undef:Array az).getD 1 ai=v/\(#[x,v,k,b]++Array.replicate n undef:Array az).getD 2 ai=k/\(#[x,v,k,b]++Array.replicate n undef:Array az).getD 3 ai=b:=by
 refine⟨?_,?_,?_,?_⟩<;>(rw[ET,N8];rfl)
def ayy{D:List Nat}(h1:D.contains 1=true){Bn:au.cO}{p q t k kp:Int}{cm:Bool}{v:az}{n:Nat}:qH D Bn (#[jg p q t k,v,ag ah kp,aB cm]++Array.replicate n ai):=fun j hj u hu=>by
 rw[N8]at hu;split at hu
 ·match j with
  |0=>cases hu;exact Ql _ _ _ _
  |1=>rw[h1]at hj;cases hj
  |2=>cases hu;exact .int
  |3=>cases hu;exact .bool
  |j+4=>simp at hu
 ·rw[amU]at hu;split at hu
  ·cases hu;exact au.rC
  ·cases hu
section
variable{W:aj}{a:Array az}{kp:Int}{cm:Bool}
def ayz{p q t k:Int}(sz:a.size=203)(a0:a.getD 0 ai=jg p q t k)(a2:a.getD 2 ai=ag ah kp)(a3:a.getD 3 ai=aB cm):Ut.wp prog (fun e x w'=>e=.normal/\((x.tmps.size=203/\x.tmps.getD 2 ai=ag ah kp/\x.tmps.getD 3 ai=aB cm)/\x.tmps.getD 4 ai=ay (ae ⟨W.heap.size,0,af⟩))/\w'.heap[W.heap.size]? =ae (aC #[ag ah p,ag ah q,ag ah t,ag ah k] 23 (0,0))/\w'.heap.size=W.heap.size+1/\Fr aP W w') ⟨a,[]⟩ W:=by
 rw[Eu a,sz,UE];simp only[uF,wC,a0,a2,a3];unfold jg;obtain⟨Q0,gX⟩:∃Q0:Exit->Act->aj->Prop,(fun e x w'=>e=.normal/\((x.tmps.size=203/\x.tmps.getD 2 ai=ag ah kp/\x.tmps.getD 3 ai=aB cm)/\x.tmps.getD 4 ai=ay (ae ⟨W.heap.size,0,af⟩))/\w'.heap[W.heap.size]? =ae (aC #[ag ah p,ag ah q,ag ah t,ag ah k] 23 (0,0))/\w'.heap.size=W.heap.size+1/\Fr aP W w')=Q0:=⟨_,rfl⟩;rw[gX];simp only[Ut,d9,au.gq,Tryz.f9,ik,kQ,kP];go_wp2
 rw[<-gX];exact⟨rfl,⟨⟨rfl,rfl,rfl⟩,rfl⟩,aDY _ _,by simp,bG _⟩
end
def ayA{fo:Nat->Prop}{w:aj}{P Q T K kp:Int}{cm:Bool}{ao:Option Addr}{cap:Nat}{l:List Aa}(hP:eP P)(hQ:eP Q)(hT:eP T)(hK:eP K)(hl:Qi w ao l)(hlen:l.length<=180000){cs:List bu}:
 au.Reach (au.bJ fo fun _=>False) prog (Frame.enter prog 9 #[jg P Q T K,.slice ao l.length cap,ag ah kp,aB cm] .normal) cs w (au.AtRet prog Tryz.f9 fun v w'=>v=aB true/\Fr (fun k=>w.heap.size<=k) w w') cs:=by
 rw[aEX (c:=d9) _ func9 rfl,ayh];refine jO fun d1=>?_;obtain⟨A,hA,hz,Gu,Dz,DD,Vt,hA4⟩:∃A:Array az,#[jg P Q T K,.slice ao l.length cap,ag ah kp,aB cm]++Array.replicate (Tryz.f9.ntmps- #[jg P Q T K,.slice ao l.length cap,ag ah kp,aB cm].size) ai=A/\A.size=203/\A.getD 0 ai=jg P Q T K/\A.getD 1 ai=.slice ao l.length cap/\A.getD 2 ai=ag ah kp/\A.getD 3 ai=aB cm/\∀B,qH nY B A:=⟨_,rfl,by rw[ntmps9];simp,Y8.1,Y8.2.1,Y8.2.2.1,Y8.2.2.2,fun _=>ayy rfl⟩;rw[hA];refine IB (D:=nY) (w:=w.at d1) (K:=fun x w'=>((x.size=203/\x.getD 2 ai=ag ah kp/\x.getD 3 ai=aB cm)/\x.getD 4 ai=ay (ae ⟨w.heap.size,0,af⟩))/\w'.heap[w.heap.size]? =ae (aC #[ag ah P,ag ah Q,ag ah T,ag ah K] 23 (0,0))/\w'.heap.size=w.heap.size+1/\∀b,b<w.heap.size->w'.heap[b]? =w.heap[b]?) (fun _ _ _ _ h=>h) func9 J9.1 Uy.1 (hA4 _) rfl (fun ta d=>aEq (ayz (W:=au.re (w.at d1) ta d) (Bv.trans hz) ((nX rfl).trans Gu) ((nX rfl).trans DD)<|(nX rfl).trans Vt) fun e x w' hq=>⟨hq.1,hq.2.1,hq.2.2.1,hq.2.2.2.1,fun b hb=>hq.2.2.2.2.block b hb id⟩) ?_;rintro x2 w1 lY ⟨⟨⟨sz,g2,g3⟩,g4⟩,hb,eH,EH⟩ uy;have g1:=(Qh (D:=nY) (f:=fun j=>A.getD j ai) (t:=x2) (i:=1) rfl (by rw[sz];decide)).trans Dz;replace sz:=(Bv (ov:=lay nY fun j=>A.getD j ai)).trans sz;replace g2:=(nX (D:=nY) (f:=fun j=>A.getD j ai) rfl).trans g2;replace g3:=(nX (D:=nY) (f:=fun j=>A.getD j ai) rfl).trans g3;replace g4:=(nX (D:=nY) (f:=fun j=>A.getD j ai) rfl).trans g4;generalize au.jA (lay nY fun j=>A.getD j ai) x2=a2 at sz g1 g2 g3 g4 uy⊢
 have f1:Fr aP w w1:=⟨lY.os,lY.tape,lY.output,lY.size,fun b hb _=>EH b hb⟩;have id1:∀k,(fun _:Nat=>False) k->False\/w1.heap.size<=k:=fun _=>.inl;refine jO fun d2=>?_;refine vK fun d3=>?_;rw[YX.1,eU];refine Df (v:=jg P Q T K) Uz.1 Uz.2.1 Uz.2.2.1 (by decide) (fun d=>akH (x:=.tmp 4) g4 hb Uz.2.2.2) (fun d e he=>by
  obtain⟨n,rfl⟩:=akI (a:=⟨a2,[]⟩) (W:=(w1.at d3).at d) (x:=.tmp 4) g4 hb Uz.2.2.2 e he;exact Yy (aX hb) id) fun a3 e3 p3=>?_
 have zf:=uy.put p3<|.inr<|Ql _ _ _ _;have z3:a3.tmps.size=203:=p3.sz.trans sz;rw[eU];refine J3 (f:=16) (post:=fun B' v w'=>B'=au.bJ fo (fun _=>False)/\∃p q t k:Nat,v=jg p q t k/\Good p q t k/\Fr aP w1 w') YO.1 YO.2.1 YO.2.2.1 (by decide) YO.2.2.2 func16 rfl rfl (vs:=#[jg P Q T K]) ?_ (fun d=>(ayx (w:=w1.at d) hP hQ hT hK).mono fun B' v w' hg=>?_) ?_
 ·have e1:a3.eval (.tmp 25)=jg P Q T K:=p3.at_ (by show 25<a2.size;rw[sz];decide);simp[e1]
 ·obtain⟨h1,p,q,t,k,h2,h3,h4⟩:=hg;exact⟨h1,p,q,t,k,h2,h3,h4.os,h4.tape,h4.output,h4.size,h4.block⟩
 rintro B' v w2 a4 p4 ⟨rfl,p,q,t,k,rfl,hg,f2⟩;have Iz:w1.heap.size<=w2.heap.size:=f2.size;have Ew:=(zf.mono fun v hv=>J5 (s1:=fun _=>False) id1 Iz hv).put p4<|.inr<|Ql p q t k;have z4:a4.tmps.size=203:=p4.sz.trans z3;have g14:a4.tmps.getD 1 ai=.slice ao l.length cap:=(p4.ne 1<|by decide).trans ((p3.ne 1<|by decide).trans g1);refine Dh YP.1 YP.2.1 YP.2.2.1 (by decide) (.inl YP.2.2.2) g14 fun a5 e5 p5=>?_;have Bo:=Ew.put p5<|.inl rfl;have z5:a5.tmps.size=203:=p5.sz.trans z4;have f02:Fr aP w w2:=f1.trans f2 fun _ h=>h.elim;have Ah:Qi w2 ao l:=fun i x hx=>by
  obtain⟨⟨sb,so,e,h1,h2⟩,h3⟩:=hl i x hx;exact⟨⟨sb,so,e,by omega,Aa.aY (B:=w.heap.size) h2 (f02.mono fun _ h=>h.elim) (dm _) h1⟩,h3⟩
 refine J3 (f:=15) (post:=akO fo w2 l.length) YQ.1 YQ.2.1 YQ.2.2.1 (by decide) YQ.2.2.2 func15 rfl rfl (vs:=#[jg p q t k,.slice ao l.length cap]) ?_ (fun d=>(aye (w:=w2.at d) hg Ah<|by omega).mono fun B' v w' hg=>?_) ?_
 ·have e1:a5.eval (.tmp 26)=jg p q t k:=(p5.ne 26<|by decide).trans (p4.at_ (by rw[z3];decide));have e2:a5.eval (.tmp 27)=.slice ao l.length cap:=p5.at_ (by rw[z4];decide);simp[e1,e2]
 ·obtain⟨s1,B,pb,xb,n,s,h1,h2,h3,h4,h5,h6,h7,h8⟩:=hg.ex;exact⟨s1,B,pb,xb,n,s,h1,h2,h3,h4,h5,h6,h7,h8.os,h8.tape,h8.output,h8.size,h8.block⟩
 rintro B' v w3 a6 p6 iR;obtain⟨s1,B,pb,xb,n,s,rfl,rfl,at3,hn,hp,hB,Aj,YN⟩:=iR.ex;have g:∀k,s1 k->False\/w2.heap.size<=k:=fun k hk=>.inr<|eG Aj<|hB k hk;have sz3:w2.heap.size<=w3.heap.size:=YN.size;have IC:au.aG ((au.bJ fo s1).cut w3.heap.size) (ay<|ae ⟨pb,0,af⟩):=Bi hp<|aX at3.pa.blk;have Bq:=(Bo.mono fun v hv=>J5 g sz3 hv).put p6<|.inr IC;have z6:a6.tmps.size=203:=p6.sz.trans z5;refine Dh YR.1 YR.2.1 YR.2.2.1 (by decide) (.inr YR.2.2.2) (p6.at_ (by rw[z5];decide)) fun a7 e7 p7=>?_;have IA:=Bq.put p7<|.inr IC;have z7:a7.tmps.size=203:=p7.sz.trans z6;have g97:a7.tmps.getD 9 ai=ay (ae ⟨pb,0,af⟩):=p7.at_ (by rw[z6];decide);have dL:∀j,j=2\/j=3->a7.tmps.getD j ai=a2.getD j undef:=fun j hj=>by
  rcases hj with rfl|rfl<;>exact(p7.ne _<|by decide).trans<|(p6.ne _<|by decide).trans<|(p5.ne _<|by decide).trans<|(p4.ne _<|by decide).trans<|p3.ne _<|by decide
 have df7:a7.defers=[]:=p7.df.trans<|p6.df.trans<|p5.df.trans<|p4.df.trans p3.df;refine vM fun d4=>?_;refine jO fun d5=>?_;rw[eU,eU];refine IB (D:=nY) (w:=w3.at d5) (K:=fun x w'=>(x.size=203/\x.getD 2 ai=ag ah kp/\x.getD 3 ai=aB cm/\x.getD 9 ai=ay (ae ⟨pb,0,af⟩))/\w'.heap=w3.heap) (fun _ _ _ _ h=>h) func9 J9.2.1 Uy.2.1 IA df7 (fun t d=>aEq (ayk (Bv.trans z7) ((nX rfl).trans<|(dL 2<|.inl rfl).trans g2) ((nX rfl).trans<|(dL 3<|.inr rfl).trans g3)<|(nX rfl).trans g97) fun e x w' hq=>⟨hq.1,hq.2.1,by rw[hq.2.2];rfl⟩) fun x8 w4 CV hK J7=>?_;obtain⟨⟨z8,h2,h3,h9⟩,hh4⟩:=hK;replace h2:=(nX (D:=nY) (f:=fun j=>a7.tmps.getD j ai) rfl).trans h2;replace h3:=(nX (D:=nY) (f:=fun j=>a7.tmps.getD j ai) rfl).trans h3;replace h9:=(nX (D:=nY) (f:=fun j=>a7.tmps.getD j ai) rfl).trans h9;replace z8:=(Bv (ov:=lay nY fun j=>a7.tmps.getD j ai)).trans z8;generalize au.jA (lay nY fun j=>a7.tmps.getD j ai) x8=a8 at z8 h2 h3 h9 J7⊢
 have at4:bH w4 B pb xb n s:=at3.same hh4;have fr4:Fr (fun k=>B<=k) w2 w4:=(YN.Ac (d:=d5)).Na CV hh4;have ayD:au.aG ((au.bJ fo s1).cut w4.heap.size) (ay<|ae ⟨pb,0,af⟩):=Bi hp<|aX at4.pa.blk;refine jO fun d6=>?_;refine vK fun d7=>?_;rw[YX.2.1,eU];refine Dh YS.1 YS.2.1 YS.2.2.1 (by decide) (.inl YS.2.2.2) h9 fun a9 e9 p9=>?_;have ayE:=J7.put p9<|.inr ayD;rw[eU];refine J3 (f:=19) (post:=fun B' v w'=>B'=au.bJ fo s1/\v=aB true/\∃s',wV w4 w' B pb xb s (n+4) s'/\s'.h.up=true/\∀(k:Nat) (p:PL),s'.h.pl[k]? =ae p->p.out=false) YT.1 YT.2.1 YT.2.2.1 (by decide) YT.2.2.2 func19 rfl rfl (vs:=#[ay<|ae ⟨pb,0,af⟩]) ?_ (fun d=>(axi (w:=w4.at d) (at4.same rfl) (by omega) hp).mono fun B' v w' hg=>?_) ?_
 ·have e1:a9.eval (.tmp 31)=ay (ae ⟨pb,0,af⟩):=p9.at_ (by show 31<a8.size;rw[z8];decide);simp[e1]
 ·obtain⟨q1,q2,s',⟨f1,⟨f2,f3,f4,f5,f6⟩,f7⟩,q4⟩:=hg;exact⟨q1,q2,s',⟨f1,⟨f2,f3,f4,f5,f6⟩,f7⟩,q4⟩
 rintro B' v w5 wY IU ⟨rfl,rfl,s5,Qm,up5,in5⟩;have sz5:w4.heap.size<=w5.heap.size:=Qm.dL.size;have YL:=(ayE.put IU<|.inr .bool).mono fun v hv=>J5 (s1:=s1) (fun _=>.inl) sz5 hv;have z9:a9.tmps.size=203:=p9.sz.trans z8;have z10:wY.tmps.size=203:=IU.sz.trans z9;refine Dh YU.1 YU.2.1 YU.2.2.1 (by decide) (.inr YU.2.2.2) (IU.at_ (by rw[z9];decide)) fun zZ e11 IV=>?_;have adV:=YL.put IV<|.inr .bool;have z11:zZ.tmps.size=203:=IV.sz.trans z10;refine vM fun d8=>?_;refine jO fun d9=>?_;refine jO fun d10=>?_;refine vK fun d11=>?_;rw[YX.2.2.1,eU,eU,eU,eU];refine Df (v:=ag ah 0) UA.1 UA.2.1 UA.2.2.1 (by decide) (fun d=>adS UA.2.2.2) (fun d e he=>by rw[akJ UA.2.2.2]at he;simp at he) fun a12 e12 KQ=>?_;have ayH:=adV.put KQ<|.inr .int;refine vM fun d12=>?_;refine jD (fun _=>aEg) fun d13=>?_;refine jD (fun _=>aEO) fun d14=>?_;rw[eU,eU,eU,eU];have AA:=Qm.at_.pg.sn.T1;have hK1:=Qm.at_.pg.sn.K1;obtain⟨M,hM⟩:=uA (show 0<=s5.h.T+2*s5.h.K+8 by omega);have T12:T9 pb 0 kp cm a12.tmps:=⟨KQ.sz.trans z11,(KQ.ne 2<|by decide).trans<|(IV.ne 2<|by decide).trans<|(IU.ne 2<|by decide).trans<|(p9.ne 2<|by decide).trans h2,(KQ.ne 3<|by decide).trans<|(IV.ne 3<|by decide).trans<|(IU.ne 3<|by decide).trans<|(p9.ne 3<|by decide).trans h3,(KQ.ne 9<|by decide).trans<|(IV.ne 9<|by decide).trans<|(IU.ne 9<|by decide).trans<|(p9.ne 9<|by decide).trans h9,(KQ.ne 10<|by decide).trans<|IV.at_ (by rw[z10];decide),KQ.at_ (by rw[z11];decide)⟩;refine ayl (B:=B) (pb:=pb) (xb:=xb) (w0:=w2) (n0:=n+4) (M:=M) (by omega) (by omega) ?_ M 0 (n+4) s1 a12 _ s5 (by omega) ⟨T12,KQ.df.trans<|IV.df.trans<|IU.df.trans p9.df,ayH,Qm.at_.same rfl,by omega,hM,up5,in5,fun i x _ hx=>Qm.at_.pg.sn.lv up5 hM hx,hp,hB,(fr4.trans Qm.dL fun _=>.inl).Ac⟩;intro s2 n2 a13 w6 s6 R;refine akG (D:=nY) (w:=w6) (K:=fun x w'=>x.getD 8 ai=aB true/\∀b,b<w6.heap.size->¬B<=b->w'.heap[b]? =w6.heap[b]?) (fun _ _ _ _ h=>h) func9 J9.2.2.2.2 ayi R.ok R.df (fun t d=>aEq (ayp (w:=au.re w6 t d) R.T.lay (R.at_.same rfl) (by have:=R.fB;omega) R.up R.ins fun x hx=>by
  have v:=R.lv 0 x (by have:=R.at_.pg.sn.P1;omega) hx;rw[Nat.sub_self]at v;exact v.over<|R.at_.pg.sn.up R.up 0 x hx) fun e a' w' hq=>⟨hq.1,hq.2.1,fun b hb h=>hq.2.2.block b hb h⟩) ?_
 rintro x9 w7 todo Za ⟨uo,hf7⟩ aCj;refine au.Reach.here fun _=>⟨rfl,rfl,rfl,func9,by kernel_rfl,aB true,fun d=>⟨?_,by kernel_rfl,rfl,?_⟩⟩
 ·rw[<-uo,<-nX (D:=nY) (i:=8) rfl];exact aET rfl _ _ _
 ·have f7:Fr (fun k=>B<=k) w6 w7:=⟨Za.os,Za.tape,Za.output,Za.size,fun b hb h=>hf7 b hb h⟩;have g3:Fr (fun k=>w.heap.size<=k) w2 w7:=(R.fr.trans f7 fun _=>.inl).mono fun k hk=>.inl<|eG f02.size<|eG Aj hk;have g0:Fr (fun k=>w.heap.size<=k) w w2:=f02.mono fun _ h=>h.elim;exact(g0.trans g3 fun _=>.inl).Ac
end
section
open Go.ChangeShapes Go.WideShapes Go.ChangeAt Go.RowKit
def ayJ:ownKnob prog.godebug=none:=by kernel_rfl
def ayK:prog.cellsOf 23=4:=by kernel_rfl
def ak4:prog.cellsOf 28=6:=by kernel_rfl
def ayL:prog.cellsOf 9=1:=by kernel_rfl
def ayM:prog.cellsOf 4=1:=by kernel_rfl
variable{H:Type}{w:aj}{spare:Nat->Bool}{held:Bool}{n:Nat}{cs:List az}
def ayN{enc:dw×az->H}{x:DataW H×List MemPlace}(h:DataW.trod enc prog w 0 spare held n 23 cs=ae x):
 ∃P Q T K:Int,cs=[ag ah P,ag ah Q,ag ah T,ag ah K]/\eP P/\eP Q/\eP T/\eP K:=by
 obtain⟨xs,m,_,_,hl,hx,hf⟩:=DataW.trod_struct underlying23 h;rw[ayK]at hl;match cs,hl with
 |[c0,c1,c2,c3],_=>
  have f0:DataW.trod enc prog w 0 spare held m 3 (([c0,c1,c2,c3].drop 0).take<|prog.cellsOf 3)=xs[0]? :=hf 0 _ rfl;have f1:DataW.trod enc prog w 0 spare held m 3 (([c0,c1,c2,c3].drop 1).take<|prog.cellsOf 3)=xs[1]? :=hf 1 _ rfl;have f2:DataW.trod enc prog w 0 spare held m 3 (([c0,c1,c2,c3].drop 2).take<|prog.cellsOf 3)=xs[2]? :=hf 2 _ rfl;have f3:DataW.trod enc prog w 0 spare held m 3 (([c0,c1,c2,c3].drop 3).take<|prog.cellsOf 3)=xs[3]? :=hf 3 _ rfl;match xs,hx with
  |[x0,x1,x2,x3],_=>
   simp only[aaw,List.drop_zero,am1,List.take_succ_cons,List.take_zero,xE,zB]at f0 f1 f2 f3;obtain⟨a0,e0,_,w0⟩:=aEA underlying3 f0;obtain⟨a1,e1,_,w1⟩:=aEA underlying3 f1;obtain⟨a2,e2,_,w2⟩:=aEA underlying3 f2;obtain⟨a3,e3,_,w3⟩:=aEA underlying3 f3;simp only[VX,and_true]at e0 e1 e2 e3;subst e0 e1 e2 e3;exact⟨a0,a1,a2,a3,rfl,w0,w1,w2,w3⟩
def ayO(d:DataW H):1<=Rows.uptoBulk d:=by
 cases d with
 |lit l=>cases l<;>simp[Rows.uptoBulk]
 |_=>simp[Rows.uptoBulk]
def ak5:∀l:List (DataW H),l.length<=Rows.uptoBulkAll l
 |[]=>mi _
 |x::r=>by
  have h1:=ayO x;have h2:=ak5 r;simp only[Rows.uptoBulkAll,oq];omega
def ak6{enc:dw×az->H}{x:DataW H×List MemPlace}(h:DataW.trod enc prog w 0 spare held n 28 cs=ae x):
 ∃y:Aa,cs=[ag ah y.k,ag ah y.p,ag ah y.q,ag ah y.m,dA y.s,aB y.c]/\eP y.p/\eP y.q/\eP y.m/\7<=Rows.uptoBulk x.1:=by
 obtain⟨xs,m,_,gJ,hl,hx,hf⟩:=DataW.trod_struct underlying28 h;rw[ak4]at hl;match cs,hl with
 |[c0,c1,c2,c3,c4,c5],_=>
  have f0:DataW.trod enc prog w 0 spare held m 3 (([c0,c1,c2,c3,c4,c5].drop 0).take<|prog.cellsOf 3)=xs[0]? :=hf 0 _ rfl;have f1:DataW.trod enc prog w 0 spare held m 3 (([c0,c1,c2,c3,c4,c5].drop 1).take<|prog.cellsOf 3)=xs[1]? :=hf 1 _ rfl;have f2:DataW.trod enc prog w 0 spare held m 3 (([c0,c1,c2,c3,c4,c5].drop 2).take<|prog.cellsOf 3)=xs[2]? :=hf 2 _ rfl;have f3:DataW.trod enc prog w 0 spare held m 3 (([c0,c1,c2,c3,c4,c5].drop 3).take<|prog.cellsOf 3)=xs[3]? :=hf 3 _ rfl;have f4:DataW.trod enc prog w 0 spare held m 9 (([c0,c1,c2,c3,c4,c5].drop 4).take<|prog.cellsOf 9)=xs[4]? :=hf 4 _ rfl;have f5:DataW.trod enc prog w 0 spare held m 4 (([c0,c1,c2,c3,c4,c5].drop 5).take<|prog.cellsOf 4)=xs[5]? :=hf 5 _ rfl;match xs,hx with
  |[x0,x1,x2,x3,x4,x5],_=>
   simp only[aaw,ayM,ayL,List.drop_zero,am1,List.take_succ_cons,List.take_zero,xE,zB]at f0 f1 f2 f3 f4 f5;obtain⟨a0,e0,_,_⟩:=aEA underlying3 f0;obtain⟨a1,e1,_,w1⟩:=aEA underlying3 f1;obtain⟨a2,e2,_,w2⟩:=aEA underlying3 f2;obtain⟨a3,e3,_,w3⟩:=aEA underlying3 f3;obtain⟨a4,e4,d4,_⟩:=DataW.trod_string underlying9 f4;obtain⟨a5,e5,_⟩:=DataW.trod_bool underlying4 f5;simp only[VX,and_true]at e0 e1 e2 e3 e4 e5;subst e0 e1 e2 e3 e4 e5;refine⟨⟨a0,a1,a2,a3,a4,a5⟩,rfl,w1,w2,w3,?_⟩;rw[gJ];have h:=ak5 [x0.1,x1.1,x2.1,x3.1,x4.1,x5.1];simp only[Rows.uptoBulk,uF,wC,oq,wB]at h⊢
   omega
def ak7:∀l m:List (DataW H),Rows.uptoBulkAll (l++m)=Rows.uptoBulkAll l+Rows.uptoBulkAll m
 |[],m=>by simp[Rows.uptoBulkAll]
 |x::r,m=>by
  rw[nP];simp only[Rows.uptoBulkAll,ak7 r m];omega
def ak8{α:Type}{p:Nat->α->Prop}:∀(n:Nat),(∀i,i<n->∃x,p i x)->∃l:List α,l.length=n/\∀(i:Nat) x,l[i]? =ae x->p i x
 |0,_=>⟨[],rfl,fun i x h=>by simp at h⟩
 |n+1,h=>by
  obtain⟨l,hl,hp⟩:=ak8 n (fun i hi=>h i<|by omega);obtain⟨x,hx⟩:=h n (by omega);refine⟨l++[x],by simp[hl],fun i y hy=>?_⟩;by_cases hi:i<l.length
  ·rw[uz hi]at hy;exact hp i y hy
  ·rw[xC<|by omega]at hy;have h0:i-l.length=0:=by
    have:=(List.getElem?_eq_some_iff.mp hy).1;simp at this;omega
   rw[h0]at hy;obtain rfl:x=y:=by simpa using hy
   have:i=n:=by omega
   subst this;exact hx
def ak9{D:Nat->DataW H}:∀n:Nat,(∀i,i<n->7<=Rows.uptoBulk (D i))->7*n<=Rows.uptoBulkAll ((List.range n).map D)
 |0,_=>mi _
 |n+1,h=>by
  have h1:=ak9 n fun i hi=>h i (by omega);have h2:=h n (by omega);rw[aan,Oe,ak7];simp only[uF,wC,Rows.uptoBulkAll];omega
def ayP{enc:dw×az->H}{v:az}{x:DataW H×List MemPlace}(h:DataW.trod enc prog w 0 (fun _=>true) true n 26 v.cells.toList=ae x)(hv:∃a l c,v=.slice a l c):
 ∃ao cap,∃l:List Aa,v=.slice ao l.length cap/\Qi w ao l/\7*l.length<=Rows.uptoBulk x.1:=by
 obtain⟨a0,l0,c0,rfl⟩:=hv;rcases Deep.open_slice underlying26 h with⟨hcs,rfl⟩|⟨a,len,cap,m,k,D,Pl,hcs,_,hl,hm,Zb,rfl,oh⟩
 ·simp[Value.cells]at hcs;obtain⟨rfl,rfl,rfl⟩:=hcs;exact⟨af,0,[],rfl,fun i x hx=>by simp at hx,mi _⟩
 ·simp[Value.cells]at hcs;obtain⟨rfl,rfl,rfl⟩:=hcs;simp only[if_true]at Zb;subst Zb;rw[ak4]at oh;obtain⟨l,hls,di⟩:=ak8 (p:=fun i (y:Aa)=>i<l0/\(∃sb so,ae a=ae (⟨sb,so,af⟩:Addr)/\sb<w.heap.size/\y.at_ w sb (so+i*6))/\eP y.p/\eP y.q/\eP y.m/\7<=Rows.uptoBulk (D i)) l0 (fun i hi=>by
   obtain⟨cs,h1,h2⟩:=oh i (by omega);obtain⟨y,rfl,w1,w2,w3,h7⟩:=ak6 h2;obtain⟨_,_,hcell⟩:=World.cells?_some h1;obtain⟨cs0,g1,g2⟩:=oh 0 (by omega);obtain⟨y0,rfl,_⟩:=ak6 g2;obtain⟨_,_,ayQ⟩:=World.cells?_some g1;obtain⟨sb,so,spot⟩:=a;have h0:=ayQ 0 (by omega);have aAK:spot=none:=by
    have:=World.cell?_spot h0;simpa[Addr.add]using this
   subst aAK;have hc:∀j u,j<6->[Value.int .i64 y.k,ag ah y.p,ag ah y.q,ag ah y.m,dA y.s,aB y.c][j]? =ae u->w.cell? ⟨sb,so+i*6+j,af⟩=ae u:=fun j u hj hu=>by
    have:=hcell j hj;rw[aEn,aEn]at this;rw[this];exact hu
   exact⟨y,hi,⟨sb,so,rfl,World.block_lt_of_cell? w ⟨sb,so+i*6+0,af⟩<|hc 0 _ (by omega) rfl,⟨hc 0 _ (by omega) rfl,hc 1 _ (by omega) rfl,hc 2 _ (by omega) rfl,hc 3 _ (by omega) rfl,hc 4 _ (by omega) rfl,hc 5 _ (by omega) rfl⟩⟩,w1,w2,w3,h7⟩)
  refine⟨ae a,_,l,by rw[hls],fun i x hx=>?_,?_⟩
  ·obtain⟨_,h1,h2,h3,h4,_⟩:=di i x hx;exact⟨h1,h2,h3,h4⟩
  ·have:=ak9 (D:=D) l0 fun i hi=>by
    obtain⟨_,_,_,_,_,h7⟩:=di i _ (eY<|by omega);exact h7
   simp only[Rows.uptoBulk];omega
end
section
open Go.ChangeShapes Go.WideShapes Go.ChangeAt Go.RowKit
def was(n:Nat):Nat->Prop:=fun b=>b=1\/(5<=b/\b<n)
def ayR:(begin prog (fun _ _=>0) default).world.heap.size=5:=by kernel_rfl
def ayS:(begin prog (fun _ _=>0) default).world.heap[0]? =ae (.cells ((Array.range prog.types.size).map fun t=>.int .u64<|Int.ofNat t) 0):=by kernel_rfl
def ayT:(begin prog (fun _ _=>0) default).world.heap[2]? =ae (.finalizers #[] af):=by kernel_rfl
def ayU:(begin prog (fun _ _=>0) default).world.heap[3]? =ae (aC #[aB false] 0):=by kernel_rfl
def ayV:(begin prog (fun _ _=>0) default).world.heap[4]? =ae (.finalizers #[] af):=by kernel_rfl
def gsz:prog.globals.size=0:=by kernel_rfl
def alc{o:Obj}(h:o.alike (.finalizers #[] af)):∃a b,o=.finalizers a b:=by
 cases o with
 |finalizers a b=>exact⟨a,b,rfl⟩
 |_=>cases h
def ayW{w:aj}(h:w.ShapedOpen prog):au.oQ (au.bJ (was w.heap.size) fun _=>False) w:=by
 have hk:∀k,k<5->∃o o₀,w.heap[k]? =ae o/\(begin prog (fun _ _=>0) default).world.heap[k]? =ae o₀/\(if World.looseAt k=true then o.alike o₀ else o=o₀):=fun k hk=>by
  have:=h.2 k (by rw[gsz];exact mi _) (by rw[ayR];exact hk);rw[gsz]at this;exact this
 have h5:5<=w.heap.size:=by
  obtain⟨o,_,ho,_⟩:=hk 4 (by decide);exact(jk.1 ho).1
 refine⟨fun b o hb ho=>?_,fun b hb=>?_,h5⟩
 ·have aI:=(jk.1 ho).1;have iT:¬was w.heap.size b:=fun z=>hb<|.inl<|.inr z;have h4:b<5:=Nat.lt_of_not_le fun z=>iT<|.inr ⟨z,aI⟩;have h1:b≠1:=fun z=>iT<|.inl z;obtain⟨o',o₀,e1,e2,e3⟩:=hk b h4;rw[ho]at e1;cases e1;match b,h4,h1 with
  |0,_,_=>
   rw[ayS]at e2;cases e2;have e:o=_:=e3;subst e;intro v hv;obtain⟨t,_,rfl⟩:=VY.1 hv;exact .int
  |2,_,_=>
   rw[ayT]at e2;cases e2;obtain⟨_,_,rfl⟩:=alc e3;trivial
  |3,_,_=>
   rw[ayU]at e2;cases e2;have e:o=_:=e3;subst e;intro v hv;simp at hv;subst hv;exact .bool
  |4,_,_=>
   rw[ayV]at e2;cases e2;obtain⟨_,_,rfl⟩:=alc e3;trivial
 ·rcases hb with hb|hb|hb
  ·exact hb.elim
  ·subst hb;exact⟨dm _,by omega⟩
  ·exact⟨by omega,hb.2⟩
def ayX{p:Pinned}{s:OpenSpec}{c:OpenClaim}(f:FuncId)(fn:Func)
 (hn:c.program=p.name)(hs:c.sum=p.sum)(hsp:c.spec=s.name)
 (hstart:c.start=.entering)(Gg:c.outside=[])(fE:c.inits=[])(Gq:c.under=af)(hi4:c.initsInPlace=[]/\c.initsUnfollowed=false/\c.initsRecurse=false/\c.initsNamed=[]/\c.initsPassed=[])(ZL:c.noBlocks=false)(hlv:c.leaving=true)(yu:c.followed=af)(aAN:c.narrowed=s.cond.isSome)(NV:c.still=false)
 (qy:p.checked.prog.funcNamed c.func=ae f)(hf:p.checked.prog.funcs[f]? =ae fn)
 (closed:joinedFacts p.checked.prog f fn s.bare c=true)
 (aAO:fn.isInstance p.checked.prog c.origin c.targs)(aAP:fn.isWrapper p.checked.prog c.wrapper c.mainSum)
 (h:∀os:Os,os.Started->∀(H:Type) (enc:dw×az->H),(∀a b,enc a=enc b->a=b)->∀F:Stop.Interp,
   ReturnsInLeavingWide c.assume p.checked os f .any (c.pre enc p.checked.prog fn s) ((s.at F).post enc p.checked.prog fn c.apart c.fresh c.handsOn c.again)):c.holds p s:=by
 simp only[joinedFacts,mg,beq_iff_eq,amR,aam,VS]at closed
 obtain⟨⟨⟨⟨⟨⟨⟨⟨⟨⟨⟨⟨⟨⟨⟨⟨⟨⟨⟨⟨⟨⟨⟨⟨⟨⟨⟨⟨⟨⟨⟨k1,k2⟩,k3⟩,k4⟩,k5⟩,k6⟩,k7⟩,k8⟩,k9⟩,VH⟩,k11⟩,k12⟩,VI⟩,VJ⟩,k15⟩,k16⟩,k17⟩,aAU⟩,k18⟩,k19⟩,zy⟩,k21⟩,k22⟩,k23⟩,aAZ⟩,k24⟩,aA0⟩,aA1⟩,k25⟩,k26⟩,k27⟩,k28⟩:=closed
 have hq:∀os:Os,Stop.quiet p.checked.prog os:=fun os k hk=>by rw[k9]at hk;cases hk
 refine⟨k1,hn,hs,hsp,k2,k3,by unfold OpenClaim.startFits;rw[hstart];exact k24,by unfold OpenClaim.startTold;rw[hstart];exact⟨fE,Gq,hi4⟩,f,fn,qy,hf,⟨k4,k19⟩,(fun hb=>by rw[ZL]at hb;cases hb),by unfold OpenClaim.namedList;rw[yu];exact k5,aAO,aAP,
  k6.trans k7.symm,⟨k8.trans k9.symm,by unfold Program.envWorded;rw[k9];rfl,aAZ⟩,VH,k11,k12,VI,VJ,⟨k15,k27,k28⟩,⟨k16,zy⟩,⟨k17,k21,k25,k26⟩,⟨k22,aA0,aA1,aAU⟩,(by rw[Gg,aAN];cases EO:c.shortTexts with|none=>simp|some _=>rw[EO]at k23;cases k23),fun n hn'=>varReadable_some<|k18 n hn',
  ⟨_,by unfold OpenClaim.world;rw[Gg,hstart];exact WideRow.started_initial,hq _⟩,[],by unfold OpenClaim.lists;rw[yu],fun os st _ H enc inj=>?_⟩
 have st':os.Started:=by unfold OpenClaim.world at st;rw[Gg,hstart]at st;exact st
 rw[OpenClaim.post_not_still NV]
 unfold OpenClaim.form
 rw[hstart,k6]
 intro F
 have e1:c.okInput=Input.okWide:=by unfold OpenClaim.okInput;rw[ZL]
 have e2:c.atReturn p.checked.prog=leavingAtReturn p.checked.prog:=by unfold OpenClaim.atReturn;rw[hlv]
 have e3:c.always p.checked.prog []=nothingAlways:=by unfold OpenClaim.always;rw[yu]
 have e4:s.post enc p.checked.prog fn F c.outside c.apart c.fresh c.handsOn c.again=(s.at F).post enc p.checked.prog fn c.apart c.fresh c.handsOn c.again:=by rw[Gg];rfl
 rw[e1,e2,e3]
 show ReturnsInOpen _ _ _ _ _ _ _ _ (s.post enc p.checked.prog fn F c.outside c.apart c.fresh c.handsOn c.again) _ _
 rw[e4]
 exact h os st' H enc inj F k24
end
section
open Go.ChangeShapes Go.WideShapes Go.ChangeAt Go.RowKit
def ayY(os:Os)(started:os.Started)(H:Type)(enc:dw×az->H)(F:Stop.Interp):
 ReturnsInLeavingWide {} Tryz.checked os 9 .any ((Rows.OpenSpec.upto Rows.tornSpec).pre6 enc prog Tryz.f9 Rows.tornUptoRow.domain false) (((Rows.OpenSpec.upto Rows.tornSpec).at F).post enc prog Tryz.f9 false true false false):=by
 refine returnsInLeavingWide_of_good (C:=Tryz.checked) ayJ started
  (OpenSpec.witness (enc:=enc) (C:=Tryz.checked) (s:=Rows.OpenSpec.upto Rows.tornSpec) (k:=Rows.uptoSmall) rfl false ⟨#[],#[gY #[ag ah 0,ag ah 0,ag ah 0,ag ah 0],aJ af 0 0,ag ah 0,aB false],[]⟩ 8 (by kernel_rfl) (by kernel_rfl) (by kernel_rfl)
    (x:=([.agg [.lit<|.int .i64 0,.lit<|.int .i64 0,.lit<|.int .i64 0,.lit<|.int .i64 0],.nil,.lit<|.int .i64 0,.lit<|.bool false],[],[])) (by kernel_rfl) rfl (by kernel_rfl)) ?_
 intro w0 tape i _ amQ _ Vz ae4 _;obtain⟨_,_,_,fn',Nz,_,_,_,_,aae⟩:=Vz;have e:fn'=Tryz.f9:=qX<|Nz.symm.trans func9;subst e;obtain⟨ds,gs,before,hw,_,hk⟩:=(OpenSpec.pre_some (k:=Rows.uptoSmall) rfl _ _ _ _).1 ae4.1;have hW:=DataW.Whole.of_heap (w':=w0.forCall tape i) (by rfl) hw;obtain⟨ih,args,iv⟩:=i;generalize w0.forCall tape ⟨ih,args,iv⟩=W at amQ hW aae⊢
 clear hw ae4 Nz;simp only at hW aae⊢
 have hval:∀(j:Nat) t v,Tryz.f9.params[j]? =ae t->args[j]? =ae v->Value.okWide prog W .any w0.heap.size t v:=aae;have hW':=hW;obtain⟨p,q,Gu,hV,rfl,_,_⟩:=hW;have hA:DataW.TrodAll enc prog W 0 (fun _=>true) true Tryz.f9.params.toList args.toList ds p:=Gu;rw[params9]at hA hval;obtain⟨v0,v1,v2,v3,d0,d1,d2,d3,p0,p1,p2,p3,rfl,rfl,rfl,h0,h1,h2,h3⟩:=trodAll_four hA;obtain⟨rfl,rfl⟩:=trodVars_none hV;have bP:=hval 0 23 v0 rfl rfl;obtain⟨a0,len,cap,jJ⟩:=okWide_slice underlying26<|hval 1 26 v1 rfl rfl;obtain⟨kp,rfl⟩:=okWide_int underlying3<|hval 2 3 v2 rfl rfl;obtain⟨cm,rfl⟩:=okWide_bool underlying4<|hval 3 4 v3 rfl rfl;have h0k:=h0;have h1k:=h1;obtain⟨fuel,hf⟩:=h0;obtain⟨aDV,bM⟩:=h1;clear Gu aae;simp only[ql]at hW' hk;have aI:∀x∈p0++p1++p2++p3,x.block<W.heap.size:=fun x hx=>by simpa using hW'.lt x hx
 have aA9:∀(W':aj),Below W.heap.size W W'->DataW.Trod enc prog W' 0 (fun b=>decide<|b<W.heap.size) true 23 v0 d0 p0:=
  fun W' hn=>Below.trod laidOut (by kernel_rfl) (QN<|by kernel_rfl) h0k hn fun x hx=>aI x<|by simp[hx]
 have aBa:∀(W':aj),Below W.heap.size W W'->DataW.Trod enc prog W' 0 (fun b=>decide<|b<W.heap.size) true 26 v1 d1 p1:=
  fun W' hn=>Below.trod laidOut (by kernel_rfl) (QN<|by kernel_rfl) h1k hn fun x hx=>aI x<|by simp[hx]
 have ayZ:∀(W':aj),Below W.heap.size W W'->DataW.Trod enc prog W' 0 (fun b=>decide<|b<W.heap.size) true 3 (ag ah kp) d2 p2:=
  fun W' hn=>Below.trod laidOut (by kernel_rfl) (QN<|by kernel_rfl) h2 hn fun x hx=>aI x<|by simp[hx]
 have ay0:∀(W':aj),Below W.heap.size W W'->DataW.Trod enc prog W' 0 (fun b=>decide<|b<W.heap.size) true 4 (aB cm) d3 p3:=
  fun W' hn=>Below.trod laidOut (by kernel_rfl) (QN<|by kernel_rfl) h3 hn fun x hx=>aI x<|by simp[hx]
 obtain⟨P,Q,T,K,hcs,hP,hQ,hT,hK⟩:=ayN hf;have hv:v0=jg P Q T K:=by
  obtain⟨cs,rfl,_⟩:=okWide_struct underlying23 bP;have e:cs.toList=[ag ah P,ag ah Q,ag ah T,ag ah K]:=hcs;have e2:cs=#[ag ah P,ag ah Q,ag ah T,ag ah K]:=by rw[<-Array.toList_inj,e]
  rw[e2];rfl
 subst hv;obtain⟨ao,ad4,l,rfl,di,hl⟩:=ayP bM ⟨a0,len,cap,jJ⟩;have aDW:Rows.uptoBulk d1<=1048576:=by
  have h1:Rows.uptoBulkAll [d0,d1,d2,d3]<=1048576:=QN hk;simp only[Rows.uptoBulkAll]at h1;omega
 have hlen:l.length<=180000:=by
  have:7*l.length<=Rows.uptoBulk d1:=hl;omega
 obtain⟨N,last,o,w',t',r1,r2,r3,r4⟩:=au.ayu (ayW amQ)<|ayA (cap:=ad4) hP hQ hT hK di hlen;refine⟨N,last,o,w',t',r1,r2,r3,r4.mono fun v hvf=>?_⟩;obtain⟨rfl,dO⟩:=hvf;have hb:Below W.heap.size W w':=⟨dO.os,dO.tape,dO.output,dO.size,fun b hb=>dO.block b hb<|Nat.not_le.2 hb⟩;refine ChangeSpec.post_blind ⟨_,_,_,[],p0++p1++p2++p3,[],hW',?_,?_,rfl,hb.frame _,fun h=>by cases h⟩
 ·exact trodAll_mk1<|shut_bool underlying4 _
 ·rw[AQ,AQ];exact trodAll_mk4 (aA9 _ hb) (aBa _ hb) (ayZ _ hb)<|ay0 _ hb
theorem torn_holds:Rows.TornUptoSaid:=
 ayX 9 Tryz.f9 rfl rfl rfl rfl rfl rfl rfl ⟨rfl,rfl,rfl,rfl,rfl⟩ rfl rfl rfl rfl rfl (by kernel_rfl) func9 (by kernel_rfl)
  (QN<|by kernel_rfl) (by unfold Func.isWrapper;first|(rw[if_pos<|by decide+kernel];kernel_rfl)|(rw[if_neg<|by decide+kernel];exact⟨rfl,rfl⟩))
  (fun os started H enc _ F=>ayY os started H enc F)
end
#print axioms torn_holds
end Go.Proofs.YtkelpcjiediamaaGreat
