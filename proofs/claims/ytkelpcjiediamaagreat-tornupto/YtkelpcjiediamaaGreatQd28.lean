import Derived.Test.YtkelpcjiediamaaGreatQd27
set_option maxRecDepth 100000
set_option maxHeartbeats 0
set_option linter.all false
namespace Go.Proofs.YtkelpcjiediamaaGreat
open Go renaming Calls→aU,Frame→bu,Value→az,World→aj,execOp→dP,undef→ai
open Go.Ending renaming returned→aT
open Go.IntKind renaming i64→ah
open Go.Obj renaming cells→aC
open Go.Value renaming bool→aB,int→ag,pointer→ay,slice→aJ
open Option renaming none→af,some→ae
open Go.Proofs.Tryz
open Go.RowKit Go.Maps
section
open Go.RowKit Go.Maps Go.Conc
open _root_.Go.Proofs.YtkelpcjiediamaaGreat.Twin _root_.Go.Proofs.YtkelpcjiediamaaGreat.fJ
structure Pd(fo s0:Nat->Prop)(B pb xb:Nat)(w0:aj)(v1:az)(i n:Nat)(a:Act)(w:aj)(s:dB):Prop where
 T:rO v1 pb i a.tmps
 df:a.defers=[]
 ok:qH oK ((au.bJ fo s0).cut w.heap.size) a.tmps
 at_:bH w B pb xb n s
 fB:n<=1000+312*i
 hp:¬(s0 pb\/fo pb)
 hB:∀k,s0 k->B<=k
 fr:Fr (fun k=>B<=k) w0 w
def Fr.Na{S:Nat->Prop}{w0 w w':aj}(f:Fr S w0 w)(on:au.On w w')(e:w'.heap=w.heap):Fr S w0 w':=
 ⟨on.os.trans f.os,on.tape.trans f.tape,on.output.trans f.output,by rw[e];exact f.size,fun b hb h=>by rw[e];exact f.block b hb h⟩
def Fr.Ac{S:Nat->Prop}{w0 w:aj}{d:Nat}(f:Fr S w0 w):Fr S w0 (w.at d):=⟨f.os,f.tape,f.output,f.size,f.block⟩
section
variable{fo:Nat->Prop}{B pb xb:Nat}{w0:aj}{ao:Option Addr}{cap:Nat}{l:List Aa}{rest:List Item}{cs cs2:List bu}{Q:au.cO->bu->aj->Prop}
def akM{s:Nat->Prop}{a:Act}{w:aj}{i n:Nat}(T:rO (.slice ao n cap) pb i a.tmps)(ok:qH oK ((au.bJ fo s).cut w.heap.size) a.tmps)(hd:a.defers=[])
 (hn:∀a' d,rO (.slice ao n cap) pb i a'.tmps->a'.tmps.getD 16 ai=aB (decide<|i<n)->qH oK ((au.bJ fo s).cut w.heap.size) a'.tmps->a'.defers=[]->au.Reach (au.bJ fo s) prog ((base 15).at a' rest) cs (w.at d) Q cs2):
 au.Reach (au.bJ fo s) prog ((base 15).at a<|.code YA::rest) cs w Q cs2:=by
 rw[ax0];refine vK fun d1=>?_;rw[ax1];refine Dh YB.1 YB.2.1 YB.2.2.1 (by decide) (.inl YB.2.2.2) T.a6 fun a2 e2 p2=>?_;have T2:=T.put p2 (by decide);refine Dh YC.1 YC.2.1 YC.2.2.1 (by decide) (.inl YC.2.2.2) T2.a1 fun a3 e3 p3=>?_;have T3:=T2.put p3 (by decide);have h14:a3.eval (.tmp 14)=.slice ao n cap:=p3.at_ (by rw[T2.sz];decide);refine Df (v:=ag ah n) Ul.1 Ul.2.1 Ul.2.2.1 (by decide) (fun d=>(akK h14 Ul.2.2.2).1) (fun d e he=>by rw[(akK h14 Ul.2.2.2).2]at he;simp at he) fun a4 e4 p4=>?_;have T4:=T3.put p4 (by decide);have h13:a4.eval (.tmp 13)=ag ah i:=(p4.ne 13<|by decide).trans ((p3.ne 13<|by decide).trans<|p2.at_ (by rw[T.sz];decide));have h15:a4.eval (.tmp 15)=ag ah n:=p4.at_ (by rw[T3.sz];decide);refine Df (v:=.bool<|decide<|i<n) Um.1 Um.2.1 Um.2.2.1 (by decide) (fun d=>(akL h13 h15 Um.2.2.2).1) (fun d e he=>by rw[(akL h13 h15 Um.2.2.2).2]at he;simp at he) fun a5 e5 p5=>?_;refine vM fun d2=>?_;rw[eU,eU,eU,eU,eU];exact hn a5 d2 (T4.put p5<|by decide) (p5.at_ (by rw[T4.sz];decide)) ((((ok.put p2<|.inr .int).put p3<|.inl rfl).put p4<|.inr .int).put p5<|.inr .bool)<|p5.df.trans<|p4.df.trans<|p3.df.trans<|p2.df.trans hd
def ax9(hl:Qi w0 ao l)(hlen:l.length<=200000)(Aj:w0.heap.size<=B)(sW:∀s1 n a w s,Pd fo s1 B pb xb w0 (.slice ao l.length cap) l.length n a w s->au.Reach (au.bJ fo s1) prog ((base 15).at a<|.code MZ::rest) cs w Q cs2):
 ∀(m i n:Nat) (s0:Nat->Prop) (a:Act) (w:aj) (s:dB),i+m=l.length->Pd fo s0 B pb xb w0 (.slice ao l.length cap) i n a w s->au.Reach (au.bJ fo s0) prog ((base 15).at a<|.code Uk:: .inLoop Uk:: .inBlock 0:: .code MZ::rest) cs w Q cs2:=by
 intro m;induction m with
 |zero=>
  intro i n s0 a w s hi R;obtain rfl:i=l.length:=by omega
  unfold Uk;refine jO fun d1=>?_;refine jO fun d2=>?_;rw[eU];refine akM (w:=w.at d2) R.T R.ok R.df fun a2 d3 T2 Ja uy NM=>?_;rw[qW<|Og _]at Ja;refine jD (fun _=>aEc (t:=false) Ja) fun d4=>?_;rw[if_neg<|by decide];refine jD (fun _=>aFh rfl) fun d5=>?_;rw[eU,eU,eU];exact sW s0 n a2 _ s ⟨T2,NM,uy,R.at_.same rfl,R.fB,R.hp,R.hB,R.fr.Ac⟩
 |succ m ih=>
  intro i n s0 a w s hi R;have lL:i<l.length:=by omega
  obtain⟨y,hy⟩:∃y,l[i]? =ae y:=⟨_,eY lL⟩;obtain⟨⟨sb,so,rfl,hsb,dX⟩,ip,iq,im⟩:=hl i y hy;have hn:n<=70000000:=by have:=R.fB;omega
  unfold Uk;refine jO fun d1=>?_;refine jO fun d2=>?_;rw[eU];refine akM (w:=w.at d2) R.T R.ok R.df fun a2 d3 T2 Ja uy NM=>?_;rw[kF lL]at Ja;refine jD (fun _=>aEc (t:=true) Ja) fun d4=>?_;rw[if_pos rfl];refine jD (fun _=>aEe) fun d5=>?_;refine jO fun d6=>?_;refine jD (fun _=>aEg) fun d7=>?_;refine jO fun d8=>?_;refine vK fun d9=>?_;rw[ax2,eU,eU,eU,eU,eU,eU,eU];replace uy:qH oK ((au.bJ fo s0).cut w.heap.size) a2.tmps:=uy;obtain⟨c0,c1,c2,c3,c4,c5⟩:=Aa.aY dX R.fr Aj hsb;have zg:¬s0 sb:=fun z=>by have:=R.hB sb z;omega
  have NC:sb<w.heap.size:=fK hsb R.fr.size;have v5:au.aG ((au.bJ fo s0).cut w.heap.size) (ay<|ae ⟨pb,0,af⟩):=Bi R.hp<|aX R.at_.pa.blk;refine Dh YF.1 YF.2.1 YF.2.2.1 (by decide) (.inl YF.2.2.2) T2.a5 fun a3 e3 p3=>?_;have zf:=uy.put p3<|.inr v5;have T3:=T2.put p3 (by decide);refine Dh YG.1 YG.2.1 YG.2.2.1 (by decide) (.inl YG.2.2.2) T3.a1 fun a4 e4 p4=>?_;have Ew:=zf.put p4<|.inl rfl;have T4:=T3.put p4 (by decide);refine Dh YH.1 YH.2.1 YH.2.2.1 (by decide) (.inl YH.2.2.2) T4.a6 fun a5 e5 p5=>?_;have Bo:=Ew.put p5<|.inr .int;have T5:=T4.put p5 (by decide);have Dw:a5.eval (.tmp 20)=aJ (ae ⟨sb,so,af⟩) l.length cap:=(p5.ne 20<|by decide).trans (p4.at_ (by rw[T3.sz];decide));have h21:a5.eval (.tmp 21)=ag ah i:=p5.at_ (by rw[T4.sz];decide);refine Df (v:=ay<|ae ⟨sb,so+i*6,af⟩) Ur.1 Ur.2.1 Ur.2.2.1 (by decide) (fun d=>axV Dw h21 lL Ur.2.2.2) (fun d e he=>by rw[axY Dw h21 lL Ur.2.2.2]at he;simp at he) fun a6 e6 p6=>?_;have Bq:=Bo.put p6<|.inl rfl;have T6:=T5.put p6 (by decide);have h22:a6.eval (.tmp 22)=ay (ae ⟨sb,so+i*6,af⟩):=p6.at_ (by rw[T5.sz];decide);rw[eU,eU,eU,eU];refine Df (v:=vP y.k y.p y.q y.m y.s y.c) Us.1 Us.2.1 Us.2.2.1 (by decide) (fun d=>axW (x:=.tmp 22) h22 c0 c1 c2 c3 c4 c5 Us.2.2.2) (fun d e he=>by
   obtain⟨n,rfl⟩:=axX (x:=.tmp 22) (W:=(w.at e6).at d) h22 c0 c1 c2 c3 c4 c5 Us.2.2.2 e he;exact Yy NC zg) fun a7 e7 p7=>?_
  have IA:=Bq.put p7<|.inr<|adJ _ _ _ _ _ _;have T7:=T6.put p7 (by decide);rw[eU];refine J3 (f:=48) (post:=fun B' v w'=>v=aB true/\ug fo s0 w w' B pb xb s (n+306) B') YI.1 YI.2.1 YI.2.2.1 (by decide) YI.2.2.2 func48 rfl rfl (vs:=#[ay<|ae ⟨pb,0,af⟩,vP y.k y.p y.q y.m y.s y.c]) ?_ (fun d=>(axN (w:=w.at d) (R.at_.same rfl) hn R.hp R.hB y.k y.p y.q y.m ip iq im y.c).mono fun B' v w' hg=>⟨hg.1,hg.2.at⟩) ?_
  ·have e1:a7.eval (.tmp 19)=ay (ae ⟨pb,0,af⟩):=(p7.ne 19<|by decide).trans ((p6.ne 19<|by decide).trans<|(p5.ne 19<|by decide).trans<|(p4.ne 19<|by decide).trans<|p3.at_ (by rw[T2.sz];decide));have e2:a7.eval (.tmp 23)=vP y.k y.p y.q y.m y.s y.c:=p7.at_ (by rw[T6.sz];decide);simp[e1,e2]
  rintro B' v w3 a8 p8 ⟨rfl,hw⟩;obtain⟨s1,s',rfl,g,rU,KJ,dL⟩:=hw.go R.at_ R.hp R.hB;have J7:=IA.put p8<|.inr .bool;have T8:=T7.put p8 (by decide);have sz3:w.heap.size<=w3.heap.size:=dL.dL.size;refine Dh YJ.1 YJ.2.1 YJ.2.2.1 (by decide) (.inr YJ.2.2.2) (p8.at_ (by rw[T7.sz];decide)) fun a9 e9 p9=>?_;have J9:=(J7.put p9<|.inr .bool).mono fun v hv=>J5 g sz3 hv;have T9:=T8.put p9 (by decide);have h7:a9.tmps.getD 7 ai=aB true:=p9.at_ (by rw[T8.sz];decide);have df9:a9.defers=[]:=p9.df.trans<|p8.df.trans<|p7.df.trans<|p6.df.trans<|p5.df.trans<|p4.df.trans<|p3.df.trans NM;refine vM fun d9=>?_;rw[eU];refine IB (D:=oK) (w:=w3.at d9) (K:=fun x w'=>rO ai pb i x/\∃s2,bH w' B pb xb (n+306+6) s2/\∀b,b<w3.heap.size->¬B<=b->w'.heap[b]? =w3.heap[b]?) (fun _ _ _ _ h=>h.imp id fun⟨s2,h1,h2⟩=>⟨s2,h1.same rfl,h2⟩) func15 Uo.2.2.2.1 Un.2.2.2.1 J9 df9 (fun t d=>aEq (ax5 T9.tidy ((nX rfl).trans h7) (dL.at_.re t d)<|by omega) fun e x w' hq=>⟨hq.1,hq.2.1,by
   obtain⟨s2,t2⟩:=hq.2.2;exact⟨s2,t2.at_,fun b hb h=>(t2.dL<|dL.at_.same (w1:=au.re (w3.at d9) t d) rfl).block b hb h⟩⟩) fun Z8 w4 CV hK YL=>?_
  obtain⟨VK,s2,at4,bl4⟩:=hK;replace VK:=VK.lay (f:=fun j=>a9.tmps.getD j ai) T9.a1;have fr4:Fr (fun k=>B<=k) w0 w4:=R.fr.trans (dL.dL.trans ⟨CV.os,CV.tape,CV.output,CV.size,fun b hb h=>bl4 b hb h⟩ fun _=>.inl) fun _=>.inl;refine jD (fun _=>aEy) fun d10=>?_;generalize au.jA (lay oK fun j=>a9.tmps.getD j ai) Z8=y10 at VK YL⊢
  refine IB (D:=oK) (w:=w4.at d10) (K:=fun x w'=>rO ai pb (i+1) x/\w'.heap=w4.heap) (fun _ _ _ _ h=>h) func15 Uo.2.2.2.2 Un.2.2.2.2 YL rfl (fun t d=>aEq (ax4 VK.tidy<|by omega) fun e x w' hq=>⟨hq.1,hq.2.1,by rw[hq.2.2];rfl⟩) fun x11 w5 MH hK adV=>?_;refine jD (fun _=>aEI) fun d11=>?_;exact ih (i+1) (n+306+6) s1 _ _ s2 (by omega) ⟨hK.1.lay VK.a1,rfl,adV,at4.same hK.2,by have:=R.fB;omega,rU,KJ,((fr4.Ac (d:=d10)).Na MH hK.2).Ac⟩
end
def Uf.at{fo:Nat->Prop}{w w':aj}{d:Nat}{B':au.cO}{v:az}(h:Uf fo (w.at d) B' v w'):Uf fo w B' v w':=by
 obtain⟨s1,pb,xb,n,s,h1,h2,h3,h4,h5,h6,h7⟩:=h.ex;exact⟨s1,pb,xb,n,s,h1,h2,h3,h4,h5,h6,h7.os,h7.tape,h7.output,h7.size,h7.block⟩
structure akO(fo:Nat->Prop)(w:aj)(len:Nat)(B':au.cO)(v:az)(w':aj):Prop where
 ex:∃(s1:Nat->Prop) (B pb xb n:Nat) (s:dB),B'=au.bJ fo s1/\v=ay (ae ⟨pb,0,af⟩)/\bH w' B pb xb n s/\n<=1000+312*len/\¬(s1 pb\/fo pb)/\(∀k,s1 k->B<=k)/\w.heap.size<=B/\Fr (fun k=>B<=k) w w'
variable{Bn:au.cO}{v:az}{n:Nat}
def Ql(p q t k:Int):au.aG Bn (jg p q t k):=.agg fun x hx=>by
 simp only[tu,jR,pF,pG]at hx;rcases hx with rfl|rfl|rfl|rfl<;>exact .int
def ayc{x:az}:(#[x,v]++Array.replicate n undef:Array az).getD 1 ai=v:=by
 rw[ET,N8];rfl
def ayd{D:List Nat}(h1:D.contains 1=true){p q t k:Int}:qH D Bn (#[jg p q t k,v]++Array.replicate n ai):=fun j hj u hu=>by
 rw[N8]at hu;split at hu
 ·match j with
  |0=>cases hu;exact Ql _ _ _ _
  |1=>rw[h1]at hj;cases hj
  |j+2=>simp at hu
 ·rw[amU]at hu;split at hu
  ·cases hu;exact au.rC
  ·cases hu
def aye{fo:Nat->Prop}{w:aj}{p q t k:Nat}{ao:Option Addr}{cap:Nat}{l:List Aa}(hg:Good p q t k)(hl:Qi w ao l)(hlen:l.length<=200000):
 au.tX (au.bJ fo fun _=>False) prog 15 #[jg p q t k,.slice ao l.length cap] w (akO fo w l.length):=by
 intro c cs;rw[aEX (c:=d15) _ func15 rfl,axZ];refine jO fun d1=>?_;obtain⟨A,hA,Dz,DD,Vt⟩:∃A:Array az,#[jg p q t k,.slice ao l.length cap]++Array.replicate (Tryz.f15.ntmps- #[jg p q t k,.slice ao l.length cap].size) ai=A/\A.getD 1 ai=.slice ao l.length cap/\tidy oK A=#[jg p q t k,ai]++Array.replicate (Tryz.f15.ntmps- #[jg p q t k,ai].size) ai/\∀B,qH oK B A:=⟨_,rfl,ayc,axT ⟨rfl,rfl⟩,fun _=>ayd rfl⟩;rw[hA];refine IB (D:=oK) (w:=w.at d1) (K:=fun x w'=>(x.size=34/\x.getD 1 ai=ai/\x.getD 2 ai=ay (ae ⟨w.heap.size,0,af⟩))/\w'.heap[w.heap.size]? =ae (aC #[ag ah p,ag ah q,ag ah t,ag ah k] 23 (0,0))/\w'.heap.size=w.heap.size+1/\∀b,b<w.heap.size->w'.heap[b]? =w.heap[b]?) (fun _ _ _ _ h=>h) func15 Uo.1 Un.1 (Vt _) rfl (fun ta d=>by rw[DD];exact aEq (ax8 (W:=au.re (w.at d1) ta d)) fun e x w' hq=>⟨hq.1,hq.2.1,hq.2.2.1,hq.2.2.2.1,fun b hb=>hq.2.2.2.2.block b hb id⟩) ?_;rintro x2 w1 lY ⟨⟨sz,g1,g2⟩,hb,eH,EH⟩ uy;replace g1:=(Qh (D:=oK) (f:=fun j=>A.getD j ai) (i:=1) rfl (by rw[sz];decide)).trans Dz;replace sz:=(Bv (ov:=lay oK fun j=>A.getD j ai)).trans sz;replace g2:=(nX (D:=oK) (f:=fun j=>A.getD j ai) rfl).trans g2;generalize au.jA (lay oK fun j=>A.getD j ai) x2=a2 at sz g1 g2 uy⊢
 have f1:Fr aP w w1:=⟨lY.os,lY.tape,lY.output,lY.size,fun b hb _=>EH b hb⟩;have id1:∀k,(fun _:Nat=>False) k->False\/w1.heap.size<=k:=fun _=>.inl;have kY:Qi w1 ao l:=fun i x hx=>by
  obtain⟨⟨sb,so,e,h1,h2⟩,h3⟩:=hl i x hx;exact⟨⟨sb,so,e,by omega,Aa.aY (B:=w.heap.size) h2 (f1.mono fun _ h=>h.elim) (dm _) h1⟩,h3⟩
 refine jO fun d2=>?_;refine vK fun d3=>?_;rw[Qj.2.2.2.2,eU];refine Df (v:=jg p q t k) Qj.1 Qj.2.1 Qj.2.2.1 (by decide) (fun d=>akH (x:=.tmp 2) g2 hb Qj.2.2.2.1) (fun d e he=>by
  obtain⟨n,rfl⟩:=akI (a:=⟨a2,[]⟩) (W:=(w1.at d3).at d) (x:=.tmp 2) g2 hb Qj.2.2.2.1 e he;exact Yy (aX hb) id) fun a3 e3 p3=>?_
 have zf:=uy.put p3<|.inr<|Ql _ _ _ _;have z3:a3.tmps.size=34:=p3.sz.trans sz;rw[eU];refine J3 (f:=47) (post:=Uf fo w1) YD.1 YD.2.1 YD.2.2.1 (by decide) YD.2.2.2 func47 rfl rfl (vs:=#[jg p q t k]) ?_ (fun d=>(axS (w:=w1.at d) hg).mono fun B' v w' hg=>hg.at) ?_
 ·have e1:a3.eval (.tmp 9)=jg p q t k:=p3.at_ (by show 9<a2.size;rw[sz];decide);simp[e1]
 rintro B' v w2 a4 p4 iR;obtain⟨s1,pb,xb,n,s,rfl,rfl,at2,hn,hp,hB,lD⟩:=iR.ex;have g:∀k,s1 k->False\/w1.heap.size<=k:=fun k hk=>.inr (by have:=hB k hk;omega);have Iz:w1.heap.size<=w2.heap.size:=lD.size;have IC:au.aG ((au.bJ fo s1).cut w2.heap.size) (ay<|ae ⟨pb,0,af⟩):=Bi hp<|aX at2.pa.blk;have Ew:=(zf.mono fun v hv=>J5 g Iz hv).put p4<|.inr IC;have z4:a4.tmps.size=34:=p4.sz.trans z3;have id2:∀k,s1 k->s1 k\/w2.heap.size<=k:=fun _=>.inl;refine Dh YE.1 YE.2.1 YE.2.2.1 (by decide) (.inr YE.2.2.2) (p4.at_ (by rw[z3];decide)) fun a5 e5 p5=>?_;have Bo:=Ew.put p5<|.inr IC;have z5:a5.tmps.size=34:=p5.sz.trans z4;have g15:a5.tmps.getD 1 ai=.slice ao l.length cap:=(p5.ne 1<|by decide).trans ((p4.ne 1<|by decide).trans<|(p3.ne 1<|by decide).trans g1);have g55:a5.tmps.getD 5 ai=ay (ae ⟨pb,0,af⟩):=p5.at_ (by rw[z4];decide);have df5:a5.defers=[]:=p5.df.trans<|p4.df.trans p3.df;refine vM fun d4=>?_;refine jO fun d5=>?_;rw[eU,eU];refine IB (D:=oK) (w:=w2.at d5) (K:=fun x w'=>(x.size=34/\x.getD 1 ai=ai/\x.getD 5 ai=ay (ae ⟨pb,0,af⟩))/\w'.heap=w2.heap) (fun _ _ _ _ h=>h) func15 Uo.2.1 Un.2.1 Bo df5 (fun t d=>aEq (ax6 (Bv.trans z5) (Qh rfl (by rw[z5];decide))<|(nX rfl).trans g55) fun e x w' hq=>⟨hq.1,hq.2.1,by rw[hq.2.2];rfl⟩) fun x6 w3 MO hK Bq=>?_;obtain⟨⟨z6,g16,YM⟩,hh3⟩:=hK;replace g16:=(Qh (D:=oK) (f:=fun j=>a5.tmps.getD j ai) (i:=1) rfl (by rw[z6];decide)).trans g15;replace YM:=(nX (D:=oK) (f:=fun j=>a5.tmps.getD j ai) rfl).trans YM;replace z6:=(Bv (ov:=lay oK fun j=>a5.tmps.getD j ai)).trans z6;generalize au.jA (lay oK fun j=>a5.tmps.getD j ai) x6=a6 at z6 g16 YM Bq⊢
 refine jO fun d6=>?_;refine jO fun d7=>?_;refine vK fun d8=>?_;rw[Qk.2.2.2.2,eU,eU];refine Df (v:=ag ah 0) Qk.1 Qk.2.1 Qk.2.2.1 (by decide) (fun d=>adS Qk.2.2.2.1) (fun d e he=>by rw[akJ Qk.2.2.2.1]at he;simp at he) fun a7 e7 p7=>?_;refine vM fun d9=>?_;refine jD (fun _=>aEg) fun d10=>?_;refine jD (fun _=>aEO) fun d11=>?_;rw[eU,eU,eU,eU];have YN:Fr (fun k=>w1.heap.size+1<=k) w1 w3:=(lD.Ac (d:=d5)).Na MO hh3;refine ax9 (B:=w1.heap.size+1) (pb:=pb) (xb:=xb) (w0:=w1) kY hlen (by omega) ?_ l.length 0 n s1 a7 _ s (by omega) ⟨⟨p7.sz.trans z6,(p7.ne 1<|by decide).trans g16,(p7.ne 5<|by decide).trans YM,p7.at_ (by rw[z6];decide)⟩,p7.df,Bq.put p7<|.inr .int,at2.same hh3,by omega,hp,hB,YN.Ac⟩;intro s2 n2 a8 w4 s4 R;refine akG (D:=oK) (w:=w4) (K:=fun x w'=>x.getD 4 ai=ay (ae ⟨pb,0,af⟩)/\w'.heap=w4.heap) (fun _ _ _ _ h=>h) func15 Uo.2.2.1 Un.2.2.1 R.ok R.df (fun t d=>aEq (ax7 R.T.tidy) fun e a' w' hq=>⟨hq.1,hq.2.1,by rw[hq.2.2];rfl⟩) ?_;rintro x9 w5 todo MH ⟨uo,e5⟩ au7;refine jD (fun w=>stepG_leave (v:=ay<|ae ⟨pb,0,af⟩) rfl rfl func15 (by rw[<-uo,<-nX (D:=oK) (i:=4) rfl];exact aET rfl _ _ _)<|by kernel_rfl) fun d9=>?_;exact au.Reach.here fun _=>⟨_,rfl,⟨s2,w1.heap.size+1,pb,xb,n2,s4,rfl,rfl,R.at_.same e5,R.fB,R.hp,R.hB,by omega,(((f1.mono fun _ h=>h.elim).trans R.fr fun _=>.inl).Na MH e5).Ac⟩⟩
end
section
open Go.RowKit Go.Maps Go.Conc
open _root_.Go.Proofs.YtkelpcjiediamaaGreat.Twin _root_.Go.Proofs.YtkelpcjiediamaaGreat.fJ
noncomputable def d9:Code:=Tryz.f9.body.getD .skip
noncomputable def Ut:Code:=au.gq [false] d9
noncomputable def Nb:Array Oper:=opsOf<|au.gq [true,false] d9
noncomputable def x9:Code:=au.gq [true,true,false] d9
noncomputable def Uu:Array Oper:=opsOf<|au.gq [true,true,true,false] d9
noncomputable def adW:Array Oper:=opsOf<|au.gq [true,true,true,true,false,false] d9
noncomputable def Uw:Code:=au.gq [true,true,true,true,false,true,false,false] d9
noncomputable def Nc:Array Oper:=opsOf<|au.gq [true,true,true,true,false,true,true,false] d9
noncomputable def Ux:Code:=au.gq [true,true,true,true,false,true,true,true] d9
noncomputable def c9:Code:=au.gq [true,true,true,true,true] d9
noncomputable def b9:Code:=.seq (.seq Uw<|.cond (.tmp 47) .skip<|.exit 0)<|.seq (.block 1<|.region 8 Nc false) Ux
def ayh:d9=.seq Ut (.seq (.region 1 Nb false)<|.seq x9<|.seq (.region 4 Uu false)<|.seq (.seq (.region 5 adW false)<|.block 0<|.loop b9) c9):=by kernel_rfl
def nY:List Nat:=[1,27]
def Uy:au.pK nY Ut=true/\au.pK nY x9=true/\au.pK nY Uw=true/\au.pK nY Ux=true:=by and_intros<;>kernel_rfl
def ayi:au.pK nY c9=true:=by kernel_rfl
def J9:au.codeOk prog au.lF Ut=true/\au.codeOk prog au.lF x9=true/\au.codeOk prog au.lF Uw=true/\au.codeOk prog au.lF Ux=true/\au.codeOk prog au.lF c9=true:=by and_intros<;>kernel_rfl
abbrev Ad(q:Array Oper)(i d:Nat)(op:Op):Prop:=q[i]? =ae (opAt q i)/\(opAt q i).guard=af/\(opAt q i).dst=ae d/\(opAt q i).op=op
def Uz:Ad Nb 0 25 (.load 23<|.tmp 4):=by and_intros<;>kernel_rfl
def YO:Ad Nb 1 26 (.call {callee:=.value<|.func 16,args:=#[.tmp 25],argTypes:=#[23]}):=by and_intros<;>kernel_rfl
def YP:Ad Nb 2 27 (.move<|.tmp 1):=by and_intros<;>kernel_rfl
def YQ:Ad Nb 3 28 (.call {callee:=.value<|.func 15,args:=#[.tmp 26,.tmp 27],argTypes:=#[23,26]}):=by and_intros<;>kernel_rfl
def YR:Ad Nb 4 9 (.assign<|.tmp 28):=by and_intros<;>kernel_rfl
def YS:Ad Uu 0 31 (.move<|.tmp 9):=by and_intros<;>kernel_rfl
def YT:Ad Uu 1 32 (.call {callee:=.value<|.func 19,args:=#[.tmp 31],argTypes:=#[40]}):=by and_intros<;>kernel_rfl
def YU:Ad Uu 2 10 (.assign<|.tmp 32):=by and_intros<;>kernel_rfl
def UA:Ad adW 0 11 (.assign<|.const<|ag ah 0):=by and_intros<;>kernel_rfl
def YV:Ad Nc 0 50 (.move<|.tmp 9):=by and_intros<;>kernel_rfl
def UB:Ad Nc 1 51 (.nilCheck<|.tmp 50):=by and_intros<;>kernel_rfl
def UC:Ad Nc 2 52 (.fieldAddr 48 (.tmp 51) 0):=by and_intros<;>kernel_rfl
def UD:Ad Nc 3 53 (.load 33<|.tmp 52):=by and_intros<;>kernel_rfl
def YW:Ad Nc 4 54 (.call {callee:=.value<|.func 20,args:=#[.tmp 53],argTypes:=#[33]}):=by and_intros<;>kernel_rfl
def YX:List.range Nb.size=[0,1,2,3,4]/\List.range Uu.size=[0,1,2]/\List.range adW.size=[0]/\List.range Nc.size=[0,1,2,3,4]:=by and_intros<;>kernel_rfl
section
variable{a:Act}{o:Oper}{W:aj}{x:Operand}{b:Nat}
def akQ(h:a.eval x=ay (ae ⟨b,0,af⟩))(aO:o.op=.nilCheck x):(dP a.eval o).run prog W=.ok (.value<|ay<|ae ⟨b,0,af⟩) W/\(dP a.eval o).events prog W #[]=#[]:=by
 unfold dP;rw[aO];simp only[h];constructor<;>simp[go_sem]
def akR(h:a.eval x=ay (ae ⟨b,0,af⟩))(aO:o.op=.fieldAddr 48 x 0):(dP a.eval o).run prog W=.ok (.value<|ay<|ae ⟨b,0,af⟩) W/\(dP a.eval o).events prog W #[]=#[]:=by
 unfold dP;rw[aO];simp only[h];constructor<;>simp[go_sem]
def akS{c:Nat}(h:a.eval x=ay (ae ⟨b,0,af⟩))(hc:W.cell? ⟨b,0,af⟩=ae (ay<|ae ⟨c,0,af⟩))(aO:o.op=.load 33 x):(dP a.eval o).run prog W=.ok (.value<|ay<|ae ⟨c,0,af⟩) W/\∀e∈(dP a.eval o).events prog W #[],e=⟨.cell ⟨b,0,af⟩,false,false⟩:=by
 unfold dP;rw[aO];simp only[h];constructor<;>simp[go_sem,hc]
end
structure T9(pb i:Nat)(kp:Int)(cm:Bool)(a:Array az):Prop where
 sz:a.size=203
 a2:a.getD 2 ai=ag ah kp
 a3:a.getD 3 ai=aB cm
 a9:a.getD 9 ai=ay (ae ⟨pb,0,af⟩)
 wY:a.getD 10 ai=aB true
 zZ:a.getD 11 ai=ag ah i
section
variable{pb i j:Nat}{kp:Int}{cm:Bool}
def T9.put{a a':Act}{v:az}(T:T9 pb i kp cm a.tmps)(q:FU a j v a')(h:j≠2/\j≠3/\j≠9/\j≠10/\j≠11):T9 pb i kp cm a'.tmps:=
 ⟨q.sz.trans T.sz,(q.ne 2 h.1).trans T.a2,(q.ne 3 h.2.1).trans T.a3,(q.ne 9 h.2.2.1).trans T.a9,(q.ne 10 h.2.2.2.1).trans T.wY,(q.ne 11 h.2.2.2.2).trans T.zZ⟩
def T9.lay{f:Nat->az}{x:Array az}(T:T9 pb i kp cm x):T9 pb i kp cm (au.jA (lay nY f) x):=
 ⟨Bv.trans T.sz,(nX rfl).trans T.a2,(nX rfl).trans T.a3,(nX rfl).trans T.a9,(nX rfl).trans T.wY,(nX rfl).trans T.zZ⟩
end
def UE:List.range 203=[0,1,2,3,4,5,6,7,8,9,10,11,12,13,14,15,16,17,18,19,20,21,22,23,24,25,26,27,28,29,30,31,32,33,34,35,36,37,38,39,40,41,42,43,44,45,46,47,48,49,50,51,52,53,54,55,56,57,58,59,60,61,62,63,64,65,66,67,68,69,70,71,72,73,74,75,76,77,78,79,80,81,82,83,84,85,86,87,88,89,90,91,92,93,94,95,96,97,98,99,100,101,102,103,104,105,106,107,108,109,110,111,112,113,114,115,116,117,118,119,120,121,122,123,124,125,126,127,128,129,130,131,132,133,134,135,136,137,138,139,140,141,142,143,144,145,146,147,148,149,150,151,152,153,154,155,156,157,158,159,160,161,162,163,164,165,166,167,168,169,170,171,172,173,174,175,176,177,178,179,180,181,182,183,184,185,186,187,188,189,190,191,192,193,194,195,196,197,198,199,200,201,202]:=by kernel_rfl
section
variable{w W:aj}{B pb xb N i n:Nat}{s:dB}{a:Array az}{kp:Int}{cm:Bool}
def ayj(T:T9 pb i kp cm a)(hi:i<1000000):Ux.wp prog (fun e x w'=>e=.normal/\T9 pb (i+1) kp cm x.tmps/\w'=W) ⟨a,[]⟩ W:=by
 obtain⟨sz,a2,a3,a9,wY,zZ⟩:=T;have hw:IntKind.i64.wrap ((i:Int)+1)=(i:Int)+1:=wrap_i64 (by omega) (by omega);rw[Eu a,sz,UE];simp only[uF,wC,a2,a3,a9,wY,zZ];obtain⟨Q0,gX⟩:∃Q0:Exit->Act->aj->Prop,(fun e x w'=>e=.normal/\T9 pb (i+1) kp cm x.tmps/\w'=W)=Q0:=⟨_,rfl⟩;rw[gX];simp only[Ux,d9,au.gq,Tryz.f9,ik,if_true,kQ,kP];go_wp2
 rw[<-gX];exact⟨rfl,⟨rfl,rfl,rfl,rfl,rfl,rfl⟩,rfl⟩
def akT(T:T9 pb i kp cm a)(A:bH w B pb xb N s){M:Nat}(hM:s.h.T+2*s.h.K+8=M):Uw.wp prog (fun e x w'=>e=.normal/\(T9 pb i kp cm x.tmps/\x.tmps.getD 47 ai=aB (decide<|i<M))/\w'.heap=w.heap) ⟨a,[]⟩ w:=by
 obtain⟨sz,a2,a3,a9,wY,zZ⟩:=T;have c3:w.cell? ⟨pb,3,af⟩=ae (ag ah s.h.T):=aK A.pa.blk 3;have c4:w.cell? ⟨pb,4,af⟩=ae (ag ah s.h.K):=aK A.pa.blk 4;have aI:=aX A.pa.blk;have hT:=A.pg.sn.T1;have hK:=A.pg.sn.K1;have w1:IntKind.i64.wrap (2*s.h.K)=2*s.h.K:=wrap_i64 (by omega) (by omega);have w2:IntKind.i64.wrap (s.h.T+2*s.h.K)=s.h.T+2*s.h.K:=wrap_i64 (by omega) (by omega);have w3:IntKind.i64.wrap (s.h.T+2*s.h.K+8)=M:=(wrap_i64 (by omega)<|by omega).trans hM;rw[Eu a,sz,UE];simp only[uF,wC,a2,a3,a9,wY,zZ];clear A sz a2 a3 a9 wY zZ hT hK hM;obtain⟨Q0,gX⟩:∃Q0:Exit->Act->aj->Prop,(fun e x w'=>e=.normal/\(T9 pb i kp cm x.tmps/\x.tmps.getD 47 ai=aB (decide<|i<M))/\w'.heap=w.heap)=Q0:=⟨_,rfl⟩;rw[gX];simp only[Uw,d9,au.gq,Tryz.f9,ik,if_true,kQ,kP];go_wp2_with fail
 go_quiet (fail)
 go_wp2_with fail
 rw[<-gX];exact⟨rfl,⟨⟨rfl,rfl,rfl,rfl,rfl,rfl⟩,by simp⟩,rfl⟩
def ayk(sz:a.size=203)(a2:a.getD 2 ai=ag ah kp)(a3:a.getD 3 ai=aB cm)(a9:a.getD 9 ai=ay (ae ⟨pb,0,af⟩)):x9.wp prog (fun e x w'=>e=.normal/\(x.tmps.size=203/\x.tmps.getD 2 ai=ag ah kp/\x.tmps.getD 3 ai=aB cm/\x.tmps.getD 9 ai=ay (ae ⟨pb,0,af⟩))/\w'=W) ⟨a,[]⟩ W:=by
 rw[Eu a,sz,UE];simp only[uF,wC,a2,a3,a9];obtain⟨Q0,gX⟩:∃Q0:Exit->Act->aj->Prop,(fun e x w'=>e=.normal/\(x.tmps.size=203/\x.tmps.getD 2 ai=ag ah kp/\x.tmps.getD 3 ai=aB cm/\x.tmps.getD 9 ai=ay (ae ⟨pb,0,af⟩))/\w'=W)=Q0:=⟨_,rfl⟩;rw[gX];simp only[x9,d9,au.gq,Tryz.f9,ik,if_true,kQ,kP];go_wp2
 rw[<-gX];exact⟨rfl,⟨rfl,rfl,rfl,rfl⟩,rfl⟩
end
def Sn.lv{N:Nat}{h:HS}{L:List Rc}(c:Sn N h L)(hu:h.up=true){M:Nat}(hM:h.T+2*h.K+8=M){i:Nat}{x:PS}(hx:h.ps[i]? =ae x):Lv h.T h.fl i x M:=by
 have r:=c.up hu i x hx;have f:=c.valid.qL i;have s0:=f.s0;have s1:=f.s1;rw[<-r.k.s]at s0 s1;have hK:=c.K1;have hT:=c.T1;by_cases h0:x.s=0
 ·exact .idle h0
 by_cases h1:x.s=1
 ·exact .going h1 (by have:=r.c.si.1;omega)
 ·exact .due (by omega) (by have:=(r.c.due<|by omega).1;omega)
structure Rd9(fo s0:Nat->Prop)(B pb xb:Nat)(w0:aj)(kp:Int)(cm:Bool)(n0 M i n:Nat)(a:Act)(w:aj)(s:dB):Prop where
 T:T9 pb i kp cm a.tmps
 df:a.defers=[]
 ok:qH nY ((au.bJ fo s0).cut w.heap.size) a.tmps
 at_:bH w B pb xb n s
 fB:n<=n0+306*i
 hM:s.h.T+2*s.h.K+8=M
 up:s.h.up=true
 ins:∀(q:Nat) (p:PL),s.h.pl[q]? =ae p->p.out=false
 lv:∀(i1:Nat) (x:PS),(i1:Int)<s.h.P->s.h.ps[i1]? =ae x->Lv s.h.T s.h.fl i1 x (M-i)
 hp:¬(s0 pb\/fo pb)
 hB:∀k,s0 k->B<=k
 fr:Fr (fun k=>B<=k) w0 w
section
variable{fo:Nat->Prop}{B pb xb:Nat}{w0:aj}{kp:Int}{cm:Bool}{n0 M:Nat}{rest:List Item}{cs cs2:List bu}{Q:au.cO->bu->aj->Prop}
def ayl(nM:M<=100)(Zm:n0<=60000000)(sW:∀s1 n a w s,Rd9 fo s1 B pb xb w0 kp cm n0 M M n a w s->au.Reach (au.bJ fo s1) prog ((base 9).at a<|.code c9::rest) cs w Q cs2):
 ∀(m i n:Nat) (s0:Nat->Prop) (a:Act) (w:aj) (s:dB),i+m=M->Rd9 fo s0 B pb xb w0 kp cm n0 M i n a w s->au.Reach (au.bJ fo s0) prog ((base 9).at a<|.code b9:: .inLoop b9:: .inBlock 0:: .code c9::rest) cs w Q cs2:=by
 intro m;induction m with
 |zero=>
  intro i n s0 a w s hi R;obtain rfl:i=M:=by omega
  unfold b9;refine jO fun d1=>?_;refine jO fun d2=>?_;rw[eU];refine IB (D:=nY) (w:=w.at d2) (K:=fun x w'=>(T9 pb i kp cm x/\x.getD 47 ai=aB (decide<|i<i))/\w'.heap=w.heap) (fun _ _ _ _ h=>h) func9 J9.2.2.1 Uy.2.2.1 R.ok R.df (fun t d=>akT (w:=au.re (w.at d2) t d) R.T.lay (R.at_.same rfl) R.hM) fun x w1 lY hK PH=>?_;obtain⟨⟨T1,VL⟩,e1⟩:=hK;rw[qW<|Og _]at VL;refine jD (fun _=>aEc (t:=false)<|(nX (D:=nY) rfl).trans VL) fun d4=>?_;rw[if_neg<|by decide];refine jD (fun _=>aFh rfl) fun d5=>?_;rw[eU];exact sW s0 n _ _ s ⟨T1.lay,rfl,PH,R.at_.same e1,R.fB,R.hM,R.up,R.ins,R.lv,R.hp,R.hB,((R.fr.Ac (d:=d2)).Na lY e1).Ac⟩
 |succ m ih=>
  intro i n s0 a w s hi R;refine au.Reach.ok fun bP=>?_;have hx:¬(s0 xb\/fo xb):=R.at_.free bP R.hp xb<|.inl<|.inl rfl;have hn:n<=70000000:=by have:=R.fB;omega
  unfold b9;refine jO fun d1=>?_;refine jO fun d2=>?_;rw[eU];refine IB (D:=nY) (w:=w.at d2) (K:=fun x w'=>(T9 pb i kp cm x/\x.getD 47 ai=aB (decide<|i<M))/\w'.heap=w.heap) (fun _ _ _ _ h=>h) func9 J9.2.2.1 Uy.2.2.1 R.ok R.df (fun t d=>akT (w:=au.re (w.at d2) t d) R.T.lay (R.at_.same rfl) R.hM) fun x w1 lY hK PH=>?_;obtain⟨⟨T1,VL⟩,e1⟩:=hK;rw[kF<|by omega]at VL;refine jD (fun _=>aEc (t:=true)<|(nX (D:=nY) rfl).trans VL) fun d4=>?_;rw[if_pos rfl];refine jD (fun _=>aEe) fun d5=>?_;refine jO fun d6=>?_;refine jD (fun _=>aEg) fun d7=>?_;refine vK fun d8=>?_;rw[YX.2.2.2,eU,eU,eU,eU];have Qc:bH w1 B pb xb n s:=R.at_.same e1;have sJ:Fr (fun k=>B<=k) w0 w1:=(R.fr.Ac (d:=d2)).Na lY e1;obtain⟨c0,_⟩:=Qc.cells;have hpw:=aX Qc.pa.blk;have IC:au.aG ((au.bJ fo s0).cut w1.heap.size) (ay<|ae ⟨pb,0,af⟩):=Bi R.hp hpw;have vxb:au.aG ((au.bJ fo s0).cut w1.heap.size) (ay<|ae ⟨xb,0,af⟩):=Bi hx<|aX Qc.ha.blk;have T2:=T1.lay (f:=fun j=>a.tmps.getD j ai);generalize au.jA (lay nY fun j=>a.tmps.getD j ai) x=a2 at T2 PH⊢
  refine Dh YV.1 YV.2.1 YV.2.2.1 (by decide) (.inl YV.2.2.2) T2.a9 fun a3 e3 p3=>?_;have zf:=PH.put p3<|.inr IC;have T3:=T2.put p3 (by decide);have h50:a3.eval (.tmp 50)=ay (ae ⟨pb,0,af⟩):=p3.at_ (by show 50<a2.size;rw[T2.sz];decide);refine Df (v:=ay<|ae ⟨pb,0,af⟩) UB.1 UB.2.1 UB.2.2.1 (by decide) (fun d=>(akQ h50 UB.2.2.2).1) (fun d e he=>by rw[(akQ h50 UB.2.2.2).2]at he;simp at he) fun a4 e4 p4=>?_;have Ew:=zf.put p4<|.inr IC;have T4:=T3.put p4 (by decide);have h51:a4.eval (.tmp 51)=ay (ae ⟨pb,0,af⟩):=p4.at_ (by rw[T3.sz];decide);refine Df (v:=ay<|ae ⟨pb,0,af⟩) UC.1 UC.2.1 UC.2.2.1 (by decide) (fun d=>(akR h51 UC.2.2.2).1) (fun d e he=>by rw[(akR h51 UC.2.2.2).2]at he;simp at he) fun a5 e5 p5=>?_;have Bo:=Ew.put p5<|.inr IC;have T5:=T4.put p5 (by decide);have FQ:a5.eval (.tmp 52)=ay (ae ⟨pb,0,af⟩):=p5.at_ (by rw[T4.sz];decide);rw[eU,eU,eU];refine Df (v:=ay<|ae ⟨xb,0,af⟩) UD.1 UD.2.1 UD.2.2.1 (by decide) (fun d=>(akS (W:=(w1.at e5).at d) FQ c0 UD.2.2.2).1) (fun d e he=>by
   rw[(akS (W:=(w1.at e5).at d) FQ c0 UD.2.2.2).2 e he];exact Yy hpw fun z=>R.hp<|.inl z) fun a6 e6 p6=>?_
  have Bq:=Bo.put p6<|.inr vxb;have T6:=T5.put p6 (by decide);rw[eU];refine J3 (f:=20) (post:=fun B' v w'=>∃(d:Nat) (Wg:Nat) (s2:dB),B'=au.bJ fo (fun b=>s0 b\/b=Wg)/\w1.heap.size<=Wg/\v=ag ah s.h.fl.length/\wV (w1.at d) w' B pb xb s (n+306) s2/\s2.g=s.g/\s2.h.up=s.h.up/\TR s.h s2.h/\∀p t b,gm s.L p t b->gm s2.L p t b) YW.1 YW.2.1 YW.2.2.1 (by decide) YW.2.2.2 func20 rfl rfl (vs:=#[ay<|ae ⟨xb,0,af⟩]) ?_ (fun d=>(adB (w:=w1.at d) (N:=n) (s:=s) (Qc.same rfl) hn R.hp R.hB).mono fun B' v w' hg=>?_) ?_
  ·have e1:a6.eval (.tmp 53)=ay (ae ⟨xb,0,af⟩):=p6.at_ (by rw[T5.sz];decide);simp[e1]
  ·obtain⟨Wg,s2,q1,q2,q3,q4,q5⟩:=hg;exact⟨d,Wg,s2,q1,q2,q3,q4,q5⟩
  rintro B' v w2 a7 p7 ⟨dd,Wg,s2,rfl,bV,rfl,dL,eg,eu,rn,dc⟩;have g:∀k,(s0 k\/k=Wg)->s0 k\/w1.heap.size<=k:=fun k hk=>hk.imp id fun e=>by rw[e];exact bV
  have Iz:w1.heap.size<=w2.heap.size:=dL.dL.size;have IA:=(Bq.put p7<|.inr .int).mono fun v hv=>J5 g Iz hv;have T7:=T6.put p7 (by decide);refine vM fun d13=>?_;refine jD (fun _=>aEy) fun d14=>?_;rw[eU];refine IB (D:=nY) (w:=w2.at d14) (K:=fun x w'=>T9 pb (i+1) kp cm x/\w'.heap=w2.heap) (fun _ _ _ _ h=>h) func9 J9.2.2.2.1 Uy.2.2.2 IA (p7.df.trans<|p6.df.trans<|p5.df.trans<|p4.df.trans p3.df) (fun t d=>aEq (ayj T7.lay<|by omega) fun e x w' hq=>⟨hq.1,hq.2.1,by rw[hq.2.2];rfl⟩) fun x8 w3 MO hK J7=>?_;refine jD (fun _=>aEI) fun d20=>?_;have at3:bH w3 B pb xb (n+306) s2:=dL.at_.same hK.2;have f:Fr (fun k=>B<=k) w1 w2:=⟨dL.dL.os,dL.dL.tape,dL.dL.output,dL.dL.size,dL.dL.block⟩;obtain⟨l1,l2⟩:=ake (m:=M-(i+1)) R.at_.pg.sn (by omega) R.up R.at_.ha.hQ.1 R.ins rn fun i1 x h1 h2=>(R.lv i1 x h1 h2).mono (fun _ z=>z) (by omega);refine ih (i+1) (n+306) _ _ _ s2 (by omega) ⟨hK.1.lay,rfl,J7,at3.same rfl,by have:=R.fB;omega,by rw[dL.cf.2.2.1,dL.cf.2.2.2];exact R.hM,eu.trans R.up,l2,fun i1 x h1 h2=>l1 i1 x (by rw[<-dL.cf.1];exact h1) h2,fun z=>z.elim (fun z=>z.elim (fun y=>R.hp<|.inl y) fun e=>?_) fun y=>R.hp<|.inr y,fun k hk=>hk.elim (R.hB k) fun e=>?_,?_⟩
  ·omega
  ·have:=R.at_.base;have:w1.heap.size=w.heap.size:=by rw[e1]
   omega
  ·exact(((sJ.trans f fun _=>.inl).Ac (d:=d14)).Na MO hK.2).Ac
end
end
def PK.akW{z z':St}{x y:PS}(h:PK z x)(k:PK z' y)(e:z.ps=z'.ps)(hx:x.s≠0)(hy:y.s≠0):bI x.aZ 1 4=bI y.aZ 1 4:=by
 unfold bI;congr 1;refine Ob fun j hj=>?_;have hj4:=GN.1 hj;rw[decide_eq_decide,h.some hx j hj4,k.some hy j hj4,e]
def ayn{x:PS}(h1:(bI x.aZ 1 4).length=1)(h2:bI x.aZ 2 4≠[]):(bI x.aZ 2 4).length=1:=by
 have h:(bI x.aZ 2 4).length<=(bI x.aZ 1 4).length:=by
  unfold bI;rw[EZ,EZ];refine List.Sublist.length_le ?_;rw[show(List.range 4).filter (fun i=>decide<|(2:Int)<=x.aZ.getD i 0)=((List.range 4).filter fun i=>decide<|(1:Int)<=x.aZ.getD i 0).filter fun i=>decide ((2:Int)<=x.aZ.getD i 0)by
   rw[aff];refine Ob fun j _=>?_;rw[Bool.and_comm,<-Bool.decide_and,decide_eq_decide];omega]
  exact List.filter_sublist
 have:=List.length_pos_iff.2 h2;omega
structure akY(N:Nat)(h:HS)(L:List Rc)(x:PS)(r:Rc)(n:Nat)(L2:List Rc)(tl:List UInt8):Prop where
 bytes:L2.flatMap dJ++tl=L.flatMap dJ++(dJ r).take n
 lt:tl.length<16
 jr:∀(h':HS),h'.jb=dV (L2.flatMap dJ++tl)->Rt h' L2 tl
 me:∃y,(replay L2)[0]? =ae y/\y.e=x.e/\y.t=x.t/\(bI y.aZ 1 4).length=1/\((n<16/\L2=L/\y.s=1)\/(n=16/\tl=[]/\y.s=3-r.a/\(bI y.aZ 2 4).length=1))
def Sn.YY{N:Nat}{h:HS}{L:List Rc}(c:Sn N h L)(hN:N<=90000000)(hu:h.up=true){x:PS}(hx:h.ps[0]? =ae x)(hs:x.s=1)(h1:(bI x.aZ 1 4).length=1){a:Int}(ha:a=0\/a=1){n:Nat}(hn:n<=16):
 ∃L2 tl,akY N h L x ⟨3,0,a,x.t⟩ n L2 tl:=by
 have hi:((0:Nat):Int)<h.P:=by have:=c.P1;omega
 have k:=(c.up hu 0 x hx).k;have get:∀{L2:List Rc},∃y,(replay L2)[0]? =ae y:=fun{L2}=>⟨_,eY (by rw[Q3];decide)⟩;by_cases Ja:n<16
 ·refine⟨L,(dJ ⟨3,0,a,x.t⟩).take n,rfl,by rw[EY];omega,fun h' e=>?_,?_⟩
  ·have j:=c.kT (by omega);exact⟨e,by rw[EY];omega,j.small,j.end_,j.fB⟩
  ·obtain⟨y,hy⟩:=get (L2:=L);have ky:=((c.PN.MI ai).up rfl 0 y hy).k;have ys:y.s=1:=ky.s.trans<|k.s.symm.trans hs;exact⟨y,hy,ky.e.trans k.e.symm,ky.t.trans k.t.symm,by rw[<-PK.akW k ky rfl (by omega) (by omega)];exact h1,.inl ⟨Ja,rfl,ys⟩⟩
 ·obtain rfl:n=16:=by omega
  have nx:=c.TF hu hi hx hs ha;have c2:=c.wrote hu nx (fun e=>by simp at e) ai;refine⟨L++[⟨3,0,a,x.t⟩],[],by simp[EW,DJ,BV],by decide,fun h' e=>?_,?_⟩
  ·have j:=c2.kT (by omega);exact⟨e,by decide,j.small,j.end_,j.fB⟩
  ·obtain⟨y,hy⟩:=get (L2:=L++[⟨3,0,a,x.t⟩]);have ry:=(c2.PN.MI ai).up rfl 0 y hy;have ky:=ry.k;have st:bz (L++[⟨3,((0:Nat):Int),a,x.t⟩]) ((0:Nat):Int)={bz L ((0:Nat):Int)with s:=3-a}:=by rw[xJ];simp[St.step]
   have ys:y.s=3-a:=by rw[ky.s,st]
   have y1:(bI y.aZ 1 4).length=1:=by rw[<-PK.akW k ky (by rw[st]) (by omega) (by omega)];exact h1
   exact⟨y,hy,by rw[ky.e,st,k.e],by rw[ky.t,st,k.t],y1,.inr ⟨rfl,rfl,ys,ayn y1<|ry.p.Ce<|by omega⟩⟩
section
section
variable{w w':aj}{B pb xb N:Nat}{s:dB}{a:Array az}{kp:Int}{cm:Bool}
structure HP(w:aj)(B pb xb N:Nat)(s:dB)(h:HS):Prop where
 ha:aF w B xb N h
 pa:gQ w B pb xb h s.g s.v
variable{h:HS}{M:Nat}
def HP.after(a:HP w B pb xb N s h)(f:Fr aP w w'):HP w' B pb xb N s h:=⟨a.ha.after f,a.pa.after f⟩
def HP.move{h':HS}(a:HP w B pb xb N s h)(m:bU w w' B xb N h M h')(e:h'.P=h.P/\h'.Q=h.Q/\h'.T=h.T/\h'.K=h.K):HP w' B pb xb M s h':=by
 have b:=a.pa.stay m.fr fun k e hk=>a.ha.off a.pa e hk;refine⟨m.at_,⟨?_,b.ep,b.wr,b.fa,b.gt,b.gl,b.rc,b.st,b.ap,b.hb⟩⟩;rw[e.1,e.2.1,e.2.2.1,e.2.2.2];exact b.blk
def HP.box(a:HP w B pb xb N s h)(f:Fr (h.fA xb) w w'){b:Nat}{cs:Array az}(hb:w.heap[b]? =ae (.cells cs 58 (0,0))):w'.heap[b]? =ae (.cells cs 58 (0,0)):=
 (f.block _ (aX hb) fun e=>by have:=a.ha.tags e;rw[lM hb]at this;revert this;decide).trans hb
def HP.c0(a:HP w B pb xb N s h):w.cell? ⟨pb,0,af⟩=ae (ay<|ae ⟨xb,0,af⟩):=aK a.pa.blk 0
def ayo{L:List Rc}(a:HP w B pb xb M s (h.breaks kp))(c:Sn N h L)(hN:N<=90000000)(hu:h.up=true){x:PS}(hx:h.ps[0]? =ae x)(hs:x.s=1){ep:Int}(he:x.e=ep)(h1:1<=ep)(cm:Bool):
 aU prog 28 #[ay<|ae ⟨xb,0,af⟩,ag ah 0,ag ah ep,aB cm] w fun e w'=>e=aT (ag ah 5)/\∃jv,bU w w' B xb M (h.breaks kp) M ((h.breaks kp).mX jv<|dV<|(dJ ⟨3,0,if cm then 1 else 0,x.t⟩).take (vw kp).toNat).qY:=by
 have hi:((0:Nat):Int)<h.P:=by have:=c.P1;omega
 have m:=c.may (by omega) (c.TF hu hi hx hs (a:=if cm then 1 else 0)<|by cases cm<;>simp);have hb:(h.breaks kp).bars x ep=0:=by
  show(if h.up=false then 5 else _)=_;rw[hu,if_neg<|by simp,if_neg<|by omega]
 refine(agx (i:=0) (h:=h.breaks kp) a.ha hi hx hb hs cm ⟨m.small,by show 0<=vw kp/\vw kp<=16;unfold vw;omega,m.room,m.end_⟩).mono fun e w' z=>?_;cases z with
 |ok ho hm=>
  cases ho with
  |ok jv hb=>cases hb
 |ru ho hm=>
  cases ho with
  |ru jv hb=>exact⟨rfl,jv,hm⟩
def BR.same{a b:ByteArray}{l:List UInt8}(h:BR a l)(k:BR b l):a=b:=by
 obtain⟨⟨a⟩⟩:=a;obtain⟨⟨b⟩⟩:=b;have h1:=h.1;have k1:=k.1;simp only at h1 k1;rw[h1,k1]
def BR.pre{a b:ByteArray}{l m:List UInt8}(h:BR a l)(k:BR b (l++m)):b.extract 0 a.size=a:=by
 refine BR.same ⟨?_,?_⟩ h
 ·rw[ByteArray.data_extract,Array.toList_extract,k.1,h.2];simp
 ·rw[ByteArray.size_extract,k.2,h.2];simp
def ayp(T:T9 pb M kp cm a)(A0:bH w B pb xb N s)(hN:N<=70000000)(hu:s.h.up=true)(fE:∀(q:Nat) (p:PL),s.h.pl[q]? =ae p->p.out=false)(hid:∀x,s.h.ps[0]? =ae x->x.s=0):c9.wp prog (fun e x w'=>e=.ret/\x.tmps.getD 8 ai=aB true/\Fr (fun k=>B<=k) w w') ⟨a,[]⟩ w:=by
 obtain⟨sz,a2,a3,a9,wY,_⟩:=T;have hP:((0:Nat):Int)<s.h.P:=by have:=A0.pg.sn.P1;omega
 have hQ:((0:Nat):Int)<s.h.Q:=by have:=A0.pg.sn.Q1;omega
 obtain⟨x0,og⟩:=A0.ps hP;obtain⟨p0,vW⟩:=A0.q hQ;have akZ:Hid (aU prog 25 #[ay<|ae ⟨pb,0,af⟩,ag ah 0,ag ah 0] w fun e w'=>e=aT (aB true)/\∃s',bW w w' B pb xb s (N+4) s'/\s'.h.up=true/\TL s 0 0 s'):=adm (i:=0) (q:=0) A0 (by omega) hP hQ hu;have A:Hid (bH w B pb xb N s):=A0;have fF:Hid (N<=70000000):=hN;have DI:Hid ((s.h.ps[0]? =ae x0/\x0.s=0)/\s.h.pl[0]? =ae p0/\p0.out=false):=⟨⟨og,hid x0 og⟩,vW,fE 0 p0 vW⟩;have HPP:Hid (((0:Nat):Int)<s.h.P):=hP;rw[Eu a,sz,UE];simp only[uF,wC,a2,a3,a9,wY];simp only[ET];clear A0 hN hu fE hid sz a2 a3 a9 wY hP hQ og vW;obtain⟨Q0,gX⟩:∃Q0:Exit->Act->aj->Prop,(fun e x w'=>e=.ret/\x.tmps[8]?.getD ai=aB true/\Fr (fun k=>B<=k) w w')=Q0:=⟨_,rfl⟩;rw[gX];simp only[c9,d9,au.gq,Tryz.f9,ik,if_true];have JZ:Hid ((fun e x w'=>e=.ret/\x.tmps[8]?.getD ai=aB true/\Fr (fun k=>B<=k) w w')=Q0):=gX;clear gX;go_wp2_with fail
 refine akZ.o.mono ?_;rintro e w1 ⟨rfl,s1,t1,u1,f1⟩;obtain⟨x1,p1,gJ,k1,k2,rU,k3,k4,k5⟩:=f1.ok x0 p0 DI.o.1.1 (.inl DI.o.1.2) DI.o.2.1 DI.o.2.2;have MS:Hid (bW w w1 B pb xb s (N+4) s1):=t1;have yK:Hid ((s1.h.ps[0]? =ae x1/\x1.s=1)/\(bI x1.aZ 1 4).length=1/\s1.h.up=true):=⟨⟨gJ,k1⟩,k5 DI.o.1.2,u1⟩;have ak0:Hid (aU prog 22 #[ay<|ae ⟨pb,0,af⟩,ag ah 0] w1<|Saw w1 B pb xb (N+4) s1 x1):=Iq (i:=0) t1.at_ (by have:=fF.o;omega) (by rw[t1.cf.1];exact HPP.o) u1 gJ;clear t1 u1 f1 gJ k1 k2 rU k3 k4 k5 akZ;go_wp2_with fail
 refine ak0.o.mono ?_;rintro e w2 ⟨n1,n2,t2⟩;rename_i va vb gB eX;obtain⟨aa,ac,rfl,_⟩:=kR n1;obtain⟨ba,bc,rfl,_⟩:=kR n2;have T2:Hid (bW w w2 B pb xb s (N+5)<|s1.fD eX gB):=MS.o.trans t2;generalize(bI x1.aZ 1 4).length=l1;generalize(bI x1.aZ 2 4).length=l2;have H2:Hid (HP w2 B pb xb (N+5) (s1.fD eX gB) s1.h):=⟨T2.o.at_.ha,T2.o.at_.pa⟩;obtain⟨ep,he⟩:=T2.o.at_.ep (i:=0) (by show _<s1.h.P;rw[MS.o.cf.1];exact HPP.o);have oh:0<s1.g.ep.length:=(dM.1 he).1;obtain⟨eg,iI,dS,_⟩:=vN T2.o.at_.pa.ep oh;have HE:Hid (s1.g.ep[0]? =ae ep/\s1.v.ev=aJ (ae ⟨eg,0,af⟩) s1.g.ep.length iI):=⟨he,dS⟩;have SN:Hid (Sn (N+5) s1.h s1.L):=T2.o.at_.pg.sn;obtain⟨AB,Zn⟩:∃n:Nat,vw kp=n:=uA (by unfold vw;omega);have adY:AB<=16:=by unfold vw at Zn;omega
 have UF:Hid (vw kp=AB/\AB<=16):=⟨Zn,adY⟩;obtain⟨L2,tl,YY⟩:=SN.o.YY (by have:=fF.o;omega) yK.o.2.2 yK.o.1.1 yK.o.1.2 yK.o.2.1 (a:=if cm then 1 else 0) (by cases cm<;>simp) adY;have YZ:Hid (akY (N+5) s1.h s1.L x1 ⟨3,0,if cm then 1 else 0,x1.t⟩ AB L2 tl):=YY;have HEP:Hid (x1.e=ep/\1<=ep):=by have:=T2.o.at_.CW (i:=0) yK.o.2.2 yK.o.1.1 he;exact⟨this.1,this.2.1⟩
 clear n1 n2 t2 ak0 he dS oh Zn adY YY;have c2:=H2.o.c0;have lU:=aX H2.o.pa.blk;obtain⟨xe,xt,xs,xa,wU,xc,xd,xi,xw,xg⟩:=x1;obtain rfl:xs=1:=yK.o.1.2;have XT:Hid (0<=xt/\xt<=80000000):=by
  have k:=(SN.o.up yK.o.2.2 0 _ yK.o.1.1).k;have f:=SN.o.valid.qL ((0:Nat):Int);have:=SN.o.fB;have:=fF.o;have kt:xt=_:=k.t;exact⟨by rw[kt];exact f.t0,by rw[kt];have:=f.t1;omega⟩
 go_wp2_with fail
 refine(abk (H2.o.ha.after<|bG _) SN.o.jb).mono ?_;rintro e w3 ⟨⟨sb,tx,rfl⟩,f3⟩;have F3:Hid (Fr aP w2 w3):=(bG _).trans f3 fun _ h=>h.elim;have X3:Hid (w3.heap[w2.heap.size]? =ae (aC #[ag ah xe,ag ah xt,ag ah 1,.slice aa l1 ac,.slice ba l2 bc] 58 (0,0))):=(f3.block _ (aX<|aDY _ _) id).trans<|aDY _ _;have H3:Hid (HP w3 B pb xb (N+5) (s1.fD eX gB) s1.h):=H2.o.after F3.o;have Y0:Hid (BR sb<|s1.L.flatMap dJ):=tx;have c3:=H3.o.c0;have uk:=aX H3.o.pa.blk;clear f3 tx c2 lU;go_wp2_with fail
 refine(ao7 H3.o.ha yK.o.2.2 kp).mono ?_;rintro e w4 ⟨rfl,m4⟩;have M4:Hid (bU w3 w4 B xb (N+5) s1.h (N+5)<|s1.h.breaks kp):=m4;have H4:Hid (HP w4 B pb xb (N+5) (s1.fD eX gB)<|s1.h.breaks kp):=H3.o.move m4 ⟨rfl,rfl,rfl,rfl⟩;have X4:Hid (w4.heap[w2.heap.size]? =ae (aC #[ag ah xe,ag ah xt,ag ah 1,.slice aa l1 ac,.slice ba l2 bc] 58 (0,0))):=H3.o.box m4.fr X3.o;have c4:=H4.o.c0;have aeY:=aX H4.o.pa.blk;have c5:w4.cell? ⟨pb,5,af⟩=ae (aJ (ae ⟨eg,0,af⟩) s1.g.ep.length iI):=(aK H4.o.pa.blk 5).trans (by rw[<-HE.o.2];rfl);have ce:w4.cell? ⟨eg,0,af⟩=ae (ag ah ep):=by
  have dF:=H4.o.pa.ep;rw[show(s1.fD eX gB).v.ev=aJ (ae ⟨eg,0,af⟩) s1.g.ep.length iI from HE.o.2]at dF;exact yH dF HE.o.1
 have oh:0<s1.g.ep.length:=(dM.1 HE.o.1).1;have HC:Hid (∀V,Fr aP w4 V->aU prog 28 #[ay<|ae ⟨xb,0,af⟩,ag ah 0,ag ah ep,aB cm] V fun e w'=>e=aT (ag ah 5)/\∃jv,bU V w' B xb (N+5) (s1.h.breaks kp) (N+5) ((s1.h.breaks kp).mX jv<|dV<|(dJ ⟨3,0,if cm then 1 else 0,xt⟩).take (vw kp).toNat).qY):=fun V f=>ayo (H4.o.after f) SN.o (by have:=fF.o;omega) yK.o.2.2 yK.o.1.1 rfl HEP.o.1 HEP.o.2 cm;clear m4 c3 uk;go_wp2_with fail
 go_region_held3 (fun w'=>w'.cell? ⟨pb,0,af⟩=ae (ay<|ae ⟨xb,0,af⟩)/\w'.cell? ⟨pb,5,af⟩=ae (aJ (ae ⟨eg,0,af⟩) s1.g.ep.length iI)/\w'.cell? ⟨eg,0,af⟩=ae (ag ah ep))
  (first|with_reducible exact C5|exact⟨c4,c5,ce⟩|go_keep)
  ((go_at_call 28;with_reducible refine(HC.o _<|(Fr.refl _ _).drew).mono ?_;rintro e w5 ⟨rfl,jv,m5⟩
    have M5:Hid (bU w4.drew w5 B xb (N+5) (s1.h.breaks kp) (N+5) ((s1.h.breaks kp).mX jv<|dV<|(dJ ⟨3,0,if cm then 1 else 0,xt⟩).take (vw kp).toNat).qY):=m5
    have H5:Hid (HP w5 B pb xb (N+5) (s1.fD eX gB) ((s1.h.breaks kp).mX jv<|dV<|(dJ ⟨3,0,if cm then 1 else 0,xt⟩).take (vw kp).toNat).qY):=(H4.o.after<|(Fr.refl _ _).drew).move m5 ⟨rfl,rfl,rfl,rfl⟩
    have C5:w5.cell? ⟨pb,0,af⟩=ae (ay<|ae ⟨xb,0,af⟩)/\w5.cell? ⟨pb,5,af⟩=ae (aJ (ae ⟨eg,0,af⟩) s1.g.ep.length iI)/\w5.cell? ⟨eg,0,af⟩=ae (ag ah ep):=⟨H5.o.c0,(aK H5.o.pa.blk 5).trans (by rw[<-HE.o.2];rfl),by
     have dF:=H5.o.pa.ep;rw[show(s1.fD eX gB).v.ev=aJ (ae ⟨eg,0,af⟩) s1.g.ep.length iI from HE.o.2]at dF;exact yH dF HE.o.1⟩
    clear m5))
 have HJ5:Hid (((s1.h.breaks kp).mX jv<|dV<|(dJ ⟨3,0,if cm then 1 else 0,xt⟩).take (vw kp).toNat).qY.jb=dV (s1.L.flatMap dJ++(dJ ⟨3,0,if cm then 1 else 0,xt⟩).take AB)):=by
  show s1.h.jb++_=_;rw[SN.o.jb,<-Wj,UF.o.1];rfl
 have c0:=C5.1;have En:=aX H5.o.pa.blk;clear C5 c4 c5 ce aeY HC oh;go_wp2_with fail
 refine(abk H5.o.ha HJ5.o).mono ?_;rintro e w6 ⟨⟨st,Y7,rfl⟩,f6⟩;have H6:Hid (HP w6 B pb xb (N+5) (s1.fD eX gB) ((s1.h.breaks kp).mX jv<|dV<|(dJ ⟨3,0,if cm then 1 else 0,xt⟩).take (vw kp).toNat).qY):=H5.o.after f6;have F6:Hid (Fr aP w5 w6):=f6;have X6:Hid (w6.heap[w2.heap.size]? =ae (aC #[ag ah xe,ag ah xt,ag ah 1,.slice aa l1 ac,.slice ba l2 bc] 58 (0,0))):=(f6.block _ (aX<|(H4.o.after<|(Fr.refl _ _).drew).box M5.o.fr X4.o) id).trans<|(H4.o.after<|(Fr.refl _ _).drew).box M5.o.fr X4.o;have eH:st.size=sb.size+AB:=by
  rw[Y7.2,Y0.o.2,iV,EY,BV];have:=UF.o.2;omega
 have ae4:st.extract 0 sb.size=sb:=Y0.o.pre Y7;have ZF:(sb.size:Int)<=2000000000:=by
  rw[Y0.o.2,Cb];have:=SN.o.fB;have:=fF.o;omega
 have aCf:(st.size:Int)=(sb.size:Int)+(AB:Int):=by omega
 have yE:IntKind.i64.wrap ((sb.size:Int)+(AB:Int))=(sb.size:Int)+(AB:Int):=wrap_i64 (by have:=UF.o.2;omega) (by have:=UF.o.2;omega);have hle:(sb.size:Int)<=(st.size:Int):=by omega
 have TX6:Hid (BR st<|s1.L.flatMap dJ++(dJ ⟨3,0,if cm then 1 else 0,xt⟩).take AB):=Y7;have c6:=H6.o.c0;have adH:=aX H6.o.pa.blk;clear f6 Y7 c0 En eH;have FR:Hid (Fr (fun k=>B<=k) w w6):=by
  have h1:Fr (fun k=>B<=k) w w3:=(T2.o.dL A.o).trans F3.o fun _ h=>h.elim;have h2:=h1.trans M4.o.fr fun k hk=>.inl (H3.o.ha.qK hk).2;have h3:=(h2.trans ((Fr.refl (fun _=>False) w4).drew) fun _ h=>h.elim).trans M5.o.fr fun k hk=>.inl (H4.o.ha.qK hk).2;exact h3.trans F6.o fun _ h=>h.elim
 have hk:(kp<0/\AB=0)\/(16<kp/\AB=16)\/(0<=kp/\kp<16/\kp=(AB:Int))\/(kp=16/\AB=16):=by
  have:=UF.o.1;unfold vw at this;omega
 clear DI T2 H2 H3 H4 M4 M5 X3 X4 F3 F6 H5;rcases hk with⟨hk,rfl⟩|⟨hk,rfl⟩|⟨uS,aQ,rfl⟩|⟨rfl,rfl⟩;all_goals
  go_wp2_with fail
  refine(WI H6.o.ha rfl rfl<|YZ.o.jr _ (by rw[YZ.o.bytes];exact HJ5.o)).mono ?_
  rintro e w7 ⟨rfl,jv7,m7⟩
  have H7:Hid _:=H6.o.move m7 ⟨rfl,rfl,rfl,rfl⟩
  have X7:Hid _:=H6.o.box m7.fr X6.o
  have FR7:Hid (Fr (fun k=>B<=k) w w7):=FR.o.trans m7.fr fun k hk=>.inl (H6.o.ha.qK hk).2
  obtain⟨y,hy,y1,y2,y3,y4⟩:=YZ.o.me
  have HY:Hid ((replay L2)[0]? =ae y):=hy
  have c7:=H7.o.c0
  have JG:=aX H7.o.pa.blk
  clear m7 c6 adH hy
  go_wp2_with fail
  refine(aaQ (k:=0) H7.o.ha (by show _<s1.h.P;rw[MS.o.cf.1];exact HPP.o) rfl HY.o).mono ?_
  rintro e w8 ⟨va,vb,rfl,n1,n2,_,f8⟩
  obtain⟨ya,yc,rfl,_⟩:=kR n1
  obtain⟨za,zc,rfl,_⟩:=kR n2
  have F8:Hid (Fr aP w7 w8):=f8
  have c8:=(H7.o.after f8).c0
  have aCh:=aX (H7.o.after f8).pa.blk
  rw[y3]
  generalize(bI y.aZ 2 4).length=l4 at y4⊢
  obtain⟨ye,yt,ys,yA,yB,yC,yD,yi,yw,yg⟩:=y
  simp only at y1 y2 y4
  subst y1 y2
  have Y4:Hid _:=y4
  clear n1 n2 f8 y3 y4
  go_wp2_with fail
  refine(abk (H7.o.ha.after<|F8.o.trans (bG _) fun _ h=>h.elim) rfl).mono ?_
  rintro e w9 ⟨⟨sa,UG,rfl⟩,f9⟩
  have f79:=(F8.o.trans (bG _) fun _ h=>h.elim).trans f9 fun _ h=>h.elim
  have X9:=(f79.block _ (aX X7.o) id).trans X7.o
  have Y9:=(f9.block _ (aX<|aDY _ _) id).trans<|aDY _ _
  have x0:=aK X9 0
  have x1:=aK X9 1
  have z0:=aK Y9 0
  have z1:=aK Y9 1
  have z2:=aK Y9 2
  have z3:=aK Y9 3
  have z4:=aK Y9 4
  have b1:=aX X9
  have b2:=aX Y9
  simp only[afd,xE,zB]at x0 x1 z0 z1 z2 z3 z4
  have jQ:Hid (Fr (fun k=>B<=k) w w9):=FR7.o.trans f79 fun _ h=>h.elim
  rcases Y4.o with⟨Ja,rfl,rfl⟩|⟨Ja,rfl,hs,rfl⟩
  ·first
    |(exfalso;omega)
    |(obtain rfl:sa=sb:=UG.same Y0.o
      clear UG f9 f79 X9 Y9 Y4
      go_wp2_with fail
      rw[<-JZ.o]
      exact⟨rfl,rfl,jQ.o⟩)
  ·first
    |(exfalso;omega)
    |(have e:=YZ.o.bytes
      rw[ql]at e
      rw[e]at UG
      obtain rfl:sa=st:=UG.same TX6.o
      clear UG f9 f79 X9 Y9 Y4 e
      cases cm
      all_goals
       simp only[if_true,kQ,kP]at hs
       subst hs
       go_wp2_with fail
       rw[<-JZ.o]
       exact⟨rfl,rfl,jQ.o⟩)
end
end
def ayv{w:aj}{P Q T K:Int}(hP:eP P)(hQ:eP Q)(hT:eP T)(hK:eP K):aU prog 16 #[jg P Q T K] w fun e w'=>∃p q t k:Nat,e=aT (jg p q t k)/\Good p q t k/\Fr aP w w':=by
 have H1:Hid (∀V,aU prog 49 #[ag ah P,ag ah 6] V fun e w'=>∃k:Nat,k<6/\e=aT (ag ah k)/\V=w'):=fun V=>vO P hP (n:=6) (by omega) (by omega) V;have H2:Hid (∀V,aU prog 49 #[ag ah Q,ag ah 4] V fun e w'=>∃k:Nat,k<4/\e=aT (ag ah k)/\V=w'):=fun V=>vO Q hQ (n:=4) (by omega) (by omega) V;have H3:Hid (∀V,aU prog 49 #[ag ah T,ag ah 50] V fun e w'=>∃k:Nat,k<50/\e=aT (ag ah k)/\V=w'):=fun V=>vO T hT (n:=50) (by omega) (by omega) V;have H4:Hid (∀V,aU prog 49 #[ag ah K,ag ah 16] V fun e w'=>∃k:Nat,k<16/\e=aT (ag ah k)/\V=w'):=fun V=>vO K hK (n:=16) (by omega) (by omega) V;clear hP hQ hT hK;unfold jg;go_enter func16,ntmps16
 go_wp2_with fail
 have ZW:Hid (∃W:aj,W=(w.alloc<|aC #[ag ah P,ag ah Q,ag ah T,ag ah K] 23).alloc (aC #[ag ah 0,ag ah 0,ag ah 0,ag ah 0] 23)):=⟨_,rfl⟩;obtain⟨W1,eW⟩:=ZW.o;rw[<-eW];have iH:Hid (Fr aP w W1):=by subst eW;exact(bG _).alloc _
 have BX:Hid (W1.heap[w.heap.size]? =ae (aC #[ag ah P,ag ah Q,ag ah T,ag ah K] 23 (0,0))):=by subst eW;exact((bG _).block _ (by simp) id).trans<|aDY _ _
 have BY:Hid (W1.heap[w.heap.size+1]? =ae (aC #[ag ah 0,ag ah 0,ag ah 0,ag ah 0] 23 (0,0))):=by subst eW;exact BQ _<|by simp
 clear ZW eW;have b0:W1.cell? ⟨w.heap.size,0,af⟩=ae (ag ah P):=aK BX.o 0;have b1:W1.cell? ⟨w.heap.size,1,af⟩=ae (ag ah Q):=aK BX.o 1;have b2:W1.cell? ⟨w.heap.size,2,af⟩=ae (ag ah T):=aK BX.o 2;have b3:W1.cell? ⟨w.heap.size,3,af⟩=ae (ag ah K):=aK BX.o 3;have y0:W1.cell? ⟨w.heap.size+1,0,af⟩=ae (ag ah 0):=aK BY.o 0;have y1:W1.cell? ⟨w.heap.size+1,1,af⟩=ae (ag ah 0):=aK BY.o 1;have y2:W1.cell? ⟨w.heap.size+1,2,af⟩=ae (ag ah 0):=aK BY.o 2;have y3:W1.cell? ⟨w.heap.size+1,3,af⟩=ae (ag ah 0):=aK BY.o 3;have yf:∀o,W1.frozen? ⟨w.heap.size+1,o,af⟩=false:=jS BY.o;go_region_held3 (fun w'=>w'.cell? ⟨w.heap.size,0,af⟩=ae (ag ah P)/\w'.cell? ⟨w.heap.size,1,af⟩=ae (ag ah Q)/\w'.cell? ⟨w.heap.size,2,af⟩=ae (ag ah T)/\w'.cell? ⟨w.heap.size,3,af⟩=ae (ag ah K))
  (first|exact⟨b0,b1,b2,b3⟩|go_keep)
  ((go_at_call 49;(first|with_reducible refine(H1.o _).mono ?_|with_reducible refine(H2.o _).mono ?_|with_reducible refine(H3.o _).mono ?_|with_reducible refine(H4.o _).mono ?_);rintro e w2 ⟨i,hi,rfl,rfl⟩))
 rename_i i1 h1 i2 h2 i3 h3 _;have e1:IntKind.i64.wrap (1+(i1:Int))=1+i1:=wrap_i64 (by omega) (by omega);have e2:IntKind.i64.wrap (1+(i2:Int))=1+i2:=wrap_i64 (by omega) (by omega);have e3:IntKind.i64.wrap (1+(i3:Int))=1+i3:=wrap_i64 (by omega) (by omega);have e4:IntKind.i64.wrap (1+(i:Int))=1+i:=wrap_i64 (by omega) (by omega);rw[e1,e2,e3,e4];clear e1 e2 e3 e4 b0 b1 b2 b3;have hg:((((W1.setCell ⟨w.heap.size+1,0,af⟩<|.int .i64<|1+(i1:Int)).setCell ⟨w.heap.size+1,1,af⟩<|.int .i64<|1+(i2:Int)).setCell ⟨w.heap.size+1,2,af⟩<|.int .i64<|1+(i3:Int)).setCell ⟨w.heap.size+1,3,af⟩<|.int .i64<|1+(i:Int)).drew.heap[w.heap.size+1]? =ae (aC #[.int .i64<|1+(i1:Int),.int .i64<|1+(i2:Int),.int .i64<|1+(i3:Int),.int .i64<|1+(i:Int)] 23 (0,0)):=jT (jT (jT (jT BY.o _ _) _ _) _ _) _ _;go_wp2
 (try simp only[Exit.inBlock,Exit.then])
 refine aEk (results_cell_row rfl _ _ (w.heap.size+1) 23 _ (0,0) _ rfl hg underlying23 rfl<|by kernel_rfl) rfl ?_;refine⟨1+i1,1+i2,1+i3,1+i,by simp,?_,?_⟩
 ·exact⟨by omega,by omega,by omega,by omega⟩
 ·have f:Fr (fun k=>k=w.heap.size+1) W1 ((((W1.setCell ⟨w.heap.size+1,0,af⟩<|.int .i64<|1+(i1:Int)).setCell ⟨w.heap.size+1,1,af⟩<|.int .i64<|1+(i2:Int)).setCell ⟨w.heap.size+1,2,af⟩<|.int .i64<|1+(i3:Int)).setCell ⟨w.heap.size+1,3,af⟩<|.int .i64<|1+(i:Int)).drew:=
   (((((Fr.refl (fun k=>k=w.heap.size+1) W1).setCell (p:=⟨w.heap.size+1,0,af⟩) (.inl rfl) _).setCell (p:=⟨w.heap.size+1,1,af⟩) (.inl rfl) _).setCell (p:=⟨w.heap.size+1,2,af⟩) (.inl rfl) _).setCell (p:=⟨w.heap.size+1,3,af⟩) (.inl rfl) _).drew
  exact iH.o.trans f fun k e=>.inr<|by omega
end Go.Proofs.YtkelpcjiediamaaGreat
