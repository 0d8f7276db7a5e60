import Derived.Test.YtkelpcjiediamaaGreatQd23
set_option maxRecDepth 100000
set_option maxHeartbeats 0
set_option linter.all false
namespace Go.Proofs.YtkelpcjiediamaaGreat
def aET:=@Go.results_tmp
open Go renaming Calls→aU,Frame→bu,TypeId→dw,Value→az,World→aj,maxLen→dU,stepG→bD,undef→ai
open Go.Ending renaming returned→aT
open Go.IntKind renaming i64→ah
open Go.Item renaming inRegion→bQ
open Go.Obj renaming cells→aC
open Go.RowKit renaming intOf→fH
open Go.Value renaming agg→gY,bool→aB,int→ag,pointer→ay,slice→aJ,string→dA,tuple→dK
open Option renaming none→af,some→ae
open Go.Proofs.Tryz
open Go.RowKit Go.Maps
section
namespace Twin
open Go Go.Proofs Go.Conc Go.RowKit Go.Maps fJ
def auU(a:az):#[a]++Array.replicate (Tryz.f20.ntmps- #[a].size) ai=#[a,ai,ai,ai,ai,ai,ai,ai,ai,ai,ai,ai,ai,ai,ai,ai,ai,ai,ai,ai,ai,ai,ai,ai,ai,ai,ai,ai]:=by kernel_rfl
def auV(xb:Nat):Frame.enter prog 20 #[ay<|ae ⟨xb,0,af⟩] .normal=(base 20).at ⟨rt xb ai ai ai ai ai ai ai ai ai ai ai ai ai ai ai ai ai ai ai ai ai ai ai ai ai,[]⟩ [.code rb]:=by
 rw[aEX (c:=rb) _ func20 rfl,auU];rfl
def auW{W:aj}(xb:Nat):(iQ rb).wp prog (fun e a' w'=>e=.normal/\a'=⟨rt xb (.int .i64 0) ai ai ai ai ai ai ai ai ai ai ai ai ai ai ai ai ai ai ai ai ai ai ai ai,[]⟩/\w'=W)
 ⟨rt xb ai ai ai ai ai ai ai ai ai ai ai ai ai ai ai ai ai ai ai ai ai ai ai ai ai,[]⟩ W:=by
 simp only[rb,Tryz.f20,ik,iQ,rt];go_wp2
noncomputable def yX:Array Oper:=match iQ rX with| .region _ o _=>o|_=>#[]
def auX:iQ rX=.region 2 yX false:=rfl
def auY(xb:Nat)(v t6 t7 t8 t9:az)(k:List Item)(cs:List bu)(w:aj):bD prog true (G ((base 20).at ⟨rt xb (.int .i64 0) v ai t6 t7 t8 t9 ai ai ai ai ai ai ai ai ai ai ai ai ai ai ai ai ai ai,[]⟩<|bQ yX [0,1,2,3,4]::k) cs) w=
 .go (G ((base 20).at ⟨rt xb (.int .i64 0) v ai t6 t7 t8 t9 (ay<|ae ⟨xb,0,af⟩) ai ai ai ai ai ai ai ai ai ai ai ai ai ai ai ai ai,[]⟩<|bQ yX [1,2,3,4]::k) cs) w #[]:=by
 have e:=Il (P:=prog) (main:=true) (b:=base 20) (a:=⟨rt xb (.int .i64 0) v ai t6 t7 t8 t9 ai ai ai ai ai ai ai ai ai ai ai ai ai ai ai ai ai ai,[]⟩) (ops:=yX) (i:=0) (rest:=[1,2,3,4]) (k:=k) (cs:=cs) (w:=w) (v:=ay<|ae ⟨xb,0,af⟩) rfl rfl (by decide) rfl rfl;exact e
def auZ(xb:Nat)(v t6 t7 t8 t9:az)(k:List Item)(cs:List bu)(w:aj):bD prog true (G ((base 20).at ⟨rt xb (.int .i64 0) v ai t6 t7 t8 t9 (ay<|ae ⟨xb,0,af⟩) ai ai ai ai ai ai ai ai ai ai ai ai ai ai ai ai ai,[]⟩<|bQ yX [1,2,3,4]::k) cs) w=
 .go (G ((base 20).at ⟨rt xb (.int .i64 0) v ai t6 t7 t8 t9 (ay<|ae ⟨xb,0,af⟩) v ai ai ai ai ai ai ai ai ai ai ai ai ai ai ai ai,[]⟩<|bQ yX [2,3,4]::k) cs) w #[]:=by
 have e:=Il (P:=prog) (main:=true) (b:=base 20) (a:=⟨rt xb (.int .i64 0) v ai t6 t7 t8 t9 (ay<|ae ⟨xb,0,af⟩) ai ai ai ai ai ai ai ai ai ai ai ai ai ai ai ai ai,[]⟩) (ops:=yX) (i:=1) (rest:=[2,3,4]) (k:=k) (cs:=cs) (w:=w) (v:=v) rfl rfl (by decide) rfl rfl;exact e
def au0(xb:Nat)(v u t6 t7 t8 t9:az)(a:Option Addr)(l c:Nat)(k:List Item)(cs:List bu)(w:aj):bD prog true (G ((base 20).at ⟨rt xb (.int .i64 0) v ai t6 t7 t8 t9 u v (.slice a l c) ai ai ai ai ai ai ai ai ai ai ai ai ai ai ai,[]⟩<|bQ yX [3,4]::k) cs) w=
 .go (G ((base 20).at ⟨rt xb (.int .i64 0) v ai t6 t7 t8 t9 u v (.slice a l c) (.int .i64 l) ai ai ai ai ai ai ai ai ai ai ai ai ai ai,[]⟩<|bQ yX [4]::k) cs) w #[]:=by
 have e:=Il (P:=prog) (main:=true) (b:=base 20) (a:=⟨rt xb (.int .i64 0) v ai t6 t7 t8 t9 u v (.slice a l c) ai ai ai ai ai ai ai ai ai ai ai ai ai ai ai,[]⟩) (ops:=yX) (i:=3) (rest:=[4]) (k:=k) (cs:=cs) (w:=w) (v:=.int .i64 l) rfl rfl (by decide) (by kernel_rfl) (by kernel_rfl);exact e
def au1(xb:Nat)(v u t6 t7 t8 t9:az)(a:Option Addr)(l c:Nat)(k:List Item)(cs:List bu)(w:aj):bD prog true (G ((base 20).at ⟨rt xb (.int .i64 0) v ai t6 t7 t8 t9 u v (.slice a l c) (.int .i64 l) ai ai ai ai ai ai ai ai ai ai ai ai ai ai,[]⟩<|bQ yX [4]::k) cs) w=
 .go (G ((base 20).at ⟨rt xb (.int .i64 0) v ai t6 t7 t8 t9 u v (.slice a l c) (.int .i64 l) (.int .i64 0) ai ai ai ai ai ai ai ai ai ai ai ai ai,[]⟩<|bQ yX []::k) cs) w #[]:=by
 have e:=Il (P:=prog) (main:=true) (b:=base 20) (a:=⟨rt xb (.int .i64 0) v ai t6 t7 t8 t9 u v (.slice a l c) (.int .i64 l) ai ai ai ai ai ai ai ai ai ai ai ai ai ai,[]⟩) (ops:=yX) (i:=4) (rest:=[]) (k:=k) (cs:=cs) (w:=w) (v:=.int .i64 0) rfl rfl (by decide) rfl rfl;exact e
structure Bh(h:HS)(ms:List Ms)(fZ:List PL):Prop where
 len:fZ.length=h.pl.length
 get:∀(i:Nat) (p:PL),h.pl[i]? =ae p->∃v',fZ[i]? =ae {p with v:=v',s:=yV ms i p}
def HS.taken(h:HS)(fZ:List PL):HS:={h with fv:=aJ af 0 0,fl:=[],pl:=fZ}
structure au2(s:Nat->Prop)(w w':aj)(B xb n:Nat)(h:HS)(Wg:Nat)(h3:HS):Prop where
 ex:∃fZ h2,Bh h h.fl fZ/\iP fZ/\pW (HS.taken h fZ) (fC h.fl++kJ h.fl h.pl) h2/\Bg h2 h3
 at_:aF w' B xb (n+h.fl.length) h3
 apart:iP h3.pl
 fr:∀b,b<w.heap.size->¬s b->¬h.fA xb b->w'.heap[b]? =w.heap[b]?
 sub:∀b,h3.fA xb b->h.fA xb b\/w.heap.size<=b
 size:w.heap.size<=w'.heap.size
 wg:w.heap.size<=Wg
 tape:w'.tape=w.tape
 os:w'.os=w.os
 output:w'.output=w.output
def pW.pl{l:List Ms}:∀{h h':HS},pW h l h'->h'.pl=h.pl/\h'.fv=h.fv:=by
 induction l with
 |nil=>intro h h' a;cases a;exact⟨rfl,rfl⟩
 |cons m l ih=>
  intro h h' a;cases a with
  |cons _ _ a ra=>
   obtain⟨r1,r2⟩:=ih ra;exact⟨r1.trans a.rest.2.2.1,r2.trans a.rest.2.2.2.2.1⟩
variable{h h':HS}
def vC.pl{i:Nat}{x:PS}{ok:Bool}(l:vC h i x ok h'):h'.pl=h.pl:=by
 cases l with
 |wH=>rfl
 |timeout _ _ hw=>cases hw<;>rfl
 |rem _ hr=>cases hr<;>rfl
 |idle=>rfl
def qM.pl{j:Nat}(t:qM h j h'):h'.pl=h.pl:=by
 induction t with
 |zero=>rfl
 |succ _ _ hl ih=>exact(vC.pl hl).trans ih
def Bg.pl(t:Bg h h'):h'.pl=h.pl:=by
 cases t with
 |down=>rfl
 |up _ t=>
  cases t with
  |all t=>exact qM.pl t
  |ru _ t _ l=>exact(vC.pl l).trans<|qM.pl t
def au3{fo s:Nat->Prop}{w:aj}{B xb n:Nat}(hh:aF w B xb n h)(ha:iP h.pl)(hx:¬(s xb\/fo xb))(aBT:h.fl.length<=100)(hn:n+100<=1000000000000)(qg:∀p∈h.pl,(p.s.es.length+100)*40<=140737488355328)(uj:∀m∈h.fl,(Lit.int .i64 m.p).wf=true)(hq:∀m∈h.fl,m.k=1->∃i:Nat,m.q=i/\i<h.pl.length)
 (rU:∀(fZ:List PL) (k:Nat) (h2:HS) (m:Ms),Bh h h.fl fZ->pW (HS.taken h fZ) ((fC h.fl++kJ h.fl h.pl).take k) h2->(fC h.fl++kJ h.fl h.pl)[k]? =ae m->∃(i:Nat) (x:PS) (q:Nat),m.p=(i:Int)/\i<6/\h2.ps[i]? =ae x/\m.q=(q:Int)/\q<4/\mD h2 ⟨4,i,0,x.t⟩)
 (yz:∀(fZ:List PL) (h2:HS),Bh h h.fl fZ->pW (HS.taken h fZ) (fC h.fl++kJ h.fl h.pl) h2->h2.up=true->∀(j:Nat) (h1:HS) (x:PS),j<h2.P.toNat->qM h2 j h1->h1.ps[j]? =ae x->x.DT/\mD h1 ⟨3,j,0,x.t⟩)
 (DC:(fC h.fl++kJ h.fl h.pl).length<=1000):
 au.tX (au.bJ fo s) prog 20 #[ay<|ae ⟨xb,0,af⟩] w (fun B' v w'=>∃Wg h3,B'=au.bJ fo (fun b=>s b\/b=Wg)/\v=.int .i64 h.fl.length/\au2 s w w' B xb n h Wg h3):=by
 intro c cs;refine au.Reach.ok fun bP=>?_;have h5:∀b,s b\/fo b->1<=b:=fun b hb=>(bP.low b hb).1;have L:=au.lets h5;have C:au.Cm (au.bJ fo s) prog:=fun k hk=>au.LQ fun b hb=>hb.elim (h5 b) fun z=>by omega
 have gW:=aX hh.blk;have BJ:=aF.free hh bP hx;rw[auV,auM];refine jO fun d1=>?_;have Vz:au.bT ((au.bJ fo s).cut w.heap.size) (rt xb ai ai ai ai ai ai ai ai ai ai ai ai ai ai ai ai ai ai ai ai ai ai ai ai ai):=fun v hv=>by
  simp only[rt,tu,jR,pF,pG]at hv;rcases hv with rfl|hv
  ·exact .rE fun z=>z.elim hx fun y=>by have:w.heap.size<=xb:=y;omega
  ·have:v=undef:=by
    simp only[or_self]at hv;exact hv
   rw[this];exact au.rC
 refine au.Hr (w:=w.at d1) (K:=fun t d e a' w'=>e=.normal/\a'=⟨rt xb (.int .i64 0) ai ai ai ai ai ai ai ai ai ai ai ai ai ai ai ai ai ai ai ai ai ai ai ai,[]⟩/\w'=au.re (w.at d1) t d) L C ok0 Vz rfl ⟨_,func20⟩ rfl (fun t d=>aEq (auW xb) fun e a w hq=>⟨.inl hq.1,hq⟩) ?_ ?_;rotate_left
 ·rintro a1 w1 todo _ _ _ ⟨t,d,t',j,e,_⟩;cases e
 rintro a1 w1 lY MF _ ⟨t,d,t',j,_,rfl,wu⟩;have e1:w1.heap=w.heap:=show(au.re w1 t' j).heap=(au.re (w.at d1) t d).heap from fG World.heap wu;clear wu;refine jO fun d2=>?_;refine au.Hr (w:=w1.at d2) (K:=fun t d e a' w'=>e=.normal/\(∃t6 t7 t8 t9,a'=⟨rt xb (.int .i64 0) h.fv ai t6 t7 t8 t9 ai ai ai ai ai ai ai ai ai ai ai ai ai ai ai ai ai ai,[]⟩)/\bU (au.re (w1.at d2) t d) w' B xb n h n (h.ig (aJ af 0 0) [])/\Fr (fun q=>q=xb) (au.re (w1.at d2) t d) w') L C PH MF rfl ⟨_,func20⟩ rfl (fun t d=>aEq (auQ<|aF.same hh (fun b _=>by show w1.heap[b]? =_;rw[e1]) (by show w.heap.size<=w1.heap.size;rw[e1];exact dm _)) fun e a w hq=>⟨.inl hq.1,hq⟩) ?_ ?_;rotate_left
 ·rintro a2 w2 todo _ _ _ ⟨t,d,t',j,e,_⟩;cases e
 rintro a2 w2 JR PI _ ⟨t,d,t',j,_,⟨t6,t7,t8,t9,rfl⟩,XW,lD⟩;have BF:aF w2 B xb n (h.ig (aJ af 0 0) []):=aF.JP XW.at_;have f2:∀b,b<w.heap.size->b≠xb->w2.heap[b]? =w.heap[b]? :=fun b hb dh=>by
  have:=lD.block b (by show b<w1.heap.size;rw[e1];exact hb) dh;have h2:w2.heap[b]? =w1.heap[b]? :=this;rw[h2,e1]
 have z2:w.heap.size<=w2.heap.size:=by
  have:w1.heap.size<=w2.heap.size:=lD.size;rw[e1]at this;exact this
 have ac2:w2.tape=w.tape/\w2.os=w.os/\w2.output=w.output:=⟨JR.tape.trans lY.tape,JR.os.trans lY.os,JR.output.trans lY.output⟩;clear XW lD;obtain⟨na,nc,pz,_⟩:=pq hh.mV;have UX:∀b,h.fv.ownBlock=ae b->b≠xb:=fun b hb e=>hh.aaM<|e▸hb;have ajy:w2.ownsRow B 119 5 (.slice na h.fl.length nc) h.fl.length (h.fl.flatMap Ms.cs):=by
  have h0:=hh.mV;refine⟨h0.1,?_⟩;rcases h0.2 with⟨q1,q2⟩|⟨g,cap,cur,q1,q2,q3,q4⟩
  ·exact .inl ⟨by rw[<-pz];exact q1,q2⟩
  ·exact .inr ⟨g,cap,cur,by rw[<-pz];exact q1,q2,(f2 g (jk.1 q3).1<|UX g (by rw[q1];rfl)).trans q3,q4⟩
 have hC:∀V:aj,V.heap=w2.heap->PE (fun b=>s b\/fo b) V B B xb n (h.ig (aJ af 0 0) []) na nc h.fl:=fun V hV=>by
  refine⟨aF.same BF (fun b _=>by rw[hV]) (by rw[hV];exact dm _),ha,?_,by unfold dU;omega,by omega,fun p hp=>by have:=qg p hp;omega,uj,hq,fun b hb=>⟨fun e=>hx<|e▸hb,fun e=>BJ b (.inr<|.inr<|.inl e) hb,fun p hp e=>BJ b (.inr<|.inr<|.inr<|.inr ⟨p,hp,e⟩) hb,fun e=>BJ b (.inr<|.inr<|.inr<|.inl (by rw[pz];exact e)) hb⟩⟩;refine⟨ajy.1,?_⟩;rcases ajy.2 with⟨q1,q2⟩|⟨g,cap,cur,q1,q2,q3,q4⟩
  ·exact .inl ⟨q1,q2⟩
  ·exact .inr ⟨g,cap,cur,q1,q2,by rw[hV];exact q3,q4⟩
 refine jO fun d3=>?_;refine jO fun d4=>?_;rw[auX];refine vK fun d5=>?_;rw[show List.range yX.size=[0,1,2,3,4]from rfl];rw[pz]at PI⊢
 refine jD (fun w=>auY xb _ t6 t7 t8 t9 _ _ w) fun d6=>?_;refine jD (fun w=>auZ xb _ t6 t7 t8 t9 _ _ w) fun d7=>?_;refine XP (f:=54) (post:=fun B' v w'=>∃(d:Nat) (z:Gs),B'=au.bJ fo (fun b=>s b\/b=z.Wg)/\ac0 fo s ((((((w2.at d3).at d4).at d5).at d6).at d7).at d) B xb n (h.ig (aJ af 0 0) []) na nc h.fl z v w') rfl rfl (by decide) rfl func54 rfl rfl (vs:=#[ay<|ae ⟨xb,0,af⟩,.slice na h.fl.length nc]) (by kernel_rfl) (fun d=>(auA (hC ((((((w2.at d3).at d4).at d5).at d6).at d7).at d) rfl)<|by omega).mono fun _ _ _ hg=>⟨d,hg⟩) ?_;rintro B' v w3 ⟨dd,z,rfl,hG⟩;obtain⟨fZ,kY,Ah,vk,ajz,hlf,Gx,Di,aAj,bV,ht3,Ze,hu3⟩:=auJ (hC ((((((w2.at d3).at d4).at d5).at d6).at d7).at dd) rfl) hG (fun b hb=>⟨fun e=>BJ b (.inr<|.inl e)<|.inl hb,fun e=>by simp[HS.ig,Value.ownBlock]at e⟩);have Tz:=hG.vok;clear hG;have EO:Bh h h.fl fZ:=⟨kY,Ah⟩;refine au.Reach.ok fun ac3=>?_;have MG:∀b,(s b\/b=z.Wg)\/fo b->1<=b:=fun b hb=>(ac3.low b hb).1;have L3:=au.lets MG;have C3:au.Cm (au.bJ fo fun b=>s b\/b=z.Wg) prog:=fun k hk=>au.LQ fun b hb=>hb.elim (MG b) fun z=>by omega
 obtain⟨va,vc,rfl,_⟩:=pq Gx;rw[<-iV,<-EW]at Gx;rw[<-iV]at Tz⊢
 generalize hA:fC h.fl++kJ h.fl (h.ig (aJ af 0 0) []).pl=A at Gx Tz⊢
 have hA':fC h.fl++kJ h.fl h.pl=A:=hA;rw[hA']at rU yz DC;have au4:aF w3 B xb (n+h.fl.length) (HS.taken h fZ):=vk;have hz3:w2.heap.size<=w3.heap.size:=aAj;have Ap:w2.heap.size<=z.Wg:=bV;have hold:∀v,au.aG ((au.bJ fo s).cut w2.heap.size) v->au.aG ((au.bJ fo fun b=>s b\/b=z.Wg).cut w3.heap.size) v:=fun v hv=>hv.mono (B:=(au.bJ fo fun b=>s b\/b=z.Wg).cut w3.heap.size) (B':=(au.bJ fo s).cut w2.heap.size) (fun b hb=>by
  rcases hb with((hb|rfl)|hb)|hb
  ·exact .inl<|.inl hb
  ·exact .inr Ap
  ·exact .inl<|.inr hb
  ·exact .inr<|eG hz3 hb) rfl
 have okx:au.aG ((au.bJ fo s).cut w2.heap.size) (ay<|ae ⟨xb,0,af⟩):=PI _ (by simp[rt]);have ac4:au.bT ((au.bJ fo fun b=>s b\/b=z.Wg).cut w3.heap.size) (rt xb (.int .i64 0) (.slice na h.fl.length nc) ai t6 t7 t8 t9 (ay<|ae ⟨xb,0,af⟩) (.slice na h.fl.length nc) (.slice va A.length vc) (.int .i64 A.length) (.int .i64 0) ai ai ai ai ai ai ai ai ai ai ai ai ai):=fun v hv=>by
  simp only[rt,tu,jR,pF,pG]at hv;have old:v∈rt xb (.int .i64 0) (.slice na h.fl.length nc) ai t6 t7 t8 t9 ai ai ai ai ai ai ai ai ai ai ai ai ai ai ai ai ai ai->au.aG ((au.bJ fo fun b=>s b\/b=z.Wg).cut w3.heap.size) v:=fun hm=>hold v<|PI v hm;have aAm:v∈rt xb (.int .i64 0) (.slice na h.fl.length nc) ai t6 t7 t8 t9 ai ai ai ai ai ai ai ai ai ai ai ai ai ai ai ai ai ai\/v=.slice va A.length vc\/v=.int .i64 A.length:=by
   simp only[rt,tu,jR,pF,pG];rcases hv with e|e|e|e|e|e|e|e|e|e|e|e|e|e|e|e|e|e|e|e|e|e|e|e|e|e|e|e<;>simp only[e,true_or,or_true]
  rcases aAm with hm|rfl|rfl
  ·exact old hm
  ·exact Tz
  ·exact .int
 change au.Reach _ _ ((base 20).at ⟨rt xb (.int .i64 0) (.slice na h.fl.length nc) ai t6 t7 t8 t9 (ay<|ae ⟨xb,0,af⟩) (.slice na h.fl.length nc) (.slice va A.length vc) ai ai ai ai ai ai ai ai ai ai ai ai ai ai ai,[]⟩<|bQ yX [3,4]:: .code TD:: .code rY::[]) _ _ _ _;refine jD (fun w=>au0 xb _ _ t6 t7 t8 t9 _ _ _ _ _ w) fun d8=>?_;refine jD (fun w=>au1 xb _ _ t6 t7 t8 t9 _ _ _ _ _ w) fun d9=>?_;refine vM fun d10=>?_;have atV:∀(V:aj) (h1:HS) (N:Nat),aF w3 B xb N h1->V.heap=w3.heap->aF V B xb N h1:=fun V h1 N ht hV=>aF.same ht (fun b _=>by rw[hV]) (by rw[hV];exact dm _);refine au.Hr (w:=((w3.at d8).at d9).at d10) (K:=fun t d e a' w'=>e=.normal/\(∃t5 t14 t15 t16 t17 t18 t19 t20 t21 t22 t23,a'=⟨rt xb (.int .i64 0) (.slice na h.fl.length nc) t5 t6 t7 t8 t9 (ay<|ae ⟨xb,0,af⟩) (.slice na h.fl.length nc) (.slice va A.length vc) (.int .i64 A.length) t14 t15 t16 t17 t18 t19 t20 t21 t22 t23 ai ai ai ai,[]⟩)/\∃h2,pW (HS.taken h fZ) A h2/\bU (au.re (((w3.at d8).at d9).at d10) t d) w' B xb (n+h.fl.length) (HS.taken h fZ) (n+h.fl.length) h2) L3 C3 auO ac4 rfl ⟨_,func20⟩ rfl (fun t d=>aEq (auS (W:=au.re (((w3.at d8).at d9).at d10) t d) (Bm:=w2.heap.size) (h:=HS.taken h fZ) (atV (au.re (((w3.at d8).at d9).at d10) t d) _ _ au4 rfl) rfl (by
  refine⟨Gx.1,?_⟩;rcases Gx.2 with⟨q1,q2⟩|⟨g,cap,cur,q1,q2,q3,q4⟩
  ·exact .inl ⟨q1,q2⟩
  ·exact .inr ⟨g,cap,cur,q1,q2,q3,q4⟩) DC (fun k h2 m=>rU fZ k h2 m EO) _ _ _ _ _ _ _ _ _ _ _ _ _ _ _ _ _ _ _ _ _ _) fun e a w hq=>⟨.inl hq.1,hq⟩) ?_ ?_
 rotate_left
 ·rintro a4 w4 todo _ _ _ ⟨t,d,t',j,e,_⟩;cases e
 rintro a4 w4 CV ac5 _ ⟨t,d,t',j,_,⟨s5,s14,s15,s16,s17,s18,s19,s20,s21,s22,s23,rfl⟩,h2,hkr,Jq⟩;have au6:aF w4 B xb (n+h.fl.length) h2:=aF.JP Jq.at_;have f4:∀b,b<w3.heap.size->¬(HS.taken h fZ).fA xb b->w4.heap[b]? =w3.heap[b]? :=fun b hb dh=>Jq.fr.block b hb dh;have s4:∀b,h2.fA xb b->(HS.taken h fZ).fA xb b\/w3.heap.size<=b:=Jq.sub;have z4:w3.heap.size<=w4.heap.size:=Jq.fr.size;clear Jq;refine au.Hr (w:=w4) (K:=fun t d e a' w'=>e=.ret/\a'.tmps.getD 2 ai=.int .i64 h.fl.length/\∃h3,Bg h2 h3/\bU (au.re w4 t d) w' B xb (n+h.fl.length) h2 (n+h.fl.length) h3) L3 C3 okY ac5 rfl ⟨_,func20⟩ rfl (fun t d=>aEq (auT (l:=h.fl.length) (aF.re au6 t d) (yz fZ h2 EO hkr) _ _ _ _ _ _ _ _ _ _ _ _ _ _ _ _ _ _ _ _ _ _ _ _) fun e a w hq=>⟨.inr hq.1,hq⟩) ?_ ?_
 ·rintro a5 w5 _ _ _ ⟨t,d,t',j,e,_⟩;cases e
 rintro a5 w5 todo MH au7 hd5 ⟨t,d,t',j,_,uo,h3,htk,JQ⟩;have au8:aF w5 B xb (n+h.fl.length) h3:=aF.JP JQ.at_;have f5:∀b,b<w4.heap.size->¬h2.fA xb b->w5.heap[b]? =w4.heap[b]? :=fun b hb dh=>JQ.fr.block b hb dh;have s5:∀b,h3.fA xb b->h2.fA xb b\/w4.heap.size<=b:=JQ.sub;have z5:w4.heap.size<=w5.heap.size:=JQ.fr.size;clear JQ;have ajq:h3.pl=fZ:=(Bg.pl htk).trans (pW.pl hkr).1;have ft:∀b,(HS.taken h fZ).fA xb b->h.fA xb b\/w.heap.size<=b:=fun b hb=>by
  rcases hb with e|e|e|e|⟨p,hp,e⟩
  ·exact .inl<|.inl e
  ·exact .inl<|.inr<|.inl e
  ·exact .inl<|.inr<|.inr<|.inl e
  ·simp[HS.taken,Value.ownBlock]at e
  ·rcases(hlf p hp b e).1 with⟨p0,vW,e0⟩|e0
   ·exact .inl<|.inr<|.inr<|.inr<|.inr ⟨p0,vW,e0⟩
   ·have e0':w2.heap.size<=b:=e0;exact .inr<|by omega
 refine jD (fun w=>stepG_leave (v:=.int .i64 h.fl.length) rfl hd5 func20 (by rw[<-uo];exact aET rfl _ _ _)<|by kernel_rfl) fun d11=>?_;refine au.Reach.here fun _=>⟨_,rfl,z.Wg,h3,rfl,rfl,⟨⟨fZ,h2,EO,ajz,by rw[hA'];exact hkr,htk⟩,aF.same au8 (fun b _=>rfl)<|dm _,by rw[ajq];exact ajz,fun b hb hs hf=>?_,fun b hb=>?_,?_,by omega,?_,?_,?_⟩⟩
 ·have I7:b≠xb:=fun e=>hf<|.inl e;have NG:¬(HS.taken h fZ).fA xb b:=fun e=>(ft b e).elim hf fun y=>by omega
  have Nj:¬wR h.pl b:=fun⟨p,hp,e⟩=>hf<|.inr<|.inr<|.inr<|.inr ⟨p,hp,e⟩;have sS:¬h2.fA xb b:=fun e=>(s4 b e).elim NG fun y=>by omega
  exact(f5 b (by omega) sS).trans<|(f4 b (by omega) NG).trans<|(Di b (by show b<w2.heap.size;omega) hs Nj).trans<|f2 b hb I7
 ·rcases s5 b hb with e|e
  ·rcases s4 b e with e|e
   ·exact ft b e
   ·exact .inr<|by omega
  ·exact .inr<|by omega
 ·show w.heap.size<=w5.heap.size;omega
 ·exact MH.tape.trans<|CV.tape.trans<|ht3.trans ac2.1
 ·exact MH.os.trans<|CV.os.trans<|Ze.trans ac2.2.1
 ·exact MH.output.trans<|CV.output.trans<|hu3.trans ac2.2.2
end Twin
end
def tZ(l:List Ms)(q:Nat):List Ms:=l.filter fun m:Ms=>decide<|m.k=1/\m.q=(q:Int)
def XX(O:List Bool)(l:List Ms)(p i:Nat):List Ms:=((List.range p).flatMap fun q=>if O[q]? =ae true then[]else(tZ l q).map Ms.kZ)++if O[p]? =ae true then[]else(tZ (l.take i) p).map Ms.kZ
def au9(l:List Ms)(q:Nat):(tZ l q).length<=l.length:=GH _ _
def ava(l:List Ms)(p:Nat):((List.range p).flatMap fun q=>tZ l q).length<=l.length:=by
 induction l with
 |nil=>
  have:∀r:List Nat,(r.flatMap fun q=>tZ [] q)=[]:=fun r=>by
   induction r with
   |nil=>rfl
   |cons q r ih=>rw[oO,ih];rfl
  rw[this];exact dm _
 |cons x l ih=>
  have key:∀p:Nat,((List.range p).flatMap fun q=>tZ (x::l) q).length=((List.range p).flatMap fun q=>tZ l q).length+if x.k=1/\0<=x.q/\x.q<(p:Int)then 1 else 0:=by
   intro p;induction p with
   |zero=>
    rw[if_neg<|by omega];rfl
   |succ p ihp=>
    rw[aan,EW,EW,iV,iV,ihp];simp only[oO,List.flatMap_nil,ql];have e:(tZ (x::l) p).length=(tZ l p).length+if x.k=1/\x.q=(p:Int)then 1 else 0:=by
     unfold tZ;by_cases e:x.k=1/\x.q=(p:Int)
     ·rw[if_pos e,ae9<|by simpa using e];rfl
     ·rw[if_neg e,VM<|by simpa using e];rfl
    rw[e];by_cases h1:x.k=1/\0<=x.q/\x.q<(p:Int)
    ·rw[if_pos h1,if_neg<|by omega,if_pos<|by omega];omega
    ·by_cases h2:x.k=1/\x.q=(p:Int)
     ·rw[if_neg h1,if_pos h2,if_pos<|by omega];omega
     ·rw[if_neg h1,if_neg h2,if_neg<|by omega];omega
  rw[key p];simp only[oq];split<;>omega
def avc(O:List Bool)(l:List Ms)(p i:Nat):(XX O l p i).length<=l.length:=by
 have h1:(XX O l p i).length<=((List.range<|p+1).flatMap fun q=>tZ l q).length:=by
  unfold XX;rw[aan,EW,iV,iV];have a1:((List.range p).flatMap fun q=>if O[q]? =ae true then[]else(tZ l q).map Ms.kZ).length<=((List.range p).flatMap fun q=>tZ l q).length:=by
   generalize List.range p=r;induction r with
   |nil=>simp
   |cons q r ih=>
    simp only[oO,iV];have:(if O[q]? =ae true then[]else(tZ l q).map Ms.kZ).length<=(tZ l q).length:=by
     split
     ·simp
     ·rw[EZ];exact dm _
    omega
  have a2:(if O[p]? =ae true then[]else(tZ (l.take i) p).map Ms.kZ).length<=(tZ l p).length:=by
   split
   ·simp
   ·rw[EZ];unfold tZ;exact(List.take_sublist i l).filter _ |>.length_le
  simp only[oO,List.flatMap_nil,ql];omega
 exact eG h1<|ava l<|p+1
section
open _root_.Go.Proofs.YtkelpcjiediamaaGreat.Twin (fC kJ yV Bh Bg)
def avd(ms:List Ms)(i:Nat)(p:PL):yV ms i p=if p.out then p.s else JO (tZ ms i) p.s:=rfl
end
section
section
variable{N:Nat}{h h':HS}{L:List Rc}
variable{i j:Nat}{x:PS}{a:Int}{ok:Bool}
def Sn.ave(c:Sn N h L)(hu:h.up=true)(hi:(i:Int)<h.P)(hx:h.ps[i]? =ae x)(hs:x.s=2\/x.s=3):Next h.P h.Q L ⟨4,i,0,x.t⟩:=by
 have k:=(c.up hu i x hx).k;have:=k.s;exact⟨by simp only;omega,hi,.inr<|.inr<|.inr ⟨rfl,rfl,by simp only;omega,k.t⟩⟩
def Sn.TF(c:Sn N h L)(hu:h.up=true)(hi:(i:Int)<h.P)(hx:h.ps[i]? =ae x)(hs:x.s=1)(ha:a=0\/a=1):Next h.P h.Q L ⟨3,i,a,x.t⟩:=by
 have k:=(c.up hu i x hx).k;have:=k.s;exact⟨by simp only;omega,hi,.inr<|.inr<|.inl ⟨rfl,ha,by simp only;omega,k.t⟩⟩
def Sn.ac6(c:Sn N h L)(hN:N<=100000000){k:Int}(hk:k=3\/k=4)(ha:a=0\/a=1)(hi:(i:Int)<h.P)(hx:h.ps[i]? =ae x):mD h ⟨k,i,a,x.t⟩:=by
 have Rw:=c.P1.2;have hf:=c.fB;have ht:0<=x.t/\x.t<=L.length:=by
  cases hu:h.up with
  |true=>
   have k:=(c.up hu i x hx).k;have f:=c.valid.qL i;rw[k.t];exact⟨f.t0,f.t1⟩
  |false=>
   rw[c.dn hu]at hx;have:x=pJ:=by
    have:=gz hx;simpa[wE]using this
   subst this;exact⟨by simp[pJ],by simp[pJ]⟩
 exact⟨⟨L.length,by omega,⟨by simp only;omega,by simp only;omega,by simp only;omega,by simp only;omega,by simp only;omega,by simp only;omega,by simp only;omega,by simp only;omega⟩⟩,c.kp,by rw[c.jb,E7,Cb];omega,fun _=>ha⟩
def Sn.kZ(c:Sn N h L){m:Ms}(hm:yL h.P h.Q L m)(ha:OG h.pl m)(hi:m.p=(i:Int))(hx:h.ps[i]? =ae x)(a:yM h i x m h'):∃L',Sn (N+1) h' L'/\uH h L h' L'/\(∀m',yL h.P h.Q L m'->yL h.P h.Q L' m')/\h'.pl=h.pl/\h'.fl=h.fl:=by
 have hP:=hm.p;cases a with
 |idle=>exact⟨L,c.mono<|by omega,.refl _ _,fun _ z=>z,rfl,rfl⟩
 |done mP ht hw=>
  obtain⟨hu,hs,he⟩:=mP;have pr:=c.up hu i x hx;have hn:=c.ave hu (by omega) hx hs;have h4:∀(q:Nat) (p:PL),h.pl[q]? =ae p->∀t,p.s.nw (i:Int)≠ae (t,true):=fun q p hp t hj=>by
   have h2:=pr.p.opn (by omega) q p t hp hj;have ho:=c.opn q p hp _ t hj;have mZ:q<4:=by have:=(c.valid.qL i).ps _ ho.2.2.2.2;have:=c.Q1.2;omega
   have:(q:Int)∈bI x.aZ 2 4:=OJ.2 ⟨q,mZ,rfl,by omega⟩;rw[ht]at this;refine ha q p hp (oN.1 this).symm ?_;rw[hi,hj,<-he,pr.k.t,ho.2.2.2.1]
  obtain⟨_,sn,jv,rfl⟩:=c.LC hu hn (fun _=>h4) hw;exact⟨_,sn,⟨rfl,rfl,rfl,rfl,rfl,.one<|.inl rfl,.refl _⟩,fun m' z=>z.snoc hn,rfl,rfl⟩
 |tie mP ht=>
  obtain⟨hu,hs,he⟩:=mP;have pr:=c.up hu i x hx;have Tt:((m.q.toNat:Nat):Int)=m.q:=by have:=hm.q;omega
  have mZ:m.q<4:=by have:=c.Q1.2;have:=hm.q;omega
  rw[Tt];obtain⟨r1,r2,r3,r4,r5,r6⟩:=G6 x m.q 1;refine⟨L,(c.dQ (i:=i) (x':=x.tie m.q 1) hu ⟨⟨r1.trans pr.k.e,r2.trans pr.k.t,r3.trans pr.k.s,fun z=>?_,fun _ q hq=>?_,fun q=>?_⟩,⟨by rw[r3,r4];exact pr.c.si,by rw[r5];exact pr.c.wa,by rw[r6];exact pr.c.ga,by rw[r3,r5,r6];exact pr.c.due⟩,⟨fun _ q p t hp hj=>?_,fun _=>?_⟩⟩).mono<|by omega,⟨rfl,rfl,rfl,rfl,rfl,.refl _,.refl _⟩,fun _ z=>z,rfl,rfl⟩
  ·rw[r3]at z;omega
  ·rw[G5 x m.q 1 hm.q.1 mZ q];by_cases e:(q:Int)=m.q
   ·rw[if_pos e,e];have e2:m.t=(bz L m.p).t:=by rw[hi,<-pr.k.t];exact he.symm
    have:=hm.ps e2;rw[hi]at this;exact⟨fun _=>this,fun _=>by omega⟩
   ·rw[if_neg e];exact pr.k.some (by omega) q hq
  ·rw[G5 x m.q 1 hm.q.1 mZ q,r3];have:=pr.k.fB q;split
   ·omega
   ·exact this
  ·rw[G5 x m.q 1 hm.q.1 mZ q];have h2:=pr.p.opn (by omega) q p t hp hj;have ho:=c.opn q p hp _ t hj;split
   ·rename_i e;exact absurd (by rw[hi,hj,<-he,pr.k.t,ho.2.2.2.1])<|ha q p hp e.symm
   ·exact h2
  ·rw[apV x m.q hm.q.1 mZ];have VC:=apW x.aZ 2;have dh:=pr.p.Ce (by omega);revert ht VC dh;generalize bI x.aZ 2 4=l;intro ht VC dh e;have jF:∀k∈l,k=m.q:=fun k hk=>by
    have:=(afa.1 e) k hk;simpa using this
   match l,dh,jF,VC with
   |[a],_,jF,_=>exact ht<|by rw[jF a<|by simp]
   |a::b::l,_,jF,VC=>
    have ea:=jF a (by simp);have eb:=jF b (by simp);subst ea;subst eb;simp at VC
def TG(h:HS)(L:List Rc)(l:List Ms):Prop:=∀m∈l,yL h.P h.Q L m/\OG h.pl m
def Sn.XY{l:List Ms}:∀{N:Nat} {h h':HS} {L:List Rc},Sn N h L->TG h L l->pW h l h'->∃L',Sn (N+l.length) h' L'/\uH h L h' L'/\h'.pl=h.pl/\h'.fl=h.fl:=by
 induction l with
 |nil=>intro N h h' L c _ a;cases a;exact⟨L,c,.refl _ _,rfl,rfl⟩
 |cons m l ih=>
  intro N h h' L c ok a;cases a with
  |cons hi hx a rest=>
   obtain⟨o1,o2⟩:=ok m (by simp);obtain⟨L1,c1,w1,mk,p1,f1⟩:=c.kZ o1 o2 hi hx a;obtain⟨L2,c2,w2,p2,f2⟩:=ih c1 (fun m' Dv=>by
    obtain⟨o3,o4⟩:=ok m' (by simp[Dv]);rw[w1.P,w1.Q,p1];exact⟨mk m' o3,o4⟩) rest
   exact⟨L2,by rw[oq,Nat.add_comm l.length 1,<-zG];exact c2,w1.trans w2,p2.trans p1,f2.trans f1⟩
def ajA{i t:Int}{b:Bool}:∀(qs:List Int) {l:List Ms},(∀m∈l,gm L m.p m.t m.c)->gm L i t b->∀m∈vz l i t b qs,gm L m.p m.t m.c
 |[],_,hl,_=>hl
 |q::qs,l,hl,hd=>ajA qs (l:=sF l ⟨1,q,i,t,b⟩) (fun m hm=>by
   rcases abq hm with hm|rfl
   ·exact hl m hm
   ·exact hd) hd
def Sn.look(c:Sn N h L)(hu:h.up=true)(hi:(i:Int)<h.P)(hx:h.ps[i]? =ae x)(l:vC h i x ok h'):ok=true/\∃L',Sn (N+1) h' L'/\uH h L h' L'/\h'.pl=h.pl:=by
 have pr:=c.up hu i x hx;have s2:=pr.c.si;have hT:=c.T1;have hK:=c.K1;cases l with
 |wH hs ht=>exact⟨rfl,L,(c.dQ hu (i:=i) (x':={x with si:=x.si+1}) ⟨⟨pr.k.e,pr.k.t,pr.k.s,pr.k.none,pr.k.some,pr.k.fB⟩,⟨by simp only;omega,pr.c.wa,pr.c.ga,pr.c.due⟩,⟨pr.p.opn,pr.p.Ce⟩⟩).mono<|by omega,⟨rfl,rfl,rfl,rfl,rfl,.refl _,.refl _⟩,rfl⟩
 |idle=>exact⟨rfl,L,c.mono<|by omega,.refl _ _,rfl⟩
 |timeout hs ht hw=>
  have hn:=c.TF hu hi hx hs<|.inl rfl;cases hw with
  |ru jv hb=>
   have iT:h.br=true:=hb;rw[c.br]at iT;cases iT
  |ok jv hb=>
   have c1:=c.wrote hu hn (fun e=>by simp at e) jv;have hd:({x with si:=x.si+1}:PS).bY ⟨3,i,0,x.t⟩={x.bY ⟨3,i,0,x.t⟩with si:=x.si+1}:=by simp[PS.bY]
   have lL:i<h.ps.length:=(dM.1 hx).1;have e:jV (h.ps.set i {x with si:=x.si+1}) ⟨3,i,0,x.t⟩=(jV h.ps ⟨3,i,0,x.t⟩).set i {x.bY ⟨3,i,0,x.t⟩with si:=x.si+1}:=by
    have hg:(h.ps.getD i pJ)=x:=by rw[QJ,hx];rfl
    simp only[jV,Oc,List.set_set,<-hd];rw[QJ,mQ lL];rfl
   have gJ:(jV h.ps ⟨3,i,0,x.t⟩)[i]? =ae (x.bY ⟨3,i,0,x.t⟩):=by
    have hg:(h.ps.getD i pJ)=x:=by rw[QJ,hx];rfl
    simp only[jV,Oc,hg];exact mQ lL
   have Eg:=c1.up hu i _ gJ;refine⟨rfl,L++[⟨3,i,0,x.t⟩],?_,⟨rfl,rfl,rfl,rfl,rfl,.one<|.inr ⟨rfl,rfl⟩,.refl _⟩,rfl⟩;have hsd:(x.bY ⟨3,i,0,x.t⟩).s=3:=by simp[PS.bY]
   have:=c1.dQ hu (i:=i) (x':={x.bY ⟨3,i,0,x.t⟩with si:=x.si+1}) ⟨⟨Eg.k.e,Eg.k.t,Eg.k.s,Eg.k.none,Eg.k.some,Eg.k.fB⟩,⟨⟨by simp only;omega,by simp only;omega,fun z=>by have z':(x.bY ⟨3,i,0,x.t⟩).s<=1:=z;omega⟩,Eg.c.wa,Eg.c.ga,Eg.c.due⟩,⟨Eg.p.opn,Eg.p.Ce⟩⟩;show Sn (N+1) {(h.dQ i {x with si:=x.si+1}).mX jv (dV<|dJ ⟨3,i,0,x.t⟩)with ps:=jV (h.ps.set i {x with si:=x.si+1}) ⟨3,i,0,x.t⟩} _;rw[e];exact this
 |rem hs hr=>
  have du:=pr.c.due (by omega);have wa:=pr.c.wa;have ga:=pr.c.ga;cases hr with
  |wait hw=>exact⟨rfl,L,(c.dQ hu (i:=i) (x':={x with wa:=x.wa-1}) ⟨⟨pr.k.e,pr.k.t,pr.k.s,pr.k.none,pr.k.some,pr.k.fB⟩,⟨pr.c.si,by simp only;omega,ga,fun _=>by simp only;omega⟩,⟨pr.p.opn,pr.p.Ce⟩⟩).mono<|by omega,⟨rfl,rfl,rfl,rfl,rfl,.refl _,.refl _⟩,rfl⟩
  |due fv hw=>
   have ks:=pr.k.s;have kt:=pr.k.t;have hf:=c.valid.qL i;have hn:Sn N (h.ig fv<|vz h.fl i x.t (x.s==2)<|bI x.aZ 2 4) L:=by
    refine c.net fv (ahT _ _ _ _ c.fl) (uG.ahU _ c.ms fun q hq=>?_)<|ajA _ c.dec ?_
    ·obtain⟨k,xZ,rfl,h2⟩:=OJ.1 hq;have fE:=(pr.k.some (by omega) k xZ).1 (by omega);have hb:=hf.ps _ fE;exact⟨.inl rfl,hb,⟨by simp only;omega,hi⟩,⟨by simp only;have:=hf.t0;omega,by simp only;omega⟩,fun _=>by simp only;omega,fun _=>fE⟩
    ·have:=(c.valid.Rx i).now (by omega);rw[kt,ks,show((bz L i).s==2)=decide ((bz L i).s=2)from rfl];exact this
   refine⟨rfl,L,((hn.dQ (i:=i) (x':={x with wa:=x.ga,ga:=min (2*x.ga) h.K}) hu ⟨⟨pr.k.e,pr.k.t,pr.k.s,pr.k.none,pr.k.some,pr.k.fB⟩,⟨pr.c.si,ga,by simp only;omega,fun _=>by simp only;show(1<=x.ga/\x.ga<=h.K)/\1<=min (2*x.ga) h.K/\min (2*x.ga) h.K<=h.K;omega⟩,⟨pr.p.opn,pr.p.Ce⟩⟩).mono<|by omega),⟨rfl,rfl,rfl,rfl,rfl,.refl _,.refl _⟩,rfl⟩
def Sn.PM(c:Sn N h L)(hu:h.up=true)(t:qM h j h'):(j:Int)<=h.P->∃L',Sn (N+j) h' L'/\uH h L h' L'/\h'.pl=h.pl:=by
 induction t with
 |zero=>intro _;exact⟨L,c,.refl _ _,rfl⟩
 |succ _ hx l ih=>
  intro hj;obtain⟨L1,c1,w1,p1⟩:=ih (by omega);obtain⟨_,L2,c2,w2,p2⟩:=c1.look (w1.up.trans hu) (by rw[w1.P];omega) hx l;exact⟨L2,c2,w1.trans w2,p2.trans p1⟩
def Sn.tick(c:Sn N h L)(hu:h.up=true)(t:OI h ok h'):ok=true/\∃L',Sn (N+6) h' L'/\uH h L h' L'/\h'.pl=h.pl:=by
 have:=c.P1;cases t with
 |all t=>
  obtain⟨L1,c1,w1,p1⟩:=c.PM hu t (by omega);exact⟨rfl,L1,c1.mono<|by omega,w1,p1⟩
 |ru hj t hx l=>
  obtain⟨L1,c1,w1,p1⟩:=c.PM hu t (by omega);have:=(c1.look (w1.up.trans hu) (by rw[w1.P];omega) hx l).1;cases this
def Sn.ajB(c:Sn N h L)(hN:N<=90000000)(hu:h.up=true){h1:HS}(hj:j<h.P.toNat)(t:qM h j h1)(hx:h1.ps[j]? =ae x):x.DT/\mD h1 ⟨3,j,0,x.t⟩:=by
 have:=c.P1;obtain⟨L1,c1,w1,p1⟩:=c.PM hu t (by omega);have pr:=c1.up (w1.up.trans hu) j x hx;have:=pr.c.si;have:=pr.c.wa;have:=pr.c.ga;exact⟨⟨by omega,by omega,by omega⟩,c1.ac6 (by omega) (.inl rfl) (.inl rfl) (by rw[w1.P];omega) hx⟩
end
end
section
open _root_.Go.Proofs.YtkelpcjiediamaaGreat.Twin (yV kJ fC Bh Bg HS.taken)
section
variable{N:Nat}{h h2 h3:HS}{L:List Rc}{fZ:List PL}
def avj(ms:List Ms)(pl:List PL):(kJ ms pl).length<=ms.length:=by
 refine eG ?_ (avc [] ms pl.length 0);unfold kJ XX;rw[iV];refine eG ?_ (VW _ _);generalize List.range pl.length=l;induction l with
 |nil=>simp
 |cons q l ih=>
  simp only[oO,iV];refine Nat.add_le_add ?_ ih;simp only[List.getElem?_nil];split
  ·split
   ·simp
   ·exact dm _
  ·simp
def XZ(ms:List Ms)(pl:List PL):(fC ms++kJ ms pl).length<=2*ms.length:=by
 have h1:(fC ms).length<=ms.length:=GH _ _;have h2:=avj ms pl;rw[iV];omega
def LK.JO:∀(l:List Ms) {N:Nat} {s:aH},LK N L s->(∀m∈l,eP m.p/\eP m.t/\gm L m.p m.t m.c)->LK (N+l.length) L (JO l s)/\Ext s (JO l s)/\(JO l s).data=s.data
 |[],_,_,k,_=>⟨k,.refl _,rfl⟩
 |m::l,N,s,k,ho=>by
  obtain⟨o1,o2,o3⟩:=ho m (by simp);obtain⟨h1,h2,h3⟩:=LK.JO l (k.closed o1 o2 o3) fun m' Dv=>ho m' (by simp[Dv]);exact⟨by rw[oq,Nat.add_comm l.length 1,<-zG];exact h1,(aaC k.inv _ _ _ o1 o2).2.trans h2,h3.trans ag2⟩
def Sn.taken(c:Sn N h L)(hN:N<=90000000)(hs:Bh h h.fl fZ):Sn (N+100) (HS.taken h fZ) L/\tN h.pl fZ/\∀(q:Nat) (p':PL),fZ[q]? =ae p'->∃p,h.pl[q]? =ae p/\∀i t,p'.s.nw i=ae (t,true)->p.s.nw i=ae (t,true)/\(p.out=false->∀m∈h.fl,m.k=1->m.q=(q:Int)->¬(m.p=i/\m.t=t)):=by
 have key:∀(q:Nat) (p':PL),fZ[q]? =ae p'->∃p,h.pl[q]? =ae p/\Gw p p'/\LK (N+100) L p'.s/\∀i t,p'.s.nw i=ae (t,true)->p.s.nw i=ae (t,true)/\(p.out=false->∀m∈h.fl,m.k=1->m.q=(q:Int)->¬(m.p=i/\m.t=t)):=fun q p' hq=>by
  have hl:q<h.pl.length:=by rw[<-hs.len];exact(dM.1 hq).1
  have hp:=eY hl;obtain⟨v',h1⟩:=hs.get q _ hp;rw[hq]at h1;cases h1;have k:=c.ed q _ hp;have e:=avd h.fl q h.pl[q];obtain⟨k1,k2,k3⟩:=LK.JO (tZ h.fl q) k fun m hm=>by
   obtain⟨h6,_⟩:=KU.1 hm;have:=c.WO (by omega) (c.ms m h6).1;exact⟨this.1,this.2,c.dec m h6⟩
  have hm:=au9 h.fl q;have hf:=c.fl;cases ho:h.pl[q].out with
  |true=>
   rw[ho,if_pos rfl]at e;exact⟨_,hp,⟨by rw[e];exact .refl _,by rw[e]⟩,by rw[e];exact k.mono<|by omega,fun i t z=>⟨by rw[e]at z;exact z,fun z=>by rw[ho]at z;cases z⟩⟩
  |false=>
   rw[ho,if_neg<|by simp]at e;refine⟨_,hp,⟨by rw[e];exact k2,by rw[e];exact k3⟩,by rw[e];exact k1.mono<|by omega,fun i t z=>?_⟩;have z':(yV h.fl q h.pl[q]).nw i=ae (t,true):=z;rw[e]at z';obtain⟨z1,z2⟩:=aju _ z';exact⟨z1,fun _ m hm h1 h2=>z2 m<|KU.2 ⟨hm,by simp[h1,h2]⟩⟩
 refine⟨⟨c.P1,c.Q1,c.T1,c.K1,c.h6,c.valid,by have:=c.fB;omega,c.jb,c.br,c.kp,fun q p hp i t hi=>?_,fun q p hp=>?_,fun m hm=>by simp[HS.taken]at hm,fun m hm=>by simp[HS.taken]at hm,by simp[HS.taken],fun hu i x hx=>?_,c.dn⟩,⟨hs.len,fun q p hp=>?_⟩,fun q p' hq=>(key q p' hq).imp fun p z=>⟨z.1,z.2.2.2⟩⟩
 ·obtain⟨p0,h0,_,_,hn⟩:=key q p hp;exact c.opn q p0 h0 i t (hn i t hi).1
 ·obtain⟨p0,h0,_,hk,_⟩:=key q p hp;exact hk
 ·have pr:=c.up hu i x hx;refine⟨pr.k,pr.c,fun h2 q p t hp hi=>?_,pr.p.Ce⟩;obtain⟨p0,h0,_,_,hn⟩:=key q p hp;exact pr.p.opn h2 q p0 t h0 (hn _ t hi).1
 ·have hl:q<fZ.length:=by rw[hs.len];exact(dM.1 hp).1
  have hq:=eY hl;obtain⟨p0,h0,g,_⟩:=key q _ hq;rw[hp]at h0;cases h0;exact⟨_,hq,g⟩
def Sn.oV(c:Sn N h L)(hN:N<=90000000)(hs:Bh h h.fl fZ):TG (HS.taken h fZ) L (fC h.fl++kJ h.fl h.pl):=by
 obtain⟨_,_,key⟩:=c.taken hN hs;intro m hm;rcases oP.1 hm with hm|hm
 ·obtain⟨h1,h2⟩:=KU.1 hm;have mo:=c.ms m h1;refine⟨mo.1,fun q p' hq TJ hi=>?_⟩;obtain⟨p,hp,hn⟩:=key q p' hq;exact mo.2 (by simpa using h2) q p hp TJ (hn _ _ hi).1
 ·unfold kJ at hm;obtain⟨q0,rV,hm⟩:=aal.1 hm;have UI:q0<h.pl.length:=GN.1 rV;rw[eY UI]at hm;simp only at hm;split at hm
  ·simp at hm
  ·rename_i ho;obtain⟨x,hx,rfl⟩:=Je.1 hm;obtain⟨h1,h2⟩:=KU.1 hx;have Qo:x.k=1/\x.q=(q0:Int):=by simpa using h2
   have mo:=(c.ms x h1).1;refine⟨⟨.inr rfl,mo.q,mo.p,mo.t,mo.s,mo.ps⟩,fun q p' hq TJ hi=>?_⟩;have aB0:x.q=(q:Int):=TJ;have hqq:q=q0:=by omega
   subst hqq;obtain⟨p,hp,hn⟩:=key q p' hq;rw[eY UI]at hp;cases hp;exact(hn _ _ hi).2 (by simpa using ho) x h1 Qo.1 Qo.2 ⟨rfl,rfl⟩
def Sn.round(c:Sn N h L)(hN:N<=90000000)(hs:Bh h h.fl fZ)(kr:pW (HS.taken h fZ) (fC h.fl++kJ h.fl h.pl) h2)(tk:Bg h2 h3):∃L',Sn (N+306) h3 L'/\uH h L h3 L':=by
 obtain⟨c1,g1,_⟩:=c.taken hN hs;obtain⟨L2,c2,w2,p2,f2⟩:=c1.XY (c.oV hN hs) kr;have hl:=XZ h.fl h.pl;have hf:=c.fl;have w12:uH h L h2 L2:=⟨w2.P,w2.Q,w2.T,w2.K,w2.up,w2.qt,g1.trans w2.grow⟩;have c2':=c2.mono (M:=N+300) (by omega);cases tk with
 |down hu=>exact⟨L2,c2'.mono<|by omega,w12⟩
 |up hu t=>
  obtain⟨_,L3,c3,w3,_⟩:=c2'.tick hu t;exact⟨L3,c3,w12.trans w3⟩
def TG.take{A:List Ms}(ok:TG h L A)(k:Nat):TG h L (A.take k):=fun m hm=>ok m<|List.mem_of_mem_take hm
variable{j:Nat}{m:Ms}
def Sn.avk(c:Sn N h L)(hN:N<=90000000)(hs:Bh h h.fl fZ)(kr:pW (HS.taken h fZ) ((fC h.fl++kJ h.fl h.pl).take j) h2)(hm:(fC h.fl++kJ h.fl h.pl)[j]? =ae m):∃(i:Nat) (x:PS) (q:Nat),m.p=(i:Int)/\i<6/\h2.ps[i]? =ae x/\m.q=(q:Int)/\q<4/\mD h2 ⟨4,i,0,x.t⟩:=by
 obtain⟨c1,_,_⟩:=c.taken hN hs;have ok:=c.oV hN hs;obtain⟨L2,c2,w2,_,_⟩:=c1.XY (ok.take j) kr;obtain⟨o1,_⟩:=ok m<|gz hm;have hl:=XZ h.fl h.pl;have hf:=c.fl;have ht:((fC h.fl++kJ h.fl h.pl).take j).length<=200:=by rw[EY];omega
 have hp:0<=m.p/\m.p<h.P:=o1.p;have hq:0<=m.q/\m.q<h.Q:=o1.q;have:=c.P1.2;have:=c.Q1.2;obtain⟨i,hi⟩:=uA hp.1;obtain⟨q,hqq⟩:=uA hq.1;have lL:i<h2.ps.length:=by rw[c2.h6];omega
 exact⟨i,h2.ps[i],q,hi,by omega,eY lL,hqq,by omega,c2.ac6 (by omega) (.inr rfl) (.inl rfl) (by rw[w2.P];show(i:Int)<h.P;omega)<|eY lL⟩
def Sn.avl(c:Sn N h L)(hN:N<=80000000)(hs:Bh h h.fl fZ)(kr:pW (HS.taken h fZ) (fC h.fl++kJ h.fl h.pl) h2)(hu:h2.up=true){h1:HS}{x:PS}(hj:j<h2.P.toNat)(t:qM h2 j h1)(hx:h1.ps[j]? =ae x):x.DT/\mD h1 ⟨3,j,0,x.t⟩:=by
 obtain⟨c1,_,_⟩:=c.taken (by omega) hs;obtain⟨L2,c2,w2,_,_⟩:=c1.XY (c.oV (by omega) hs) kr;have hl:=XZ h.fl h.pl;have hf:=c.fl;exact c2.ajB (by omega) hu hj t hx
def uG.avm{pl:List PL}{P Q:Int}{F:List Ms}(hm:uG pl P Q L F)(k:Nat):uG pl P Q L (F.eraseIdx k):=fun m hx=>hm m<|List.mem_of_mem_eraseIdx hx
def Sn.drop(c:Sn N h L)(fv:az)(k:Nat):Sn N (h.ig fv<|h.fl.eraseIdx k) L:=
 c.net fv (eG (List.length_eraseIdx_le ..) c.fl) (c.ms.avm k) fun m hm=>c.dec m<|List.mem_of_mem_eraseIdx hm
def Sn.send(c:Sn N h L)(fv:az)(mo:yL h.P h.Q L m)(ma:m.k=2->OG h.pl m)(hd:gm L m.p m.t m.c):Sn N (h.ig fv<|sF h.fl m) L:=
 c.net fv (agU c.fl m) (c.ms.send mo ma) fun x hx=>by
  rcases abq hx with hx|rfl
  ·exact c.dec x hx
  ·exact hd
def Sn.copy(c:Sn N h L)(fv:az)(hm:m∈h.fl):Sn N (h.ig fv<|sF h.fl m) L:=c.send fv (c.ms m hm).1 (c.ms m hm).2<|c.dec m hm
def Sn.marked(c:Sn N h L)(hN:N<=90000000){k:Nat}(hk:h.fl[k]? =ae m){q:Nat}{p:PL}(hq:m.q=(q:Int))(hp:h.pl[q]? =ae p)(fv v' iZ:az):
 Sn (N+1) (((h.ig fv<|h.fl.eraseIdx k).gZ q ⟨p.lb,p.bm,v',p.s.closed m.p m.t m.c,p.out⟩).ig iZ<|sF (h.fl.eraseIdx k) m.kZ) L/\uH h L (((h.ig fv<|h.fl.eraseIdx k).gZ q ⟨p.lb,p.bm,v',p.s.closed m.p m.t m.c,p.out⟩).ig iZ<|sF (h.fl.eraseIdx k) m.kZ) L:=by
 have hm:=gz hk;have mo:=(c.ms m hm).1;obtain⟨c1,g1⟩:=(c.drop fv k).shut (by omega) hp v' mo<|c.dec m hm;obtain⟨a1,a2⟩:=apU (pl:=h.pl) (v':=v') (p:=p) mo hq;exact⟨c1.send iZ a1 (fun _=>a2)<|c.dec m hm,⟨rfl,rfl,rfl,rfl,rfl,.refl _,tN.set hp g1⟩⟩
def uH.X0(fv:az)(l:List Ms):uH h L (h.ig fv l) L:=⟨rfl,rfl,rfl,rfl,rfl,.refl _,.refl _⟩
end
end
section
section
variable{N:Nat}{h h1:HS}{L:List Rc}
variable{i q:Nat}{x:PS}{s:aH}{t:Int}{p:PL}{ts:ByteArray}
def Sn.avn(c:Sn N h L)(hu:h.up=true)(hi:(i:Int)<h.P)(hx:h.ps[i]? =ae x):Next h.P h.Q L ⟨1,i,0,x.e+1⟩:=
 ⟨by simp only;omega,hi,.inl ⟨rfl,rfl,by simp only;rw[(c.up hu i x hx).k.e]⟩⟩
def Sn.avo(c:Sn N h L)(hu:h.up=true)(hi:(i:Int)<h.P)(hq:(q:Int)<h.Q)(hx:h.ps[i]? =ae x)(hs:x.s=0\/x.s=1)(ht:x.aZ.getD q 0=0):Next h.P h.Q L ⟨2,i,q,x.next⟩:=by
 have k:=(c.up hu i x hx).k;have ks:=k.s;have kt:=k.t;have:=c.Q1.2;refine⟨by simp only;omega,hi,.inr<|.inl ⟨rfl,⟨by simp only;omega,hq⟩,?_⟩⟩;simp only[PS.next];rcases hs with hs|hs
 ·exact .inl ⟨by omega,by rw[if_pos hs,kt]⟩
 ·refine .inr ⟨by omega,by rw[if_neg<|by omega,kt],fun fE=>?_⟩;have:=(k.some (by omega) q<|by omega).2 fE;omega
def PR.heard{pl:List PL}{T K:Int}{z:St}{i:Int}(p:PR pl T K z i x)(hT:1<=T):PR pl T K z i {x with si:=0}:=
 ⟨⟨p.k.e,p.k.t,p.k.s,p.k.none,p.k.some,p.k.fB⟩,⟨⟨Int.le_refl 0,by simp,fun _=>by simp only;omega⟩,p.c.wa,p.c.ga,p.c.due⟩,⟨p.p.opn,p.p.Ce⟩⟩
def ac7{i:Int}:(s.opened i t).es=s.es:=by unfold aH.opened;split<;>rfl
def LK.opened(k:LK N L s)(i t:Int):LK (N+1) L (s.opened i t):=⟨(afF k.inv i t).1,by rw[ac7];exact k.dec,by rw[ac7];have:=k.fB;omega⟩
def Gw.opened(k:LK N L p.s)(v':az)(i t:Int):Gw p ⟨p.lb,p.bm,v',p.s.opened i t,p.out⟩:=⟨(afF k.inv i t).2,by unfold aH.data;simp only[ac7]⟩
def Sn.again(c:Sn N h L)(hu:h.up=true)(v':az)(hi:(i:Int)<h.P)(hq:(q:Int)<h.Q)(hx:h.ps[i]? =ae x)(hp:h.pl[q]? =ae p)(ht:x.aZ.getD q 0≠0)(hs:x.s=0\/x.s=1):
 x.s=1/\Sn (N+1) ((h.gZ q ⟨p.lb,p.bm,v',p.s.opened i x.t,p.out⟩).dQ i {x with si:=0}) L/\tN h.pl (h.gZ q ⟨p.lb,p.bm,v',p.s.opened i x.t,p.out⟩).pl:=by
 have pr:=c.up hu i x hx;have ks:=pr.k.s;have:=c.Q1.2;have IG:x.s=1:=by
  rcases hs with hs|hs
  ·obtain⟨a,b,cc,d⟩:=pr.k.none hs;rw[Q4 x q<|by omega]at ht;simp[a,b,cc,d]at ht
  ·exact hs
 have fE:(q:Int)∈(bz L i).ps:=(pr.k.some (by omega) q<|by omega).1 (by have:=(pr.k.fB q).1;omega);have c1:Sn (N+1) (h.gZ q ⟨p.lb,p.bm,v',p.s.opened i x.t,p.out⟩) L:=c.gZ hp (p':=⟨p.lb,p.bm,v',p.s.opened i x.t,p.out⟩) ((c.ed q p hp).opened _ _) (fun j t hj=>by
  rcases WJ hj with e|⟨e1,e2⟩
  ·exact c.opn q p hp j t e
  ·subst e1 e2;exact⟨by omega,hi,by omega,pr.k.t.symm,fE⟩) (fun j t hj=>(WJ hj).imp id fun⟨e1,e2⟩=>by subst e1 e2;exact⟨by omega,pr.k.t.symm⟩)
 exact⟨IG,c1.dQ hu<|(c1.up hu i x hx).heard c.T1.1,tN.set hp<|Gw.opened (c.ed q p hp) v' i x.t⟩
def Sn.added(c:Sn N h L)(hu:h.up=true)(v':az)(hi:(i:Int)<h.P)(_:(q:Int)<h.Q)(hx:h.ps[i]? =ae x)(hp:h.pl[q]? =ae p)(hn:Next h.P h.Q L ⟨2,i,q,x.next⟩){ok:Bool}(ho:jH h ⟨2,i,q,x.next⟩ ok h1):
 ok=true/\Sn (N+2) ((h1.gZ q ⟨p.lb,p.bm,v',p.s.opened i x.next,p.out⟩).dQ i {x.bY ⟨2,i,q,x.next⟩with si:=0}) (L++[⟨2,i,q,x.next⟩])/\tN h.pl (h1.gZ q ⟨p.lb,p.bm,v',p.s.opened i x.next,p.out⟩).pl/\h1.up=true/\h1.P=h.P/\h1.Q=h.Q/\h1.T=h.T/\h1.K=h.K:=by
 obtain⟨e,c1,jv,rfl⟩:=c.LC hu hn (fun e=>by simp at e) ho;have lL:i<h.ps.length:=(dM.1 hx).1;have gJ:(jV h.ps ⟨2,i,q,x.next⟩)[i]? =ae (x.bY ⟨2,i,q,x.next⟩):=by
  have hg:(h.ps.getD i pJ)=x:=by rw[QJ,hx];rfl
  simp only[jV,Oc,hg];exact mQ lL
 have di:(bz (L++[⟨2,i,q,x.next⟩]) i).s=1/\(bz (L++[⟨2,i,q,x.next⟩]) i).t=x.next/\(q:Int)∈(bz (L++[⟨2,i,q,x.next⟩]) i).ps:=by
  rw[xJ];simp[St.step]
 have rU:({h.mX jv (dV<|dJ ⟨2,i,q,x.next⟩)with ps:=jV h.ps ⟨2,i,q,x.next⟩}:HS).pl[q]? =ae p:=hp;have c2:=c1.gZ rU (p':=⟨p.lb,p.bm,v',p.s.opened i x.next,p.out⟩) ((c1.ed q p hp).opened _ _) (fun j t hj=>by
  rcases WJ hj with e|⟨e1,e2⟩
  ·exact c1.opn q p hp j t e
  ·subst e1 e2;exact⟨by omega,hi,by omega,di.2.1,di.2.2⟩) (fun j t hj=>(WJ hj).imp id fun⟨e1,e2⟩=>by subst e1 e2;exact⟨di.1,di.2.1⟩)
 exact⟨e,c2.dQ hu<|(c2.up hu i _ gJ).heard c.T1.1,tN.set hp<|Gw.opened (c.ed q p hp) v' i x.next,hu,rfl,rfl,rfl,rfl⟩
def X8{i:Int}(hc:s.ou i t ts=0):(s.lC i t ts).es=s.es++[⟨1,i,t,ts⟩]:=by
 unfold aH.lC;rw[if_pos hc];rfl
def avp{i:Int}(hc:s.ou i t ts=0):(s.lC i t ts).data=s.data++[⟨1,i,t,ts⟩]:=by
 unfold aH.data;rw[X8 hc,zD];rfl
def avq{i:Int}(hc:s.ou i t ts≠0):s.lC i t ts=s:=by
 unfold aH.lC;rw[if_neg hc]
def Sn.put(c:Sn N h L)(hN:N<=100000000)(hu:h.up=true)(v':az)(hi:(i:Int)<h.P)(hx:h.ps[i]? =ae x)(hp:h.pl[q]? =ae p)(hc:p.s.ou i x.t ts=0):
 Sn (N+1) ((h.gZ q ⟨p.lb,p.bm,v',p.s.lC i x.t ts,p.out⟩).dQ i {x with si:=0}) L/\Ext p.s (p.s.lC i x.t ts):=by
 have pr:=c.up hu i x hx;have hf:=c.valid.qL i;have KP:=c.fB;have jK:=c.P1.2;have hI:eP (i:Int):=Ll (by omega) (by omega);have hT:eP x.t:=by rw[pr.k.t];exact Ll (by have:=hf.t0;omega) (by have:=hf.t1;omega)
 have k:=c.ed q p hp;obtain⟨k1,k2⟩:=anB k.inv i x.t ts hI hT;have hs:=c.Rz hp (s':=p.s.lC i x.t ts) fun j t z=>by rw[apy]at z;exact z
 have c1:=c.gZ hp (p':=⟨p.lb,p.bm,v',p.s.lC i x.t ts,p.out⟩) ⟨k1,fun e he hk=>by
  rw[X8 hc]at he;rcases oP.1 he with he|he
  ·exact k.dec e he hk
  ·rw[oN.1 he]at hk;exact absurd rfl hk,by rw[X8 hc];have:=k.fB;simp<;>omega⟩ hs.1 hs.2
 exact⟨c1.dQ hu<|(c1.up hu i x hx).heard c.T1.1,k2⟩
def Sn.avr(c:Sn N h L)(v':az){s':aH}(hp:h.pl[q]? =ae p)(e:s'=p.s):Sn (N+1) (h.gZ q ⟨p.lb,p.bm,v',s',p.out⟩) L/\tN h.pl (h.gZ q ⟨p.lb,p.bm,v',s',p.out⟩).pl:=by
 subst e;have hs:=c.Rz hp (s':=p.s) fun _ _ z=>z;exact⟨c.gZ hp (p':=⟨p.lb,p.bm,v',p.s,p.out⟩) ((c.ed q p hp).mono<|by omega) hs.1 hs.2,tN.set hp ⟨.refl _,rfl⟩⟩
def Sn.PN(c:Sn N h L):Sn N h.qY L:=
 ⟨c.P1,c.Q1,c.T1,c.K1,rfl,c.valid,c.fB,c.jb,rfl,by simp[HS.qY],c.opn,c.ed,c.ms,c.dec,c.fl,(fun e=>by cases e),fun _=>rfl⟩
def Sn.MI(c:Sn N h L)(jv:az):Sn N (h.DV jv L) L:=by
 refine⟨c.P1,c.Q1,c.T1,c.K1,Q3 L,c.valid,c.fB,rfl,c.br,c.kp,c.opn,c.ed,c.ms,c.dec,c.fl,fun _ i x hx=>?_,fun e=>by cases e⟩;have yx:(replay L)[i]? =ae x:=hx;have jK:i<6:=by rw[<-Q3 L];exact(dM.1 yx).1
 obtain⟨x',qh,hr⟩:=c.valid.replay c.Q1.2 i jK;rw[qh]at yx;obtain rfl:=qX yx;have hf:=c.valid.qL i;have hQ4:=c.Q1.2;have fin:=apv (Int.le_refl 0) L _<|gz qh;have hT:=c.T1.1;have hK:=c.K1;have h4:∀q:Int,q∈(bz L i).ps->∃n:Nat,q=n/\n<4:=fun q hq=>by
  have:=hf.ps q hq;exact⟨q.toNat,by omega,by omega⟩
 refine⟨⟨hr.e,hr.t,hr.s,hr.none,fun h0 q hq=>?_,fun q=>?_⟩,⟨⟨by rw[hr.si];simp,by rw[hr.si];simp,fun _=>by rw[hr.si];show 0<h.T;omega⟩,by have:=fin.wa;omega,fin.ga,fun h2=>by obtain⟨_,e1,e2⟩:=hr.two h2;rw[e1,e2];show((1:Int)<=1/\1<=h.K)/\(1:Int)<=1/\1<=h.K;omega⟩,⟨fun h2 q p t hp hj=>?_,fun h2=>?_⟩⟩
 ·have hs:=hr.s;have zg:=hf.s0;rcases(show x'.s=1\/2<=x'.s by omega)with e|e
  ·rw[hr.one e q hq];by_cases fE:(q:Int)∈(bz L i).ps
   ·rw[if_pos fE];exact⟨fun _=>fE,fun _=>by decide⟩
   ·rw[if_neg fE];exact⟨fun z=>absurd z<|by decide,fun z=>absurd z fE⟩
  ·rw[(hr.two e).1 q hq];by_cases fE:(q:Int)∈(bz L i).ps
   ·rw[if_pos fE];exact⟨fun _=>fE,fun _=>by decide⟩
   ·rw[if_neg fE];exact⟨fun z=>absurd z<|by decide,fun z=>absurd z fE⟩
 ·by_cases hq:q<4
  ·have hs:=hr.s;have zg:=hf.s0;rcases(show x'.s=0\/x'.s=1\/2<=x'.s by omega)with e|e|e
   ·obtain⟨a,b,cc,d⟩:=hr.none e;rw[Q4 x' q hq];simp[a,b,cc,d]
   ·rw[hr.one e q hq];split<;>omega
   ·rw[(hr.two e).1 q hq];split<;>omega
  ·rw[Q5 x' q<|by omega];omega
 ·have fE:=(c.opn q p hp i t hj).2.2.2.2;obtain⟨n,e,hn⟩:=h4 _ fE;have:q=n:=by omega
  subst this;rw[(hr.two h2).1 q hn,if_pos fE]
 ·obtain⟨q,l,hq⟩:=List.exists_cons_of_ne_nil (c.valid.parts i (by have:=hr.s;omega));have fE:q∈(bz L i).ps:=by rw[hq];simp
  obtain⟨n,rfl,hn⟩:=h4 _ fE;exact List.ne_nil_of_mem<|OJ.2 ⟨n,hn,rfl,by rw[(hr.two h2).1 n hn,if_pos fE];decide⟩
end
end
section
structure Wn where
 q:Int
 p:Int
 t:Int
 s:ByteArray
structure Fa where
 p:Int
 t:Int
 o:Int
structure PG where
 ep:List Int
 dn:Bool
 wr:List Wn
 fa:List Fa
 gt:List (List Rec)
 st:List Nat
def Wn.Ya(w:Wn):iy:=⟨1,w.p,w.t,w.s⟩
def Fa.is(p t:Int)(f:Fa):Bool:=decide (f.p=p)&&decide (f.t=t)
def jI(l:List Fa)(p t:Int):Int:=((l.find?<|Fa.is p t).map Fa.o).getD 0
structure Pg(N:Nat)(h:HS)(L:List Rc)(g:PG):Prop where
 sn:Sn N h L
 ep:(g.ep.length:Int)=h.P
 ee:∀(i:Nat) (e:Int),g.ep[i]? =ae e->e=(bz L i).e/\1<=e
 dn:g.dn= !h.up
 wr:∀(q:Nat) (p:PL),h.pl[q]? =ae p->p.s.data=(g.wr.filter fun w=>decide<|w.q=(q:Int)).map Wn.Ya
 fa:∀f∈g.fa,(f.o=1/\gm L f.p f.t true)\/(f.o=2/\gm L f.p f.t false)
 fc:∀p t,gm L p t true->∃f∈g.fa,f.p=p/\f.t=t
 gl:g.gt.length=h.pl.length
 sl:g.st.length=h.pl.length
 bn:∀(q:Nat) (p:PL),h.pl[q]? =ae p->∃s0,Ext s0 p.s/\g.gt[q]? =ae (s0.bn 0 s0.dC)/\g.st[q]? =ae s0.dC
section
variable{N:Nat}{h:HS}{L:List Rc}{g:PG}
variable{p t:Int}{q:Nat}
def ac9{f:Fa}:f.is p t=true↔f.p=p/\f.t=t:=by simp[Fa.is]
def ada(c:Pg N h L g)(p t:Int):(jI g.fa p t=0/\¬gm L p t true)\/(jI g.fa p t=1/\gm L p t true)\/(jI g.fa p t=2/\gm L p t false):=by
 unfold jI;cases e:g.fa.find? (Fa.is p t)with
 |none=>
  refine .inl ⟨rfl,fun d=>?_⟩;obtain⟨f,hf,h1,h2⟩:=c.fc p t d;have:=List.find?_eq_none.1 e f hf;exact this<|ac9.2 ⟨h1,h2⟩
 |some f=>
  obtain⟨h1,h2⟩:=ac9.1<|List.find?_some e;have hf:=c.fa f<|List.mem_of_find?_eq_some e;rw[h1,h2]at hf;exact .inr hf
def Yb(c:Pg N h L g):jI g.fa p t=1↔gm L p t true:=by
 have:=(c.sn.valid.Rx p).one t;rcases ada c p t with⟨e,d⟩|⟨e,d⟩|⟨e,d⟩
 ·exact⟨fun z=>by omega,fun z=>absurd z d⟩
 ·exact⟨fun _=>d,fun _=>e⟩
 ·exact⟨fun z=>by omega,fun z=>by have:=this _ _ z d;cases this⟩
def avs(c:Pg N h L g)(i:Int):((bz L i).s=1->jI g.fa i (bz L i).t=0)/\((bz L i).s=2->jI g.fa i (bz L i).t=1)/\((bz L i).s=3->jI g.fa i (bz L i).t=0\/jI g.fa i (bz L i).t=2):=by
 have d:=c.sn.valid.Rx i;refine⟨fun z=>?_,fun z=>?_,fun z=>?_⟩
 ·rcases ada c i (bz L i).t with⟨e,_⟩|⟨_,h⟩|⟨_,h⟩
  ·exact e
  ·have:=d.le _ _ h;omega
  ·have:=d.le _ _ h;omega
 ·have:=d.now (by omega);rw[z]at this;exact(Yb c).2 this
 ·have hd:=d.now (by omega);rw[z]at hd;rcases ada c i (bz L i).t with⟨e,_⟩|⟨_,h⟩|⟨e,_⟩
  ·exact .inl e
  ·have:=d.one _ _ _ h hd;cases this
  ·exact .inr e
def ajC(s:aH):∀k,k<=s.es.length->(s.bn 0 k).map (fun r=>(r.p,r.s))=((s.es.take k).filter s.DL).map fun e=>(e.p,e.s)
 |0,_=>by simp[aH.bn]
 |k+1,hk=>by
  have he:=eY (show k<s.es.length by omega);rw[aH.GV s<|mi k,Oe,ajC s k<|by omega,AP,he,zD,Oe];congr 1;unfold aH.pick;rw[he];simp only[EX];cases hp:s.DL s.es[k]<;>simp[hp]
def Pg.ajD(c:Pg N h L g){p:PL}(hp:h.pl[q]? =ae p):(g.wr.filter fun w=>decide (w.q=(q:Int))&&decide (jI g.fa w.p w.t=1)).map (fun w=>(w.p,w.s))=(p.s.bn 0 p.s.dC).map (fun r=>(r.p,r.s))++((p.s.es.drop p.s.dC).filter fun e=>decide (e.k=1)&&decide (jI g.fa e.p e.t=1)).map fun e=>(e.p,e.s):=by
 have k:=c.sn.ed q p hp;have aAp:=anD k.inv;have hS:=p.s.Oo;have e1:(p.s.es.take p.s.dC).filter p.s.DL=(p.s.es.take p.s.dC).filter fun e=>decide (e.k=1)&&decide (jI g.fa e.p e.t=1):=by
  refine Ob fun e he=>?_;unfold aH.DL;by_cases h1:e.k=1
  ·simp only[h1,decide_true,Bool.true_and];obtain⟨i,hi,hie⟩:=List.mem_iff_getElem.1 he;have lL:i<p.s.dC:=by
    have:=hi;rw[EY]at this;omega
   have NT:p.s.es[i]? =ae e:=by
    rw[List.getElem_take]at hie;rw[<-hie];exact eY _
   obtain⟨qq,st⟩:=aAp i e lL NT h1;have avt:oz p.s.es e.p e.t=ae qq:=st.oz;obtain⟨m,x,_,hxm,Kw⟩:=st.late;have hx:=gz hxm;have hxk:=st.all x hx Kw;have hd:=k.dec x hx Kw.1;rw[Kw.2.1,Kw.2.2,hxk]at hd;rw[avt];by_cases h2:qq=2
   ·subst h2;have:jI g.fa e.p e.t=1:=(Yb c).2 hd;simp[this]
   ·have IM:gm L e.p e.t false:=by simpa[h2]using hd
    have:jI g.fa e.p e.t≠1:=fun z=>by
     have:=(c.sn.valid.Rx e.p).one _ _ _ ((Yb c).1 z) IM;cases this
    simp[this,h2]
  ·simp[h1]
 have e2:(g.wr.filter fun w=>decide (w.q=(q:Int))&&decide (jI g.fa w.p w.t=1)).map (fun w=>(w.p,w.s))=(p.s.es.filter fun e=>decide (e.k=1)&&decide (jI g.fa e.p e.t=1)).map fun e=>(e.p,e.s):=by
  have hd:=c.wr q p hp;have h1:(p.s.es.filter fun e=>decide (e.k=1)&&decide (jI g.fa e.p e.t=1))=p.s.data.filter fun e=>decide (jI g.fa e.p e.t=1):=by
   unfold aH.data;rw[aff];exact Ob fun e _=>Bool.and_comm _ _
  rw[h1,hd,List.filter_map,List.map_map,aff];have h2:(g.wr.filter fun w=>decide (w.q=(q:Int))&&decide (jI g.fa w.p w.t=1))=g.wr.filter fun a=>((fun e:iy=>decide<|jI g.fa e.p e.t=1)∘Wn.Ya) a&&decide (a.q=(q:Int)):=Ob fun w _=>Bool.and_comm _ _;rw[h2];rfl
 rw[e2,ajC p.s p.s.dC hS,e1,<-Oe,<-zD,aag]
def Pg.avu(c:Pg N h L g){p:PL}(hp:h.pl[q]? =ae p):∃rest,(g.wr.filter fun w=>decide (w.q=(q:Int))&&decide (jI g.fa w.p w.t=1)).map (fun w=>(w.p,w.s))=(p.s.bn 0 p.s.dC).map (fun r=>(r.p,r.s))++rest:=⟨_,c.ajD hp⟩
end
end
section
section
variable{N M:Nat}{h h':HS}{L L':List Rc}{g:PG}
def Pg.mono(c:Pg N h L g)(hM:N<=M):Pg M h L g:=⟨c.sn.mono hM,c.ep,c.ee,c.dn,c.wr,c.fa,c.fc,c.gl,c.sl,c.bn⟩
def Pg.step(c:Pg N h L g)(sn:Sn M h' L')(hP:h'.P=h.P)(hu:h'.up=h.up)(gr:tN h.pl h'.pl)(he:∀i,(bz L' i).e=(bz L i).e)(hd:∀p t b,gm L p t b->gm L' p t b)(IM:∀p t,gm L' p t true->gm L p t true):Pg M h' L' g:=by
 have back:∀(q:Nat) (p':PL),h'.pl[q]? =ae p'->∃p,h.pl[q]? =ae p/\Gw p p':=fun q p' hq=>by
  have hl:q<h.pl.length:=by rw[<-gr.1];exact(dM.1 hq).1
  obtain⟨p2,h2,gw⟩:=gr.2 q _<|eY hl;rw[hq]at h2;cases h2;exact⟨_,eY hl,gw⟩
 refine⟨sn,by rw[hP];exact c.ep,fun i e hi=>by rw[he];exact c.ee i e hi,by rw[hu];exact c.dn,fun q p' hq=>?_,fun f hf=>(c.fa f hf).imp (fun z=>⟨z.1,hd _ _ _ z.2⟩) fun z=>⟨z.1,hd _ _ _ z.2⟩,fun p t z=>c.fc p t<|IM p t z,by rw[gr.1];exact c.gl,by rw[gr.1];exact c.sl,fun q p' hq=>?_⟩
 ·obtain⟨p,hp,gw⟩:=back q p' hq;rw[gw.data];exact c.wr q p hp
 ·obtain⟨p,hp,gw⟩:=back q p' hq;obtain⟨s0,e0,e1,e2⟩:=c.bn q p hp;exact⟨s0,e0.trans gw.ext,e1,e2⟩
variable{r:Rc}{p t:Int}{i q:Nat}
def Yc(L:List Rc)(hr:r.k≠1)(i:Int):(bz (L++[r]) i).e=(bz L i).e:=by
 rw[xJ];unfold St.step;simp only[if_neg hr];repeat' split
 all_goals rfl
def Qt.e(q:Qt L L')(i:Int):(bz L' i).e=(bz L i).e:=by
 obtain⟨l,rfl,hl⟩:=q;induction l generalizing L with
 |nil=>rw[ql]
 |cons r l ih=>
  rw[show L++r::l=(L++[r])++l by simp,ih (L:=L++[r]) (fun x hx=>hl x<|by simp[hx]),Yc L (by have:=hl r (by simp);omega)]
def Qt.dec(q:Qt L L'):gm L' p t true->gm L p t true:=by
 obtain⟨l,rfl,hl⟩:=q;rintro⟨r,hr,h1,h2,h3,h4⟩;rcases oP.1 hr with hr|hr
 ·exact⟨r,hr,h1,h2,h3,h4⟩
 ·have:=hl r hr;simp only[if_true]at h4;omega
def Qt.more(q:Qt L L'){b:Bool}(d:gm L p t b):gm L' p t b:=by
 obtain⟨l,rfl,_⟩:=q;exact d.more l
def Pg.Eh(c:Pg N h L g)(sn:Sn M h' L')(w:uH h L h' L'):Pg M h' L' g:=c.step sn w.P w.up w.grow w.qt.e (fun _ _ _ d=>w.qt.more d) fun _ _ d=>w.qt.dec d
def Pg.avv(c:Pg N h L g){i:Int}(hd:gm L i t false):Pg N h L {g with fa:=g.fa++[⟨i,t,2⟩]}:=
 ⟨c.sn,c.ep,c.ee,c.dn,c.wr,fun f hf=>by
  rcases oP.1 hf with hf|hf
  ·exact c.fa f hf
  ·rw[oN.1 hf];exact .inr ⟨rfl,hd⟩,fun p t d=>by
  obtain⟨f,hf,e⟩:=c.fc p t d;exact⟨f,KT _ hf,e⟩,c.gl,c.sl,c.bn⟩
def Pg.ended(c:Pg N h L g){cm:Bool}(sn:Sn M h' (L++[⟨3,i,if cm then 1 else 0,t⟩]))(hP:h'.P=h.P)(hu:h'.up=h.up)(iR:h'.pl=h.pl):Pg M h' (L++[⟨3,i,if cm then 1 else 0,t⟩]) {g with fa:=g.fa++[⟨i,t,if cm then 1 else 2⟩]}:=by
 have Ae:gm (L++[⟨3,i,if cm then 1 else 0,t⟩]) i t cm:=⟨⟨3,i,if cm then 1 else 0,t⟩,aah _<|oN.2 rfl,rfl,rfl,rfl,rfl⟩;refine⟨sn,by rw[hP];exact c.ep,fun j e hj=>by rw[Yc L<|by simp];exact c.ee j e hj,by rw[hu];exact c.dn,fun q p hq=>c.wr q p (by rw[<-iR];exact hq),fun f hf=>?_,fun p t' d=>?_,by rw[iR];exact c.gl,by rw[iR];exact c.sl,fun q p hq=>c.bn q p (by rw[<-iR];exact hq)⟩
 ·rcases oP.1 hf with hf|hf
  ·exact(c.fa f hf).imp (fun z=>⟨z.1,z.2.snoc _⟩) fun z=>⟨z.1,z.2.snoc _⟩
  ·rw[oN.1 hf];cases cm
   ·exact .inr ⟨rfl,Ae⟩
   ·exact .inl ⟨rfl,Ae⟩
 ·rcases d.DX with d|⟨_,h2,h3,_⟩
  ·obtain⟨f,hf,e⟩:=c.fc p t' d;exact⟨f,KT _ hf,e⟩
  ·exact⟨⟨i,t,if cm then 1 else 2⟩,aah _<|oN.2 rfl,h2,h3⟩
def Pg.avw(c:Pg N h L g){e0:Int}(hi:g.ep[i]? =ae e0)(sn:Sn M h' (L++[⟨1,i,0,e0+1⟩]))(hP:h'.P=h.P)(hu:h'.up=h.up)(iR:h'.pl=h.pl):Pg M h' (L++[⟨1,i,0,e0+1⟩]) {g with ep:=g.ep.set i<|e0+1}:=by
 have old:∀{p t b},gm (L++[⟨1,i,0,e0+1⟩]) p t b->gm L p t b:=fun d=>d.DX.resolve_right (fun z=>by have:=z.1;simp at this);refine⟨sn,by rw[hP,zF];exact c.ep,fun j e hj=>?_,by rw[hu];exact c.dn,fun q p hq=>c.wr q p (by rw[<-iR];exact hq),fun f hf=>(c.fa f hf).imp (fun z=>⟨z.1,z.2.snoc _⟩) fun z=>⟨z.1,z.2.snoc _⟩,fun p t d=>c.fc p t<|old d,by rw[iR];exact c.gl,by rw[iR];exact c.sl,fun q p hq=>c.bn q p (by rw[<-iR];exact hq)⟩;rw[xJ];rcases Cc hj with⟨rfl,rfl⟩|⟨dh,Dk⟩
 ·have:=(c.ee j e0 hi).2;exact⟨by simp[St.step],by omega⟩
 ·rw[St.GZ _ (by show(i:Int)≠j;omega)];exact c.ee j e Dk
def Pg.add(c:Pg N h L g)(hr:r.k=2)(sn:Sn M h' (L++[r]))(hP:h'.P=h.P)(hu:h'.up=h.up)(gr:tN h.pl h'.pl):Pg M h' (L++[r]) g:=
 c.step sn hP hu gr (Yc L<|by omega) (fun _ _ _ d=>d.snoc r) fun _ _ d=>d.DX.resolve_right fun z=>by have:=z.1;omega
def Pg.same(c:Pg N h L g)(sn:Sn M h' L)(hP:h'.P=h.P)(hu:h'.up=h.up)(gr:tN h.pl h'.pl):Pg M h' L g:=c.step sn hP hu gr (fun _=>rfl) (fun _ _ _ d=>d) fun _ _ d=>d
def Pg.abort(c:Pg N h L g)(sn:Sn M h' (L++[⟨3,i,0,t⟩]))(hP:h'.P=h.P)(hu:h'.up=h.up)(iR:h'.pl=h.pl):Pg M h' (L++[⟨3,i,0,t⟩]) g:=
 c.step sn hP hu (by rw[iR];exact .refl _) (Yc L<|by simp) (fun _ _ _ d=>d.snoc _) fun _ _ d=>(Qt.one (L:=L) (r:=⟨3,i,0,t⟩)<|.inr ⟨rfl,rfl⟩).dec d
def Pg.put(c:Pg N h L g){p:PL}{ts:ByteArray}{p':PL}(hp:h.pl[q]? =ae p)(sn:Sn M h' L)(hP:h'.P=h.P)(hu:h'.up=h.up)(iR:h'.pl=h.pl.set q p')(hd:p'.s.data=p.s.data++[⟨1,i,t,ts⟩])(ext:Ext p.s p'.s):Pg M h' L {g with wr:=g.wr++[⟨q,i,t,ts⟩]}:=by
 refine⟨sn,by rw[hP];exact c.ep,c.ee,by rw[hu];exact c.dn,fun j a ha=>?_,c.fa,c.fc,by rw[iR,zF];exact c.gl,by rw[iR,zF];exact c.sl,fun j a ha=>?_⟩
 ·rw[iR]at ha;show a.s.data=((g.wr++[(⟨q,i,t,ts⟩:Wn)]).filter fun w:Wn=>decide<|w.q=(j:Int)).map Wn.Ya;rw[zD,Oe];rcases Cc ha with⟨rfl,rfl⟩|⟨dh,ha'⟩
  ·rw[hd,c.wr j p hp];simp[Wn.Ya]
  ·rw[c.wr j a ha'];have:¬((q:Int)=j):=by omega
   simp[this]
 ·rw[iR]at ha;rcases Cc ha with⟨rfl,rfl⟩|⟨_,ha'⟩
  ·obtain⟨s0,e0,e1,e2⟩:=c.bn j p hp;exact⟨s0,e0.trans ext,e1,e2⟩
  ·exact c.bn j a ha'
def Pg.looked(c:Pg N h L g){p:PL}(hp:h.pl[q]? =ae p):Pg N h L {g with gt:=g.gt.set q<|p.s.bn 0 p.s.dC,st:=g.st.set q p.s.dC}:=by
 have hl:=(dM.1 hp).1;refine⟨c.sn,c.ep,c.ee,c.dn,c.wr,c.fa,c.fc,by rw[zF];exact c.gl,by rw[zF];exact c.sl,fun j a ha=>?_⟩;by_cases e:q=j
 ·subst e;rw[hp]at ha;cases ha;exact⟨p.s,.refl _,mQ (by rw[c.gl];exact hl),mQ (by rw[c.sl];exact hl)⟩
 ·obtain⟨s0,e0,e1,e2⟩:=c.bn j a ha;exact⟨s0,e0,by rw[uZ e];exact e1,by rw[uZ e];exact e2⟩
def Pg.PN(c:Pg N h L g):Pg N h.qY L {g with dn:=true}:=⟨c.sn.PN,c.ep,c.ee,rfl,c.wr,c.fa,c.fc,c.gl,c.sl,c.bn⟩
def Pg.MI(c:Pg N h L g)(jv:az):Pg N (h.DV jv L) L {g with dn:=false}:=⟨c.sn.MI jv,c.ep,c.ee,rfl,c.wr,c.fa,c.fc,c.gl,c.sl,c.bn⟩
end
end
section
def Wn.cs(x:Wn):List Value:=[ag ah x.q,ag ah x.p,ag ah x.t,dA x.s]
def Fa.cs(x:Fa):List Value:=[ag ah x.p,ag ah x.t,ag ah x.o]
structure PV where
 ev:az
 wv:az
 fv:az
 gv:az
 sv:az
 gs:List az
def PV.fA(v:PV)(pb k:Nat):Prop:=k=pb\/v.ev.ownBlock=ae k\/v.wv.ownBlock=ae k\/v.fv.ownBlock=ae k\/v.gv.ownBlock=ae k\/v.sv.ownBlock=ae k\/∃u∈v.gs,u.ownBlock=ae k
structure gQ(w:aj)(B pb xb:Nat)(h:HS)(g:PG)(v:PV):Prop where
 blk:w.heap[pb]? =ae (aC #[ay<|ae ⟨xb,0,af⟩,ag ah h.P,ag ah h.Q,ag ah h.T,ag ah h.K,v.ev,aB g.dn,v.wv,v.fv,v.gv,v.sv] 48 (0,0))
 ep:w.ownsRow B 3 1 v.ev g.ep.length (gy g.ep)
 wr:w.ownsRow B 66 4 v.wv g.wr.length (g.wr.flatMap Wn.cs)
 fa:w.ownsRow B 114 3 v.fv g.fa.length (g.fa.flatMap Fa.cs)
 gt:w.ownsRow B 67 1 v.gv v.gs.length v.gs
 gl:v.gs.length=g.gt.length
 rc:∀(q:Nat) (u:az) (l:List Rec),v.gs[q]? =ae u->g.gt[q]? =ae l->w.ownsRow B 94 3 u l.length (qJ l)
 st:w.ownsRow B 3 1 v.sv g.st.length (gy<|g.st.map Int.ofNat)
 ap:∀k,v.ev.ownBlock=ae k->v.sv.ownBlock≠ae k
 hb:B<=pb
section
variable{w w':aj}{B pb xb n:Nat}{h:HS}{g:PG}{v:PV}
variable{u:az}{k wd m:Nat}{ty:dw}
def gQ.ajE(a:gQ w B pb xb h g v)(hu:u∈v.gs):∃l:List Rec,w.ownsRow B 94 3 u l.length (qJ l):=by
 obtain⟨q,hq⟩:=VN.1 hu;have hl:q<g.gt.length:=by rw[<-a.gl];exact(dM.1 hq).1
 exact⟨_,a.rc q u _ hq<|eY hl⟩
def gQ.stay{S:Nat->Prop}(a:gQ w B pb xb h g v)(f:Fr S w w')(hS:∀k,S k->v.fA pb k->False):gQ w' B pb xb h g v:=
 ⟨(f.block pb (aX a.blk) fun e=>hS _ e<|.inl rfl).trans a.blk,f.ownsRow a.ep fun k hk e=>hS k e<|.inr<|.inl hk,f.ownsRow a.wr fun k hk e=>hS k e<|.inr<|.inr<|.inl hk,f.ownsRow a.fa fun k hk e=>hS k e<|.inr<|.inr<|.inr<|.inl hk,f.ownsRow a.gt fun k hk e=>hS k e<|.inr<|.inr<|.inr<|.inr<|.inl hk,a.gl,fun q u l h1 h2=>f.ownsRow (a.rc q u l h1 h2) fun k hk e=>hS k e<|.inr<|.inr<|.inr<|.inr<|.inr<|.inr ⟨u,gz h1,hk⟩,f.ownsRow a.st fun k hk e=>hS k e<|.inr<|.inr<|.inr<|.inr<|.inr<|.inl hk,a.ap,a.hb⟩
def gQ.after(a:gQ w B pb xb h g v)(f:Fr aP w w'):gQ w' B pb xb h g v:=a.stay f fun _ e _=>e
def gQ.qK(a:gQ w B pb xb h g v)(hk:v.fA pb k):k<w.heap.size/\B<=k:=by
 rcases hk with rfl|hk|hk|hk|hk|hk|⟨u,hu,hk⟩
 ·exact⟨aX a.blk,a.hb⟩
 ·exact(a.ep.lt k hk).symm
 ·exact(a.wr.lt k hk).symm
 ·exact(a.fa.lt k hk).symm
 ·exact(a.gt.lt k hk).symm
 ·exact(a.st.lt k hk).symm
 ·obtain⟨l,hl⟩:=a.ajE hu;exact(hl.lt k hk).symm
def gQ.tags(a:gQ w B pb xb h g v)(hk:v.fA pb k):tag w k=48\/tag w k=3\/tag w k=66\/tag w k=114\/tag w k=67\/tag w k=94:=by
 rcases hk with rfl|hk|hk|hk|hk|hk|⟨u,hu,hk⟩
 ·exact .inl<|lM a.blk
 ·exact .inr<|.inl<|iK a.ep hk
 ·exact .inr<|.inr<|.inl<|iK a.wr hk
 ·exact .inr<|.inr<|.inr<|.inl<|iK a.fa hk
 ·exact .inr<|.inr<|.inr<|.inr<|.inl<|iK a.gt hk
 ·exact .inr<|.inl<|iK a.st hk
 ·obtain⟨l,hl⟩:=a.ajE hu;exact .inr<|.inr<|.inr<|.inr<|.inr<|iK hl hk
def aF.tags(a:aF w B xb n h)(hk:h.fA xb k):tag w k=111\/tag w k=5\/tag w k=98\/tag w k=119\/tag w k=163\/tag w k=1000000\/tag w k=55:=by
 rcases hk with rfl|hk|hk|hk|⟨p,hp,hk⟩
 ·exact .inl<|lM a.blk
 ·exact .inr<|.inl<|iK a.kT hk
 ·exact .inr<|.inr<|.inl<|iK a.jU hk
 ·exact .inr<|.inr<|.inr<|.inl<|iK a.mV hk
 ·have l:=a.ed p hp;rcases hk with rfl|rfl|hk
  ·exact .inr<|.inr<|.inr<|.inr<|.inl<|lM l.blk
  ·exact .inr<|.inr<|.inr<|.inr<|.inr<|.inl<|afS l.map
  ·exact .inr<|.inr<|.inr<|.inr<|.inr<|.inr<|iK l.row hk
def aF.off(a:aF w B xb n h)(b:gQ w B pb xb h g v)(h1:h.fA xb k)(h2:v.fA pb k):False:=by
 have:=a.tags h1;have:=b.tags h2;omega
def ajF{α:Type}(cs:α->List az)(wd:Nat)(hw:∀a,(cs a).length=wd):∀(l:List α) (k:Nat) (e:α) (j:Nat),l[k]? =ae e->j<wd->(l.flatMap cs)[k*wd+j]? =(cs e)[j]?
 |[],k,e,j,h,_=>by simp at h
 |x::r,0,e,j,h,hj=>by
  simp only[xE,gu]at h;subst h;simp only[oO,Nat.zero_mul,DK];exact uz (by rw[hw];exact hj)
 |x::r,k+1,e,j,h,hj=>by
  simp only[zB]at h;have:=ajF cs wd hw r k e j h hj;rw[oO,xC (by rw[hw,Nat.add_mul];omega),<-this];congr 1;rw[hw,Nat.add_mul];omega
def Ip{α:Type}{cs:α->List az}(hw:∀a,(cs a).length=wd){l:List α}{g' cap:Nat}(ho:w.ownsRow B ty wd (aJ (ae ⟨g',0,af⟩) m cap) l.length (l.flatMap cs)){e:α}(hk:l[k]? =ae e){j:Nat}(hj:(cs e)[j]? =ae u):w.cell? ⟨g',k*wd+j,af⟩=ae u:=by
 have hjw:j<wd:=by rw[<-hw e];exact(dM.1 hj).1
 have:=ho.cells (g:=g') rfl (k*wd+j) u<|(ajF cs wd hw l k e j hk hjw).trans hj;rw[aEn]at this;simpa using this
def vN{xs:List az}(ho:w.ownsRow B ty wd u m xs)(hm:0<m):∃g' cap,u=aJ (ae ⟨g',0,af⟩) m cap/\g'<w.heap.size/\m<=cap/\cap<=dU/\B<=g':=by
 rcases ho.2 with⟨_,h0⟩|⟨g',cap,cur,hv,hb,hg,h1,h2,_⟩
 ·omega
 ·exact⟨g',cap,hv,aX hg,h1,h2,hb⟩
end
structure dB where
 h:HS
 L:List Rc
 g:PG
 v:PV
def dB.fA(s:dB)(pb xb k:Nat):Prop:=s.h.fA xb k\/s.v.fA pb k
structure bH(w:aj)(B pb xb N:Nat)(s:dB):Prop where
 ha:aF w B xb N s.h
 ax:iP s.h.pl
 pa:gQ w B pb xb s.h s.g s.v
 pg:Pg N s.h s.L s.g
 wr:s.g.wr.length<=N
 fa:s.g.fa.length<=N
structure bW(w w':aj)(B pb xb:Nat)(s:dB)(N:Nat)(s':dB):Prop where
 at_:bH w' B pb xb N s'
 fr:Fr (s.fA pb xb) w w'
 sub:∀k,s'.fA pb xb k->s.fA pb xb k\/w.heap.size<=k
 cf:s'.h.P=s.h.P/\s'.h.Q=s.h.Q/\s'.h.T=s.h.T/\s'.h.K=s.h.K
section
variable{w w1 w':aj}{B pb xb N M:Nat}{s s1 s':dB}
def bH.mono(a:bH w B pb xb N s)(hM:N<=M):bH w B pb xb M s:=⟨a.ha.mono hM,a.ax,a.pa,a.pg.mono hM,eG a.wr hM,eG a.fa hM⟩
def bH.after(a:bH w B pb xb N s)(f:Fr aP w w'):bH w' B pb xb N s:=⟨a.ha.after f,a.ax,a.pa.after f,a.pg,a.wr,a.fa⟩
def bH.lt(a:bH w B pb xb N s){k:Nat}(hk:s.fA pb xb k):k<w.heap.size/\B<=k:=hk.elim (fun z=>a.ha.qK z) fun z=>a.pa.qK z
def bW.mono(a:bW w w' B pb xb s N s')(hM:N<=M):bW w w' B pb xb s M s':=⟨a.at_.mono hM,a.fr,a.sub,a.cf⟩
def bW.after(a:bW w w1 B pb xb s N s')(f:Fr aP w1 w'):bW w w' B pb xb s N s':=⟨a.at_.after f,a.fr.trans f fun _ h=>h.elim,a.sub,a.cf⟩
def bW.behind(f:Fr aP w w1)(a:bW w1 w' B pb xb s N s'):bW w w' B pb xb s N s':=⟨a.at_,(f.mono fun _ h=>h.elim).trans a.fr fun _=>.inl,fun k hk=>(a.sub k hk).imp id fun e=>eG f.size e,a.cf⟩
def bW.trans(a:bW w w1 B pb xb s M s1)(t:bW w1 w' B pb xb s1 N s'):bW w w' B pb xb s N s':=
 ⟨t.at_,a.fr.trans t.fr fun k hk=>a.sub k hk,fun k hk=>by
  rcases t.sub k hk with e|e
  ·exact a.sub k e
  ·exact .inr<|eG a.fr.size e,⟨t.cf.1.trans a.cf.1,t.cf.2.1.trans a.cf.2.1,t.cf.2.2.1.trans a.cf.2.2.1,t.cf.2.2.2.trans a.cf.2.2.2⟩⟩
def bW.refl(a:bH w B pb xb N s):bW w w B pb xb s N s:=⟨a,Fr.refl _ _,fun _ h=>.inl h,rfl,rfl,rfl,rfl⟩
def bW.still(a:bH w B pb xb N s)(f:Fr aP w w'):bW w w' B pb xb s N s:=(bW.refl a).after f
def bW.dL(a:bH w B pb xb M s)(t:bW w w' B pb xb s N s'):Fr (fun k=>B<=k) w w':=t.fr.mono fun _ hk=>.inl (a.lt hk).2
def bW.avy(a:bH w B pb xb N s){n':Nat}{h':HS}{L':List Rc}(m:bU w w' B xb N s.h n' h')(hc:h'.P=s.h.P/\h'.Q=s.h.Q/\h'.T=s.h.T/\h'.K=s.h.K)(ax:iP h'.pl)(hn:n'<=M)(hM:N<=M)(pg:Pg M h' L' s.g):bW w w' B pb xb s M ⟨h',L',s.g,s.v⟩:=by
 have p1:=a.pa.stay m.fr fun k e hf=>a.ha.off a.pa e hf;refine⟨⟨m.at_.mono hn,ax,⟨?_,p1.ep,p1.wr,p1.fa,p1.gt,p1.gl,p1.rc,p1.st,p1.ap,p1.hb⟩,pg,eG a.wr hM,eG a.fa hM⟩,m.fr.mono fun _ e=>.inl<|.inl e,fun k hk=>?_,hc⟩
 ·obtain⟨e1,e2,e3,e4⟩:=hc;show _=ae (Obj.cells #[_,ag ah h'.P,ag ah h'.Q,ag ah h'.T,ag ah h'.K,_,_,_,_,_,_] 48 (0,0));rw[e1,e2,e3,e4];exact p1.blk
 ·rcases hk with hk|hk
  ·exact(m.sub k hk).imp .inl id
  ·exact .inl<|.inr hk
def bH.cells(a:bH w B pb xb N s):w.cell? ⟨pb,0,af⟩=ae (ay<|ae ⟨xb,0,af⟩)/\w.cell? ⟨pb,1,af⟩=ae (ag ah s.h.P)/\w.cell? ⟨pb,2,af⟩=ae (ag ah s.h.Q)/\w.cell? ⟨pb,5,af⟩=ae s.v.ev/\w.cell? ⟨pb,6,af⟩=ae (aB s.g.dn)/\w.cell? ⟨pb,7,af⟩=ae s.v.wv/\w.cell? ⟨pb,8,af⟩=ae s.v.fv/\w.cell? ⟨pb,9,af⟩=ae s.v.gv/\w.cell? ⟨pb,10,af⟩=ae s.v.sv:=
 have b:=a.pa.blk
 ⟨aK b 0,aK b 1,aK b 2,aK b 5,aK b 6,aK b 7,aK b 8,aK b 9,aK b 10⟩
end
end
section
def Fa.len(x:Fa):x.cs.length=3:=rfl
def Wn.len(x:Wn):x.cs.length=4:=rfl
def ajG{p t:Int}:∀{fs:List Fa} {k:Nat} {x:Fa},fs[k]? =ae x->x.is p t=true->(∀(j:Nat) y,j<k->fs[j]? =ae y->y.is p t=false)->jI fs p t=x.o
 |[],k,x,h,_,_=>by simp at h
 |a::fs,0,x,h,h1,_=>by
  simp only[xE,gu]at h;subst h;simp[jI,h1]
 |a::fs,k+1,x,h,h1,h2=>by
  have ha:=h2 0 a (by omega) rfl;simp only[zB]at h;have:=ajG h h1 fun j y hj hy=>h2 (j+1) y (by omega) (by simpa using hy);rw[<-this];simp[jI,ha]
def avz{p t:Int}{fs:List Fa}(h:∀(j:Nat) y,j<fs.length->fs[j]? =ae y->y.is p t=false):jI fs p t=0:=by
 have:fs.find? (Fa.is p t)=none:=List.find?_eq_none.2 fun x hx=>by
  obtain⟨j,hj⟩:=VN.1 hx;have:=h j x (dM.1 hj).1 hj;rw[this];simp
 simp[jI,this]
section
variable{w:aj}{B pb:Nat}
def adb{fs:List Fa}{v:az}(hr:w.ownsRow B 114 3 v fs.length (fs.flatMap Fa.cs))(c0:w.cell? ⟨pb,8,af⟩=ae v)(p t:Int):
 aU prog 18 #[ay<|ae ⟨pb,0,af⟩,ag ah p,ag ah t] w fun e w'=>e=aT (.int .i64<|jI fs p t)/\w=w':=by
 obtain⟨va,vc,rfl,hl⟩:=pq hr;unfold dU at hl;have H:Hid (w.ownsRow B 114 3 (.slice va fs.length vc) fs.length<|fs.flatMap Fa.cs):=hr;clear hr;go_enter func18,ntmps18
 go_wp2_with fail
 go_loop [7] (fun i=>∃k:Nat,k<=fs.length/\i=ag ah k/\∀(j:Nat) y,j<k->fs[j]? =ae y->y.is p t=false) (fun i=>fs.length-(fH i).toNat)
 case atStart=>exact⟨0,mi _,rfl,fun j x hj=>by omega⟩
 case round=>
  obtain⟨k,hk,rfl,jF⟩:=hrel
  have HA:Hid (∀(j:Nat) y,j<k->fs[j]? =ae y->y.is p t=false):=jF
  clear jF
  by_cases aI:k<fs.length
  ·obtain⟨x,hx⟩:∃x,fs[k]? =ae x:=⟨_,eY aI⟩
   have HX:Hid (fs[k]? =ae x):=hx
   obtain⟨g,cap,hv,hg,h1,h2,hb⟩:=vN H.o<|by omega
   simp only[aD6]at hv
   obtain⟨rfl,_,rfl⟩:=hv
   have r0:w.cell? ⟨g,k*3,af⟩=ae (ag ah x.p):=Ip Fa.len H.o hx (j:=0) rfl
   have r1:w.cell? ⟨g,k*3+1,af⟩=ae (ag ah x.t):=Ip Fa.len H.o hx (j:=1) rfl
   have r2:w.cell? ⟨g,k*3+2,af⟩=ae (ag ah x.o):=Ip Fa.len H.o hx (j:=2) rfl
   have zh:(k:Int)<(fs.length:Int):=by omega
   have uS:(0:Int)<=(k:Int):=by omega
   clear hx hg h2 hb
   have HN:Hid (x.is p t=false->∀(j:Nat) z,j<k+1->fs[j]? =ae z->z.is p t=false):=fun e j z hj hz=>by
    by_cases ej:j=k
    ·subst ej;have:=HX.o.symm.trans hz;cases this;exact e
    ·exact HA.o j z (by omega) hz
   by_cases e1:x.p=p
   ·have e1':(x.p==p)=true:=by simpa using e1
    by_cases e2:x.t=t
    ·have HM:Hid (x.is p t=true):=ac9.2 ⟨e1,e2⟩
     have e2':(x.t==t)=true:=by simpa using e2
     clear e1 e2
     go_wp2
     go_ret
     exact⟨by rw[ajG HX.o HM.o HA.o];rfl,rfl⟩
    ·have HM:Hid (x.is p t=false):=by show x.is p t=false;simp[Fa.is,e2]
     have e2':(x.t==t)=false:=by simpa using e2
     clear e1 e2
     go_wp2
     go_round
     case rel=>exact⟨k+1,by omega,by go_num,HN.o HM.o⟩
     case measure=>simp[fH]<;>omega
   ·have HM:Hid (x.is p t=false):=by show x.is p t=false;simp[Fa.is,e1]
    have e1':(x.p==p)=false:=by simpa using e1
    clear e1
    go_wp2
    go_round
    case rel=>exact⟨k+1,by omega,by go_num,HN.o HM.o⟩
    case measure=>simp[fH]<;>omega
  ·have HF:Hid (jI fs p t=0):=avz fun j y hj=>HA.o j y (by omega)
   go_wp2
   go_ret
   exact⟨by rw[HF.o];rfl,rfl⟩
end
end
section
def ajH:(prog.info? 114).map (fun i=>(i.zero,i.size,i.bytes))=ae (ae<|gY #[ag ah 0,ag ah 0,ag ah 0],3,24):=by kernel_rfl
section
variable{w w':aj}{B pb xb N:Nat}{s:dB}
def dB.fD(s:dB)(fa:List Fa)(fv:az):dB:=⟨s.h,s.L,{s.g with fa:=fa},{s.v with fv:=fv}⟩
variable{ty:dw}{wd m b i:Nat}{u iZ:az}{xs:List az}{w1 W:aj}{f:Fa}
def MJ{S:Nat->Prop}(ho:w.ownsRow B ty wd u m xs)(f:Fr S w w')(hS:∀k,S k->tag w k≠ty):w'.ownsRow B ty wd u m xs:=f.ownsRow ho fun k hk e=>hS k e<|iK ho hk
def PO(f:Fr aP w1 W)(vs:List az):Fr (fun k=>k=b) w1 (W.setCells b 0 vs):=Fr.setCells (S:=fun k=>k=b) (.inl rfl) vs 0<|f.mono fun _ h=>h.elim
def Yd{UK:dw}{cs:Array az}{fr:Nat×Nat}(ho:w.ownsRow B ty wd u m xs)(hb:w.heap[b]? =ae (.cells cs UK fr))(dh:UK≠ty):∀k,u.ownBlock=ae k->¬k=b:=fun k hk e=>by
 have h1:=iK ho hk;rw[e,lM hb]at h1;exact dh h1
def ajI{n:Nat}{L':List Rc}(ha:aF w B xb n s.h)(ax:iP s.h.pl)(b:gQ w B pb xb s.h s.g s.v)(yE:s.g.wr.length<=N)(VD:s.g.fa.length<=N)(hn:n<=N+1)(hW:Fr aP w W)(hg:W.grownBy w1 s.v.fv.ownBlock)(iO:w1.ownsRow B 114 3 iZ (s.g.fa.length+1) (s.g.fa.flatMap Fa.cs++f.cs))(dX:∀k,iZ.ownBlock=ae k->s.v.fv.ownBlock=ae k\/w.heap.size<=k)(pg:Pg (N+1) s.h L' {s.g with fa:=s.g.fa++[f]}):
 bW w (w1.setCell ⟨pb,8,af⟩ iZ) B pb xb s (N+1) ⟨s.h,L',{s.g with fa:=s.g.fa++[f]},{s.v with fv:=iZ}⟩:=by
 have f1:Fr (fun k=>s.v.fv.ownBlock=ae k) w w1:=(hW.mono fun _ h=>h.elim).grown hg fun k e=>.inl e;have f2:Fr (fun k=>k=pb\/s.v.fv.ownBlock=ae k) w (w1.setCell ⟨pb,8,af⟩ iZ):=(f1.mono fun k h=>.inl<|.inr h).setCell (.inl<|.inl rfl) _;have dh:s.v.fv.ownBlock≠ae pb:=GY b.fa b.blk (by decide);have b1:=(f1.block pb (aX b.blk) dh).trans b.blk;have ht:∀k,(k=pb\/s.v.fv.ownBlock=ae k)->tag w k=48\/tag w k=114:=fun k e=>e.imp (fun e=>by rw[e];exact lM b.blk) fun e=>iK b.fa e;have st:∀{ty:dw} {wd:Nat} {u:az} {m:Nat} {xs:List az},w.ownsRow B ty wd u m xs->ty≠48->ty≠114->(w1.setCell ⟨pb,8,af⟩ iZ).ownsRow B ty wd u m xs:=fun ho h1 h2=>MJ ho f2 fun k e e2=>(ht k e).elim (fun z=>h1<|e2.symm.trans z) fun z=>h2<|e2.symm.trans z;have hf:∀k,(k=pb\/s.v.fv.ownBlock=ae k)->s.fA pb xb k:=fun k e=>.inr<|e.imp id fun e=>.inr<|.inr<|.inl e;have hh:aF (w1.setCell ⟨pb,8,af⟩ iZ) B xb n s.h:=ha.stay f2 fun k e hk=>ha.off b hk<|e.imp id fun e=>.inr<|.inr<|.inl e;refine⟨⟨hh.mono hn,ax,⟨?_,st b.ep (by decide)<|by decide,st b.wr (by decide)<|by decide,?_,st b.gt (by decide)<|by decide,b.gl,fun q u l h1 h2=>st (b.rc q u l h1 h2) (by decide)<|by decide,st b.st (by decide)<|by decide,b.ap,b.hb⟩,pg,aak yE,?_⟩,f2.mono fun k e=>.inl<|hf k e,fun k hk=>?_,rfl,rfl,rfl,rfl⟩
 ·rw[jT b1];rfl
 ·have hr:Fr (fun k=>k=pb) w1 (w1.setCell ⟨pb,8,af⟩ iZ):=(Fr.refl (fun k=>k=pb) w1).setCell (p:=⟨pb,8,af⟩) (.inl rfl) _;have:=hr.ownsRow iO (fun k hk e=>by
   subst e;rcases dX _ hk with h1|h1
   ·exact dh h1
   ·have:=aX b.blk;omega)
  show World.ownsRow _ B 114 3 iZ (s.g.fa++[f]).length ((s.g.fa++[f]).flatMap Fa.cs);simpa using this
 ·have:=VD;show(s.g.fa++[f]).length<=N+1;simp<;>omega
 ·rcases hk with hk|hk|hk|hk|hk|hk
  ·exact .inl<|.inl hk
  ·exact .inl<|.inr<|.inl hk
  ·exact .inl<|.inr<|.inr<|.inl hk
  ·exact .inl<|.inr<|.inr<|.inr<|.inl hk
  ·rcases dX k hk with e|e
   ·exact .inl<|.inr<|.inr<|.inr<|.inr<|.inl e
   ·exact .inr e
  ·exact .inl<|.inr<|.inr<|.inr<|.inr<|.inr hk
def bH.fD(a:bH w B pb xb N s)(hW:Fr aP w W)(hg:W.grownBy w1 s.v.fv.ownBlock)(iO:w1.ownsRow B 114 3 iZ (s.g.fa.length+1) (s.g.fa.flatMap Fa.cs++f.cs))(dX:∀k,iZ.ownBlock=ae k->s.v.fv.ownBlock=ae k\/w.heap.size<=k)(pg:Pg N s.h s.L {s.g with fa:=s.g.fa++[f]}):
 bW w (w1.setCell ⟨pb,8,af⟩ iZ) B pb xb s (N+1) (s.fD (s.g.fa++[f]) iZ):=ajI a.ha a.ax a.pa a.wr a.fa (by omega) hW hg iO dX<|pg.mono<|by omega
def PQ(a:bH w B pb xb N s)(hi:(i:Int)<s.h.P)(hu:s.h.up=false):
 aU prog 22 #[ay<|ae ⟨pb,0,af⟩,ag ah i] w fun e w'=>e=aT (dK #[gY #[ag ah 0,ag ah 0,ag ah 0,aJ af 0 0,aJ af 0 0],aB true])/\Fr aP w w':=by
 have A:Hid (bH w B pb xb N s):=a;have HI:Hid (0<=(i:Int)/\(i:Int)<s.h.P):=⟨by omega,hi⟩;have HU:Hid (s.h.up=false):=hu;obtain⟨c0,_,_,_,c6,_⟩:=a.cells;have hd:s.g.dn=true:=by rw[a.pg.dn,hu];rfl
 rw[hd]at c6;have aI:=aX a.pa.blk;clear a hi hu hd;go_enter func22,ntmps22
 go_wp2_with (first
  |(go_at_call 30;refine(anZ (by exact A.o.ha.after<|bG _) HI.o HU.o).mono ?_;rintro e w1 ⟨rfl,bM⟩
    have F1:Hid (Fr aP w w1):=(bG _).trans bM fun _ h=>h.elim
    have B1:Hid (w1.heap[w.heap.size]? =ae (aC #[ag ah 0,ag ah 0,ag ah 0,aJ af 0 0,aJ af 0 0] 58 (0,0))):=(bM.block _ (by simp) id).trans<|aDY _ _
    have d6:=(F1.o.cell (p:=⟨pb,6,af⟩) aI id).trans c6
    have wu:pb<w1.heap.size:=fK aI F1.o.size
    clear bM)
  |(refine aEz rfl 58 _ _ rfl w.heap.size 0 #[ag ah 0,ag ah 0,ag ah 0,aJ af 0 0,aJ af 0 0] rfl rfl (Ld (((bG _).block _ (aX B1.o) id).trans B1.o)<|by simp) Jj (by simp[Value.oneCell']) ?_))
 refine aEk (Ji rfl _ _ _ 58 _ (0,0) _ rfl (Jh _ 0<|((bG _).block _ (aX B1.o) id).trans B1.o) underlying58 rfl Jj) rfl ?_;exact⟨rfl,(F1.o.trans (bG _) fun _ h=>h.elim).trans (Fr.setCells (S:=fun k=>k=w.heap.size) (.inl rfl) _ 0<|Fr.refl _ _) fun k hk=>.inr<|by omega⟩
def avA(a:bH w B pb xb N s)(hi:(i:Int)<s.h.P)(hu:s.h.up=true){x:PS}(hx:s.h.ps[i]? =ae x){e0:Int}(he:s.g.ep[i]? =ae e0)(xX:x.e=e0){f0:Int}(Gy:jI s.g.fa i x.t=f0)(bP:(x.s=0)\/(x.s=1/\f0=0)\/(x.s=2/\f0=1)\/(x.s=3/\f0=2)):
 aU prog 22 #[ay<|ae ⟨pb,0,af⟩,ag ah i] w fun e w'=>∃va vb,e=aT (dK #[gY #[ag ah x.e,ag ah x.t,ag ah x.s,va,vb],aB true])/\AX w w' va (bI x.aZ 1 4)/\AX w w' vb (bI x.aZ 2 4)/\Fr aP w w':=by
 obtain⟨ve,vt,vs,xa,wU,xc,xd,xi,xw,xg⟩:=x;simp only at xX Gy bP;subst xX;have A:Hid (bH w B pb xb N s):=a;have HI:Hid ((i:Int)<s.h.P):=hi;have HU:Hid (s.h.up=true):=hu;have HX:Hid (s.h.ps[i]? =ae ⟨ve,vt,vs,xa,wU,xc,xd,xi,xw,xg⟩):=hx;have MK:Hid (jI s.g.fa i vt=f0):=Gy;obtain⟨c0,_,_,c5,c6,_,c8,_⟩:=a.cells;have hd:s.g.dn=false:=by rw[a.pg.dn,hu];rfl
 rw[hd]at c6;have aI:=aX a.pa.blk;have oh:i<s.g.ep.length:=(dM.1 he).1;obtain⟨eg,iI,dS,oW,_,_,_⟩:=vN a.pa.ep (by omega);have dF:=a.pa.ep;rw[dS]at c5 dF;have ce:w.cell? ⟨eg,i,af⟩=ae (ag ah ve):=yH dF he;have zh:(i:Int)<(s.g.ep.length:Int):=by omega
 have uS:(0:Int)<=(i:Int):=by omega
 generalize AA:bI (⟨ve,vt,vs,xa,wU,xc,xd,xi,xw,xg⟩:PS).aZ 1 4=T1;generalize BL:bI (⟨ve,vt,vs,xa,wU,xc,xd,xi,xw,xg⟩:PS).aZ 2 4=T2;have HT1:Hid (bI (⟨ve,vt,vs,xa,wU,xc,xd,xi,xw,xg⟩:PS).aZ 1 4=T1):=AA;have Nl:Hid (bI (⟨ve,vt,vs,xa,wU,xc,xd,xi,xw,xg⟩:PS).aZ 2 4=T2):=BL;clear a hi hu hx hd he Gy dF dS AA BL oh;rcases bP with rfl|⟨rfl,rfl⟩|⟨rfl,rfl⟩|⟨rfl,rfl⟩;all_goals
  go_enter func22,ntmps22
  go_wp2_with (first
   |(go_at_call 30;refine(aaQ (by exact A.o.ha.after<|bG _) HI.o HU.o HX.o).mono ?_;rintro e w1 ⟨va,vb,rfl,sZ,I8,_,bM⟩
     simp only[HT1.o,Nl.o]at sZ I8
     obtain⟨aa,ac,rfl,_⟩:=kR sZ
     obtain⟨ba,bc,rfl,_⟩:=kR I8
     have F1:Hid (Fr aP w w1):=(bG _).trans bM fun _ h=>h.elim
     have VA:Hid (w1.ownsRow w.heap.size 3 1 (.slice aa T1.length ac) T1.length<|gy T1):=BO sZ<|by simp
     have VB:Hid (w1.ownsRow w.heap.size 3 1 (.slice ba T2.length bc) T2.length<|gy T2):=BO I8<|by simp
     have B1:Hid (w1.heap[w.heap.size]? =ae (aC #[ag ah 0,ag ah 0,ag ah 0,aJ af 0 0,aJ af 0 0] 58 (0,0))):=(bM.block _ (by simp) id).trans<|aDY _ _
     have d6:=(F1.o.cell (p:=⟨pb,6,af⟩) aI id).trans c6
     have d5:=(F1.o.cell (p:=⟨pb,5,af⟩) aI id).trans c5
     have d8:=(F1.o.cell (p:=⟨pb,8,af⟩) aI id).trans c8
     have de:=(F1.o.cell (p:=⟨eg,i,af⟩) oW id).trans ce
     have wu:pb<w1.heap.size:=fK aI F1.o.size
     have uT:eg<w1.heap.size:=fK oW F1.o.size
     clear bM sZ I8)
   |(go_at_call 18;refine(adb (B:=B) (fs:=s.g.fa) (v:=s.v.fv) (by exact((F1.o.trans (bG _) fun _ h=>h.elim).ownsRow A.o.pa.fa fun _ _=>id)) (by exact((bG _).cell (p:=⟨pb,8,af⟩) wu id).trans d8) _ _).mono ?_;rw[MK.o];rintro e w2 ⟨rfl,rfl⟩))
  go_quiet (fail)
  go_wp2_with (refine aEz rfl 58 _ _ rfl w.heap.size 0 #[ag ah ve,ag ah vt,ag ah _,.slice aa T1.length ac,.slice ba T2.length bc] rfl rfl (Ld ((((bG _).drewN _).block _ (aX B1.o) id).trans B1.o)<|by simp) Jj (by simp[Value.oneCell']) ?_)
  refine aEk (Ji rfl _ _ _ 58 _ (0,0) _ rfl (Jh _ 0<|(((bG _).drewN _).block _ (aX B1.o) id).trans B1.o) underlying58 rfl Jj) rfl ?_
  exact⟨_,_,rfl,(PO ((bG _).drewN _) _).ownsRow VA.o<|Yd VA.o B1.o<|by decide,(PO ((bG _).drewN _) _).ownsRow VB.o<|Yd VB.o B1.o<|by decide,F1.o.trans (PO ((bG _).drewN _) _) fun k hk=>.inr<|by omega⟩
end
end
section
def bW.boxed{w w1 w2:aj}{B pb xb N b:Nat}{s s':dB}(t:bW w w1 B pb xb s N s')(hb:w.heap.size<=b)(f:Fr (fun k=>k=b) w1 w2)(rQ:¬s'.fA pb xb b):bW w w2 B pb xb s N s':=
 ⟨⟨t.at_.ha.stay f fun k e hk=>rQ<|e▸.inl hk,t.at_.ax,t.at_.pa.stay f fun k e hk=>rQ<|e▸.inr hk,t.at_.pg,t.at_.wr,t.at_.fa⟩,t.fr.trans f (fun k e=>.inr<|by omega),t.sub,t.cf⟩
def bH.zV{w:aj}{B pb xb N b:Nat}{s:dB}(a:bH w B pb xb N s){cs:Array az}{ty:dw}{fr:Nat×Nat}(hb:w.heap[b]? =ae (.cells cs ty fr))(IK:[48,3,66,114,67,94,111,5,98,119,163,1000000,55].contains ty=false):¬s.fA pb xb b:=by
 rintro(hk|hk)
 ·have:=a.ha.tags hk;rw[lM hb]at this;rcases this with rfl|rfl|rfl|rfl|rfl|rfl|rfl<;>simp at IK
 ·have:=a.pa.tags hk;rw[lM hb]at this;rcases this with rfl|rfl|rfl|rfl|rfl|rfl<;>simp at IK
section
variable{w w':aj}{B pb xb N:Nat}{s s':dB}
def avC(a:bH w B pb xb N s){i:Nat}(hi:(i:Int)<s.h.P)(hu:s.h.up=true){x:PS}(hx:s.h.ps[i]? =ae x){e0:Int}(he:s.g.ep[i]? =ae e0)(xX:x.e=e0)(Gy:jI s.g.fa i x.t=0)(zk:x.s=3)(hN:N<=100000000)(pg:Pg N s.h s.L {s.g with fa:=s.g.fa++[⟨i,x.t,2⟩]}):
 aU prog 22 #[ay<|ae ⟨pb,0,af⟩,ag ah i] w fun e w'=>∃va vb,e=aT (dK #[gY #[ag ah x.e,ag ah x.t,ag ah x.s,va,vb],aB true])/\AX w w' va (bI x.aZ 1 4)/\AX w w' vb (bI x.aZ 2 4)/\∃iZ,bW w w' B pb xb s (N+1) (s.fD (s.g.fa++[⟨i,x.t,2⟩]) iZ):=by
 obtain⟨ve,vt,vs,xa,wU,xc,xd,xi,xw,xg⟩:=x;simp only at xX Gy zk pg;subst xX zk;obtain⟨i0,dR,iE,gG,iU⟩:=aEd ajH;have fF:Hid (N<=100000000):=hN;have PGG:Hid (Pg N s.h s.L {s.g with fa:=s.g.fa++[⟨i,vt,2⟩]}):=pg;clear hN pg;have A:Hid (bH w B pb xb N s):=a;have HI:Hid ((i:Int)<s.h.P):=hi;have HU:Hid (s.h.up=true):=hu;have HX:Hid (s.h.ps[i]? =ae ⟨ve,vt,3,xa,wU,xc,xd,xi,xw,xg⟩):=hx;have MK:Hid (jI s.g.fa i vt=0):=Gy;obtain⟨c0,_,_,c5,c6,_,c8,_⟩:=a.cells;have hd:s.g.dn=false:=by rw[a.pg.dn,hu];rfl
 rw[hd]at c6;have aI:=aX a.pa.blk;have oh:i<s.g.ep.length:=(dM.1 he).1;obtain⟨eg,iI,dS,oW,_,_,_⟩:=vN a.pa.ep (by omega);have dF:=a.pa.ep;have kU:Hid (s.v.ev=aJ (ae ⟨eg,0,af⟩) s.g.ep.length iI):=dS;have HE:Hid (s.g.ep[i]? =ae ve):=he;rw[dS]at c5 dF;have ce:w.cell? ⟨eg,i,af⟩=ae (ag ah ve):=yH dF he;have zh:(i:Int)<(s.g.ep.length:Int):=by omega
 have uS:(0:Int)<=(i:Int):=by omega
 generalize AA:bI (⟨ve,vt,3,xa,wU,xc,xd,xi,xw,xg⟩:PS).aZ 1 4=T1;generalize BL:bI (⟨ve,vt,3,xa,wU,xc,xd,xi,xw,xg⟩:PS).aZ 2 4=T2;have HT1:Hid (bI (⟨ve,vt,3,xa,wU,xc,xd,xi,xw,xg⟩:PS).aZ 1 4=T1):=AA;have Nl:Hid (bI (⟨ve,vt,3,xa,wU,xc,xd,xi,xw,xg⟩:PS).aZ 2 4=T2):=BL;clear a hi hu hx hd he Gy dF dS AA BL oh;obtain⟨fa,fc,pz,_⟩:=pq A.o.pa.fa;rw[pz]at c8;have Ef:Hid (s.v.fv=.slice fa s.g.fa.length fc):=pz;have zW:Hid (w.ownsRow B 114 3 (.slice fa s.g.fa.length fc) s.g.fa.length<|s.g.fa.flatMap Fa.cs):=by have:=A.o.pa.fa;rw[pz]at this;exact this
 have dh:Value.ownBlock (.slice fa s.g.fa.length fc)≠ae pb:=GY zW.o A.o.pa.blk (by decide);clear pz;go_enter func22,ntmps22
 go_wp2_with (first
  |(go_at_call 30;refine(aaQ (by exact A.o.ha.after<|bG _) HI.o HU.o HX.o).mono ?_;rintro e w1 ⟨va,vb,rfl,sZ,I8,_,bM⟩
    simp only[HT1.o,Nl.o]at sZ I8
    obtain⟨aa,ac,rfl,_⟩:=kR sZ
    obtain⟨ba,bc,rfl,_⟩:=kR I8
    have F1:Hid (Fr aP w w1):=(bG _).trans bM fun _ h=>h.elim
    have VA:Hid (w1.ownsRow w.heap.size 3 1 (.slice aa T1.length ac) T1.length<|gy T1):=BO sZ<|by simp
    have VB:Hid (w1.ownsRow w.heap.size 3 1 (.slice ba T2.length bc) T2.length<|gy T2):=BO I8<|by simp
    have B1:Hid (w1.heap[w.heap.size]? =ae (aC #[ag ah 0,ag ah 0,ag ah 0,aJ af 0 0,aJ af 0 0] 58 (0,0))):=(bM.block _ (by simp) id).trans<|aDY _ _
    have d6:=(F1.o.cell (p:=⟨pb,6,af⟩) aI id).trans c6
    have d5:=(F1.o.cell (p:=⟨pb,5,af⟩) aI id).trans c5
    have d8:=(F1.o.cell (p:=⟨pb,8,af⟩) aI id).trans c8
    have de:=(F1.o.cell (p:=⟨eg,i,af⟩) oW id).trans ce
    have wu:pb<w1.heap.size:=fK aI F1.o.size
    have uT:eg<w1.heap.size:=fK oW F1.o.size
    clear bM sZ I8)
  |(go_at_call 18;refine(adb (B:=B) (fs:=s.g.fa) (v:=.slice fa s.g.fa.length fc) (by exact((F1.o.trans (bG _) fun _ h=>h.elim).ownsRow zW.o fun _ _=>id)) (by exact((bG _).cell (p:=⟨pb,8,af⟩) wu id).trans d8) _ _).mono ?_;rw[MK.o];rintro e w2 ⟨rfl,rfl⟩))
 have ZW:Hid (∃W:aj,W=w1.alloc (aC #[ag ah ve,ag ah vt,ag ah 3,.slice aa T1.length ac,.slice ba T2.length bc] 58)):=⟨_,rfl⟩;obtain⟨W,eW⟩:=ZW.o;rw[<-eW];have iH:Hid (Fr aP w1 W):=by subst eW;exact bG _
 have T6:Hid (W.heap[w1.heap.size]? =ae (aC #[ag ah ve,ag ah vt,ag ah 3,.slice aa T1.length ac,.slice ba T2.length bc] 58 (0,0))):=by subst eW;exact aDY _ _
 have FW:Hid (Fr aP w W):=F1.o.trans iH.o fun _ h=>h.elim;clear ZW eW;have q8:W.cell? ⟨pb,8,af⟩=ae (.slice fa s.g.fa.length fc):=(FW.o.cell (p:=⟨pb,8,af⟩) aI id).trans c8;have q1:W.cell? ⟨w1.heap.size,1,af⟩=ae (ag ah vt):=aK T6.o 1;have hwW:pb<W.heap.size:=fK aI FW.o.size;have PBW:Hid (W.heap[pb]? =w.heap[pb]?):=FW.o.block pb aI id;have f8:W.frozen? ⟨pb,8,af⟩=false:=jS (PBW.o.trans A.o.pa.blk) 8;have f9:∀o,(W.alloc o).frozen? ⟨pb,8,af⟩=false:=fun o=>(KZ hwW o).trans f8;have BB:Hid (s.g.fa.length<=N):=A.o.fa;go_region_law
  ((refine aEt _ (by rfl) _ _ _ (by rfl) B 114 i0 _ 3 24 underlying45 dR iE gG iU rfl (by omega) (.slice fa s.g.fa.length fc) s.g.fa.length (s.g.fa.flatMap Fa.cs) (by rfl) (by first|exact((FW.o.alloc _).drew).ownsRow zW.o (fun _ _=>id)|exact((FW.o.drew).alloc _).ownsRow zW.o fun _ _=>id)
     ⟨W.heap.size,0,af⟩ 1 1 [ag ah i,ag ah vt,ag ah 2] (by rfl) (by rfl) (aD7 (cs:=#[ag ah i,ag ah vt,ag ah 2]) (t:=114) (fr:=(0,0)) (by first|exact aDY _ _|exact QQ _ _ _)) (by simp[Value.oneCell'])
     (by omega) (by have:=fF.o;have:=BB.out;simp only[dU];omega) (by have:=fF.o;have:=BB.out;omega) (by have:=A.o.pa.hb;simp<;>omega) (W.heap.size+1) (by simp) ?_;intro gg cap w3 pY mO vk uk;have k0:=(mO.cell_far ⟨pb,8,af⟩ (by simp<;>omega)<|iW dh);have k1:=(mO.frozen_far ⟨pb,8,af⟩ (by simp<;>omega)<|iW dh);simp only[World.cell?_drew,World.frozen?_drew,f9]at k0 k1))
 all_goals
  have I9:∀k,Value.ownBlock (aJ (ae ⟨gg,0,af⟩) (s.g.fa.length+1) cap)=ae k->s.v.fv.ownBlock=ae k\/w.heap.size<=k:=fun k hk=>by
   rw[Ef.o];simp only[Value.ownBlock,gu]at hk;subst hk;rcases vk with h1|h1
   ·exact .inl h1
   ·exact .inr (by have:=FW.o.size;omega)
  have G3:∃V,Fr aP W V/\V.grownBy w3 (Value.ownBlock<|.slice fa s.g.fa.length fc):=⟨_,by first|exact((Fr.refl _ _).alloc _).drew|exact((Fr.refl _ _).drew).alloc _,mO⟩
  obtain⟨V,fV,gV⟩:=G3
  have TO:=A.o.fD (f:=⟨i,vt,2⟩) (FW.o.trans fV fun _ h=>h.elim) (by rw[Ef.o];exact gV) pY I9 PGG.o
  have F4:Fr (fun k=>k=pb\/Value.ownBlock (.slice fa s.g.fa.length fc)=ae k) W (w3.setCell ⟨pb,8,af⟩<|aJ (ae ⟨gg,0,af⟩) (s.g.fa.length+1) cap):=((fV.mono fun _ h=>h.elim).grown gV fun k e=>.inl<|.inr e).setCell (p:=⟨pb,8,af⟩) (.inl<|.inl rfl) _
  clear fV gV
  clear pY mO vk uk k0 k1 I9
  generalize w3.setCell ⟨pb,8,af⟩ (aJ (ae ⟨gg,0,af⟩) (s.g.fa.length+1) cap)=W4 at TO F4⊢
  generalize(Value.slice (ae ⟨gg,0,af⟩) (s.g.fa.length+1) cap)=FN at TO
  have TT:Hid (bW w W4 B pb xb s (N+1)<|s.fD (s.g.fa++[⟨i,vt,2⟩]) FN):=TO
  have ZZ:∀k,Value.ownBlock (.slice fa s.g.fa.length fc)=ae k->k<w.heap.size:=fun k hk=>(zW.o.lt k hk).2
  have TK:Hid (W4.heap[w1.heap.size]? =ae (aC #[ag ah ve,ag ah vt,ag ah 3,.slice aa T1.length ac,.slice ba T2.length bc] 58 (0,0))):=(F4.block _ (aX T6.o) (fun e=>by
   have:=F1.o.size;rcases e with e|e
   ·omega
   ·have:=ZZ _ e;omega)).trans T6.o
  have R4:Hid (W4.heap[w.heap.size]? =ae (aC #[ag ah 0,ag ah 0,ag ah 0,aJ af 0 0,aJ af 0 0] 58 (0,0))):=(F4.block _ (fK (aX B1.o) iH.o.size) (fun e=>by
   rcases e with e|e
   ·omega
   ·have:=ZZ _ e;omega)).trans ((iH.o.block _ (aX B1.o) id).trans B1.o)
  have ho:∀k,w.heap.size<=k->¬(k=pb\/Value.ownBlock (.slice fa s.g.fa.length fc)=ae k):=fun k hk e=>by
   rcases e with e|e
   ·omega
   ·have:=ZZ _ e;omega
  have VA4:Hid (W4.ownsRow w.heap.size 3 1 (.slice aa T1.length ac) T1.length<|gy T1):=F4.ownsRow (iH.o.ownsRow VA.o fun _ _=>id) fun k hk=>ho k (VA.o.lt k hk).1
  have VB4:Hid (W4.ownsRow w.heap.size 3 1 (.slice ba T2.length bc) T2.length<|gy T2):=F4.ownsRow (iH.o.ownsRow VB.o fun _ _=>id) fun k hk=>ho k (VB.o.lt k hk).1
  have z0:W4.cell? ⟨w1.heap.size,0,af⟩=ae (ag ah ve):=aK TK.o 0
  have z1:W4.cell? ⟨w1.heap.size,1,af⟩=ae (ag ah vt):=aK TK.o 1
  have z2:W4.cell? ⟨w1.heap.size,2,af⟩=ae (ag ah 3):=aK TK.o 2
  have z3:W4.cell? ⟨w1.heap.size,3,af⟩=ae (.slice aa T1.length ac):=aK TK.o 3
  have z4:W4.cell? ⟨w1.heap.size,4,af⟩=ae (.slice ba T2.length bc):=aK TK.o 4
  have z5:W4.cell? ⟨pb,5,af⟩=ae (aJ (ae ⟨eg,0,af⟩) s.g.ep.length iI):=by rw[<-kU.o];exact aK TO.at_.pa.blk 5
  have ze:W4.cell? ⟨eg,i,af⟩=ae (ag ah ve):=yH (by have:=TO.at_.pa.ep;simp only[dB.fD]at this;rw[kU.o]at this;exact this) HE.o
  clear TO F4 ho ZZ
  go_wp2_with fail
  go_quiet (fail)
  go_wp2_with (refine aEz rfl 58 _ _ rfl w.heap.size 0 #[ag ah ve,ag ah vt,ag ah _,.slice aa T1.length ac,.slice ba T2.length bc] rfl rfl (Ld ((((Fr.refl (fun _=>False) _).drewN _).block _ (aX R4.o) id).trans R4.o)<|by simp) Jj (by simp[Value.oneCell']) ?_)
  refine aEk (Ji rfl _ _ _ 58 _ (0,0) _ rfl (Jh _ 0<|(((Fr.refl (fun _=>False) _).drewN _).block _ (aX R4.o) id).trans R4.o) underlying58 rfl Jj) rfl ?_
  exact⟨_,_,rfl,(PO ((Fr.refl _ _).drewN _) _).ownsRow VA4.o<|Yd VA4.o R4.o<|by decide,(PO ((Fr.refl _ _).drewN _) _).ownsRow VB4.o<|Yd VB4.o R4.o<|by decide,FN,TT.o.boxed (dm _) (PO ((Fr.refl _ _).drewN _) _)<|TT.o.at_.zV R4.o<|by decide⟩
end
end
end Go.Proofs.YtkelpcjiediamaaGreat
