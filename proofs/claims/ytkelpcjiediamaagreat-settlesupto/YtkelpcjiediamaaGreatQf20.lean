import Derived.Test.YtkelpcjiediamaaGreatQf19
set_option maxRecDepth 100000
set_option maxHeartbeats 0
set_option linter.all false
namespace Go.Proofs.YtkelpcjiediamaaGreat
noncomputable section
def aFY:=@Go.results_tmp
open Go renaming Calls→aW,Frame→bH,TypeId→dJ,Value→aA,World→ay,maxLen→eP,stepG→bK,undef→ai
open Go.Ending renaming returned→aV
open Go.IntKind renaming i64→ah,wrap→eF
open Go.Item renaming inRegion→bW
open Go.Obj renaming cells→aG
open Go.RowKit renaming Hid→aj,intOf→eU
open Go.Value renaming agg→iF,bool→aF,int→ag,ownBlock→bY,pointer→az,slice→aN,string→dK,tuple→dU
open Go.World renaming alloc→bz,cell?→aB,ownsRow→bD,setCell→aX
open Option renaming none→af,some→ae
open _root_.Array renaming replicate→gz
open Go.Proofs.Tryz
open Go.RowKit Go.Maps
section
namespace Twin
open Go Go.Proofs Go.Conc Go.RowKit Go.Maps fU
def avv(a:aA):#[a]++gz (Tryz.f20.ntmps- #[a].size) ai=#[a,ai,ai,ai,ai,ai,ai,ai,ai,ai,ai,ai,ai,ai,ai,ai,ai,ai,ai,ai,ai,ai,ai,ai,ai,ai,ai,ai]:=by kernel_rfl
def avw(xb:Nat):Frame.enter prog 20 #[az<|ae ⟨xb,0,af⟩] .normal=(base 20).at ⟨rt xb ai ai ai ai ai ai ai ai ai ai ai ai ai ai ai ai ai ai ai ai ai ai ai ai ai,[]⟩ [.code rb]:=by
 rw[aF3 (c:=rb) _ func20 rfl,avv];rfl
def avx{W:ay}(xb:Nat):(jo rb).wp prog (fun e a' w'=>e=.normal/\a'=⟨rt xb (.int .i64 0) ai ai ai ai ai ai ai ai ai ai ai ai ai ai ai ai ai ai ai ai ai ai ai ai,[]⟩/\w'=W)
 ⟨rt xb ai ai ai ai ai ai ai ai ai ai ai ai ai ai ai ai ai ai ai ai ai ai ai ai ai,[]⟩ W:=by
 simp only[rb,Tryz.f20,ik,jo,rt];go_wp2
def zu:Array Oper:=match jo rX with| .region _ o _=>o|_=>#[]
def avy:jo rX=.region 2 zu false:=rfl
def avz(xb:Nat)(v t6 t7 t8 t9:aA)(k:List Item)(cs:List bH)(w:ay):bK prog true (G ((base 20).at ⟨rt xb (.int .i64 0) v ai t6 t7 t8 t9 ai ai ai ai ai ai ai ai ai ai ai ai ai ai ai ai ai ai,[]⟩<|bW zu [0,1,2,3,4]::k) cs) w=
 .go (G ((base 20).at ⟨rt xb (.int .i64 0) v ai t6 t7 t8 t9 (az<|ae ⟨xb,0,af⟩) ai ai ai ai ai ai ai ai ai ai ai ai ai ai ai ai ai,[]⟩<|bW zu [1,2,3,4]::k) cs) w #[]:=by
 have e:=IP (P:=prog) (main:=true) (b:=base 20) (a:=⟨rt xb (.int .i64 0) v ai t6 t7 t8 t9 ai ai ai ai ai ai ai ai ai ai ai ai ai ai ai ai ai ai,[]⟩) (ops:=zu) (i:=0) (rest:=[1,2,3,4]) (k:=k) (cs:=cs) (w:=w) (v:=az<|ae ⟨xb,0,af⟩) rfl rfl (by decide) rfl rfl;exact e
def avA(xb:Nat)(v t6 t7 t8 t9:aA)(k:List Item)(cs:List bH)(w:ay):bK prog true (G ((base 20).at ⟨rt xb (.int .i64 0) v ai t6 t7 t8 t9 (az<|ae ⟨xb,0,af⟩) ai ai ai ai ai ai ai ai ai ai ai ai ai ai ai ai ai,[]⟩<|bW zu [1,2,3,4]::k) cs) w=
 .go (G ((base 20).at ⟨rt xb (.int .i64 0) v ai t6 t7 t8 t9 (az<|ae ⟨xb,0,af⟩) v ai ai ai ai ai ai ai ai ai ai ai ai ai ai ai ai,[]⟩<|bW zu [2,3,4]::k) cs) w #[]:=by
 have e:=IP (P:=prog) (main:=true) (b:=base 20) (a:=⟨rt xb (.int .i64 0) v ai t6 t7 t8 t9 (az<|ae ⟨xb,0,af⟩) ai ai ai ai ai ai ai ai ai ai ai ai ai ai ai ai ai,[]⟩) (ops:=zu) (i:=1) (rest:=[2,3,4]) (k:=k) (cs:=cs) (w:=w) (v:=v) rfl rfl (by decide) rfl rfl;exact e
def avC(xb:Nat)(v u t6 t7 t8 t9:aA)(a:Option Addr)(l c:Nat)(k:List Item)(cs:List bH)(w:ay):bK prog true (G ((base 20).at ⟨rt xb (.int .i64 0) v ai t6 t7 t8 t9 u v (.slice a l c) ai ai ai ai ai ai ai ai ai ai ai ai ai ai ai,[]⟩<|bW zu [3,4]::k) cs) w=
 .go (G ((base 20).at ⟨rt xb (.int .i64 0) v ai t6 t7 t8 t9 u v (.slice a l c) (.int .i64 l) ai ai ai ai ai ai ai ai ai ai ai ai ai ai,[]⟩<|bW zu [4]::k) cs) w #[]:=by
 have e:=IP (P:=prog) (main:=true) (b:=base 20) (a:=⟨rt xb (.int .i64 0) v ai t6 t7 t8 t9 u v (.slice a l c) ai ai ai ai ai ai ai ai ai ai ai ai ai ai ai,[]⟩) (ops:=zu) (i:=3) (rest:=[4]) (k:=k) (cs:=cs) (w:=w) (v:=.int .i64 l) rfl rfl (by decide) (by kernel_rfl) (by kernel_rfl);exact e
def avD(xb:Nat)(v u t6 t7 t8 t9:aA)(a:Option Addr)(l c:Nat)(k:List Item)(cs:List bH)(w:ay):bK prog true (G ((base 20).at ⟨rt xb (.int .i64 0) v ai t6 t7 t8 t9 u v (.slice a l c) (.int .i64 l) ai ai ai ai ai ai ai ai ai ai ai ai ai ai,[]⟩<|bW zu [4]::k) cs) w=
 .go (G ((base 20).at ⟨rt xb (.int .i64 0) v ai t6 t7 t8 t9 u v (.slice a l c) (.int .i64 l) (.int .i64 0) ai ai ai ai ai ai ai ai ai ai ai ai ai,[]⟩<|bW zu []::k) cs) w #[]:=by
 have e:=IP (P:=prog) (main:=true) (b:=base 20) (a:=⟨rt xb (.int .i64 0) v ai t6 t7 t8 t9 u v (.slice a l c) (.int .i64 l) ai ai ai ai ai ai ai ai ai ai ai ai ai ai,[]⟩) (ops:=zu) (i:=4) (rest:=[]) (k:=k) (cs:=cs) (w:=w) (v:=.int .i64 0) rfl rfl (by decide) rfl rfl;exact e
structure BJ(h:HS)(ms:List Ms)(gW:List PL):Prop where
 len:gW.length=h.pl.length
 get:∀(i:Nat) (p:PL),h.pl[i]? =ae p->∃v',gW[i]? =ae {p with v:=v',s:=zt ms i p}
def HS.taken(h:HS)(gW:List PL):HS:={h with fv:=aN af 0 0,fl:=[],pl:=gW}
structure avE(s:Nat->Prop)(w w':ay)(B xb n:Nat)(h:HS)(Wg:Nat)(h3:HS):Prop where
 ex:∃gW h2,BJ h h.fl gW/\jk gW/\qC (HS.taken h gW) (fQ h.fl++kY h.fl h.pl) h2/\BI h2 h3
 at_:aH w' B xb (n+h.fl.length) h3
 apart:jk h3.pl
 fr:∀b,b<w.heap.size->¬s b->¬h.eG xb b->w'.heap[b]? =w.heap[b]?
 sub:∀b,h3.eG xb b->h.eG xb b\/w.heap.size<=b
 size:w.heap.size<=w'.heap.size
 wg:w.heap.size<=Wg
 tape:w'.tape=w.tape
 os:w'.os=w.os
 output:w'.output=w.output
def qC.pl{l:List Ms}:∀{h h':HS},qC h l h'->h'.pl=h.pl/\h'.fv=h.fv:=by
 induction l with
 |nil=>intro h h' a;cases a;exact⟨rfl,rfl⟩
 |cons m l ih=>
  intro h h' a;cases a with
  |cons _ _ a ra=>
   obtain⟨r1,r2⟩:=ih ra;exact⟨r1.t a.rest.2.2.1,r2.t a.rest.2.2.2.2.1⟩
variable{h h':HS}
def wE.pl{i:Nat}{x:PS}{ok:Bool}(l:wE h i x ok h'):h'.pl=h.pl:=by
 cases l with
 |xu=>rfl
 |timeout _ _ hw=>cases hw<;>rfl
 |rem _ hr=>cases hr<;>rfl
 |idle=>rfl
def ru.pl{j:Nat}(t:ru h j h'):h'.pl=h.pl:=by
 induction t with
 |zero=>rfl
 |succ _ _ hl ih=>exact(wE.pl hl).t ih
def BI.pl(t:BI h h'):h'.pl=h.pl:=by
 cases t with
 |down=>rfl
 |up _ t=>
  cases t with
  |all t=>exact ru.pl t
  |uC _ t _ l=>exact(wE.pl l).t<|ru.pl t
def avF{fo s:Nat->Prop}{w:ay}{B xb n:Nat}(hh:aH w B xb n h)(ha:jk h.pl)(hx:¬(s xb\/fo xb))(aC2:h.fl.length<=100)(hn:n+100<=1000000000000)(qJ:∀p∈h.pl,(p.s.es.length+100)*40<=140737488355328)(uP:∀m∈h.fl,(Lit.int .i64 m.p).wf=true)(hq:∀m∈h.fl,m.k=1->∃i:Nat,m.q=i/\i<h.pl.length)
 (uT:∀(gW:List PL) (k:Nat) (h2:HS) (m:Ms),BJ h h.fl gW->qC (HS.taken h gW) ((fQ h.fl++kY h.fl h.pl).take k) h2->(fQ h.fl++kY h.fl h.pl)[k]? =ae m->∃(i:Nat) (x:PS) (q:Nat),m.p=(i:Int)/\i<6/\h2.ps[i]? =ae x/\m.q=(q:Int)/\q<4/\mY h2 ⟨4,i,0,x.t⟩)
 (rO:∀(gW:List PL) (h2:HS),BJ h h.fl gW->qC (HS.taken h gW) (fQ h.fl++kY h.fl h.pl) h2->h2.up=true->∀(j:Nat) (h1:HS) (x:PS),j<h2.P.toNat->ru h2 j h1->h1.ps[j]? =ae x->x.Ed/\mY h1 ⟨3,j,0,x.t⟩)
 (D5:(fQ h.fl++kY h.fl h.pl).length<=1000):
 au.sG (au.bP fo s) prog 20 #[az<|ae ⟨xb,0,af⟩] w (fun B' v w'=>∃Wg h3,B'=au.bP fo (fun b=>s b\/b=Wg)/\v=.int .i64 h.fl.length/\avE s w w' B xb n h Wg h3):=by
 intro c cs;refine au.Reach.ok fun bT=>?_;have h5:∀b,s b\/fo b->1<=b:=fun b hb=>(bT.low b hb).1;have L:=au.lets h5;have C:au.Dh (au.bP fo s) prog:=fun k hk=>au.ML fun b hb=>hb.e (h5 b) fun z=>by omega
 have iC:=bn hh.blk;have Cj:=aH.free hh bT hx;rw[avw,avn];refine jM fun d1=>?_;have We:au.cZ ((au.bP fo s).cut w.heap.size) (rt xb ai ai ai ai ai ai ai ai ai ai ai ai ai ai ai ai ai ai ai ai ai ai ai ai ai):=fun v hv=>by
  simp only[rt,uo,jZ,qh,qi]at hv;rcases hv with rfl|hv
  ·exact .sF fun z=>z.e hx fun y=>by have:w.heap.size<=xb:=y;omega
  ·have:v=undef:=by
    simp only[or_self]at hv;exact hv
   rw[this];exact au.rZ
 refine au.Io (w:=w.at d1) (K:=fun t d e a' w'=>e=.normal/\a'=⟨rt xb (.int .i64 0) ai ai ai ai ai ai ai ai ai ai ai ai ai ai ai ai ai ai ai ai ai ai ai ai,[]⟩/\w'=au.re (w.at d1) t d) L C ok0 We rfl ⟨_,func20⟩ rfl (fun t d=>aFB (avx xb) fun e a w hq=>⟨.inl hq.1,hq⟩) ?_ ?_;rotate_left
 ·rintro a1 w1 todo _ _ _ ⟨t,d,t',j,e,_⟩;cases e
 rintro a1 w1 lU IV _ ⟨t,d,t',j,_,rfl,wX⟩;have e1:w1.heap=w.heap:=show(au.re w1 t' j).heap=(au.re (w.at d1) t d).heap from gy World.heap wX;clear wX;refine jM fun d2=>?_;refine au.Io (w:=w1.at d2) (K:=fun t d e a' w'=>e=.normal/\(∃t6 t7 t8 t9,a'=⟨rt xb (.int .i64 0) h.fv ai t6 t7 t8 t9 ai ai ai ai ai ai ai ai ai ai ai ai ai ai ai ai ai ai,[]⟩)/\di (au.re (w1.at d2) t d) w' B xb n h n (h.iH (aN af 0 0) [])/\Fr (fun q=>q=xb) (au.re (w1.at d2) t d) w') L C Ql IV rfl ⟨_,func20⟩ rfl (fun t d=>aFB (avr<|aH.same hh (fun b _=>by show w1.heap[b]? =_;rw[e1]) (by show w.heap.size<=w1.heap.size;rw[e1];exact dI _)) fun e a w hq=>⟨.inl hq.1,hq⟩) ?_ ?_;rotate_left
 ·rintro a2 w2 todo _ _ _ ⟨t,d,t',j,e,_⟩;cases e
 rintro a2 w2 Kr Qm _ ⟨t,d,t',j,_,⟨t6,t7,t8,t9,rfl⟩,YB,lS⟩;have Cc:aH w2 B xb n (h.iH (aN af 0 0) []):=aH.IU YB.at_;have f2:∀b,b<w.heap.size->b≠xb->w2.heap[b]? =w.heap[b]? :=fun b hb dD=>by
  have:=lS.block b (by show b<w1.heap.size;rw[e1];exact hb) dD;have h2:w2.heap[b]? =w1.heap[b]? :=this;rw[h2,e1]
 have z2:w.heap.size<=w2.heap.size:=by
  have:w1.heap.size<=w2.heap.size:=lS.size;rw[e1]at this;exact this
 have adw:w2.tape=w.tape/\w2.os=w.os/\w2.output=w.output:=⟨Kr.tape.t lU.tape,Kr.os.t lU.os,Kr.output.t lU.output⟩;clear YB lS;obtain⟨na,nc,qg,_⟩:=oP hh.nM;have VE:∀b,h.fv.ownBlock=ae b->b≠xb:=fun b hb e=>hh.abb<|e▸hb;have aj9:bD w2 B 119 5 (.slice na h.fl.length nc) h.fl.length (h.fl.flatMap Ms.cs):=by
  have h0:=hh.nM;refine⟨h0.1,?_⟩;rcases h0.2 with⟨q1,q2⟩|⟨g,cap,cur,q1,q2,q3,q4⟩
  ·exact .inl ⟨by rw[<-qg];exact q1,q2⟩
  ·exact .inr ⟨g,cap,cur,by rw[<-qg];exact q1,q2,(f2 g (jF.1 q3).1<|VE g (by rw[q1];rfl)).t q3,q4⟩
 have hC:∀V:ay,V.heap=w2.heap->Qk (fun b=>s b\/fo b) V B B xb n (h.iH (aN af 0 0) []) na nc h.fl:=fun V hV=>by
  refine⟨aH.same Cc (fun b _=>by rw[hV]) (by rw[hV];exact dI _),ha,?_,by unfold eP;omega,by omega,fun p hp=>by have:=qJ p hp;omega,uP,hq,fun b hb=>⟨fun e=>hx<|e▸hb,fun e=>Cj b (.inr<|.inr<|.inl e) hb,fun p hp e=>Cj b (.inr<|.inr<|.inr<|.inr ⟨p,hp,e⟩) hb,fun e=>Cj b (.inr<|.inr<|.inr<|.inl (by rw[qg];exact e)) hb⟩⟩;refine⟨aj9.1,?_⟩;rcases aj9.2 with⟨q1,q2⟩|⟨g,cap,cur,q1,q2,q3,q4⟩
  ·exact .inl ⟨q1,q2⟩
  ·exact .inr ⟨g,cap,cur,q1,q2,by rw[hV];exact q3,q4⟩
 refine jM fun d3=>?_;refine jM fun d4=>?_;rw[avy];refine uH fun d5=>?_;rw[show List.range zu.size=[0,1,2,3,4]from rfl];rw[qg]at Qm⊢
 refine jr (fun w=>avz xb _ t6 t7 t8 t9 _ _ w) fun d6=>?_;refine jr (fun w=>avA xb _ t6 t7 t8 t9 _ _ w) fun d7=>?_;refine Yw (f:=54) (post:=fun B' v w'=>∃(d:Nat) (z:Gs),B'=au.bP fo (fun b=>s b\/b=z.Wg)/\adu fo s ((((((w2.at d3).at d4).at d5).at d6).at d7).at d) B xb n (h.iH (aN af 0 0) []) na nc h.fl z v w') rfl rfl (by decide) rfl func54 rfl rfl (vs:=#[az<|ae ⟨xb,0,af⟩,.slice na h.fl.length nc]) (by kernel_rfl) (fun d=>(avb (hC ((((((w2.at d3).at d4).at d5).at d6).at d7).at d) rfl)<|by omega).z fun _ _ _ hg=>⟨d,hg⟩) ?_;rintro B' v w3 ⟨dd,z,rfl,hG⟩;obtain⟨gW,lH,AU,tH,aka,hlf,Ha,DF,aBn,dh,ht3,ZK,hu3⟩:=avk (hC ((((((w2.at d3).at d4).at d5).at d6).at d7).at dd) rfl) hG (fun b hb=>⟨fun e=>Cj b (.inr<|.inl e)<|.inl hb,fun e=>by simp[HS.iH,Value.ownBlock]at e⟩);have Uo:=hG.vok;clear hG;have Ff:BJ h h.fl gW:=⟨lH,AU⟩;refine au.Reach.ok fun adx=>?_;have Nk:∀b,(s b\/b=z.Wg)\/fo b->1<=b:=fun b hb=>(adx.low b hb).1;have L3:=au.lets Nk;have C3:au.Dh (au.bP fo fun b=>s b\/b=z.Wg) prog:=fun k hk=>au.ML fun b hb=>hb.e (Nk b) fun z=>by omega
 obtain⟨va,vc,rfl,_⟩:=oP Ha;rw[<-iW,<-Hl]at Ha;rw[<-iW]at Uo⊢
 generalize hA:fQ h.fl++kY h.fl (h.iH (aN af 0 0) []).pl=A at Ha Uo⊢
 have hA':fQ h.fl++kY h.fl h.pl=A:=hA;rw[hA']at uT rO D5;have avG:aH w3 B xb (n+h.fl.length) (HS.taken h gW):=tH;have hz3:w2.heap.size<=w3.heap.size:=aBn;have A7:w2.heap.size<=z.Wg:=dh;have hold:∀v,au.aI ((au.bP fo s).cut w2.heap.size) v->au.aI ((au.bP fo fun b=>s b\/b=z.Wg).cut w3.heap.size) v:=fun v hv=>hv.z (B:=(au.bP fo fun b=>s b\/b=z.Wg).cut w3.heap.size) (B':=(au.bP fo s).cut w2.heap.size) (fun b hb=>by
  rcases hb with((hb|rfl)|hb)|hb
  ·exact .inl<|.inl hb
  ·exact .inr A7
  ·exact .inl<|.inr hb
  ·exact .inr<|fG hz3 hb) rfl
 have okx:au.aI ((au.bP fo s).cut w2.heap.size) (az<|ae ⟨xb,0,af⟩):=Qm _ (by simp[rt]);have ady:au.cZ ((au.bP fo fun b=>s b\/b=z.Wg).cut w3.heap.size) (rt xb (.int .i64 0) (.slice na h.fl.length nc) ai t6 t7 t8 t9 (az<|ae ⟨xb,0,af⟩) (.slice na h.fl.length nc) (.slice va A.length vc) (.int .i64 A.length) (.int .i64 0) ai ai ai ai ai ai ai ai ai ai ai ai ai):=fun v hv=>by
  simp only[rt,uo,jZ,qh,qi]at hv;have old:v∈rt xb (.int .i64 0) (.slice na h.fl.length nc) ai t6 t7 t8 t9 ai ai ai ai ai ai ai ai ai ai ai ai ai ai ai ai ai ai->au.aI ((au.bP fo fun b=>s b\/b=z.Wg).cut w3.heap.size) v:=fun hm=>hold v<|Qm v hm;have aBq:v∈rt xb (.int .i64 0) (.slice na h.fl.length nc) ai t6 t7 t8 t9 ai ai ai ai ai ai ai ai ai ai ai ai ai ai ai ai ai ai\/v=.slice va A.length vc\/v=.int .i64 A.length:=by
   simp only[rt,uo,jZ,qh,qi];rcases hv with e|e|e|e|e|e|e|e|e|e|e|e|e|e|e|e|e|e|e|e|e|e|e|e|e|e|e|e<;>simp only[e,true_or,or_true]
  rcases aBq with hm|rfl|rfl
  ·exact old hm
  ·exact Uo
  ·exact .int
 change au.Reach _ _ ((base 20).at ⟨rt xb (.int .i64 0) (.slice na h.fl.length nc) ai t6 t7 t8 t9 (az<|ae ⟨xb,0,af⟩) (.slice na h.fl.length nc) (.slice va A.length vc) ai ai ai ai ai ai ai ai ai ai ai ai ai ai ai,[]⟩<|bW zu [3,4]:: .code Uu:: .code rY::[]) _ _ _ _;refine jr (fun w=>avC xb _ _ t6 t7 t8 t9 _ _ _ _ _ w) fun d8=>?_;refine jr (fun w=>avD xb _ _ t6 t7 t8 t9 _ _ _ _ _ w) fun d9=>?_;refine uI fun d10=>?_;have atV:∀(V:ay) (h1:HS) (N:Nat),aH w3 B xb N h1->V.heap=w3.heap->aH V B xb N h1:=fun V h1 N ht hV=>aH.same ht (fun b _=>by rw[hV]) (by rw[hV];exact dI _);refine au.Io (w:=((w3.at d8).at d9).at d10) (K:=fun t d e a' w'=>e=.normal/\(∃t5 t14 t15 t16 t17 t18 t19 t20 t21 t22 t23,a'=⟨rt xb (.int .i64 0) (.slice na h.fl.length nc) t5 t6 t7 t8 t9 (az<|ae ⟨xb,0,af⟩) (.slice na h.fl.length nc) (.slice va A.length vc) (.int .i64 A.length) t14 t15 t16 t17 t18 t19 t20 t21 t22 t23 ai ai ai ai,[]⟩)/\∃h2,qC (HS.taken h gW) A h2/\di (au.re (((w3.at d8).at d9).at d10) t d) w' B xb (n+h.fl.length) (HS.taken h gW) (n+h.fl.length) h2) L3 C3 avp ady rfl ⟨_,func20⟩ rfl (fun t d=>aFB (avt (W:=au.re (((w3.at d8).at d9).at d10) t d) (Bm:=w2.heap.size) (h:=HS.taken h gW) (atV (au.re (((w3.at d8).at d9).at d10) t d) _ _ avG rfl) rfl (by
  refine⟨Ha.1,?_⟩;rcases Ha.2 with⟨q1,q2⟩|⟨g,cap,cur,q1,q2,q3,q4⟩
  ·exact .inl ⟨q1,q2⟩
  ·exact .inr ⟨g,cap,cur,q1,q2,q3,q4⟩) D5 (fun k h2 m=>uT gW k h2 m Ff) _ _ _ _ _ _ _ _ _ _ _ _ _ _ _ _ _ _ _ _ _ _) fun e a w hq=>⟨.inl hq.1,hq⟩) ?_ ?_
 rotate_left
 ·rintro a4 w4 todo _ _ _ ⟨t,d,t',j,e,_⟩;cases e
 rintro a4 w4 xK YC _ ⟨t,d,t',j,_,⟨s5,s14,s15,s16,s17,s18,s19,s20,s21,s22,s23,rfl⟩,h2,hkr,JK⟩;have avI:aH w4 B xb (n+h.fl.length) h2:=aH.IU JK.at_;have f4:∀b,b<w3.heap.size->¬(HS.taken h gW).eG xb b->w4.heap[b]? =w3.heap[b]? :=fun b hb dD=>JK.fr.block b hb dD;have s4:∀b,h2.eG xb b->(HS.taken h gW).eG xb b\/w3.heap.size<=b:=JK.sub;have z4:w3.heap.size<=w4.heap.size:=JK.fr.size;clear JK;refine au.Io (w:=w4) (K:=fun t d e a' w'=>e=.ret/\a'.tmps.getD 2 ai=.int .i64 h.fl.length/\∃h3,BI h2 h3/\di (au.re w4 t d) w' B xb (n+h.fl.length) h2 (n+h.fl.length) h3) L3 C3 okY YC rfl ⟨_,func20⟩ rfl (fun t d=>aFB (avu (l:=h.fl.length) (aH.re avI t d) (rO gW h2 Ff hkr) _ _ _ _ _ _ _ _ _ _ _ _ _ _ _ _ _ _ _ _ _ _ _ _) fun e a w hq=>⟨.inr hq.1,hq⟩) ?_ ?_
 ·rintro a5 w5 _ _ _ ⟨t,d,t',j,e,_⟩;cases e
 rintro a5 w5 todo Nl avJ hd5 ⟨t,d,t',j,_,uV,h3,htk,Kq⟩;have avK:aH w5 B xb (n+h.fl.length) h3:=aH.IU Kq.at_;have f5:∀b,b<w4.heap.size->¬h2.eG xb b->w5.heap[b]? =w4.heap[b]? :=fun b hb dD=>Kq.fr.block b hb dD;have s5:∀b,h3.eG xb b->h2.eG xb b\/w4.heap.size<=b:=Kq.sub;have z5:w4.heap.size<=w5.heap.size:=Kq.fr.size;clear Kq;have ajZ:h3.pl=gW:=(BI.pl htk).t (qC.pl hkr).1;have ft:∀b,(HS.taken h gW).eG xb b->h.eG xb b\/w.heap.size<=b:=fun b hb=>by
  rcases hb with e|e|e|e|⟨p,hp,e⟩
  ·exact .inl<|.inl e
  ·exact .inl<|.inr<|.inl e
  ·exact .inl<|.inr<|.inr<|.inl e
  ·simp[HS.taken,Value.ownBlock]at e
  ·rcases(hlf p hp b e).1 with⟨p0,xU,e0⟩|e0
   ·exact .inl<|.inr<|.inr<|.inr<|.inr ⟨p0,xU,e0⟩
   ·have e0':w2.heap.size<=b:=e0;exact .inr<|by omega
 refine jr (fun w=>aGB (v:=.int .i64 h.fl.length) rfl hd5 func20 (by rw[<-uV];exact aFY rfl _ _ _)<|by kernel_rfl) fun d11=>?_;refine au.Reach.here fun _=>⟨_,rfl,z.Wg,h3,rfl,rfl,⟨⟨gW,h2,Ff,aka,by rw[hA'];exact hkr,htk⟩,aH.same avK (fun b _=>rfl)<|dI _,by rw[ajZ];exact aka,fun b hb hs hf=>?_,fun b hb=>?_,?_,by omega,?_,?_,?_⟩⟩
 ·have Jo:b≠xb:=fun e=>hf<|.inl e;have Oh:¬(HS.taken h gW).eG xb b:=fun e=>(ft b e).e hf fun y=>by omega
  have NS:¬xJ h.pl b:=fun⟨p,hp,e⟩=>hf<|.inr<|.inr<|.inr<|.inr ⟨p,hp,e⟩;have tq:¬h2.eG xb b:=fun e=>(s4 b e).e Oh fun y=>by omega
  exact(f5 b (by omega) tq).t<|(f4 b (by omega) Oh).t<|(DF b (by show b<w2.heap.size;omega) hs NS).t<|f2 b hb Jo
 ·rcases s5 b hb with e|e
  ·rcases s4 b e with e|e
   ·exact ft b e
   ·exact .inr<|by omega
  ·exact .inr<|by omega
 ·show w.heap.size<=w5.heap.size;omega
 ·exact Nl.tape.t<|xK.tape.t<|ht3.t adw.1
 ·exact Nl.os.t<|xK.os.t<|ZK.t adw.2.1
 ·exact Nl.output.t<|xK.output.t<|hu3.t adw.2.2
end Twin
end
def uJ(l:List Ms)(q:Nat):List Ms:=l.filter fun m:Ms=>decide<|m.k=1/\m.q=(q:Int)
def YD(O:List Bool)(l:List Ms)(p i:Nat):List Ms:=((List.range p).flatMap fun q=>if O[q]? =ae true then[]else(uJ l q).map Ms.lJ)++if O[p]? =ae true then[]else(uJ (l.take i) p).map Ms.lJ
def avL(l:List Ms)(q:Nat):(uJ l q).length<=l.length:=D8 _ _
def avM(l:List Ms)(p:Nat):((List.range p).flatMap fun q=>uJ l q).length<=l.length:=by
 induction l with
 |nil=>
  have:∀r:List Nat,(r.flatMap fun q=>uJ [] q)=[]:=fun r=>by
   induction r with
   |nil=>rfl
   |cons q r ih=>rw[pF,ih];rfl
  rw[this];exact dI _
 |cons x l ih=>
  have key:∀p:Nat,((List.range p).flatMap fun q=>uJ (x::l) q).length=((List.range p).flatMap fun q=>uJ l q).length+if x.k=1/\0<=x.q/\x.q<(p:Int)then 1 else 0:=by
   intro p;induction p with
   |zero=>
    rw[if_neg<|by omega];rfl
   |succ p ihp=>
    rw[aaK,Hl,Hl,iW,iW,ihp];simp only[pF,List.flatMap_nil,qM];have e:(uJ (x::l) p).length=(uJ l p).length+if x.k=1/\x.q=(p:Int)then 1 else 0:=by
     unfold uJ;by_cases e:x.k=1/\x.q=(p:Int)
     ·rw[if_pos e,afK<|by simpa using e];rfl
     ·rw[if_neg e,WJ<|by simpa using e];rfl
    rw[e];by_cases h1:x.k=1/\0<=x.q/\x.q<(p:Int)
    ·rw[if_pos h1,if_neg<|by omega,if_pos<|by omega];omega
    ·by_cases h2:x.k=1/\x.q=(p:Int)
     ·rw[if_neg h1,if_pos h2,if_pos<|by omega];omega
     ·rw[if_neg h1,if_neg h2,if_neg<|by omega];omega
  rw[key p];simp only[oH];split<;>omega
def avO(O:List Bool)(l:List Ms)(p i:Nat):(YD O l p i).length<=l.length:=by
 have h1:(YD O l p i).length<=((List.range<|p+1).flatMap fun q=>uJ l q).length:=by
  unfold YD;rw[aaK,Hl,iW,iW];have a1:((List.range p).flatMap fun q=>if O[q]? =ae true then[]else(uJ l q).map Ms.lJ).length<=((List.range p).flatMap fun q=>uJ l q).length:=by
   generalize List.range p=r;induction r with
   |nil=>simp
   |cons q r ih=>
    simp only[pF,iW];have:(if O[q]? =ae true then[]else(uJ l q).map Ms.lJ).length<=(uJ l q).length:=by
     split
     ·simp
     ·rw[Fz];exact dI _
    omega
  have a2:(if O[p]? =ae true then[]else(uJ (l.take i) p).map Ms.lJ).length<=(uJ l p).length:=by
   split
   ·simp
   ·rw[Fz];unfold uJ;exact(List.take_sublist i l).filter _ |>.length_le
  simp only[pF,List.flatMap_nil,qM];omega
 exact fG h1<|avM l<|p+1
section
open _root_.Go.Proofs.YtkelpcjiediamaaGreat.Twin (fQ kY zt BJ BI)
def avP(ms:List Ms)(i:Nat)(p:PL):zt ms i p=if p.out then p.s else Ko (uJ ms i) p.s:=rfl
end
section
variable{N:Nat}{h h':HS}{L:List Rc}
variable{i j:Nat}{x:PS}{a:Int}{ok:Bool}
def Sn.avQ(c:Sn N h L)(hu:h.up=true)(hi:(i:Int)<h.P)(hx:h.ps[i]? =ae x)(hs:x.s=2\/x.s=3):Next h.P h.Q L ⟨4,i,0,x.t⟩:=by
 have k:=(c.up hu i x hx).k;have:=k.s;exact⟨by simp only;omega,hi,.inr<|.inr<|.inr ⟨rfl,rfl,by simp only;omega,k.t⟩⟩
def Sn.adz(c:Sn N h L)(hu:h.up=true)(hi:(i:Int)<h.P)(hx:h.ps[i]? =ae x)(hs:x.s=1)(ha:a=0\/a=1):Next h.P h.Q L ⟨3,i,a,x.t⟩:=by
 have k:=(c.up hu i x hx).k;have:=k.s;exact⟨by simp only;omega,hi,.inr<|.inr<|.inl ⟨rfl,ha,by simp only;omega,k.t⟩⟩
def Sn.adA(c:Sn N h L)(hN:N<=100000000){k:Int}(hk:k=3\/k=4)(ha:a=0\/a=1)(hi:(i:Int)<h.P)(hx:h.ps[i]? =ae x):mY h ⟨k,i,a,x.t⟩:=by
 have Pn:=c.P1.2;have hf:=c.fM;have ht:0<=x.t/\x.t<=L.length:=by
  cases hu:h.up with
  |true=>
   have k:=(c.up hu i x hx).k;have f:=c.valid.rW i;rw[k.t];exact⟨f.t0,f.t1⟩
  |false=>
   rw[c.dn hu]at hx;have:x=ql:=by
    have:=gZ hx;simpa[xm]using this
   subst this;exact⟨by simp[ql],by simp[ql]⟩
 exact⟨⟨L.length,by omega,⟨by simp only;omega,by simp only;omega,by simp only;omega,by simp only;omega,by simp only;omega,by simp only;omega,by simp only;omega,by simp only;omega⟩⟩,c.kp,by rw[c.jb,Ia,Ef];omega,fun _=>ha⟩
def Sn.lJ(c:Sn N h L){m:Ms}(hm:y9 h.P h.Q L m)(ha:Ph h.pl m)(hi:m.p=(i:Int))(hx:h.ps[i]? =ae x)(a:zf h i x m h'):∃L',Sn (N+1) h' L'/\vC h L h' L'/\(∀m',y9 h.P h.Q L m'->y9 h.P h.Q L' m')/\h'.pl=h.pl/\h'.fl=h.fl:=by
 have hP:=hm.p;cases a with
 |idle=>exact⟨L,c.z<|by omega,.refl _ _,fun _ z=>z,rfl,rfl⟩
 |done nI ht hw=>
  obtain⟨hu,hs,he⟩:=nI;have pr:=c.up hu i x hx;have hn:=c.avQ hu (by omega) hx hs;have h4:∀(q:Nat) (p:PL),h.pl[q]? =ae p->∀t,p.s.nw (i:Int)≠ae (t,true):=fun q p hp t hj=>by
   have h2:=pr.p.opn (by omega) q p t hp hj;have ho:=c.opn q p hp _ t hj;have nT:q<4:=by have:=(c.valid.rW i).ps _ ho.2.2.2.2;have:=c.Q1.2;omega
   have:(q:Int)∈bZ x.bG 2 4:=Po.2 ⟨q,nT,rfl,by omega⟩;rw[ht]at this;refine ha q p hp (oM.1 this).s ?_;rw[hi,hj,<-he,pr.k.t,ho.2.2.2.1]
  obtain⟨_,sn,jv,rfl⟩:=c.MB hu hn (fun _=>h4) hw;exact⟨_,sn,⟨rfl,rfl,rfl,rfl,rfl,.one<|.inl rfl,.refl _⟩,fun m' z=>z.snoc hn,rfl,rfl⟩
 |tie nI ht=>
  obtain⟨hu,hs,he⟩:=nI;have pr:=c.up hu i x hx;have Ul:((m.q.toNat:Nat):Int)=m.q:=by have:=hm.q;omega
  have nT:m.q<4:=by have:=c.Q1.2;have:=hm.q;omega
  rw[Ul];obtain⟨r1,r2,r3,r4,r5,r6⟩:=H7 x m.q 1;refine⟨L,(c.eH (i:=i) (x':=x.tie m.q 1) hu ⟨⟨r1.t pr.k.e,r2.t pr.k.t,r3.t pr.k.s,fun z=>?_,fun _ q hq=>?_,fun q=>?_⟩,⟨by rw[r3,r4];exact pr.c.si,by rw[r5];exact pr.c.wa,by rw[r6];exact pr.c.ga,by rw[r3,r5,r6];exact pr.c.due⟩,⟨fun _ q p t hp hj=>?_,fun _=>?_⟩⟩).z<|by omega,⟨rfl,rfl,rfl,rfl,rfl,.refl _,.refl _⟩,fun _ z=>z,rfl,rfl⟩
  ·rw[r3]at z;omega
  ·rw[H6 x m.q 1 hm.q.1 nT q];by_cases e:(q:Int)=m.q
   ·rw[if_pos e,e];have e2:m.t=(bI L m.p).t:=by rw[hi,<-pr.k.t];exact he.s
    have:=hm.ps e2;rw[hi]at this;exact⟨fun _=>this,fun _=>by omega⟩
   ·rw[if_neg e];exact pr.k.some (by omega) q hq
  ·rw[H6 x m.q 1 hm.q.1 nT q,r3];have:=pr.k.fM q;split
   ·omega
   ·exact this
  ·rw[H6 x m.q 1 hm.q.1 nT q];have h2:=pr.p.opn (by omega) q p t hp hj;have ho:=c.opn q p hp _ t hj;split
   ·rename_i e;exact absurd (by rw[hi,hj,<-he,pr.k.t,ho.2.2.2.1])<|ha q p hp e.s
   ·exact h2
  ·rw[aqw x m.q hm.q.1 nT];have Wh:=aqx x.bG 2;have dD:=pr.p.Ej (by omega);revert ht Wh dD;generalize bZ x.bG 2 4=l;intro ht Wh dD e;have jR:∀k∈l,k=m.q:=fun k hk=>by
    have:=(afL.1 e) k hk;simpa using this
   match l,dD,jR,Wh with
   |[a],_,jR,_=>exact ht<|by rw[jR a<|by simp]
   |a::b::l,_,jR,Wh=>
    have ea:=jR a (by simp);have eb:=jR b (by simp);subst ea;subst eb;simp at Wh
def Uw(h:HS)(L:List Rc)(l:List Ms):Prop:=∀m∈l,y9 h.P h.Q L m/\Ph h.pl m
def Sn.YE{l:List Ms}:∀{N:Nat} {h h':HS} {L:List Rc},Sn N h L->Uw h L l->qC h l h'->∃L',Sn (N+l.length) h' L'/\vC h L h' L'/\h'.pl=h.pl/\h'.fl=h.fl:=by
 induction l with
 |nil=>intro N h h' L c _ a;cases a;exact⟨L,c,.refl _ _,rfl,rfl⟩
 |cons m l ih=>
  intro N h h' L c ok a;cases a with
  |cons hi hx a rest=>
   obtain⟨o1,o2⟩:=ok m (by simp);obtain⟨L1,c1,w1,mk,p1,f1⟩:=c.lJ o1 o2 hi hx a;obtain⟨L2,c2,w2,p2,f2⟩:=ih c1 (fun m' DR=>by
    obtain⟨o3,o4⟩:=ok m' (by simp[DR]);rw[w1.P,w1.Q,p1];exact⟨mk m' o3,o4⟩) rest
   exact⟨L2,by rw[oH,Nat.add_comm l.length 1,<-Aa];exact c2,w1.t w2,p2.t p1,f2.t f1⟩
def akb{i t:Int}{b:Bool}:∀(qs:List Int) {l:List Ms},(∀m∈l,fD L m.p m.t m.c)->fD L i t b->∀m∈wC l i t b qs,fD L m.p m.t m.c
 |[],_,hl,_=>hl
 |q::qs,l,hl,hd=>akb qs (l:=tK l ⟨1,q,i,t,b⟩) (fun m hm=>by
   rcases abT hm with hm|rfl
   ·exact hl m hm
   ·exact hd) hd
def Sn.look(c:Sn N h L)(hu:h.up=true)(hi:(i:Int)<h.P)(hx:h.ps[i]? =ae x)(l:wE h i x ok h'):ok=true/\∃L',Sn (N+1) h' L'/\vC h L h' L'/\h'.pl=h.pl:=by
 have pr:=c.up hu i x hx;have s2:=pr.c.si;have hT:=c.T1;have hK:=c.K1;cases l with
 |xu hs ht=>exact⟨rfl,L,(c.eH hu (i:=i) (x':={x with si:=x.si+1}) ⟨⟨pr.k.e,pr.k.t,pr.k.s,pr.k.none,pr.k.some,pr.k.fM⟩,⟨by simp only;omega,pr.c.wa,pr.c.ga,pr.c.due⟩,⟨pr.p.opn,pr.p.Ej⟩⟩).z<|by omega,⟨rfl,rfl,rfl,rfl,rfl,.refl _,.refl _⟩,rfl⟩
 |idle=>exact⟨rfl,L,c.z<|by omega,.refl _ _,rfl⟩
 |timeout hs ht hw=>
  have hn:=c.adz hu hi hx hs<|.inl rfl;cases hw with
  |uC jv hb=>
   have jw:h.br=true:=hb;rw[c.br]at jw;cases jw
  |ok jv hb=>
   have c1:=c.wrote hu hn (fun e=>by simp at e) jv;have hd:({x with si:=x.si+1}:PS).dA ⟨3,i,0,x.t⟩={x.dA ⟨3,i,0,x.t⟩with si:=x.si+1}:=by simp[PS.dA]
   have l9:i<h.ps.length:=(dS.1 hx).1;have e:kz (h.ps.set i {x with si:=x.si+1}) ⟨3,i,0,x.t⟩=(kz h.ps ⟨3,i,0,x.t⟩).set i {x.dA ⟨3,i,0,x.t⟩with si:=x.si+1}:=by
    have hg:(h.ps.getD i ql)=x:=by rw[Ru,hx];rfl
    simp only[kz,OM,List.set_set,<-hd];rw[Ru,nJ l9];rfl
   have iJ:(kz h.ps ⟨3,i,0,x.t⟩)[i]? =ae (x.dA ⟨3,i,0,x.t⟩):=by
    have hg:(h.ps.getD i ql)=x:=by rw[Ru,hx];rfl
    simp only[kz,OM,hg];exact nJ l9
   have EF:=c1.up hu i _ iJ;refine⟨rfl,L++[⟨3,i,0,x.t⟩],?_,⟨rfl,rfl,rfl,rfl,rfl,.one<|.inr ⟨rfl,rfl⟩,.refl _⟩,rfl⟩;have hsd:(x.dA ⟨3,i,0,x.t⟩).s=3:=by simp[PS.dA]
   have:=c1.eH hu (i:=i) (x':={x.dA ⟨3,i,0,x.t⟩with si:=x.si+1}) ⟨⟨EF.k.e,EF.k.t,EF.k.s,EF.k.none,EF.k.some,EF.k.fM⟩,⟨⟨by simp only;omega,by simp only;omega,fun z=>by have z':(x.dA ⟨3,i,0,x.t⟩).s<=1:=z;omega⟩,EF.c.wa,EF.c.ga,EF.c.due⟩,⟨EF.p.opn,EF.p.Ej⟩⟩;show Sn (N+1) {(h.eH i {x with si:=x.si+1}).qo jv (gp<|fB ⟨3,i,0,x.t⟩)with ps:=kz (h.ps.set i {x with si:=x.si+1}) ⟨3,i,0,x.t⟩} _;rw[e];exact this
 |rem hs hr=>
  have du:=pr.c.due (by omega);have wa:=pr.c.wa;have ga:=pr.c.ga;cases hr with
  |wait hw=>exact⟨rfl,L,(c.eH hu (i:=i) (x':={x with wa:=x.wa-1}) ⟨⟨pr.k.e,pr.k.t,pr.k.s,pr.k.none,pr.k.some,pr.k.fM⟩,⟨pr.c.si,by simp only;omega,ga,fun _=>by simp only;omega⟩,⟨pr.p.opn,pr.p.Ej⟩⟩).z<|by omega,⟨rfl,rfl,rfl,rfl,rfl,.refl _,.refl _⟩,rfl⟩
  |due fv hw=>
   have ks:=pr.k.s;have kt:=pr.k.t;have hf:=c.valid.rW i;have hn:Sn N (h.iH fv<|wC h.fl i x.t (x.s==2)<|bZ x.bG 2 4) L:=by
    refine c.net fv (ait _ _ _ _ c.fl) (vz.aiu _ c.ms fun q hq=>?_)<|akb _ c.dec ?_
    ·obtain⟨k,yO,rfl,h2⟩:=Po.1 hq;have fZ:=(pr.k.some (by omega) k yO).1 (by omega);have hb:=hf.ps _ fZ;exact⟨.inl rfl,hb,⟨by simp only;omega,hi⟩,⟨by simp only;have:=hf.t0;omega,by simp only;omega⟩,fun _=>by simp only;omega,fun _=>fZ⟩
    ·have:=(c.valid.Me i).now (by omega);rw[kt,ks,show((bI L i).s==2)=decide ((bI L i).s=2)from rfl];exact this
   refine⟨rfl,L,((hn.eH (i:=i) (x':={x with wa:=x.ga,ga:=min (2*x.ga) h.K}) hu ⟨⟨pr.k.e,pr.k.t,pr.k.s,pr.k.none,pr.k.some,pr.k.fM⟩,⟨pr.c.si,ga,by simp only;omega,fun _=>by simp only;show(1<=x.ga/\x.ga<=h.K)/\1<=min (2*x.ga) h.K/\min (2*x.ga) h.K<=h.K;omega⟩,⟨pr.p.opn,pr.p.Ej⟩⟩).z<|by omega),⟨rfl,rfl,rfl,rfl,rfl,.refl _,.refl _⟩,rfl⟩
def Sn.Qn(c:Sn N h L)(hu:h.up=true)(t:ru h j h'):(j:Int)<=h.P->∃L',Sn (N+j) h' L'/\vC h L h' L'/\h'.pl=h.pl:=by
 induction t with
 |zero=>intro _;exact⟨L,c,.refl _ _,rfl⟩
 |succ _ hx l ih=>
  intro hj;obtain⟨L1,c1,w1,p1⟩:=ih (by omega);obtain⟨_,L2,c2,w2,p2⟩:=c1.look (w1.up.t hu) (by rw[w1.P];omega) hx l;exact⟨L2,c2,w1.t w2,p2.t p1⟩
def Sn.tick(c:Sn N h L)(hu:h.up=true)(t:Pm h ok h'):ok=true/\∃L',Sn (N+6) h' L'/\vC h L h' L'/\h'.pl=h.pl:=by
 have:=c.P1;cases t with
 |all t=>
  obtain⟨L1,c1,w1,p1⟩:=c.Qn hu t (by omega);exact⟨rfl,L1,c1.z<|by omega,w1,p1⟩
 |uC hj t hx l=>
  obtain⟨L1,c1,w1,p1⟩:=c.Qn hu t (by omega);have:=(c1.look (w1.up.t hu) (by rw[w1.P];omega) hx l).1;cases this
def Sn.akc(c:Sn N h L)(hN:N<=90000000)(hu:h.up=true){h1:HS}(hj:j<h.P.toNat)(t:ru h j h1)(hx:h1.ps[j]? =ae x):x.Ed/\mY h1 ⟨3,j,0,x.t⟩:=by
 have:=c.P1;obtain⟨L1,c1,w1,p1⟩:=c.Qn hu t (by omega);have pr:=c1.up (w1.up.t hu) j x hx;have:=pr.c.si;have:=pr.c.wa;have:=pr.c.ga;exact⟨⟨by omega,by omega,by omega⟩,c1.adA (by omega) (.inl rfl) (.inl rfl) (by rw[w1.P];omega) hx⟩
end
section
open _root_.Go.Proofs.YtkelpcjiediamaaGreat.Twin (zt kY fQ BJ BI HS.taken)
variable{N:Nat}{h h2 h3:HS}{L:List Rc}{gW:List PL}
def avV(ms:List Ms)(pl:List PL):(kY ms pl).length<=ms.length:=by
 refine fG ?_ (avO [] ms pl.length 0);unfold kY YD;rw[iW];refine fG ?_ (WR _ _);generalize List.range pl.length=l;induction l with
 |nil=>simp
 |cons q l ih=>
  simp only[pF,iW];refine Nat.add_le_add ?_ ih;simp only[List.getElem?_nil];split
  ·split
   ·simp
   ·exact dI _
  ·simp
def YF(ms:List Ms)(pl:List PL):(fQ ms++kY ms pl).length<=2*ms.length:=by
 have h1:(fQ ms).length<=ms.length:=D8 _ _;have h2:=avV ms pl;rw[iW];omega
def LK.Ko:∀(l:List Ms) {N:Nat} {s:aJ},LK N L s->(∀m∈l,fO m.p/\fO m.t/\fD L m.p m.t m.c)->LK (N+l.length) L (Ko l s)/\Ext s (Ko l s)/\(Ko l s).data=s.data
 |[],_,_,k,_=>⟨k,.refl _,rfl⟩
 |m::l,N,s,k,ho=>by
  obtain⟨o1,o2,o3⟩:=ho m (by simp);obtain⟨h1,h2,h3⟩:=LK.Ko l (k.closed o1 o2 o3) fun m' DR=>ho m' (by simp[DR]);exact⟨by rw[oH,Nat.add_comm l.length 1,<-Aa];exact h1,(aaZ k.inv _ _ _ o1 o2).2.t h2,h3.t ahC⟩
def Sn.taken(c:Sn N h L)(hN:N<=90000000)(hs:BJ h h.fl gW):Sn (N+100) (HS.taken h gW) L/\uD h.pl gW/\∀(q:Nat) (p':PL),gW[q]? =ae p'->∃p,h.pl[q]? =ae p/\∀i t,p'.s.nw i=ae (t,true)->p.s.nw i=ae (t,true)/\(p.out=false->∀m∈h.fl,m.k=1->m.q=(q:Int)->¬(m.p=i/\m.t=t)):=by
 have key:∀(q:Nat) (p':PL),gW[q]? =ae p'->∃p,h.pl[q]? =ae p/\Gw p p'/\LK (N+100) L p'.s/\∀i t,p'.s.nw i=ae (t,true)->p.s.nw i=ae (t,true)/\(p.out=false->∀m∈h.fl,m.k=1->m.q=(q:Int)->¬(m.p=i/\m.t=t)):=fun q p' hq=>by
  have hl:q<h.pl.length:=by rw[<-hs.len];exact(dS.1 hq).1
  have hp:=eY hl;obtain⟨v',h1⟩:=hs.get q _ hp;rw[hq]at h1;cases h1;have k:=c.dZ q _ hp;have e:=avP h.fl q h.pl[q];obtain⟨k1,k2,k3⟩:=LK.Ko (uJ h.fl q) k fun m hm=>by
   obtain⟨h6,_⟩:=Hq.1 hm;have:=c.Xu (by omega) (c.ms m h6).1;exact⟨this.1,this.2,c.dec m h6⟩
  have hm:=avL h.fl q;have hf:=c.fl;cases ho:h.pl[q].out with
  |true=>
   rw[ho,if_pos rfl]at e;exact⟨_,hp,⟨by rw[e];exact .refl _,by rw[e]⟩,by rw[e];exact k.z<|by omega,fun i t z=>⟨by rw[e]at z;exact z,fun z=>by rw[ho]at z;cases z⟩⟩
  |false=>
   rw[ho,if_neg<|by simp]at e;refine⟨_,hp,⟨by rw[e];exact k2,by rw[e];exact k3⟩,by rw[e];exact k1.z<|by omega,fun i t z=>?_⟩;have z':(zt h.fl q h.pl[q]).nw i=ae (t,true):=z;rw[e]at z';obtain⟨z1,z2⟩:=aj3 _ z';exact⟨z1,fun _ m hm h1 h2=>z2 m<|Hq.2 ⟨hm,by simp[h1,h2]⟩⟩
 refine⟨⟨c.P1,c.Q1,c.T1,c.K1,c.h6,c.valid,by have:=c.fM;omega,c.jb,c.br,c.kp,fun q p hp i t hi=>?_,fun q p hp=>?_,fun m hm=>by simp[HS.taken]at hm,fun m hm=>by simp[HS.taken]at hm,by simp[HS.taken],fun hu i x hx=>?_,c.dn⟩,⟨hs.len,fun q p hp=>?_⟩,fun q p' hq=>(key q p' hq).imp fun p z=>⟨z.1,z.2.2.2⟩⟩
 ·obtain⟨p0,h0,_,_,hn⟩:=key q p hp;exact c.opn q p0 h0 i t (hn i t hi).1
 ·obtain⟨p0,h0,_,hk,_⟩:=key q p hp;exact hk
 ·have pr:=c.up hu i x hx;refine⟨pr.k,pr.c,fun h2 q p t hp hi=>?_,pr.p.Ej⟩;obtain⟨p0,h0,_,_,hn⟩:=key q p hp;exact pr.p.opn h2 q p0 t h0 (hn _ t hi).1
 ·have hl:q<gW.length:=by rw[hs.len];exact(dS.1 hp).1
  have hq:=eY hl;obtain⟨p0,h0,g,_⟩:=key q _ hq;rw[hp]at h0;cases h0;exact⟨_,hq,g⟩
def Sn.pK(c:Sn N h L)(hN:N<=90000000)(hs:BJ h h.fl gW):Uw (HS.taken h gW) L (fQ h.fl++kY h.fl h.pl):=by
 obtain⟨_,_,key⟩:=c.taken hN hs;intro m hm;rcases oN.1 hm with hm|hm
 ·obtain⟨h1,h2⟩:=Hq.1 hm;have mo:=c.ms m h1;refine⟨mo.1,fun q p' hq Ux hi=>?_⟩;obtain⟨p,hp,hn⟩:=key q p' hq;exact mo.2 (by simpa using h2) q p hp Ux (hn _ _ hi).1
 ·unfold kY at hm;obtain⟨q0,sW,hm⟩:=aaI.1 hm;have Vr:q0<h.pl.length:=Jw.1 sW;rw[eY Vr]at hm;simp only at hm;split at hm
  ·simp at hm
  ·rename_i ho;obtain⟨x,hx,rfl⟩:=Hr.1 hm;obtain⟨h1,h2⟩:=Hq.1 hx;have QS:x.k=1/\x.q=(q0:Int):=by simpa using h2
   have mo:=(c.ms x h1).1;refine⟨⟨.inr rfl,mo.q,mo.p,mo.t,mo.s,mo.ps⟩,fun q p' hq Ux hi=>?_⟩;have aC9:x.q=(q:Int):=Ux;have hqq:q=q0:=by omega
   subst hqq;obtain⟨p,hp,hn⟩:=key q p' hq;rw[eY Vr]at hp;cases hp;exact(hn _ _ hi).2 (by simpa using ho) x h1 QS.1 QS.2 ⟨rfl,rfl⟩
def Sn.round(c:Sn N h L)(hN:N<=90000000)(hs:BJ h h.fl gW)(kr:qC (HS.taken h gW) (fQ h.fl++kY h.fl h.pl) h2)(tk:BI h2 h3):∃L',Sn (N+306) h3 L'/\vC h L h3 L':=by
 obtain⟨c1,g1,_⟩:=c.taken hN hs;obtain⟨L2,c2,w2,p2,f2⟩:=c1.YE (c.pK hN hs) kr;have hl:=YF h.fl h.pl;have hf:=c.fl;have w12:vC h L h2 L2:=⟨w2.P,w2.Q,w2.T,w2.K,w2.up,w2.qt,g1.t w2.grow⟩;have c2':=c2.z (M:=N+300) (by omega);cases tk with
 |down hu=>exact⟨L2,c2'.z<|by omega,w12⟩
 |up hu t=>
  obtain⟨_,L3,c3,w3,_⟩:=c2'.tick hu t;exact⟨L3,c3,w12.t w3⟩
def Uw.take{A:List Ms}(ok:Uw h L A)(k:Nat):Uw h L (A.take k):=fun m hm=>ok m<|List.mem_of_mem_take hm
variable{j:Nat}{m:Ms}
def Sn.avW(c:Sn N h L)(hN:N<=90000000)(hs:BJ h h.fl gW)(kr:qC (HS.taken h gW) ((fQ h.fl++kY h.fl h.pl).take j) h2)(hm:(fQ h.fl++kY h.fl h.pl)[j]? =ae m):∃(i:Nat) (x:PS) (q:Nat),m.p=(i:Int)/\i<6/\h2.ps[i]? =ae x/\m.q=(q:Int)/\q<4/\mY h2 ⟨4,i,0,x.t⟩:=by
 obtain⟨c1,_,_⟩:=c.taken hN hs;have ok:=c.pK hN hs;obtain⟨L2,c2,w2,_,_⟩:=c1.YE (ok.take j) kr;obtain⟨o1,_⟩:=ok m<|gZ hm;have hl:=YF h.fl h.pl;have hf:=c.fl;have ht:((fQ h.fl++kY h.fl h.pl).take j).length<=200:=by rw[LC];omega
 have hp:0<=m.p/\m.p<h.P:=o1.p;have hq:0<=m.q/\m.q<h.Q:=o1.q;have:=c.P1.2;have:=c.Q1.2;obtain⟨i,hi⟩:=qY hp.1;obtain⟨q,hqq⟩:=qY hq.1;have l9:i<h2.ps.length:=by rw[c2.h6];omega
 exact⟨i,h2.ps[i],q,hi,by omega,eY l9,hqq,by omega,c2.adA (by omega) (.inr rfl) (.inl rfl) (by rw[w2.P];show(i:Int)<h.P;omega)<|eY l9⟩
def Sn.avX(c:Sn N h L)(hN:N<=80000000)(hs:BJ h h.fl gW)(kr:qC (HS.taken h gW) (fQ h.fl++kY h.fl h.pl) h2)(hu:h2.up=true){h1:HS}{x:PS}(hj:j<h2.P.toNat)(t:ru h2 j h1)(hx:h1.ps[j]? =ae x):x.Ed/\mY h1 ⟨3,j,0,x.t⟩:=by
 obtain⟨c1,_,_⟩:=c.taken (by omega) hs;obtain⟨L2,c2,w2,_,_⟩:=c1.YE (c.pK (by omega) hs) kr;have hl:=YF h.fl h.pl;have hf:=c.fl;exact c2.akc (by omega) hu hj t hx
def vz.avY{pl:List PL}{P Q:Int}{F:List Ms}(hm:vz pl P Q L F)(k:Nat):vz pl P Q L (F.eraseIdx k):=fun m hx=>hm m<|List.mem_of_mem_eraseIdx hx
def Sn.drop(c:Sn N h L)(fv:aA)(k:Nat):Sn N (h.iH fv<|h.fl.eraseIdx k) L:=
 c.net fv (fG (List.length_eraseIdx_le ..) c.fl) (c.ms.avY k) fun m hm=>c.dec m<|List.mem_of_mem_eraseIdx hm
def Sn.send(c:Sn N h L)(fv:aA)(mo:y9 h.P h.Q L m)(ma:m.k=2->Ph h.pl m)(hd:fD L m.p m.t m.c):Sn N (h.iH fv<|tK h.fl m) L:=
 c.net fv (ahu c.fl m) (c.ms.send mo ma) fun x hx=>by
  rcases abT hx with hx|rfl
  ·exact c.dec x hx
  ·exact hd
def Sn.copy(c:Sn N h L)(fv:aA)(hm:m∈h.fl):Sn N (h.iH fv<|tK h.fl m) L:=c.send fv (c.ms m hm).1 (c.ms m hm).2<|c.dec m hm
def Sn.marked(c:Sn N h L)(hN:N<=90000000){k:Nat}(hk:h.fl[k]? =ae m){q:Nat}{p:PL}(hq:m.q=(q:Int))(hp:h.pl[q]? =ae p)(fv v' jA:aA):
 Sn (N+1) (((h.iH fv<|h.fl.eraseIdx k).iD q ⟨p.lb,p.bm,v',p.s.closed m.p m.t m.c,p.out⟩).iH jA<|tK (h.fl.eraseIdx k) m.lJ) L/\vC h L (((h.iH fv<|h.fl.eraseIdx k).iD q ⟨p.lb,p.bm,v',p.s.closed m.p m.t m.c,p.out⟩).iH jA<|tK (h.fl.eraseIdx k) m.lJ) L:=by
 have hm:=gZ hk;have mo:=(c.ms m hm).1;obtain⟨c1,g1⟩:=(c.drop fv k).shut (by omega) hp v' mo<|c.dec m hm;obtain⟨a1,a2⟩:=aqv (pl:=h.pl) (v':=v') (p:=p) mo hq;exact⟨c1.send jA a1 (fun _=>a2)<|c.dec m hm,⟨rfl,rfl,rfl,rfl,rfl,.refl _,uD.set hp g1⟩⟩
def vC.YG(fv:aA)(l:List Ms):vC h L (h.iH fv l) L:=⟨rfl,rfl,rfl,rfl,rfl,.refl _,.refl _⟩
end
section
variable{N:Nat}{h h1:HS}{L:List Rc}
variable{i q:Nat}{x:PS}{s:aJ}{t:Int}{p:PL}{ts:ByteArray}
def Sn.avZ(c:Sn N h L)(hu:h.up=true)(hi:(i:Int)<h.P)(hx:h.ps[i]? =ae x):Next h.P h.Q L ⟨1,i,0,x.e+1⟩:=
 ⟨by simp only;omega,hi,.inl ⟨rfl,rfl,by simp only;rw[(c.up hu i x hx).k.e]⟩⟩
def Sn.av1(c:Sn N h L)(hu:h.up=true)(hi:(i:Int)<h.P)(hq:(q:Int)<h.Q)(hx:h.ps[i]? =ae x)(hs:x.s=0\/x.s=1)(ht:x.bG.getD q 0=0):Next h.P h.Q L ⟨2,i,q,x.next⟩:=by
 have k:=(c.up hu i x hx).k;have ks:=k.s;have kt:=k.t;have:=c.Q1.2;refine⟨by simp only;omega,hi,.inr<|.inl ⟨rfl,⟨by simp only;omega,hq⟩,?_⟩⟩;simp only[PS.next];rcases hs with hs|hs
 ·exact .inl ⟨by omega,by rw[if_pos hs,kt]⟩
 ·refine .inr ⟨by omega,by rw[if_neg<|by omega,kt],fun fZ=>?_⟩;have:=(k.some (by omega) q<|by omega).2 fZ;omega
def PR.heard{pl:List PL}{T K:Int}{z:St}{i:Int}(p:PR pl T K z i x)(hT:1<=T):PR pl T K z i {x with si:=0}:=
 ⟨⟨p.k.e,p.k.t,p.k.s,p.k.none,p.k.some,p.k.fM⟩,⟨⟨Int.le_refl 0,by simp,fun _=>by simp only;omega⟩,p.c.wa,p.c.ga,p.c.due⟩,⟨p.p.opn,p.p.Ej⟩⟩
def adB{i:Int}:(s.opened i t).es=s.es:=by unfold aJ.opened;split<;>rfl
def LK.opened(k:LK N L s)(i t:Int):LK (N+1) L (s.opened i t):=⟨(age k.inv i t).1,by rw[adB];exact k.dec,by rw[adB];have:=k.fM;omega⟩
def Gw.opened(k:LK N L p.s)(v':aA)(i t:Int):Gw p ⟨p.lb,p.bm,v',p.s.opened i t,p.out⟩:=⟨(age k.inv i t).2,by unfold aJ.data;simp only[adB]⟩
def Sn.again(c:Sn N h L)(hu:h.up=true)(v':aA)(hi:(i:Int)<h.P)(hq:(q:Int)<h.Q)(hx:h.ps[i]? =ae x)(hp:h.pl[q]? =ae p)(ht:x.bG.getD q 0≠0)(hs:x.s=0\/x.s=1):
 x.s=1/\Sn (N+1) ((h.iD q ⟨p.lb,p.bm,v',p.s.opened i x.t,p.out⟩).eH i {x with si:=0}) L/\uD h.pl (h.iD q ⟨p.lb,p.bm,v',p.s.opened i x.t,p.out⟩).pl:=by
 have pr:=c.up hu i x hx;have ks:=pr.k.s;have:=c.Q1.2;have Jb:x.s=1:=by
  rcases hs with hs|hs
  ·obtain⟨a,b,cc,d⟩:=pr.k.none hs;rw[Sl x q<|by omega]at ht;simp[a,b,cc,d]at ht
  ·exact hs
 have fZ:(q:Int)∈(bI L i).ps:=(pr.k.some (by omega) q<|by omega).1 (by have:=(pr.k.fM q).1;omega);have c1:Sn (N+1) (h.iD q ⟨p.lb,p.bm,v',p.s.opened i x.t,p.out⟩) L:=c.iD hp (p':=⟨p.lb,p.bm,v',p.s.opened i x.t,p.out⟩) ((c.dZ q p hp).opened _ _) (fun j t hj=>by
  rcases Xp hj with e|⟨e1,e2⟩
  ·exact c.opn q p hp j t e
  ·subst e1 e2;exact⟨by omega,hi,by omega,pr.k.t.s,fZ⟩) (fun j t hj=>(Xp hj).imp id fun⟨e1,e2⟩=>by subst e1 e2;exact⟨by omega,pr.k.t.s⟩)
 exact⟨Jb,c1.eH hu<|(c1.up hu i x hx).heard c.T1.1,uD.set hp<|Gw.opened (c.dZ q p hp) v' i x.t⟩
def Sn.added(c:Sn N h L)(hu:h.up=true)(v':aA)(hi:(i:Int)<h.P)(_:(q:Int)<h.Q)(hx:h.ps[i]? =ae x)(hp:h.pl[q]? =ae p)(hn:Next h.P h.Q L ⟨2,i,q,x.next⟩){ok:Bool}(ho:jU h ⟨2,i,q,x.next⟩ ok h1):
 ok=true/\Sn (N+2) ((h1.iD q ⟨p.lb,p.bm,v',p.s.opened i x.next,p.out⟩).eH i {x.dA ⟨2,i,q,x.next⟩with si:=0}) (L++[⟨2,i,q,x.next⟩])/\uD h.pl (h1.iD q ⟨p.lb,p.bm,v',p.s.opened i x.next,p.out⟩).pl/\h1.up=true/\h1.P=h.P/\h1.Q=h.Q/\h1.T=h.T/\h1.K=h.K:=by
 obtain⟨e,c1,jv,rfl⟩:=c.MB hu hn (fun e=>by simp at e) ho;have l9:i<h.ps.length:=(dS.1 hx).1;have iJ:(kz h.ps ⟨2,i,q,x.next⟩)[i]? =ae (x.dA ⟨2,i,q,x.next⟩):=by
  have hg:(h.ps.getD i ql)=x:=by rw[Ru,hx];rfl
  simp only[kz,OM,hg];exact nJ l9
 have dF:(bI (L++[⟨2,i,q,x.next⟩]) i).s=1/\(bI (L++[⟨2,i,q,x.next⟩]) i).t=x.next/\(q:Int)∈(bI (L++[⟨2,i,q,x.next⟩]) i).ps:=by
  rw[yZ];simp[St.step]
 have uT:({h.qo jv (gp<|fB ⟨2,i,q,x.next⟩)with ps:=kz h.ps ⟨2,i,q,x.next⟩}:HS).pl[q]? =ae p:=hp;have c2:=c1.iD uT (p':=⟨p.lb,p.bm,v',p.s.opened i x.next,p.out⟩) ((c1.dZ q p hp).opened _ _) (fun j t hj=>by
  rcases Xp hj with e|⟨e1,e2⟩
  ·exact c1.opn q p hp j t e
  ·subst e1 e2;exact⟨by omega,hi,by omega,dF.2.1,dF.2.2⟩) (fun j t hj=>(Xp hj).imp id fun⟨e1,e2⟩=>by subst e1 e2;exact⟨dF.1,dF.2.1⟩)
 exact⟨e,c2.eH hu<|(c2.up hu i _ iJ).heard c.T1.1,uD.set hp<|Gw.opened (c.dZ q p hp) v' i x.next,hu,rfl,rfl,rfl,rfl⟩
def YH{i:Int}(hc:s.nK i t ts=0):(s.lQ i t ts).es=s.es++[⟨1,i,t,ts⟩]:=by
 unfold aJ.lQ;rw[if_pos hc];rfl
def av2{i:Int}(hc:s.nK i t ts=0):(s.lQ i t ts).data=s.data++[⟨1,i,t,ts⟩]:=by
 unfold aJ.data;rw[YH hc,tu];rfl
def av3{i:Int}(hc:s.nK i t ts≠0):s.lQ i t ts=s:=by
 unfold aJ.lQ;rw[if_neg hc]
def Sn.put(c:Sn N h L)(hN:N<=100000000)(hu:h.up=true)(v':aA)(hi:(i:Int)<h.P)(hx:h.ps[i]? =ae x)(hp:h.pl[q]? =ae p)(hc:p.s.nK i x.t ts=0):
 Sn (N+1) ((h.iD q ⟨p.lb,p.bm,v',p.s.lQ i x.t ts,p.out⟩).eH i {x with si:=0}) L/\Ext p.s (p.s.lQ i x.t ts):=by
 have pr:=c.up hu i x hx;have hf:=c.valid.rW i;have Lm:=c.fM;have jW:=c.P1.2;have hI:fO (i:Int):=LZ (by omega) (by omega);have hT:fO x.t:=by rw[pr.k.t];exact LZ (by have:=hf.t0;omega) (by have:=hf.t1;omega)
 have k:=c.dZ q p hp;obtain⟨k1,k2⟩:=aoh k.inv i x.t ts hI hT;have hs:=c.SS hp (s':=p.s.lQ i x.t ts) fun j t z=>by rw[ap7]at z;exact z
 have c1:=c.iD hp (p':=⟨p.lb,p.bm,v',p.s.lQ i x.t ts,p.out⟩) ⟨k1,fun e he hk=>by
  rw[YH hc]at he;rcases oN.1 he with he|he
  ·exact k.dec e he hk
  ·rw[oM.1 he]at hk;exact absurd rfl hk,by rw[YH hc];have:=k.fM;simp<;>omega⟩ hs.1 hs.2
 exact⟨c1.eH hu<|(c1.up hu i x hx).heard c.T1.1,k2⟩
def Sn.av4(c:Sn N h L)(v':aA){s':aJ}(hp:h.pl[q]? =ae p)(e:s'=p.s):Sn (N+1) (h.iD q ⟨p.lb,p.bm,v',s',p.out⟩) L/\uD h.pl (h.iD q ⟨p.lb,p.bm,v',s',p.out⟩).pl:=by
 subst e;have hs:=c.SS hp (s':=p.s) fun _ _ z=>z;exact⟨c.iD hp (p':=⟨p.lb,p.bm,v',p.s,p.out⟩) ((c.dZ q p hp).z<|by omega) hs.1 hs.2,uD.set hp ⟨.refl _,rfl⟩⟩
def Sn.YI(c:Sn N h L):Sn N h.yx L:=
 ⟨c.P1,c.Q1,c.T1,c.K1,rfl,c.valid,c.fM,c.jb,rfl,by simp[HS.yx],c.opn,c.dZ,c.ms,c.dec,c.fl,(fun e=>by cases e),fun _=>rfl⟩
def Sn.Uy(c:Sn N h L)(jv:aA):Sn N (h.Eg jv L) L:=by
 refine⟨c.P1,c.Q1,c.T1,c.K1,W9 L,c.valid,c.fM,rfl,c.br,c.kp,c.opn,c.dZ,c.ms,c.dec,c.fl,fun _ i x hx=>?_,fun e=>by cases e⟩;have vV:(replay L)[i]? =ae x:=hx;have jW:i<6:=by rw[<-W9 L];exact(dS.1 vV).1
 obtain⟨x',mW,hr⟩:=c.valid.replay c.Q1.2 i jW;rw[mW]at vV;obtain rfl:=rP vV;have hf:=c.valid.rW i;have Qo:=c.Q1.2;have fin:=ap4 (Int.le_refl 0) L _<|gZ mW;have hT:=c.T1.1;have hK:=c.K1;have h4:∀q:Int,q∈(bI L i).ps->∃n:Nat,q=n/\n<4:=fun q hq=>by
  have:=hf.ps q hq;exact⟨q.toNat,by omega,by omega⟩
 refine⟨⟨hr.e,hr.t,hr.s,hr.none,fun h0 q hq=>?_,fun q=>?_⟩,⟨⟨by rw[hr.si];simp,by rw[hr.si];simp,fun _=>by rw[hr.si];show 0<h.T;omega⟩,by have:=fin.wa;omega,fin.ga,fun h2=>by obtain⟨_,e1,e2⟩:=hr.two h2;rw[e1,e2];show((1:Int)<=1/\1<=h.K)/\(1:Int)<=1/\1<=h.K;omega⟩,⟨fun h2 q p t hp hj=>?_,fun h2=>?_⟩⟩
 ·have hs:=hr.s;have zG:=hf.s0;rcases(show x'.s=1\/2<=x'.s by omega)with e|e
  ·rw[hr.one e q hq];by_cases fZ:(q:Int)∈(bI L i).ps
   ·rw[if_pos fZ];exact⟨fun _=>fZ,fun _=>by decide⟩
   ·rw[if_neg fZ];exact⟨fun z=>absurd z<|by decide,fun z=>absurd z fZ⟩
  ·rw[(hr.two e).1 q hq];by_cases fZ:(q:Int)∈(bI L i).ps
   ·rw[if_pos fZ];exact⟨fun _=>fZ,fun _=>by decide⟩
   ·rw[if_neg fZ];exact⟨fun z=>absurd z<|by decide,fun z=>absurd z fZ⟩
 ·by_cases hq:q<4
  ·have hs:=hr.s;have zG:=hf.s0;rcases(show x'.s=0\/x'.s=1\/2<=x'.s by omega)with e|e|e
   ·obtain⟨a,b,cc,d⟩:=hr.none e;rw[Sl x' q hq];simp[a,b,cc,d]
   ·rw[hr.one e q hq];split<;>omega
   ·rw[(hr.two e).1 q hq];split<;>omega
  ·rw[Sm x' q<|by omega];omega
 ·have fZ:=(c.opn q p hp i t hj).2.2.2.2;obtain⟨n,e,hn⟩:=h4 _ fZ;have:q=n:=by omega
  subst this;rw[(hr.two h2).1 q hn,if_pos fZ]
 ·obtain⟨q,l,hq⟩:=List.exists_cons_of_ne_nil (c.valid.parts i (by have:=hr.s;omega));have fZ:q∈(bI L i).ps:=by rw[hq];simp
  obtain⟨n,rfl,hn⟩:=h4 _ fZ;exact List.ne_nil_of_mem<|Po.2 ⟨n,hn,rfl,by rw[(hr.two h2).1 n hn,if_pos fZ];decide⟩
end
section
structure Wn where
 q:Int
 p:Int
 t:Int
 s:ByteArray
structure Fa where
 p:Int
 t:Int
 o:Int
structure PG where
 ep:List Int
 dn:Bool
 wr:List Wn
 fa:List Fa
 gt:List (List Rec)
 st:List Nat
def Wn.Uz(w:Wn):iG:=⟨1,w.p,w.t,w.s⟩
def Fa.is(p t:Int)(f:Fa):Bool:=decide (f.p=p)&&decide (f.t=t)
def iR(l:List Fa)(p t:Int):Int:=((l.find?<|Fa.is p t).map Fa.o).getD 0
structure Pg(N:Nat)(h:HS)(L:List Rc)(g:PG):Prop where
 sn:Sn N h L
 ep:(g.ep.length:Int)=h.P
 ee:∀(i:Nat) (e:Int),g.ep[i]? =ae e->e=(bI L i).e/\1<=e
 dn:g.dn= !h.up
 wr:∀(q:Nat) (p:PL),h.pl[q]? =ae p->p.s.data=(g.wr.filter fun w=>decide<|w.q=(q:Int)).map Wn.Uz
 fa:∀f∈g.fa,(f.o=1/\fD L f.p f.t true)\/(f.o=2/\fD L f.p f.t false)
 fc:∀p t,fD L p t true->∃f∈g.fa,f.p=p/\f.t=t
 gl:g.gt.length=h.pl.length
 sl:g.st.length=h.pl.length
 bF:∀(q:Nat) (p:PL),h.pl[q]? =ae p->∃s0,Ext s0 p.s/\g.gt[q]? =ae (s0.bF 0 s0.dC)/\g.st[q]? =ae s0.dC
variable{N:Nat}{h:HS}{L:List Rc}{g:PG}
variable{p t:Int}{q:Nat}
def adC{f:Fa}:f.is p t=true↔f.p=p/\f.t=t:=by simp[Fa.is]
def adD(c:Pg N h L g)(p t:Int):(iR g.fa p t=0/\¬fD L p t true)\/(iR g.fa p t=1/\fD L p t true)\/(iR g.fa p t=2/\fD L p t false):=by
 unfold iR;cases e:g.fa.find? (Fa.is p t)with
 |none=>
  refine .inl ⟨rfl,fun d=>?_⟩;obtain⟨f,hf,h1,h2⟩:=c.fc p t d;have:=List.find?_eq_none.1 e f hf;exact this<|adC.2 ⟨h1,h2⟩
 |some f=>
  obtain⟨h1,h2⟩:=adC.1<|List.find?_some e;have hf:=c.fa f<|List.mem_of_find?_eq_some e;rw[h1,h2]at hf;exact .inr hf
def Np(c:Pg N h L g):iR g.fa p t=1↔fD L p t true:=by
 have:=(c.sn.valid.Me p).one t;rcases adD c p t with⟨e,d⟩|⟨e,d⟩|⟨e,d⟩
 ·exact⟨fun z=>by omega,fun z=>absurd z d⟩
 ·exact⟨fun _=>d,fun _=>e⟩
 ·exact⟨fun z=>by omega,fun z=>by have:=this _ _ z d;cases this⟩
def av5(c:Pg N h L g)(i:Int):((bI L i).s=1->iR g.fa i (bI L i).t=0)/\((bI L i).s=2->iR g.fa i (bI L i).t=1)/\((bI L i).s=3->iR g.fa i (bI L i).t=0\/iR g.fa i (bI L i).t=2):=by
 have d:=c.sn.valid.Me i;refine⟨fun z=>?_,fun z=>?_,fun z=>?_⟩
 ·rcases adD c i (bI L i).t with⟨e,_⟩|⟨_,h⟩|⟨_,h⟩
  ·exact e
  ·have:=d.le _ _ h;omega
  ·have:=d.le _ _ h;omega
 ·have:=d.now (by omega);rw[z]at this;exact(Np c).2 this
 ·have hd:=d.now (by omega);rw[z]at hd;rcases adD c i (bI L i).t with⟨e,_⟩|⟨_,h⟩|⟨e,_⟩
  ·exact .inl e
  ·have:=d.one _ _ _ h hd;cases this
  ·exact .inr e
def akd(s:aJ):∀k,k<=s.es.length->(s.bF 0 k).map (fun r=>(r.p,r.s))=((s.es.take k).filter s.Ea).map fun e=>(e.p,e.s)
 |0,_=>by simp[aJ.bF]
 |k+1,hk=>by
  have he:=eY (show k<s.es.length by omega);rw[aJ.Hu s<|kH k,OO,akd s k<|by omega,yu,he,tu,OO];congr 1;unfold aJ.pick;rw[he];simp only[CO];cases hp:s.Ea s.es[k]<;>simp[hp]
def Pg.ake(c:Pg N h L g){p:PL}(hp:h.pl[q]? =ae p):(g.wr.filter fun w=>decide (w.q=(q:Int))&&decide (iR g.fa w.p w.t=1)).map (fun w=>(w.p,w.s))=(p.s.bF 0 p.s.dC).map (fun r=>(r.p,r.s))++((p.s.es.drop p.s.dC).filter fun e=>decide (e.k=1)&&decide (iR g.fa e.p e.t=1)).map fun e=>(e.p,e.s):=by
 have k:=c.sn.dZ q p hp;have aBt:=agk k.inv;have hS:=p.s.LJ;have e1:(p.s.es.take p.s.dC).filter p.s.Ea=(p.s.es.take p.s.dC).filter fun e=>decide (e.k=1)&&decide (iR g.fa e.p e.t=1):=by
  refine OL fun e he=>?_;unfold aJ.Ea;by_cases h1:e.k=1
  ·simp only[h1,decide_true,Bool.true_and];obtain⟨i,hi,hie⟩:=List.mem_iff_getElem.1 he;have l9:i<p.s.dC:=by
    have:=hi;rw[LC]at this;omega
   have Oz:p.s.es[i]? =ae e:=by
    rw[List.getElem_take]at hie;rw[<-hie];exact eY _
   obtain⟨qq,st⟩:=aBt i e l9 Oz h1;have av6:oO p.s.es e.p e.t=ae qq:=st.oO;obtain⟨m,x,_,hxm,KQ⟩:=st.late;have hx:=gZ hxm;have hxk:=st.all x hx KQ;have hd:=k.dec x hx KQ.1;rw[KQ.2.1,KQ.2.2,hxk]at hd;rw[av6];by_cases h2:qq=2
   ·subst h2;have:iR g.fa e.p e.t=1:=(Np c).2 hd;simp[this]
   ·have Jf:fD L e.p e.t false:=by simpa[h2]using hd
    have:iR g.fa e.p e.t≠1:=fun z=>by
     have:=(c.sn.valid.Me e.p).one _ _ _ ((Np c).1 z) Jf;cases this
    simp[this,h2]
  ·simp[h1]
 have e2:(g.wr.filter fun w=>decide (w.q=(q:Int))&&decide (iR g.fa w.p w.t=1)).map (fun w=>(w.p,w.s))=(p.s.es.filter fun e=>decide (e.k=1)&&decide (iR g.fa e.p e.t=1)).map fun e=>(e.p,e.s):=by
  have hd:=c.wr q p hp;have h1:(p.s.es.filter fun e=>decide (e.k=1)&&decide (iR g.fa e.p e.t=1))=p.s.data.filter fun e=>decide (iR g.fa e.p e.t=1):=by
   unfold aJ.data;rw[List.filter_filter];exact OL fun e _=>Bool.and_comm _ _
  rw[h1,hd,List.filter_map,List.map_map,List.filter_filter];have h2:(g.wr.filter fun w=>decide (w.q=(q:Int))&&decide (iR g.fa w.p w.t=1))=g.wr.filter fun a=>((fun e:iG=>decide<|iR g.fa e.p e.t=1)∘Wn.Uz) a&&decide (a.q=(q:Int)):=OL fun w _=>Bool.and_comm _ _;rw[h2];rfl
 rw[e2,akd p.s p.s.dC hS,e1,<-OO,<-tu,aaD]
def Pg.av7(c:Pg N h L g){p:PL}(hp:h.pl[q]? =ae p):∃rest,(g.wr.filter fun w=>decide (w.q=(q:Int))&&decide (iR g.fa w.p w.t=1)).map (fun w=>(w.p,w.s))=(p.s.bF 0 p.s.dC).map (fun r=>(r.p,r.s))++rest:=⟨_,c.ake hp⟩
end
section
variable{N M:Nat}{h h':HS}{L L':List Rc}{g:PG}
def Pg.z(c:Pg N h L g)(hM:N<=M):Pg M h L g:=⟨c.sn.z hM,c.ep,c.ee,c.dn,c.wr,c.fa,c.fc,c.gl,c.sl,c.bF⟩
def Pg.step(c:Pg N h L g)(sn:Sn M h' L')(hP:h'.P=h.P)(hu:h'.up=h.up)(gr:uD h.pl h'.pl)(he:∀i,(bI L' i).e=(bI L i).e)(hd:∀p t b,fD L p t b->fD L' p t b)(Jf:∀p t,fD L' p t true->fD L p t true):Pg M h' L' g:=by
 have back:∀(q:Nat) (p':PL),h'.pl[q]? =ae p'->∃p,h.pl[q]? =ae p/\Gw p p':=fun q p' hq=>by
  have hl:q<h.pl.length:=by rw[<-gr.1];exact(dS.1 hq).1
  obtain⟨p2,h2,gw⟩:=gr.2 q _<|eY hl;rw[hq]at h2;cases h2;exact⟨_,eY hl,gw⟩
 refine⟨sn,by rw[hP];exact c.ep,fun i e hi=>by rw[he];exact c.ee i e hi,by rw[hu];exact c.dn,fun q p' hq=>?_,fun f hf=>(c.fa f hf).imp (fun z=>⟨z.1,hd _ _ _ z.2⟩) fun z=>⟨z.1,hd _ _ _ z.2⟩,fun p t z=>c.fc p t<|Jf p t z,by rw[gr.1];exact c.gl,by rw[gr.1];exact c.sl,fun q p' hq=>?_⟩
 ·obtain⟨p,hp,gw⟩:=back q p' hq;rw[gw.data];exact c.wr q p hp
 ·obtain⟨p,hp,gw⟩:=back q p' hq;obtain⟨s0,e0,e1,e2⟩:=c.bF q p hp;exact⟨s0,e0.t gw.ext,e1,e2⟩
variable{r:Rc}{p t:Int}{i q:Nat}
def YJ(L:List Rc)(hr:r.k≠1)(i:Int):(bI (L++[r]) i).e=(bI L i).e:=by
 rw[yZ];unfold St.step;simp only[if_neg hr];repeat' split
 all_goals rfl
def Qt.e(q:Qt L L')(i:Int):(bI L' i).e=(bI L i).e:=by
 obtain⟨l,rfl,hl⟩:=q;induction l generalizing L with
 |nil=>rw[qM]
 |cons r l ih=>
  rw[show L++r::l=(L++[r])++l by simp,ih (L:=L++[r]) (fun x hx=>hl x<|by simp[hx]),YJ L (by have:=hl r (by simp);omega)]
def Qt.dec(q:Qt L L'):fD L' p t true->fD L p t true:=by
 obtain⟨l,rfl,hl⟩:=q;rintro⟨r,hr,h1,h2,h3,h4⟩;rcases oN.1 hr with hr|hr
 ·exact⟨r,hr,h1,h2,h3,h4⟩
 ·have:=hl r hr;simp only[if_true]at h4;omega
def Qt.more(q:Qt L L'){b:Bool}(d:fD L p t b):fD L' p t b:=by
 obtain⟨l,rfl,_⟩:=q;exact d.more l
def Pg.EG(c:Pg N h L g)(sn:Sn M h' L')(w:vC h L h' L'):Pg M h' L' g:=c.step sn w.P w.up w.grow w.qt.e (fun _ _ _ d=>w.qt.more d) fun _ _ d=>w.qt.dec d
def Pg.av8(c:Pg N h L g){i:Int}(hd:fD L i t false):Pg N h L {g with fa:=g.fa++[⟨i,t,2⟩]}:=
 ⟨c.sn,c.ep,c.ee,c.dn,c.wr,fun f hf=>by
  rcases oN.1 hf with hf|hf
  ·exact c.fa f hf
  ·rw[oM.1 hf];exact .inr ⟨rfl,hd⟩,fun p t d=>by
  obtain⟨f,hf,e⟩:=c.fc p t d;exact⟨f,CJ _ hf,e⟩,c.gl,c.sl,c.bF⟩
def Pg.ended(c:Pg N h L g){cm:Bool}(sn:Sn M h' (L++[⟨3,i,if cm then 1 else 0,t⟩]))(hP:h'.P=h.P)(hu:h'.up=h.up)(iT:h'.pl=h.pl):Pg M h' (L++[⟨3,i,if cm then 1 else 0,t⟩]) {g with fa:=g.fa++[⟨i,t,if cm then 1 else 2⟩]}:=by
 have AA:fD (L++[⟨3,i,if cm then 1 else 0,t⟩]) i t cm:=⟨⟨3,i,if cm then 1 else 0,t⟩,Rx _<|oM.2 rfl,rfl,rfl,rfl,rfl⟩;refine⟨sn,by rw[hP];exact c.ep,fun j e hj=>by rw[YJ L<|by simp];exact c.ee j e hj,by rw[hu];exact c.dn,fun q p hq=>c.wr q p (by rw[<-iT];exact hq),fun f hf=>?_,fun p t' d=>?_,by rw[iT];exact c.gl,by rw[iT];exact c.sl,fun q p hq=>c.bF q p (by rw[<-iT];exact hq)⟩
 ·rcases oN.1 hf with hf|hf
  ·exact(c.fa f hf).imp (fun z=>⟨z.1,z.2.snoc _⟩) fun z=>⟨z.1,z.2.snoc _⟩
  ·rw[oM.1 hf];cases cm
   ·exact .inr ⟨rfl,AA⟩
   ·exact .inl ⟨rfl,AA⟩
 ·rcases d.Ei with d|⟨_,h2,h3,_⟩
  ·obtain⟨f,hf,e⟩:=c.fc p t' d;exact⟨f,CJ _ hf,e⟩
  ·exact⟨⟨i,t,if cm then 1 else 2⟩,Rx _<|oM.2 rfl,h2,h3⟩
def Pg.av9(c:Pg N h L g){e0:Int}(hi:g.ep[i]? =ae e0)(sn:Sn M h' (L++[⟨1,i,0,e0+1⟩]))(hP:h'.P=h.P)(hu:h'.up=h.up)(iT:h'.pl=h.pl):Pg M h' (L++[⟨1,i,0,e0+1⟩]) {g with ep:=g.ep.set i<|e0+1}:=by
 have old:∀{p t b},fD (L++[⟨1,i,0,e0+1⟩]) p t b->fD L p t b:=fun d=>d.Ei.resolve_right (fun z=>by have:=z.1;simp at this);refine⟨sn,by rw[hP,zZ];exact c.ep,fun j e hj=>?_,by rw[hu];exact c.dn,fun q p hq=>c.wr q p (by rw[<-iT];exact hq),fun f hf=>(c.fa f hf).imp (fun z=>⟨z.1,z.2.snoc _⟩) fun z=>⟨z.1,z.2.snoc _⟩,fun p t d=>c.fc p t<|old d,by rw[iT];exact c.gl,by rw[iT];exact c.sl,fun q p hq=>c.bF q p (by rw[<-iT];exact hq)⟩;rw[yZ];rcases CZ hj with⟨rfl,rfl⟩|⟨dD,DJ⟩
 ·have:=(c.ee j e0 hi).2;exact⟨by simp[St.step],by omega⟩
 ·rw[St.Hz _ (by show(i:Int)≠j;omega)];exact c.ee j e DJ
def Pg.add(c:Pg N h L g)(hr:r.k=2)(sn:Sn M h' (L++[r]))(hP:h'.P=h.P)(hu:h'.up=h.up)(gr:uD h.pl h'.pl):Pg M h' (L++[r]) g:=
 c.step sn hP hu gr (YJ L<|by omega) (fun _ _ _ d=>d.snoc r) fun _ _ d=>d.Ei.resolve_right fun z=>by have:=z.1;omega
def Pg.same(c:Pg N h L g)(sn:Sn M h' L)(hP:h'.P=h.P)(hu:h'.up=h.up)(gr:uD h.pl h'.pl):Pg M h' L g:=c.step sn hP hu gr (fun _=>rfl) (fun _ _ _ d=>d) fun _ _ d=>d
def Pg.abort(c:Pg N h L g)(sn:Sn M h' (L++[⟨3,i,0,t⟩]))(hP:h'.P=h.P)(hu:h'.up=h.up)(iT:h'.pl=h.pl):Pg M h' (L++[⟨3,i,0,t⟩]) g:=
 c.step sn hP hu (by rw[iT];exact .refl _) (YJ L<|by simp) (fun _ _ _ d=>d.snoc _) fun _ _ d=>(Qt.one (L:=L) (r:=⟨3,i,0,t⟩)<|.inr ⟨rfl,rfl⟩).dec d
def Pg.put(c:Pg N h L g){p:PL}{ts:ByteArray}{p':PL}(hp:h.pl[q]? =ae p)(sn:Sn M h' L)(hP:h'.P=h.P)(hu:h'.up=h.up)(iT:h'.pl=h.pl.set q p')(hd:p'.s.data=p.s.data++[⟨1,i,t,ts⟩])(ext:Ext p.s p'.s):Pg M h' L {g with wr:=g.wr++[⟨q,i,t,ts⟩]}:=by
 refine⟨sn,by rw[hP];exact c.ep,c.ee,by rw[hu];exact c.dn,fun j a ha=>?_,c.fa,c.fc,by rw[iT,zZ];exact c.gl,by rw[iT,zZ];exact c.sl,fun j a ha=>?_⟩
 ·rw[iT]at ha;show a.s.data=((g.wr++[(⟨q,i,t,ts⟩:Wn)]).filter fun w:Wn=>decide<|w.q=(j:Int)).map Wn.Uz;rw[tu,OO];rcases CZ ha with⟨rfl,rfl⟩|⟨dD,ha'⟩
  ·rw[hd,c.wr j p hp];simp[Wn.Uz]
  ·rw[c.wr j a ha'];have:¬((q:Int)=j):=by omega
   simp[this]
 ·rw[iT]at ha;rcases CZ ha with⟨rfl,rfl⟩|⟨_,ha'⟩
  ·obtain⟨s0,e0,e1,e2⟩:=c.bF j p hp;exact⟨s0,e0.t ext,e1,e2⟩
  ·exact c.bF j a ha'
def Pg.looked(c:Pg N h L g){p:PL}(hp:h.pl[q]? =ae p):Pg N h L {g with gt:=g.gt.set q<|p.s.bF 0 p.s.dC,st:=g.st.set q p.s.dC}:=by
 have hl:=(dS.1 hp).1;refine⟨c.sn,c.ep,c.ee,c.dn,c.wr,c.fa,c.fc,by rw[zZ];exact c.gl,by rw[zZ];exact c.sl,fun j a ha=>?_⟩;by_cases e:q=j
 ·subst e;rw[hp]at ha;cases ha;exact⟨p.s,.refl _,nJ (by rw[c.gl];exact hl),nJ (by rw[c.sl];exact hl)⟩
 ·obtain⟨s0,e0,e1,e2⟩:=c.bF j a ha;exact⟨s0,e0,by rw[vZ e];exact e1,by rw[vZ e];exact e2⟩
def Pg.YI(c:Pg N h L g):Pg N h.yx L {g with dn:=true}:=⟨c.sn.YI,c.ep,c.ee,rfl,c.wr,c.fa,c.fc,c.gl,c.sl,c.bF⟩
def Pg.Uy(c:Pg N h L g)(jv:aA):Pg N (h.Eg jv L) L {g with dn:=false}:=⟨c.sn.Uy jv,c.ep,c.ee,rfl,c.wr,c.fa,c.fc,c.gl,c.sl,c.bF⟩
end
section
open _root_.Go.Proofs.YtkelpcjiediamaaGreat.Twin (zt kY fQ BJ BI HS.taken)
def Qp(h h3:HS):Prop:=∃gW h2,BJ h h.fl gW/\qC (HS.taken h gW) (fQ h.fl++kY h.fl h.pl) h2/\BI h2 h3
inductive Lv(T:Int)(fl:List Ms)(i:Nat)(x:PS)(m:Nat):Prop
 |idle (hs:x.s=0)
 |going (hs:x.s=1) (hm:T-x.si+2<=m)
 |due (hs:x.s=2\/x.s=3) (hm:x.wa+1<=m)
 |EH (hs:x.s=2\/x.s=3) (hm:1<=m) (hf:∀q∈bZ x.bG 2 4,∃c,(⟨1,q,i,x.t,c⟩:Ms)∈fl)
variable{N:Nat}{h h' h1 h2 h3:HS}{L:List Rc}{i j m:Nat}{x y:PS}
variable{fl:List Ms}{pl:List PL}
def Lv.z{T:Int}{fl':List Ms}{k:Nat}(v:Lv T fl i x m)(hf:∀z∈fl,z∈fl')(hk:m<=k):Lv T fl' i x k:=by
 cases v with
 |idle hs=>exact .idle hs
 |going hs hm=>exact .going hs<|by omega
 |due hs hm=>exact .due hs<|by omega
 |EH hs hm E8=>exact .EH hs (by omega) fun q hq=>(E8 q hq).imp fun c hc=>hf _ hc
variable{z:Ms}
def awc(hb:h.br=false)(hq:0<=z.q/\z.q<4)(hx:h.ps[i]? =ae x)(hj:z.p=(j:Int))(hy:h.ps[j]? =ae y)(a:zf h j y z h1):
 h1.br=false/\h1.up=h.up/\∃x1,h1.ps[i]? =ae x1/\(x1.s=0\/(x1.s=x.s/\x1.t=x.t/\x1.si=x.si/\x1.wa=x.wa/\∀q:Nat,2<=x1.bG.getD q 0->2<=x.bG.getD q 0/\¬(h.up=true/\(x.s=2\/x.s=3)/\z.p=i/\z.t=x.t/\z.q=q))):=by
 have KU:=(dS.1 hy).1;cases a with
 |idle hi=>
  refine⟨hb,rfl,x,hx,.inr ⟨rfl,rfl,rfl,rfl,fun q h2=>⟨h2,fun⟨z1,z2,z3,z4,z5⟩=>?_⟩⟩⟩;obtain rfl:j=i:=by omega
  rw[hx]at hy;cases hy;exact hi ⟨z1,z2,z4.s⟩
 |done hi ht hw=>
  cases hw with
  |uC jv qI=>rw[hb]at qI;cases qI
  |ok jv _=>
   refine⟨hb,rfl,?_⟩;rw[O7 hy rfl];by_cases e:j=i
   ·subst e;exact⟨_,nJ KU,.inl<|by simp[PS.dA]⟩
   ·exact⟨x,(vZ e).t hx,.inr ⟨rfl,rfl,rfl,rfl,fun q h2=>⟨h2,fun z=>e<|by omega⟩⟩⟩
 |tie hi ht=>
  refine⟨hb,rfl,?_⟩;by_cases e:j=i
  ·subst e;rw[hx]at hy;cases hy;obtain⟨_,r2,r3,r4,r5,_⟩:=H7 x z.q.toNat 1;refine⟨_,nJ KU,.inr ⟨r3,r2,r4,r5,fun q h2=>?_⟩⟩;rw[H6 x z.q.toNat 1 (by omega) (by omega) q]at h2;split at h2
   ·omega
   ·exact⟨h2,fun w=>by omega⟩
  ·exact⟨x,(vZ e).t hx,.inr ⟨rfl,rfl,rfl,rfl,fun q h2=>⟨h2,fun z=>e<|by omega⟩⟩⟩
def awd{A:List Ms}:∀{h:HS} {x:PS},h.br=false->h.up=true->(∀z∈A,0<=z.q/\z.q<4)->qC h A h2->h.ps[i]? =ae x->
 ∃x2,h2.ps[i]? =ae x2/\(x2.s=0\/(x2.s=x.s/\x2.t=x.t/\x2.si=x.si/\x2.wa=x.wa/\∀q:Nat,2<=x2.bG.getD q 0->2<=x.bG.getD q 0/\((x.s=2\/x.s=3)->∀z∈A,¬(z.p=i/\z.t=x.t/\z.q=q)))):=by
 induction A with
 |nil=>
  intro h x _ _ _ k hx;cases k;exact⟨x,hx,.inr ⟨rfl,rfl,rfl,rfl,fun q h2=>⟨h2,fun _ z hz=>by simp at hz⟩⟩⟩
 |cons z A ih=>
  intro h x hb hu hq k hx;cases k with
  |cons hi hy a r=>
   obtain⟨b1,u1,x1,iJ,ho⟩:=awc hb (hq z<|by simp) hx hi hy a;obtain⟨x2,mW,VR⟩:=ih b1 (u1.t hu) (fun z hz=>hq z<|by simp[hz]) r iJ;refine⟨x2,mW,?_⟩;rcases ho with ho|⟨e1,e2,e3,e4,e5⟩
   ·rcases VR with h0|⟨f1,_⟩
    ·exact .inl h0
    ·exact .inl<|f1.t ho
   ·rcases VR with h0|⟨f1,f2,f3,f4,f5⟩
    ·exact .inl h0
    ·refine .inr ⟨f1.t e1,f2.t e2,f3.t e3,f4.t e4,fun q h2=>?_⟩;obtain⟨g1,g2⟩:=f5 q h2;obtain⟨g3,g4⟩:=e5 q g1;refine⟨g3,fun hs y hy=>?_⟩;rcases jZ.1 hy with rfl|hy
     ·exact fun w=>g4 ⟨hu,hs,w⟩
     ·have:=g2 (by rw[e1];exact hs) y hy;rw[e2]at this;exact this
def akg(ts:List Int)(l:Int):(bZ ts l 4).length<=4:=by
 unfold bZ;rw[Fz];exact fG (D8 _ _)<|by simp
def adE{i t:Int}{c:Bool}:∀(qs:List Int) {l:List Ms},l.length+qs.length<=100->(∀z∈l,z∈wC l i t c qs)/\(∀q∈qs,(⟨1,q,i,t,c⟩:Ms)∈wC l i t c qs)/\(wC l i t c qs).length<=l.length+qs.length
 |[],l,_=>⟨fun _ hz=>hz,by simp,dI _⟩
 |q::qs,l,hl=>by
  rw[oH]at hl;have e:tK l ⟨1,q,i,t,c⟩=l++[⟨1,q,i,t,c⟩]:=by unfold tK;rw[if_neg<|by omega]
  have hs:wC l i t c (q::qs)=wC (l++[⟨1,q,i,t,c⟩]) i t c qs:=by rw[<-e];rfl
  obtain⟨k1,k2,k3⟩:=adE (i:=i) (t:=t) (c:=c) qs (l:=l++[⟨1,q,i,t,c⟩]) (by simp<;>omega);rw[hs];refine⟨fun z hz=>k1 z<|by simp[hz],fun q' qH=>?_,by simp at k3⊢;omega⟩;rcases jZ.1 qH with rfl|qH
  ·exact k1 _<|by simp
  ·exact k2 q' qH
def awe(zI:i≠j)(_:h.br=false)(_:h.ps[j]? =ae y)(l:wE h j y true h'):h'.ps[i]? =h.ps[i]? :=by
 cases l with
 |xu=>exact vZ zI.s
 |idle=>rfl
 |timeout hs ht hw=>
  cases hw with
  |ok jv _=>
   show(kz _ _)[i]? =_;simp only[kz,OM,HS.eH,List.set_set];exact vZ zI.s
 |rem hs hr=>cases hr<;>exact vZ zI.s
def awf(hl:h.fl.length+4<=100)(l:wE h j y true h'):(∀z∈h.fl,z∈h'.fl)/\h'.fl.length<=h.fl.length+4/\h'.T=h.T:=by
 cases l with
 |xu=>exact⟨fun _ z=>z,WR _ _,rfl⟩
 |idle=>exact⟨fun _ z=>z,WR _ _,rfl⟩
 |timeout hs ht hw=>
  cases hw with
  |ok jv _=>exact⟨fun _ z=>z,WR _ _,rfl⟩
 |rem hs hr=>
  cases hr with
  |wait=>exact⟨fun _ z=>z,WR _ _,rfl⟩
  |due fv hw=>
   have:=akg y.bG 2;obtain⟨k1,_,k3⟩:=adE (i:=j) (t:=y.t) (c:=y.s==2) (bZ y.bG 2 4) (l:=h.fl) (by omega);exact⟨k1,fG k3<|by omega,rfl⟩
def awg(c:Sn N h L)(hu:h.up=true)(hx:h.ps[i]? =ae x)(hl:h.fl.length+4<=100)(l:wE h i x true h')(v:Lv h.T [] i x (m+1)):∃x',h'.ps[i]? =ae x'/\Lv h'.T h'.fl i x' m:=by
 have pr:=c.up hu i x hx;have l9:=(dS.1 hx).1;have ZO:=pr.c.si;cases l with
 |idle hs=>
  refine⟨x,hx,?_⟩;cases v with
  |idle h0=>exact .idle h0
  |going h1=>exact absurd (.inl h1) hs
  |due h1=>exact absurd (.inr h1) hs
  |EH h1=>exact absurd (.inr h1) hs
 |xu hs ht=>
  refine⟨_,nJ l9,?_⟩;cases v with
  |idle h0=>omega
  |going _ hm=>exact .going hs (by show h.T-(x.si+1)+2<=m;omega)
  |due h1=>omega
  |EH h1=>omega
 |timeout hs ht hw=>
  cases hw with
  |ok jv _=>
   have iJ:(h.eH i {x with si:=x.si+1}).ps[i]? =ae {x with si:=x.si+1}:=nJ l9;rw[O7 iJ rfl];refine⟨_,nJ (by show i<(h.ps.set i _).length;rw[zZ];exact l9),?_⟩;cases v with
   |idle h0=>omega
   |going _ hm=>exact .due (.inr<|by simp[PS.dA]) (by simp only[PS.dA];simp<;>omega)
   |due h1=>omega
   |EH h1=>omega
 |rem hs hr=>
  have pn:=pr.p.Ej (by omega);have du:=pr.c.due (by omega);have hm:x.wa+1<=(m+1:Nat):=by
   cases v with
   |idle h0=>omega
   |going h1=>omega
   |due _ hm=>exact hm
   |EH _ _ hf=>
    obtain⟨q,hq⟩:=List.exists_mem_of_ne_nil _ pn;obtain⟨_,hc⟩:=hf q hq;simp at hc
  cases hr with
  |wait hw=>exact⟨_,nJ l9,.due hs (by show x.wa-1+1<=(m:Int);omega)⟩
  |due fv hw=>
   refine⟨_,nJ l9,.EH hs (by omega) fun q hq=>⟨x.s==2,?_⟩⟩;have:=akg x.bG 2;exact(adE (i:=i) (t:=x.t) (c:=x.s==2) (bZ x.bG 2 4) (l:=h.fl)<|by omega).2.1 q hq
def awh(c:Sn N h L)(hu:h.up=true)(hf:h.fl=[])(t:ru h j h1):(j:Int)<=h.P->h1.fl.length<=4*j/\h1.T=h.T/\∀(i:Nat) (x:PS),h.ps[i]? =ae x->Lv h.T [] i x (m+1)->∃x1,h1.ps[i]? =ae x1/\(i<j->Lv h1.T h1.fl i x1 m)/\(j<=i->x1=x):=by
 induction t with
 |zero=>exact fun _=>⟨by rw[hf];simp,rfl,fun i x hx _=>⟨x,hx,fun z=>by omega,fun _=>rfl⟩⟩
 | @succ k g g' y t hy l ih=>
   intro hj;obtain⟨L1,c1,w1,_⟩:=c.Qn hu t (by omega);obtain⟨k1,k2,k3⟩:=ih (by omega);have hP:=c.P1;have hl:g.fl.length+4<=100:=by omega
   have hu1:g.up=true:=w1.up.t hu;obtain⟨f1,f2,f3⟩:=awf hl l;refine⟨by omega,f3.t k2,fun i x hx v=>?_⟩;obtain⟨x1,iJ,v1,e1⟩:=k3 i x hx v;by_cases hi:i=k
   ·subst hi;obtain rfl:=e1<|dI _;rw[iJ]at hy;cases hy;obtain⟨x2,mW,v2⟩:=awg c1 hu1 iJ hl l (by rw[k2];exact v);exact⟨x2,mW,fun _=>v2,fun z=>by omega⟩
   ·refine⟨x1,(awe hi c1.br hy l).t iJ,fun z=>?_,fun z=>e1<|by omega⟩;rw[f3];exact(v1<|by omega).z f1<|dI _
def awi{q:Nat}{p:PL}(hz:z∈fl)(hk:z.k=1)(hq:z.q=(q:Int))(hp:pl[q]? =ae p)(ho:p.out=false):z.lJ∈kY fl pl:=by
 unfold kY;refine aaI.2 ⟨q,Jw.2 (dS.1 hp).1,?_⟩;simp only[hp,ho,kG,kJ];exact Hr.2 ⟨z,Hq.2 ⟨hz,by simp[hk,hq]⟩,rfl⟩
def akh(c:Sn N h L)(hN:N<=90000000)(hu:h.up=true)(hQ:h.Q=h.pl.length)(ho:∀(q:Nat) (p:PL),h.pl[q]? =ae p->p.out=false)(r:Qp h h3)(v:∀(i:Nat) (x:PS),(i:Int)<h.P->h.ps[i]? =ae x->Lv h.T h.fl i x (m+1)):
 (∀(i:Nat) (x:PS),(i:Int)<h.P->h3.ps[i]? =ae x->Lv h3.T h3.fl i x m)/\(∀(q:Nat) (p:PL),h3.pl[q]? =ae p->p.out=false):=by
 obtain⟨gW,h2,hs,kr,tk⟩:=r;obtain⟨c1,_,_⟩:=c.taken hN hs;have ak:=c.pK hN hs;obtain⟨L2,c2,w2,p2,f2⟩:=c1.YE ak kr;have Rk:h2.up=true:=w2.up.t hu;have hP:=c.P1;have UA:=c.Q1;have pl2:∀(q:Nat) (p:PL),h2.pl[q]? =ae p->p.out=false:=fun q p hp=>by
  rw[p2]at hp;have qV:gW[q]? =ae p:=hp;have hl:q<h.pl.length:=by rw[<-hs.len];exact(dS.1 qV).1
  obtain⟨v',e⟩:=hs.get q _<|eY hl;rw[e]at qV;cases qV;exact ho q h.pl[q]<|eY hl
 have hA:∀z∈fQ h.fl++kY h.fl h.pl,0<=z.q/\z.q<4:=fun z hz=>by
  have h1:=(ak z hz).1.q;have h2:(HS.taken h gW).Q=h.Q:=rfl;omega
 have v2:∀(i:Nat) (x:PS),(i:Int)<h.P->h2.ps[i]? =ae x->Lv h2.T [] i x (m+1):=fun i x hi mW=>by
  have l9:i<h.ps.length:=by rw[c.h6];omega
  obtain⟨y,hy⟩:∃y,h.ps[i]? =ae y:=⟨_,eY l9⟩;obtain⟨x2,aki,tr⟩:=awd (h:=HS.taken h gW) c.br hu hA kr hy;rw[mW]at aki;cases aki;have hT:h2.T=h.T:=w2.T;rcases tr with h0|⟨e1,e2,e3,e4,e5⟩
  ·exact .idle h0
  cases v i y hi hy with
  |idle h0=>exact .idle<|e1.t h0
  |going h1 hm=>exact .going (e1.t h1) (by rw[hT,e3];exact hm)
  |due h1 hm=>exact .due (by rw[e1];exact h1) (by rw[e4];exact hm)
  |EH h1 hm hf=>
   exfalso;have hpn:=(c2.up Rk i x mW).p.Ej (by rw[e1];omega);obtain⟨q,hq⟩:=List.exists_mem_of_ne_nil _ hpn;obtain⟨k,yO,rfl,h2k⟩:=Po.1 hq;obtain⟨g1,g2⟩:=e5 k h2k;obtain⟨cc,hc⟩:=hf k<|Po.2 ⟨k,yO,rfl,g1⟩;have Ux:=(c.ms _ hc).1.q;have oq:k<h.pl.length:=by have:(k:Int)<h.Q:=Ux.2;omega
   have fZ:=awi (pl:=h.pl) hc rfl rfl (eY oq)<|ho k _<|eY oq;exact g2 h1 _ (Rx _ fZ) ⟨rfl,rfl,rfl⟩
 cases tk with
 |down hd=>rw[Rk]at hd;cases hd
 |up _ t=>
  have jS:h2.fl=[]:=f2;cases t with
  |uC hj t hx l=>
   obtain⟨L3,c3,w3,_⟩:=c2.Qn Rk t (by have:=c2.P1;omega);have:=(c3.look (w3.up.t Rk) (by rw[w3.P];omega) hx l).1;cases this
  |all t=>
   have hP2:h2.P=h.P:=w2.P;obtain⟨L3,c3,w3,p3⟩:=c2.Qn Rk t (by have:=c2.P1;omega);refine⟨fun i x hi hx=>?_,fun q p hp=>pl2 q p (by rw[<-p3];exact hp)⟩;have l9:i<h2.ps.length:=by rw[c2.h6];omega
   have hy:=eY l9;obtain⟨_,_,k3⟩:=awh (m:=m) c2 Rk jS t (by have:=c2.P1;omega);obtain⟨x1,iJ,v1,_⟩:=k3 i _ hy<|v2 i _ hi hy;rw[hx]at iJ;cases iJ;exact v1<|by omega
def Lv.over{T K:Int}{z:St}(v:Lv T fl i x 0)(p:PR pl T K z i x):x.s=0:=by
 have h1:=p.c.si;cases v with
 |idle hs=>exact hs
 |going hs hm=>omega
 |due hs hm=>have:=p.c.due (by omega);omega
 |EH hs hm=>omega
end
section
variable{N:Nat}{h:HS}{L:List Rc}{g:PG}
variable{q:Nat}{p:PL}
def Sn.UB(c:Sn N h L)(hu:h.up=true)(hz:∀(i:Nat) (x:PS),(i:Int)<h.P->h.ps[i]? =ae x->x.s=0)(hp:h.pl[q]? =ae p)(i t:Int):p.s.nw i≠ae (t,true):=fun e=>by
 obtain⟨h1,h2,h3,_⟩:=c.opn q p hp i t e;have hP:=c.P1;have hl:i.toNat<h.ps.length:=by rw[c.h6];omega
 have hx:=eY hl;have:=hz i.toNat _ (by omega) hx;have k:=(c.up hu i.toNat _ hx).k.s;rw[show((i.toNat:Nat):Int)=i by omega]at k;omega
def UC{s:aJ}(oL:∀i t,s.nw i≠ae (t,true)):s.dC=s.es.length:=by
 unfold aJ.dC;refine List.findIdx_eq_length.2 fun e _=>?_;simp[aJ.blocked,RU.2<|oL e.p e.t]
def Pg.count(c:Pg N h L g)(hp:h.pl[q]? =ae p)(dF:p.s.dC=p.s.es.length):(p.s.bF 0 p.s.dC).length=(g.wr.filter fun w=>decide (w.q=(q:Int))&&decide (iR g.fa w.p w.t=1)).length:=by
 have:=gy List.length<|c.ake hp;rw[dF,List.drop_length]at this;simp at this;rw[dF,<-this]
end
section
def Wn.cs(x:Wn):List Value:=[ag ah x.q,ag ah x.p,ag ah x.t,dK x.s]
def Fa.cs(x:Fa):List Value:=[ag ah x.p,ag ah x.t,ag ah x.o]
structure PV where
 ev:aA
 wv:aA
 fv:aA
 gv:aA
 sv:aA
 gs:List aA
def PV.eG(v:PV)(pb k:Nat):Prop:=k=pb\/v.ev.ownBlock=ae k\/v.wv.ownBlock=ae k\/v.fv.ownBlock=ae k\/v.gv.ownBlock=ae k\/v.sv.ownBlock=ae k\/∃u∈v.gs,bY u=ae k
structure iE(w:ay)(B pb xb:Nat)(h:HS)(g:PG)(v:PV):Prop where
 blk:w.heap[pb]? =ae (aG #[az<|ae ⟨xb,0,af⟩,ag ah h.P,ag ah h.Q,ag ah h.T,ag ah h.K,v.ev,aF g.dn,v.wv,v.fv,v.gv,v.sv] 48 (0,0))
 ep:bD w B 3 1 v.ev g.ep.length (gm g.ep)
 wr:bD w B 66 4 v.wv g.wr.length (g.wr.flatMap Wn.cs)
 fa:bD w B 114 3 v.fv g.fa.length (g.fa.flatMap Fa.cs)
 gt:bD w B 67 1 v.gv v.gs.length v.gs
 gl:v.gs.length=g.gt.length
 rc:∀(q:Nat) (u:aA) (l:List Rec),v.gs[q]? =ae u->g.gt[q]? =ae l->bD w B 94 3 u l.length (rq l)
 st:bD w B 3 1 v.sv g.st.length (gm<|g.st.map Int.ofNat)
 ap:∀k,v.ev.ownBlock=ae k->v.sv.ownBlock≠ae k
 hb:B<=pb
section
variable{w w':ay}{B pb xb n:Nat}{h:HS}{g:PG}{v:PV}
variable{u:aA}{k wd m:Nat}{ty:dJ}
def iE.akj(a:iE w B pb xb h g v)(hu:u∈v.gs):∃l:List Rec,bD w B 94 3 u l.length (rq l):=by
 obtain⟨q,hq⟩:=WL.1 hu;have hl:q<g.gt.length:=by rw[<-a.gl];exact(dS.1 hq).1
 exact⟨_,a.rc q u _ hq<|eY hl⟩
def iE.stay{S:Nat->Prop}(a:iE w B pb xb h g v)(f:Fr S w w')(hS:∀k,S k->v.eG pb k->False):iE w' B pb xb h g v:=
 ⟨(f.block pb (bn a.blk) fun e=>hS _ e<|.inl rfl).t a.blk,f.ownsRow a.ep fun k hk e=>hS k e<|.inr<|.inl hk,f.ownsRow a.wr fun k hk e=>hS k e<|.inr<|.inr<|.inl hk,f.ownsRow a.fa fun k hk e=>hS k e<|.inr<|.inr<|.inr<|.inl hk,f.ownsRow a.gt fun k hk e=>hS k e<|.inr<|.inr<|.inr<|.inr<|.inl hk,a.gl,fun q u l h1 h2=>f.ownsRow (a.rc q u l h1 h2) fun k hk e=>hS k e<|.inr<|.inr<|.inr<|.inr<|.inr<|.inr ⟨u,gZ h1,hk⟩,f.ownsRow a.st fun k hk e=>hS k e<|.inr<|.inr<|.inr<|.inr<|.inr<|.inl hk,a.ap,a.hb⟩
def iE.a(a:iE w B pb xb h g v)(f:Fr aS w w'):iE w' B pb xb h g v:=a.stay f fun _ e _=>e
def iE.uz(a:iE w B pb xb h g v)(hk:v.eG pb k):k<w.heap.size/\B<=k:=by
 rcases hk with rfl|hk|hk|hk|hk|hk|⟨u,hu,hk⟩
 ·exact⟨bn a.blk,a.hb⟩
 ·exact(a.ep.lt k hk).symm
 ·exact(a.wr.lt k hk).symm
 ·exact(a.fa.lt k hk).symm
 ·exact(a.gt.lt k hk).symm
 ·exact(a.st.lt k hk).symm
 ·obtain⟨l,hl⟩:=a.akj hu;exact(hl.lt k hk).symm
def iE.tags(a:iE w B pb xb h g v)(hk:v.eG pb k):tag w k=48\/tag w k=3\/tag w k=66\/tag w k=114\/tag w k=67\/tag w k=94:=by
 rcases hk with rfl|hk|hk|hk|hk|hk|⟨u,hu,hk⟩
 ·exact .inl<|mO a.blk
 ·exact .inr<|.inl<|iY a.ep hk
 ·exact .inr<|.inr<|.inl<|iY a.wr hk
 ·exact .inr<|.inr<|.inr<|.inl<|iY a.fa hk
 ·exact .inr<|.inr<|.inr<|.inr<|.inl<|iY a.gt hk
 ·exact .inr<|.inl<|iY a.st hk
 ·obtain⟨l,hl⟩:=a.akj hu;exact .inr<|.inr<|.inr<|.inr<|.inr<|iY hl hk
def aH.tags(a:aH w B xb n h)(hk:h.eG xb k):tag w k=111\/tag w k=5\/tag w k=98\/tag w k=119\/tag w k=163\/tag w k=1000000\/tag w k=55:=by
 rcases hk with rfl|hk|hk|hk|⟨p,hp,hk⟩
 ·exact .inl<|mO a.blk
 ·exact .inr<|.inl<|iY a.mg hk
 ·exact .inr<|.inr<|.inl<|iY a.ku hk
 ·exact .inr<|.inr<|.inr<|.inl<|iY a.nM hk
 ·have l:=a.dZ p hp;rcases hk with rfl|rfl|hk
  ·exact .inr<|.inr<|.inr<|.inr<|.inl<|mO l.blk
  ·exact .inr<|.inr<|.inr<|.inr<|.inr<|.inl<|agu l.map
  ·exact .inr<|.inr<|.inr<|.inr<|.inr<|.inr<|iY l.row hk
def aH.off(a:aH w B xb n h)(b:iE w B pb xb h g v)(h1:h.eG xb k)(h2:v.eG pb k):False:=by
 have:=a.tags h1;have:=b.tags h2;omega
def akk{α:Type}(cs:α->List aA)(wd:Nat)(hw:∀a,(cs a).length=wd):∀(l:List α) (k:Nat) (e:α) (j:Nat),l[k]? =ae e->j<wd->(l.flatMap cs)[k*wd+j]? =(cs e)[j]?
 |[],k,e,j,h,_=>by simp at h
 |x::r,0,e,j,h,hj=>by
  simp only[yV,gU]at h;subst h;simp only[pF,Nat.zero_mul,D9];exact vg (by rw[hw];exact hj)
 |x::r,k+1,e,j,h,hj=>by
  simp only[Bi]at h;have:=akk cs wd hw r k e j h hj;rw[pF,yj (by rw[hw,Nat.add_mul];omega),<-this];congr 1;rw[hw,Nat.add_mul];omega
def BK{α:Type}{cs:α->List aA}(hw:∀a,(cs a).length=wd){l:List α}{g' cap:Nat}(ho:bD w B ty wd (aN (ae ⟨g',0,af⟩) m cap) l.length (l.flatMap cs)){e:α}(hk:l[k]? =ae e){j:Nat}(hj:(cs e)[j]? =ae u):aB w ⟨g',k*wd+j,af⟩=ae u:=by
 have hjw:j<wd:=by rw[<-hw e];exact(dS.1 hj).1
 have:=ho.cells (g:=g') rfl (k*wd+j) u<|(akk cs wd hw l k e j hk hjw).t hj;rw[aFA]at this;simpa using this
def rF{xs:List aA}(ho:bD w B ty wd u m xs)(hm:0<m):∃g' cap,u=aN (ae ⟨g',0,af⟩) m cap/\g'<w.heap.size/\m<=cap/\cap<=eP/\B<=g':=by
 rcases ho.2 with⟨_,h0⟩|⟨g',cap,cur,hv,hb,hg,h1,h2,_⟩
 ·omega
 ·exact⟨g',cap,hv,bn hg,h1,h2,hb⟩
end
structure dm where
 h:HS
 L:List Rc
 g:PG
 v:PV
def dm.eG(s:dm)(pb xb k:Nat):Prop:=s.h.eG xb k\/s.v.eG pb k
structure bJ(w:ay)(B pb xb N:Nat)(s:dm):Prop where
 ha:aH w B xb N s.h
 ax:jk s.h.pl
 pa:iE w B pb xb s.h s.g s.v
 pg:Pg N s.h s.L s.g
 wr:s.g.wr.length<=N
 fa:s.g.fa.length<=N
structure cO(w w':ay)(B pb xb:Nat)(s:dm)(N:Nat)(s':dm):Prop where
 at_:bJ w' B pb xb N s'
 fr:Fr (s.eG pb xb) w w'
 sub:∀k,s'.eG pb xb k->s.eG pb xb k\/w.heap.size<=k
 cf:s'.h.P=s.h.P/\s'.h.Q=s.h.Q/\s'.h.T=s.h.T/\s'.h.K=s.h.K
variable{w w1 w':ay}{B pb xb N M:Nat}{s s1 s':dm}
def bJ.z(a:bJ w B pb xb N s)(hM:N<=M):bJ w B pb xb M s:=⟨a.ha.z hM,a.ax,a.pa,a.pg.z hM,fG a.wr hM,fG a.fa hM⟩
def bJ.a(a:bJ w B pb xb N s)(f:Fr aS w w'):bJ w' B pb xb N s:=⟨a.ha.a f,a.ax,a.pa.a f,a.pg,a.wr,a.fa⟩
def bJ.lt(a:bJ w B pb xb N s){k:Nat}(hk:s.eG pb xb k):k<w.heap.size/\B<=k:=hk.e (fun z=>a.ha.uz z) fun z=>a.pa.uz z
def cO.z(a:cO w w' B pb xb s N s')(hM:N<=M):cO w w' B pb xb s M s':=⟨a.at_.z hM,a.fr,a.sub,a.cf⟩
def cO.a(a:cO w w1 B pb xb s N s')(f:Fr aS w1 w'):cO w w' B pb xb s N s':=⟨a.at_.a f,a.fr.t f dw,a.sub,a.cf⟩
def cO.behind(f:Fr aS w w1)(a:cO w1 w' B pb xb s N s'):cO w w' B pb xb s N s':=⟨a.at_,(f.z dw).t a.fr fun _=>.inl,fun k hk=>(a.sub k hk).imp id fun e=>fG f.size e,a.cf⟩
def cO.t(a:cO w w1 B pb xb s M s1)(t:cO w1 w' B pb xb s1 N s'):cO w w' B pb xb s N s':=
 ⟨t.at_,a.fr.t t.fr fun k hk=>a.sub k hk,fun k hk=>by
  rcases t.sub k hk with e|e
  ·exact a.sub k e
  ·exact .inr<|fG a.fr.size e,⟨t.cf.1.t a.cf.1,t.cf.2.1.t a.cf.2.1,t.cf.2.2.1.t a.cf.2.2.1,t.cf.2.2.2.t a.cf.2.2.2⟩⟩
def cO.refl(a:bJ w B pb xb N s):cO w w B pb xb s N s:=⟨a,Fr.refl _ _,fun _ h=>.inl h,rfl,rfl,rfl,rfl⟩
def cO.still(a:bJ w B pb xb N s)(f:Fr aS w w'):cO w w' B pb xb s N s:=(cO.refl a).a f
def cO.dX(a:bJ w B pb xb M s)(t:cO w w' B pb xb s N s'):Fr (fun k=>B<=k) w w':=t.fr.z fun _ hk=>.inl (a.lt hk).2
def cO.awl(a:bJ w B pb xb N s){n':Nat}{h':HS}{L':List Rc}(m:di w w' B xb N s.h n' h')(hc:h'.P=s.h.P/\h'.Q=s.h.Q/\h'.T=s.h.T/\h'.K=s.h.K)(ax:jk h'.pl)(hn:n'<=M)(hM:N<=M)(pg:Pg M h' L' s.g):cO w w' B pb xb s M ⟨h',L',s.g,s.v⟩:=by
 have p1:=a.pa.stay m.fr fun k e hf=>a.ha.off a.pa e hf;refine⟨⟨m.at_.z hn,ax,⟨?_,p1.ep,p1.wr,p1.fa,p1.gt,p1.gl,p1.rc,p1.st,p1.ap,p1.hb⟩,pg,fG a.wr hM,fG a.fa hM⟩,m.fr.z fun _ e=>.inl<|.inl e,fun k hk=>?_,hc⟩
 ·obtain⟨e1,e2,e3,e4⟩:=hc;show _=ae (Obj.cells #[_,ag ah h'.P,ag ah h'.Q,ag ah h'.T,ag ah h'.K,_,_,_,_,_,_] 48 (0,0));rw[e1,e2,e3,e4];exact p1.blk
 ·rcases hk with hk|hk
  ·exact(m.sub k hk).imp .inl id
  ·exact .inl<|.inr hk
def bJ.cells(a:bJ w B pb xb N s):aB w ⟨pb,0,af⟩=ae (az<|ae ⟨xb,0,af⟩)/\aB w ⟨pb,1,af⟩=ae (ag ah s.h.P)/\aB w ⟨pb,2,af⟩=ae (ag ah s.h.Q)/\aB w ⟨pb,5,af⟩=ae s.v.ev/\aB w ⟨pb,6,af⟩=ae (aF s.g.dn)/\aB w ⟨pb,7,af⟩=ae s.v.wv/\aB w ⟨pb,8,af⟩=ae s.v.fv/\aB w ⟨pb,9,af⟩=ae s.v.gv/\aB w ⟨pb,10,af⟩=ae s.v.sv:=
 have b:=a.pa.blk
 ⟨aQ b 0,aQ b 1,aQ b 2,aQ b 5,aQ b 6,aQ b 7,aQ b 8,aQ b 9,aQ b 10⟩
end
section
def Fa.len(x:Fa):x.cs.length=3:=rfl
def Wn.len(x:Wn):x.cs.length=4:=rfl
def akl{p t:Int}:∀{fs:List Fa} {k:Nat} {x:Fa},fs[k]? =ae x->x.is p t=true->(∀(j:Nat) y,j<k->fs[j]? =ae y->y.is p t=false)->iR fs p t=x.o
 |[],k,x,h,_,_=>by simp at h
 |a::fs,0,x,h,h1,_=>by
  simp only[yV,gU]at h;subst h;simp[iR,h1]
 |a::fs,k+1,x,h,h1,h2=>by
  have ha:=h2 0 a (by omega) rfl;simp only[Bi]at h;have:=akl h h1 fun j y hj hy=>h2 (j+1) y (by omega) (by simpa using hy);rw[<-this];simp[iR,ha]
def awm{p t:Int}{fs:List Fa}(h:∀(j:Nat) y,j<fs.length->fs[j]? =ae y->y.is p t=false):iR fs p t=0:=by
 have:fs.find? (Fa.is p t)=none:=List.find?_eq_none.2 fun x hx=>by
  obtain⟨j,hj⟩:=WL.1 hx;have:=h j x (dS.1 hj).1 hj;rw[this];simp
 simp[iR,this]
variable{w:ay}{B pb:Nat}
def YK{fs:List Fa}{v:aA}(hr:bD w B 114 3 v fs.length (fs.flatMap Fa.cs))(c0:aB w ⟨pb,8,af⟩=ae v)(p t:Int):
 aW prog 18 #[az<|ae ⟨pb,0,af⟩,ag ah p,ag ah t] w fun e w'=>e=aV (.int .i64<|iR fs p t)/\w=w':=by
 obtain⟨va,vc,rfl,hl⟩:=oP hr;unfold eP at hl;have H:aj (bD w B 114 3 (.slice va fs.length vc) fs.length<|fs.flatMap Fa.cs):=hr;clear hr;go_enter func18,ntmps18
 go_wp2_with fail
 go_loop [7] (fun i=>∃k:Nat,k<=fs.length/\i=ag ah k/\∀(j:Nat) y,j<k->fs[j]? =ae y->y.is p t=false) (fun i=>fs.length-(eU i).toNat)
 case atStart=>exact⟨0,kH _,rfl,fun j x hj=>by omega⟩
 case round=>
  obtain⟨k,hk,rfl,jR⟩:=hrel
  have HA:aj (∀(j:Nat) y,j<k->fs[j]? =ae y->y.is p t=false):=jR
  clear jR
  by_cases aK:k<fs.length
  ·obtain⟨x,hx⟩:∃x,fs[k]? =ae x:=⟨_,eY aK⟩
   have HX:aj (fs[k]? =ae x):=hx
   obtain⟨g,cap,hv,hg,h1,h2,hb⟩:=rF H.o<|by omega
   simp only[aFi]at hv
   obtain⟨rfl,_,rfl⟩:=hv
   have r0:aB w ⟨g,k*3,af⟩=ae (ag ah x.p):=BK Fa.len H.o hx (j:=0) rfl
   have r1:aB w ⟨g,k*3+1,af⟩=ae (ag ah x.t):=BK Fa.len H.o hx (j:=1) rfl
   have r2:aB w ⟨g,k*3+2,af⟩=ae (ag ah x.o):=BK Fa.len H.o hx (j:=2) rfl
   have zH:(k:Int)<(fs.length:Int):=by omega
   have sU:(0:Int)<=(k:Int):=by omega
   clear hx hg h2 hb
   have HN:aj (x.is p t=false->∀(j:Nat) z,j<k+1->fs[j]? =ae z->z.is p t=false):=fun e j z hj hz=>by
    by_cases ej:j=k
    ·subst ej;have:=HX.o.s.t hz;cases this;exact e
    ·exact HA.o j z (by omega) hz
   by_cases e1:x.p=p
   ·have e1':(x.p==p)=true:=by simpa using e1
    by_cases e2:x.t=t
    ·have HM:aj (x.is p t=true):=adC.2 ⟨e1,e2⟩
     have e2':(x.t==t)=true:=by simpa using e2
     clear e1 e2
     go_wp2
     go_ret
     exact⟨by rw[akl HX.o HM.o HA.o];rfl,rfl⟩
    ·have HM:aj (x.is p t=false):=by show x.is p t=false;simp[Fa.is,e2]
     have e2':(x.t==t)=false:=by simpa using e2
     clear e1 e2
     go_wp2
     go_round
     case rel=>exact⟨k+1,by omega,by go_num,HN.o HM.o⟩
     case measure=>simp[eU]<;>omega
   ·have HM:aj (x.is p t=false):=by show x.is p t=false;simp[Fa.is,e1]
    have e1':(x.p==p)=false:=by simpa using e1
    clear e1
    go_wp2
    go_round
    case rel=>exact⟨k+1,by omega,by go_num,HN.o HM.o⟩
    case measure=>simp[eU]<;>omega
  ·have HF:aj (iR fs p t=0):=awm fun j y hj=>HA.o j y (by omega)
   go_wp2
   go_ret
   exact⟨by rw[HF.o];rfl,rfl⟩
end
section
def akm:(prog.info? 114).map (fun i=>(i.zero,i.size,i.bytes))=ae (ae<|iF #[ag ah 0,ag ah 0,ag ah 0],3,24):=by kernel_rfl
variable{w w':ay}{B pb xb N:Nat}{s:dm}
def dm.gG(s:dm)(fa:List Fa)(fv:aA):dm:=⟨s.h,s.L,{s.g with fa:=fa},{s.v with fv:=fv}⟩
variable{ty:dJ}{wd m b i:Nat}{u jA:aA}{xs:List aA}{w1 W:ay}{f:Fa}
def Nq{S:Nat->Prop}(ho:bD w B ty wd u m xs)(f:Fr S w w')(hS:∀k,S k->tag w k≠ty):bD w' B ty wd u m xs:=f.ownsRow ho fun k hk e=>hS k e<|iY ho hk
def Qq(f:Fr aS w1 W)(vs:List aA):Fr (fun k=>k=b) w1 (W.setCells b 0 vs):=Fr.setCells (S:=fun k=>k=b) (.inl rfl) vs 0<|f.z dw
def YL{Vt:dJ}{cs:Array aA}{fr:Nat×Nat}(ho:bD w B ty wd u m xs)(hb:w.heap[b]? =ae (.cells cs Vt fr))(dD:Vt≠ty):∀k,bY u=ae k->¬k=b:=fun k hk e=>by
 have h1:=iY ho hk;rw[e,mO hb]at h1;exact dD h1
def akn{n:Nat}{L':List Rc}(ha:aH w B xb n s.h)(ax:jk s.h.pl)(b:iE w B pb xb s.h s.g s.v)(zV:s.g.wr.length<=N)(Wi:s.g.fa.length<=N)(hn:n<=N+1)(hW:Fr aS w W)(hg:W.grownBy w1 s.v.fv.ownBlock)(jf:bD w1 B 114 3 jA (s.g.fa.length+1) (s.g.fa.flatMap Fa.cs++f.cs))(fC:∀k,bY jA=ae k->s.v.fv.ownBlock=ae k\/w.heap.size<=k)(pg:Pg (N+1) s.h L' {s.g with fa:=s.g.fa++[f]}):
 cO w (aX w1 ⟨pb,8,af⟩ jA) B pb xb s (N+1) ⟨s.h,L',{s.g with fa:=s.g.fa++[f]},{s.v with fv:=jA}⟩:=by
 have f1:Fr (fun k=>s.v.fv.ownBlock=ae k) w w1:=(hW.z dw).grown hg fun k e=>.inl e;have f2:Fr (fun k=>k=pb\/s.v.fv.ownBlock=ae k) w (aX w1 ⟨pb,8,af⟩ jA):=(f1.z fun k h=>.inl<|.inr h).setCell (.inl<|.inl rfl) _;have dD:s.v.fv.ownBlock≠ae pb:=Hy b.fa b.blk (by decide);have b1:=(f1.block pb (bn b.blk) dD).t b.blk;have ht:∀k,(k=pb\/s.v.fv.ownBlock=ae k)->tag w k=48\/tag w k=114:=fun k e=>e.imp (fun e=>by rw[e];exact mO b.blk) fun e=>iY b.fa e;have st:∀{ty:dJ} {wd:Nat} {u:aA} {m:Nat} {xs:List aA},bD w B ty wd u m xs->ty≠48->ty≠114->(aX w1 ⟨pb,8,af⟩ jA).ownsRow B ty wd u m xs:=fun ho h1 h2=>Nq ho f2 fun k e e2=>(ht k e).e (fun z=>h1<|e2.s.t z) fun z=>h2<|e2.s.t z;have hf:∀k,(k=pb\/s.v.fv.ownBlock=ae k)->s.eG pb xb k:=fun k e=>.inr<|e.imp id fun e=>.inr<|.inr<|.inl e;have hh:aH (aX w1 ⟨pb,8,af⟩ jA) B xb n s.h:=ha.stay f2 fun k e hk=>ha.off b hk<|e.imp id fun e=>.inr<|.inr<|.inl e;refine⟨⟨hh.z hn,ax,⟨?_,st b.ep (by decide)<|by decide,st b.wr (by decide)<|by decide,?_,st b.gt (by decide)<|by decide,b.gl,fun q u l h1 h2=>st (b.rc q u l h1 h2) (by decide)<|by decide,st b.st (by decide)<|by decide,b.ap,b.hb⟩,pg,aaH zV,?_⟩,f2.z fun k e=>.inl<|hf k e,fun k hk=>?_,rfl,rfl,rfl,rfl⟩
 ·rw[kU b1];rfl
 ·have hr:Fr (fun k=>k=pb) w1 (aX w1 ⟨pb,8,af⟩ jA):=(Fr.refl (fun k=>k=pb) w1).setCell (p:=⟨pb,8,af⟩) (.inl rfl) _;have:=hr.ownsRow jf (fun k hk e=>by
   subst e;rcases fC _ hk with h1|h1
   ·exact dD h1
   ·have:=bn b.blk;omega)
  show World.ownsRow _ B 114 3 jA (s.g.fa++[f]).length ((s.g.fa++[f]).flatMap Fa.cs);simpa using this
 ·have:=Wi;show(s.g.fa++[f]).length<=N+1;simp<;>omega
 ·rcases hk with hk|hk|hk|hk|hk|hk
  ·exact .inl<|.inl hk
  ·exact .inl<|.inr<|.inl hk
  ·exact .inl<|.inr<|.inr<|.inl hk
  ·exact .inl<|.inr<|.inr<|.inr<|.inl hk
  ·rcases fC k hk with e|e
   ·exact .inl<|.inr<|.inr<|.inr<|.inr<|.inl e
   ·exact .inr e
  ·exact .inl<|.inr<|.inr<|.inr<|.inr<|.inr hk
def bJ.gG(a:bJ w B pb xb N s)(hW:Fr aS w W)(hg:W.grownBy w1 s.v.fv.ownBlock)(jf:bD w1 B 114 3 jA (s.g.fa.length+1) (s.g.fa.flatMap Fa.cs++f.cs))(fC:∀k,bY jA=ae k->s.v.fv.ownBlock=ae k\/w.heap.size<=k)(pg:Pg N s.h s.L {s.g with fa:=s.g.fa++[f]}):
 cO w (aX w1 ⟨pb,8,af⟩ jA) B pb xb s (N+1) (s.gG (s.g.fa++[f]) jA):=akn a.ha a.ax a.pa a.wr a.fa (by omega) hW hg jf fC<|pg.z<|by omega
def Qr(a:bJ w B pb xb N s)(hi:(i:Int)<s.h.P)(hu:s.h.up=false):
 aW prog 22 #[az<|ae ⟨pb,0,af⟩,ag ah i] w fun e w'=>e=aV (dU #[iF #[ag ah 0,ag ah 0,ag ah 0,aN af 0 0,aN af 0 0],aF true])/\Fr aS w w':=by
 have A:aj (bJ w B pb xb N s):=a;have HI:aj (0<=(i:Int)/\(i:Int)<s.h.P):=⟨by omega,hi⟩;have HU:aj (s.h.up=false):=hu;obtain⟨c0,_,_,_,c6,_⟩:=a.cells;have hd:s.g.dn=true:=by rw[a.pg.dn,hu];rfl
 rw[hd]at c6;have aK:=bn a.pa.blk;clear a hi hu hd;go_enter func22,ntmps22
 go_wp2_with (first
  |(go_at_call 30;refine(aoD (by exact A.o.ha.a<|bQ _) HI.o HU.o).z ?_;rintro e w1 ⟨rfl,bU⟩
    have F1:aj (Fr aS w w1):=(bQ _).t bU dw
    have B1:aj (w1.heap[w.heap.size]? =ae (aG #[ag ah 0,ag ah 0,ag ah 0,aN af 0 0,aN af 0 0] 58 (0,0))):=(bU.block _ (by simp) id).t<|aFb _ _
    have d6:=(F1.o.cell (p:=⟨pb,6,af⟩) aK id).t c6
    have wX:pb<w1.heap.size:=gu aK F1.o.size
    clear bU)
  |(refine aFM rfl 58 _ _ rfl w.heap.size 0 #[ag ah 0,ag ah 0,ag ah 0,aN af 0 0,aN af 0 0] rfl rfl (LQ (((bQ _).block _ (bn B1.o) id).t B1.o)<|by simp) JC (by simp[Value.oneCell']) ?_))
 refine aFx (JB rfl _ _ _ 58 _ (0,0) _ rfl (JA _ 0<|((bQ _).block _ (bn B1.o) id).t B1.o) underlying58 rfl JC) rfl ?_;exact⟨rfl,(F1.o.t (bQ _) dw).t (Fr.setCells (S:=fun k=>k=w.heap.size) (.inl rfl) _ 0 dR) fun k hk=>.inr<|by omega⟩
def awn(a:bJ w B pb xb N s)(hi:(i:Int)<s.h.P)(hu:s.h.up=true){x:PS}(hx:s.h.ps[i]? =ae x){e0:Int}(he:s.g.ep[i]? =ae e0)(yJ:x.e=e0){f0:Int}(CE:iR s.g.fa i x.t=f0)(bT:(x.s=0)\/(x.s=1/\f0=0)\/(x.s=2/\f0=1)\/(x.s=3/\f0=2)):
 aW prog 22 #[az<|ae ⟨pb,0,af⟩,ag ah i] w fun e w'=>∃va vb,e=aV (dU #[iF #[ag ah x.e,ag ah x.t,ag ah x.s,va,vb],aF true])/\Bq w w' va (bZ x.bG 1 4)/\Bq w w' vb (bZ x.bG 2 4)/\Fr aS w w':=by
 obtain⟨ve,vt,vs,xa,xM,xc,xd,xi,xw,xg⟩:=x;simp only at yJ CE bT;subst yJ;have A:aj (bJ w B pb xb N s):=a;have HI:aj ((i:Int)<s.h.P):=hi;have HU:aj (s.h.up=true):=hu;have HX:aj (s.h.ps[i]? =ae ⟨ve,vt,vs,xa,xM,xc,xd,xi,xw,xg⟩):=hx;have IW:aj (iR s.g.fa i vt=f0):=CE;obtain⟨c0,_,_,c5,c6,_,c8,_⟩:=a.cells;have hd:s.g.dn=false:=by rw[a.pg.dn,hu];rfl
 rw[hd]at c6;have aK:=bn a.pa.blk;have qX:i<s.g.ep.length:=(dS.1 he).1;obtain⟨eg,jO,eX,pM,_,_,_⟩:=rF a.pa.ep (by omega);have dG:=a.pa.ep;rw[eX]at c5 dG;have ce:aB w ⟨eg,i,af⟩=ae (ag ah ve):=Bo dG he;have zH:(i:Int)<(s.g.ep.length:Int):=by omega
 have sU:(0:Int)<=(i:Int):=by omega
 generalize Bg:bZ (⟨ve,vt,vs,xa,xM,xc,xd,xi,xw,xg⟩:PS).bG 1 4=T1;generalize CG:bZ (⟨ve,vt,vs,xa,xM,xc,xd,xi,xw,xg⟩:PS).bG 2 4=T2;have HT1:aj (bZ (⟨ve,vt,vs,xa,xM,xc,xd,xi,xw,xg⟩:PS).bG 1 4=T1):=Bg;have NU:aj (bZ (⟨ve,vt,vs,xa,xM,xc,xd,xi,xw,xg⟩:PS).bG 2 4=T2):=CG;clear a hi hu hx hd he CE dG eX Bg CG qX;rcases bT with rfl|⟨rfl,rfl⟩|⟨rfl,rfl⟩|⟨rfl,rfl⟩;all_goals
  go_enter func22,ntmps22
  go_wp2_with (first
   |(go_at_call 30;refine(agy (by exact A.o.ha.a<|bQ _) HI.o HU.o HX.o).z ?_;rintro e w1 ⟨va,vb,rfl,uk,Jp,_,bU⟩
     simp only[HT1.o,NU.o]at uk Jp
     obtain⟨aa,ac,rfl,_⟩:=lI uk
     obtain⟨ba,bc,rfl,_⟩:=lI Jp
     have F1:aj (Fr aS w w1):=(bQ _).t bU dw
     have VA:aj (bD w1 w.heap.size 3 1 (.slice aa T1.length ac) T1.length<|gm T1):=CU uk<|by simp
     have VB:aj (bD w1 w.heap.size 3 1 (.slice ba T2.length bc) T2.length<|gm T2):=CU Jp<|by simp
     have B1:aj (w1.heap[w.heap.size]? =ae (aG #[ag ah 0,ag ah 0,ag ah 0,aN af 0 0,aN af 0 0] 58 (0,0))):=(bU.block _ (by simp) id).t<|aFb _ _
     have d6:=(F1.o.cell (p:=⟨pb,6,af⟩) aK id).t c6
     have d5:=(F1.o.cell (p:=⟨pb,5,af⟩) aK id).t c5
     have d8:=(F1.o.cell (p:=⟨pb,8,af⟩) aK id).t c8
     have de:=(F1.o.cell (p:=⟨eg,i,af⟩) pM id).t ce
     have wX:pb<w1.heap.size:=gu aK F1.o.size
     have vS:eg<w1.heap.size:=gu pM F1.o.size
     clear bU uk Jp)
   |(go_at_call 18;refine(YK (B:=B) (fs:=s.g.fa) (v:=s.v.fv) (by exact((F1.o.t (bQ _) dw).ownsRow A.o.pa.fa fun _ _=>id)) (by exact((bQ _).cell (p:=⟨pb,8,af⟩) wX id).t d8) _ _).z ?_;rw[IW.o];rintro e w2 ⟨rfl,rfl⟩))
  go_quiet (fail)
  go_wp2_with (refine aFM rfl 58 _ _ rfl w.heap.size 0 #[ag ah ve,ag ah vt,ag ah _,.slice aa T1.length ac,.slice ba T2.length bc] rfl rfl (LQ ((((bQ _).drewN _).block _ (bn B1.o) id).t B1.o)<|by simp) JC (by simp[Value.oneCell']) ?_)
  refine aFx (JB rfl _ _ _ 58 _ (0,0) _ rfl (JA _ 0<|(((bQ _).drewN _).block _ (bn B1.o) id).t B1.o) underlying58 rfl JC) rfl ?_
  exact⟨_,_,rfl,(Qq ((bQ _).drewN _) _).ownsRow VA.o<|YL VA.o B1.o<|by decide,(Qq ((bQ _).drewN _) _).ownsRow VB.o<|YL VB.o B1.o<|by decide,F1.o.t (Qq ((bQ _).drewN _) _) fun k hk=>.inr<|by omega⟩
end
section
def cO.boxed{w w1 w2:ay}{B pb xb N b:Nat}{s s':dm}(t:cO w w1 B pb xb s N s')(hb:w.heap.size<=b)(f:Fr (fun k=>k=b) w1 w2)(sV:¬s'.eG pb xb b):cO w w2 B pb xb s N s':=
 ⟨⟨t.at_.ha.stay f fun k e hk=>sV<|e▸.inl hk,t.at_.ax,t.at_.pa.stay f fun k e hk=>sV<|e▸.inr hk,t.at_.pg,t.at_.wr,t.at_.fa⟩,t.fr.t f (fun k e=>.inr<|by omega),t.sub,t.cf⟩
def bJ.Ap{w:ay}{B pb xb N b:Nat}{s:dm}(a:bJ w B pb xb N s){cs:Array aA}{ty:dJ}{fr:Nat×Nat}(hb:w.heap[b]? =ae (.cells cs ty fr))(Je:[48,3,66,114,67,94,111,5,98,119,163,1000000,55].contains ty=false):¬s.eG pb xb b:=by
 rintro(hk|hk)
 ·have:=a.ha.tags hk;rw[mO hb]at this;rcases this with rfl|rfl|rfl|rfl|rfl|rfl|rfl<;>simp at Je
 ·have:=a.pa.tags hk;rw[mO hb]at this;rcases this with rfl|rfl|rfl|rfl|rfl|rfl<;>simp at Je
variable{w w':ay}{B pb xb N:Nat}{s s':dm}
def awo(a:bJ w B pb xb N s){i:Nat}(hi:(i:Int)<s.h.P)(hu:s.h.up=true){x:PS}(hx:s.h.ps[i]? =ae x){e0:Int}(he:s.g.ep[i]? =ae e0)(yJ:x.e=e0)(CE:iR s.g.fa i x.t=0)(zJ:x.s=3)(hN:N<=100000000)(pg:Pg N s.h s.L {s.g with fa:=s.g.fa++[⟨i,x.t,2⟩]}):
 aW prog 22 #[az<|ae ⟨pb,0,af⟩,ag ah i] w fun e w'=>∃va vb,e=aV (dU #[iF #[ag ah x.e,ag ah x.t,ag ah x.s,va,vb],aF true])/\Bq w w' va (bZ x.bG 1 4)/\Bq w w' vb (bZ x.bG 2 4)/\∃jA,cO w w' B pb xb s (N+1) (s.gG (s.g.fa++[⟨i,x.t,2⟩]) jA):=by
 obtain⟨ve,vt,vs,xa,xM,xc,xd,xi,xw,xg⟩:=x;simp only at yJ CE zJ pg;subst yJ zJ;obtain⟨i0,ed,iI,ig,jg⟩:=aFq akm;have fK:aj (N<=100000000):=hN;have PGG:aj (Pg N s.h s.L {s.g with fa:=s.g.fa++[⟨i,vt,2⟩]}):=pg;clear hN pg;have A:aj (bJ w B pb xb N s):=a;have HI:aj ((i:Int)<s.h.P):=hi;have HU:aj (s.h.up=true):=hu;have HX:aj (s.h.ps[i]? =ae ⟨ve,vt,3,xa,xM,xc,xd,xi,xw,xg⟩):=hx;have IW:aj (iR s.g.fa i vt=0):=CE;obtain⟨c0,_,_,c5,c6,_,c8,_⟩:=a.cells;have hd:s.g.dn=false:=by rw[a.pg.dn,hu];rfl
 rw[hd]at c6;have aK:=bn a.pa.blk;have qX:i<s.g.ep.length:=(dS.1 he).1;obtain⟨eg,jO,eX,pM,_,_,_⟩:=rF a.pa.ep (by omega);have dG:=a.pa.ep;have lD:aj (s.v.ev=aN (ae ⟨eg,0,af⟩) s.g.ep.length jO):=eX;have HE:aj (s.g.ep[i]? =ae ve):=he;rw[eX]at c5 dG;have ce:aB w ⟨eg,i,af⟩=ae (ag ah ve):=Bo dG he;have zH:(i:Int)<(s.g.ep.length:Int):=by omega
 have sU:(0:Int)<=(i:Int):=by omega
 generalize Bg:bZ (⟨ve,vt,3,xa,xM,xc,xd,xi,xw,xg⟩:PS).bG 1 4=T1;generalize CG:bZ (⟨ve,vt,3,xa,xM,xc,xd,xi,xw,xg⟩:PS).bG 2 4=T2;have HT1:aj (bZ (⟨ve,vt,3,xa,xM,xc,xd,xi,xw,xg⟩:PS).bG 1 4=T1):=Bg;have NU:aj (bZ (⟨ve,vt,3,xa,xM,xc,xd,xi,xw,xg⟩:PS).bG 2 4=T2):=CG;clear a hi hu hx hd he CE dG eX Bg CG qX;obtain⟨fa,fc,qg,_⟩:=oP A.o.pa.fa;rw[qg]at c8;have EE:aj (s.v.fv=.slice fa s.g.fa.length fc):=qg;have Aq:aj (bD w B 114 3 (.slice fa s.g.fa.length fc) s.g.fa.length<|s.g.fa.flatMap Fa.cs):=by have:=A.o.pa.fa;rw[qg]at this;exact this
 have dD:Value.ownBlock (.slice fa s.g.fa.length fc)≠ae pb:=Hy Aq.o A.o.pa.blk (by decide);clear qg;go_enter func22,ntmps22
 go_wp2_with (first
  |(go_at_call 30;refine(agy (by exact A.o.ha.a<|bQ _) HI.o HU.o HX.o).z ?_;rintro e w1 ⟨va,vb,rfl,uk,Jp,_,bU⟩
    simp only[HT1.o,NU.o]at uk Jp
    obtain⟨aa,ac,rfl,_⟩:=lI uk
    obtain⟨ba,bc,rfl,_⟩:=lI Jp
    have F1:aj (Fr aS w w1):=(bQ _).t bU dw
    have VA:aj (bD w1 w.heap.size 3 1 (.slice aa T1.length ac) T1.length<|gm T1):=CU uk<|by simp
    have VB:aj (bD w1 w.heap.size 3 1 (.slice ba T2.length bc) T2.length<|gm T2):=CU Jp<|by simp
    have B1:aj (w1.heap[w.heap.size]? =ae (aG #[ag ah 0,ag ah 0,ag ah 0,aN af 0 0,aN af 0 0] 58 (0,0))):=(bU.block _ (by simp) id).t<|aFb _ _
    have d6:=(F1.o.cell (p:=⟨pb,6,af⟩) aK id).t c6
    have d5:=(F1.o.cell (p:=⟨pb,5,af⟩) aK id).t c5
    have d8:=(F1.o.cell (p:=⟨pb,8,af⟩) aK id).t c8
    have de:=(F1.o.cell (p:=⟨eg,i,af⟩) pM id).t ce
    have wX:pb<w1.heap.size:=gu aK F1.o.size
    have vS:eg<w1.heap.size:=gu pM F1.o.size
    clear bU uk Jp)
  |(go_at_call 18;refine(YK (B:=B) (fs:=s.g.fa) (v:=.slice fa s.g.fa.length fc) (by exact((F1.o.t (bQ _) dw).ownsRow Aq.o fun _ _=>id)) (by exact((bQ _).cell (p:=⟨pb,8,af⟩) wX id).t d8) _ _).z ?_;rw[IW.o];rintro e w2 ⟨rfl,rfl⟩))
 have ZW:aj (∃W:ay,W=bz w1 (aG #[ag ah ve,ag ah vt,ag ah 3,.slice aa T1.length ac,.slice ba T2.length bc] 58)):=⟨_,rfl⟩;obtain⟨W,eW⟩:=ZW.o;rw[<-eW];have iU:aj (Fr aS w1 W):=by subst eW;exact bQ _
 have T6:aj (W.heap[w1.heap.size]? =ae (aG #[ag ah ve,ag ah vt,ag ah 3,.slice aa T1.length ac,.slice ba T2.length bc] 58 (0,0))):=by subst eW;exact aFb _ _
 have FW:aj (Fr aS w W):=F1.o.t iU.o dw;clear ZW eW;have q8:aB W ⟨pb,8,af⟩=ae (.slice fa s.g.fa.length fc):=(FW.o.cell (p:=⟨pb,8,af⟩) aK id).t c8;have q1:aB W ⟨w1.heap.size,1,af⟩=ae (ag ah vt):=aQ T6.o 1;have hwW:pb<W.heap.size:=gu aK FW.o.size;have PBW:aj (W.heap[pb]? =w.heap[pb]?):=FW.o.block pb aK id;have f8:W.frozen? ⟨pb,8,af⟩=false:=kK (PBW.o.t A.o.pa.blk) 8;have f9:∀o,(bz W o).frozen? ⟨pb,8,af⟩=false:=fun o=>(LI hwW o).t f8;have BZ:aj (s.g.fa.length<=N):=A.o.fa;go_region_law
  ((refine aFH _ (by rfl) _ _ _ (by rfl) B 114 i0 _ 3 24 underlying45 ed iI ig jg rfl (by omega) (.slice fa s.g.fa.length fc) s.g.fa.length (s.g.fa.flatMap Fa.cs) (by rfl) (by first|exact((FW.o.alloc _).drew).ownsRow Aq.o (fun _ _=>id)|exact((FW.o.drew).alloc _).ownsRow Aq.o fun _ _=>id)
     ⟨W.heap.size,0,af⟩ 1 1 [ag ah i,ag ah vt,ag ah 2] (by rfl) (by rfl) (aFk (cs:=#[ag ah i,ag ah vt,ag ah 2]) (t:=114) (fr:=(0,0)) (by first|exact aFb _ _|exact RP _ _ _)) (by simp[Value.oneCell'])
     (by omega) (by have:=fK.o;have:=BZ.out;simp only[eP];omega) (by have:=fK.o;have:=BZ.out;omega) (by have:=A.o.pa.hb;simp<;>omega) (W.heap.size+1) (by simp) ?_;intro gg cap w3 o8 lX tH uQ;have k0:=(lX.cell_far ⟨pb,8,af⟩ (by simp<;>omega)<|Ne.s dD);have k1:=(lX.frozen_far ⟨pb,8,af⟩ (by simp<;>omega)<|Ne.s dD);simp only[World.cell?_drew,World.frozen?_drew,f9]at k0 k1))
 all_goals
  have Jq:∀k,Value.ownBlock (aN (ae ⟨gg,0,af⟩) (s.g.fa.length+1) cap)=ae k->s.v.fv.ownBlock=ae k\/w.heap.size<=k:=fun k hk=>by
   rw[EE.o];simp only[Value.ownBlock,gU]at hk;subst hk;rcases tH with h1|h1
   ·exact .inl h1
   ·exact .inr (by have:=FW.o.size;omega)
  have G3:∃V,Fr aS W V/\V.grownBy w3 (Value.ownBlock<|.slice fa s.g.fa.length fc):=⟨_,by first|exact(dR.alloc _).drew|exact(dR.drew).alloc _,lX⟩
  obtain⟨V,fV,gV⟩:=G3
  have TO:=A.o.gG (f:=⟨i,vt,2⟩) (FW.o.t fV dw) (by rw[EE.o];exact gV) o8 Jq PGG.o
  have F4:Fr (fun k=>k=pb\/Value.ownBlock (.slice fa s.g.fa.length fc)=ae k) W (aX w3 ⟨pb,8,af⟩<|aN (ae ⟨gg,0,af⟩) (s.g.fa.length+1) cap):=((fV.z dw).grown gV fun k e=>.inl<|.inr e).setCell (p:=⟨pb,8,af⟩) (.inl<|.inl rfl) _
  clear fV gV
  clear o8 lX tH uQ k0 k1 Jq
  generalize w3.setCell ⟨pb,8,af⟩ (aN (ae ⟨gg,0,af⟩) (s.g.fa.length+1) cap)=W4 at TO F4⊢
  generalize(Value.slice (ae ⟨gg,0,af⟩) (s.g.fa.length+1) cap)=Gj at TO
  have TT:aj (cO w W4 B pb xb s (N+1)<|s.gG (s.g.fa++[⟨i,vt,2⟩]) Gj):=TO
  have Wj:∀k,Value.ownBlock (.slice fa s.g.fa.length fc)=ae k->k<w.heap.size:=fun k hk=>(Aq.o.lt k hk).2
  have UD:aj (W4.heap[w1.heap.size]? =ae (aG #[ag ah ve,ag ah vt,ag ah 3,.slice aa T1.length ac,.slice ba T2.length bc] 58 (0,0))):=(F4.block _ (bn T6.o) (fun e=>by
   have:=F1.o.size;rcases e with e|e
   ·omega
   ·have:=Wj _ e;omega)).t T6.o
  have R4:aj (W4.heap[w.heap.size]? =ae (aG #[ag ah 0,ag ah 0,ag ah 0,aN af 0 0,aN af 0 0] 58 (0,0))):=(F4.block _ (gu (bn B1.o) iU.o.size) (fun e=>by
   rcases e with e|e
   ·omega
   ·have:=Wj _ e;omega)).t ((iU.o.block _ (bn B1.o) id).t B1.o)
  have ho:∀k,w.heap.size<=k->¬(k=pb\/Value.ownBlock (.slice fa s.g.fa.length fc)=ae k):=fun k hk e=>by
   rcases e with e|e
   ·omega
   ·have:=Wj _ e;omega
  have VA4:aj (bD W4 w.heap.size 3 1 (.slice aa T1.length ac) T1.length<|gm T1):=F4.ownsRow (iU.o.ownsRow VA.o fun _ _=>id) fun k hk=>ho k (VA.o.lt k hk).1
  have VB4:aj (bD W4 w.heap.size 3 1 (.slice ba T2.length bc) T2.length<|gm T2):=F4.ownsRow (iU.o.ownsRow VB.o fun _ _=>id) fun k hk=>ho k (VB.o.lt k hk).1
  have z0:aB W4 ⟨w1.heap.size,0,af⟩=ae (ag ah ve):=aQ UD.o 0
  have z1:aB W4 ⟨w1.heap.size,1,af⟩=ae (ag ah vt):=aQ UD.o 1
  have z2:aB W4 ⟨w1.heap.size,2,af⟩=ae (ag ah 3):=aQ UD.o 2
  have z3:aB W4 ⟨w1.heap.size,3,af⟩=ae (.slice aa T1.length ac):=aQ UD.o 3
  have z4:aB W4 ⟨w1.heap.size,4,af⟩=ae (.slice ba T2.length bc):=aQ UD.o 4
  have z5:aB W4 ⟨pb,5,af⟩=ae (aN (ae ⟨eg,0,af⟩) s.g.ep.length jO):=by rw[<-lD.o];exact aQ TO.at_.pa.blk 5
  have ze:aB W4 ⟨eg,i,af⟩=ae (ag ah ve):=Bo (by have:=TO.at_.pa.ep;simp only[dm.gG]at this;rw[lD.o]at this;exact this) HE.o
  clear TO F4 ho Wj
  go_wp2_with fail
  go_quiet (fail)
  go_wp2_with (refine aFM rfl 58 _ _ rfl w.heap.size 0 #[ag ah ve,ag ah vt,ag ah _,.slice aa T1.length ac,.slice ba T2.length bc] rfl rfl (LQ ((((Fr.refl (fun _=>False) _).drewN _).block _ (bn R4.o) id).t R4.o)<|by simp) JC (by simp[Value.oneCell']) ?_)
  refine aFx (JB rfl _ _ _ 58 _ (0,0) _ rfl (JA _ 0<|(((Fr.refl (fun _=>False) _).drewN _).block _ (bn R4.o) id).t R4.o) underlying58 rfl JC) rfl ?_
  exact⟨_,_,rfl,(Qq (dR.drewN _) _).ownsRow VA4.o<|YL VA4.o R4.o<|by decide,(Qq (dR.drewN _) _).ownsRow VB4.o<|YL VB4.o R4.o<|by decide,Gj,TT.o.boxed (dI _) (Qq (dR.drewN _) _)<|TT.o.at_.Ap R4.o<|by decide⟩
end
section
variable{w w':ay}{B pb xb N:Nat}{s:dm}
variable{i:Nat}
def bJ.ps(a:bJ w B pb xb N s)(hi:(i:Int)<s.h.P):∃x,s.h.ps[i]? =ae x:=by
 have:=a.pg.sn.h6;have:=a.pg.sn.P1.2;exact⟨_,eY<|show i<s.h.ps.length by omega⟩
def bJ.ep(a:bJ w B pb xb N s)(hi:(i:Int)<s.h.P):∃e,s.g.ep[i]? =ae e:=by
 have:=a.pg.ep;exact⟨_,eY<|show i<s.g.ep.length by omega⟩
def bJ.EI(a:bJ w B pb xb N s)(hu:s.h.up=true){x:PS}{e:Int}(hx:s.h.ps[i]? =ae x)(he:s.g.ep[i]? =ae e):x.e=e/\1<=e/\e<=N:=by
 have h1:=(a.pg.sn.up hu i x hx).k.e;have h2:=a.pg.ee i e he;have h3:=(a.pg.sn.valid.rW i).e1;have h4:=a.pg.sn.fM;exact⟨h1.trans h2.1.s,h2.2,by omega⟩
inductive Saw(w:ay)(B pb xb N:Nat)(s:dm)(x:PS):Ending->ay->Prop
 |mk {va vb jA:aA} {fa':List Fa} {w':ay} (n1:Bq w w' va (bZ x.bG 1 4)) (n2:Bq w w' vb (bZ x.bG 2 4)) (t:cO w w' B pb xb s (N+1) (s.gG fa' jA)):Saw w B pb xb N s x (aV<|dU #[iF #[ag ah x.e,ag ah x.t,ag ah x.s,va,vb],aF true]) w'
def IX(a:bJ w B pb xb N s)(hN:N<=100000000){i:Nat}(hi:(i:Int)<s.h.P)(hu:s.h.up=true){x:PS}(hx:s.h.ps[i]? =ae x):
 aW prog 22 #[az<|ae ⟨pb,0,af⟩,ag ah i] w (Saw w B pb xb N s x):=by
 obtain⟨e,he⟩:=a.ep hi;have yJ:=(a.EI hu hx he).1;have k:=(a.pg.sn.up hu i x hx).k;have f:=a.pg.sn.valid.rW i;obtain⟨n1,n2,n3⟩:=av5 a.pg i;rw[<-k.s,<-k.t]at n1 n2 n3;have s0:=f.s0;have s1:=f.s1;rw[<-k.s]at s0 s1;by_cases hn:x.s=3/\iR s.g.fa i x.t=0
 ·have hd:fD s.L i x.t false:=by
   have:=(a.pg.sn.valid.Me i).now (by rw[<-k.s];omega);rw[<-k.s,<-k.t,hn.1]at this;exact this
  exact(awo a hi hu hx he yJ hn.2 hn.1 hN<|a.pg.av8 hd).z fun e w' ⟨va,vb,h1,h2,h3,jA,h4⟩=>by rw[h1];exact .mk h2 h3 h4
 ·refine(awn a hi hu hx he yJ rfl ?_).z fun e w' ⟨va,vb,h1,h2,h3,h4⟩=>by rw[h1];exact .mk h2 h3 (fa':=s.g.fa) (jA:=s.v.fv) ((cO.still a h4).z<|by omega)
  rcases(show x.s=0\/x.s=1\/x.s=2\/x.s=3 by omega)with e|e|e|e
  ·exact .inl e
  ·exact .inr<|.inl ⟨e,n1 e⟩
  ·exact .inr<|.inr<|.inl ⟨e,n2 e⟩
  ·refine .inr<|.inr<|.inr ⟨e,?_⟩;rcases n3 e with z|z
   ·exact absurd ⟨e,z⟩ hn
   ·exact z
end
section
structure kZ(w w':ay)(B pb xb:Nat)(s:dm)(N:Nat)(s':dm):Prop where
 to:cO w w' B pb xb s N s'
 g:s'.g=s.g
 v:s'.v=s.v
 up:s'.h.up=s.h.up
variable{w w':ay}{B pb xb N M:Nat}{s s':dm}
def kZ.still(a:bJ w B pb xb N s)(f:Fr aS w w'):kZ w w' B pb xb s N s:=⟨cO.still a f,rfl,rfl,rfl⟩
def kZ.z(t:kZ w w' B pb xb s N s')(hM:N<=M):kZ w w' B pb xb s M s':=⟨t.to.z hM,t.g,t.v,t.up⟩
def kZ.of(a:bJ w B pb xb N s){n':Nat}{h':HS}{L':List Rc}(m:di w w' B xb N s.h n' h')(hc:h'.P=s.h.P/\h'.Q=s.h.Q/\h'.T=s.h.T/\h'.K=s.h.K)(ax:jk h'.pl)(hn:n'<=M)(hM:N<=M)(hu:h'.up=s.h.up)(pg:Pg M h' L' s.g):kZ w w' B pb xb s M ⟨h',L',s.g,s.v⟩:=⟨cO.awl a m hc ax hn hM pg,rfl,rfl,hu⟩
def bJ.q(a:bJ w B pb xb N s){q:Nat}(hq:(q:Int)<s.h.Q):∃p,s.h.pl[q]? =ae p:=by
 have:=a.ha.hQ.1;exact⟨_,eY<|show q<s.h.pl.length by omega⟩
structure pO(i:Nat)(h h':HS):Prop where
 up:h'.up=h.up
 fl:h'.fl=h.fl
 ot:∀j,j≠i->h'.ps[j]? =h.ps[j]?
 out:∀(q:Nat) (p':PL),h'.pl[q]? =ae p'->∃p,h.pl[q]? =ae p/\p'.out=p.out
def pO.refl(i:Nat)(h:HS):pO i h h:=⟨rfl,rfl,fun _ _=>rfl,fun _ p' hp=>⟨p',hp,rfl⟩⟩
variable{i:Nat}{h h':HS}
def pO.t{h1:HS}(a:pO i h h1)(b:pO i h1 h'):pO i h h':=⟨b.up.t a.up,b.fl.t a.fl,fun j hj=>(b.ot j hj).t<|a.ot j hj,fun q p' hp=>by
 obtain⟨p1,h1,e1⟩:=b.out q p' hp;obtain⟨p,h0,e0⟩:=a.out q p1 h1;exact⟨p,h0,e1.t e0⟩⟩
def pO.eH(i:Nat)(h:HS)(x:PS):pO i h (h.eH i x):=⟨rfl,rfl,fun _ hj=>vZ hj.s,fun _ p' hp=>⟨p',hp,rfl⟩⟩
def pO.iD{q:Nat}{p p':PL}(hp:h.pl[q]? =ae p)(e:p'.out=p.out):pO i h (h.iD q p'):=⟨rfl,rfl,fun _ _=>rfl,fun k y hy=>by
 by_cases hk:q=k
 ·subst hk;rw[show(h.iD q p').pl[q]? =ae p' from nJ (dS.1 hp).1]at hy;cases hy;exact⟨p,hp,e⟩
 ·rw[show(h.iD q p').pl[k]? =h.pl[k]? from vZ hk]at hy;exact⟨y,hy,rfl⟩⟩
def pO.wrote{r:Rc}(hr:r.p=(i:Int))(ho:jU h r true h'):pO i h h':=by
 cases ho with
 |ok jv _=>
  refine⟨rfl,rfl,fun j hj=>?_,fun _ p' hp=>⟨p',hp,rfl⟩⟩;show(h.ps.set r.p.toNat _)[j]? =_;exact vZ<|by omega
structure akr(s:dm)(i q:Nat)(x:PS)(s2:dm)(x2:PS):Prop where
 qE:pO i s.h s2.h
 sub:∀r∈s.L,r∈s2.L
 ok:(x.s=0\/x.s=1)->∀p,s.h.pl[q]? =ae p->p.out=false->x2.s=1/\x2.bG.getD q 0≠0/\∃p2,s2.h.pl[q]? =ae p2/\p2.s=p.s.opened i x2.t/\p2.out=false
inductive Qs(x:PS):Int->PS->Prop
 |busy (hs:x.s=2\/x.s=3):Qs x 9 x
 |out (hs:x.s=0\/x.s=1):Qs x 10 x
 |new {x2:PS} (hs:x.s=0) (h1:x2.s=1) (h2:x2.t=x.t+1) (h3:(bZ x2.bG 1 4).length=1):Qs x 0 x2
 |more {x2:PS} (hs:x.s=1) (h1:x2.s=1) (h2:x2.t=x.t):Qs x 0 x2
inductive adG(w:ay)(B pb xb N:Nat)(s:dm)(i q:Nat)(x:PS):Ending->ay->Prop
 |mk {code:Int} {x2:PS} {s2:dm} {w':ay} (t:kZ w w' B pb xb s (N+2) s2) (hx:s2.h.ps[i]? =ae x2) (r:Qs x code x2) (ax:akr s i q x s2 x2):adG w B pb xb N s i q x (aV<|ag ah code) w'
variable{x:PS}{q:Nat}{ep:Int}
def aws(hq:q<4)(hz:∀j:Nat,j<4->x.bG.getD j 0=if j=q then 1 else 0):(bZ x.bG 1 4).length=1:=by
 have:bZ x.bG 1 4=[(q:Int)]:=by
  unfold bZ;have h:(List.range 4).filter (fun i=>decide<|(1:Int)<=x.bG.getD i 0)=(List.range 4).filter fun i=>decide (i=q):=by
   refine OL fun j hj=>?_;rw[hz j<|Jw.1 hj];by_cases e:j=q<;>simp[e]
  rw[h];match q,hq with
  |0,_|1,_|2,_|3,_=>rfl
 rw[this];rfl
def aks(hl:i<h.ps.length)(x:PS):(h.eH i x).ps[i]? =ae x:=nJ hl
def awt(a:bJ w B pb xb N s)(hN:N<=90000000)(hi:(i:Int)<s.h.P)(hq:(q:Int)<s.h.Q)(hu:s.h.up=true)(hx:s.h.ps[i]? =ae x)(he:s.g.ep[i]? =ae ep):
 aW prog 63 #[az<|ae ⟨xb,0,af⟩,ag ah i,ag ah ep,ag ah q] w (adG w B pb xb N s i q x):=by
 obtain⟨p,hp⟩:=a.q hq;obtain⟨e1,e2,_⟩:=a.EI hu hx he;have hb:s.h.bars x ep=0:=by
  unfold HS.bars;rw[hu,if_neg<|by simp,if_neg<|by omega]
 have f:=a.pg.sn.valid.rW i;have pr:=a.pg.sn.up hu i x hx;have s0:=f.s0;have s1:=f.s1;rw[<-pr.k.s]at s0 s1;have hQ:=a.pg.sn.Q1.2;have uf:=(dS.1 hp).1;have l9:=(dS.1 hx).1;by_cases h2:x.s=2\/x.s=3
 ·exact(apz a.ha hi uf hx hb h2).z fun e w' ⟨g1,g2⟩=>by rw[g1];exact .mk ((kZ.still a g2).z<|by omega) hx (.busy h2) ⟨.refl _ _,fun _ z=>z,fun z=>by omega⟩
 have OD:x.s=0\/x.s=1:=by omega
 cases ho:p.out with
 |true=>exact(apA a.ha hi hp ho hx hb OD).z fun e w' ⟨g1,g2⟩=>by rw[g1];exact .mk ((kZ.still a g2).z<|by omega) hx (.out OD) ⟨.refl _ _,fun _ z=>z,fun _ p1 uT KL=>by rw[hp]at uT;cases uT;rw[ho]at KL;cases KL⟩
 |false=>
  by_cases ht:x.bG.getD q 0=0
  ·have hn:=a.pg.sn.av1 hu hi hq hx OD ht;refine(apD a.ha a.ax hi hp ho hx hb OD ht (by unfold eP;omega)<|a.pg.sn.may (by omega) hn).z fun e w' h=>?_;cases h with
   |uC hw=>
    cases hw with
    |uC jv qI=>rw[a.pg.sn.br]at qI;cases qI
   | @ok h1 v' _ hw hm ha=>
     obtain⟨_,sn,gr,hu1,hP,Rn,hT,hK⟩:=a.pg.sn.added hu v' hi hq hx hp hn hw;have gY:h1.ps.length=6:=by
      cases hw with
      |ok jv _=>show(kz s.h.ps _).length=6;simp[kz,a.pg.sn.h6]
     refine .mk (x2:={x.dA ⟨2,i,q,x.next⟩with si:=0}) (kZ.of a hm ⟨hP,Rn,hT,hK⟩ ha (by omega) (by omega) (hu1.t hu.s)<|a.pg.add rfl sn hP (hu1.t hu.s) gr) (aks (by show i<h1.ps.length;have:=a.pg.sn.h6;omega) _) ?_ ⟨((pO.wrote rfl hw).t<|pO.iD (p:=p) (p':=⟨p.lb,p.bm,v',p.s.opened i x.next,p.out⟩) (by cases hw;exact hp) rfl).t<|.eH _ _ _,fun _ z=>CJ _ z,fun _ p1 uT KL=>?_⟩;rotate_left
     ·rw[hp]at uT;cases uT;obtain⟨y1,_,y3⟩:=aha x i q x.next;refine⟨y3,?_,⟨p.lb,p.bm,v',p.s.opened i x.next,p.out⟩,nJ (by cases hw;exact uf),by show _=p.s.opened i (x.dA ⟨2,i,q,x.next⟩).t;rw[y1],KL⟩;show(x.dA ⟨2,i,q,x.next⟩).bG.getD q 0≠0;rw[show x.dA ⟨2,i,q,x.next⟩=({x with s:=1,t:=x.next}:PS).tie q 1 by simp[PS.dA],H6 _ q 1 (by omega) (by omega) q];simp
     have hd:x.dA ⟨2,i,q,x.next⟩=({x with s:=1,t:=x.next}:PS).tie q 1:=by simp[PS.dA]
     obtain⟨_,r2,r3,_⟩:=H7 ({x with s:=1,t:=x.next}:PS) q 1;have k1:({x.dA ⟨2,i,q,x.next⟩with si:=0}:PS).s=1:=by show(x.dA ⟨2,i,q,x.next⟩).s=1;rw[hd,r3]
     have k2:({x.dA ⟨2,i,q,x.next⟩with si:=0}:PS).t=x.next:=by show(x.dA ⟨2,i,q,x.next⟩).t=x.next;rw[hd,r2]
     rcases OD with hs|hs
     ·refine .new hs k1 (k2.t (by unfold PS.next;rw[if_pos hs])) (aws (q:=q) (by omega) fun j hj=>?_);show(x.dA ⟨2,i,q,x.next⟩).bG.getD j 0=_;rw[hd,H6 _ q 1 (by omega) (by omega) j];obtain⟨z1,z2,z3,z4⟩:=pr.k.none hs;by_cases e:j=q
      ·subst e;simp
      ·rw[if_neg<|by omega,if_neg e,Sl _ j hj];simp[z1,z2,z3,z4]
     ·exact .more hs k1<|k2.t (by unfold PS.next;rw[if_neg<|by omega])
  ·refine(apB a.ha a.ax hi hp ho hx hb OD ht (by unfold eP;omega)).z fun e w' h=>?_;cases h with
   | @mk v' _ hm ha=>
     obtain⟨Jb,sn,gr⟩:=a.pg.sn.again hu v' hi hq hx hp ht OD;exact .mk (x2:={x with si:=0}) ((kZ.of a hm ⟨rfl,rfl,rfl,rfl⟩ ha (dI _) (by omega) rfl<|a.pg.same sn rfl rfl gr).z<|by omega) (aks l9 _) (.more Jb Jb rfl) ⟨(pO.iD (p':=⟨p.lb,p.bm,v',p.s.opened i x.t,p.out⟩) hp rfl).t<|.eH _ _ _,fun _ z=>z,fun _ p1 uT KL=>by rw[hp]at uT;cases uT;exact⟨Jb,ht,_,nJ uf,rfl,KL⟩⟩
def adH(a:bJ w B pb xb N s)(hu:s.h.up=true)(hx:s.h.ps[i]? =ae x)(he:s.g.ep[i]? =ae ep):s.h.bars x (ep-1)=7:=by
 obtain⟨e1,e2,_⟩:=a.EI hu hx he;unfold HS.bars;rw[hu,if_neg<|by simp,if_pos<|by omega]
def adI(hu:s.h.up=false)(x:PS)(e:Int):s.h.bars x e=5:=by
 unfold HS.bars;rw[hu,if_pos rfl]
end
section
variable{w:ay}{B pb xb N:Nat}{s:dm}
variable{n q:Nat}{L':List Rc}{h:HS}{g:PG}{v:PV}
def awu{W w1:ay}{jA:aA}{f:Wn}(ha:aH w B xb n s.h)(ax:jk s.h.pl)(b:iE w B pb xb s.h s.g s.v)(zV:s.g.wr.length<=N)(Wi:s.g.fa.length<=N)(hn:n<=N+1)(hW:Fr aS w W)(hg:W.grownBy w1 s.v.wv.ownBlock)(jf:bD w1 B 66 4 jA (s.g.wr.length+1) (s.g.wr.flatMap Wn.cs++f.cs))(fC:∀k,bY jA=ae k->s.v.wv.ownBlock=ae k\/w.heap.size<=k)(pg:Pg (N+1) s.h L' {s.g with wr:=s.g.wr++[f]}):
 cO w (aX w1 ⟨pb,7,af⟩ jA) B pb xb s (N+1) ⟨s.h,L',{s.g with wr:=s.g.wr++[f]},{s.v with wv:=jA}⟩:=by
 have f1:Fr (fun k=>s.v.wv.ownBlock=ae k) w w1:=(hW.z dw).grown hg fun k e=>.inl e;have f2:Fr (fun k=>k=pb\/s.v.wv.ownBlock=ae k) w (aX w1 ⟨pb,7,af⟩ jA):=(f1.z fun k h=>.inl<|.inr h).setCell (.inl<|.inl rfl) _;have dD:s.v.wv.ownBlock≠ae pb:=Hy b.wr b.blk (by decide);have b1:=(f1.block pb (bn b.blk) dD).t b.blk;have ht:∀k,(k=pb\/s.v.wv.ownBlock=ae k)->tag w k=48\/tag w k=66:=fun k e=>e.imp (fun e=>by rw[e];exact mO b.blk) fun e=>iY b.wr e;have st:∀{ty:dJ} {wd:Nat} {u:aA} {m:Nat} {xs:List aA},bD w B ty wd u m xs->ty≠48->ty≠66->(aX w1 ⟨pb,7,af⟩ jA).ownsRow B ty wd u m xs:=fun ho h1 h2=>Nq ho f2 fun k e e2=>(ht k e).e (fun z=>h1<|e2.s.t z) fun z=>h2<|e2.s.t z;have hf:∀k,(k=pb\/s.v.wv.ownBlock=ae k)->s.eG pb xb k:=fun k e=>.inr<|e.imp id fun e=>.inr<|.inl e;have hh:aH (aX w1 ⟨pb,7,af⟩ jA) B xb n s.h:=ha.stay f2 fun k e hk=>ha.off b hk<|e.imp id fun e=>.inr<|.inl e;refine⟨⟨hh.z hn,ax,⟨?_,st b.ep (by decide)<|by decide,?_,st b.fa (by decide)<|by decide,st b.gt (by decide)<|by decide,b.gl,fun q u l h1 h2=>st (b.rc q u l h1 h2) (by decide)<|by decide,st b.st (by decide)<|by decide,b.ap,b.hb⟩,pg,?_,aaH Wi⟩,f2.z fun k e=>.inl<|hf k e,fun k hk=>?_,rfl,rfl,rfl,rfl⟩
 ·rw[kU b1];rfl
 ·have hr:Fr (fun k=>k=pb) w1 (aX w1 ⟨pb,7,af⟩ jA):=(Fr.refl (fun k=>k=pb) w1).setCell (p:=⟨pb,7,af⟩) (.inl rfl) _;have:=hr.ownsRow jf (fun k hk e=>by
   subst e;rcases fC _ hk with h1|h1
   ·exact dD h1
   ·have:=bn b.blk;omega)
  show World.ownsRow _ B 66 4 jA (s.g.wr++[f]).length ((s.g.wr++[f]).flatMap Wn.cs);simpa using this
 ·have:=zV;show(s.g.wr++[f]).length<=N+1;simp<;>omega
 ·rcases hk with hk|hk|hk|hk|hk|hk
  ·exact .inl<|.inl hk
  ·exact .inl<|.inr<|.inl hk
  ·exact .inl<|.inr<|.inr<|.inl hk
  ·rcases fC k hk with e|e
   ·exact .inl<|.inr<|.inr<|.inr<|.inl e
   ·exact .inr e
  ·exact .inl<|.inr<|.inr<|.inr<|.inr<|.inl hk
  ·exact .inl<|.inr<|.inr<|.inr<|.inr<|.inr hk
def awv{eg cap i:Nat}{e0:Int}(ha:aH w B xb n s.h)(ax:jk s.h.pl)(b:iE w B pb xb s.h s.g s.v)(zV:s.g.wr.length<=N)(Wi:s.g.fa.length<=N)(hn:n<=N+1)(eX:s.v.ev=aN (ae ⟨eg,0,af⟩) s.g.ep.length cap)(pg:Pg (N+1) s.h L' {s.g with ep:=s.g.ep.set i e0}):
 cO w (aX w ⟨eg,i,af⟩<|ag ah e0) B pb xb s (N+1) ⟨s.h,L',{s.g with ep:=s.g.ep.set i e0},s.v⟩:=by
 have dG:=b.ep;rw[eX]at dG;have ho:s.v.ev.ownBlock=ae eg:=by rw[eX];rfl
 have f:Fr (fun k=>k=eg) w (aX w ⟨eg,i,af⟩<|ag ah e0):=(Fr.refl (fun k=>k=eg) w).setCell (p:=⟨eg,i,af⟩) (.inl rfl) _;have ht:tag w eg=3:=iY b.ep ho;have st:∀{ty:dJ} {wd:Nat} {u:aA} {m:Nat} {xs:List aA},bD w B ty wd u m xs->ty≠3->(aX w ⟨eg,i,af⟩<|ag ah e0).ownsRow B ty wd u m xs:=fun ho h1=>Nq ho f fun k e e2=>h1 (by rw[<-e2,e,ht]);have dD:eg≠pb:=fun e=>by rw[e,mO b.blk]at ht;exact absurd ht<|by decide
 have hf:∀k,k=eg->s.eG pb xb k:=fun k e=>.inr (.inr<|.inl (by rw[e];exact ho));refine⟨⟨(ha.stay f fun k e hk=>ha.off b hk<|.inr<|.inl (by rw[e];exact ho)).z hn,ax,⟨(f.block pb (bn b.blk) fun e=>dD e.s).t b.blk,?_,st b.wr<|by decide,st b.fa<|by decide,st b.gt<|by decide,b.gl,fun q u l h1 h2=>st (b.rc q u l h1 h2)<|by decide,f.ownsRow b.st fun k hk e=>b.ap eg ho<|e▸hk,b.ap,b.hb⟩,pg,aaH zV,aaH Wi⟩,f.z fun k e=>.inl<|hf k e,fun k hk=>.inl hk,rfl,rfl,rfl,rfl⟩;show World.ownsRow _ B 3 1 s.v.ev (s.g.ep.set i e0).length (gm<|s.g.ep.set i e0);have:=(dG.stored i<|ag ah e0).1;rw[eX,zZ];have e:gm (s.g.ep.set i e0)=(gm s.g.ep).set i (ag ah e0):=by simp[gm,List.map_set]
 rw[e];exact this
def aww{gg gc:Nat}{u:aA}{l:List Rec}(a:bJ w B pb xb N s)(oG:s.v.gv=aN (ae ⟨gg,0,af⟩) s.v.gs.length gc)(hu:bD w B 94 3 u l.length (rq l))(hq:q<s.v.gs.length):
 iE (aX w ⟨gg,q,af⟩ u) B pb xb s.h {s.g with gt:=s.g.gt.set q l} {s.v with gs:=s.v.gs.set q u}/\aH (aX w ⟨gg,q,af⟩ u) B xb N s.h/\Fr (fun k=>k=gg) w (aX w ⟨gg,q,af⟩ u)/\s.eG pb xb gg:=by
 have b:=a.pa;have dG:=b.gt;rw[oG]at dG;have ho:s.v.gv.ownBlock=ae gg:=by rw[oG];rfl
 have f:Fr (fun k=>k=gg) w (aX w ⟨gg,q,af⟩ u):=(Fr.refl (fun k=>k=gg) w).setCell (p:=⟨gg,q,af⟩) (.inl rfl) _;have ht:tag w gg=67:=iY b.gt ho;have st:∀{ty:dJ} {wd:Nat} {u':aA} {m:Nat} {xs:List aA},bD w B ty wd u' m xs->ty≠67->(aX w ⟨gg,q,af⟩ u).ownsRow B ty wd u' m xs:=fun ho h1=>Nq ho f fun k e e2=>h1 (by rw[<-e2,e,ht]);have dD:gg≠pb:=fun e=>by rw[e,mO b.blk]at ht;exact absurd ht<|by decide
 refine⟨⟨(f.block pb (bn b.blk) fun e=>dD e.s).t b.blk,st b.ep<|by decide,st b.wr<|by decide,st b.fa<|by decide,?_,by simp[b.gl],fun j u' l' h1 h2=>?_,st b.st<|by decide,b.ap,b.hb⟩,a.ha.stay f fun k e hk=>a.ha.off b hk<|.inr<|.inr<|.inr<|.inr<|.inl (by rw[e];exact ho),f,.inr<|.inr<|.inr<|.inr<|.inr<|.inl ho⟩
 ·show World.ownsRow _ B 67 1 s.v.gv (s.v.gs.set q u).length (s.v.gs.set q u);have:=(dG.stored q u).1;rw[oG,zZ];exact this
 ·rcases CZ h1 with⟨rfl,rfl⟩|⟨amj,EW⟩
  ·rcases CZ h2 with⟨_,rfl⟩|⟨z,_⟩
   ·exact st hu<|by decide
   ·exact absurd rfl z
  ·rcases CZ h2 with⟨z,_⟩|⟨_,QS⟩
   ·exact absurd z amj
   ·exact st (b.rc j u' l' EW QS)<|by decide
def awx{sg sc m:Nat}(ha:aH w B xb n h)(b:iE w B pb xb h g v)(D6:v.sv=aN (ae ⟨sg,0,af⟩) g.st.length sc):
 iE (aX w ⟨sg,q,af⟩<|ag ah m) B pb xb h {g with st:=g.st.set q m} v/\aH (aX w ⟨sg,q,af⟩<|ag ah m) B xb n h/\Fr (fun k=>k=sg) w (aX w ⟨sg,q,af⟩<|ag ah m)/\v.eG pb sg:=by
 have dG:=b.st;rw[D6]at dG;have ho:v.sv.ownBlock=ae sg:=by rw[D6];rfl
 have f:Fr (fun k=>k=sg) w (aX w ⟨sg,q,af⟩<|ag ah m):=(Fr.refl (fun k=>k=sg) w).setCell (p:=⟨sg,q,af⟩) (.inl rfl) _;have ht:tag w sg=3:=iY b.st ho;have st:∀{ty:dJ} {wd:Nat} {u':aA} {m':Nat} {xs:List aA},bD w B ty wd u' m' xs->ty≠3->(aX w ⟨sg,q,af⟩<|ag ah m).ownsRow B ty wd u' m' xs:=fun ho h1=>Nq ho f fun k e e2=>h1 (by rw[<-e2,e,ht]);have dD:sg≠pb:=fun e=>by rw[e,mO b.blk]at ht;exact absurd ht<|by decide
 refine⟨⟨(f.block pb (bn b.blk) fun e=>dD e.s).t b.blk,f.ownsRow b.ep (fun k hk e=>b.ap k hk (by rw[e];exact ho)),st b.wr<|by decide,st b.fa<|by decide,st b.gt<|by decide,b.gl,fun j u' l' h1 h2=>st (b.rc j u' l' h1 h2)<|by decide,?_,b.ap,b.hb⟩,ha.stay f fun k e hk=>ha.off b hk<|.inr<|.inr<|.inr<|.inr<|.inr<|.inl (by rw[e];exact ho),f,.inr<|.inr<|.inr<|.inr<|.inr<|.inl ho⟩;show World.ownsRow _ B 3 1 v.sv (g.st.set q m).length (gm<|(g.st.set q m).map Int.ofNat);have:=(dG.stored q<|ag ah m).1;rw[D6,zZ];have e:gm ((g.st.set q m).map Int.ofNat)=(gm<|g.st.map Int.ofNat).set q (ag ah m):=by simp[gm,List.map_set]
 rw[e];exact this
def adJ{d:Bool}(ha:aH w B xb n h)(b:iE w B pb xb h g v):
 iE (aX w ⟨pb,6,af⟩<|aF d) B pb xb h {g with dn:=d} v/\aH (aX w ⟨pb,6,af⟩<|aF d) B xb n h/\Fr (fun k=>k=pb) w (aX w ⟨pb,6,af⟩<|aF d):=by
 have f:Fr (fun k=>k=pb) w (aX w ⟨pb,6,af⟩<|aF d):=(Fr.refl (fun k=>k=pb) w).setCell (p:=⟨pb,6,af⟩) (.inl rfl) _;have ht:tag w pb=48:=mO b.blk;have st:∀{ty:dJ} {wd:Nat} {u':aA} {m':Nat} {xs:List aA},bD w B ty wd u' m' xs->ty≠48->(aX w ⟨pb,6,af⟩<|aF d).ownsRow B ty wd u' m' xs:=fun ho h1=>Nq ho f fun k e e2=>h1 (by rw[<-e2,e,ht]);exact⟨⟨by rw[kU b.blk];rfl,st b.ep<|by decide,st b.wr<|by decide,st b.fa<|by decide,st b.gt<|by decide,b.gl,fun j u' l' h1 h2=>st (b.rc j u' l' h1 h2)<|by decide,st b.st<|by decide,b.ap,b.hb⟩,ha.stay f fun k e hk=>ha.off b hk<|.inl e,f⟩
end
section
variable{w w':ay}{B pb xb N:Nat}{s:dm}
def Ar(x:PS)(p:PL)(i q:Nat)(ts:ByteArray):Prop:=x.s=1/\x.bG.getD q 0≠0/\p.s.nw i=ae (x.t,true)/\p.out=false/\p.s.nK i x.t ts=0
structure YM(w w':ay)(B pb xb N:Nat)(s:dm)(i q:Nat)(p:PL)(x:PS)(code:Int)(s2:dm):Prop where
 to:kZ w w' B pb xb s (N+1) s2
 no:code≠0
 len:∃p2,s2.h.pl[q]? =ae p2/\p2.s=p.s
 ok:x.s≠1\/code=11\/code=10\/code=12
 qE:pO i s.h s2.h
 sub:s2.L=s.L
 me:∃x',s2.h.ps[i]? =ae x'/\x'.s=x.s/\x'.t=x.t
structure YN(w w':ay)(B xb N:Nat)(h:HS)(L:List Rc)(i q:Nat)(p:PL)(t:Int)(ts:ByteArray)(h':HS)(p':PL):Prop where
 mv:di w w' B xb N h N h'
 ax:jk h'.pl
 sn:Sn (N+1) h' L
 pl:h'.pl=h.pl.set q p'
 data:p'.s.data=p.s.data++[⟨1,i,t,ts⟩]
 ext:Ext p.s p'.s
 len:p'.s.es.length=p.s.es.length+1
 up:h'.up=h.up
 cf:h'.P=h.P/\h'.Q=h.Q/\h'.T=h.T/\h'.K=h.K
 qE:pO i h h'
 me:∃x',h'.ps[i]? =ae x'/\x'.s=1/\x'.t=t
variable{i q:Nat}{ts:ByteArray}{x:PS}{p:PL}{ep:Int}
def awy{s0:aJ}{i t:Int}(ho:s0.nw i=ae (t,true))(h8:ts.size<=8)(hc:s0.nK i t ts≠0):s0.nK i t ts=12:=by
 have h1:s0.isOpen i t=true:=RS.2 ho;unfold aJ.nK at hc⊢
 rw[h1,if_neg<|by simp,if_neg<|by omega]at hc⊢
 split
 ·rfl
 ·rename_i hn;rw[if_neg hn]at hc;exact absurd rfl hc
def awz(a:bJ w B pb xb N s)(hN:N<=90000000)(hi:(i:Int)<s.h.P)(hu:s.h.up=true)(hx:s.h.ps[i]? =ae x)(hp:s.h.pl[q]? =ae p)(he:s.g.ep[i]? =ae ep)(h8:ts.size<=8)(oL:¬Ar x p i q ts):
 aW prog 77 #[az<|ae ⟨xb,0,af⟩,ag ah i,ag ah ep,ag ah q,dK ts] w fun e w'=>∃code s2,e=aV (ag ah code)/\YM w w' B pb xb N s i q p x code s2:=by
 obtain⟨e1,e2,_⟩:=a.EI hu hx he;have hb:s.h.bars x ep=0:=by
  unfold HS.bars;rw[hu,if_neg<|by simp,if_neg<|by omega]
 have uf:=(dS.1 hp).1;have k:=(a.pg.sn.up hu i x hx).k;have f:=a.pg.sn.valid.rW i;have s0:=f.s0;have s1:=f.s1;rw[<-k.s]at s0 s1;have still:∀{w':ay} {code:Int},Fr aS w w'->code≠0->(x.s≠1\/code=11\/code=10\/code=12)->YM w w' B pb xb N s i q p x code s:=fun g h1 h2=>⟨(kZ.still a g).z<|by omega,h1,⟨p,hp,rfl⟩,h2,.refl _ _,rfl,⟨x,hx,rfl,rfl⟩⟩;by_cases h1:x.s=1
 ·by_cases ht:x.bG.getD q 0=0
  ·exact(apG a.ha hi uf hx hb h1 ht h8).z fun e w' ⟨g1,g2⟩=>⟨11,s,g1,still g2 (by decide)<|.inr<|.inl rfl⟩
  ·have qJ:=(a.pg.sn.dZ q p hp).fM;refine(ahf a.ha a.ax hi hp hx hb h1 ht h8 (by omega)<|by omega).z fun e w' h=>?_;cases h with
   |not ho g=>exact⟨11,s,rfl,still g (by decide)<|.inr<|.inl rfl⟩
   |out ho OA g=>exact⟨10,s,rfl,still g (by decide)<|.inr<|.inr<|.inl rfl⟩
   | @bad _ t v' ho OA hc hm ha=>
     have adK:=a.pg.sn.opn q p hp i t ho;have KT:p.s.nw i=ae (x.t,true):=by rw[ho,k.t,adK.2.2.2.1]
     have Ro:=awy KT h8 hc;rw[Ro];have GI:=av3 hc;obtain⟨sn,gr⟩:=a.pg.sn.av4 v' hp GI;exact⟨12,_,rfl,⟨kZ.of a hm ⟨rfl,rfl,rfl,rfl⟩ ha (by omega) (by omega) rfl<|a.pg.same sn rfl rfl gr,by decide,⟨_,nJ uf,GI⟩,.inr<|.inr<|.inr rfl,pO.iD hp rfl,rfl,⟨x,hx,rfl,rfl⟩⟩⟩
   | @ok _ t v' ho OA hc hm ha=>
     have adK:=a.pg.sn.opn q p hp i t ho;have KT:p.s.nw i=ae (x.t,true):=by rw[ho,k.t,adK.2.2.2.1]
     exact absurd ⟨h1,ht,KT,OA,hc⟩ oL
 ·exact(apF a.ha hi uf hx hb (by omega) h8).z fun e w' ⟨g1,g2⟩=>⟨_,s,g1,still g2 (by split<;>decide)<|.inl h1⟩
def awC(a:bJ w B pb xb N s)(hN:N<=90000000)(hi:(i:Int)<s.h.P)(hu:s.h.up=true)(hx:s.h.ps[i]? =ae x)(hp:s.h.pl[q]? =ae p)(he:s.g.ep[i]? =ae ep)(h8:ts.size<=8)(hy:Ar x p i q ts):
 aW prog 77 #[az<|ae ⟨xb,0,af⟩,ag ah i,ag ah ep,ag ah q,dK ts] w fun e w'=>e=aV (ag ah 0)/\∃h' p',YN w w' B xb N s.h s.L i q p x.t ts h' p':=by
 obtain⟨h1,ht,KT,OA,hc⟩:=hy;obtain⟨e1,e2,_⟩:=a.EI hu hx he;have hb:s.h.bars x ep=0:=by
  unfold HS.bars;rw[hu,if_neg<|by simp,if_neg<|by omega]
 have qJ:=(a.pg.sn.dZ q p hp).fM;refine(ahf a.ha a.ax hi hp hx hb h1 ht h8 (by omega)<|by omega).z fun e w' h=>?_;cases h with
 |not ho g=>exact absurd KT<|ho _
 |out ho rO g=>rw[OA]at rO;cases rO
 |bad ho rO lY hm ha=>exact absurd hc lY
 | @ok _ t v' ho rO lY hm ha=>
   obtain⟨sn,ext⟩:=a.pg.sn.put (by omega) hu v' hi hx hp hc;exact⟨rfl,_,⟨p.lb,p.bm,v',p.s.lQ i x.t ts,p.out⟩,hm,ha,sn,rfl,av2 hc,ext,by show(p.s.lQ i x.t ts).es.length=_;rw[YH hc];simp,rfl,⟨rfl,rfl,rfl,rfl⟩,(pO.iD (p':=⟨p.lb,p.bm,v',p.s.lQ i x.t ts,p.out⟩) hp rfl).t<|.eH _ _ _,_,nJ (dS.1 hx).1,h1,rfl⟩
def awD(a:bJ w B pb xb N s)(hi:(i:Int)<s.h.P)(hu:s.h.up=true)(hx:s.h.ps[i]? =ae x)(hq:q<s.h.pl.length)(he:s.g.ep[i]? =ae ep)(h8:ts.size<=8):
 aW prog 77 #[az<|ae ⟨xb,0,af⟩,ag ah i,.int .i64<|ep-1,ag ah q,dK ts] w fun e w'=>e=aV (ag ah 7)/\w=w':=by
 have hb:=adH a hu hx he;have:=ahe (ep:=ep-1) a.ha hi hq hx (by rw[hb];decide) h8;rw[hb]at this;exact this
end
section
variable{w w':ay}{B pb xb N:Nat}{s s':dm}
def bJ.uK(a:bJ w B pb xb N s){eg cap i:Nat}{e:Int}(eX:s.v.ev=aN (ae ⟨eg,0,af⟩) s.g.ep.length cap)(he:s.g.ep[i]? =ae e):aB w ⟨pb,0,af⟩=ae (az<|ae ⟨xb,0,af⟩)/\aB w ⟨pb,5,af⟩=ae (aN (ae ⟨eg,0,af⟩) s.g.ep.length cap)/\aB w ⟨eg,i,af⟩=ae (ag ah e)/\aB w ⟨pb,6,af⟩=ae (aF s.g.dn)/\pb<w.heap.size/\eg<w.heap.size:=by
 obtain⟨c0,_,_,c5,c6,_⟩:=a.cells;have dG:=a.pa.ep;rw[eX]at c5 dG;exact⟨c0,c5,Bo dG he,c6,bn a.pa.blk,(dG.lt eg rfl).2⟩
structure Qu(s:dm)(i q:Nat)(s':dm):Prop where
 wr:s'.g.wr=s.g.wr
 gt:s'.g.gt=s.g.gt
 sub:∀r∈s.L,r∈s'.L
 qE:pO i s.h s'.h
 ok:∀x p,s.h.ps[i]? =ae x->(x.s=0\/x.s=1)->s.h.pl[q]? =ae p->p.out=false->∃x2 p2,s'.h.ps[i]? =ae x2/\x2.s=1/\x2.bG.getD q 0≠0/\s'.h.pl[q]? =ae p2/\p2.s=p.s.opened i x2.t/\p2.out=false/\(x.s=0->(bZ x2.bG 1 4).length=1)/\(x.s=1->x2.t=x.t)
def adL(a:bJ w B pb xb N s)(hN:N<=80000000){i q:Nat}(hi:(i:Int)<s.h.P)(hq:(q:Int)<s.h.Q)(hu:s.h.up=true):
 aW prog 25 #[az<|ae ⟨pb,0,af⟩,ag ah i,ag ah q] w fun e w'=>e=aV (aF true)/\∃s',cO w w' B pb xb s (N+4) s'/\s'.h.up=true/\Qu s i q s':=by
 obtain⟨x,hx⟩:=a.ps hi;obtain⟨ep,he⟩:=a.ep hi;obtain⟨e1,e2,e3⟩:=a.EI hu hx he;have qX:i<s.g.ep.length:=(dS.1 he).1;obtain⟨eg,jO,eX,_⟩:=rF a.pa.ep (by omega);have A:aj (bJ w B pb xb N s):=a;have fK:aj (N<=80000000):=hN;have HI:aj ((i:Int)<s.h.P):=hi;have HQ:aj ((q:Int)<s.h.Q):=hq;have HU:aj (s.h.up=true):=hu;have HX:aj (s.h.ps[i]? =ae x):=hx;have HE:aj (s.g.ep[i]? =ae ep):=he;have lD:aj (s.v.ev=aN (ae ⟨eg,0,af⟩) s.g.ep.length jO):=eX;have zH:(i:Int)<(s.g.ep.length:Int):=by omega
 have sU:(0:Int)<=(i:Int):=by omega
 have hep:ep<=80000000:=by omega
 have zV:eF ah (ep-1)=ep-1:=wrap_i64 (by omega) (by omega);clear a hi hq hu hx he eX hN e1 e3 qX;go_enter func25,ntmps25
 go_wp2_with fail
 refine(IX A.o (by have:=fK.o;omega) HI.o HU.o HX.o).z ?_;rintro e w1 ⟨n1,n2,t1⟩;rename_i va vb iL gq;obtain⟨aa,ac,rfl,_⟩:=lI n1;obtain⟨ba,bc,rfl,_⟩:=lI n2;have T1:aj (cO w w1 B pb xb s (N+1)<|s.gG gq iL):=t1;generalize Bg:(bZ x.bG 1 4).length=l1;generalize CG:(bZ x.bG 2 4).length=l2;clear n1 n2 t1 Bg CG;go_wp2_with fail
 have ZW:aj (∃W:ay,W=bz w1 (aG #[ag ah x.e,ag ah x.t,ag ah x.s,.slice aa l1 ac,.slice ba l2 bc] 58)):=⟨_,rfl⟩;obtain⟨W1,eW⟩:=ZW.o;rw[<-eW];have iU:aj (Fr aS w1 W1):=by subst eW;exact bQ _
 have X1:aj (W1.heap[w1.heap.size]? =ae (aG #[ag ah x.e,ag ah x.t,ag ah x.s,.slice aa l1 ac,.slice ba l2 bc] 58 (0,0))):=by subst eW;exact aFb _ _
 have lV:aj (bJ W1 B pb xb (N+1)<|s.gG gq iL):=T1.o.at_.a iU.o;clear ZW eW;obtain⟨d0,d5,de,d6,aK,pM⟩:=lV.o.uK lD.o HE.o;have HC:aj (aW prog 63 #[az<|ae ⟨xb,0,af⟩,ag ah i,.int .i64<|ep-1,ag ah q] W1.drew fun e w'=>e=aV (ag ah 7)/\W1.drew=w'):=by
  have hb:=adH lV.o HU.o HX.o HE.o;have uf:q<s.h.pl.length:=by
   have h1:=HQ.o;have h2:s.h.Q=s.h.pl.length:=lV.o.ha.hQ.1;omega
  have:=ag8 (ep:=ep-1) (lV.o.ha.a<|dR.drew) HI.o uf HX.o (by rw[hb];decide);rw[hb]at this;exact this
 go_region_held3 (fun w'=>aB w' ⟨pb,0,af⟩=ae (az<|ae ⟨xb,0,af⟩)/\aB w' ⟨pb,5,af⟩=ae (aN (ae ⟨eg,0,af⟩) s.g.ep.length jO)/\aB w' ⟨eg,i,af⟩=ae (ag ah ep))
  (first|exact⟨d0,d5,de⟩|go_keep)
  ((go_at_call 63;with_reducible refine HC.o.z ?_;rintro e w2 ⟨rfl,rfl⟩))
 go_wp2_with fail
 have ui:aj (∀V,Fr aS W1 V->aW prog 63 #[az<|ae ⟨xb,0,af⟩,ag ah i,ag ah ep,ag ah q] V (adG V B pb xb (N+1) (s.gG gq iL) i q x)):=fun V f=>awt (lV.o.a f) (by have:=fK.o;omega) HI.o HQ.o HU.o HX.o HE.o;go_region_held3 (fun w'=>aB w' ⟨pb,0,af⟩=ae (az<|ae ⟨xb,0,af⟩)/\aB w' ⟨pb,5,af⟩=ae (aN (ae ⟨eg,0,af⟩) s.g.ep.length jO)/\aB w' ⟨eg,i,af⟩=ae (ag ah ep))
  (first|with_reducible exact C3|exact⟨d0,d5,de⟩|go_keep)
  ((go_at_call 63;with_reducible refine(ui.o _<|(dR.drew).drew).z ?_;rintro e w3 ⟨t3,E7,r3,ax3⟩
    rename_i code x2 s2
    have T3:aj (kZ W1.drew.drew w3 B pb xb (s.gG gq iL) (N+3) s2):=t3
    have Kt:aj (s2.h.ps[i]? =ae x2):=E7
    have R3:aj (Qs x code x2):=r3
    have Ku:aj (s2.v.ev=aN (ae ⟨eg,0,af⟩) s2.g.ep.length jO):=by show s2.v.ev=_;rw[t3.v,t3.g];exact lD.o
    have ou:aj (s2.g.ep[i]? =ae ep):=by show s2.g.ep[i]? =_;rw[t3.g];exact HE.o
    have C3:aB w3 ⟨pb,0,af⟩=ae (az<|ae ⟨xb,0,af⟩)/\aB w3 ⟨pb,5,af⟩=ae (aN (ae ⟨eg,0,af⟩) s.g.ep.length jO)/\aB w3 ⟨eg,i,af⟩=ae (ag ah ep):=by
     obtain⟨k0,k5,ke,_⟩:=t3.to.at_.uK Ku.o ou.o;rw[t3.g]at k5;exact⟨k0,k5,ke⟩
    have AX3:aj (akr (s.gG gq iL) i q x s2 x2):=ax3
    clear t3 E7 r3 ax3))
 go_wp2_with fail
 have F3:aj (Fr ((s.gG gq iL).eG pb xb) W1 w3):=((((Fr.refl (fun _=>False) _).drew).drew).z dw).t T3.o.to.fr fun _=>.inl;have X3:aj (w3.heap[w1.heap.size]? =ae (aG #[ag ah x.e,ag ah x.t,ag ah x.s,.slice aa l1 ac,.slice ba l2 bc] 58 (0,0))):=(F3.o.block _ (bn X1.o)<|lV.o.Ap X1.o<|by decide).t X1.o;refine(IX T3.o.to.at_ (by have:=fK.o;omega) (by have h1:s2.h.P=s.h.P:=T3.o.to.cf.1;rw[h1];exact HI.o) (T3.o.up.t HU.o) Kt.o).z ?_;rintro e w4 ⟨n1,n2,t4⟩;rename_i va vb Gj Rq;obtain⟨ca,cc,rfl,_⟩:=lI n1;obtain⟨da,dc,rfl,_⟩:=lI n2;have T4:aj (cO w3 w4 B pb xb s2 (N+4)<|s2.gG Rq Gj):=t4;obtain⟨_,_,_,g6,aBy,_⟩:=t4.at_.uK Ku.o ou.o;have X4:aj (w4.heap[w1.heap.size]? =ae (aG #[ag ah x.e,ag ah x.t,ag ah x.s,.slice aa l1 ac,.slice ba l2 bc] 58 (0,0))):=(t4.fr.block _ (bn X3.o)<|T3.o.to.at_.Ap X3.o<|by decide).t X3.o;have kT:(s2.gG Rq Gj).g.dn=false:=by
  show s2.g.dn=false;rw[T3.o.to.at_.pg.dn,show s2.h.up=true from T3.o.up.t HU.o];rfl
 rw[kT]at g6;have y1:aB w4 ⟨w1.heap.size,1,af⟩=ae (ag ah x.t):=aQ X4.o 1;have y2:aB w4 ⟨w1.heap.size,2,af⟩=ae (ag ah x.s):=aQ X4.o 2;have y1l:w1.heap.size<w4.heap.size:=bn X4.o;have kF:aj (∀V,Fr aS w4 V->cO w V B pb xb s (N+4) (s2.gG Rq Gj)):=fun V f=>(((T1.o.a iU.o).t<|cO.behind ((dR.drew).drew) T3.o.to).t T4.o).a f;have YO:aj ((s2.gG Rq Gj).h.up=true/\Qu s i q (s2.gG Rq Gj)):=⟨T3.o.up.t HU.o,(show s2.g.wr=s.g.wr by rw[T3.o.g];rfl),(show s2.g.gt=s.g.gt by rw[T3.o.g];rfl),AX3.o.sub,AX3.o.qE,fun y p hy hs hp ho=>by
  rw[HX.o]at hy;cases hy;obtain⟨z1,z2,p2,z3,z4,z5⟩:=AX3.o.ok hs p hp ho;refine⟨x2,p2,Kt.o,z1,z2,z3,z4,z5,fun h0=>?_,fun h0=>?_⟩
  ·have r:=R3.o;cases r with
   |new _ _ _ h3=>exact h3
   |_=>omega
  ·have r:=R3.o;cases r with
   |more _ _ h2=>exact h2
   |out=>rfl
   |_=>omega⟩
 clear n1 n2 t4 kT d0 d5 de d6 aK pM;have XT:aj (0<=x.t/\x.t<=80000000):=by
  have k:=(A.o.pg.sn.up HU.o i x HX.o).k;have f:=A.o.pg.sn.valid.rW i;have:=A.o.pg.sn.fM;have:=fK.o;exact⟨by rw[k.t];exact f.t0,by rw[k.t];have:=f.t1;omega⟩
 obtain⟨xe,xt,xs,xa,xM,xc,xd,xi,xw,xg⟩:=x;have XT':aj (0<=xt/\xt<=80000000):=XT.o;obtain⟨ye,yt,ys,ya,UE,yc,yd,yi,yw,yg⟩:=x2;simp only at y1 y2;generalize Wl:(bZ (⟨ye,yt,ys,ya,UE,yc,yd,yi,yw,yg⟩:PS).bG 1 4).length=tl;generalize(bZ (⟨ye,yt,ys,ya,UE,yc,yd,yi,yw,yg⟩:PS).bG 2 4).length=tl2;have r:=R3.o;clear R3;cases r with
 |busy hs=>
  rcases hs with hs|hs<;>simp only at hs<;>subst hs<;>go_wp2<;>go_ret<;>exact⟨rfl,_,kF.o _<|bQ _,YO.o⟩
 |out hs=>
  rcases hs with hs|hs<;>simp only at hs<;>subst hs<;>go_wp2<;>go_ret<;>exact⟨rfl,_,kF.o _<|bQ _,YO.o⟩
 |new hs h1 h2 h3=>
  simp only at hs h1 h2;rw[Wl]at h3;subst hs h1 h2 h3;have vS:eF ah (xt+1)=xt+1:=wrap_i64 (by have:=XT'.o;omega) (by have:=XT'.o;omega);go_wp2
  go_ret;exact⟨rfl,_,kF.o _<|bQ _,YO.o⟩
 |more hs h1 h2=>
  simp only at hs h1 h2;subst hs h1 h2;go_wp2
  go_ret;exact⟨rfl,_,kF.o _<|bQ _,YO.o⟩
end
section
variable{w w':ay}{B pb xb N:Nat}{s s':dm}
def awE(a:bJ w B pb xb N s)(hN:N<=80000000){i q:Nat}(hi:(i:Int)<s.h.P)(hq:(q:Int)<s.h.Q)(hu:s.h.up=false):
 aW prog 25 #[az<|ae ⟨pb,0,af⟩,ag ah i,ag ah q] w fun e w'=>e=aV (aF true)/\Fr aS w w':=by
 obtain⟨x,hx⟩:=a.ps hi;obtain⟨ep,he⟩:=a.ep hi;have yJ:=a.pg.ee i ep he;have OE:=(a.pg.sn.valid.rW i).e1;have Lm:=a.pg.sn.fM;have qX:i<s.g.ep.length:=(dS.1 he).1;obtain⟨eg,jO,eX,_⟩:=rF a.pa.ep (by omega);have zV:eF ah (ep-1)=ep-1:=wrap_i64 (by omega) (by omega);have A:aj (bJ w B pb xb N s):=a;have HI:aj ((i:Int)<s.h.P):=hi;have HU:aj (s.h.up=false):=hu;have HE:aj (s.g.ep[i]? =ae ep):=he;have lD:aj (s.v.ev=aN (ae ⟨eg,0,af⟩) s.g.ep.length jO):=eX;have HC:aj (∀(V:ay) (e0:Int),Fr aS w V->aW prog 63 #[az<|ae ⟨xb,0,af⟩,ag ah i,ag ah e0,ag ah q] V fun e w'=>e=aV (ag ah 5)/\V=w'):=fun V e0 f=>by
  have hb:=adI hu x e0;have uf:q<s.h.pl.length:=by
   have h2:s.h.Q=s.h.pl.length:=a.ha.hQ.1;omega
  have:=ag8 (ep:=e0) (a.ha.a f) hi uf hx (by rw[hb];decide);rw[hb]at this;exact this
 have zH:(i:Int)<(s.g.ep.length:Int):=by omega
 have sU:(0:Int)<=(i:Int):=by omega
 clear a hi hq hu hx he eX hN qX yJ OE Lm;go_enter func25,ntmps25
 go_wp2_with fail
 refine(Qr A.o HI.o HU.o).z ?_;rintro e w1 ⟨rfl,bU⟩;have F1:aj (Fr aS w w1):=bU;clear bU;go_wp2_with fail
 have ZW:aj (∃W:ay,W=bz w1 (aG #[ag ah 0,ag ah 0,ag ah 0,aN af 0 0,aN af 0 0] 58)):=⟨_,rfl⟩;obtain⟨W1,eW⟩:=ZW.o;rw[<-eW];have iU:aj (Fr aS w W1):=by subst eW;exact F1.o.t (bQ _) dw
 clear ZW eW;obtain⟨d0,d5,de,d6,aK,pM⟩:=(A.o.a iU.o).uK lD.o HE.o;go_region_held3 (fun w'=>aB w' ⟨pb,0,af⟩=ae (az<|ae ⟨xb,0,af⟩)/\aB w' ⟨pb,5,af⟩=ae (aN (ae ⟨eg,0,af⟩) s.g.ep.length jO)/\aB w' ⟨eg,i,af⟩=ae (ag ah ep))
  (first|exact⟨d0,d5,de⟩|go_keep)
  ((go_at_call 63;with_reducible refine(HC.o _ (ep-1)<|iU.o.drew).z ?_;rintro e w2 ⟨rfl,rfl⟩))
 go_wp2_with fail
 go_region_held3 (fun w'=>aB w' ⟨pb,0,af⟩=ae (az<|ae ⟨xb,0,af⟩)/\aB w' ⟨pb,5,af⟩=ae (aN (ae ⟨eg,0,af⟩) s.g.ep.length jO)/\aB w' ⟨eg,i,af⟩=ae (ag ah ep))
  (first|exact⟨d0,d5,de⟩|go_keep)
  ((go_at_call 63;with_reducible refine(HC.o _ ep<|(iU.o.drew).drew).z ?_;rintro e w2 ⟨rfl,rfl⟩))
 go_wp2_with fail
 refine(Qr (A.o.a<|(iU.o.drew).drew) HI.o HU.o).z ?_;rintro e w4 ⟨rfl,qW⟩;have F4:aj (Fr aS w w4):=((iU.o.drew).drew).t qW dw;obtain⟨_,_,_,g6,aBy,_⟩:=(A.o.a F4.o).uK lD.o HE.o;have kT:s.g.dn=true:=by rw[A.o.pg.dn,HU.o];rfl
 rw[kT]at g6;clear qW kT;go_wp2
 go_ret;exact⟨rfl,F4.o.t (bQ _) dw⟩
def yK(w:ay)(B pb xb:Nat)(s:dm)(N:Nat)(R:dm->Prop)(e:Ending)(w':ay):Prop:=e=aV (aF true)/\∃s',cO w w' B pb xb s N s'/\R s'
structure awF(w w':ay)(B pb xb:Nat)(s:dm)(N:Nat):Prop where
 ex:∃s',cO w w' B pb xb s N s'
def lF(w:ay)(B pb xb:Nat)(s:dm)(N:Nat)(e:Ending)(w':ay):Prop:=e=aV (aF true)/\awF w w' B pb xb s N
def yK.done{R:dm->Prop}{e:Ending}(d:yK w B pb xb s N R e w'):lF w B pb xb s N e w':=⟨d.1,d.2.choose,d.2.choose_spec.1⟩
def awG(a:bJ w B pb xb N s)(hN:N<=80000000){i q:Nat}(hi:(i:Int)<s.h.P)(hq:(q:Int)<s.h.Q):aW prog 25 #[az<|ae ⟨pb,0,af⟩,ag ah i,ag ah q] w (lF w B pb xb s<|N+4):=by
 cases hu:s.h.up with
 |true=>exact(adL a hN hi hq hu).z fun e w' ⟨h1,s',h2,_⟩=>⟨h1,s',h2⟩
 |false=>exact(awE a hN hi hq hu).z fun e w' ⟨h1,h2⟩=>⟨h1,s,(cO.still a h2).z<|by omega⟩
end
section
variable{w w':ay}{B pb xb N:Nat}{s:dm}
variable{i:Nat}{x:PS}{ep:Int}
def awH(a:bJ w B pb xb N s)(hi:(i:Int)<s.h.P)(hu:s.h.up=true)(hx:s.h.ps[i]? =ae x)(he:s.g.ep[i]? =ae ep)(hs:x.s=0\/x.s=2\/x.s=3)(c:Bool):
 aW prog 28 #[az<|ae ⟨xb,0,af⟩,ag ah i,ag ah ep,aF c] w fun e w'=>e=aV (.int .i64<|if x.s=0 then 8 else 9)/\w=w':=by
 obtain⟨e1,e2,_⟩:=a.EI hu hx he;have hb:s.h.bars x ep=0:=by
  unfold HS.bars;rw[hu,if_neg<|by simp,if_neg<|by omega]
 by_cases h0:x.s=0
 ·rw[if_pos h0];exact apw a.ha hi hx hb h0 c
 ·rw[if_neg h0];exact apx a.ha hi hx hb (by omega) c
def awI(a:bJ w B pb xb N s)(hi:(i:Int)<s.h.P)(hu:s.h.up=true)(hx:s.h.ps[i]? =ae x)(he:s.g.ep[i]? =ae ep)(c:Bool):
 aW prog 28 #[az<|ae ⟨xb,0,af⟩,ag ah i,.int .i64<|ep-1,aF c] w fun e w'=>e=aV (ag ah 7)/\w=w':=by
 have hb:=adH a hu hx he;have:=ag6 (ep:=ep-1) a.ha hi hx (by rw[hb];decide) c;rw[hb]at this;exact this
end
section
variable{w w1 w2 w3 w':ay}{B pb xb N M:Nat}{s s1 s3 s':dm}
def cO.mid{n1 n':Nat}{h':HS}{L':List Rc}(t1:cO w w1 B pb xb s N s1)(m:di w1 w2 B xb n1 s1.h n' h')(t2:cO w2 w3 B pb xb ⟨h',L',s1.g,s1.v⟩ M s3)(hc:h'.P=s1.h.P/\h'.Q=s1.h.Q/\h'.T=s1.h.T/\h'.K=s1.h.K):cO w w3 B pb xb s M s3:=by
 have awJ:∀k,(⟨h',L',s1.g,s1.v⟩:dm).eG pb xb k->s1.eG pb xb k\/w1.heap.size<=k:=fun k hk=>by
  rcases hk with hk|hk
  ·exact(m.sub k hk).imp .inl id
  ·exact .inl<|.inr hk
 have akv:∀k,(⟨h',L',s1.g,s1.v⟩:dm).eG pb xb k->s.eG pb xb k\/w.heap.size<=k:=fun k hk=>by
  rcases awJ k hk with e|e
  ·exact t1.sub k e
  ·exact .inr<|fG t1.fr.size e
 have f2:Fr (s.eG pb xb) w w2:=t1.fr.t m.fr fun k e=>t1.sub k<|.inl e;refine⟨t2.at_,f2.t t2.fr fun k e=>akv k e,fun k hk=>?_,⟨t2.cf.1.t<|hc.1.t t1.cf.1,t2.cf.2.1.t<|hc.2.1.t t1.cf.2.1,t2.cf.2.2.1.t<|hc.2.2.1.t t1.cf.2.2.1,t2.cf.2.2.2.t<|hc.2.2.2.t t1.cf.2.2.2⟩⟩;rcases t2.sub k hk with e|e
 ·exact akv k e
 ·exact .inr<|fG f2.size e
structure yL(w w':ay)(B xb N:Nat)(h:HS)(L:List Rc)(r:Rc)(h':HS):Prop where
 mv:di w w' B xb N h N h'
 sn:Sn (N+1) h' (L++[r])
 pl:h'.pl=h.pl
 up:h'.up=h.up
 cf:h'.P=h.P/\h'.Q=h.Q/\h'.T=h.T/\h'.K=h.K
 wo:jU h r true h'
structure Gl(s:dm)(i:Nat)(x:PS)(cm:Bool)(s':dm):Prop where
 wr:s'.g.wr=s.g.wr
 gt:s'.g.gt=s.g.gt
 sub:∀r∈s.L,r∈s'.L
 qE:pO i s.h s'.h
 me:∃x',s'.h.ps[i]? =ae x'/\x'.s=(if cm then 2 else 3)/\x'.wa=1
 dec:fD s'.L i x.t cm
variable{i:Nat}{x:PS}{cm:Bool}{h':HS}
def yL.f{L:List Rc}{fa:List Fa}{v:PV}{s:dm}(en:yL w w' B xb N s.h L ⟨3,i,if cm then 1 else 0,x.t⟩ h')(hx:s.h.ps[i]? =ae x):Gl s i x cm ⟨h',s.L++[⟨3,i,if cm then 1 else 0,x.t⟩],{s.g with fa:=fa},v⟩:=
 ⟨rfl,rfl,fun _ z=>CJ _ z,pO.wrote rfl en.wo,⟨_,Xe hx rfl en.wo,by cases cm<;>simp[PS.dA],by simp[PS.dA]⟩,⟨⟨3,i,if cm then 1 else 0,x.t⟩,Rx _<|oM.2 rfl,rfl,rfl,rfl,rfl⟩⟩
def awK(a:bJ w B pb xb N s)(hN:N<=90000000)(hi:(i:Int)<s.h.P)(hu:s.h.up=true)(hx:s.h.ps[i]? =ae x){ep:Int}(he:s.g.ep[i]? =ae ep)(hs:x.s=1)(c:Bool):
 aW prog 28 #[az<|ae ⟨xb,0,af⟩,ag ah i,ag ah ep,aF c] w fun e w'=>e=aV (ag ah 0)/\∃h',yL w w' B xb N s.h s.L ⟨3,i,if c then 1 else 0,x.t⟩ h':=by
 obtain⟨e1,e2,_⟩:=a.EI hu hx he;have hb:s.h.bars x ep=0:=by
  unfold HS.bars;rw[hu,if_neg<|by simp,if_neg<|by omega]
 have hn:=a.pg.sn.adz hu hi hx hs (a:=if c then 1 else 0) (by cases c<;>simp);refine(apy a.ha hi hx hb hs c<|a.pg.sn.may (by omega) hn).z fun e w' h=>?_;cases h with
 |ok ho hm=>
  obtain⟨_,sn,jv,rfl⟩:=a.pg.sn.MB hu hn (fun e=>by simp at e) ho;exact⟨rfl,_,hm,sn,rfl,rfl,⟨rfl,rfl,rfl,rfl⟩,ho⟩
 |uC ho hm=>
  have:=(a.pg.sn.MB hu hn (fun e=>by simp at e) ho).1;cases this
def akw{W W3 w5:ay}{jA:aA}{t:Int}(a:bJ W B pb xb N s)(en:yL W.drew.drew W3 B xb N s.h s.L ⟨3,i,if cm then 1 else 0,t⟩ h')(b:iE W3 B pb xb s.h s.g s.v)(_:(i:Int)<s.h.P){V:ay}(hW:Fr aS W3 V)(hg:V.grownBy w5 s.v.fv.ownBlock)(jf:bD w5 B 114 3 jA (s.g.fa.length+1) (s.g.fa.flatMap Fa.cs++Fa.cs ⟨i,t,if cm then 1 else 2⟩))(fC:∀k,bY jA=ae k->s.v.fv.ownBlock=ae k\/W3.heap.size<=k):
 cO W3 (aX w5 ⟨pb,8,af⟩ jA) B pb xb ⟨h',s.L,s.g,s.v⟩ (N+1) ⟨h',s.L++[⟨3,i,if cm then 1 else 0,t⟩],{s.g with fa:=s.g.fa++[⟨i,t,if cm then 1 else 2⟩]},{s.v with fv:=jA}⟩:=by
 have b':iE W3 B pb xb h' s.g s.v:=by
  refine⟨?_,b.ep,b.wr,b.fa,b.gt,b.gl,b.rc,b.st,b.ap,b.hb⟩;rw[en.cf.1,en.cf.2.1,en.cf.2.2.1,en.cf.2.2.2];exact b.blk
 exact akn (s:=⟨h',s.L,s.g,s.v⟩) en.mv.at_ (by show jk h'.pl;rw[en.pl];exact a.ax) b' a.wr a.fa (by omega) hW hg jf fC<|a.pg.ended en.sn en.cf.1 en.up en.pl
def adO(a:bJ w B pb xb N s)(hN:N<=80000000)(hi:(i:Int)<s.h.P)(hu:s.h.up=true)(cm:Bool)(dF:∀x,s.h.ps[i]? =ae x->x.s=0\/x.s=1\/x.s=2\/x.s=3):
 aW prog 62 #[az<|ae ⟨pb,0,af⟩,ag ah i,aF cm] w (yK w B pb xb s (N+4) fun s'=>∀x,s.h.ps[i]? =ae x->x.s=1->Gl s i x cm s'):=by
 obtain⟨i0,ed,iI,ig,jg⟩:=aFq akm;obtain⟨x,hx⟩:=a.ps hi;obtain⟨ep,he⟩:=a.ep hi;obtain⟨e1,e2,e3⟩:=a.EI hu hx he;have qX:i<s.g.ep.length:=(dS.1 he).1;obtain⟨eg,jO,eX,_⟩:=rF a.pa.ep (by omega);have A:aj (bJ w B pb xb N s):=a;have fK:aj (N<=80000000):=hN;have HI:aj ((i:Int)<s.h.P):=hi;have HU:aj (s.h.up=true):=hu;have HX:aj (s.h.ps[i]? =ae x):=hx;have HE:aj (s.g.ep[i]? =ae ep):=he;have lD:aj (s.v.ev=aN (ae ⟨eg,0,af⟩) s.g.ep.length jO):=eX;have zH:(i:Int)<(s.g.ep.length:Int):=by omega
 have sU:(0:Int)<=(i:Int):=by omega
 have hep:ep<=80000000:=by omega
 have zV:eF ah (ep-1)=ep-1:=wrap_i64 (by omega) (by omega);have Nr:aj (x.s=0\/x.s=1\/x.s=2\/x.s=3):=dF x hx;clear a hi hu hx he eX hN e1 e3 qX dF;go_enter func62,ntmps62
 go_wp2_with fail
 refine(IX A.o (by have:=fK.o;omega) HI.o HU.o HX.o).z ?_;rintro e w1 ⟨n1,n2,t1⟩;rename_i va vb iL gq;obtain⟨aa,ac,rfl,_⟩:=lI n1;obtain⟨ba,bc,rfl,_⟩:=lI n2;have T1:aj (cO w w1 B pb xb s (N+1)<|s.gG gq iL):=t1;generalize Bg:(bZ x.bG 1 4).length=l1;generalize CG:(bZ x.bG 2 4).length=l2;clear n1 n2 t1 Bg CG;go_wp2_with fail
 have ZW:aj (∃W:ay,W=bz w1 (aG #[ag ah x.e,ag ah x.t,ag ah x.s,.slice aa l1 ac,.slice ba l2 bc] 58)):=⟨_,rfl⟩;obtain⟨W1,eW⟩:=ZW.o;rw[<-eW];have iU:aj (Fr aS w1 W1):=by subst eW;exact bQ _
 have X1:aj (W1.heap[w1.heap.size]? =ae (aG #[ag ah x.e,ag ah x.t,ag ah x.s,.slice aa l1 ac,.slice ba l2 bc] 58 (0,0))):=by subst eW;exact aFb _ _
 have lV:aj (bJ W1 B pb xb (N+1)<|s.gG gq iL):=T1.o.at_.a iU.o;clear ZW eW;obtain⟨d0,d5,de,d6,aK,pM⟩:=lV.o.uK lD.o HE.o;have HC:aj (∀(V:ay) (c:Bool),Fr aS W1 V->aW prog 28 #[az<|ae ⟨xb,0,af⟩,ag ah i,.int .i64<|ep-1,aF c] V fun e w'=>e=aV (ag ah 7)/\V=w'):=fun V c f=>awI (lV.o.a f) HI.o HU.o HX.o HE.o c;go_region_held3 (fun w'=>aB w' ⟨pb,0,af⟩=ae (az<|ae ⟨xb,0,af⟩)/\aB w' ⟨pb,5,af⟩=ae (aN (ae ⟨eg,0,af⟩) s.g.ep.length jO)/\aB w' ⟨eg,i,af⟩=ae (ag ah ep))
  (first|exact⟨d0,d5,de⟩|go_keep)
  ((go_at_call 28;with_reducible refine(HC.o _ _<|dR.drew).z ?_;rintro e w2 ⟨rfl,rfl⟩))
 go_wp2_with fail
 by_cases h1:x.s=1
 ·have zW:aj (x.s=1):=h1;have ui:aj (∀(V:ay) (c:Bool),Fr aS W1 V->aW prog 28 #[az<|ae ⟨xb,0,af⟩,ag ah i,ag ah ep,aF c] V fun e w'=>e=aV (ag ah 0)/\∃h',yL V w' B xb (N+1) s.h s.L ⟨3,i,if c then 1 else 0,x.t⟩ h'):=fun V c f=>awK (lV.o.a f) (by have:=fK.o;omega) HI.o HU.o HX.o HE.o zW.o c;go_region_held3 (fun w'=>aB w' ⟨pb,0,af⟩=ae (az<|ae ⟨xb,0,af⟩)/\aB w' ⟨pb,5,af⟩=ae (aN (ae ⟨eg,0,af⟩) s.g.ep.length jO)/\aB w' ⟨eg,i,af⟩=ae (ag ah ep))
   (first|with_reducible exact C3|exact⟨d0,d5,de⟩|go_keep)
   ((go_at_call 28;with_reducible refine(ui.o _ _<|(dR.drew).drew).z ?_;rintro e w3 ⟨rfl,h3,en⟩
     have EN:aj (yL W1.drew.drew w3 B xb (N+1) s.h s.L ⟨3,i,if cm then 1 else 0,x.t⟩ h3):=en
     have p3:iE w3 B pb xb s.h (s.gG gq iL).g (s.gG gq iL).v:=((lV.o.a<|(dR.drew).drew).pa).stay en.mv.fr fun k e hf=>(lV.o.a<|(dR.drew).drew).ha.off (lV.o.a<|(dR.drew).drew).pa e hf
     have P3:aj (iE w3 B pb xb s.h (s.gG gq iL).g (s.gG gq iL).v):=p3
     have C3:aB w3 ⟨pb,0,af⟩=ae (az<|ae ⟨xb,0,af⟩)/\aB w3 ⟨pb,5,af⟩=ae (aN (ae ⟨eg,0,af⟩) s.g.ep.length jO)/\aB w3 ⟨eg,i,af⟩=ae (ag ah ep):=⟨aQ p3.blk 0,(aQ p3.blk 5).t (by rw[<-lD.o];rfl),Bo (by have:=p3.ep;rw[show(s.gG gq iL).v.ev=aN (ae ⟨eg,0,af⟩) s.g.ep.length jO from lD.o]at this;exact this) HE.o⟩
     clear en p3))
  have kT:(s.gG gq iL).g.dn=false:=by
   show s.g.dn=false;rw[A.o.pg.dn,HU.o];rfl
  have g6:aB w3 ⟨pb,6,af⟩=ae (aF false):=by rw[<-kT];exact aQ P3.o.blk 6
  have X3:aj (w3.heap[w1.heap.size]? =ae (aG #[ag ah x.e,ag ah x.t,ag ah x.s,.slice aa l1 ac,.slice ba l2 bc] 58 (0,0))):=(EN.o.mv.fr.block _ (bn X1.o) fun e=>(lV.o.a<|(dR.drew).drew).Ap (show W1.drew.drew.heap[w1.heap.size]? =_ from X1.o) (by decide)<|.inl e).t X1.o;have uQ:pb<w3.heap.size:=bn P3.o.blk;have mQ:w1.heap.size<w3.heap.size:=bn X3.o;clear HC ui kT d0 d5 de d6 C3;obtain⟨xe,xt,xs,xa,xM,xc,xd,xi,xw,xg⟩:=x;have hs:=zW.o;simp only at hs;subst hs;have y1:aB w3 ⟨w1.heap.size,1,af⟩=ae (ag ah xt):=aQ X3.o 1;have y2:aB w3 ⟨w1.heap.size,2,af⟩=ae (ag ah 1):=aQ X3.o 2;obtain⟨fa,fc,qg,_⟩:=oP P3.o.fa;have EE:aj ((s.gG gq iL).v.fv=.slice fa gq.length fc):=qg;have Aq:aj (bD w3 B 114 3 (.slice fa gq.length fc) gq.length<|gq.flatMap Fa.cs):=by have:=P3.o.fa;rw[qg]at this;exact this
  have q8:aB w3 ⟨pb,8,af⟩=ae (.slice fa gq.length fc):=(aQ P3.o.blk 8).t<|gy ae qg;have dD:Value.ownBlock (.slice fa gq.length fc)≠ae pb:=Hy Aq.o P3.o.blk (by decide);have f8:w3.frozen? ⟨pb,8,af⟩=false:=kK P3.o.blk 8;have f9:∀o,(bz w3 o).frozen? ⟨pb,8,af⟩=false:=fun o=>(LI uQ o).t f8;have BZ:aj (gq.length<=N+1):=lV.o.fa;clear qg zW Nr h1;cases cm;all_goals
   go_wp2_with fail
   go_region_law
    ((refine aFH _ (by rfl) _ _ _ (by rfl) B 114 i0 _ 3 24 underlying45 ed iI ig jg rfl (by omega) (.slice fa gq.length fc) gq.length (gq.flatMap Fa.cs) (by rfl) (by first|exact(((Fr.refl (fun _=>False) w3).alloc _).drew).ownsRow Aq.o (fun _ _=>id)|exact(((Fr.refl (fun _=>False) w3).drew).alloc _).ownsRow Aq.o fun _ _=>id)
       ⟨w3.heap.size,0,af⟩ 1 1 [ag ah i,ag ah xt,_] (by rfl) (by rfl) (aFk (cs:=#[ag ah i,ag ah xt,_]) (t:=114) (fr:=(0,0)) (by first|exact aFb _ _|exact RP _ _ _)) (by simp[Value.oneCell'])
       (by omega) (by have:=fK.o;have:=BZ.out;simp only[eP];omega) (by have:=fK.o;have:=BZ.out;omega) (by have:=P3.o.hb;simp<;>omega) (w3.heap.size+1) (by simp) ?_;intro gg cap w5 o8 lX tH IY;have k0:=(lX.cell_far ⟨pb,8,af⟩ (by simp<;>omega)<|Ne.s dD);have k1:=(lX.frozen_far ⟨pb,8,af⟩ (by simp<;>omega)<|Ne.s dD);simp only[World.cell?_drew,World.frozen?_drew,f9]at k0 k1))
   all_goals
    have Jq:∀k,Value.ownBlock (aN (ae ⟨gg,0,af⟩) (gq.length+1) cap)=ae k->(s.gG gq iL).v.fv.ownBlock=ae k\/w3.heap.size<=k:=fun k hk=>by
     rw[EE.o];simp only[Value.ownBlock,gU]at hk;subst hk;rcases tH with h1|h1
     ·exact .inl h1
     ·exact .inr<|by omega
    have G3:∃V,Fr aS w3 V/\V.grownBy w5 (Value.ownBlock<|.slice fa gq.length fc):=⟨_,by first|exact(dR.alloc _).drew|exact(dR.drew).alloc _,lX⟩
    obtain⟨V,fV,gV⟩:=G3
    first
     |have TO:=akw lV.o (cm:=false) EN.o P3.o HI.o fV (by rw[EE.o];exact gV) o8 Jq
     |have TO:=akw lV.o (cm:=true) EN.o P3.o HI.o fV (by rw[EE.o];exact gV) o8 Jq
    clear o8 lX tH IY k0 k1 Jq fV gV
    generalize w5.setCell ⟨pb,8,af⟩ (aN (ae ⟨gg,0,af⟩) (gq.length+1) cap)=W4 at TO⊢
    generalize(Value.slice (ae ⟨gg,0,af⟩) (gq.length+1) cap)=Gj at TO
    have T4:aj _:=TO
    clear TO
    go_wp2_with fail
    obtain⟨x4,hx4⟩:=T4.o.at_.ps (i:=i) (show(i:Int)<h3.P by rw[EN.o.cf.1];exact HI.o)
    refine(IX T4.o.at_ (by have:=fK.o;omega) (show(i:Int)<h3.P by rw[EN.o.cf.1];exact HI.o) (show h3.up=true by rw[EN.o.up];exact HU.o) hx4).z ?_
    rintro e w6 ⟨n1,n2,t6⟩
    rename_i va vb fv6 fa6
    obtain⟨ca,cc,rfl,_⟩:=lI n1
    obtain⟨da,dc,rfl,_⟩:=lI n2
    have kF:aj (∀V,Fr aS w6 V->yK w B pb xb s (N+4) (fun s'=>∀x,s.h.ps[i]? =ae x->x.s=1->Gl s i x _ s') (aV<|aF true) V):=fun V f=>⟨rfl,_,(((T1.o.a iU.o).a<|(dR.drew).drew).mid EN.o.mv ((T4.o.t t6).a f) EN.o.cf).z<|by omega,fun y hy _=>by rw[HX.o]at hy;cases hy;first|exact yL.f (cm:=false) (s:=s) EN.o HX.o|exact yL.f (cm:=true) (s:=s) EN.o HX.o⟩
    clear n1 n2 t6 hx4
    generalize(bZ x4.bG 1 4).length=m1
    generalize(bZ x4.bG 2 4).length=m2
    go_wp2
    go_ret
    exact kF.o _<|bQ _
 ·have zW:aj (x.s=0\/x.s=2\/x.s=3):=(by have:=Nr.o;omega:x.s=0\/x.s=2\/x.s=3);obtain⟨code,afC⟩:∃code:Int,code=(if x.s=0 then 8 else 9):=⟨_,rfl⟩;have HCD:aj (code=(if x.s=0 then 8 else 9)):=afC;have ui:aj (∀(V:ay) (c:Bool),Fr aS W1 V->aW prog 28 #[az<|ae ⟨xb,0,af⟩,ag ah i,ag ah ep,aF c] V fun e w'=>e=aV (ag ah code)/\V=w'):=fun V c f=>by
   have:=awH (lV.o.a f) HI.o HU.o HX.o HE.o zW.o c;rw[<-afC]at this;exact this
  clear afC;go_region_held3 (fun w'=>aB w' ⟨pb,0,af⟩=ae (az<|ae ⟨xb,0,af⟩)/\aB w' ⟨pb,5,af⟩=ae (aN (ae ⟨eg,0,af⟩) s.g.ep.length jO)/\aB w' ⟨eg,i,af⟩=ae (ag ah ep))
   (first|exact⟨d0,d5,de⟩|go_keep)
   ((go_at_call 28;with_reducible refine(ui.o _ _<|(dR.drew).drew).z ?_;rintro e w2 ⟨rfl,rfl⟩))
  have kT:(s.gG gq iL).g.dn=false:=by
   show s.g.dn=false;rw[A.o.pg.dn,HU.o];rfl
  rw[kT]at d6;have y2:aB W1 ⟨w1.heap.size,2,af⟩=ae (ag ah x.s):=aQ X1.o 2;have kF:aj (∀V,Fr aS W1 V->yK w B pb xb s (N+4) (fun s'=>∀x,s.h.ps[i]? =ae x->x.s=1->Gl s i x cm s') (aV<|aF true) V):=fun V f=>⟨rfl,_,((T1.o.a iU.o).a f).z<|by omega,fun y hy h=>by rw[HX.o]at hy;cases hy;have:=zW.o;omega⟩;clear HC ui kT Nr h1;obtain⟨xe,xt,xs,xa,xM,xc,xd,xi,xw,xg⟩:=x;have hs:=zW.o;simp only at hs y2;clear zW;have hc:=HCD.o;clear HCD;simp only at hc;rcases hs with hs|hs|hs<;>subst hs<;>simp only[show((2:Int)=0)=False by decide,show((3:Int)=0)=False by decide,if_true,kJ]at hc<;>subst hc<;>go_wp2<;>go_ret<;>exact kF.o _<|(dR.drew).drew
end
section
variable{w w':ay}{B pb xb N:Nat}{s:dm}
def awL(a:bJ w B pb xb N s)(hN:N<=80000000){i:Nat}(hi:(i:Int)<s.h.P)(cm:Bool)(hu:s.h.up=false):
 aW prog 62 #[az<|ae ⟨pb,0,af⟩,ag ah i,aF cm] w fun e w'=>e=aV (aF true)/\Fr aS w w':=by
 obtain⟨x,hx⟩:=a.ps hi;obtain⟨ep,he⟩:=a.ep hi;have yJ:=a.pg.ee i ep he;have OE:=(a.pg.sn.valid.rW i).e1;have Lm:=a.pg.sn.fM;have qX:i<s.g.ep.length:=(dS.1 he).1;obtain⟨eg,jO,eX,_⟩:=rF a.pa.ep (by omega);have zV:eF ah (ep-1)=ep-1:=wrap_i64 (by omega) (by omega);have A:aj (bJ w B pb xb N s):=a;have HI:aj ((i:Int)<s.h.P):=hi;have HU:aj (s.h.up=false):=hu;have HE:aj (s.g.ep[i]? =ae ep):=he;have lD:aj (s.v.ev=aN (ae ⟨eg,0,af⟩) s.g.ep.length jO):=eX;have HC:aj (∀(V:ay) (e0:Int) (c:Bool),Fr aS w V->aW prog 28 #[az<|ae ⟨xb,0,af⟩,ag ah i,ag ah e0,aF c] V fun e w'=>e=aV (ag ah 5)/\V=w'):=fun V e0 c f=>by
  have hb:=adI hu x e0;have:=ag6 (ep:=e0) (a.ha.a f) hi hx (by rw[hb];decide) c;rw[hb]at this;exact this
 have zH:(i:Int)<(s.g.ep.length:Int):=by omega
 have sU:(0:Int)<=(i:Int):=by omega
 clear a hi hu hx he eX hN qX yJ OE Lm;go_enter func62,ntmps62
 go_wp2_with fail
 refine(Qr A.o HI.o HU.o).z ?_;rintro e w1 ⟨rfl,bU⟩;have F1:aj (Fr aS w w1):=bU;clear bU;go_wp2_with fail
 have ZW:aj (∃W:ay,W=bz w1 (aG #[ag ah 0,ag ah 0,ag ah 0,aN af 0 0,aN af 0 0] 58)):=⟨_,rfl⟩;obtain⟨W1,eW⟩:=ZW.o;rw[<-eW];have iU:aj (Fr aS w W1):=by subst eW;exact F1.o.t (bQ _) dw
 clear ZW eW;obtain⟨d0,d5,de,d6,aK,pM⟩:=(A.o.a iU.o).uK lD.o HE.o;go_region_held3 (fun w'=>aB w' ⟨pb,0,af⟩=ae (az<|ae ⟨xb,0,af⟩)/\aB w' ⟨pb,5,af⟩=ae (aN (ae ⟨eg,0,af⟩) s.g.ep.length jO)/\aB w' ⟨eg,i,af⟩=ae (ag ah ep))
  (first|exact⟨d0,d5,de⟩|go_keep)
  ((go_at_call 28;with_reducible refine(HC.o _ (ep-1) _<|iU.o.drew).z ?_;rintro e w2 ⟨rfl,rfl⟩))
 go_wp2_with fail
 go_region_held3 (fun w'=>aB w' ⟨pb,0,af⟩=ae (az<|ae ⟨xb,0,af⟩)/\aB w' ⟨pb,5,af⟩=ae (aN (ae ⟨eg,0,af⟩) s.g.ep.length jO)/\aB w' ⟨eg,i,af⟩=ae (ag ah ep))
  (first|exact⟨d0,d5,de⟩|go_keep)
  ((go_at_call 28;with_reducible refine(HC.o _ ep _<|(iU.o.drew).drew).z ?_;rintro e w2 ⟨rfl,rfl⟩))
 have kT:s.g.dn=true:=by rw[A.o.pg.dn,HU.o];rfl
 rw[kT]at d6;clear kT;go_wp2
 go_ret;exact⟨rfl,(iU.o.drew).drew⟩
def awM(a:bJ w B pb xb N s)(hN:N<=80000000){i:Nat}(hi:(i:Int)<s.h.P)(cm:Bool):aW prog 62 #[az<|ae ⟨pb,0,af⟩,ag ah i,aF cm] w (lF w B pb xb s<|N+4):=by
 cases hu:s.h.up with
 |true=>
  obtain⟨x,hx⟩:=a.ps hi;have k:=(a.pg.sn.up hu i x hx).k;have f:=a.pg.sn.valid.rW i;have s0:=f.s0;have s1:=f.s1;rw[<-k.s]at s0 s1;exact(adO a hN hi hu cm fun y hy=>by rw[hx]at hy;cases hy;omega).z fun _ _ d=>d.done
 |false=>exact(awL a hN hi cm hu).z fun e w' ⟨h1,h2⟩=>⟨h1,s,(cO.still a h2).z<|by omega⟩
end
section
variable{w w':ay}{B pb xb N:Nat}{s:dm}
variable{i:Nat}{x:PS}
def awN(a:bJ w B pb xb N s)(hN:N<=90000000)(hi:(i:Int)<s.h.P)(hu:s.h.up=true)(hx:s.h.ps[i]? =ae x)(hs:x.s=1\/x.s=2\/x.s=3):
 aW prog 74 #[az<|ae ⟨xb,0,af⟩,ag ah i] w fun e w'=>e=aV (dU #[ag ah 0,ag ah 9])/\∃s2 x2,kZ w w' B pb xb s (N+1) s2/\s2.h.ps[i]? =ae x2/\(x2.s=2\/x2.s=3):=by
 by_cases h1:x.s=1
 ·have hn:=a.pg.sn.adz hu hi hx h1 (a:=0)<|.inl rfl;refine(apt a.ha hi hu hx h1<|a.pg.sn.may (by omega) hn).z fun e w' h=>?_;cases h with
  |mk ho hm=>
   obtain⟨_,sn,jv,rfl⟩:=a.pg.sn.MB hu hn (fun e=>by simp at e) ho;have l9:=(dS.1 hx).1;have iJ:(kz s.h.ps ⟨3,i,0,x.t⟩)[i]? =ae (x.dA ⟨3,i,0,x.t⟩):=by
    have hg:(s.h.ps.getD i ql)=x:=by rw[Ru,hx];rfl
    simp only[kz,OM,hg];exact nJ l9
   exact⟨rfl,_,x.dA ⟨3,i,0,x.t⟩,kZ.of a hm ⟨rfl,rfl,rfl,rfl⟩ a.ax (by omega) (by omega) rfl<|a.pg.abort sn rfl rfl rfl,iJ,.inr<|by simp[PS.dA]⟩
 ·exact(apu a.ha hi hu hx<|by omega).z fun e w' ⟨g1,g2⟩=>by subst g2;exact⟨g1,s,x,(kZ.still a dR).z<|by omega,hx,by omega⟩
def aky{h:HS}{L:List Rc}(ha:aH w B xb N h)(c:Sn N h L)(hN:N<=90000000)(hi:(i:Int)<h.P)(hu:h.up=true)(hx:h.ps[i]? =ae x)(hs:x.s=0):
 aW prog 74 #[az<|ae ⟨xb,0,af⟩,ag ah i] w fun e w'=>e=aV (dU #[.int .i64<|x.e+1,ag ah 0])/\∃h',yL w w' B xb N h L ⟨1,i,0,x.e+1⟩ h':=by
 have hn:=c.avZ hu hi hx;refine(apv ha hi hu hx hs<|c.may (by omega) hn).z fun e w' h=>?_;cases h with
 |ok ho hm=>
  obtain⟨_,sn,jv,rfl⟩:=c.MB hu hn (fun e=>by simp at e) ho;exact⟨rfl,_,hm,sn,rfl,rfl,⟨rfl,rfl,rfl,rfl⟩,ho⟩
 |uC ho hm=>
  have:=(c.MB hu hn (fun e=>by simp at e) ho).1;cases this
def awO(a:bJ w B pb xb N s)(hN:N<=90000000)(hi:(i:Int)<s.h.P)(hu:s.h.up=true)(hx:s.h.ps[i]? =ae x)(hs:x.s=0):
 aW prog 74 #[az<|ae ⟨xb,0,af⟩,ag ah i] w fun e w'=>e=aV (dU #[.int .i64<|x.e+1,ag ah 0])/\∃h',yL w w' B xb N s.h s.L ⟨1,i,0,x.e+1⟩ h':=aky a.ha a.pg.sn hN hi hu hx hs
def awP(a:bJ w B pb xb N s)(hN:N<=80000000)(hi:(i:Int)<s.h.P)(hu:s.h.up=false):
 aW prog 107 #[az<|ae ⟨pb,0,af⟩,ag ah i] w fun e w'=>e=aV (aF true)/\Fr aS w w':=by
 obtain⟨x,hx⟩:=a.ps hi;obtain⟨ep,he⟩:=a.ep hi;have yJ:=a.pg.ee i ep he;have OE:=(a.pg.sn.valid.rW i).e1;have Lm:=a.pg.sn.fM;have qX:i<s.g.ep.length:=(dS.1 he).1;obtain⟨eg,jO,eX,_⟩:=rF a.pa.ep (by omega);have zV:eF ah (ep-1)=ep-1:=wrap_i64 (by omega) (by omega);have A:aj (bJ w B pb xb N s):=a;have HI:aj ((i:Int)<s.h.P):=hi;have HU:aj (s.h.up=false):=hu;have HE:aj (s.g.ep[i]? =ae ep):=he;have lD:aj (s.v.ev=aN (ae ⟨eg,0,af⟩) s.g.ep.length jO):=eX;have HC:aj (∀(V:ay),Fr aS w V->aW prog 74 #[az<|ae ⟨xb,0,af⟩,ag ah i] V fun e w'=>e=aV (dU #[ag ah 0,ag ah 5])/\V=w'):=fun V f=>aps (a.ha.a f) ⟨by omega,hi⟩ hu;clear a hi hu hx he eX hN qX yJ OE Lm zV;go_enter func107,ntmps107
 go_wp2_with fail
 refine(Qr A.o HI.o HU.o).z ?_;rintro e w1 ⟨rfl,bU⟩;have F1:aj (Fr aS w w1):=bU;clear bU;obtain⟨d0,d5,de,d6,aK,pM⟩:=(A.o.a F1.o).uK lD.o HE.o;have kT:s.g.dn=true:=by rw[A.o.pg.dn,HU.o];rfl
 rw[kT]at d6;clear kT;go_wp2_with fail
 refine(HC.o _<|F1.o.t (bQ _) dw).z ?_;rintro e w2 ⟨rfl,rfl⟩;go_wp2
 go_ret;exact⟨rfl,F1.o.t (bQ _) dw⟩
def awQ(a:bJ w B pb xb N s)(hN:N<=80000000)(hi:(i:Int)<s.h.P)(hu:s.h.up=true)(dF:∀x,s.h.ps[i]? =ae x->x.s=0\/x.s=1\/x.s=2\/x.s=3):
 aW prog 107 #[az<|ae ⟨pb,0,af⟩,ag ah i] w (lF w B pb xb s<|N+4):=by
 obtain⟨x,hx⟩:=a.ps hi;obtain⟨ep,he⟩:=a.ep hi;obtain⟨e1,e2,e3⟩:=a.EI hu hx he;have qX:i<s.g.ep.length:=(dS.1 he).1;obtain⟨eg,jO,eX,_⟩:=rF a.pa.ep (by omega);have A:aj (bJ w B pb xb N s):=a;have fK:aj (N<=80000000):=hN;have HI:aj ((i:Int)<s.h.P):=hi;have HU:aj (s.h.up=true):=hu;have HX:aj (s.h.ps[i]? =ae x):=hx;have HE:aj (s.g.ep[i]? =ae ep):=he;have lD:aj (s.v.ev=aN (ae ⟨eg,0,af⟩) s.g.ep.length jO):=eX;have zH:(i:Int)<(s.g.ep.length:Int):=by omega
 have sU:(0:Int)<=(i:Int):=by omega
 have hep:ep<=80000000:=by omega
 have zV:eF ah (ep-1)=ep-1:=wrap_i64 (by omega) (by omega);have Xh:aj (x.e=ep):=e1;have Nr:aj (x.s=0\/x.s=1\/x.s=2\/x.s=3):=dF x hx;have vS:eF ah (ep+1)=ep+1:=wrap_i64 (by omega) (by omega);clear a hi hu hx he eX hN e1 e3 qX dF zV;go_enter func107,ntmps107
 go_wp2_with fail
 refine(IX A.o (by have:=fK.o;omega) HI.o HU.o HX.o).z ?_;rintro e w1 ⟨n1,n2,t1⟩;rename_i va vb iL gq;obtain⟨aa,ac,rfl,_⟩:=lI n1;obtain⟨ba,bc,rfl,_⟩:=lI n2;have T1:aj (cO w w1 B pb xb s (N+1)<|s.gG gq iL):=t1;obtain⟨d0,d5,de,d6,aK,pM⟩:=t1.at_.uK lD.o HE.o;generalize Bg:(bZ x.bG 1 4).length=l1;generalize CG:(bZ x.bG 2 4).length=l2;clear n1 n2 t1 Bg CG;go_wp2_with fail
 have ZW:aj (∃W:ay,W=bz w1 (aG #[ag ah x.e,ag ah x.t,ag ah x.s,.slice aa l1 ac,.slice ba l2 bc] 58)):=⟨_,rfl⟩;obtain⟨W1,eW⟩:=ZW.o;rw[<-eW];have iU:aj (Fr aS w1 W1):=by subst eW;exact bQ _
 have X1:aj (W1.heap[w1.heap.size]? =ae (aG #[ag ah x.e,ag ah x.t,ag ah x.s,.slice aa l1 ac,.slice ba l2 bc] 58 (0,0))):=by subst eW;exact aFb _ _
 have lV:aj (bJ W1 B pb xb (N+1)<|s.gG gq iL):=T1.o.at_.a iU.o;clear ZW eW d0 d5 de d6 aK pM;by_cases h1:x.s=0
 ·have zW:aj (x.s=0):=h1;clear h1 Nr;have HC:aj (aW prog 74 #[az<|ae ⟨xb,0,af⟩,ag ah i] W1 fun e w'=>e=aV (dU #[.int .i64<|ep+1,ag ah 0])/\∃h',yL W1 w' B xb (N+1) s.h s.L ⟨1,i,0,ep+1⟩ h'):=by
   have:=awO lV.o (by have:=fK.o;omega) HI.o HU.o HX.o zW.o;rw[Xh.o]at this;exact this
  refine HC.o.z ?_;rintro e w3 ⟨rfl,h3,en⟩;have EN:aj (yL W1 w3 B xb (N+1) s.h s.L ⟨1,i,0,ep+1⟩ h3):=en;have p3:iE w3 B pb xb s.h (s.gG gq iL).g (s.gG gq iL).v:=lV.o.pa.stay en.mv.fr fun k e hf=>lV.o.ha.off lV.o.pa e hf;have P3:aj (iE w3 B pb xb s.h (s.gG gq iL).g (s.gG gq iL).v):=p3;have Ha:bD w3 B 3 1 (aN (ae ⟨eg,0,af⟩) s.g.ep.length jO) s.g.ep.length (gm s.g.ep):=by have:=p3.ep;rw[show(s.gG gq iL).v.ev=aN (ae ⟨eg,0,af⟩) s.g.ep.length jO from lD.o]at this;exact this
  have c0:aB w3 ⟨pb,5,af⟩=ae (aN (ae ⟨eg,0,af⟩) s.g.ep.length jO):=(aQ p3.blk 5).t (by rw[<-lD.o];rfl);have ce:aB w3 ⟨eg,i,af⟩=ae (ag ah ep):=Bo Ha HE.o;have cf:w3.frozen? ⟨eg,i,af⟩=false:=Ha.frozenAt i;have kT:(s.gG gq iL).g.dn=false:=by
   show s.g.dn=false;rw[A.o.pg.dn,HU.o];rfl
  have c6:aB w3 ⟨pb,6,af⟩=ae (aF false):=by rw[<-kT];exact aQ p3.blk 6
  have X3:aj (w3.heap[w1.heap.size]? =ae (aG #[ag ah x.e,ag ah x.t,ag ah x.s,.slice aa l1 ac,.slice ba l2 bc] 58 (0,0))):=(en.mv.fr.block _ (bn X1.o) fun e=>lV.o.Ap X1.o (by decide)<|.inl e).t X1.o;have mQ:w1.heap.size<w3.heap.size:=bn X3.o;have uQ:pb<w3.heap.size:=bn p3.blk;have hpe:pb≠eg:=fun e=>by
   have h1:=iY Ha (k:=eg) rfl;rw[<-e,mO p3.blk]at h1;exact absurd h1<|by decide
  have y2:aB w3 ⟨w1.heap.size,2,af⟩=ae (ag ah 0):=(aQ X3.o 2).t (by rw[<-zW.o];rfl);clear en p3 Ha kT;go_wp2
  go_ret;have b':iE w3 B pb xb h3 (s.gG gq iL).g (s.gG gq iL).v:=by
   refine⟨?_,P3.o.ep,P3.o.wr,P3.o.fa,P3.o.gt,P3.o.gl,P3.o.rc,P3.o.st,P3.o.ap,P3.o.hb⟩;rw[EN.o.cf.1,EN.o.cf.2.1,EN.o.cf.2.2.1,EN.o.cf.2.2.2];exact P3.o.blk
  have TO:=awv (s:=⟨h3,s.L,(s.gG gq iL).g,(s.gG gq iL).v⟩) (N:=N+1) (i:=i) (e0:=ep+1) EN.o.mv.at_ (by show jk h3.pl;rw[EN.o.pl];exact lV.o.ax) b' lV.o.wr lV.o.fa (by omega) lD.o<|lV.o.pg.av9 HE.o EN.o.sn EN.o.cf.1 EN.o.up EN.o.pl;exact⟨rfl,_,((T1.o.a iU.o).mid EN.o.mv TO EN.o.cf).z<|by omega⟩
 ·have zW:aj (x.s=1\/x.s=2\/x.s=3):=(by have:=Nr.o;omega:x.s=1\/x.s=2\/x.s=3);clear h1 Nr Xh vS;refine(awN lV.o (by have:=fK.o;omega) HI.o HU.o HX.o zW.o).z ?_;rintro e w3 ⟨rfl,s2,x2,t3,mW,DV⟩;have T3:aj (kZ W1 w3 B pb xb (s.gG gq iL) (N+2) s2):=t3;have Kt:aj (s2.h.ps[i]? =ae x2):=mW;have HS2:aj (x2.s=2\/x2.s=3):=DV;have Ku:aj (s2.v.ev=aN (ae ⟨eg,0,af⟩) s2.g.ep.length jO):=by show s2.v.ev=_;rw[t3.v,t3.g];exact lD.o
  have ou:aj (s2.g.ep[i]? =ae ep):=by show s2.g.ep[i]? =_;rw[t3.g];exact HE.o
  obtain⟨d0,d5,de,d6,aK,pM⟩:=t3.to.at_.uK Ku.o ou.o;have kT:s2.g.dn=false:=by rw[t3.to.at_.pg.dn,show s2.h.up=true from t3.up.t HU.o];rfl
  rw[kT]at d6;have X3:aj (w3.heap[w1.heap.size]? =ae (aG #[ag ah x.e,ag ah x.t,ag ah x.s,.slice aa l1 ac,.slice ba l2 bc] 58 (0,0))):=(t3.to.fr.block _ (bn X1.o)<|lV.o.Ap X1.o<|by decide).t X1.o;have mQ:w1.heap.size<w3.heap.size:=bn X3.o;have y2:aB w3 ⟨w1.heap.size,2,af⟩=ae (ag ah x.s):=aQ X3.o 2;clear t3 mW DV kT;obtain⟨xe,xt,xs,xa,xM,xc,xd,xi,xw,xg⟩:=x;have hs:=zW.o;simp only at hs y2;have hb:(xs !=0)=true:=by simp only[bne_iff_ne,ne_eq];omega
  clear zW hs;go_wp2_with fail
  refine(IX T3.o.to.at_ (by have:=fK.o;omega) (by have h1:s2.h.P=s.h.P:=T3.o.to.cf.1;rw[h1];exact HI.o) (T3.o.up.t HU.o) Kt.o).z ?_;rintro e w4 ⟨n1,n2,t4⟩;rename_i va vb Gj Rq;obtain⟨ca,cc,rfl,_⟩:=lI n1;obtain⟨da,dc,rfl,_⟩:=lI n2;have kF:aj (∀V,Fr aS w4 V->lF w B pb xb s (N+4) (aV<|aF true) V):=fun V f=>⟨rfl,_,((((T1.o.a iU.o).t T3.o.to).t t4).a f).z<|by omega⟩;obtain⟨ye,yt,ys,ya,UE,yc,yd,yi,yw,yg⟩:=x2;have h2:=HS2.o;simp only at h2;clear n1 n2 t4 HS2;generalize(bZ (⟨ye,yt,ys,ya,UE,yc,yd,yi,yw,yg⟩:PS).bG 1 4).length=m1;generalize(bZ (⟨ye,yt,ys,ya,UE,yc,yd,yi,yw,yg⟩:PS).bG 2 4).length=m2;rcases h2 with h2|h2<;>subst h2<;>go_wp2<;>go_ret<;>exact kF.o _<|bQ _
def awR(a:bJ w B pb xb N s)(hN:N<=80000000)(hi:(i:Int)<s.h.P):aW prog 107 #[az<|ae ⟨pb,0,af⟩,ag ah i] w (lF w B pb xb s<|N+4):=by
 cases hu:s.h.up with
 |true=>
  obtain⟨x,hx⟩:=a.ps hi;have k:=(a.pg.sn.up hu i x hx).k;have f:=a.pg.sn.valid.rW i;have s0:=f.s0;have s1:=f.s1;rw[<-k.s]at s0 s1;exact awQ a hN hi hu fun y hy=>by rw[hx]at hy;cases hy;omega
 |false=>exact(awP a hN hi hu).z fun e w' ⟨h1,h2⟩=>⟨h1,s,(cO.still a h2).z<|by omega⟩
end
section
variable{w w':ay}{B pb xb N:Nat}{s:dm}
variable{q:Nat}{p:PL}
def akz{h:HS}{L:List Rc}{n M:Nat}(ha:aH w B xb n h)(sn:Sn M h L)(hn:n<=90000000)(hM:M<=90000000)(hp:h.pl[q]? =ae p):
 aW prog 23 #[az<|ae ⟨xb,0,af⟩,ag ah q] w fun e w'=>∃va vl,e=aV (dU #[iF #[aF p.out,ag ah p.s.es.length,ag ah p.s.dC,va],ag ah 0])/\(∃pa pc,va=.slice pa vl pc)/\Fr aS w w':=by
 have k:=sn.dZ q p hp;have:=k.fM;refine(agB ha hp k.inv (by omega)<|by omega).z fun e w' ⟨va,S,h1,_,h3,h4⟩=>?_;obtain⟨pa,pc,h5,_⟩:=lI h3;exact⟨va,S.length,h1,⟨pa,pc,h5⟩,h4⟩
def UF(a:bJ w B pb xb N s)(hN:N<=90000000)(hp:s.h.pl[q]? =ae p):
 aW prog 23 #[az<|ae ⟨xb,0,af⟩,ag ah q] w fun e w'=>∃va vl,e=aV (dU #[iF #[aF p.out,ag ah p.s.es.length,ag ah p.s.dC,va],ag ah 0])/\(∃pa pc,va=.slice pa vl pc)/\Fr aS w w':=akz a.ha a.pg.sn hN hN hp
end
