import Derived.Test.YtkelpcjiediamaaGreatQb40
set_option maxRecDepth 100000
set_option maxHeartbeats 0
set_option linter.all false
namespace Go.Proofs.YtkelpcjiediamaaGreat
def aCT:=@Go.results_tmp
open Go renaming Frame→aV,Value→aj,World→ah,maxLen→dH,stepG→aW,undef→ag
open Option renaming none→af,some→ae
open Go.Proofs.Tryz
open Go.RowKit Go.Maps
section
namespace Twin
open Go Go.Proofs Go.Conc Go.RowKit Go.Maps eX
def as4(a:aj):#[a]++Array.replicate (Tryz.f20.ntmps- #[a].size) ag=#[a,ag,ag,ag,ag,ag,ag,ag,ag,ag,ag,ag,ag,ag,ag,ag,ag,ag,ag,ag,ag,ag,ag,ag,ag,ag,ag,ag]:=by kernel_rfl
def as5(xb:Nat):Frame.enter prog 20 #[.pointer<|ae ⟨xb,0,af⟩] .normal=(base 20).at ⟨rt xb ag ag ag ag ag ag ag ag ag ag ag ag ag ag ag ag ag ag ag ag ag ag ag ag ag,[]⟩ [.code rb]:=by
 rw[aCX (c:=rb) _ func20 rfl,as4];rfl
def as6{W:ah}(xb:Nat):(iD rb).wp prog (fun e a' w'=>e=.normal/\a'=⟨rt xb (.int .i64 0) ag ag ag ag ag ag ag ag ag ag ag ag ag ag ag ag ag ag ag ag ag ag ag ag,[]⟩/\w'=W)
 ⟨rt xb ag ag ag ag ag ag ag ag ag ag ag ag ag ag ag ag ag ag ag ag ag ag ag ag ag,[]⟩ W:=by
 simp only[rb,Tryz.f20,gQ,iD,rt];go_wp2
noncomputable def xX:Array Oper:=match iD rX with| .region _ o _=>o|_=>#[]
def as7:iD rX=.region 2 xX false:=rfl
def as8(xb:Nat)(v t6 t7 t8 t9:aj)(k:List Item)(cs:List aV)(w:ah):aW prog true (G ((base 20).at ⟨rt xb (.int .i64 0) v ag t6 t7 t8 t9 ag ag ag ag ag ag ag ag ag ag ag ag ag ag ag ag ag ag,[]⟩<|.inRegion xX [0,1,2,3,4]::k) cs) w=
 .go (G ((base 20).at ⟨rt xb (.int .i64 0) v ag t6 t7 t8 t9 (.pointer<|ae ⟨xb,0,af⟩) ag ag ag ag ag ag ag ag ag ag ag ag ag ag ag ag ag,[]⟩<|.inRegion xX [1,2,3,4]::k) cs) w #[]:=by
 have e:=GK (P:=prog) (main:=true) (b:=base 20) (a:=⟨rt xb (.int .i64 0) v ag t6 t7 t8 t9 ag ag ag ag ag ag ag ag ag ag ag ag ag ag ag ag ag ag,[]⟩) (ops:=xX) (i:=0) (rest:=[1,2,3,4]) (k:=k) (cs:=cs) (w:=w) (v:=.pointer<|ae ⟨xb,0,af⟩) rfl rfl (by decide) rfl rfl;exact e
def as9(xb:Nat)(v t6 t7 t8 t9:aj)(k:List Item)(cs:List aV)(w:ah):aW prog true (G ((base 20).at ⟨rt xb (.int .i64 0) v ag t6 t7 t8 t9 (.pointer<|ae ⟨xb,0,af⟩) ag ag ag ag ag ag ag ag ag ag ag ag ag ag ag ag ag,[]⟩<|.inRegion xX [1,2,3,4]::k) cs) w=
 .go (G ((base 20).at ⟨rt xb (.int .i64 0) v ag t6 t7 t8 t9 (.pointer<|ae ⟨xb,0,af⟩) v ag ag ag ag ag ag ag ag ag ag ag ag ag ag ag ag,[]⟩<|.inRegion xX [2,3,4]::k) cs) w #[]:=by
 have e:=GK (P:=prog) (main:=true) (b:=base 20) (a:=⟨rt xb (.int .i64 0) v ag t6 t7 t8 t9 (.pointer<|ae ⟨xb,0,af⟩) ag ag ag ag ag ag ag ag ag ag ag ag ag ag ag ag ag,[]⟩) (ops:=xX) (i:=1) (rest:=[2,3,4]) (k:=k) (cs:=cs) (w:=w) (v:=v) rfl rfl (by decide) rfl rfl;exact e
def ata(xb:Nat)(v u t6 t7 t8 t9:aj)(a:Option Addr)(l c:Nat)(k:List Item)(cs:List aV)(w:ah):aW prog true (G ((base 20).at ⟨rt xb (.int .i64 0) v ag t6 t7 t8 t9 u v (.slice a l c) ag ag ag ag ag ag ag ag ag ag ag ag ag ag ag,[]⟩<|.inRegion xX [3,4]::k) cs) w=
 .go (G ((base 20).at ⟨rt xb (.int .i64 0) v ag t6 t7 t8 t9 u v (.slice a l c) (.int .i64 l) ag ag ag ag ag ag ag ag ag ag ag ag ag ag,[]⟩<|.inRegion xX [4]::k) cs) w #[]:=by
 have e:=GK (P:=prog) (main:=true) (b:=base 20) (a:=⟨rt xb (.int .i64 0) v ag t6 t7 t8 t9 u v (.slice a l c) ag ag ag ag ag ag ag ag ag ag ag ag ag ag ag,[]⟩) (ops:=xX) (i:=3) (rest:=[4]) (k:=k) (cs:=cs) (w:=w) (v:=.int .i64 l) rfl rfl (by decide) (by kernel_rfl) (by kernel_rfl);exact e
def atb(xb:Nat)(v u t6 t7 t8 t9:aj)(a:Option Addr)(l c:Nat)(k:List Item)(cs:List aV)(w:ah):aW prog true (G ((base 20).at ⟨rt xb (.int .i64 0) v ag t6 t7 t8 t9 u v (.slice a l c) (.int .i64 l) ag ag ag ag ag ag ag ag ag ag ag ag ag ag,[]⟩<|.inRegion xX [4]::k) cs) w=
 .go (G ((base 20).at ⟨rt xb (.int .i64 0) v ag t6 t7 t8 t9 u v (.slice a l c) (.int .i64 l) (.int .i64 0) ag ag ag ag ag ag ag ag ag ag ag ag ag,[]⟩<|.inRegion xX []::k) cs) w #[]:=by
 have e:=GK (P:=prog) (main:=true) (b:=base 20) (a:=⟨rt xb (.int .i64 0) v ag t6 t7 t8 t9 u v (.slice a l c) (.int .i64 l) ag ag ag ag ag ag ag ag ag ag ag ag ag ag,[]⟩) (ops:=xX) (i:=4) (rest:=[]) (k:=k) (cs:=cs) (w:=w) (v:=.int .i64 0) rfl rfl (by decide) rfl rfl;exact e
structure Ad(h:HS)(ms:List Ms)(fE:List PL):Prop where
 len:fE.length=h.pl.length
 get:∀(i:Nat) (p:PL),h.pl[i]? =ae p->∃v',fE[i]? =ae {p with v:=v',s:=xW ms i p}
def HS.taken(h:HS)(fE:List PL):HS:={h with fv:=.slice af 0 0,fl:=[],pl:=fE}
structure atc(s:Nat->Prop)(w w':ah)(B xb n:Nat)(h:HS)(Wg:Nat)(h3:HS):Prop where
 ex:∃fE h2,Ad h h.fl fE/\iC fE/\o7 (HS.taken h fE) (dU h.fl++jT h.fl h.pl) h2/\Ac h2 h3
 at_:ay w' B xb (n+h.fl.length) h3
 apart:iC h3.pl
 fr:∀b,b<w.heap.size->¬s b->¬h.dZ xb b->w'.heap[b]? =w.heap[b]?
 sub:∀b,h3.dZ xb b->h.dZ xb b\/w.heap.size<=b
 size:w.heap.size<=w'.heap.size
 wg:w.heap.size<=Wg
 tape:w'.tape=w.tape
 os:w'.os=w.os
 output:w'.output=w.output
def o7.pl{l:List Ms}:∀{h h':HS},o7 h l h'->h'.pl=h.pl/\h'.fv=h.fv:=by
 induction l with
 |nil=>intro h h' a;cases a;exact⟨rfl,rfl⟩
 |cons m l ih=>
  intro h h' a;cases a with
  |cons _ _ a ra=>
   obtain⟨r1,r2⟩:=ih ra;exact⟨r1.trans a.rest.2.2.1,r2.trans a.rest.2.2.2.2.1⟩
variable{h h':HS}
def uH.pl{i:Nat}{x:PS}{ok:Bool}(l:uH h i x ok h'):h'.pl=h.pl:=by
 cases l with
 |vI=>rfl
 |timeout _ _ hw=>cases hw<;>rfl
 |rem _ hr=>cases hr<;>rfl
 |idle=>rfl
def qj.pl{j:Nat}(t:qj h j h'):h'.pl=h.pl:=by
 induction t with
 |zero=>rfl
 |succ _ _ hl ih=>exact(uH.pl hl).trans ih
def Ac.pl(t:Ac h h'):h'.pl=h.pl:=by
 cases t with
 |down=>rfl
 |up _ t=>
  cases t with
  |all t=>exact qj.pl t
  |sD _ t _ l=>exact(uH.pl l).trans<|qj.pl t
def atd{fo s:Nat->Prop}{w:ah}{B xb n:Nat}(hh:ay w B xb n h)(ha:iC h.pl)(hx:¬(s xb\/fo xb))(az2:h.fl.length<=100)(hn:n+100<=1000000000000)(pF:∀p∈h.pl,(p.s.es.length+100)*40<=140737488355328)(sU:∀m∈h.fl,(Lit.int .i64 m.p).wf=true)(hq:∀m∈h.fl,m.k=1->∃i:Nat,m.q=i/\i<h.pl.length)
 (sW:∀(fE:List PL) (k:Nat) (h2:HS) (m:Ms),Ad h h.fl fE->o7 (HS.taken h fE) ((dU h.fl++jT h.fl h.pl).take k) h2->(dU h.fl++jT h.fl h.pl)[k]? =ae m->∃(i:Nat) (x:PS) (q:Nat),m.p=(i:Int)/\i<6/\h2.ps[i]? =ae x/\m.q=(q:Int)/\q<4/\lM h2 ⟨4,i,0,x.t⟩)
 (xu:∀(fE:List PL) (h2:HS),Ad h h.fl fE->o7 (HS.taken h fE) (dU h.fl++jT h.fl h.pl) h2->h2.up=true->∀(j:Nat) (h1:HS) (x:PS),j<h2.P.toNat->qj h2 j h1->h1.ps[j]? =ae x->x.CJ/\lM h1 ⟨3,j,0,x.t⟩)
 (Ce:(dU h.fl++jT h.fl h.pl).length<=1000):
 ai.ug (ai.bz fo s) prog 20 #[.pointer<|ae ⟨xb,0,af⟩] w (fun B' v w'=>∃Wg h3,B'=ai.bz fo (fun b=>s b\/b=Wg)/\v=.int .i64 h.fl.length/\atc s w w' B xb n h Wg h3):=by
 intro c cs;refine ai.Reach.ok fun bD=>?_;have h5:∀b,s b\/fo b->1<=b:=fun b hb=>(bD.low b hb).1;have L:=ai.lets h5;have C:ai.Bg (ai.bz fo s) prog:=fun k hk=>ai.Ky fun b hb=>hb.elim (h5 b) fun z=>by omega
 have fZ:=aS hh.blk;have AA:=ay.free hh bD hx;rw[as5,asR];refine lU fun d1=>?_;have Uc:ai.bG ((ai.bz fo s).cut w.heap.size) (rt xb ag ag ag ag ag ag ag ag ag ag ag ag ag ag ag ag ag ag ag ag ag ag ag ag ag):=fun v hv=>by
  simp only[rt,rP,jC,oN,oO]at hv;rcases hv with rfl|hv
  ·exact .qI fun z=>z.elim hx fun y=>by have:w.heap.size<=xb:=y;omega
  ·have:v=undef:=by
    simp only[or_self]at hv;exact hv
   rw[this];exact ai.ru
 refine ai.Gi (w:=w.at d1) (K:=fun t d e a' w'=>e=.normal/\a'=⟨rt xb (.int .i64 0) ag ag ag ag ag ag ag ag ag ag ag ag ag ag ag ag ag ag ag ag ag ag ag ag,[]⟩/\w'=ai.re (w.at d1) t d) L C ok0 Uc rfl ⟨_,func20⟩ rfl (fun t d=>aCs (as6 xb) fun e a w hq=>⟨.inl hq.1,hq⟩) ?_ ?_;rotate_left
 ·rintro a1 w1 todo _ _ _ ⟨t,d,t',j,e,_⟩;cases e
 rintro a1 w1 ng KT _ ⟨t,d,t',j,_,rfl,vg⟩;have e1:w1.heap=w.heap:=show(ai.re w1 t' j).heap=(ai.re (w.at d1) t d).heap from eP World.heap vg;clear vg;refine lU fun d2=>?_;refine ai.Gi (w:=w1.at d2) (K:=fun t d e a' w'=>e=.normal/\(∃t6 t7 t8 t9,a'=⟨rt xb (.int .i64 0) h.fv ag t6 t7 t8 t9 ag ag ag ag ag ag ag ag ag ag ag ag ag ag ag ag ag ag,[]⟩)/\bI (ai.re (w1.at d2) t d) w' B xb n h n (h.gp (.slice af 0 0) [])/\Fr (fun q=>q=xb) (ai.re (w1.at d2) t d) w') L C ok1 KT rfl ⟨_,func20⟩ rfl (fun t d=>aCs (asX<|ay.same hh (fun b _=>by show w1.heap[b]? =_;rw[e1]) (by show w.heap.size<=w1.heap.size;rw[e1];exact bV _)) fun e a w hq=>⟨.inl hq.1,hq⟩) ?_ ?_;rotate_left
 ·rintro a2 w2 todo _ _ _ ⟨t,d,t',j,e,_⟩;cases e
 rintro a2 w2 I9 Oo _ ⟨t,d,t',j,_,⟨t6,t7,t8,t9,rfl⟩,WI,kJ⟩;have Ar:ay w2 B xb n (h.gp (.slice af 0 0) []):=ay.KR WI.at_;have f2:∀b,b<w.heap.size->b≠xb->w2.heap[b]? =w.heap[b]? :=fun b hb bM=>by
  have:=kJ.block b (by show b<w1.heap.size;rw[e1];exact hb) bM;have h2:w2.heap[b]? =w1.heap[b]? :=this;rw[h2,e1]
 have z2:w.heap.size<=w2.heap.size:=by
  have:w1.heap.size<=w2.heap.size:=kJ.size;rw[e1]at this;exact this
 have abx:w2.tape=w.tape/\w2.os=w.os/\w2.output=w.output:=⟨I9.tape.trans ng.tape,I9.os.trans ng.os,I9.output.trans ng.output⟩;clear WI kJ;obtain⟨na,nc,oM,_⟩:=oL hh.lY;have Tn:∀b,h.fv.ownBlock=ae b->b≠xb:=fun b hb e=>hh.Zg<|e▸hb;have ah1:w2.ownsRow B 119 5 (.slice na h.fl.length nc) h.fl.length (h.fl.flatMap Ms.cs):=by
  have h0:=hh.lY;refine⟨h0.1,?_⟩;rcases h0.2 with⟨q1,q2⟩|⟨g,cap,cur,q1,q2,q3,q4⟩
  ·exact .inl ⟨by rw[<-oM];exact q1,q2⟩
  ·exact .inr ⟨g,cap,cur,by rw[<-oM];exact q1,q2,(f2 g (iU.1 q3).1<|Tn g (by rw[q1];rfl)).trans q3,q4⟩
 have hC:∀V:ah,V.heap=w2.heap->Om (fun b=>s b\/fo b) V B B xb n (h.gp (.slice af 0 0) []) na nc h.fl:=fun V hV=>by
  refine⟨ay.same Ar (fun b _=>by rw[hV]) (by rw[hV];exact bV _),ha,?_,by unfold dH;omega,by omega,fun p hp=>by have:=pF p hp;omega,sU,hq,fun b hb=>⟨fun e=>hx<|e▸hb,fun e=>AA b (.inr<|.inr<|.inl e) hb,fun p hp e=>AA b (.inr<|.inr<|.inr<|.inr ⟨p,hp,e⟩) hb,fun e=>AA b (.inr<|.inr<|.inr<|.inl (by rw[oM];exact e)) hb⟩⟩;refine⟨ah1.1,?_⟩;rcases ah1.2 with⟨q1,q2⟩|⟨g,cap,cur,q1,q2,q3,q4⟩
  ·exact .inl ⟨q1,q2⟩
  ·exact .inr ⟨g,cap,cur,q1,q2,by rw[hV];exact q3,q4⟩
 refine lU fun d3=>?_;refine lU fun d4=>?_;rw[as7];refine xR fun d5=>?_;rw[show List.range xX.size=[0,1,2,3,4]from rfl];rw[oM]at Oo⊢
 refine kF (fun w=>as8 xb _ t6 t7 t8 t9 _ _ w) fun d6=>?_;refine kF (fun w=>as9 xb _ t6 t7 t8 t9 _ _ w) fun d7=>?_;refine WB (f:=54) (post:=fun B' v w'=>∃(d:Nat) (z:Gs),B'=ai.bz fo (fun b=>s b\/b=z.Wg)/\abv fo s ((((((w2.at d3).at d4).at d5).at d6).at d7).at d) B xb n (h.gp (.slice af 0 0) []) na nc h.fl z v w') rfl rfl (by decide) rfl func54 rfl rfl (vs:=#[.pointer<|ae ⟨xb,0,af⟩,.slice na h.fl.length nc]) (by kernel_rfl) (fun d=>(asF (hC ((((((w2.at d3).at d4).at d5).at d6).at d7).at d) rfl)<|by omega).mono fun _ _ _ hg=>⟨d,hg⟩) ?_;rintro B' v w3 ⟨dd,z,rfl,hG⟩;obtain⟨fE,kz,zu,uF,ah2,hlf,Fb,BK,ayr,bH,ht3,XK,hu3⟩:=asO (hC ((((((w2.at d3).at d4).at d5).at d6).at d7).at dd) rfl) hG (fun b hb=>⟨fun e=>AA b (.inr<|.inl e)<|.inl hb,fun e=>by simp[HS.gp,Value.ownBlock]at e⟩);have Ru:=hG.vok;clear hG;have DY:Ad h h.fl fE:=⟨kz,zu⟩;refine ai.Reach.ok fun aby=>?_;have KU:∀b,(s b\/b=z.Wg)\/fo b->1<=b:=fun b hb=>(aby.low b hb).1;have L3:=ai.lets KU;have C3:ai.Bg (ai.bz fo fun b=>s b\/b=z.Wg) prog:=fun k hk=>ai.Ky fun b hb=>hb.elim (KU b) fun z=>by omega
 obtain⟨va,vc,rfl,_⟩:=oL Fb;rw[<-iQ,<-Fq]at Fb;rw[<-iQ]at Ru⊢
 generalize hA:dU h.fl++jT h.fl (h.gp (.slice af 0 0) []).pl=A at Fb Ru⊢
 have hA':dU h.fl++jT h.fl h.pl=A:=hA;rw[hA']at sW xu Ce;have ate:ay w3 B xb (n+h.fl.length) (HS.taken h fE):=uF;have hz3:w2.heap.size<=w3.heap.size:=ayr;have zB:w2.heap.size<=z.Wg:=bH;have hold:∀v,ai.az ((ai.bz fo s).cut w2.heap.size) v->ai.az ((ai.bz fo fun b=>s b\/b=z.Wg).cut w3.heap.size) v:=fun v hv=>hv.mono (B:=(ai.bz fo fun b=>s b\/b=z.Wg).cut w3.heap.size) (B':=(ai.bz fo s).cut w2.heap.size) (fun b hb=>by
  rcases hb with((hb|rfl)|hb)|hb
  ·exact .inl<|.inl hb
  ·exact .inr zB
  ·exact .inl<|.inr hb
  ·exact .inr<|dP hz3 hb) rfl
 have okx:ai.az ((ai.bz fo s).cut w2.heap.size) (.pointer<|ae ⟨xb,0,af⟩):=Oo _ (by simp[rt]);have abz:ai.bG ((ai.bz fo fun b=>s b\/b=z.Wg).cut w3.heap.size) (rt xb (.int .i64 0) (.slice na h.fl.length nc) ag t6 t7 t8 t9 (.pointer<|ae ⟨xb,0,af⟩) (.slice na h.fl.length nc) (.slice va A.length vc) (.int .i64 A.length) (.int .i64 0) ag ag ag ag ag ag ag ag ag ag ag ag ag):=fun v hv=>by
  simp only[rt,rP,jC,oN,oO]at hv;have old:v∈rt xb (.int .i64 0) (.slice na h.fl.length nc) ag t6 t7 t8 t9 ag ag ag ag ag ag ag ag ag ag ag ag ag ag ag ag ag ag->ai.az ((ai.bz fo fun b=>s b\/b=z.Wg).cut w3.heap.size) v:=fun hm=>hold v<|Oo v hm;have ayu:v∈rt xb (.int .i64 0) (.slice na h.fl.length nc) ag t6 t7 t8 t9 ag ag ag ag ag ag ag ag ag ag ag ag ag ag ag ag ag ag\/v=.slice va A.length vc\/v=.int .i64 A.length:=by
   simp only[rt,rP,jC,oN,oO];rcases hv with e|e|e|e|e|e|e|e|e|e|e|e|e|e|e|e|e|e|e|e|e|e|e|e|e|e|e|e<;>simp only[e,true_or,or_true]
  rcases ayu with hm|rfl|rfl
  ·exact old hm
  ·exact Ru
  ·exact .int
 change ai.Reach _ _ ((base 20).at ⟨rt xb (.int .i64 0) (.slice na h.fl.length nc) ag t6 t7 t8 t9 (.pointer<|ae ⟨xb,0,af⟩) (.slice na h.fl.length nc) (.slice va A.length vc) ag ag ag ag ag ag ag ag ag ag ag ag ag ag ag,[]⟩<|.inRegion xX [3,4]:: .code Rz:: .code rY::[]) _ _ _ _;refine kF (fun w=>ata xb _ _ t6 t7 t8 t9 _ _ _ _ _ w) fun d8=>?_;refine kF (fun w=>atb xb _ _ t6 t7 t8 t9 _ _ _ _ _ w) fun d9=>?_;refine xU fun d10=>?_;have atV:∀(V:ah) (h1:HS) (N:Nat),ay w3 B xb N h1->V.heap=w3.heap->ay V B xb N h1:=fun V h1 N ht hV=>ay.same ht (fun b _=>by rw[hV]) (by rw[hV];exact bV _);refine ai.Gi (w:=((w3.at d8).at d9).at d10) (K:=fun t d e a' w'=>e=.normal/\(∃t5 t14 t15 t16 t17 t18 t19 t20 t21 t22 t23,a'=⟨rt xb (.int .i64 0) (.slice na h.fl.length nc) t5 t6 t7 t8 t9 (.pointer<|ae ⟨xb,0,af⟩) (.slice na h.fl.length nc) (.slice va A.length vc) (.int .i64 A.length) t14 t15 t16 t17 t18 t19 t20 t21 t22 t23 ag ag ag ag,[]⟩)/\∃h2,o7 (HS.taken h fE) A h2/\bI (ai.re (((w3.at d8).at d9).at d10) t d) w' B xb (n+h.fl.length) (HS.taken h fE) (n+h.fl.length) h2) L3 C3 asV abz rfl ⟨_,func20⟩ rfl (fun t d=>aCs (asZ (W:=ai.re (((w3.at d8).at d9).at d10) t d) (Bm:=w2.heap.size) (h:=HS.taken h fE) (atV (ai.re (((w3.at d8).at d9).at d10) t d) _ _ ate rfl) rfl (by
  refine⟨Fb.1,?_⟩;rcases Fb.2 with⟨q1,q2⟩|⟨g,cap,cur,q1,q2,q3,q4⟩
  ·exact .inl ⟨q1,q2⟩
  ·exact .inr ⟨g,cap,cur,q1,q2,q3,q4⟩) Ce (fun k h2 m=>sW fE k h2 m DY) _ _ _ _ _ _ _ _ _ _ _ _ _ _ _ _ _ _ _ _ _ _) fun e a w hq=>⟨.inl hq.1,hq⟩) ?_ ?_
 rotate_left
 ·rintro a4 w4 todo _ _ _ ⟨t,d,t',j,e,_⟩;cases e
 rintro a4 w4 ED abA _ ⟨t,d,t',j,_,⟨s5,s14,s15,s16,s17,s18,s19,s20,s21,s22,s23,rfl⟩,h2,hkr,Iy⟩;have atg:ay w4 B xb (n+h.fl.length) h2:=ay.KR Iy.at_;have f4:∀b,b<w3.heap.size->¬(HS.taken h fE).dZ xb b->w4.heap[b]? =w3.heap[b]? :=fun b hb bM=>Iy.fr.block b hb bM;have s4:∀b,h2.dZ xb b->(HS.taken h fE).dZ xb b\/w3.heap.size<=b:=Iy.sub;have z4:w3.heap.size<=w4.heap.size:=Iy.fr.size;clear Iy;refine ai.Gi (w:=w4) (K:=fun t d e a' w'=>e=.ret/\a'.tmps.getD 2 ag=.int .i64 h.fl.length/\∃h3,Ac h2 h3/\bI (ai.re w4 t d) w' B xb (n+h.fl.length) h2 (n+h.fl.length) h3) L3 C3 okY abA rfl ⟨_,func20⟩ rfl (fun t d=>aCs (as3 (l:=h.fl.length) (ay.re atg t d) (xu fE h2 DY hkr) _ _ _ _ _ _ _ _ _ _ _ _ _ _ _ _ _ _ _ _ _ _ _ _) fun e a w hq=>⟨.inr hq.1,hq⟩) ?_ ?_
 ·rintro a5 w5 _ _ _ ⟨t,d,t',j,e,_⟩;cases e
 rintro a5 w5 todo BB ah3 hd5 ⟨t,d,t',j,_,tq,h3,htk,I8⟩;have ath:ay w5 B xb (n+h.fl.length) h3:=ay.KR I8.at_;have f5:∀b,b<w4.heap.size->¬h2.dZ xb b->w5.heap[b]? =w4.heap[b]? :=fun b hb bM=>I8.fr.block b hb bM;have s5:∀b,h3.dZ xb b->h2.dZ xb b\/w4.heap.size<=b:=I8.sub;have z5:w4.heap.size<=w5.heap.size:=I8.fr.size;clear I8;have ahT:h3.pl=fE:=(Ac.pl htk).trans (o7.pl hkr).1;have ft:∀b,(HS.taken h fE).dZ xb b->h.dZ xb b\/w.heap.size<=b:=fun b hb=>by
  rcases hb with e|e|e|e|⟨p,hp,e⟩
  ·exact .inl<|.inl e
  ·exact .inl<|.inr<|.inl e
  ·exact .inl<|.inr<|.inr<|.inl e
  ·simp[HS.taken,Value.ownBlock]at e
  ·rcases(hlf p hp b e).1 with⟨p0,zo,e0⟩|e0
   ·exact .inl<|.inr<|.inr<|.inr<|.inr ⟨p0,zo,e0⟩
   ·have e0':w2.heap.size<=b:=e0;exact .inr<|by omega
 refine kF (fun w=>stepG_leave (v:=.int .i64 h.fl.length) rfl hd5 func20 (by rw[<-tq];exact aCT rfl _ _ _)<|by kernel_rfl) fun d11=>?_;refine ai.Reach.here fun _=>⟨_,rfl,z.Wg,h3,rfl,rfl,⟨⟨fE,h2,DY,ah2,by rw[hA'];exact hkr,htk⟩,ay.same ath (fun b _=>rfl)<|bV _,by rw[ahT];exact ah2,fun b hb hs hf=>?_,fun b hb=>?_,?_,by omega,?_,?_,?_⟩⟩
 ·have Hy:b≠xb:=fun e=>hf<|.inl e;have L8:¬(HS.taken h fE).dZ xb b:=fun e=>(ft b e).elim hf fun y=>by omega
  have LD:¬vU h.pl b:=fun⟨p,hp,e⟩=>hf<|.inr<|.inr<|.inr<|.inr ⟨p,hp,e⟩;have rG:¬h2.dZ xb b:=fun e=>(s4 b e).elim L8 fun y=>by omega
  exact(f5 b (by omega) rG).trans<|(f4 b (by omega) L8).trans<|(BK b (by show b<w2.heap.size;omega) hs LD).trans<|f2 b hb Hy
 ·rcases s5 b hb with e|e
  ·rcases s4 b e with e|e
   ·exact ft b e
   ·exact .inr<|by omega
  ·exact .inr<|by omega
 ·show w.heap.size<=w5.heap.size;omega
 ·exact BB.tape.trans<|ED.tape.trans<|ht3.trans abx.1
 ·exact BB.os.trans<|ED.os.trans<|XK.trans abx.2.1
 ·exact BB.output.trans<|ED.output.trans<|hu3.trans abx.2.2
end Twin
end
def sJ(l:List Ms)(q:Nat):List Ms:=l.filter fun m:Ms=>decide<|m.k=1/\m.q=(q:Int)
def WJ(O:List Bool)(l:List Ms)(p i:Nat):List Ms:=((List.range p).flatMap fun q=>if O[q]? =ae true then[]else(sJ l q).map Ms.kC)++if O[p]? =ae true then[]else(sJ (l.take i) p).map Ms.kC
def ati(l:List Ms)(q:Nat):(sJ l q).length<=l.length:=Fj _ _
def atj(l:List Ms)(p:Nat):((List.range p).flatMap fun q=>sJ l q).length<=l.length:=by
 induction l with
 |nil=>
  have:∀r:List Nat,(r.flatMap fun q=>sJ [] q)=[]:=fun r=>by
   induction r with
   |nil=>rfl
   |cons q r ih=>rw[nZ,ih];rfl
  rw[this];exact bV _
 |cons x l ih=>
  have key:∀p:Nat,((List.range p).flatMap fun q=>sJ (x::l) q).length=((List.range p).flatMap fun q=>sJ l q).length+if x.k=1/\0<=x.q/\x.q<(p:Int)then 1 else 0:=by
   intro p;induction p with
   |zero=>
    rw[if_neg<|by omega];rfl
   |succ p ihp=>
    rw[YL,Fq,Fq,iQ,iQ,ihp];simp only[nZ,List.flatMap_nil,qh];have e:(sJ (x::l) p).length=(sJ l p).length+if x.k=1/\x.q=(p:Int)then 1 else 0:=by
     unfold sJ;by_cases e:x.k=1/\x.q=(p:Int)
     ·rw[if_pos e,adF<|by simpa using e];rfl
     ·rw[if_neg e,Ur<|by simpa using e];rfl
    rw[e];by_cases h1:x.k=1/\0<=x.q/\x.q<(p:Int)
    ·rw[if_pos h1,if_neg<|by omega,if_pos<|by omega];omega
    ·by_cases h2:x.k=1/\x.q=(p:Int)
     ·rw[if_neg h1,if_pos h2,if_pos<|by omega];omega
     ·rw[if_neg h1,if_neg h2,if_neg<|by omega];omega
  rw[key p];simp only[ny];split<;>omega
def atm(O:List Bool)(l:List Ms)(p i:Nat):(WJ O l p i).length<=l.length:=by
 have h1:(WJ O l p i).length<=((List.range<|p+1).flatMap fun q=>sJ l q).length:=by
  unfold WJ;rw[YL,Fq,iQ,iQ];have a1:((List.range p).flatMap fun q=>if O[q]? =ae true then[]else(sJ l q).map Ms.kC).length<=((List.range p).flatMap fun q=>sJ l q).length:=by
   generalize List.range p=r;induction r with
   |nil=>simp
   |cons q r ih=>
    simp only[nZ,iQ];have:(if O[q]? =ae true then[]else(sJ l q).map Ms.kC).length<=(sJ l q).length:=by
     split
     ·simp
     ·rw[Ib];exact bV _
    omega
  have a2:(if O[p]? =ae true then[]else(sJ (l.take i) p).map Ms.kC).length<=(sJ l p).length:=by
   split
   ·simp
   ·rw[Ib];unfold sJ;exact(List.take_sublist i l).filter _ |>.length_le
  simp only[nZ,List.flatMap_nil,qh];omega
 exact dP h1<|atj l<|p+1
section
open _root_.Go.Proofs.YtkelpcjiediamaaGreat.Twin (dU jT xW Ad Ac)
def atn(ms:List Ms)(i:Nat)(p:PL):xW ms i p=if p.out then p.s else I7 (sJ ms i) p.s:=rfl
end
section
section
variable{N:Nat}{h h':HS}{L:List Rc}
variable{i j:Nat}{x:PS}{a:Int}{ok:Bool}
def Sn.ato(c:Sn N h L)(hu:h.up=true)(hi:(i:Int)<h.P)(hx:h.ps[i]? =ae x)(hs:x.s=2\/x.s=3):Next h.P h.Q L ⟨4,i,0,x.t⟩:=by
 have k:=(c.up hu i x hx).k;have:=k.s;exact⟨by simp only;omega,hi,.inr<|.inr<|.inr ⟨rfl,rfl,by simp only;omega,k.t⟩⟩
def Sn.abB(c:Sn N h L)(hu:h.up=true)(hi:(i:Int)<h.P)(hx:h.ps[i]? =ae x)(hs:x.s=1)(ha:a=0\/a=1):Next h.P h.Q L ⟨3,i,a,x.t⟩:=by
 have k:=(c.up hu i x hx).k;have:=k.s;exact⟨by simp only;omega,hi,.inr<|.inr<|.inl ⟨rfl,ha,by simp only;omega,k.t⟩⟩
def Sn.abC(c:Sn N h L)(hN:N<=100000000){k:Int}(hk:k=3\/k=4)(ha:a=0\/a=1)(hi:(i:Int)<h.P)(hx:h.ps[i]? =ae x):lM h ⟨k,i,a,x.t⟩:=by
 have Qp:=c.P1.2;have hf:=c.eG;have ht:0<=x.t/\x.t<=L.length:=by
  cases hu:h.up with
  |true=>
   have k:=(c.up hu i x hx).k;have f:=c.valid.qY i;rw[k.t];exact⟨f.t0,f.t1⟩
  |false=>
   rw[c.dn hu]at hx;have:x=oQ:=by
    have:=fD hx;simpa[vF]using this
   subst this;exact⟨by simp[oQ],by simp[oQ]⟩
 exact⟨⟨L.length,by omega,⟨by simp only;omega,by simp only;omega,by simp only;omega,by simp only;omega,by simp only;omega,by simp only;omega,by simp only;omega,by simp only;omega⟩⟩,c.kp,by rw[c.jb,FT,CP];omega,fun _=>ha⟩
def Sn.kC(c:Sn N h L){m:Ms}(hm:xG h.P h.Q L m)(ha:Nw h.pl m)(hi:m.p=(i:Int))(hx:h.ps[i]? =ae x)(a:xH h i x m h'):∃L',Sn (N+1) h' L'/\tY h L h' L'/\(∀m',xG h.P h.Q L m'->xG h.P h.Q L' m')/\h'.pl=h.pl/\h'.fl=h.fl:=by
 have hP:=hm.p;cases a with
 |idle=>exact⟨L,c.mono<|by omega,.refl _ _,fun _ z=>z,rfl,rfl⟩
 |done lW ht hw=>
  obtain⟨hu,hs,he⟩:=lW;have pr:=c.up hu i x hx;have hn:=c.ato hu (by omega) hx hs;have h4:∀(q:Nat) (p:PL),h.pl[q]? =ae p->∀t,p.s.nw (i:Int)≠ae (t,true):=fun q p hp t hj=>by
   have h2:=pr.p.opn (by omega) q p t hp hj;have ho:=c.opn q p hp _ t hj;have l9:q<4:=by have:=(c.valid.qY i).ps _ ho.2.2.2.2;have:=c.Q1.2;omega
   have:(q:Int)∈bF x.aT 2 4:=ND.2 ⟨q,l9,rfl,by omega⟩;rw[ht]at this;refine ha q p hp (nY.1 this).symm ?_;rw[hi,hj,<-he,pr.k.t,ho.2.2.2.1]
  obtain⟨_,sn,jv,rfl⟩:=c.J9 hu hn (fun _=>h4) hw;exact⟨_,sn,⟨rfl,rfl,rfl,rfl,rfl,.one<|.inl rfl,.refl _⟩,fun m' z=>z.snoc hn,rfl,rfl⟩
 |tie lW ht=>
  obtain⟨hu,hs,he⟩:=lW;have pr:=c.up hu i x hx;have Ro:((m.q.toNat:Nat):Int)=m.q:=by have:=hm.q;omega
  have l9:m.q<4:=by have:=c.Q1.2;have:=hm.q;omega
  rw[Ro];obtain⟨r1,r2,r3,r4,r5,r6⟩:=FP x m.q 1;refine⟨L,(c.dE (i:=i) (x':=x.tie m.q 1) hu ⟨⟨r1.trans pr.k.e,r2.trans pr.k.t,r3.trans pr.k.s,fun z=>?_,fun _ q hq=>?_,fun q=>?_⟩,⟨by rw[r3,r4];exact pr.c.si,by rw[r5];exact pr.c.wa,by rw[r6];exact pr.c.ga,by rw[r3,r5,r6];exact pr.c.due⟩,⟨fun _ q p t hp hj=>?_,fun _=>?_⟩⟩).mono<|by omega,⟨rfl,rfl,rfl,rfl,rfl,.refl _,.refl _⟩,fun _ z=>z,rfl,rfl⟩
  ·rw[r3]at z;omega
  ·rw[FO x m.q 1 hm.q.1 l9 q];by_cases e:(q:Int)=m.q
   ·rw[if_pos e,e];have e2:m.t=(aY L m.p).t:=by rw[hi,<-pr.k.t];exact he.symm
    have:=hm.ps e2;rw[hi]at this;exact⟨fun _=>this,fun _=>by omega⟩
   ·rw[if_neg e];exact pr.k.some (by omega) q hq
  ·rw[FO x m.q 1 hm.q.1 l9 q,r3];have:=pr.k.eG q;split
   ·omega
   ·exact this
  ·rw[FO x m.q 1 hm.q.1 l9 q];have h2:=pr.p.opn (by omega) q p t hp hj;have ho:=c.opn q p hp _ t hj;split
   ·rename_i e;exact absurd (by rw[hi,hj,<-he,pr.k.t,ho.2.2.2.1])<|ha q p hp e.symm
   ·exact h2
  ·rw[aof x m.q hm.q.1 l9];have Ud:=aog x.aT 2;have bM:=pr.p.CU (by omega);revert ht Ud bM;generalize bF x.aT 2 4=l;intro ht Ud bM e;have ji:∀k∈l,k=m.q:=fun k hk=>by
    have:=(adG.1 e) k hk;simpa using this
   match l,bM,ji,Ud with
   |[a],_,ji,_=>exact ht<|by rw[ji a<|by simp]
   |a::b::l,_,ji,Ud=>
    have ea:=ji a (by simp);have eb:=ji b (by simp);subst ea;subst eb;simp at Ud
def RD(h:HS)(L:List Rc)(l:List Ms):Prop:=∀m∈l,xG h.P h.Q L m/\Nw h.pl m
def Sn.WL{l:List Ms}:∀{N:Nat} {h h':HS} {L:List Rc},Sn N h L->RD h L l->o7 h l h'->∃L',Sn (N+l.length) h' L'/\tY h L h' L'/\h'.pl=h.pl/\h'.fl=h.fl:=by
 induction l with
 |nil=>intro N h h' L c _ a;cases a;exact⟨L,c,.refl _ _,rfl,rfl⟩
 |cons m l ih=>
  intro N h h' L c ok a;cases a with
  |cons hi hx a rest=>
   obtain⟨o1,o2⟩:=ok m (by simp);obtain⟨L1,c1,w1,mk,p1,f1⟩:=c.kC o1 o2 hi hx a;obtain⟨L2,c2,w2,p2,f2⟩:=ih c1 (fun m' BU=>by
    obtain⟨o3,o4⟩:=ok m' (by simp[BU]);rw[w1.P,w1.Q,p1];exact⟨mk m' o3,o4⟩) rest
   exact⟨L2,by rw[ny,Nat.add_comm l.length 1,<-yL];exact c2,w1.trans w2,p2.trans p1,f2.trans f1⟩
def ah4{i t:Int}{b:Bool}:∀(qs:List Int) {l:List Ms},(∀m∈l,fM L m.p m.t m.c)->fM L i t b->∀m∈uG l i t b qs,fM L m.p m.t m.c
 |[],_,hl,_=>hl
 |q::qs,l,hl,hd=>ah4 qs (l:=rq l ⟨1,q,i,t,b⟩) (fun m hm=>by
   rcases ZU hm with hm|rfl
   ·exact hl m hm
   ·exact hd) hd
def Sn.look(c:Sn N h L)(hu:h.up=true)(hi:(i:Int)<h.P)(hx:h.ps[i]? =ae x)(l:uH h i x ok h'):ok=true/\∃L',Sn (N+1) h' L'/\tY h L h' L'/\h'.pl=h.pl:=by
 have pr:=c.up hu i x hx;have s2:=pr.c.si;have hT:=c.T1;have hK:=c.K1;cases l with
 |vI hs ht=>exact⟨rfl,L,(c.dE hu (i:=i) (x':={x with si:=x.si+1}) ⟨⟨pr.k.e,pr.k.t,pr.k.s,pr.k.none,pr.k.some,pr.k.eG⟩,⟨by simp only;omega,pr.c.wa,pr.c.ga,pr.c.due⟩,⟨pr.p.opn,pr.p.CU⟩⟩).mono<|by omega,⟨rfl,rfl,rfl,rfl,rfl,.refl _,.refl _⟩,rfl⟩
 |idle=>exact⟨rfl,L,c.mono<|by omega,.refl _ _,rfl⟩
 |timeout hs ht hw=>
  have hn:=c.abB hu hi hx hs<|.inl rfl;cases hw with
  |sD jv hb=>
   have iG:h.br=true:=hb;rw[c.br]at iG;cases iG
  |ok jv hb=>
   have c1:=c.wrote hu hn (fun e=>by simp at e) jv;have hd:({x with si:=x.si+1}:PS).bJ ⟨3,i,0,x.t⟩={x.bJ ⟨3,i,0,x.t⟩with si:=x.si+1}:=by simp[PS.bJ]
   have kQ:i<h.ps.length:=(dD.1 hx).1;have e:jE (h.ps.set i {x with si:=x.si+1}) ⟨3,i,0,x.t⟩=(jE h.ps ⟨3,i,0,x.t⟩).set i {x.bJ ⟨3,i,0,x.t⟩with si:=x.si+1}:=by
    have hg:(h.ps.getD i oQ)=x:=by rw[Pz,hx];rfl
    simp only[jE,MR,List.set_set,<-hd];rw[Pz,mD kQ];rfl
   have gq:(jE h.ps ⟨3,i,0,x.t⟩)[i]? =ae (x.bJ ⟨3,i,0,x.t⟩):=by
    have hg:(h.ps.getD i oQ)=x:=by rw[Pz,hx];rfl
    simp only[jE,MR,hg];exact mD kQ
   have Dn:=c1.up hu i _ gq;refine⟨rfl,L++[⟨3,i,0,x.t⟩],?_,⟨rfl,rfl,rfl,rfl,rfl,.one<|.inr ⟨rfl,rfl⟩,.refl _⟩,rfl⟩;have hsd:(x.bJ ⟨3,i,0,x.t⟩).s=3:=by simp[PS.bJ]
   have:=c1.dE hu (i:=i) (x':={x.bJ ⟨3,i,0,x.t⟩with si:=x.si+1}) ⟨⟨Dn.k.e,Dn.k.t,Dn.k.s,Dn.k.none,Dn.k.some,Dn.k.eG⟩,⟨⟨by simp only;omega,by simp only;omega,fun z=>by have z':(x.bJ ⟨3,i,0,x.t⟩).s<=1:=z;omega⟩,Dn.c.wa,Dn.c.ga,Dn.c.due⟩,⟨Dn.p.opn,Dn.p.CU⟩⟩;show Sn (N+1) {(h.dE i {x with si:=x.si+1}).oU jv (ed<|dL ⟨3,i,0,x.t⟩)with ps:=jE (h.ps.set i {x with si:=x.si+1}) ⟨3,i,0,x.t⟩} _;rw[e];exact this
 |rem hs hr=>
  have du:=pr.c.due (by omega);have wa:=pr.c.wa;have ga:=pr.c.ga;cases hr with
  |wait hw=>exact⟨rfl,L,(c.dE hu (i:=i) (x':={x with wa:=x.wa-1}) ⟨⟨pr.k.e,pr.k.t,pr.k.s,pr.k.none,pr.k.some,pr.k.eG⟩,⟨pr.c.si,by simp only;omega,ga,fun _=>by simp only;omega⟩,⟨pr.p.opn,pr.p.CU⟩⟩).mono<|by omega,⟨rfl,rfl,rfl,rfl,rfl,.refl _,.refl _⟩,rfl⟩
  |due fv hw=>
   have ks:=pr.k.s;have kt:=pr.k.t;have hf:=c.valid.qY i;have hn:Sn N (h.gp fv<|uG h.fl i x.t (x.s==2)<|bF x.aT 2 4) L:=by
    refine c.ZX fv (agm _ _ _ _ c.fl) (tX.agn _ c.ms fun q hq=>?_)<|ah4 _ c.dec ?_
    ·obtain⟨k,wY,rfl,h2⟩:=ND.1 hq;have eF:=(pr.k.some (by omega) k wY).1 (by omega);have hb:=hf.ps _ eF;exact⟨.inl rfl,hb,⟨by simp only;omega,hi⟩,⟨by simp only;have:=hf.t0;omega,by simp only;omega⟩,fun _=>by simp only;omega,fun _=>eF⟩
    ·have:=(c.valid.NC i).now (by omega);rw[kt,ks,show((aY L i).s==2)=decide ((aY L i).s=2)from rfl];exact this
   refine⟨rfl,L,((hn.dE (i:=i) (x':={x with wa:=x.ga,ga:=min (2*x.ga) h.K}) hu ⟨⟨pr.k.e,pr.k.t,pr.k.s,pr.k.none,pr.k.some,pr.k.eG⟩,⟨pr.c.si,ga,by simp only;omega,fun _=>by simp only;show(1<=x.ga/\x.ga<=h.K)/\1<=min (2*x.ga) h.K/\min (2*x.ga) h.K<=h.K;omega⟩,⟨pr.p.opn,pr.p.CU⟩⟩).mono<|by omega),⟨rfl,rfl,rfl,rfl,rfl,.refl _,.refl _⟩,rfl⟩
def Sn.Oq(c:Sn N h L)(hu:h.up=true)(t:qj h j h'):(j:Int)<=h.P->∃L',Sn (N+j) h' L'/\tY h L h' L'/\h'.pl=h.pl:=by
 induction t with
 |zero=>intro _;exact⟨L,c,.refl _ _,rfl⟩
 |succ _ hx l ih=>
  intro hj;obtain⟨L1,c1,w1,p1⟩:=ih (by omega);obtain⟨_,L2,c2,w2,p2⟩:=c1.look (w1.up.trans hu) (by rw[w1.P];omega) hx l;exact⟨L2,c2,w1.trans w2,p2.trans p1⟩
def Sn.tick(c:Sn N h L)(hu:h.up=true)(t:Nz h ok h'):ok=true/\∃L',Sn (N+6) h' L'/\tY h L h' L'/\h'.pl=h.pl:=by
 have:=c.P1;cases t with
 |all t=>
  obtain⟨L1,c1,w1,p1⟩:=c.Oq hu t (by omega);exact⟨rfl,L1,c1.mono<|by omega,w1,p1⟩
 |sD hj t hx l=>
  obtain⟨L1,c1,w1,p1⟩:=c.Oq hu t (by omega);have:=(c1.look (w1.up.trans hu) (by rw[w1.P];omega) hx l).1;cases this
def Sn.ah5(c:Sn N h L)(hN:N<=90000000)(hu:h.up=true){h1:HS}(hj:j<h.P.toNat)(t:qj h j h1)(hx:h1.ps[j]? =ae x):x.CJ/\lM h1 ⟨3,j,0,x.t⟩:=by
 have:=c.P1;obtain⟨L1,c1,w1,p1⟩:=c.Oq hu t (by omega);have pr:=c1.up (w1.up.trans hu) j x hx;have:=pr.c.si;have:=pr.c.wa;have:=pr.c.ga;exact⟨⟨by omega,by omega,by omega⟩,c1.abC (by omega) (.inl rfl) (.inl rfl) (by rw[w1.P];omega) hx⟩
end
end
section
open _root_.Go.Proofs.YtkelpcjiediamaaGreat.Twin (xW jT dU Ad Ac HS.taken)
section
variable{N:Nat}{h h2 h3:HS}{L:List Rc}{fE:List PL}
def atu(ms:List Ms)(pl:List PL):(jT ms pl).length<=ms.length:=by
 refine dP ?_ (atm [] ms pl.length 0);unfold jT WJ;rw[iQ];refine dP ?_ (UF _ _);generalize List.range pl.length=l;induction l with
 |nil=>simp
 |cons q l ih=>
  simp only[nZ,iQ];refine Nat.add_le_add ?_ ih;simp only[List.getElem?_nil];split
  ·split
   ·simp
   ·exact bV _
  ·simp
def WM(ms:List Ms)(pl:List PL):(dU ms++jT ms pl).length<=2*ms.length:=by
 have h1:(dU ms).length<=ms.length:=Fj _ _;have h2:=atu ms pl;rw[iQ];omega
def LK.I7:∀(l:List Ms) {N:Nat} {s:aA},LK N L s->(∀m∈l,dQ m.p/\dQ m.t/\fM L m.p m.t m.c)->LK (N+l.length) L (I7 l s)/\Ext s (I7 l s)/\(I7 l s).data=s.data
 |[],_,_,k,_=>⟨k,.refl _,rfl⟩
 |m::l,N,s,k,ho=>by
  obtain⟨o1,o2,o3⟩:=ho m (by simp);obtain⟨h1,h2,h3⟩:=LK.I7 l (k.closed o1 o2 o3) fun m' BU=>ho m' (by simp[BU]);exact⟨by rw[ny,Nat.add_comm l.length 1,<-yL];exact h1,(Y0 k.inv _ _ _ o1 o2).2.trans h2,h3.trans aft⟩
def Sn.taken(c:Sn N h L)(hN:N<=90000000)(hs:Ad h h.fl fE):Sn (N+100) (HS.taken h fE) L/\sF h.pl fE/\∀(q:Nat) (p':PL),fE[q]? =ae p'->∃p,h.pl[q]? =ae p/\∀i t,p'.s.nw i=ae (t,true)->p.s.nw i=ae (t,true)/\(p.out=false->∀m∈h.fl,m.k=1->m.q=(q:Int)->¬(m.p=i/\m.t=t)):=by
 have key:∀(q:Nat) (p':PL),fE[q]? =ae p'->∃p,h.pl[q]? =ae p/\Gw p p'/\LK (N+100) L p'.s/\∀i t,p'.s.nw i=ae (t,true)->p.s.nw i=ae (t,true)/\(p.out=false->∀m∈h.fl,m.k=1->m.q=(q:Int)->¬(m.p=i/\m.t=t)):=fun q p' hq=>by
  have hl:q<h.pl.length:=by rw[<-hs.len];exact(dD.1 hq).1
  have hp:=dR hl;obtain⟨v',h1⟩:=hs.get q _ hp;rw[hq]at h1;cases h1;have k:=c.dG q _ hp;have e:=atn h.fl q h.pl[q];obtain⟨k1,k2,k3⟩:=LK.I7 (sJ h.fl q) k fun m hm=>by
   obtain⟨h6,_⟩:=JL.1 hm;have:=c.Vp (by omega) (c.ms m h6).1;exact⟨this.1,this.2,c.dec m h6⟩
  have hm:=ati h.fl q;have hf:=c.fl;cases ho:h.pl[q].out with
  |true=>
   rw[ho,if_pos rfl]at e;exact⟨_,hp,⟨by rw[e];exact .refl _,by rw[e]⟩,by rw[e];exact k.mono<|by omega,fun i t z=>⟨by rw[e]at z;exact z,fun z=>by rw[ho]at z;cases z⟩⟩
  |false=>
   rw[ho,if_neg<|by simp]at e;refine⟨_,hp,⟨by rw[e];exact k2,by rw[e];exact k3⟩,by rw[e];exact k1.mono<|by omega,fun i t z=>?_⟩;have z':(xW h.fl q h.pl[q]).nw i=ae (t,true):=z;rw[e]at z';obtain⟨z1,z2⟩:=ahX _ z';exact⟨z1,fun _ m hm h1 h2=>z2 m<|JL.2 ⟨hm,by simp[h1,h2]⟩⟩
 refine⟨⟨c.P1,c.Q1,c.T1,c.K1,c.h6,c.valid,by have:=c.eG;omega,c.jb,c.br,c.kp,fun q p hp i t hi=>?_,fun q p hp=>?_,fun m hm=>by simp[HS.taken]at hm,fun m hm=>by simp[HS.taken]at hm,by simp[HS.taken],fun hu i x hx=>?_,c.dn⟩,⟨hs.len,fun q p hp=>?_⟩,fun q p' hq=>(key q p' hq).imp fun p z=>⟨z.1,z.2.2.2⟩⟩
 ·obtain⟨p0,h0,_,_,hn⟩:=key q p hp;exact c.opn q p0 h0 i t (hn i t hi).1
 ·obtain⟨p0,h0,_,hk,_⟩:=key q p hp;exact hk
 ·have pr:=c.up hu i x hx;refine⟨pr.k,pr.c,fun h2 q p t hp hi=>?_,pr.p.CU⟩;obtain⟨p0,h0,_,_,hn⟩:=key q p hp;exact pr.p.opn h2 q p0 t h0 (hn _ t hi).1
 ·have hl:q<fE.length:=by rw[hs.len];exact(dD.1 hp).1
  have hq:=dR hl;obtain⟨p0,h0,g,_⟩:=key q _ hq;rw[hp]at h0;cases h0;exact⟨_,hq,g⟩
def Sn.oz(c:Sn N h L)(hN:N<=90000000)(hs:Ad h h.fl fE):RD (HS.taken h fE) L (dU h.fl++jT h.fl h.pl):=by
 obtain⟨_,_,key⟩:=c.taken hN hs;intro m hm;rcases og.1 hm with hm|hm
 ·obtain⟨h1,h2⟩:=JL.1 hm;have mo:=c.ms m h1;refine⟨mo.1,fun q p' hq RF hi=>?_⟩;obtain⟨p,hp,hn⟩:=key q p' hq;exact mo.2 (by simpa using h2) q p hp RF (hn _ _ hi).1
 ·unfold jT at hm;obtain⟨q0,qV,hm⟩:=YJ.1 hm;have SV:q0<h.pl.length:=Ic.1 qV;rw[dR SV]at hm;simp only at hm;split at hm
  ·simp at hm
  ·rename_i ho;obtain⟨x,hx,rfl⟩:=Ie.1 hm;obtain⟨h1,h2⟩:=JL.1 hx;have OY:x.k=1/\x.q=(q0:Int):=by simpa using h2
   have mo:=(c.ms x h1).1;refine⟨⟨.inr rfl,mo.q,mo.p,mo.t,mo.s,mo.ps⟩,fun q p' hq RF hi=>?_⟩;have az9:x.q=(q:Int):=RF;have hqq:q=q0:=by omega
   subst hqq;obtain⟨p,hp,hn⟩:=key q p' hq;rw[dR SV]at hp;cases hp;exact(hn _ _ hi).2 (by simpa using ho) x h1 OY.1 OY.2 ⟨rfl,rfl⟩
def Sn.round(c:Sn N h L)(hN:N<=90000000)(hs:Ad h h.fl fE)(kr:o7 (HS.taken h fE) (dU h.fl++jT h.fl h.pl) h2)(tk:Ac h2 h3):∃L',Sn (N+306) h3 L'/\tY h L h3 L':=by
 obtain⟨c1,g1,_⟩:=c.taken hN hs;obtain⟨L2,c2,w2,p2,f2⟩:=c1.WL (c.oz hN hs) kr;have hl:=WM h.fl h.pl;have hf:=c.fl;have w12:tY h L h2 L2:=⟨w2.P,w2.Q,w2.T,w2.K,w2.up,w2.qt,g1.trans w2.grow⟩;have c2':=c2.mono (M:=N+300) (by omega);cases tk with
 |down hu=>exact⟨L2,c2'.mono<|by omega,w12⟩
 |up hu t=>
  obtain⟨_,L3,c3,w3,_⟩:=c2'.tick hu t;exact⟨L3,c3,w12.trans w3⟩
def RD.take{A:List Ms}(ok:RD h L A)(k:Nat):RD h L (A.take k):=fun m hm=>ok m<|List.mem_of_mem_take hm
variable{j:Nat}{m:Ms}
def Sn.atv(c:Sn N h L)(hN:N<=90000000)(hs:Ad h h.fl fE)(kr:o7 (HS.taken h fE) ((dU h.fl++jT h.fl h.pl).take j) h2)(hm:(dU h.fl++jT h.fl h.pl)[j]? =ae m):∃(i:Nat) (x:PS) (q:Nat),m.p=(i:Int)/\i<6/\h2.ps[i]? =ae x/\m.q=(q:Int)/\q<4/\lM h2 ⟨4,i,0,x.t⟩:=by
 obtain⟨c1,_,_⟩:=c.taken hN hs;have ok:=c.oz hN hs;obtain⟨L2,c2,w2,_,_⟩:=c1.WL (ok.take j) kr;obtain⟨o1,_⟩:=ok m<|fD hm;have hl:=WM h.fl h.pl;have hf:=c.fl;have ht:((dU h.fl++jT h.fl h.pl).take j).length<=200:=by rw[JK];omega
 have hp:0<=m.p/\m.p<h.P:=o1.p;have hq:0<=m.q/\m.q<h.Q:=o1.q;have:=c.P1.2;have:=c.Q1.2;obtain⟨i,hi⟩:=vw hp.1;obtain⟨q,hqq⟩:=vw hq.1;have kQ:i<h2.ps.length:=by rw[c2.h6];omega
 exact⟨i,h2.ps[i],q,hi,by omega,dR kQ,hqq,by omega,c2.abC (by omega) (.inr rfl) (.inl rfl) (by rw[w2.P];show(i:Int)<h.P;omega)<|dR kQ⟩
def Sn.atw(c:Sn N h L)(hN:N<=80000000)(hs:Ad h h.fl fE)(kr:o7 (HS.taken h fE) (dU h.fl++jT h.fl h.pl) h2)(hu:h2.up=true){h1:HS}{x:PS}(hj:j<h2.P.toNat)(t:qj h2 j h1)(hx:h1.ps[j]? =ae x):x.CJ/\lM h1 ⟨3,j,0,x.t⟩:=by
 obtain⟨c1,_,_⟩:=c.taken (by omega) hs;obtain⟨L2,c2,w2,_,_⟩:=c1.WL (c.oz (by omega) hs) kr;have hl:=WM h.fl h.pl;have hf:=c.fl;exact c2.ah5 (by omega) hu hj t hx
def tX.atx{pl:List PL}{P Q:Int}{F:List Ms}(hm:tX pl P Q L F)(k:Nat):tX pl P Q L (F.eraseIdx k):=fun m hx=>hm m<|List.mem_of_mem_eraseIdx hx
def Sn.drop(c:Sn N h L)(fv:aj)(k:Nat):Sn N (h.gp fv<|h.fl.eraseIdx k) L:=
 c.ZX fv (dP (List.length_eraseIdx_le ..) c.fl) (c.ms.atx k) fun m hm=>c.dec m<|List.mem_of_mem_eraseIdx hm
def Sn.send(c:Sn N h L)(fv:aj)(mo:xG h.P h.Q L m)(ma:m.k=2->Nw h.pl m)(hd:fM L m.p m.t m.c):Sn N (h.gp fv<|rq h.fl m) L:=
 c.ZX fv (afl c.fl m) (c.ms.send mo ma) fun x hx=>by
  rcases ZU hx with hx|rfl
  ·exact c.dec x hx
  ·exact hd
def Sn.copy(c:Sn N h L)(fv:aj)(hm:m∈h.fl):Sn N (h.gp fv<|rq h.fl m) L:=c.send fv (c.ms m hm).1 (c.ms m hm).2<|c.dec m hm
def Sn.marked(c:Sn N h L)(hN:N<=90000000){k:Nat}(hk:h.fl[k]? =ae m){q:Nat}{p:PL}(hq:m.q=(q:Int))(hp:h.pl[q]? =ae p)(fv v' iL:aj):
 Sn (N+1) (((h.gp fv<|h.fl.eraseIdx k).gy q ⟨p.lb,p.bm,v',p.s.closed m.p m.t m.c,p.out⟩).gp iL<|rq (h.fl.eraseIdx k) m.kC) L/\tY h L (((h.gp fv<|h.fl.eraseIdx k).gy q ⟨p.lb,p.bm,v',p.s.closed m.p m.t m.c,p.out⟩).gp iL<|rq (h.fl.eraseIdx k) m.kC) L:=by
 have hm:=fD hk;have mo:=(c.ms m hm).1;obtain⟨c1,g1⟩:=(c.drop fv k).shut (by omega) hp v' mo<|c.dec m hm;obtain⟨a1,a2⟩:=aoe (pl:=h.pl) (v':=v') (p:=p) mo hq;exact⟨c1.send iL a1 (fun _=>a2)<|c.dec m hm,⟨rfl,rfl,rfl,rfl,rfl,.refl _,sF.set hp g1⟩⟩
def tY.WN(fv:aj)(l:List Ms):tY h L (h.gp fv l) L:=⟨rfl,rfl,rfl,rfl,rfl,.refl _,.refl _⟩
end
end
section
section
variable{N:Nat}{h h1:HS}{L:List Rc}
variable{i q:Nat}{x:PS}{s:aA}{t:Int}{p:PL}{ts:ByteArray}
def Sn.aty(c:Sn N h L)(hu:h.up=true)(hi:(i:Int)<h.P)(hx:h.ps[i]? =ae x):Next h.P h.Q L ⟨1,i,0,x.e+1⟩:=
 ⟨by simp only;omega,hi,.inl ⟨rfl,rfl,by simp only;rw[(c.up hu i x hx).k.e]⟩⟩
def Sn.atz(c:Sn N h L)(hu:h.up=true)(hi:(i:Int)<h.P)(hq:(q:Int)<h.Q)(hx:h.ps[i]? =ae x)(hs:x.s=0\/x.s=1)(ht:x.aT.getD q 0=0):Next h.P h.Q L ⟨2,i,q,x.next⟩:=by
 have k:=(c.up hu i x hx).k;have ks:=k.s;have kt:=k.t;have:=c.Q1.2;refine⟨by simp only;omega,hi,.inr<|.inl ⟨rfl,⟨by simp only;omega,hq⟩,?_⟩⟩;simp only[PS.next];rcases hs with hs|hs
 ·exact .inl ⟨by omega,by rw[if_pos hs,kt]⟩
 ·refine .inr ⟨by omega,by rw[if_neg<|by omega,kt],fun eF=>?_⟩;have:=(k.some (by omega) q<|by omega).2 eF;omega
def PR.heard{pl:List PL}{T K:Int}{z:St}{i:Int}(p:PR pl T K z i x)(hT:1<=T):PR pl T K z i {x with si:=0}:=
 ⟨⟨p.k.e,p.k.t,p.k.s,p.k.none,p.k.some,p.k.eG⟩,⟨⟨Int.le_refl 0,by simp,fun _=>by simp only;omega⟩,p.c.wa,p.c.ga,p.c.due⟩,⟨p.p.opn,p.p.CU⟩⟩
def abD{i:Int}:(s.opened i t).es=s.es:=by unfold aA.opened;split<;>rfl
def LK.opened(k:LK N L s)(i t:Int):LK (N+1) L (s.opened i t):=⟨(aea k.inv i t).1,by rw[abD];exact k.dec,by rw[abD];have:=k.eG;omega⟩
def Gw.opened(k:LK N L p.s)(v':aj)(i t:Int):Gw p ⟨p.lb,p.bm,v',p.s.opened i t,p.out⟩:=⟨(aea k.inv i t).2,by unfold aA.data;simp only[abD]⟩
def Sn.again(c:Sn N h L)(hu:h.up=true)(v':aj)(hi:(i:Int)<h.P)(hq:(q:Int)<h.Q)(hx:h.ps[i]? =ae x)(hp:h.pl[q]? =ae p)(ht:x.aT.getD q 0≠0)(hs:x.s=0\/x.s=1):
 x.s=1/\Sn (N+1) ((h.gy q ⟨p.lb,p.bm,v',p.s.opened i x.t,p.out⟩).dE i {x with si:=0}) L/\sF h.pl (h.gy q ⟨p.lb,p.bm,v',p.s.opened i x.t,p.out⟩).pl:=by
 have pr:=c.up hu i x hx;have ks:=pr.k.s;have:=c.Q1.2;have G8:x.s=1:=by
  rcases hs with hs|hs
  ·obtain⟨a,b,cc,d⟩:=pr.k.none hs;rw[P8 x q<|by omega]at ht;simp[a,b,cc,d]at ht
  ·exact hs
 have eF:(q:Int)∈(aY L i).ps:=(pr.k.some (by omega) q<|by omega).1 (by have:=(pr.k.eG q).1;omega);have c1:Sn (N+1) (h.gy q ⟨p.lb,p.bm,v',p.s.opened i x.t,p.out⟩) L:=c.gy hp (p':=⟨p.lb,p.bm,v',p.s.opened i x.t,p.out⟩) ((c.dG q p hp).opened _ _) (fun j t hj=>by
  rcases Vk hj with e|⟨e1,e2⟩
  ·exact c.opn q p hp j t e
  ·subst e1 e2;exact⟨by omega,hi,by omega,pr.k.t.symm,eF⟩) (fun j t hj=>(Vk hj).imp id fun⟨e1,e2⟩=>by subst e1 e2;exact⟨by omega,pr.k.t.symm⟩)
 exact⟨G8,c1.dE hu<|(c1.up hu i x hx).heard c.T1.1,sF.set hp<|Gw.opened (c.dG q p hp) v' i x.t⟩
def Sn.added(c:Sn N h L)(hu:h.up=true)(v':aj)(hi:(i:Int)<h.P)(_:(q:Int)<h.Q)(hx:h.ps[i]? =ae x)(hp:h.pl[q]? =ae p)(hn:Next h.P h.Q L ⟨2,i,q,x.next⟩){ok:Bool}(ho:jo h ⟨2,i,q,x.next⟩ ok h1):
 ok=true/\Sn (N+2) ((h1.gy q ⟨p.lb,p.bm,v',p.s.opened i x.next,p.out⟩).dE i {x.bJ ⟨2,i,q,x.next⟩with si:=0}) (L++[⟨2,i,q,x.next⟩])/\sF h.pl (h1.gy q ⟨p.lb,p.bm,v',p.s.opened i x.next,p.out⟩).pl/\h1.up=true/\h1.P=h.P/\h1.Q=h.Q/\h1.T=h.T/\h1.K=h.K:=by
 obtain⟨e,c1,jv,rfl⟩:=c.J9 hu hn (fun e=>by simp at e) ho;have kQ:i<h.ps.length:=(dD.1 hx).1;have gq:(jE h.ps ⟨2,i,q,x.next⟩)[i]? =ae (x.bJ ⟨2,i,q,x.next⟩):=by
  have hg:(h.ps.getD i oQ)=x:=by rw[Pz,hx];rfl
  simp only[jE,MR,hg];exact mD kQ
 have bU:(aY (L++[⟨2,i,q,x.next⟩]) i).s=1/\(aY (L++[⟨2,i,q,x.next⟩]) i).t=x.next/\(q:Int)∈(aY (L++[⟨2,i,q,x.next⟩]) i).ps:=by
  rw[xE];simp[St.step]
 have sW:({h.oU jv (ed<|dL ⟨2,i,q,x.next⟩)with ps:=jE h.ps ⟨2,i,q,x.next⟩}:HS).pl[q]? =ae p:=hp;have c2:=c1.gy sW (p':=⟨p.lb,p.bm,v',p.s.opened i x.next,p.out⟩) ((c1.dG q p hp).opened _ _) (fun j t hj=>by
  rcases Vk hj with e|⟨e1,e2⟩
  ·exact c1.opn q p hp j t e
  ·subst e1 e2;exact⟨by omega,hi,by omega,bU.2.1,bU.2.2⟩) (fun j t hj=>(Vk hj).imp id fun⟨e1,e2⟩=>by subst e1 e2;exact⟨bU.1,bU.2.1⟩)
 exact⟨e,c2.dE hu<|(c2.up hu i _ gq).heard c.T1.1,sF.set hp<|Gw.opened (c.dG q p hp) v' i x.next,hu,rfl,rfl,rfl,rfl⟩
def WO{i:Int}(hc:s.nD i t ts=0):(s.kH i t ts).es=s.es++[⟨1,i,t,ts⟩]:=by
 unfold aA.kH;rw[if_pos hc];rfl
def atA{i:Int}(hc:s.nD i t ts=0):(s.kH i t ts).data=s.data++[⟨1,i,t,ts⟩]:=by
 unfold aA.data;rw[WO hc,yJ];rfl
def atB{i:Int}(hc:s.nD i t ts≠0):s.kH i t ts=s:=by
 unfold aA.kH;rw[if_neg hc]
def Sn.put(c:Sn N h L)(hN:N<=100000000)(hu:h.up=true)(v':aj)(hi:(i:Int)<h.P)(hx:h.ps[i]? =ae x)(hp:h.pl[q]? =ae p)(hc:p.s.nD i x.t ts=0):
 Sn (N+1) ((h.gy q ⟨p.lb,p.bm,v',p.s.kH i x.t ts,p.out⟩).dE i {x with si:=0}) L/\Ext p.s (p.s.kH i x.t ts):=by
 have pr:=c.up hu i x hx;have hf:=c.valid.qY i;have JI:=c.eG;have jw:=c.P1.2;have hI:dQ (i:Int):=J3 (by omega) (by omega);have hT:dQ x.t:=by rw[pr.k.t];exact J3 (by have:=hf.t0;omega) (by have:=hf.t1;omega)
 have k:=c.dG q p hp;obtain⟨k1,k2⟩:=alR k.inv i x.t ts hI hT;have hs:=c.Qr hp (s':=p.s.kH i x.t ts) fun j t z=>by rw[anS]at z;exact z
 have c1:=c.gy hp (p':=⟨p.lb,p.bm,v',p.s.kH i x.t ts,p.out⟩) ⟨k1,fun e he hk=>by
  rw[WO hc]at he;rcases og.1 he with he|he
  ·exact k.dec e he hk
  ·rw[nY.1 he]at hk;exact absurd rfl hk,by rw[WO hc];have:=k.eG;simp<;>omega⟩ hs.1 hs.2
 exact⟨c1.dE hu<|(c1.up hu i x hx).heard c.T1.1,k2⟩
def Sn.atC(c:Sn N h L)(v':aj){s':aA}(hp:h.pl[q]? =ae p)(e:s'=p.s):Sn (N+1) (h.gy q ⟨p.lb,p.bm,v',s',p.out⟩) L/\sF h.pl (h.gy q ⟨p.lb,p.bm,v',s',p.out⟩).pl:=by
 subst e;have hs:=c.Qr hp (s':=p.s) fun _ _ z=>z;exact⟨c.gy hp (p':=⟨p.lb,p.bm,v',p.s,p.out⟩) ((c.dG q p hp).mono<|by omega) hs.1 hs.2,sF.set hp ⟨.refl _,rfl⟩⟩
def Sn.abE(c:Sn N h L):Sn N h.zS L:=
 ⟨c.P1,c.Q1,c.T1,c.K1,rfl,c.valid,c.eG,c.jb,rfl,by simp[HS.zS],c.opn,c.dG,c.ms,c.dec,c.fl,(fun e=>by cases e),fun _=>rfl⟩
def Sn.abG(c:Sn N h L)(jv:aj):Sn N (h.FY jv L) L:=by
 refine⟨c.P1,c.Q1,c.T1,c.K1,UU L,c.valid,c.eG,rfl,c.br,c.kp,c.opn,c.dG,c.ms,c.dec,c.fl,fun _ i x hx=>?_,fun e=>by cases e⟩;have xq:(replay L)[i]? =ae x:=hx;have jw:i<6:=by rw[<-UU L];exact(dD.1 xq).1
 obtain⟨x',pG,hr⟩:=c.valid.replay c.Q1.2 i jw;rw[pG]at xq;obtain rfl:=qE xq;have hf:=c.valid.qY i;have hQ4:=c.Q1.2;have fin:=anP (Int.le_refl 0) L _<|fD pG;have hT:=c.T1.1;have hK:=c.K1;have h4:∀q:Int,q∈(aY L i).ps->∃n:Nat,q=n/\n<4:=fun q hq=>by
  have:=hf.ps q hq;exact⟨q.toNat,by omega,by omega⟩
 refine⟨⟨hr.e,hr.t,hr.s,hr.none,fun h0 q hq=>?_,fun q=>?_⟩,⟨⟨by rw[hr.si];simp,by rw[hr.si];simp,fun _=>by rw[hr.si];show 0<h.T;omega⟩,by have:=fin.wa;omega,fin.ga,fun h2=>by obtain⟨_,e1,e2⟩:=hr.two h2;rw[e1,e2];show((1:Int)<=1/\1<=h.K)/\(1:Int)<=1/\1<=h.K;omega⟩,⟨fun h2 q p t hp hj=>?_,fun h2=>?_⟩⟩
 ·have hs:=hr.s;have x8:=hf.s0;rcases(show x'.s=1\/2<=x'.s by omega)with e|e
  ·rw[hr.one e q hq];by_cases eF:(q:Int)∈(aY L i).ps
   ·rw[if_pos eF];exact⟨fun _=>eF,fun _=>by decide⟩
   ·rw[if_neg eF];exact⟨fun z=>absurd z<|by decide,fun z=>absurd z eF⟩
  ·rw[(hr.two e).1 q hq];by_cases eF:(q:Int)∈(aY L i).ps
   ·rw[if_pos eF];exact⟨fun _=>eF,fun _=>by decide⟩
   ·rw[if_neg eF];exact⟨fun z=>absurd z<|by decide,fun z=>absurd z eF⟩
 ·by_cases hq:q<4
  ·have hs:=hr.s;have x8:=hf.s0;rcases(show x'.s=0\/x'.s=1\/2<=x'.s by omega)with e|e|e
   ·obtain⟨a,b,cc,d⟩:=hr.none e;rw[P8 x' q hq];simp[a,b,cc,d]
   ·rw[hr.one e q hq];split<;>omega
   ·rw[(hr.two e).1 q hq];split<;>omega
  ·rw[P9 x' q<|by omega];omega
 ·have eF:=(c.opn q p hp i t hj).2.2.2.2;obtain⟨n,e,hn⟩:=h4 _ eF;have:q=n:=by omega
  subst this;rw[(hr.two h2).1 q hn,if_pos eF]
 ·obtain⟨q,l,hq⟩:=List.exists_cons_of_ne_nil (c.valid.parts i (by have:=hr.s;omega));have eF:q∈(aY L i).ps:=by rw[hq];simp
  obtain⟨n,rfl,hn⟩:=h4 _ eF;exact List.ne_nil_of_mem<|ND.2 ⟨n,hn,rfl,by rw[(hr.two h2).1 n hn,if_pos eF];decide⟩
end
end
end Go.Proofs.YtkelpcjiediamaaGreat
