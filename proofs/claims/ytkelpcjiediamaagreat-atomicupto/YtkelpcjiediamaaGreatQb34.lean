import Derived.Test.YtkelpcjiediamaaGreatQb33
set_option maxRecDepth 100000
set_option maxHeartbeats 0
set_option linter.all false
namespace Go.Proofs.YtkelpcjiediamaaGreat
open Go renaming Program→dO,TypeId→bW,Value→aj,World→ah,maxLen→dH,undef→ag
open Option renaming none→af,some→ae
open Go.Proofs.Tryz
namespace Twin
open Go Go.Proofs Go.Conc Go.RowKit Go.Maps
variable{S:aC}{E:cO}{w w1:ah}{a:Addr}{x:aj}{b:Nat}{cs:Array aj}{t:bW}
def mJ(h:w.cell? a=ae x)(hr:E.rd a.block)(hk:aQ S E w w1):w1.cell? a=ae x:=(aB4<|hk.ro _<|E.le _ hr).trans h
def Dh{S':aC}{w':ah}(h:w.cell? a=ae x)(hr:E.rd a.block)(hn:¬S a.block)(hk:jL S E w S' w'):w'.cell? a=ae x:=(aB4<|hk.ro _ (E.le _ hr) (mX h) hn).trans h
def dN.alloc(h:dN S w b cs t)(o:Obj):dN (grow S w<|w.alloc o) (w.alloc o) b cs t:=⟨.inl h.1,by rw[aB3 w o b (iU.1 h.2).1];exact h.2⟩
def dN.new(S:aC)(w:ah)(cs:Array aj)(t:bW):dN (grow S w<|w.alloc<|.cells cs t) (w.alloc<|.cells cs t) w.heap.size cs t:=⟨.inr ⟨bV _,by simp⟩,aB0 _ _⟩
def gB.alloc{B lb bm n:Nat}{v:aj}{s:aA}(h:gB S w B lb bm n v s)(o:Obj):gB (grow S w<|w.alloc o) (w.alloc o) B lb bm n v s:=
 h.QZ fun _ hb=>aB3 w o _<|h.log.rV hb
def Gy(hS:∀b,S b->b<w.heap.size)(o:Obj):∀b,(grow S w<|w.alloc o) b->b<(w.alloc o).heap.size:=fun b hb=>by
 rcases hb with hb|hb
 ·have:=hS b hb;simp<;>omega
 ·exact hb.2
def wS(hS:∀b,S b->b<w.heap.size)(hk:aQ S E w w1):∀b,S b->b<w1.heap.size:=fun b hb=>dY (hS b hb) hk.size
def dN.cell(h:dN S w b cs t){o:Nat}(hx:cs[o]? =ae x):w.cell? ⟨b,o,af⟩=ae x:=by rw[aG h.2];exact hx
def dN.set(h:dN S w b cs t)(o:Nat)(u:aj):dN S (w.setCell ⟨b,o,af⟩ u) b (cs.setIfInBounds o u) t:=⟨h.1,jQ h.2 o u⟩
def aa8(P:dO)(w:ah)(es:Array Event)(a:Addr)(m:Mode)(x:Bool):(store a (.bool x) m).events P w es=storedEv P w es a (.bool x) m:=events_store P w es a _ m rfl
structure nN(S:aC)(w w':ah):Prop where
 tape:w'.tape=w.tape
 os:w'.os=w.os
 output:w'.output=w.output
 size:w'.heap.size=w.heap.size
 still:∀b,¬S b->w'.heap[b]? =w.heap[b]?
 ok:∀s:Nat->Prop,ai.jG (ai.uh s) w->ai.jG (ai.uh s) w'
def nN.refl(S:aC)(w:ah):nN S w w:=⟨rfl,rfl,rfl,rfl,fun _ _=>rfl,fun _ h=>h⟩
variable{w':ah}{B lb bm n pb po:Nat}{v:aj}{s:aA}
def nN.set(h:nN S w w')(hb:S b)(o:Nat)(u:aj)(hu:VV u=true:=by rfl):nN S w (w'.setCell ⟨b,o,af⟩ u):=⟨h.tape,h.os,h.output,by simpa using h.size,fun x hx=>(aB5 w' ⟨b,o,af⟩ u x fun e=>hx<|e▸hb).trans<|h.still x hx,fun B hw=>(h.ok B hw).setCell<|agr hu⟩
def nN.mG{es:Array Event}(h:nN S w w')(dI:∀e∈es,lT S E e):iO S E w w' es:=⟨h.tape,h.os,h.output,AU h.size.symm,fun b _ hb=>h.still b hb,fun e he=>by rw[rD<|AU h.size];exact dI e he,fun B _ _ hw=>h.ok B hw⟩
def nN.mono{T:aC}(h:nN S w w')(hT:∀b,S b->T b):nN T w w':=⟨h.tape,h.os,h.output,h.size,fun b hb=>h.still b fun x=>hb<|hT b x,h.ok⟩
def nN.grow{T:aC}(h:nN S w w'):grow T w w'=T:=rD<|AU h.size
def dN.free(h:dN S w b cs t)(o:Nat):w.frozen? ⟨b,o,af⟩=false:=jP h.2 o
def aqT(h:gB S w B lb bm n v s)(hS:∀b,S b->b<w.heap.size)(rH:E.rd pb)(c1:w.cell? ⟨pb,po+1,af⟩=ae (.bool true))(m:Ms):
 qN prog false E 141 #[.pointer<|ae ⟨pb,po,af⟩,.agg #[.int .i64 m.k,.int .i64 m.q,.int .i64 m.p,.int .i64 m.t,.bool m.c]] S w fun y S' w'=>y=.slice af 0 0/\gB S' w' B lb bm n v s/\jL S E w S' w':=by
 intro b₀ a₀ ops i rest k cs Stop fn c' hf hc D7;obtain rfl:fn=Tryz.f141:=by rw[func141]at hf;exact(qE hf).symm
 obtain rfl:c'=(Tryz.f141.body.getD .skip):=by rw[hc];rfl
 simp only[Tryz.f141,gQ];walk_nrm;refine au.sq ?_;refine au.reg [0,1] rfl ?_;refine au.jM rfl rfl (by decide) fun w1 aI=>?_;refine⟨.pointer<|ae ⟨w1.heap.size,0,af⟩,w1.alloc<|.cells #[.int .i64 m.k,.int .i64 m.q,.int .i64 m.p,.int .i64 m.t,.bool m.c] 119,.inl<|by go_simp,vN (by simp[go_sem])<|uj _,?_⟩;have h2:=(h.aP aI).alloc<|.cells #[.int .i64 m.k,.int .i64 m.q,.int .i64 m.p,.int .i64 m.t,.bool m.c] 119;have XP:=Gy (wS hS aI)<|.cells #[.int .i64 m.k,.int .i64 m.q,.int .i64 m.p,.int .i64 m.t,.bool m.c] 119;have AB:=(QY aI).mG<|uj (E:=E)<|.cells #[.int .i64 m.k,.int .i64 m.q,.int .i64 m.p,.int .i64 m.t,.bool m.c] 119;have Pm:=dN.new S w1 #[.int .i64 m.k,.int .i64 m.q,.int .i64 m.p,.int .i64 m.t,.bool m.c] 119;have d1:=mJ c1 rH aI;have d1:(w1.alloc<|.cells #[.int .i64 m.k,.int .i64 m.q,.int .i64 m.p,.int .i64 m.t,.bool m.c] 119).cell? ⟨pb,po+1,af⟩=ae (.bool true):=(aB4<|aB3 w1 _ _<|mX d1).trans d1;generalize grow S w1 (w1.alloc<|.cells #[.int .i64 m.k,.int .i64 m.q,.int .i64 m.p,.int .i64 m.t,.bool m.c] 119)=S2 at*
 generalize w1.alloc (.cells #[.int .i64 m.k,.int .i64 m.q,.int .i64 m.p,.int .i64 m.t,.bool m.c] 119)=w2 at*
 generalize ag9:w1.heap.size=mb at*
 walk_nrm;refine au.mu rfl rfl ?_;walk_nrm;refine au.fA ?_;refine au.sq ?_;refine au.sq ?_;refine au.reg [0,1,2,3] rfl ?_;refine au.mu rfl rfl ?_;walk_nrm;refine au.mu rfl rfl ?_;walk_nrm;refine au.mu rfl rfl ?_;walk_nrm;have e1:∀w3,aQ S2 E w2 w3->w3.cell? ⟨pb,po+1,af⟩=ae (.bool true):=fun w3 hk=>mJ d1 rH hk;refine au.val (.bool true) rfl rfl (by decide) (fun w3 jW=>by have hc:=e1 w3 jW;go_simp) (fun w3 jW e he=>?_) ?_
 ·have hc:=e1 w3 jW;simp[go_sem,hc]at he;subst he;exact .inr ⟨rH,rfl⟩
 walk_nrm;refine au.fA ?_;refine au.ctl rfl (fun _=>aCe (t:=true)<|by rfl) ?_;refine au.sq ?_;refine au.reg [0] rfl ?_;refine au.mu rfl rfl ?_;walk_nrm;refine au.fA ?_;refine au.ctl rfl (fun _=>aCi) ?_;refine au.leave1 rfl rfl func141 rfl ?_;walk_nrm;exact D7 _ _ _ ⟨rfl,h2,AB⟩
def aqU(h:gB S w B lb bm n v s)(hS:∀b,S b->b<w.heap.size)(rH:E.rd pb)(hpS:¬S pb)(c0:w.cell? ⟨pb,po,af⟩=ae (ptr lb))(c1:w.cell? ⟨pb,po+1,af⟩=ae (.bool false))(m:Ms)
 (hp:(Lit.int .i64 m.p).wf=true)(hn:n<dH)(hb:(s.es.length+1)*40<=140737488355328):
 qN prog false E 141 #[.pointer<|ae ⟨pb,po,af⟩,.agg #[.int .i64 m.k,.int .i64 m.q,.int .i64 m.p,.int .i64 m.t,.bool m.c]] S w fun y S' w'=>∃b v',y=.slice (ae ⟨b,0,af⟩) 1 1/\dN S' w' b m.kC.cs.toArray 119/\w.heap.size<=b/\gB S' w' B lb bm (n+1) v' (s.closed m.p m.t m.c)/\jL S E w S' w':=by
 intro b₀ a₀ ops i rest k cs Stop fn c' hf hc D7;obtain rfl:fn=Tryz.f141:=by rw[func141]at hf;exact(qE hf).symm
 obtain rfl:c'=(Tryz.f141.body.getD .skip):=by rw[hc];rfl
 simp only[Tryz.f141,gQ];walk_nrm;refine au.sq ?_;refine au.reg [0,1] rfl ?_;refine au.jM rfl rfl (by decide) fun w1 aI=>?_;refine⟨.pointer<|ae ⟨w1.heap.size,0,af⟩,w1.alloc<|.cells #[.int .i64 m.k,.int .i64 m.q,.int .i64 m.p,.int .i64 m.t,.bool m.c] 119,.inl<|by go_simp,vN (by simp[go_sem])<|uj _,?_⟩;have h2:=(h.aP aI).alloc<|.cells #[.int .i64 m.k,.int .i64 m.q,.int .i64 m.p,.int .i64 m.t,.bool m.c] 119;have XP:=Gy (wS hS aI)<|.cells #[.int .i64 m.k,.int .i64 m.q,.int .i64 m.p,.int .i64 m.t,.bool m.c] 119;have AB:=(QY aI).mG<|uj (E:=E)<|.cells #[.int .i64 m.k,.int .i64 m.q,.int .i64 m.p,.int .i64 m.t,.bool m.c] 119;have Pm:=dN.new S w1 #[.int .i64 m.k,.int .i64 m.q,.int .i64 m.p,.int .i64 m.t,.bool m.c] 119;have d1:=mJ c1 rH aI;have d1:(w1.alloc<|.cells #[.int .i64 m.k,.int .i64 m.q,.int .i64 m.p,.int .i64 m.t,.bool m.c] 119).cell? ⟨pb,po+1,af⟩=ae (.bool false):=(aB4<|aB3 w1 _ _<|mX d1).trans d1;have vg:=aI.size;have d0:=mJ c0 rH aI;have d0:(w1.alloc<|.cells #[.int .i64 m.k,.int .i64 m.q,.int .i64 m.p,.int .i64 m.t,.bool m.c] 119).cell? ⟨pb,po,af⟩=ae (ptr lb):=(aB4<|aB3 w1 _ _<|mX d0).trans d0;generalize grow S w1 (w1.alloc<|.cells #[.int .i64 m.k,.int .i64 m.q,.int .i64 m.p,.int .i64 m.t,.bool m.c] 119)=S2 at*
 generalize w1.alloc (.cells #[.int .i64 m.k,.int .i64 m.q,.int .i64 m.p,.int .i64 m.t,.bool m.c] 119)=w2 at*
 generalize ag9:w1.heap.size=mb at*
 walk_nrm;refine au.mu rfl rfl ?_;walk_nrm;refine au.fA ?_;refine au.sq ?_;refine au.sq ?_;refine au.reg [0,1,2,3] rfl ?_;refine au.mu rfl rfl ?_;walk_nrm;refine au.mu rfl rfl ?_;walk_nrm;refine au.mu rfl rfl ?_;walk_nrm;have e1:∀w3,aQ S2 E w2 w3->w3.cell? ⟨pb,po+1,af⟩=ae (.bool false):=fun w3 hk=>mJ d1 rH hk;refine au.val (.bool false) rfl rfl (by decide) (fun w3 jW=>by have hc:=e1 w3 jW;go_simp) (fun w3 jW e he=>?_) ?_
 ·have hc:=e1 w3 jW;simp[go_sem,hc]at he;subst he;exact .inr ⟨rH,rfl⟩
 walk_nrm;refine au.fA ?_;refine au.ctl rfl (fun _=>aCe (t:=false)<|by rfl) ?_;refine au.ctl rfl (fun _=>aCg) ?_;refine au.sq ?_;refine au.drawn (X:=V9) (I:=fun S' w'=>dN S' w' mb #[.int .i64 m.k,.int .i64 m.q,.int .i64 m.p,.int .i64 m.t,.bool m.c] 119/\w'.cell? ⟨pb,po,af⟩=ae (ptr lb)) (Q:=fun a S' w'=>a=⟨#[.pointer<|ae ⟨pb,po,af⟩,.agg #[.int .i64 m.k,.int .i64 m.q,.int .i64 m.p,.int .i64 m.t,.bool m.c],ag,.pointer<|ae ⟨mb,0,af⟩,.slice af 0 0,ag,.pointer<|ae ⟨pb,po,af⟩,.pointer<|ae ⟨pb,po,af⟩,.pointer<|ae ⟨pb,po+1,af⟩,.bool false,.pointer<|ae ⟨pb,po,af⟩,.pointer<|ae ⟨pb,po,af⟩,.pointer<|ae ⟨pb,po,af⟩,ptr lb,.pointer<|ae ⟨mb,2,af⟩,.int .i64 m.p,.pointer<|ae ⟨mb,3,af⟩,.int .i64 m.t,.pointer<|ae ⟨mb,4,af⟩,.bool m.c,.bool<|s.isOpen m.p m.t,ag,ag,ag,ag],[]⟩/\dN S' w' mb #[.int .i64 m.k,.int .i64 m.q,.int .i64 m.p,.int .i64 m.t,.bool m.c] 119/\∃v',gB S' w' B lb bm (n+1) v' (s.closed m.p m.t m.c)/\jL S E w S' w') rfl (by decide) (by kernel_rfl) ?_ (fun _ _ _ _ h=>h.elim) ?_
 ·rintro a S' w' ⟨rfl,hX,v',hM,hB⟩;refine au.sq ?_;refine au.reg [0,1,2] rfl ?_;refine au.val (.agg #[.int .i64 m.k,.int .i64 m.q,.int .i64 m.p,.int .i64 m.t,.bool m.c]) rfl rfl (by decide) (fun w3 jW=>?_) (fun w3 jW e he=>?_) ?_
  ·have jR:=hX.aP jW;have g0:=jR.cell (o:=0) rfl;have g1:=jR.cell (o:=1) rfl;have g2:=jR.cell (o:=2) rfl;have g3:=jR.cell (o:=3) rfl;have g4:=jR.cell (o:=4) rfl;go_simp
  ·have jR:=hX.aP jW;have g0:=jR.cell (o:=0) rfl;have g1:=jR.cell (o:=1) rfl;have g2:=jR.cell (o:=2) rfl;have g3:=jR.cell (o:=3) rfl;have g4:=jR.cell (o:=4) rfl;simp[go_sem,g0,g1,g2,g3,g4]at he;rcases he with rfl|rfl|rfl|rfl|rfl<;>exact .inl jR.1
  walk_nrm;refine au.jM rfl rfl (by decide) fun w3 jW=>?_;refine⟨.pointer<|ae ⟨w3.heap.size,0,af⟩,w3.alloc<|.cells #[.int .i64 0,.int .i64 0,.int .i64 0,.int .i64 0,.bool false] 119,.inl<|by go_simp,vN (by simp[go_sem])<|uj _,?_⟩;have Et:=(hX.aP jW).alloc<|.cells #[.int .i64 0,.int .i64 0,.int .i64 0,.int .i64 0,.bool false] 119;have NZ:=(hM.aP jW).alloc<|.cells #[.int .i64 0,.int .i64 0,.int .i64 0,.int .i64 0,.bool false] 119;have zF:=(hB.aP jW).mG<|uj (E:=E)<|.cells #[.int .i64 0,.int .i64 0,.int .i64 0,.int .i64 0,.bool false] 119;have Ri:=dN.new S' w3 #[.int .i64 0,.int .i64 0,.int .i64 0,.int .i64 0,.bool false] 119;have DF:w.heap.size<=w3.heap.size:=dP hB.size jW.size;have LD:∀b,(b=lb\/b=bm\/v'.ownBlock=ae b)->b≠w3.heap.size:=fun b hb=>YM<|(hM.aP jW).log.rV hb;generalize grow S' w3 (w3.alloc<|.cells #[.int .i64 0,.int .i64 0,.int .i64 0,.int .i64 0,.bool false] 119)=S4 at*
  generalize w3.alloc (.cells #[.int .i64 0,.int .i64 0,.int .i64 0,.int .i64 0,.bool false] 119)=w4 at*
  generalize w3.heap.size=ab at*
  walk_nrm;refine au.jM rfl rfl (by decide) fun w5 MG=>?_;have rE:=Ri.aP MG;have Bq:=NZ.aP MG;have pU:=zF.aP MG;have q0:=rE.cell (o:=0) rfl;have q1:=rE.cell (o:=1) rfl;have q2:=rE.cell (o:=2) rfl;have q3:=rE.cell (o:=3) rfl;have q4:=rE.cell (o:=4) rfl;have r0:=rE.free 0;have r1:=rE.free 1;have r2:=rE.free 2;have r3:=rE.free 3;have r4:=rE.free 4;have pV:nN S4 w5 (((((w5.setCell ⟨ab,0,af⟩<|.int .i64 m.k).setCell ⟨ab,1,af⟩<|.int .i64 m.q).setCell ⟨ab,2,af⟩<|.int .i64 m.p).setCell ⟨ab,3,af⟩<|.int .i64 m.t).setCell ⟨ab,4,af⟩<|.bool m.c):=(((((nN.refl S4 w5).set rE.1 0 _).set rE.1 1 _).set rE.1 2 _).set rE.1 3 _).set rE.1 4 _;have hG6:∀es:Array Event,(∀e∈es,lT S4 E e)->iO S4 E w5 (((((w5.setCell ⟨ab,0,af⟩<|.int .i64 m.k).setCell ⟨ab,1,af⟩<|.int .i64 m.q).setCell ⟨ab,2,af⟩<|.int .i64 m.p).setCell ⟨ab,3,af⟩<|.int .i64 m.t).setCell ⟨ab,4,af⟩<|.bool m.c) es:=fun _=>pV.mG;have nM:gB S4 (((((w5.setCell ⟨ab,0,af⟩<|.int .i64 m.k).setCell ⟨ab,1,af⟩<|.int .i64 m.q).setCell ⟨ab,2,af⟩<|.int .i64 m.p).setCell ⟨ab,3,af⟩<|.int .i64 m.t).setCell ⟨ab,4,af⟩<|.bool m.c) B lb bm (n+1) v' (s.closed m.p m.t m.c):=pV.grow (T:=S4)▸Bq.mG (fun b hb=>(((((nN.refl (fun x=>x=ab) w5).set rfl 0 _).set rfl 1 _).set rfl 2 _).set rfl 3 _).set rfl 4 _ |>.still b (LD b hb)) (hG6 #[]<|by simp);have vO:=((((rE.set 0<|.int .i64 m.k).set 1<|.int .i64 m.q).set 2<|.int .i64 m.p).set 3<|.int .i64 m.t).set 4<|.bool m.c;have Wh:=pU.mG (hG6 #[]<|by simp);rw[pV.grow]at Wh;refine⟨ag,((((w5.setCell ⟨ab,0,af⟩<|.int .i64 m.k).setCell ⟨ab,1,af⟩<|.int .i64 m.q).setCell ⟨ab,2,af⟩<|.int .i64 m.p).setCell ⟨ab,3,af⟩<|.int .i64 m.t).setCell ⟨ab,4,af⟩<|.bool m.c,.inr ⟨rfl,by go_simp⟩,hG6 _ fun e he=>?_,?_⟩
  ·simp[go_sem,aa8,storedEv,q0,q1,q2,q3,q4,r0,r1,r2,r3,r4]at he;rcases he with rfl|rfl|rfl|rfl|rfl<;>exact .inl rE.1
  rw[pV.grow];change dN S4 (((((w5.setCell ⟨ab,0,af⟩<|.int .i64 m.k).setCell ⟨ab,1,af⟩<|.int .i64 m.q).setCell ⟨ab,2,af⟩<|.int .i64 m.p).setCell ⟨ab,3,af⟩<|.int .i64 m.t).setCell ⟨ab,4,af⟩<|.bool m.c) ab #[.int .i64 m.k,.int .i64 m.q,.int .i64 m.p,.int .i64 m.t,.bool m.c] 119 at vO;generalize((((w5.setCell ⟨ab,0,af⟩<|.int .i64 m.k).setCell ⟨ab,1,af⟩<|.int .i64 m.q).setCell ⟨ab,2,af⟩<|.int .i64 m.p).setCell ⟨ab,3,af⟩<|.int .i64 m.t).setCell ⟨ab,4,af⟩ (.bool m.c)=w6 at*
  walk_nrm;refine au.fA ?_;refine au.sq ?_;refine au.reg [0,1] rfl ?_;refine au.mu rfl rfl ?_;walk_nrm;refine au.jM rfl rfl (by decide) fun w7 hk7=>?_;have Rj:=vO.aP hk7;have N8:=nM.aP hk7;have Q8:=Wh.aP hk7;have q0:=Rj.cell (o:=0) (x:=.int .i64 m.k) rfl;have r0:=Rj.free 0;have Gx:nN S4 w7 (w7.setCell ⟨ab,0,af⟩<|.int .i64 2):=(nN.refl S4 w7).set Rj.1 0 _;have Rf:∀es:Array Event,(∀e∈es,lT S4 E e)->iO S4 E w7 (w7.setCell ⟨ab,0,af⟩<|.int .i64 2) es:=fun _=>Gx.mG;have hM8:gB S4 (w7.setCell ⟨ab,0,af⟩<|.int .i64 2) B lb bm (n+1) v' (s.closed m.p m.t m.c):=Gx.grow (T:=S4)▸N8.mG (fun b hb=>((nN.refl (fun x=>x=ab) w7).set rfl 0 _).still b<|LD b hb) (Rf #[]<|by simp);have hY8:=Rj.set 0<|.int .i64 2;have Q9:=Q8.mG (Rf #[]<|by simp);rw[Gx.grow]at Q9;refine⟨ag,w7.setCell ⟨ab,0,af⟩<|.int .i64 2,.inr ⟨rfl,by go_simp⟩,Rf _ fun e he=>?_,?_⟩
  ·simp[go_sem,storedEv,q0,r0]at he;subst he;exact .inl Rj.1
  rw[Gx.grow];change dN S4 (w7.setCell ⟨ab,0,af⟩<|.int .i64 2) ab #[.int .i64 2,.int .i64 m.q,.int .i64 m.p,.int .i64 m.t,.bool m.c] 119 at hY8;generalize w7.setCell ⟨ab,0,af⟩ (.int .i64 2)=w8 at*
  walk_nrm;refine au.fA ?_;refine au.sq ?_;refine au.reg [0,1,2] rfl ?_;refine au.val (.agg #[.int .i64 2,.int .i64 m.q,.int .i64 m.p,.int .i64 m.t,.bool m.c]) rfl rfl (by decide) (fun w9 MH=>?_) (fun w9 MH e he=>?_) ?_
  ·have jR:=hY8.aP MH;have g0:=jR.cell (o:=0) rfl;have g1:=jR.cell (o:=1) rfl;have g2:=jR.cell (o:=2) rfl;have g3:=jR.cell (o:=3) rfl;have g4:=jR.cell (o:=4) rfl;go_simp
  ·have jR:=hY8.aP MH;have g0:=jR.cell (o:=0) rfl;have g1:=jR.cell (o:=1) rfl;have g2:=jR.cell (o:=2) rfl;have g3:=jR.cell (o:=3) rfl;have g4:=jR.cell (o:=4) rfl;simp[go_sem,g0,g1,g2,g3,g4]at he;rcases he with rfl|rfl|rfl|rfl|rfl<;>exact .inl jR.1
  walk_nrm;refine au.jM rfl rfl (by decide) fun w9 MH=>?_;refine⟨.slice (ae ⟨w9.heap.size,0,af⟩) 1 1,w9.alloc<|.cells #[.int .i64 2,.int .i64 m.q,.int .i64 m.p,.int .i64 m.t,.bool m.c] 119,.inl<|by go_simp,vN (by simp[go_sem])<|uj _,?_⟩;have hZ:=dN.new S4 w9 #[.int .i64 2,.int .i64 m.q,.int .i64 m.p,.int .i64 m.t,.bool m.c] 119;have hM9:=(hM8.aP MH).alloc<|.cells #[.int .i64 2,.int .i64 m.q,.int .i64 m.p,.int .i64 m.t,.bool m.c] 119;have hB9:=(Q9.aP MH).mG<|uj (E:=E)<|.cells #[.int .i64 2,.int .i64 m.q,.int .i64 m.p,.int .i64 m.t,.bool m.c] 119;have aqY:w.heap.size<=w9.heap.size:=dP Q9.size MH.size;walk_nrm;refine au.mu rfl rfl ?_;walk_nrm;refine au.fA ?_;refine au.ctl rfl (fun _=>aCi) ?_;refine au.leave1 rfl rfl func141 rfl ?_;walk_nrm;exact D7 _ _ _ ⟨_,v',rfl,hZ,aqY,hM9,hB9⟩
 intro w3 jW;have hI:∀(S':aC) (x1 y1:ah),(dN S' x1 mb #[.int .i64 m.k,.int .i64 m.q,.int .i64 m.p,.int .i64 m.t,.bool m.c] 119/\x1.cell? ⟨pb,po,af⟩=ae (ptr lb))->aQ S' E x1 y1->(dN S' y1 mb #[.int .i64 m.k,.int .i64 m.q,.int .i64 m.p,.int .i64 m.t,.bool m.c] 119/\y1.cell? ⟨pb,po,af⟩=ae (ptr lb)):=fun _ _ _ h1 h2=>⟨h1.1.aP h2,mJ h1.2 rH h2⟩;have hQ:∀(a:Act) (S':aC) (x1 y1:ah),(a=⟨#[.pointer<|ae ⟨pb,po,af⟩,.agg #[.int .i64 m.k,.int .i64 m.q,.int .i64 m.p,.int .i64 m.t,.bool m.c],ag,.pointer<|ae ⟨mb,0,af⟩,.slice af 0 0,ag,.pointer<|ae ⟨pb,po,af⟩,.pointer<|ae ⟨pb,po,af⟩,.pointer<|ae ⟨pb,po+1,af⟩,.bool false,.pointer<|ae ⟨pb,po,af⟩,.pointer<|ae ⟨pb,po,af⟩,.pointer<|ae ⟨pb,po,af⟩,ptr lb,.pointer<|ae ⟨mb,2,af⟩,.int .i64 m.p,.pointer<|ae ⟨mb,3,af⟩,.int .i64 m.t,.pointer<|ae ⟨mb,4,af⟩,.bool m.c,.bool<|s.isOpen m.p m.t,ag,ag,ag,ag],[]⟩/\dN S' x1 mb #[.int .i64 m.k,.int .i64 m.q,.int .i64 m.p,.int .i64 m.t,.bool m.c] 119/\∃v',gB S' x1 B lb bm (n+1) v' (s.closed m.p m.t m.c)/\jL S E w S' x1)->aQ S' E x1 y1->(a=⟨#[.pointer<|ae ⟨pb,po,af⟩,.agg #[.int .i64 m.k,.int .i64 m.q,.int .i64 m.p,.int .i64 m.t,.bool m.c],ag,.pointer<|ae ⟨mb,0,af⟩,.slice af 0 0,ag,.pointer<|ae ⟨pb,po,af⟩,.pointer<|ae ⟨pb,po,af⟩,.pointer<|ae ⟨pb,po+1,af⟩,.bool false,.pointer<|ae ⟨pb,po,af⟩,.pointer<|ae ⟨pb,po,af⟩,.pointer<|ae ⟨pb,po,af⟩,ptr lb,.pointer<|ae ⟨mb,2,af⟩,.int .i64 m.p,.pointer<|ae ⟨mb,3,af⟩,.int .i64 m.t,.pointer<|ae ⟨mb,4,af⟩,.bool m.c,.bool<|s.isOpen m.p m.t,ag,ag,ag,ag],[]⟩/\dN S' y1 mb #[.int .i64 m.k,.int .i64 m.q,.int .i64 m.p,.int .i64 m.t,.bool m.c] 119/\∃v',gB S' y1 B lb bm (n+1) v' (s.closed m.p m.t m.c)/\jL S E w S' y1):=fun _ _ _ _ h1 h2=>⟨h1.1,h1.2.1.aP h2,h1.2.2.choose,h1.2.2.choose_spec.1.aP h2,h1.2.2.choose_spec.2.aP h2⟩;have wY:=jW.trans<|aQ.at S2 E w3<|w3.drawn+1;have h4:=h2.aP wY;have Et:=Pm.aP wY;have zF:=AB.aP wY;have Tc:=wS XP wY;have d4:=mJ d0 rH wY;change qx _ _ _ _ _ _ _ _ _ _ _ _ _ (w3.at<|w3.drawn+1);generalize w3.at (w3.drawn+1)=w4 at h4 Et zF Tc d4⊢
 have pJ:dN S2 w4 mb #[.int .i64 m.k,.int .i64 m.q,.int .i64 m.p,.int .i64 m.t,.bool m.c] 119/\w4.cell? ⟨pb,po,af⟩=ae (ptr lb):=⟨Et,d4⟩;simp only[Fv,ny,vC,Nat.reduceAdd,Cm];refine oZ hI hQ uN (i:=0) rfl (by kernel_rfl) (by kernel_rfl) (by kernel_rfl) (by kernel_rfl) (v:=_) ⟨rfl,fun S' w' hi=>⟨by go_simp<;>rfl,fun e he=>?_⟩⟩ pJ ?_
 ·have hm:=aB6 he;simp[go_sem]at hm
 walk_nrm;refine oZ hI hQ uN (i:=1) rfl (by kernel_rfl) (by kernel_rfl) (by kernel_rfl) (by kernel_rfl) (v:=_) ⟨rfl,fun S' w' hi=>⟨by go_simp<;>rfl,fun e he=>?_⟩⟩ pJ ?_
 ·have hm:=aB6 he;simp[go_sem]at hm
 walk_nrm;refine oZ hI hQ uN (i:=2) rfl (by kernel_rfl) (by kernel_rfl) (by kernel_rfl) (by kernel_rfl) (v:=_) ⟨rfl,fun S' w' hi=>⟨by go_simp<;>rfl,fun e he=>?_⟩⟩ pJ ?_
 ·have hm:=aB6 he;simp[go_sem]at hm
 walk_nrm;refine oZ hI hQ uN (i:=3) rfl (by kernel_rfl) (by kernel_rfl) (by kernel_rfl) (by kernel_rfl) (v:=ptr lb) ⟨rfl,fun S' w' hi=>⟨?_,fun e he=>?_⟩⟩ pJ ?_
 ·have hc:=hi.2;go_simp
 ·have hc:=hi.2;have hm:=aB6 he;simp[go_sem,hc]at hm;subst hm;exact .inr ⟨rH,rfl⟩
 walk_nrm;refine oZ hI hQ uN (i:=4) rfl (by kernel_rfl) (by kernel_rfl) (by kernel_rfl) (by kernel_rfl) (v:=_) ⟨rfl,fun S' w' hi=>⟨by go_simp<;>rfl,fun e he=>?_⟩⟩ pJ ?_
 ·have hm:=aB6 he;simp[go_sem]at hm
 walk_nrm;refine oZ hI hQ uN (i:=5) rfl (by kernel_rfl) (by kernel_rfl) (by kernel_rfl) (by kernel_rfl) (v:=(.int .i64 m.p)) ⟨rfl,fun S' w' hi=>⟨?_,fun e he=>?_⟩⟩ pJ ?_
 ·have hc:=hi.1.cell (o:=2) rfl;go_simp
 ·have hc:=hi.1.cell (o:=2) rfl;have hm:=aB6 he;simp[go_sem,hc]at hm;subst hm;exact .inl hi.1.1
 walk_nrm;refine oZ hI hQ uN (i:=6) rfl (by kernel_rfl) (by kernel_rfl) (by kernel_rfl) (by kernel_rfl) (v:=_) ⟨rfl,fun S' w' hi=>⟨by go_simp<;>rfl,fun e he=>?_⟩⟩ pJ ?_
 ·have hm:=aB6 he;simp[go_sem]at hm
 walk_nrm;refine oZ hI hQ uN (i:=7) rfl (by kernel_rfl) (by kernel_rfl) (by kernel_rfl) (by kernel_rfl) (v:=(.int .i64 m.t)) ⟨rfl,fun S' w' hi=>⟨?_,fun e he=>?_⟩⟩ pJ ?_
 ·have hc:=hi.1.cell (o:=3) rfl;go_simp
 ·have hc:=hi.1.cell (o:=3) rfl;have hm:=aB6 he;simp[go_sem,hc]at hm;subst hm;exact .inl hi.1.1
 walk_nrm;refine oZ hI hQ uN (i:=8) rfl (by kernel_rfl) (by kernel_rfl) (by kernel_rfl) (by kernel_rfl) (v:=_) ⟨rfl,fun S' w' hi=>⟨by go_simp<;>rfl,fun e he=>?_⟩⟩ pJ ?_
 ·have hm:=aB6 he;simp[go_sem]at hm
 walk_nrm;refine oZ hI hQ uN (i:=9) rfl (by kernel_rfl) (by kernel_rfl) (by kernel_rfl) (by kernel_rfl) (v:=(.bool m.c)) ⟨rfl,fun S' w' hi=>⟨?_,fun e he=>?_⟩⟩ pJ ?_
 ·have hc:=hi.1.cell (o:=4) rfl;go_simp
 ·have hc:=hi.1.cell (o:=4) rfl;have hm:=aB6 he;simp[go_sem,hc]at hm;subst hm;exact .inl hi.1.1
 walk_nrm;refine V8 (rs:=[10]) (by kernel_rfl) (by simp) fun i hi=>?_;obtain rfl:i=10:=by simpa using hi
 refine oW.call rfl rfl rfl func187 rfl rfl ?_;walk_nrm;refine(aqS h4 Tc m.p m.t m.c hp hn hb).mono ?_;rintro y S' w' ⟨rfl,⟨v',h5⟩,pU,Wi⟩;have Aw:¬kK lb bm v mb:=fun hx=>absurd ((h.aP aI).lt mb hx) (by rw[ag9];exact PI _);have Q4:dN S' w' mb #[.int .i64 m.k,.int .i64 m.q,.int .i64 m.p,.int .i64 m.t,.bool m.c] 119:=⟨pU.own _ Et.1,by rw[Wi mb Et.1 Aw];exact Et.2⟩;have rG:¬S2 pb:=fun hx=>(AB.new pb hx).elim hpS fun hx=>by have:=mX c0;have:=hx.1;simp only at*;omega
 have d5:=Dh d4 rH rG pU;refine⟨fun _=>⟨Q4,d5⟩,ag3 (by kernel_rfl) ⟨?_,Q4,v',h5,zF.trans pU⟩ _⟩;walk_nrm
end Twin
end Go.Proofs.YtkelpcjiediamaaGreat
