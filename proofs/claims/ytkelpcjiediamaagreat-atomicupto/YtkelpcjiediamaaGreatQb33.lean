import Derived.Test.YtkelpcjiediamaaGreatQb32
import Derived.Conc.AppendEvents3
import Derived.Conc.AppendWalk
import Derived.Conc.WgWords
set_option maxRecDepth 100000
set_option maxHeartbeats 0
set_option linter.all false
namespace Go.Proofs.YtkelpcjiediamaaGreat
def aCI:=@Go.ConcR.Gen.events_store_slice
def aCW:=@Go.Conc.events_append_op
def aC6:=@Go.events_append_where
def aDl:=@Go.run_append_lies
open Go renaming Frame→aV,Goroutine→aX,Program→dO,TypeId→bW,Value→aj,World→ah,execOp→dJ,maxLen→dH,undef→ag
open Option renaming none→af,some→ae
open Go.Proofs.Tryz
section
namespace Twin
open Go Go.Proofs Go.Conc Go.RowKit Go.Maps
structure gB(S:aC)(w:ah)(B lb bm n:Nat)(v:aj)(s:aA):Prop where
 log:dK w B lb bm v n s
 l:S lb
 m:S bm
 r:∀k,v.ownBlock=ae k->S k
variable{S S':aC}{E:cO}{w w1 w' JC:ah}{B lb bm n:Nat}{v:aj}{s:aA}{es:Array Event}
def gB.aP(h:gB S w B lb bm n v s)(hk:aQ S E w w1):gB S w1 B lb bm n v s:=⟨aaX h.log h.l h.m h.r hk,h.l,h.m,h.r⟩
def dN(S:aC)(w:ah)(b:Nat)(cs:Array aj)(t:bW):Prop:=S b/\w.heap[b]? =ae (.cells cs t (0,0))
def dN.aP{b:Nat}{cs:Array aj}{t:bW}(h:dN S w b cs t)(hk:aQ S E w w1):dN S w1 b cs t:=⟨h.1,by rw[hk.own b h.1];exact h.2⟩
def jL.aP(h:jL S E w S' w')(hk:aQ S' E w' JC):jL S E w S' JC:=
 ⟨h.own,dP h.size hk.size,fun b hb=>(h.new b hb).imp id fun x=>⟨x.1,dY x.2 hk.size⟩,hk.tape.trans h.tape,hk.os.trans h.os,hk.output.trans h.output,fun b h1 h2 h3=>(hk.ro b h1).trans<|h.ro b h1 h2 h3⟩
def QY(hk:aQ S E w w'):jL S E w S w':=⟨fun _ h=>h,hk.size,fun _ h=>.inl h,hk.tape,hk.os,hk.output,fun b h _ _=>hk.ro b h⟩
def jL.mG(h:jL S E w S' w')(hG:iO S' E w' JC es):jL S E w (grow S' w' JC) JC:=by
 have h1:=h.size;have h2:=hG.size;refine⟨fun b hb=>.inl<|h.own b hb,by omega,fun b hb=>?_,hG.tape.trans h.tape,hG.os.trans h.os,hG.output.trans h.output,fun b hb aB hn=>?_⟩
 ·rcases hb with hb|hb
  ·exact(h.new b hb).imp id fun x=>⟨x.1,by omega⟩
  ·exact .inr ⟨by omega,hb.2⟩
 ·rw[hG.still b (by omega) fun z=>(h.new b z).elim hn fun y=>by omega,h.ro b hb aB hn]
def uj(o:Obj)(ho:aaI o=true:=by rfl):iO S E w (w.alloc o) #[]:=⟨rfl,rfl,rfl,by simp,fun b hb _=>aB3 w o b hb,by simp,fun _ _ _ h=>h.push<|QI ho⟩
def vN(he:es=#[])(h:iO S E w w' #[]):iO S E w w' es:=he▸h
def gB.QZ(h:gB S w B lb bm n v s)(f:∀b,(b=lb\/b=bm\/v.ownBlock=ae b)->w'.heap[b]? =w.heap[b]?):gB (grow S w w') w' B lb bm n v s:=by
 refine⟨⟨by rw[f lb<|.inl rfl];exact h.log.blk,?_,?_,h.log.hl,h.log.hm⟩,.inl h.l,.inl h.m,fun k hk=>.inl<|h.r k hk⟩
 ·obtain⟨h1,h2⟩:=h.log.row;refine⟨h1,?_⟩;rcases h2 with h2|⟨g,cap,cur,rfl,hb,hg,r⟩
  ·exact .inl h2
  ·exact .inr ⟨g,cap,cur,rfl,hb,by rw[f g<|.inr<|.inr rfl];exact hg,r⟩
 ·obtain⟨D,⟨es,clock,hb,r⟩,h2⟩:=h.log.map;exact⟨D,⟨es,clock,by rw[f bm<|.inr<|.inl rfl];exact hb,r⟩,h2⟩
def gB.mG(h:gB S w B lb bm n v s)(f:∀b,(b=lb\/b=bm\/v.ownBlock=ae b)->w'.heap[b]? =w.heap[b]?)(_hG:iO S E w w' es):gB (grow S w w') w' B lb bm n v s:=h.QZ f
structure Own(S:aC)(w:ah)(B:Nat)(t:bW)(size:Nat)(v:aj)(n:Nat)(xs:List aj):Prop where
 row:w.ownsRow B t size v n xs
 r:∀k,v.ownBlock=ae k->S k
variable{t:bW}{xs:List aj}{a:Act}{P:dO}{o:Oper}{main:Bool}{fn:FuncId}{ops:Array Oper}{i:Nat}{K:Act->aC->ah->Prop}
def Own.of{size:Nat}(h:Own S w B t size v n xs)(hS:∀b,S b->S' b)(hk:∀k,v.ownBlock=ae k->w1.heap[k]? =w.heap[k]?):Own S' w1 B t size v n xs:=by
 refine⟨⟨h.row.1,?_⟩,fun k hk=>hS k<|h.r k hk⟩;rcases h.row.2 with h2|⟨g,cap,cur,rfl,hb,hg,r⟩
 ·exact .inl h2
 ·exact .inr ⟨g,cap,cur,rfl,hb,by rw[hk g rfl];exact hg,r⟩
def Own.aP{size:Nat}(h:Own S w B t size v n xs)(hk:aQ S E w w1):Own S w1 B t size v n xs:=h.of (fun _ h=>h) fun k hv=>hk.own k<|h.r k hv
def aa2{row:Option Nat}(hg:w.grownBy w' row)(hr:∀k,row=ae k->S k)(bD:∀s:Nat->Prop,(∀b,s b->1<=b)->(∀b,s b->¬S b/\(b<w.heap.size\/w'.heap.size<=b))->ai.jG (ai.uh s) w->ai.jG (ai.uh s) w')(dI:∀e∈es,lT (grow S w w') E e):iO S E w w' es:=
 ⟨hg.tape,hg.os,hg.output,hg.size,fun b hb hS=>hg.block b hb fun e=>hS<|hr b e.symm,dI,bD⟩
def Q3{B':ai.bP}{size:Nat}(h:w.ownsRow B t size v n xs)(hv:∀k,v.ownBlock=ae k->¬B'.bK k):ai.az B' v:=by
 rcases h.2 with h2|⟨g,cap,cur,rfl,hb,hg,r⟩
 ·rw[h2.1];exact .slice fun x hx=>by cases hx
 ·exact .slice fun x hx=>by cases hx;exact hv g rfl
def ok_two{B:ai.bP}{a b:aj}(ha:ai.az B a)(hb:ai.az B b):ai.bG B #[a,b]:=fun v hv=>by
 simp at hv;rcases hv with rfl|rfl
 ·exact ha
 ·exact hb
def Gu{p:Addr}{u:aj}(hp:S p.block)(hu:∀B:ai.bP,(∀b,B.bK b->¬S b)->ai.az B u)(dI:∀e∈es,lT S E e):iO S E w (w.setCell p u) es:=
 ⟨rfl,rfl,rfl,by simp,fun b _ hS=>aB5 w p u b fun e=>hS<|e▸hp,fun e he=>by rw[rD<|by simp];exact dI e he,fun s _ hs hw=>hw.setCell<|hu (ai.uh s) fun b hb=>(hs b hb).1⟩
def aa3{b:Nat}{f:aj->Option aj}(h:iV w prog 3 b n f)(e:w1.heap[b]? =w.heap[b]?):iV w1 prog 3 b n f:=by
 obtain⟨D,⟨es,clock,hb,r⟩,h2⟩:=h;exact⟨D,⟨es,clock,e.trans hb,r⟩,h2⟩
def We{xv v':aj}(s x:Operand)(t:bW)
 (ho:o.op=.call {callee:=.builtin .append,args:=#[s,x],argTypes:=#[t,t]})(hs:a.eval s=v)(hx:a.eval x=xv)
 (hr:(Builtin.append_ #[t,t] o.type #[v,xv]).run P w=.ok v' w'):(dJ a.eval o).run P w=.ok (.value v') w':=by
 unfold dJ;simp only[ho,resolve,invoke,builtin,Sem.run_bind,Sem.run_pure,Result.andThen_ok,adL,yM,zL,hs,hx,hr]
def oW.jM(ho:ops[i]? =ae o)(hw:Region.wanted o (yielded ops a.tmps)=true)
 (h:∀w1,aQ S E w w1->∃v w2,((dJ a.eval o).run P w1=.ok (.value v) w2\/(v=ag/\(dJ a.eval o).run P w1=.ok .skip w2))/\iO S E w1 w2 ((dJ a.eval o).events P w1 #[])/\K (a.put o.dst v) (grow S w1 w2) w2):oW P main E fn ops i K a S w:=by
 unfold oW;simp only[ho,hw,if_true];refine .inl fun w1 aI=>?_;obtain⟨v,w2,hr,hG,hn⟩:=h w1 aI;have TN:iO S E w1 w2 (listed P fn a o w1):=⟨hG.tape,hG.os,hG.output,hG.size,hG.still,fun e he=>hG.evs e<|aCJ he,hG.ok⟩;rcases hr with hr|⟨rfl,hr⟩
 ·rw[hr];exact⟨TN,hn⟩
 ·rw[hr];exact⟨TN,hn⟩
def oW.call{f:FuncId}{lF:Func}{c:Code}{args:Array Operand}{kP:Array bW}(ho:ops[i]? =ae o)(hw:Region.wanted o (yielded ops a.tmps)=true)(aF:o.op=.call {callee:=.value<|.func f,args,argTypes:=kP})
 (hf:P.funcs[f]? =ae lF)(Ht:(lF.name== "runtime.NumGoroutine")=false)(hb:lF.body=ae c)(h:qN P main E f (args.map a.eval) S w fun v S' w'=>K (a.put o.dst v) S' w'):oW P main E fn ops i K a S w:=by
 unfold oW;simp only[ho,hw,if_true];exact .inr ⟨f,args,kP,lF,c,aF,hf,Ht,hb,h⟩
def ag5(h:gB S w B lb bm n v s)(hS:∀b,S b->b<w.heap.size)(x:gm)(hb:(s.es.length+1)*40<=140737488355328):
 qN prog false E 184 #[.pointer<|ae ⟨lb,0,af⟩,.agg #[.int .i64 x.k,.int .i64 x.p,.int .i64 x.t,.string x.s]] S w fun _ S' w'=>∃v',gB S' w' B lb bm n v' (s.put x)/\jL S E w S' w':=by
 intro b₀ a₀ ops i rest k cs Stop fn c hf hc D7;obtain rfl:fn=Tryz.f184:=by rw[func184]at hf;exact(qE hf).symm
 obtain rfl:c=(Tryz.f184.body.getD .skip):=by rw[hc];rfl
 simp only[Tryz.f184,gQ];walk_nrm;refine au.sq ?_;refine au.reg [0] rfl ?_;refine au.jM rfl rfl (by decide) fun w1 aI=>?_;refine⟨.pointer<|ae ⟨w1.heap.size,0,af⟩,w1.alloc<|.cells #[.int .i64 x.k,.int .i64 x.p,.int .i64 x.t,.string x.s] 55,.inl<|by go_simp,?_,?_⟩
 ·exact vN (by simp[go_sem])<|uj _
 walk_nrm;have aB:∀b,(b=lb\/b=bm\/v.ownBlock=ae b)->b<w1.heap.size:=fun b hb=>dY (hS b (by rcases hb with rfl|rfl|hb;exact h.l;exact h.m;exact h.r b hb)) aI.size;have X8:=(h.aP aI).mG (w':=w1.alloc<|.cells #[.int .i64 x.k,.int .i64 x.p,.int .i64 x.t,.string x.s] 55) (fun b hb=>aB3 w1 _ b<|aB b hb)<|uj (S:=S) (E:=E) _;have JD:=(QY aI).mG<|uj (E:=E)<|.cells #[.int .i64 x.k,.int .i64 x.p,.int .i64 x.t,.string x.s] 55;have hX1:dN (grow S w1<|w1.alloc<|.cells #[.int .i64 x.k,.int .i64 x.p,.int .i64 x.t,.string x.s] 55) (w1.alloc<|.cells #[.int .i64 x.k,.int .i64 x.p,.int .i64 x.t,.string x.s] 55) w1.heap.size #[.int .i64 x.k,.int .i64 x.p,.int .i64 x.t,.string x.s] 55:=⟨.inr ⟨bV _,by simp⟩,aB0 _ _⟩;have fO:∀b,(grow S w1<|w1.alloc<|.cells #[.int .i64 x.k,.int .i64 x.p,.int .i64 x.t,.string x.s] 55) b->b<(w1.alloc<|.cells #[.int .i64 x.k,.int .i64 x.p,.int .i64 x.t,.string x.s] 55).heap.size:=fun b hb=>by
  rcases hb with hb|hb
  ·have:=hS b hb;have:=aI.size;simp<;>omega
  ·exact hb.2
 generalize uX:grow S w1 (w1.alloc<|.cells #[.int .i64 x.k,.int .i64 x.p,.int .i64 x.t,.string x.s] 55)=S1 at*
 generalize vg:w1.alloc (.cells #[.int .i64 x.k,.int .i64 x.p,.int .i64 x.t,.string x.s] 55)=W1 at*
 generalize hbb:w1.heap.size=bb at*
 refine au.fA ?_;refine au.drawn (X:=V9) (I:=fun S' w'=>dN S' w' lb #[v,.int .i64 s.d,.map<|ae bm] 163/\dN S' w' bb #[.int .i64 x.k,.int .i64 x.p,.int .i64 x.t,.string x.s] 55) (Q:=fun a S' w'=>a.defers=[]/\∃v',gB S' w' B lb bm n v' (s.put x)/\jL S E w S' w') rfl (by decide) (by kernel_rfl) ?_ (fun _ _ _ _ h=>h.elim) ?_
 ·rintro a S' w' ⟨hd,v',BU,iG⟩;refine au.ctl rfl (fun _=>stepG_end) ?_;refine au.leave0 rfl hd func184 rfl ?_;exact D7 _ _ _ ⟨v',BU,iG⟩
 intro w2 jU;have hI:∀(S':aC) (x1 y1:ah),(dN S' x1 lb #[v,.int .i64 s.d,.map<|ae bm] 163/\dN S' x1 bb #[.int .i64 x.k,.int .i64 x.p,.int .i64 x.t,.string x.s] 55)->aQ S' E x1 y1->(dN S' y1 lb #[v,.int .i64 s.d,.map<|ae bm] 163/\dN S' y1 bb #[.int .i64 x.k,.int .i64 x.p,.int .i64 x.t,.string x.s] 55):=fun _ _ _ h1 h2=>⟨h1.1.aP h2,h1.2.aP h2⟩;have hQ:∀(a:Act) (S':aC) (x1 y1:ah),(a.defers=[]/\∃v',gB S' x1 B lb bm n v' (s.put x)/\jL S E w S' x1)->aQ S' E x1 y1->(a.defers=[]/\∃v',gB S' y1 B lb bm n v' (s.put x)/\jL S E w S' y1):=fun _ _ _ _ h1 h2=>⟨h1.1,h1.2.choose,h1.2.choose_spec.1.aP h2,h1.2.choose_spec.2.aP h2⟩;have wC:=X8.aP<|jU.trans<|aQ.at S1 E w2<|w2.drawn+1;have Pm:=hX1.aP<|jU.trans<|aQ.at S1 E w2<|w2.drawn+1;have AB:=JD.aP<|jU.trans<|aQ.at S1 E w2<|w2.drawn+1;have iH:∀b,S1 b->b<(w2.at<|w2.drawn+1).heap.size:=fun b hb=>dY (fO b hb) (jU.trans<|aQ.at S1 E w2<|w2.drawn+1).size;change qx _ _ _ _ _ _ _ _ _ _ _ _ _ (w2.at<|w2.drawn+1);generalize w2.at (w2.drawn+1)=w3 at wC Pm AB iH⊢
 have pJ:dN S1 w3 lb #[v,.int .i64 s.d,.map<|ae bm] 163/\dN S1 w3 bb #[.int .i64 x.k,.int .i64 x.p,.int .i64 x.t,.string x.s] 55:=⟨⟨wC.l,wC.log.blk⟩,Pm⟩;clear X8 hX1 JD fO jU;simp only[Fv,ny,vC,Nat.reduceAdd,Cm];refine oZ hI hQ uN (i:=0) rfl (by kernel_rfl) (by kernel_rfl) (by kernel_rfl) (by kernel_rfl) (v:=_) ⟨rfl,fun S' w' hi=>⟨by go_simp<;>rfl,fun e he=>?_⟩⟩ pJ ?_
 ·have hm:=aB6 he;simp[go_sem]at hm
 walk_nrm;refine oZ hI hQ uN (i:=1) rfl (by kernel_rfl) (by kernel_rfl) (by kernel_rfl) (by kernel_rfl) (v:=_) ⟨rfl,fun S' w' hi=>⟨by go_simp<;>rfl,fun e he=>?_⟩⟩ pJ ?_
 ·have hm:=aB6 he;simp[go_sem]at hm
 walk_nrm;refine oZ hI hQ uN (i:=2) rfl (by kernel_rfl) (by kernel_rfl) (by kernel_rfl) (by kernel_rfl) (v:=_) ⟨rfl,fun S' w' hi=>⟨by go_simp<;>rfl,fun e he=>?_⟩⟩ pJ ?_
 ·have hm:=aB6 he;simp[go_sem]at hm
 walk_nrm;refine oZ hI hQ uN (i:=3) rfl (by kernel_rfl) (by kernel_rfl) (by kernel_rfl) (by kernel_rfl) (v:=_) ⟨rfl,fun S' w' hi=>⟨by go_simp<;>rfl,fun e he=>?_⟩⟩ pJ ?_
 ·have hm:=aB6 he;simp[go_sem]at hm
 walk_nrm;refine oZ hI hQ uN (i:=4) rfl (by kernel_rfl) (by kernel_rfl) (by kernel_rfl) (by kernel_rfl) (v:=v) ⟨rfl,fun S' w' hi=>⟨?_,fun e he=>?_⟩⟩ pJ ?_
 ·have hc:w'.cell? ⟨lb,0,af⟩=ae v:=by rw[aG hi.1.2];rfl
  go_simp
 ·have hc:w'.cell? ⟨lb,0,af⟩=ae v:=by rw[aG hi.1.2];rfl
  have hm:=aB6 he;simp[go_sem,hc]at hm;subst hm;exact .inl hi.1.1
 walk_nrm;refine oZ hI hQ uN (i:=5) rfl (by kernel_rfl) (by kernel_rfl) (by kernel_rfl) (by kernel_rfl) (v:=.agg #[.int .i64 x.k,.int .i64 x.p,.int .i64 x.t,.string x.s]) ⟨rfl,fun S' w' hi=>⟨?_,fun e he=>?_⟩⟩ pJ ?_
 ·have XJ:w'.cell? ⟨bb,0,af⟩=ae (.int .i64 x.k):=by rw[aG hi.2.2];rfl
  have oH:w'.cell? ⟨bb,1,af⟩=ae (.int .i64 x.p):=by rw[aG hi.2.2];rfl
  have kM:w'.cell? ⟨bb,2,af⟩=ae (.int .i64 x.t):=by rw[aG hi.2.2];rfl
  have hc3:w'.cell? ⟨bb,3,af⟩=ae (.string x.s):=by rw[aG hi.2.2];rfl
  go_simp
 ·have XJ:w'.cell? ⟨bb,0,af⟩=ae (.int .i64 x.k):=by rw[aG hi.2.2];rfl
  have oH:w'.cell? ⟨bb,1,af⟩=ae (.int .i64 x.p):=by rw[aG hi.2.2];rfl
  have kM:w'.cell? ⟨bb,2,af⟩=ae (.int .i64 x.t):=by rw[aG hi.2.2];rfl
  have hc3:w'.cell? ⟨bb,3,af⟩=ae (.string x.s):=by rw[aG hi.2.2];rfl
  have hm:=aB6 he;simp[go_sem,XJ,oH,kM,hc3]at hm;rcases hm with rfl|rfl|rfl|rfl<;>exact .inl hi.2.1
 walk_nrm;refine V8 (rs:=[6]) (by kernel_rfl) (by simp) fun i hi=>?_;obtain rfl:i=6:=by simpa using hi
 refine oW.jM rfl rfl fun w4 wY=>?_;have NZ:=wC.aP wY;have Et:=Pm.aP wY;have zF:=AB.aP wY;have Df:∀b,S1 b->b<w4.heap.size:=fun b hb=>dY (iH b hb) wY.size;refine⟨.slice (ae ⟨w4.heap.size,0,af⟩) 1 1,w4.alloc<|.cells #[.int .i64 x.k,.int .i64 x.p,.int .i64 x.t,.string x.s] 55,.inl<|by go_simp,vN (by simp[go_sem])<|uj _,?_⟩;have Bq:=NZ.mG (w':=w4.alloc<|.cells #[.int .i64 x.k,.int .i64 x.p,.int .i64 x.t,.string x.s] 55) (fun b hb=>aB3 w4 _ b<|Df b (by rcases hb with rfl|rfl|hb;exact NZ.l;exact NZ.m;exact NZ.r b hb))<|uj (S:=S1) (E:=E) _;have pU:=zF.mG<|uj (E:=E)<|.cells #[.int .i64 x.k,.int .i64 x.p,.int .i64 x.t,.string x.s] 55;have Q4:dN (grow S1 w4<|w4.alloc<|.cells #[.int .i64 x.k,.int .i64 x.p,.int .i64 x.t,.string x.s] 55) (w4.alloc<|.cells #[.int .i64 x.k,.int .i64 x.p,.int .i64 x.t,.string x.s] 55) bb #[.int .i64 x.k,.int .i64 x.p,.int .i64 x.t,.string x.s] 55:=⟨.inl Et.1,by rw[aB3 w4 _ bb<|Df bb Et.1];exact Et.2⟩;have rE:dN (grow S1 w4<|w4.alloc<|.cells #[.int .i64 x.k,.int .i64 x.p,.int .i64 x.t,.string x.s] 55) (w4.alloc<|.cells #[.int .i64 x.k,.int .i64 x.p,.int .i64 x.t,.string x.s] 55) w4.heap.size #[.int .i64 x.k,.int .i64 x.p,.int .i64 x.t,.string x.s] 55:=⟨.inr ⟨bV _,by simp⟩,aB0 _ _⟩;have hz5:∀b,(grow S1 w4<|w4.alloc<|.cells #[.int .i64 x.k,.int .i64 x.p,.int .i64 x.t,.string x.s] 55) b->b<(w4.alloc<|.cells #[.int .i64 x.k,.int .i64 x.p,.int .i64 x.t,.string x.s] 55).heap.size:=fun b hb=>by
  rcases hb with hb|hb
  ·have:=Df b hb;simp<;>omega
  ·exact hb.2
 refine⟨fun _=>⟨⟨Bq.l,Bq.log.blk⟩,Q4⟩,?_⟩;generalize grow S1 w4 (w4.alloc<|.cells #[.int .i64 x.k,.int .i64 x.p,.int .i64 x.t,.string x.s] 55)=S2 at*
 generalize w4.alloc (.cells #[.int .i64 x.k,.int .i64 x.p,.int .i64 x.t,.string x.s] 55)=w5 at*
 generalize w4.heap.size=cc at*
 walk_nrm;refine V8 (rs:=[7]) (by kernel_rfl) (by simp) fun i hi=>?_;obtain rfl:i=7:=by simpa using hi
 refine oW.jM rfl rfl fun w6 qR=>?_;have nM:=Bq.aP qR;have hX6:=Q4.aP qR;have vO:=rE.aP qR;have Wh:=pU.aP qR;have N7:∀b,S2 b->b<w6.heap.size:=fun b hb=>dY (hz5 b hb) qR.size;obtain⟨i0,dF,gG,fO,iH⟩:=aCf YR;obtain⟨g,cap,w7,IV,Q5,zY,Gv,KJ⟩:=aDl (P:=prog) w6 49 49 B 55 i0 _ 4 40 underlying49 dF gG fO iH rfl (by omega) v s.es.length (oh s.es) nM.log.row ⟨cc,0,af⟩ 1 1 [.int .i64 x.k,.int .i64 x.p,.int .i64 x.t,.string x.s] rfl (aB9 vO.2) (by simp[Value.oneCell']) (by omega) (by simp only[dH];omega) hb (YO<|YF nM.log.hl<|N7 lb nM.l) _ rfl;have TQ:=aC6 (P:=prog) w6 B 49 49 55 i0 _ 4 40 underlying49 dF gG fO iH v s.es.length (oh s.es) nM.log.row ⟨cc,0,af⟩ 1 1 [.int .i64 x.k,.int .i64 x.p,.int .i64 x.t,.string x.s] rfl (aB9 vO.2) (by simp[Value.oneCell']) (by simp only[dH];omega) hb;have IW:iO S2 E w6 w7 ((Builtin.append_ #[49,49] 49 #[v,.slice (ae ⟨cc,0,af⟩) 1 1]).events prog w6 #[]):=aa2 zY nM.r (fun s h5 hs hw=>((ai.NJ (ai.VU h5).toFit<|ok_two (Q3 nM.log.row fun k hk z=>(hs k z).1<|nM.r k hk) (.slice fun y hy z=>by cases hy;exact(hs _ z).1 vO.1)).CV hw IV fun b hb=>(hs b hb).2).2) fun e he=>by
  rcases TQ e he with⟨ad,h1,h2|h2⟩|⟨m,rfl,h2⟩
  ·exact(show lT _ _ _ by unfold lT;rw[h1];exact .inl<|.inl<|h2.2▸vO.1)
  ·exact(show lT _ _ _ by unfold lT;rw[h1];exact .inl<|.inl<|nM.r _ h2.symm)
  ·exact h2
 refine⟨(.slice (ae ⟨g,0,af⟩) (s.es.length+1) cap),w7,.inl ?_,?_,?_⟩
 ·exact We (.tmp 8) (.tmp 10) 49 rfl rfl rfl IV
 ·rw[aCW (.tmp 8) (.tmp 10) 49 rfl rfl rfl];exact IW
 have bM:=nM.log.JP;have hnm:=nM.log.YQ;have Q7:(grow S2 w6 w7) g:=by
  rcases Gv with h1|h1
  ·exact .inl<|nM.r g h1
  ·exact .inr ⟨by omega,KJ⟩
 have hb7:∀b,S2 b->ae b≠v.ownBlock->w7.heap[b]? =w6.heap[b]? :=fun b hb hn=>zY.block b (N7 b hb) hn;have Yl:g≠lb:=by
  rcases Gv with h1|h1
  ·rintro rfl;exact bM h1
  ·have:=N7 lb nM.l;omega
 have hgm:g≠bm:=by
  rcases Gv with h1|h1
  ·rintro rfl;exact hnm h1
  ·have:=N7 bm nM.m;omega
 have Ym:dN (grow S2 w6 w7) w7 lb #[v,.int .i64 s.d,.map<|ae bm] 163:=⟨.inl nM.l,by rw[hb7 lb nM.l<|iI bM];exact nM.log.blk⟩;have hO7:Own (grow S2 w6 w7) w7 B 55 4 (.slice (ae ⟨g,0,af⟩) (s.es.length+1) cap) (s.es.length+1) (oh s.es++[.int .i64 x.k,.int .i64 x.p,.int .i64 x.t,.string x.s]):=⟨Q5,fun k hk=>by simp only[Value.ownBlock,fJ]at hk;exact hk▸Q7⟩;have hm7:=aa3 nM.log.map<|hb7 bm nM.m<|iI hnm;have hmS:(grow S2 w6 w7) bm:=.inl nM.m;have Q8:=Wh.mG IW;have hX7:dN (grow S2 w6 w7) w7 bb #[.int .i64 x.k,.int .i64 x.p,.int .i64 x.t,.string x.s] 55:=⟨.inl hX6.1,by rw[hb7 bb hX6.1 fun e=>by have:=aB bb<|.inr<|.inr e.symm;omega];exact hX6.2⟩;refine⟨fun _=>⟨Ym,hX7⟩,?_⟩;generalize grow S2 w6 w7=S3 at*
 walk_nrm;refine oZ hI hQ uN (i:=8) rfl (by kernel_rfl) (by kernel_rfl) (by kernel_rfl) (by kernel_rfl) (v:=_) ⟨rfl,fun S' w' hi=>⟨by go_simp<;>rfl,fun e he=>?_⟩⟩ ⟨Ym,hX7⟩ ?_
 ·have hm:=aB6 he;simp[go_sem]at hm
 walk_nrm;refine oZ hI hQ uN (i:=9) rfl (by kernel_rfl) (by kernel_rfl) (by kernel_rfl) (by kernel_rfl) (v:=_) ⟨rfl,fun S' w' hi=>⟨by go_simp<;>rfl,fun e he=>?_⟩⟩ ⟨Ym,hX7⟩ ?_
 ·have hm:=aB6 he;simp[go_sem]at hm
 walk_nrm;refine V8 (rs:=[10]) (by kernel_rfl) (by simp) fun i hi=>?_;obtain rfl:i=10:=by simpa using hi
 refine oW.jM rfl rfl fun w8 Yn=>?_;have IX:=Ym.aP Yn;have Gx:=hO7.aP Yn;have hm8:=aa3 hm7<|Yn.own bm hmS;have Q9:=Q8.aP Yn;have c0:w8.cell? ⟨lb,0,af⟩=ae v:=by rw[aG IX.2];rfl
 have f0:w8.frozen? ⟨lb,0,af⟩=false:=jP IX.2 0;have Rf:iO S3 E w8 (w8.setCell ⟨lb,0,af⟩<|.slice (ae ⟨g,0,af⟩) (s.es.length+1) cap) #[⟨.cell ⟨lb,0,af⟩,true,false⟩]:=Gu IX.1 (fun _ hB=>.slice fun y hy z=>by cases hy;exact hB _ z<|Gx.r g rfl) fun e he=>by simp at he;subst he;exact .inl IX.1
 refine⟨ag,w8.setCell ⟨lb,0,af⟩<|.slice (ae ⟨g,0,af⟩) (s.es.length+1) cap,.inr ⟨rfl,by go_simp⟩,?_,fun h=>absurd h (by rw[show IU _ _ 10=true by kernel_rfl];simp),?_⟩
 ·exact Gu IX.1 (fun _ hB=>.slice fun y hy z=>by cases hy;exact hB _ z<|Gx.r g rfl) fun e he=>by
   simp[go_sem,aCI,storedEv,c0,f0]at he;subst he;exact .inl IX.1
 refine ag3 (by kernel_rfl) ⟨rfl,(.slice (ae ⟨g,0,af⟩) (s.es.length+1) cap),⟨⟨?_,?_,?_,nM.log.hl,nM.log.hm⟩,.inl IX.1,.inl hmS,fun k hk=>.inl<|Gx.r k hk⟩,Q9.mG Rf⟩ _
 ·rw[jQ IX.2];rfl
 ·have:w8.setCell ⟨lb,0,af⟩ (.slice (ae ⟨g,0,af⟩) (s.es.length+1) cap) |>.ownsRow B 55 4 (.slice (ae ⟨g,0,af⟩) (s.es.length+1) cap) (s.es.length+1) (oh s.es++[.int .i64 x.k,.int .i64 x.p,.int .i64 x.t,.string x.s]):=(Gx.of (S':=S3) (fun _ h=>h) fun k hk=>by
   simp only[Value.ownBlock,fJ]at hk;exact aB5 w8 _ _ k (by subst hk;exact Yl)).row
  simpa[aA.put,adP,gm.cs]using this
 ·exact aa3 hm8<|aB5 w8 _ _ bm<|iI nM.log.ne
end Twin
end
section
namespace Twin
open Go Go.Proofs Go.Conc Go.RowKit Go.Maps
variable{E:cO}{S S':aC}{w w':ah}{bm n:Nat}
def au.Rh{P:dO}{main:Bool}{Stop:aC->aX->ah->Prop}{b:aV}{a:Act}{k:List Item}{cs:List aV}{ops:Array Oper}{i:Nat}{rest:List Nat}{o:Oper}{f:FuncId}{lF:Func}{c:Code}{args:Array Operand}{kP:Array bW}{mi:aj->aC->ah->Prop}
 (ho:ops[i]? =ae o)(hw:Region.wanted o (yielded ops a.tmps)=true)(hk:b.kind≠.early)(aF:o.op=.call {callee:=.value<|.func f,args,argTypes:=kP})
 (hf:P.funcs[f]? =ae lF)(Ht:(lF.name== "runtime.NumGoroutine")=false)(hb:lF.body=ae c){vs:Array aj}(hv:args.map a.eval=vs)(h:qN P main E f vs S w mi)
 (hn:∀v S' w',mi v S' w'->au P main E Stop S' (G (b.at (a.put o.dst v)<|.inRegion ops rest::k) cs) w'):au P main E Stop S (G (b.at a<|.inRegion ops (i::rest)::k) cs) w:=
 .call ho hw hk aF hf Ht hb (hv▸h b a ops i rest k cs Stop lF c hf hb fun v S' w' hp=>by rw[ho];exact hn v S' w' hp)
def jL.refl:jL S E w S w:=QY<|aQ.refl _ _ _
def jL.trans{S'':aC}{JC:ah}(h:jL S E w S' w')(k:jL S' E w' S'' JC):jL S E w S'' JC:=by
 have h1:=h.size;have h2:=k.size;refine⟨fun b hb=>k.own b<|h.own b hb,by omega,fun b hb=>?_,k.tape.trans h.tape,k.os.trans h.os,k.output.trans h.output,fun b hb aB hn=>?_⟩
 ·rcases k.new b hb with hb|hb
  ·exact(h.new b hb).imp id fun x=>⟨x.1,by omega⟩
  ·exact .inr ⟨by omega,hb.2⟩
 ·rw[k.ro b hb (by omega) fun z=>(h.new b z).elim hn fun y=>by omega,h.ro b hb aB hn]
def jL.below(h:jL S E w S' w')(hS:∀b,S b->b<w.heap.size):∀b,S' b->b<w'.heap.size:=fun b hb=>by
 have:=h.size;rcases h.new b hb with h1|h1
 ·have:=hS b h1;omega
 ·exact h1.2
def ag8{nw:Int->Option (Int×Bool)}(h:iV w prog 3 bm n (iW nw))(hm:S bm)(p t:Int)(c:Bool){w2:ah}(hr:(Instr.mapUpdate 161 (.map<|ae bm) (.int .i64 p)<|.agg #[.int .i64 t,.bool c]).run prog w=.ok () w2)(f:Fr (fun k=>k=bm) w w2):
 iO S E w w2 ((Instr.mapUpdate 161 (.map<|ae bm) (.int .i64 p)<|.agg #[.int .i64 t,.bool c]).events prog w #[]):=
 ⟨f.tape,f.os,f.output,f.size,fun b hb hS=>f.block b hb fun e=>hS<|e▸hm,fun e he=>evg (.inl hm)<|aqL h p _ e he,fun s h5 hs hw=>by
  have hC:ai.Clean (ai.uh s) prog (fun _=>True) (Instr.mapUpdate 161 (.map<|ae bm) (.int .i64 p)<|.agg #[.int .i64 t,.bool c]):=ai.aac (ai.VU h5).toFit (ai.az.map fun y hy z=>by cases hy;exact(hs _ z).1 hm) ai.az.int (ai.az.agg fun u hu=>by
   simp at hu;rcases hu with rfl|rfl
   ·exact .int
   ·exact .bool)
  exact(hC.CV hw hr fun b hb=>(hs b hb).2).2⟩
def aqR{B lb:Nat}{v:aj}{s:aA}(h:gB S w B lb bm n v s)(hS:∀b,S b->b<w.heap.size)(p t:Int)(c:Bool)(hp:(Lit.int .i64 p).wf=true)(hn:n<dH)(hb:(s.es.length+1)*40<=140737488355328):
 qN prog false E 187 #[.pointer<|ae ⟨lb,0,af⟩,.int .i64 p,.int .i64 t,.bool c] S w fun y S' w'=>y=.bool (s.isOpen p t)/\∃v',gB S' w' B lb bm (n+1) v' (s.closed p t c)/\jL S E w S' w':=by
 intro b₀ a₀ ops i rest k cs Stop fn c' hf hc D7;obtain rfl:fn=Tryz.f187:=by rw[func187]at hf;exact(qE hf).symm
 obtain rfl:c'=(Tryz.f187.body.getD .skip):=by rw[hc];rfl
 simp only[Tryz.f187,gQ];walk_nrm;refine au.sq ?_;refine au.reg [0] rfl ?_;refine au.mu rfl rfl ?_;walk_nrm;refine au.fA ?_;refine au.sq ?_;refine au.sq ?_;refine au.reg [0,1,2,3,4] rfl ?_;refine au.mu rfl rfl ?_;walk_nrm;refine au.mu rfl rfl ?_;walk_nrm;refine au.mu rfl rfl ?_;walk_nrm;refine au.Rh rfl rfl (by decide) rfl func122 rfl rfl (by walk_nrm) (aqN h.log h.l h.m h.r p t hp) ?_;rintro x S' w1 ⟨rfl,aI,rfl⟩;have h1:=h.aP aI;have uX:∀b,S' b->b<w1.heap.size:=fun b hb=>dY (hS b hb) aI.size;have JD:=QY aI;walk_nrm;refine au.mute (.bool<|!s.isOpen p t) rfl rfl (by decide) (fun _=>by go_simp<;>rfl) (fun _=>by simp[go_sem]) ?_;walk_nrm;refine au.fA ?_;by_cases ho:s.isOpen p t=true
 ·have hs:s.closed p t c=(s.put ⟨if c then 2 else 3,p,t,⟨#[]⟩⟩).set p t false:=by cases c<;>simp[aA.closed,ho,aA.wJ]
  simp only[ho,MW];refine au.ctl rfl (fun _=>aCe (t:=false)<|by rfl) ?_;refine au.ctl rfl (fun _=>aCg) ?_;refine au.sq ?_;refine au.reg [0] rfl ?_;refine au.mu rfl rfl ?_;walk_nrm;refine au.fA ?_;refine au.sq ?_;refine au.sq ?_;refine au.reg [0] rfl ?_;refine au.mu rfl rfl ?_;walk_nrm;refine au.fA ?_;have kY:keyOf prog 3 (.int .i64 p)=ae (.int .i64 p):=aCO underlying3 hp;cases c
  ·simp only[lq,lu]at hs;refine au.ctl rfl (fun _=>aCe (t:=false)<|by rfl) ?_;refine au.ctl rfl (fun _=>aCg) ?_;refine au.sq ?_;refine au.reg [0,1,2,3,4,5] rfl ?_;refine au.mu rfl rfl ?_;walk_nrm;refine au.mu rfl rfl ?_;walk_nrm;refine au.mu rfl rfl ?_;walk_nrm;refine au.mu rfl rfl ?_;walk_nrm;refine au.mu rfl rfl ?_;walk_nrm;refine au.Rh rfl rfl (by decide) rfl func184 rfl rfl (by walk_nrm) (ag5 h1 uX ⟨3,p,t,⟨#[]⟩⟩ hb) ?_;rintro x S2 w2 ⟨v',h2,AB⟩;have kM:∀w3,aQ S2 E w2 w3->w3.cell? ⟨lb,2,af⟩=ae (.map<|ae bm):=fun w3 hk=>by rw[aG (h2.aP hk).log.blk];rfl
   walk_nrm;refine au.fA ?_;refine au.sq ?_;refine au.reg [0,1,2,3,4,5,6,7] rfl ?_;refine au.mu rfl rfl ?_;walk_nrm;refine au.mu rfl rfl ?_;walk_nrm;refine au.mu rfl rfl ?_;walk_nrm;refine au.val (.map<|ae bm) rfl rfl (by decide) (fun w3 jW=>by have hc:=kM w3 jW;go_simp) (fun w3 jW e he=>?_) ?_
   ·have hc:=kM w3 jW;simp[go_sem,hc]at he;subst he;exact .inl h2.l
   walk_nrm;refine au.mu rfl rfl ?_;walk_nrm;refine au.mu rfl rfl ?_;walk_nrm;refine au.mu rfl rfl ?_;walk_nrm;refine au.jM rfl rfl (by decide) fun w3 jW=>?_;have h3:=h2.aP jW;obtain⟨w4,hr4,hm4,ht4⟩:=h3.log.map.store zN underlying161 hn kY (val:=.agg #[.int .i64 t,.bool false]) (g:=iW ((s.put ⟨3,p,t,⟨#[]⟩⟩).set p t false).nw) (MX _ _ _ _)<|MZ _ _ _ _;have f4:Fr (fun k=>k=bm) w3 w4:=(Fr.refl (fun k=>k=bm) w3).JO ht4<|.inl rfl;have JE:=ag8 (E:=E) h3.log.map h3.m p t false hr4 f4;refine⟨ag,w4,.inr ⟨rfl,by go_simp⟩,?_,?_⟩
   ·simpa[dJ,Act.eval,go_sem]using JE
   walk_nrm;have h4:gB (grow S2 w3 w4) w4 B lb bm (n+1) v' ((s.put ⟨3,p,t,⟨#[]⟩⟩).set p t false):=⟨h3.log.Na f4 hm4,.inl h3.l,.inl h3.m,fun k hk=>.inl<|h3.r k hk⟩;have zF:=((JD.trans AB).aP jW).mG JE;refine au.fA ?_;refine au.sq ?_;refine au.reg [0] rfl ?_;refine au.mu rfl rfl ?_;walk_nrm;refine au.fA ?_;refine au.ctl rfl (fun _=>aCi) ?_;refine au.leave1 rfl rfl func187 rfl ?_;walk_nrm;exact D7 _ _ _ ⟨by rw[ho],v',hs▸h4,zF⟩
  ·simp only[if_true]at hs;refine au.ctl rfl (fun _=>aCe (t:=true)<|by rfl) ?_;refine au.reg [0] rfl ?_;refine au.mu rfl rfl ?_;walk_nrm;refine au.fA ?_;refine au.sq ?_;refine au.reg [0,1,2,3,4,5] rfl ?_;refine au.mu rfl rfl ?_;walk_nrm;refine au.mu rfl rfl ?_;walk_nrm;refine au.mu rfl rfl ?_;walk_nrm;refine au.mu rfl rfl ?_;walk_nrm;refine au.mu rfl rfl ?_;walk_nrm;refine au.Rh rfl rfl (by decide) rfl func184 rfl rfl (by walk_nrm) (ag5 h1 uX ⟨2,p,t,⟨#[]⟩⟩ hb) ?_;rintro x S2 w2 ⟨v',h2,AB⟩;have kM:∀w3,aQ S2 E w2 w3->w3.cell? ⟨lb,2,af⟩=ae (.map<|ae bm):=fun w3 hk=>by rw[aG (h2.aP hk).log.blk];rfl
   walk_nrm;refine au.fA ?_;refine au.sq ?_;refine au.reg [0,1,2,3,4,5,6,7] rfl ?_;refine au.mu rfl rfl ?_;walk_nrm;refine au.mu rfl rfl ?_;walk_nrm;refine au.mu rfl rfl ?_;walk_nrm;refine au.val (.map<|ae bm) rfl rfl (by decide) (fun w3 jW=>by have hc:=kM w3 jW;go_simp) (fun w3 jW e he=>?_) ?_
   ·have hc:=kM w3 jW;simp[go_sem,hc]at he;subst he;exact .inl h2.l
   walk_nrm;refine au.mu rfl rfl ?_;walk_nrm;refine au.mu rfl rfl ?_;walk_nrm;refine au.mu rfl rfl ?_;walk_nrm;refine au.jM rfl rfl (by decide) fun w3 jW=>?_;have h3:=h2.aP jW;obtain⟨w4,hr4,hm4,ht4⟩:=h3.log.map.store zN underlying161 hn kY (val:=.agg #[.int .i64 t,.bool false]) (g:=iW ((s.put ⟨2,p,t,⟨#[]⟩⟩).set p t false).nw) (MX _ _ _ _)<|MZ _ _ _ _;have f4:Fr (fun k=>k=bm) w3 w4:=(Fr.refl (fun k=>k=bm) w3).JO ht4<|.inl rfl;have JE:=ag8 (E:=E) h3.log.map h3.m p t false hr4 f4;refine⟨ag,w4,.inr ⟨rfl,by go_simp⟩,?_,?_⟩
   ·simpa[dJ,Act.eval,go_sem]using JE
   walk_nrm;have h4:gB (grow S2 w3 w4) w4 B lb bm (n+1) v' ((s.put ⟨2,p,t,⟨#[]⟩⟩).set p t false):=⟨h3.log.Na f4 hm4,.inl h3.l,.inl h3.m,fun k hk=>.inl<|h3.r k hk⟩;have zF:=((JD.trans AB).aP jW).mG JE;refine au.fA ?_;refine au.sq ?_;refine au.reg [0] rfl ?_;refine au.mu rfl rfl ?_;walk_nrm;refine au.fA ?_;refine au.ctl rfl (fun _=>aCi) ?_;refine au.leave1 rfl rfl func187 rfl ?_;walk_nrm;exact D7 _ _ _ ⟨by rw[ho],v',hs▸h4,zF⟩
 ·have hs:s.closed p t c=s:=by simp[aA.closed,ho]
  have sS:s.isOpen p t=false:=by simpa using ho
  simp only[sS,adN];refine au.ctl rfl (fun _=>aCe (t:=true)<|by rfl) ?_;refine au.sq ?_;refine au.reg [0] rfl ?_;refine au.mu rfl rfl ?_;walk_nrm;refine au.fA ?_;refine au.ctl rfl (fun _=>aCi) ?_;refine au.leave1 rfl rfl func187 rfl ?_;walk_nrm;exact D7 _ _ _ ⟨by rw[sS],v,by rw[hs];exact⟨h1.log.mono<|Nat.le_succ n,h1.l,h1.m,h1.r⟩,JD⟩
end Twin
end
section
namespace Twin
open Go Go.Proofs Go.Conc
variable{S L:aC}{E:cO}{P:dO}{main:Bool}{w:ah}{f:FuncId}{args:Array aj}{mi:aj->aC->ah->Prop}{B lb bm n:Nat}{v:aj}{s:aA}
def lT.mono{T:aC}{e:Event}(h:lT S E e)(hT:∀b,S b->T b):lT T E e:=by
 unfold lT at*
 split<;>simp_all
 ·exact h.imp (hT _) id
 ·exact h.2.imp (hT _) id
def au.frame{Stop:aC->aX->ah->Prop}{g:aX}(h:au P main E Stop S g w):∀(F:aC) (_:∀b,F b->b<w.heap.size) (_:∀b,F b->¬S b),
 au P main E (fun S' g' w'=>∃S0,Stop S0 g' w'/\S'=(fun b=>S0 b\/F b)/\∀b,F b->w'.heap[b]? =w.heap[b]?) (fun b=>S b\/F b) g w:=by
 induction h with
 | @stop S g w h=>exact fun F hF hn=>.stop fun w1 hk=>⟨S,h w1<|hk.mono (fun b hb=>.inl<|.inl hb) fun b hb=>.inr hb,rfl,fun b hb=>hk.own b<|.inr hb⟩
 | @step S g w hr f hs _ ih=>
   intro F hF hn;have dC:∀w1,aQ (fun b=>S b\/F b) E w w1->aQ S E w w1:=fun w1 hk=>hk.mono (fun b hb=>.inl<|.inl hb) fun b hb=>.inr hb;have hg:∀w1 w2:ah,grow (fun b=>S b\/F b) w1 w2=(fun b=>grow S w1 w2 b\/F b):=fun w1 w2=>by
    funext b;simp only[grow,eq_iff_iff];constructor
    ·rintro((h|h)|h)
     ·exact .inl<|.inl h
     ·exact .inr h
     ·exact .inl<|.inr h
    ·rintro((h|h)|h)
     ·exact .inl<|.inl h
     ·exact .inr h
     ·exact .inl<|.inr h
   refine .step hr f (fun w1 hk=>?_) fun w1 hk=>?_
   ·obtain⟨h1,h2⟩:=hs w1<|dC w1 hk;exact⟨h1,h2.tape,h2.os,h2.output,h2.size,fun b hb hn'=>h2.still b hb fun x=>hn'<|.inl x,fun e he=>by rw[hg];exact(h2.evs e he).mono fun b hb=>.inl hb,fun s h5 hs hw=>h2.ok s h5 (fun b hb=>⟨fun x=>(hs b hb).1<|.inl x,(hs b hb).2⟩) hw⟩
   ·obtain⟨_,h2⟩:=hs w1<|dC w1 hk;have hz:=hk.size;have iH:=h2.size;rw[hg];refine(ih w1 (dC w1 hk) F (fun b hb=>by have:=hF b hb;omega) fun b hb hx=>?_).mono ?_
    ·rcases hx with hx|hx
     ·exact hn b hb hx
     ·have:=hF b hb;omega
    ·rintro S' g' w' ⟨S0,h0,e0,h3⟩;exact⟨S0,h0,e0,fun b hb=>by rw[h3 b hb,h2.still b (by have:=hF b hb;omega)<|hn b hb,hk.own b<|.inr hb]⟩
def qN.mono{TR:aj->aC->ah->Prop}(h:qN P main E f args S w mi)(h':∀v S' w',mi v S' w'->TR v S' w'):qN P main E f args S w TR:=
 fun b₀ a₀ ops i rest k cs Stop fn c hf hb hn=>h b₀ a₀ ops i rest k cs Stop fn c hf hb fun v S' w' hp=>hn v S' w'<|h' v S' w' hp
def qN.frame(h:qN P main E f args L w mi)(hP:∀v S' x y,mi v S' x->aQ S' E x y->mi v S' y)(hL:∀b,L b->S b)(hS:∀b,S b->b<w.heap.size):
 qN P main E f args S w fun v S' w'=>∃S0,mi v S0 w'/\(∀b,S0 b->S' b)/\(∀b,S' b->S0 b\/S b)/\∀b,S b->¬L b->S' b/\w'.heap[b]? =w.heap[b]? :=by
 intro b₀ a₀ ops i rest k cs Stop fn c hf hb hn;have h1:=h b₀ a₀ ops i rest k cs (fun S' g' w'=>∃v,mi v S' w'/\g'=G (b₀.at (a₀.put ((ops[i]?).bind (·.dst)) v)<|.inRegion ops rest::k) cs) fn c hf hb fun v S' w' hp=>.stop fun w1 hk=>⟨v,hP v S' w' w1 hp hk,rfl⟩;have h2:=h1.frame (fun b=>S b/\¬L b) (fun b hb=>hS b hb.1) fun b hb=>hb.2;have e:(fun b=>L b\/(S b/\¬L b))=S:=by
  funext b;simp only[eq_iff_iff];constructor
  ·rintro(h|h)
   ·exact hL b h
   ·exact h.1
  ·intro h;by_cases hl:L b
   ·exact .inl hl
   ·exact .inr ⟨h,hl⟩
 rw[e]at h2;refine h2.trans ?_;rintro S' g' w' ⟨S0,⟨v,hp,rfl⟩,rfl,hF⟩;exact hn v _ w' ⟨S0,hp,fun b hb=>.inl hb,fun b hb=>hb.imp id And.left,fun b h1 h2=>⟨.inr ⟨h1,h2⟩,hF b ⟨h1,h2⟩⟩⟩
def kK(lb bm:Nat)(v:aj):aC:=fun b=>b=lb\/b=bm\/v.ownBlock=ae b
def gB.own(h:gB S w B lb bm n v s):gB (kK lb bm v) w B lb bm n v s:=⟨h.log,.inl rfl,.inr<|.inl rfl,fun _ hk=>.inr<|.inr hk⟩
def gB.sub(h:gB S w B lb bm n v s):∀b,kK lb bm v b->S b:=by
 rintro b (rfl|rfl|hb)
 ·exact h.l
 ·exact h.m
 ·exact h.r b hb
def gB.lt(h:gB S w B lb bm n v s):∀b,kK lb bm v b->b<w.heap.size:=fun _ hb=>h.log.rV hb
def gB.mono{T:aC}(h:gB S w B lb bm n v s)(hT:∀b,S b->T b):gB T w B lb bm n v s:=⟨h.log,hT _ h.l,hT _ h.m,fun k hk=>hT k<|h.r k hk⟩
def jL.wide{S0 S':aC}{w':ah}(h:jL L E w S0 w')(hL:∀b,L b->S b)(h1:∀b,S0 b->S' b)(h2:∀b,S' b->S0 b\/S b)(h3:∀b,S b->¬L b->S' b):jL S E w S' w':=
 ⟨fun b hb=>by
  by_cases hl:L b
  ·exact h1 b<|h.own b hl
  ·exact h3 b hb hl,h.size,fun b hb=>(h2 b hb).elim (fun x=>(h.new b x).imp (hL b) id) .inl,h.tape,h.os,h.output,fun b hb aB hn=>h.ro b hb aB fun x=>hn<|hL b x⟩
def aqS(h:gB S w B lb bm n v s)(hS:∀b,S b->b<w.heap.size)(p t:Int)(c:Bool)(hp:(Lit.int .i64 p).wf=true)(hn:n<dH)(hb:(s.es.length+1)*40<=140737488355328):
 qN prog false E 187 #[.pointer<|ae ⟨lb,0,af⟩,.int .i64 p,.int .i64 t,.bool c] S w fun y S' w'=>y=.bool (s.isOpen p t)/\(∃v',gB S' w' B lb bm (n+1) v'<|s.closed p t c)/\jL S E w S' w'/\∀b,S b->¬kK lb bm v b->w'.heap[b]? =w.heap[b]? :=by
 refine((aqR h.own h.lt p t c hp hn hb).frame ?_ h.sub hS).mono ?_
 ·rintro y S' x1 y1 ⟨rfl,v',h1,h2⟩ hk;exact⟨rfl,v',h1.aP hk,h2.aP hk⟩
 ·rintro y S' w' ⟨S0,⟨rfl,v',h1,h2⟩,h3,h4,h5⟩;exact⟨rfl,⟨v',h1.mono h3⟩,h2.wide h.sub h3 h4 fun b x y=>(h5 b x y).1,fun b x y=>(h5 b x y).2⟩
end Twin
end
end Go.Proofs.YtkelpcjiediamaaGreat
