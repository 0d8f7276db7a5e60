import Derived.Test.YtkelpcjiediamaaGreatQd21
import Derived.Conc.AppendEvents3
import Derived.Conc.AppendWalk
import Derived.Conc.WgWords
set_option maxRecDepth 100000
set_option maxHeartbeats 0
set_option linter.all false
namespace Go.Proofs.YtkelpcjiediamaaGreat
def aEE:=@Go.events_indexAt_slice
def aEH:=@Go.ConcR.Gen.events_store_slice
def aEW:=@Go.Conc.events_append_op
def aE5:=@Go.events_append_where
def aFe:=@Go.events_store_chan
def aFh:=@Go.Conc.stepG_exit
def aFl:=@Go.run_append_lies
open Go renaming Frame→bu,Goroutine→bF,Program→eF,TypeId→dw,Value→az,World→aj,execOp→dP,maxLen→dU,stepG→bD,undef→ai
open Go.IntKind renaming i64→ah
open Go.Item renaming inRegion→bQ
open Go.Obj renaming cells→aC
open Go.Value renaming agg→gY,bool→aB,int→ag,pointer→ay,slice→aJ,string→dA,tuple→dK
open Option renaming none→af,some→ae
open Go.Proofs.Tryz
section
namespace Twin
open Go Go.Proofs Go.Conc Go.RowKit Go.Maps
structure iD(S:aN)(w:aj)(B lb bm n:Nat)(v:az)(s:aH):Prop where
 log:dY w B lb bm v n s
 l:S lb
 m:S bm
 r:∀k,v.ownBlock=ae k->S k
variable{S S':aN}{E:dD}{w w1 w' KI:aj}{B lb bm n:Nat}{v:az}{s:aH}{es:Array Event}
def iD.aY(h:iD S w B lb bm n v s)(hk:bg S E w w1):iD S w1 B lb bm n v s:=⟨acu h.log h.l h.m h.r hk,h.l,h.m,h.r⟩
def dZ(S:aN)(w:aj)(b:Nat)(cs:Array az)(t:dw):Prop:=S b/\w.heap[b]? =ae (.cells cs t (0,0))
def dZ.aY{b:Nat}{cs:Array az}{t:dw}(h:dZ S w b cs t)(hk:bg S E w w1):dZ S w1 b cs t:=⟨h.1,by rw[hk.own b h.1];exact h.2⟩
def kz.aY(h:kz S E w S' w')(hk:bg S' E w' KI):kz S E w S' KI:=
 ⟨h.own,eG h.size hk.size,fun b hb=>(h.new b hb).imp id fun x=>⟨x.1,fK x.2 hk.size⟩,hk.tape.trans h.tape,hk.os.trans h.os,hk.output.trans h.output,fun b h1 h2 h3=>(hk.ro b h1).trans<|h.ro b h1 h2 h3⟩
def SL(hk:bg S E w w'):kz S E w S w':=⟨fun _ h=>h,hk.size,fun _ h=>.inl h,hk.tape,hk.os,hk.output,fun b h _ _=>hk.ro b h⟩
def kz.nH(h:kz S E w S' w')(hG:je S' E w' KI es):kz S E w (grow S' w' KI) KI:=by
 have h1:=h.size;have h2:=hG.size;refine⟨fun b hb=>.inl<|h.own b hb,by omega,fun b hb=>?_,hG.tape.trans h.tape,hG.os.trans h.os,hG.output.trans h.output,fun b hb aI hn=>?_⟩
 ·rcases hb with hb|hb
  ·exact(h.new b hb).imp id fun x=>⟨x.1,by omega⟩
  ·exact .inr ⟨by omega,hb.2⟩
 ·rw[hG.still b (by omega) fun z=>(h.new b z).elim hn fun y=>by omega,h.ro b hb aI hn]
def uN(o:Obj)(ho:aca o=true:=by rfl):je S E w (w.alloc o) #[]:=⟨rfl,rfl,rfl,by simp,fun b hb _=>aD1 w o b hb,by simp,fun _ _ _ h=>h.push<|Si ho⟩
def wL(he:es=#[])(h:je S E w w' #[]):je S E w w' es:=he▸h
def iD.SQ(h:iD S w B lb bm n v s)(f:∀b,(b=lb\/b=bm\/v.ownBlock=ae b)->w'.heap[b]? =w.heap[b]?):iD (grow S w w') w' B lb bm n v s:=by
 refine⟨⟨by rw[f lb<|.inl rfl];exact h.log.blk,?_,?_,h.log.hl,h.log.hm⟩,.inl h.l,.inl h.m,fun k hk=>.inl<|h.r k hk⟩
 ·obtain⟨h1,h2⟩:=h.log.row;refine⟨h1,?_⟩;rcases h2 with h2|⟨g,cap,cur,rfl,hb,hg,r⟩
  ·exact .inl h2
  ·exact .inr ⟨g,cap,cur,rfl,hb,by rw[f g<|.inr<|.inr rfl];exact hg,r⟩
 ·obtain⟨D,⟨es,clock,hb,r⟩,h2⟩:=h.log.map;exact⟨D,⟨es,clock,by rw[f bm<|.inr<|.inl rfl];exact hb,r⟩,h2⟩
def iD.nH(h:iD S w B lb bm n v s)(f:∀b,(b=lb\/b=bm\/v.ownBlock=ae b)->w'.heap[b]? =w.heap[b]?)(_hG:je S E w w' es):iD (grow S w w') w' B lb bm n v s:=h.SQ f
structure Own(S:aN)(w:aj)(B:Nat)(t:dw)(size:Nat)(v:az)(n:Nat)(xs:List az):Prop where
 row:w.ownsRow B t size v n xs
 r:∀k,v.ownBlock=ae k->S k
variable{t:dw}{xs:List az}{a:Act}{P:eF}{o:Oper}{main:Bool}{fn:FuncId}{ops:Array Oper}{i:Nat}{K:Act->aN->aj->Prop}
def Own.of{size:Nat}(h:Own S w B t size v n xs)(hS:∀b,S b->S' b)(hk:∀k,v.ownBlock=ae k->w1.heap[k]? =w.heap[k]?):Own S' w1 B t size v n xs:=by
 refine⟨⟨h.row.1,?_⟩,fun k hk=>hS k<|h.r k hk⟩;rcases h.row.2 with h2|⟨g,cap,cur,rfl,hb,hg,r⟩
 ·exact .inl h2
 ·exact .inr ⟨g,cap,cur,rfl,hb,by rw[hk g rfl];exact hg,r⟩
def Own.aY{size:Nat}(h:Own S w B t size v n xs)(hk:bg S E w w1):Own S w1 B t size v n xs:=h.of (fun _ h=>h) fun k hv=>hk.own k<|h.r k hv
def acz{row:Option Nat}(hg:w.grownBy w' row)(hr:∀k,row=ae k->S k)(bP:∀s:Nat->Prop,(∀b,s b->1<=b)->(∀b,s b->¬S b/\(b<w.heap.size\/w'.heap.size<=b))->au.jX (au.uK s) w->au.jX (au.uK s) w')(dS:∀e∈es,mM (grow S w w') E e):je S E w w' es:=
 ⟨hg.tape,hg.os,hg.output,hg.size,fun b hb hS=>hg.block b hb fun e=>hS<|hr b e.symm,dS,bP⟩
def SS{B':au.cO}{size:Nat}(h:w.ownsRow B t size v n xs)(hv:∀k,v.ownBlock=ae k->¬B'.bZ k):au.aG B' v:=by
 rcases h.2 with h2|⟨g,cap,cur,rfl,hb,hg,r⟩
 ·rw[h2.1];exact .slice fun x hx=>by cases hx
 ·exact .slice fun x hx=>by cases hx;exact hv g rfl
def ok_two{B:au.cO}{a b:az}(ha:au.aG B a)(hb:au.aG B b):au.bT B #[a,b]:=fun v hv=>by
 simp at hv;rcases hv with rfl|rfl
 ·exact ha
 ·exact hb
def Ib{p:Addr}{u:az}(hp:S p.block)(hu:∀B:au.cO,(∀b,B.bZ b->¬S b)->au.aG B u)(dS:∀e∈es,mM S E e):je S E w (w.setCell p u) es:=
 ⟨rfl,rfl,rfl,by simp,fun b _ hS=>aD3 w p u b fun e=>hS<|e▸hp,fun e he=>by rw[sK<|by simp];exact dS e he,fun s _ hs hw=>hw.setCell<|hu (au.uK s) fun b hb=>(hs b hb).1⟩
def acA{b:Nat}{f:az->Option az}(h:jo w prog 3 b n f)(e:w1.heap[b]? =w.heap[b]?):jo w1 prog 3 b n f:=by
 obtain⟨D,⟨es,clock,hb,r⟩,h2⟩:=h;exact⟨D,⟨es,clock,e.trans hb,r⟩,h2⟩
def XD{xv v':az}(s x:Operand)(t:dw)
 (ho:o.op=.call {callee:=.builtin .append,args:=#[s,x],argTypes:=#[t,t]})(hs:a.eval s=v)(hx:a.eval x=xv)
 (hr:(Builtin.append_ #[t,t] o.type #[v,xv]).run P w=.ok v' w'):(dP a.eval o).run P w=.ok (.value v') w':=by
 unfold dP;simp only[ho,resolve,invoke,builtin,Sem.run_bind,Sem.run_pure,Result.andThen_ok,afh,uF,wC,hs,hx,hr]
def pO.kC(ho:ops[i]? =ae o)(hw:Region.wanted o (yielded ops a.tmps)=true)
 (h:∀w1,bg S E w w1->∃v w2,((dP a.eval o).run P w1=.ok (.value v) w2\/(v=ai/\(dP a.eval o).run P w1=.ok .skip w2))/\je S E w1 w2 ((dP a.eval o).events P w1 #[])/\K (a.put o.dst v) (grow S w1 w2) w2):pO P main E fn ops i K a S w:=by
 unfold pO;simp only[ho,hw,if_true];refine .inl fun w1 aQ=>?_;obtain⟨v,w2,hr,hG,hn⟩:=h w1 aQ;have Vm:je S E w1 w2 (listed P fn a o w1):=⟨hG.tape,hG.os,hG.output,hG.size,hG.still,fun e he=>hG.evs e<|aEJ he,hG.ok⟩;rcases hr with hr|⟨rfl,hr⟩
 ·rw[hr];exact⟨Vm,hn⟩
 ·rw[hr];exact⟨Vm,hn⟩
def pO.call{f:FuncId}{lX:Func}{c:Code}{args:Array Operand}{lK:Array dw}(ho:ops[i]? =ae o)(hw:Region.wanted o (yielded ops a.tmps)=true)(aO:o.op=.call {callee:=.value<|.func f,args,argTypes:=lK})
 (hf:P.funcs[f]? =ae lX)(IZ:(lX.name== "runtime.NumGoroutine")=false)(hb:lX.body=ae c)(h:rJ P main E f (args.map a.eval) S w fun v S' w'=>K (a.put o.dst v) S' w'):pO P main E fn ops i K a S w:=by
 unfold pO;simp only[ho,hw,if_true];exact .inr ⟨f,args,lK,lX,c,aO,hf,IZ,hb,h⟩
def aiC(h:iD S w B lb bm n v s)(hS:∀b,S b->b<w.heap.size)(x:iy)(hb:(s.es.length+1)*40<=140737488355328):
 rJ prog false E 184 #[ay<|ae ⟨lb,0,af⟩,gY #[ag ah x.k,ag ah x.p,ag ah x.t,dA x.s]] S w fun _ S' w'=>∃v',iD S' w' B lb bm n v' (s.put x)/\kz S E w S' w':=by
 intro b₀ a₀ ops i rest k cs Stop fn c hf hc ES;obtain rfl:fn=Tryz.f184:=by rw[func184]at hf;exact(qX hf).symm
 obtain rfl:c=(Tryz.f184.body.getD .skip):=by rw[hc];rfl
 simp only[Tryz.f184,ik];walk_nrm;refine aA.sq ?_;refine aA.reg [0] rfl ?_;refine aA.kC rfl rfl (by decide) fun w1 aQ=>?_;refine⟨ay<|ae ⟨w1.heap.size,0,af⟩,w1.alloc<|aC #[ag ah x.k,ag ah x.p,ag ah x.t,dA x.s] 55,.inl<|by go_simp,?_,?_⟩
 ·exact wL (by simp[go_sem])<|uN _
 walk_nrm;have aI:∀b,(b=lb\/b=bm\/v.ownBlock=ae b)->b<w1.heap.size:=fun b hb=>fK (hS b (by rcases hb with rfl|rfl|hb;exact h.l;exact h.m;exact h.r b hb)) aQ.size;have Zz:=(h.aY aQ).nH (w':=w1.alloc<|aC #[ag ah x.k,ag ah x.p,ag ah x.t,dA x.s] 55) (fun b hb=>aD1 w1 _ b<|aI b hb)<|uN (S:=S) (E:=E) _;have KJ:=(SL aQ).nH<|uN (E:=E)<|aC #[ag ah x.k,ag ah x.p,ag ah x.t,dA x.s] 55;have hX1:dZ (grow S w1<|w1.alloc<|aC #[ag ah x.k,ag ah x.p,ag ah x.t,dA x.s] 55) (w1.alloc<|aC #[ag ah x.k,ag ah x.p,ag ah x.t,dA x.s] 55) w1.heap.size #[ag ah x.k,ag ah x.p,ag ah x.t,dA x.s] 55:=⟨.inr ⟨dm _,by simp⟩,aDY _ _⟩;have gG:∀b,(grow S w1<|w1.alloc<|aC #[ag ah x.k,ag ah x.p,ag ah x.t,dA x.s] 55) b->b<(w1.alloc<|aC #[ag ah x.k,ag ah x.p,ag ah x.t,dA x.s] 55).heap.size:=fun b hb=>by
  rcases hb with hb|hb
  ·have:=hS b hb;have:=aQ.size;simp<;>omega
  ·exact hb.2
 generalize vX:grow S w1 (w1.alloc<|aC #[ag ah x.k,ag ah x.p,ag ah x.t,dA x.s] 55)=S1 at*
 generalize wu:w1.alloc (aC #[ag ah x.k,ag ah x.p,ag ah x.t,dA x.s] 55)=W1 at*
 generalize hbb:w1.heap.size=bb at*
 refine aA.fQ ?_;refine aA.drawn (X:=XC) (I:=fun S' w'=>dZ S' w' lb #[v,ag ah s.d,.map<|ae bm] 163/\dZ S' w' bb #[ag ah x.k,ag ah x.p,ag ah x.t,dA x.s] 55) (Q:=fun a S' w'=>a.defers=[]/\∃v',iD S' w' B lb bm n v' (s.put x)/\kz S E w S' w') rfl (by decide) (by kernel_rfl) ?_ (fun _ _ _ _ h=>h.elim) ?_
 ·rintro a S' w' ⟨hd,v',Dv,iT⟩;refine aA.ctl rfl (fun _=>stepG_end) ?_;refine aA.leave0 rfl hd func184 rfl ?_;exact ES _ _ _ ⟨v',Dv,iT⟩
 intro w2 kL;have hI:∀(S':aN) (x1 y1:aj),(dZ S' x1 lb #[v,ag ah s.d,.map<|ae bm] 163/\dZ S' x1 bb #[ag ah x.k,ag ah x.p,ag ah x.t,dA x.s] 55)->bg S' E x1 y1->(dZ S' y1 lb #[v,ag ah s.d,.map<|ae bm] 163/\dZ S' y1 bb #[ag ah x.k,ag ah x.p,ag ah x.t,dA x.s] 55):=fun _ _ _ h1 h2=>⟨h1.1.aY h2,h1.2.aY h2⟩;have hQ:∀(a:Act) (S':aN) (x1 y1:aj),(a.defers=[]/\∃v',iD S' x1 B lb bm n v' (s.put x)/\kz S E w S' x1)->bg S' E x1 y1->(a.defers=[]/\∃v',iD S' y1 B lb bm n v' (s.put x)/\kz S E w S' y1):=fun _ _ _ _ h1 h2=>⟨h1.1,h1.2.choose,h1.2.choose_spec.1.aY h2,h1.2.choose_spec.2.aY h2⟩;have xx:=Zz.aY<|kL.trans<|bg.at S1 E w2<|w2.drawn+1;have QC:=hX1.aY<|kL.trans<|bg.at S1 E w2<|w2.drawn+1;have BK:=KJ.aY<|kL.trans<|bg.at S1 E w2<|w2.drawn+1;have iU:∀b,S1 b->b<(w2.at<|w2.drawn+1).heap.size:=fun b hb=>fK (gG b hb) (kL.trans<|bg.at S1 E w2<|w2.drawn+1).size;change qQ _ _ _ _ _ _ _ _ _ _ _ _ _ (w2.at<|w2.drawn+1);generalize w2.at (w2.drawn+1)=w3 at xx QC BK iU⊢
 have qj:dZ S1 w3 lb #[v,ag ah s.d,.map<|ae bm] 163/\dZ S1 w3 bb #[ag ah x.k,ag ah x.p,ag ah x.t,dA x.s] 55:=⟨⟨xx.l,xx.log.blk⟩,QC⟩;clear Zz hX1 KJ gG kL;simp only[GK,oq,wB,Nat.reduceAdd,DK];refine pR hI hQ vJ (i:=0) rfl (by kernel_rfl) (by kernel_rfl) (by kernel_rfl) (by kernel_rfl) (v:=_) ⟨rfl,fun S' w' hi=>⟨by go_simp<;>rfl,fun e he=>?_⟩⟩ qj ?_
 ·have hm:=aD4 he;simp[go_sem]at hm
 walk_nrm;refine pR hI hQ vJ (i:=1) rfl (by kernel_rfl) (by kernel_rfl) (by kernel_rfl) (by kernel_rfl) (v:=_) ⟨rfl,fun S' w' hi=>⟨by go_simp<;>rfl,fun e he=>?_⟩⟩ qj ?_
 ·have hm:=aD4 he;simp[go_sem]at hm
 walk_nrm;refine pR hI hQ vJ (i:=2) rfl (by kernel_rfl) (by kernel_rfl) (by kernel_rfl) (by kernel_rfl) (v:=_) ⟨rfl,fun S' w' hi=>⟨by go_simp<;>rfl,fun e he=>?_⟩⟩ qj ?_
 ·have hm:=aD4 he;simp[go_sem]at hm
 walk_nrm;refine pR hI hQ vJ (i:=3) rfl (by kernel_rfl) (by kernel_rfl) (by kernel_rfl) (by kernel_rfl) (v:=_) ⟨rfl,fun S' w' hi=>⟨by go_simp<;>rfl,fun e he=>?_⟩⟩ qj ?_
 ·have hm:=aD4 he;simp[go_sem]at hm
 walk_nrm;refine pR hI hQ vJ (i:=4) rfl (by kernel_rfl) (by kernel_rfl) (by kernel_rfl) (by kernel_rfl) (v:=v) ⟨rfl,fun S' w' hi=>⟨?_,fun e he=>?_⟩⟩ qj ?_
 ·have hc:w'.cell? ⟨lb,0,af⟩=ae v:=by rw[aK hi.1.2];rfl
  go_simp
 ·have hc:w'.cell? ⟨lb,0,af⟩=ae v:=by rw[aK hi.1.2];rfl
  have hm:=aD4 he;simp[go_sem,hc]at hm;subst hm;exact .inl hi.1.1
 walk_nrm;refine pR hI hQ vJ (i:=5) rfl (by kernel_rfl) (by kernel_rfl) (by kernel_rfl) (by kernel_rfl) (v:=gY #[ag ah x.k,ag ah x.p,ag ah x.t,dA x.s]) ⟨rfl,fun S' w' hi=>⟨?_,fun e he=>?_⟩⟩ qj ?_
 ·have Zd:w'.cell? ⟨bb,0,af⟩=ae (ag ah x.k):=by rw[aK hi.2.2];rfl
  have o6:w'.cell? ⟨bb,1,af⟩=ae (ag ah x.p):=by rw[aK hi.2.2];rfl
  have lI:w'.cell? ⟨bb,2,af⟩=ae (ag ah x.t):=by rw[aK hi.2.2];rfl
  have hc3:w'.cell? ⟨bb,3,af⟩=ae (dA x.s):=by rw[aK hi.2.2];rfl
  go_simp
 ·have Zd:w'.cell? ⟨bb,0,af⟩=ae (ag ah x.k):=by rw[aK hi.2.2];rfl
  have o6:w'.cell? ⟨bb,1,af⟩=ae (ag ah x.p):=by rw[aK hi.2.2];rfl
  have lI:w'.cell? ⟨bb,2,af⟩=ae (ag ah x.t):=by rw[aK hi.2.2];rfl
  have hc3:w'.cell? ⟨bb,3,af⟩=ae (dA x.s):=by rw[aK hi.2.2];rfl
  have hm:=aD4 he;simp[go_sem,Zd,o6,lI,hc3]at hm;rcases hm with rfl|rfl|rfl|rfl<;>exact .inl hi.2.1
 walk_nrm;refine XB (rs:=[6]) (by kernel_rfl) (by simp) fun i hi=>?_;obtain rfl:i=6:=by simpa using hi
 refine pO.kC rfl rfl fun w4 xZ=>?_;have O8:=xx.aY xZ;have FB:=QC.aY xZ;have Au:=BK.aY xZ;have Ea:∀b,S1 b->b<w4.heap.size:=fun b hb=>fK (iU b hb) xZ.size;refine⟨aJ (ae ⟨w4.heap.size,0,af⟩) 1 1,w4.alloc<|aC #[ag ah x.k,ag ah x.p,ag ah x.t,dA x.s] 55,.inl<|by go_simp,wL (by simp[go_sem])<|uN _,?_⟩;have CP:=O8.nH (w':=w4.alloc<|aC #[ag ah x.k,ag ah x.p,ag ah x.t,dA x.s] 55) (fun b hb=>aD1 w4 _ b<|Ea b (by rcases hb with rfl|rfl|hb;exact O8.l;exact O8.m;exact O8.r b hb))<|uN (S:=S1) (E:=E) _;have qB:=Au.nH<|uN (E:=E)<|aC #[ag ah x.k,ag ah x.p,ag ah x.t,dA x.s] 55;have SV:dZ (grow S1 w4<|w4.alloc<|aC #[ag ah x.k,ag ah x.p,ag ah x.t,dA x.s] 55) (w4.alloc<|aC #[ag ah x.k,ag ah x.p,ag ah x.t,dA x.s] 55) bb #[ag ah x.k,ag ah x.p,ag ah x.t,dA x.s] 55:=⟨.inl FB.1,by rw[aD1 w4 _ bb<|Ea bb FB.1];exact FB.2⟩;have sN:dZ (grow S1 w4<|w4.alloc<|aC #[ag ah x.k,ag ah x.p,ag ah x.t,dA x.s] 55) (w4.alloc<|aC #[ag ah x.k,ag ah x.p,ag ah x.t,dA x.s] 55) w4.heap.size #[ag ah x.k,ag ah x.p,ag ah x.t,dA x.s] 55:=⟨.inr ⟨dm _,by simp⟩,aDY _ _⟩;have hz5:∀b,(grow S1 w4<|w4.alloc<|aC #[ag ah x.k,ag ah x.p,ag ah x.t,dA x.s] 55) b->b<(w4.alloc<|aC #[ag ah x.k,ag ah x.p,ag ah x.t,dA x.s] 55).heap.size:=fun b hb=>by
  rcases hb with hb|hb
  ·have:=Ea b hb;simp<;>omega
  ·exact hb.2
 refine⟨fun _=>⟨⟨CP.l,CP.log.blk⟩,SV⟩,?_⟩;generalize grow S1 w4 (w4.alloc<|aC #[ag ah x.k,ag ah x.p,ag ah x.t,dA x.s] 55)=S2 at*
 generalize w4.alloc (aC #[ag ah x.k,ag ah x.p,ag ah x.t,dA x.s] 55)=w5 at*
 generalize w4.heap.size=cc at*
 walk_nrm;refine XB (rs:=[7]) (by kernel_rfl) (by simp) fun i hi=>?_;obtain rfl:i=7:=by simpa using hi
 refine pO.kC rfl rfl fun w6 rP=>?_;have oH:=CP.aY rP;have hX6:=SV.aY rP;have wM:=sN.aY rP;have XE:=qB.aY rP;have O9:∀b,S2 b->b<w6.heap.size:=fun b hb=>fK (hz5 b hb) rP.size;obtain⟨i0,dR,iE,gG,iU⟩:=aEd aat;obtain⟨g,cap,w7,JF,SX,Bd,Ic,JG⟩:=aFl (P:=prog) w6 49 49 B 55 i0 _ 4 40 underlying49 dR iE gG iU rfl (by omega) v s.es.length (qo s.es) oH.log.row ⟨cc,0,af⟩ 1 1 [ag ah x.k,ag ah x.p,ag ah x.t,dA x.s] rfl (aD7 wM.2) (by simp[Value.oneCell']) (by omega) (by simp only[dU];omega) hb (aaq<|aai oH.log.hl<|O9 lb oH.l) _ rfl;have Vp:=aE5 (P:=prog) w6 B 49 49 55 i0 _ 4 40 underlying49 dR iE gG iU v s.es.length (qo s.es) oH.log.row ⟨cc,0,af⟩ 1 1 [ag ah x.k,ag ah x.p,ag ah x.t,dA x.s] rfl (aD7 wM.2) (by simp[Value.oneCell']) (by simp only[dU];omega) hb;have JH:je S2 E w6 w7 ((Builtin.append_ #[49,49] 49 #[v,aJ (ae ⟨cc,0,af⟩) 1 1]).events prog w6 #[]):=acz Bd oH.r (fun s h5 hs hw=>((au.OT (au.Xq h5).toFit<|ok_two (SS oH.log.row fun k hk z=>(hs k z).1<|oH.r k hk) (.slice fun y hy z=>by cases hy;exact(hs _ z).1 wM.1)).DY hw JF fun b hb=>(hs b hb).2).2) fun e he=>by
  rcases Vp e he with⟨ad,h1,h2|h2⟩|⟨m,rfl,h2⟩
  ·exact(show mM _ _ _ by unfold mM;rw[h1];exact .inl<|.inl<|h2.2▸wM.1)
  ·exact(show mM _ _ _ by unfold mM;rw[h1];exact .inl<|.inl<|oH.r _ h2.symm)
  ·exact h2
 refine⟨(aJ (ae ⟨g,0,af⟩) (s.es.length+1) cap),w7,.inl ?_,?_,?_⟩
 ·exact XD (.tmp 8) (.tmp 10) 49 rfl rfl rfl JF
 ·rw[aEW (.tmp 8) (.tmp 10) 49 rfl rfl rfl];exact JH
 have dh:=oH.log.KY;have hnm:=oH.log.aas;have SY:(grow S2 w6 w7) g:=by
  rcases Ic with h1|h1
  ·exact .inl<|oH.r g h1
  ·exact .inr ⟨by omega,JG⟩
 have hb7:∀b,S2 b->ae b≠v.ownBlock->w7.heap[b]? =w6.heap[b]? :=fun b hb hn=>Bd.block b (O9 b hb) hn;have ZO:g≠lb:=by
  rcases Ic with h1|h1
  ·rintro rfl;exact dh h1
  ·have:=O9 lb oH.l;omega
 have hgm:g≠bm:=by
  rcases Ic with h1|h1
  ·rintro rfl;exact hnm h1
  ·have:=O9 bm oH.m;omega
 have ZP:dZ (grow S2 w6 w7) w7 lb #[v,ag ah s.d,.map<|ae bm] 163:=⟨.inl oH.l,by rw[hb7 lb oH.l<|iW dh];exact oH.log.blk⟩;have hO7:Own (grow S2 w6 w7) w7 B 55 4 (aJ (ae ⟨g,0,af⟩) (s.es.length+1) cap) (s.es.length+1) (qo s.es++[ag ah x.k,ag ah x.p,ag ah x.t,dA x.s]):=⟨SX,fun k hk=>by simp only[Value.ownBlock,gu]at hk;exact hk▸SY⟩;have hm7:=acA oH.log.map<|hb7 bm oH.m<|iW hnm;have hmS:(grow S2 w6 w7) bm:=.inl oH.m;have S9:=XE.nH JH;have hX7:dZ (grow S2 w6 w7) w7 bb #[ag ah x.k,ag ah x.p,ag ah x.t,dA x.s] 55:=⟨.inl hX6.1,by rw[hb7 bb hX6.1 fun e=>by have:=aI bb<|.inr<|.inr e.symm;omega];exact hX6.2⟩;refine⟨fun _=>⟨ZP,hX7⟩,?_⟩;generalize grow S2 w6 w7=S3 at*
 walk_nrm;refine pR hI hQ vJ (i:=8) rfl (by kernel_rfl) (by kernel_rfl) (by kernel_rfl) (by kernel_rfl) (v:=_) ⟨rfl,fun S' w' hi=>⟨by go_simp<;>rfl,fun e he=>?_⟩⟩ ⟨ZP,hX7⟩ ?_
 ·have hm:=aD4 he;simp[go_sem]at hm
 walk_nrm;refine pR hI hQ vJ (i:=9) rfl (by kernel_rfl) (by kernel_rfl) (by kernel_rfl) (by kernel_rfl) (v:=_) ⟨rfl,fun S' w' hi=>⟨by go_simp<;>rfl,fun e he=>?_⟩⟩ ⟨ZP,hX7⟩ ?_
 ·have hm:=aD4 he;simp[go_sem]at hm
 walk_nrm;refine XB (rs:=[10]) (by kernel_rfl) (by simp) fun i hi=>?_;obtain rfl:i=10:=by simpa using hi
 refine pO.kC rfl rfl fun w8 ZQ=>?_;have JI:=ZP.aY ZQ;have Ie:=hO7.aY ZQ;have hm8:=acA hm7<|ZQ.own bm hmS;have Tc:=S9.aY ZQ;have c0:w8.cell? ⟨lb,0,af⟩=ae v:=by rw[aK JI.2];rfl
 have f0:w8.frozen? ⟨lb,0,af⟩=false:=jS JI.2 0;have Td:je S3 E w8 (w8.setCell ⟨lb,0,af⟩<|aJ (ae ⟨g,0,af⟩) (s.es.length+1) cap) #[⟨.cell ⟨lb,0,af⟩,true,false⟩]:=Ib JI.1 (fun _ hB=>.slice fun y hy z=>by cases hy;exact hB _ z<|Ie.r g rfl) fun e he=>by simp at he;subst he;exact .inl JI.1
 refine⟨ai,w8.setCell ⟨lb,0,af⟩<|aJ (ae ⟨g,0,af⟩) (s.es.length+1) cap,.inr ⟨rfl,by go_simp⟩,?_,fun h=>absurd h (by rw[show JE _ _ 10=true by kernel_rfl];simp),?_⟩
 ·exact Ib JI.1 (fun _ hB=>.slice fun y hy z=>by cases hy;exact hB _ z<|Ie.r g rfl) fun e he=>by
   simp[go_sem,aEH,storedEv,c0,f0]at he;subst he;exact .inl JI.1
 refine aiA (by kernel_rfl) ⟨rfl,(aJ (ae ⟨g,0,af⟩) (s.es.length+1) cap),⟨⟨?_,?_,?_,oH.log.hl,oH.log.hm⟩,.inl JI.1,.inl hmS,fun k hk=>.inl<|Ie.r k hk⟩,Tc.nH Td⟩ _
 ·rw[jT JI.2];rfl
 ·have:w8.setCell ⟨lb,0,af⟩ (aJ (ae ⟨g,0,af⟩) (s.es.length+1) cap) |>.ownsRow B 55 4 (aJ (ae ⟨g,0,af⟩) (s.es.length+1) cap) (s.es.length+1) (qo s.es++[ag ah x.k,ag ah x.p,ag ah x.t,dA x.s]):=(Ie.of (S':=S3) (fun _ h=>h) fun k hk=>by
   simp only[Value.ownBlock,gu]at hk;exact aD3 w8 _ _ k (by subst hk;exact ZO)).row
  simpa[aH.put,afm,iy.cs]using this
 ·exact acA hm8<|aD3 w8 _ _ bm<|iW oH.log.ne
end Twin
end
section
namespace Twin
open Go Go.Proofs Go.Conc Go.RowKit Go.Maps
variable{E:dD}{S S':aN}{w w':aj}{bm n:Nat}
def aA.Tf{P:eF}{main:Bool}{Stop:aN->bF->aj->Prop}{b:bu}{a:Act}{k:List Item}{cs:List bu}{ops:Array Oper}{i:Nat}{rest:List Nat}{o:Oper}{f:FuncId}{lX:Func}{c:Code}{args:Array Operand}{lK:Array dw}{ny:az->aN->aj->Prop}
 (ho:ops[i]? =ae o)(hw:Region.wanted o (yielded ops a.tmps)=true)(hk:b.kind≠.early)(aO:o.op=.call {callee:=.value<|.func f,args,argTypes:=lK})
 (hf:P.funcs[f]? =ae lX)(IZ:(lX.name== "runtime.NumGoroutine")=false)(hb:lX.body=ae c){vs:Array az}(hv:args.map a.eval=vs)(h:rJ P main E f vs S w ny)
 (hn:∀v S' w',ny v S' w'->aA P main E Stop S' (G (b.at (a.put o.dst v)<|bQ ops rest::k) cs) w'):aA P main E Stop S (G (b.at a<|bQ ops (i::rest)::k) cs) w:=
 .call ho hw hk aO hf IZ hb (hv▸h b a ops i rest k cs Stop lX c hf hb fun v S' w' hp=>by rw[ho];exact hn v S' w' hp)
def kz.refl:kz S E w S w:=SL<|bg.refl _ _ _
def kz.trans{S'':aN}{KI:aj}(h:kz S E w S' w')(k:kz S' E w' S'' KI):kz S E w S'' KI:=by
 have h1:=h.size;have h2:=k.size;refine⟨fun b hb=>k.own b<|h.own b hb,by omega,fun b hb=>?_,k.tape.trans h.tape,k.os.trans h.os,k.output.trans h.output,fun b hb aI hn=>?_⟩
 ·rcases k.new b hb with hb|hb
  ·exact(h.new b hb).imp id fun x=>⟨x.1,by omega⟩
  ·exact .inr ⟨by omega,hb.2⟩
 ·rw[k.ro b hb (by omega) fun z=>(h.new b z).elim hn fun y=>by omega,h.ro b hb aI hn]
def kz.below(h:kz S E w S' w')(hS:∀b,S b->b<w.heap.size):∀b,S' b->b<w'.heap.size:=fun b hb=>by
 have:=h.size;rcases h.new b hb with h1|h1
 ·have:=hS b h1;omega
 ·exact h1.2
def aiF{nw:Int->Option (Int×Bool)}(h:jo w prog 3 bm n (jw nw))(hm:S bm)(p t:Int)(c:Bool){w2:aj}(hr:(Instr.mapUpdate 161 (.map<|ae bm) (.int .i64 p)<|gY #[.int .i64 t,.bool c]).run prog w=.ok () w2)(f:Fr (fun k=>k=bm) w w2):
 je S E w w2 ((Instr.mapUpdate 161 (.map<|ae bm) (.int .i64 p)<|gY #[.int .i64 t,.bool c]).events prog w #[]):=
 ⟨f.tape,f.os,f.output,f.size,fun b hb hS=>f.block b hb fun e=>hS<|e▸hm,fun e he=>evg (.inl hm)<|asz h p _ e he,fun s h5 hs hw=>by
  have hC:au.Clean (au.uK s) prog (fun _=>True) (Instr.mapUpdate 161 (.map<|ae bm) (.int .i64 p)<|gY #[.int .i64 t,.bool c]):=au.abC (au.Xq h5).toFit (au.aG.map fun y hy z=>by cases hy;exact(hs _ z).1 hm) au.aG.int (au.aG.agg fun u hu=>by
   simp at hu;rcases hu with rfl|rfl
   ·exact .int
   ·exact .bool)
  exact(hC.DY hw hr fun b hb=>(hs b hb).2).2⟩
def asF{B lb:Nat}{v:az}{s:aH}(h:iD S w B lb bm n v s)(hS:∀b,S b->b<w.heap.size)(p t:Int)(c:Bool)(hp:(Lit.int .i64 p).wf=true)(hn:n<dU)(hb:(s.es.length+1)*40<=140737488355328):
 rJ prog false E 187 #[ay<|ae ⟨lb,0,af⟩,.int .i64 p,.int .i64 t,.bool c] S w fun y S' w'=>y=.bool (s.isOpen p t)/\∃v',iD S' w' B lb bm (n+1) v' (s.closed p t c)/\kz S E w S' w':=by
 intro b₀ a₀ ops i rest k cs Stop fn c' hf hc ES;obtain rfl:fn=Tryz.f187:=by rw[func187]at hf;exact(qX hf).symm
 obtain rfl:c'=(Tryz.f187.body.getD .skip):=by rw[hc];rfl
 simp only[Tryz.f187,ik];walk_nrm;refine aA.sq ?_;refine aA.reg [0] rfl ?_;refine aA.mu rfl rfl ?_;walk_nrm;refine aA.fQ ?_;refine aA.sq ?_;refine aA.sq ?_;refine aA.reg [0,1,2,3,4] rfl ?_;refine aA.mu rfl rfl ?_;walk_nrm;refine aA.mu rfl rfl ?_;walk_nrm;refine aA.mu rfl rfl ?_;walk_nrm;refine aA.Tf rfl rfl (by decide) rfl func122 rfl rfl (by walk_nrm) (asB h.log h.l h.m h.r p t hp) ?_;rintro x S' w1 ⟨rfl,aQ,rfl⟩;have h1:=h.aY aQ;have vX:∀b,S' b->b<w1.heap.size:=fun b hb=>fK (hS b hb) aQ.size;have KJ:=SL aQ;walk_nrm;refine aA.mute (.bool<|!s.isOpen p t) rfl rfl (by decide) (fun _=>by go_simp<;>rfl) (fun _=>by simp[go_sem]) ?_;walk_nrm;refine aA.fQ ?_;by_cases ho:s.isOpen p t=true
 ·have hs:s.closed p t c=(s.put ⟨if c then 2 else 3,p,t,⟨#[]⟩⟩).set p t false:=by cases c<;>simp[aH.closed,ho,aH.xI]
  simp only[ho,Oh];refine aA.ctl rfl (fun _=>aEc (t:=false)<|by rfl) ?_;refine aA.ctl rfl (fun _=>aEe) ?_;refine aA.sq ?_;refine aA.reg [0] rfl ?_;refine aA.mu rfl rfl ?_;walk_nrm;refine aA.fQ ?_;refine aA.sq ?_;refine aA.sq ?_;refine aA.reg [0] rfl ?_;refine aA.mu rfl rfl ?_;walk_nrm;refine aA.fQ ?_;have lT:keyOf prog 3 (.int .i64 p)=ae (.int .i64 p):=aEN underlying3 hp;cases c
  ·simp only[kP,kQ]at hs;refine aA.ctl rfl (fun _=>aEc (t:=false)<|by rfl) ?_;refine aA.ctl rfl (fun _=>aEe) ?_;refine aA.sq ?_;refine aA.reg [0,1,2,3,4,5] rfl ?_;refine aA.mu rfl rfl ?_;walk_nrm;refine aA.mu rfl rfl ?_;walk_nrm;refine aA.mu rfl rfl ?_;walk_nrm;refine aA.mu rfl rfl ?_;walk_nrm;refine aA.mu rfl rfl ?_;walk_nrm;refine aA.Tf rfl rfl (by decide) rfl func184 rfl rfl (by walk_nrm) (aiC h1 vX ⟨3,p,t,⟨#[]⟩⟩ hb) ?_;rintro x S2 w2 ⟨v',h2,BK⟩;have lI:∀w3,bg S2 E w2 w3->w3.cell? ⟨lb,2,af⟩=ae (.map<|ae bm):=fun w3 hk=>by rw[aK (h2.aY hk).log.blk];rfl
   walk_nrm;refine aA.fQ ?_;refine aA.sq ?_;refine aA.reg [0,1,2,3,4,5,6,7] rfl ?_;refine aA.mu rfl rfl ?_;walk_nrm;refine aA.mu rfl rfl ?_;walk_nrm;refine aA.mu rfl rfl ?_;walk_nrm;refine aA.val (.map<|ae bm) rfl rfl (by decide) (fun w3 kN=>by have hc:=lI w3 kN;go_simp) (fun w3 kN e he=>?_) ?_
   ·have hc:=lI w3 kN;simp[go_sem,hc]at he;subst he;exact .inl h2.l
   walk_nrm;refine aA.mu rfl rfl ?_;walk_nrm;refine aA.mu rfl rfl ?_;walk_nrm;refine aA.mu rfl rfl ?_;walk_nrm;refine aA.kC rfl rfl (by decide) fun w3 kN=>?_;have h3:=h2.aY kN;obtain⟨w4,hr4,hm4,ht4⟩:=h3.log.map.store AV underlying161 hn lT (val:=gY #[.int .i64 t,.bool false]) (g:=jw ((s.put ⟨3,p,t,⟨#[]⟩⟩).set p t false).nw) (Oi _ _ _ _)<|Oj _ _ _ _;have f4:Fr (fun k=>k=bm) w3 w4:=(Fr.refl (fun k=>k=bm) w3).KX ht4<|.inl rfl;have KL:=aiF (E:=E) h3.log.map h3.m p t false hr4 f4;refine⟨ai,w4,.inr ⟨rfl,by go_simp⟩,?_,?_⟩
   ·simpa[dP,Act.eval,go_sem]using KL
   walk_nrm;have h4:iD (grow S2 w3 w4) w4 B lb bm (n+1) v' ((s.put ⟨3,p,t,⟨#[]⟩⟩).set p t false):=⟨h3.log.Ol f4 hm4,.inl h3.l,.inl h3.m,fun k hk=>.inl<|h3.r k hk⟩;have Au:=((KJ.trans BK).aY kN).nH KL;refine aA.fQ ?_;refine aA.sq ?_;refine aA.reg [0] rfl ?_;refine aA.mu rfl rfl ?_;walk_nrm;refine aA.fQ ?_;refine aA.ctl rfl (fun _=>aEh) ?_;refine aA.leave1 rfl rfl func187 rfl ?_;walk_nrm;exact ES _ _ _ ⟨by rw[ho],v',hs▸h4,Au⟩
  ·simp only[if_true]at hs;refine aA.ctl rfl (fun _=>aEc (t:=true)<|by rfl) ?_;refine aA.reg [0] rfl ?_;refine aA.mu rfl rfl ?_;walk_nrm;refine aA.fQ ?_;refine aA.sq ?_;refine aA.reg [0,1,2,3,4,5] rfl ?_;refine aA.mu rfl rfl ?_;walk_nrm;refine aA.mu rfl rfl ?_;walk_nrm;refine aA.mu rfl rfl ?_;walk_nrm;refine aA.mu rfl rfl ?_;walk_nrm;refine aA.mu rfl rfl ?_;walk_nrm;refine aA.Tf rfl rfl (by decide) rfl func184 rfl rfl (by walk_nrm) (aiC h1 vX ⟨2,p,t,⟨#[]⟩⟩ hb) ?_;rintro x S2 w2 ⟨v',h2,BK⟩;have lI:∀w3,bg S2 E w2 w3->w3.cell? ⟨lb,2,af⟩=ae (.map<|ae bm):=fun w3 hk=>by rw[aK (h2.aY hk).log.blk];rfl
   walk_nrm;refine aA.fQ ?_;refine aA.sq ?_;refine aA.reg [0,1,2,3,4,5,6,7] rfl ?_;refine aA.mu rfl rfl ?_;walk_nrm;refine aA.mu rfl rfl ?_;walk_nrm;refine aA.mu rfl rfl ?_;walk_nrm;refine aA.val (.map<|ae bm) rfl rfl (by decide) (fun w3 kN=>by have hc:=lI w3 kN;go_simp) (fun w3 kN e he=>?_) ?_
   ·have hc:=lI w3 kN;simp[go_sem,hc]at he;subst he;exact .inl h2.l
   walk_nrm;refine aA.mu rfl rfl ?_;walk_nrm;refine aA.mu rfl rfl ?_;walk_nrm;refine aA.mu rfl rfl ?_;walk_nrm;refine aA.kC rfl rfl (by decide) fun w3 kN=>?_;have h3:=h2.aY kN;obtain⟨w4,hr4,hm4,ht4⟩:=h3.log.map.store AV underlying161 hn lT (val:=gY #[.int .i64 t,.bool false]) (g:=jw ((s.put ⟨2,p,t,⟨#[]⟩⟩).set p t false).nw) (Oi _ _ _ _)<|Oj _ _ _ _;have f4:Fr (fun k=>k=bm) w3 w4:=(Fr.refl (fun k=>k=bm) w3).KX ht4<|.inl rfl;have KL:=aiF (E:=E) h3.log.map h3.m p t false hr4 f4;refine⟨ai,w4,.inr ⟨rfl,by go_simp⟩,?_,?_⟩
   ·simpa[dP,Act.eval,go_sem]using KL
   walk_nrm;have h4:iD (grow S2 w3 w4) w4 B lb bm (n+1) v' ((s.put ⟨2,p,t,⟨#[]⟩⟩).set p t false):=⟨h3.log.Ol f4 hm4,.inl h3.l,.inl h3.m,fun k hk=>.inl<|h3.r k hk⟩;have Au:=((KJ.trans BK).aY kN).nH KL;refine aA.fQ ?_;refine aA.sq ?_;refine aA.reg [0] rfl ?_;refine aA.mu rfl rfl ?_;walk_nrm;refine aA.fQ ?_;refine aA.ctl rfl (fun _=>aEh) ?_;refine aA.leave1 rfl rfl func187 rfl ?_;walk_nrm;exact ES _ _ _ ⟨by rw[ho],v',hs▸h4,Au⟩
 ·have hs:s.closed p t c=s:=by simp[aH.closed,ho]
  have ui:s.isOpen p t=false:=by simpa using ho
  simp only[ui,afk];refine aA.ctl rfl (fun _=>aEc (t:=true)<|by rfl) ?_;refine aA.sq ?_;refine aA.reg [0] rfl ?_;refine aA.mu rfl rfl ?_;walk_nrm;refine aA.fQ ?_;refine aA.ctl rfl (fun _=>aEh) ?_;refine aA.leave1 rfl rfl func187 rfl ?_;walk_nrm;exact ES _ _ _ ⟨by rw[ui],v,by rw[hs];exact⟨h1.log.mono<|Nat.le_succ n,h1.l,h1.m,h1.r⟩,KJ⟩
end Twin
end
section
namespace Twin
open Go Go.Proofs Go.Conc
variable{S L:aN}{E:dD}{P:eF}{main:Bool}{w:aj}{f:FuncId}{args:Array az}{ny:az->aN->aj->Prop}{B lb bm n:Nat}{v:az}{s:aH}
def mM.mono{T:aN}{e:Event}(h:mM S E e)(hT:∀b,S b->T b):mM T E e:=by
 unfold mM at*
 split<;>simp_all
 ·exact h.imp (hT _) id
 ·exact h.2.imp (hT _) id
def aA.frame{Stop:aN->bF->aj->Prop}{g:bF}(h:aA P main E Stop S g w):∀(F:aN) (_:∀b,F b->b<w.heap.size) (_:∀b,F b->¬S b),
 aA P main E (fun S' g' w'=>∃S0,Stop S0 g' w'/\S'=(fun b=>S0 b\/F b)/\∀b,F b->w'.heap[b]? =w.heap[b]?) (fun b=>S b\/F b) g w:=by
 induction h with
 | @stop S g w h=>exact fun F hF hn=>.stop fun w1 hk=>⟨S,h w1<|hk.mono (fun b hb=>.inl<|.inl hb) fun b hb=>.inr hb,rfl,fun b hb=>hk.own b<|.inr hb⟩
 | @step S g w hr f hs _ ih=>
   intro F hF hn;have dN:∀w1,bg (fun b=>S b\/F b) E w w1->bg S E w w1:=fun w1 hk=>hk.mono (fun b hb=>.inl<|.inl hb) fun b hb=>.inr hb;have hg:∀w1 w2:aj,grow (fun b=>S b\/F b) w1 w2=(fun b=>grow S w1 w2 b\/F b):=fun w1 w2=>by
    funext b;simp only[grow,eq_iff_iff];constructor
    ·rintro((h|h)|h)
     ·exact .inl<|.inl h
     ·exact .inr h
     ·exact .inl<|.inr h
    ·rintro((h|h)|h)
     ·exact .inl<|.inl h
     ·exact .inr h
     ·exact .inl<|.inr h
   refine .step hr f (fun w1 hk=>?_) fun w1 hk=>?_
   ·obtain⟨h1,h2⟩:=hs w1<|dN w1 hk;exact⟨h1,h2.tape,h2.os,h2.output,h2.size,fun b hb hn'=>h2.still b hb fun x=>hn'<|.inl x,fun e he=>by rw[hg];exact(h2.evs e he).mono fun b hb=>.inl hb,fun s h5 hs hw=>h2.ok s h5 (fun b hb=>⟨fun x=>(hs b hb).1<|.inl x,(hs b hb).2⟩) hw⟩
   ·obtain⟨_,h2⟩:=hs w1<|dN w1 hk;have hz:=hk.size;have iU:=h2.size;rw[hg];refine(ih w1 (dN w1 hk) F (fun b hb=>by have:=hF b hb;omega) fun b hb hx=>?_).mono ?_
    ·rcases hx with hx|hx
     ·exact hn b hb hx
     ·have:=hF b hb;omega
    ·rintro S' g' w' ⟨S0,h0,e0,h3⟩;exact⟨S0,h0,e0,fun b hb=>by rw[h3 b hb,h2.still b (by have:=hF b hb;omega)<|hn b hb,hk.own b<|.inr hb]⟩
def rJ.mono{Vq:az->aN->aj->Prop}(h:rJ P main E f args S w ny)(h':∀v S' w',ny v S' w'->Vq v S' w'):rJ P main E f args S w Vq:=
 fun b₀ a₀ ops i rest k cs Stop fn c hf hb hn=>h b₀ a₀ ops i rest k cs Stop fn c hf hb fun v S' w' hp=>hn v S' w'<|h' v S' w' hp
def rJ.frame(h:rJ P main E f args L w ny)(hP:∀v S' x y,ny v S' x->bg S' E x y->ny v S' y)(hL:∀b,L b->S b)(hS:∀b,S b->b<w.heap.size):
 rJ P main E f args S w fun v S' w'=>∃S0,ny v S0 w'/\(∀b,S0 b->S' b)/\(∀b,S' b->S0 b\/S b)/\∀b,S b->¬L b->S' b/\w'.heap[b]? =w.heap[b]? :=by
 intro b₀ a₀ ops i rest k cs Stop fn c hf hb hn;have h1:=h b₀ a₀ ops i rest k cs (fun S' g' w'=>∃v,ny v S' w'/\g'=G (b₀.at (a₀.put ((ops[i]?).bind (·.dst)) v)<|bQ ops rest::k) cs) fn c hf hb fun v S' w' hp=>.stop fun w1 hk=>⟨v,hP v S' w' w1 hp hk,rfl⟩;have h2:=h1.frame (fun b=>S b/\¬L b) (fun b hb=>hS b hb.1) fun b hb=>hb.2;have e:(fun b=>L b\/(S b/\¬L b))=S:=by
  funext b;simp only[eq_iff_iff];constructor
  ·rintro(h|h)
   ·exact hL b h
   ·exact h.1
  ·intro h;by_cases hl:L b
   ·exact .inl hl
   ·exact .inr ⟨h,hl⟩
 rw[e]at h2;refine h2.trans ?_;rintro S' g' w' ⟨S0,⟨v,hp,rfl⟩,rfl,hF⟩;exact hn v _ w' ⟨S0,hp,fun b hb=>.inl hb,fun b hb=>hb.imp id And.left,fun b h1 h2=>⟨.inr ⟨h1,h2⟩,hF b ⟨h1,h2⟩⟩⟩
def lG(lb bm:Nat)(v:az):aN:=fun b=>b=lb\/b=bm\/v.ownBlock=ae b
def iD.own(h:iD S w B lb bm n v s):iD (lG lb bm v) w B lb bm n v s:=⟨h.log,.inl rfl,.inr<|.inl rfl,fun _ hk=>.inr<|.inr hk⟩
def iD.sub(h:iD S w B lb bm n v s):∀b,lG lb bm v b->S b:=by
 rintro b (rfl|rfl|hb)
 ·exact h.l
 ·exact h.m
 ·exact h.r b hb
def iD.lt(h:iD S w B lb bm n v s):∀b,lG lb bm v b->b<w.heap.size:=fun _ hb=>h.log.qK hb
def iD.mono{T:aN}(h:iD S w B lb bm n v s)(hT:∀b,S b->T b):iD T w B lb bm n v s:=⟨h.log,hT _ h.l,hT _ h.m,fun k hk=>hT k<|h.r k hk⟩
def kz.wide{S0 S':aN}{w':aj}(h:kz L E w S0 w')(hL:∀b,L b->S b)(h1:∀b,S0 b->S' b)(h2:∀b,S' b->S0 b\/S b)(h3:∀b,S b->¬L b->S' b):kz S E w S' w':=
 ⟨fun b hb=>by
  by_cases hl:L b
  ·exact h1 b<|h.own b hl
  ·exact h3 b hb hl,h.size,fun b hb=>(h2 b hb).elim (fun x=>(h.new b x).imp (hL b) id) .inl,h.tape,h.os,h.output,fun b hb aI hn=>h.ro b hb aI fun x=>hn<|hL b x⟩
def asG(h:iD S w B lb bm n v s)(hS:∀b,S b->b<w.heap.size)(p t:Int)(c:Bool)(hp:(Lit.int .i64 p).wf=true)(hn:n<dU)(hb:(s.es.length+1)*40<=140737488355328):
 rJ prog false E 187 #[ay<|ae ⟨lb,0,af⟩,.int .i64 p,.int .i64 t,.bool c] S w fun y S' w'=>y=.bool (s.isOpen p t)/\(∃v',iD S' w' B lb bm (n+1) v'<|s.closed p t c)/\kz S E w S' w'/\∀b,S b->¬lG lb bm v b->w'.heap[b]? =w.heap[b]? :=by
 refine((asF h.own h.lt p t c hp hn hb).frame ?_ h.sub hS).mono ?_
 ·rintro y S' x1 y1 ⟨rfl,v',h1,h2⟩ hk;exact⟨rfl,v',h1.aY hk,h2.aY hk⟩
 ·rintro y S' w' ⟨S0,⟨rfl,v',h1,h2⟩,h3,h4,h5⟩;exact⟨rfl,⟨v',h1.mono h3⟩,h2.wide h.sub h3 h4 fun b x y=>(h5 b x y).1,fun b x y=>(h5 b x y).2⟩
end Twin
end
section
namespace Twin
open Go Go.Proofs Go.Conc Go.RowKit Go.Maps
variable{S:aN}{E:dD}{w w1:aj}{a:Addr}{x:az}{b:Nat}{cs:Array az}{t:dw}
def nI(h:w.cell? a=ae x)(hr:E.rd a.block)(hk:bg S E w w1):w1.cell? a=ae x:=(aD2<|hk.ro _<|E.le _ hr).trans h
def Eb{S':aN}{w':aj}(h:w.cell? a=ae x)(hr:E.rd a.block)(hn:¬S a.block)(hk:kz S E w S' w'):w'.cell? a=ae x:=(aD2<|hk.ro _ (E.le _ hr) (nU h) hn).trans h
def dZ.alloc(h:dZ S w b cs t)(o:Obj):dZ (grow S w<|w.alloc o) (w.alloc o) b cs t:=⟨.inl h.1,by rw[aD1 w o b (jk.1 h.2).1];exact h.2⟩
def dZ.new(S:aN)(w:aj)(cs:Array az)(t:dw):dZ (grow S w<|w.alloc<|.cells cs t) (w.alloc<|.cells cs t) w.heap.size cs t:=⟨.inr ⟨dm _,by simp⟩,aDY _ _⟩
def iD.alloc{B lb bm n:Nat}{v:az}{s:aH}(h:iD S w B lb bm n v s)(o:Obj):iD (grow S w<|w.alloc o) (w.alloc o) B lb bm n v s:=
 h.SQ fun _ hb=>aD1 w o _<|h.log.qK hb
def Ig(hS:∀b,S b->b<w.heap.size)(o:Obj):∀b,(grow S w<|w.alloc o) b->b<(w.alloc o).heap.size:=fun b hb=>by
 rcases hb with hb|hb
 ·have:=hS b hb;simp<;>omega
 ·exact hb.2
def xU(hS:∀b,S b->b<w.heap.size)(hk:bg S E w w1):∀b,S b->b<w1.heap.size:=fun b hb=>fK (hS b hb) hk.size
def dZ.cell(h:dZ S w b cs t){o:Nat}(hx:cs[o]? =ae x):w.cell? ⟨b,o,af⟩=ae x:=by rw[aK h.2];exact hx
def dZ.set(h:dZ S w b cs t)(o:Nat)(u:az):dZ S (w.setCell ⟨b,o,af⟩ u) b (cs.setIfInBounds o u) t:=⟨h.1,jT h.2 o u⟩
def acF(P:eF)(w:aj)(es:Array Event)(a:Addr)(m:Mode)(x:Bool):(store a (.bool x) m).events P w es=storedEv P w es a (.bool x) m:=events_store P w es a _ m rfl
structure oI(S:aN)(w w':aj):Prop where
 tape:w'.tape=w.tape
 os:w'.os=w.os
 output:w'.output=w.output
 size:w'.heap.size=w.heap.size
 still:∀b,¬S b->w'.heap[b]? =w.heap[b]?
 ok:∀s:Nat->Prop,au.jX (au.uK s) w->au.jX (au.uK s) w'
def oI.refl(S:aN)(w:aj):oI S w w:=⟨rfl,rfl,rfl,rfl,fun _ _=>rfl,fun _ h=>h⟩
variable{w':aj}{B lb bm n pb po:Nat}{v:az}{s:aH}
def oI.set(h:oI S w w')(hb:S b)(o:Nat)(u:az)(hu:Xr u=true:=by rfl):oI S w (w'.setCell ⟨b,o,af⟩ u):=⟨h.tape,h.os,h.output,by simpa using h.size,fun x hx=>(aD3 w' ⟨b,o,af⟩ u x fun e=>hx<|e▸hb).trans<|h.still x hx,fun B hw=>(h.ok B hw).setCell<|ahX hu⟩
def oI.nH{es:Array Event}(h:oI S w w')(dS:∀e∈es,mM S E e):je S E w w' es:=⟨h.tape,h.os,h.output,BM h.size.symm,fun b _ hb=>h.still b hb,fun e he=>by rw[sK<|BM h.size];exact dS e he,fun B _ _ hw=>h.ok B hw⟩
def oI.mono{T:aN}(h:oI S w w')(hT:∀b,S b->T b):oI T w w':=⟨h.tape,h.os,h.output,h.size,fun b hb=>h.still b fun x=>hb<|hT b x,h.ok⟩
def oI.grow{T:aN}(h:oI S w w'):grow T w w'=T:=sK<|BM h.size
def dZ.free(h:dZ S w b cs t)(o:Nat):w.frozen? ⟨b,o,af⟩=false:=jS h.2 o
def asH(h:iD S w B lb bm n v s)(hS:∀b,S b->b<w.heap.size)(sU:E.rd pb)(c1:w.cell? ⟨pb,po+1,af⟩=ae (.bool true))(m:Ms):
 rJ prog false E 141 #[ay<|ae ⟨pb,po,af⟩,gY #[.int .i64 m.k,.int .i64 m.q,.int .i64 m.p,.int .i64 m.t,.bool m.c]] S w fun y S' w'=>y=aJ af 0 0/\iD S' w' B lb bm n v s/\kz S E w S' w':=by
 intro b₀ a₀ ops i rest k cs Stop fn c' hf hc ES;obtain rfl:fn=Tryz.f141:=by rw[func141]at hf;exact(qX hf).symm
 obtain rfl:c'=(Tryz.f141.body.getD .skip):=by rw[hc];rfl
 simp only[Tryz.f141,ik];walk_nrm;refine aA.sq ?_;refine aA.reg [0,1] rfl ?_;refine aA.kC rfl rfl (by decide) fun w1 aQ=>?_;refine⟨ay<|ae ⟨w1.heap.size,0,af⟩,w1.alloc<|aC #[.int .i64 m.k,.int .i64 m.q,.int .i64 m.p,.int .i64 m.t,.bool m.c] 119,.inl<|by go_simp,wL (by simp[go_sem])<|uN _,?_⟩;have h2:=(h.aY aQ).alloc<|aC #[.int .i64 m.k,.int .i64 m.q,.int .i64 m.p,.int .i64 m.t,.bool m.c] 119;have Zl:=Ig (xU hS aQ)<|aC #[.int .i64 m.k,.int .i64 m.q,.int .i64 m.p,.int .i64 m.t,.bool m.c] 119;have BK:=(SL aQ).nH<|uN (E:=E)<|aC #[.int .i64 m.k,.int .i64 m.q,.int .i64 m.p,.int .i64 m.t,.bool m.c] 119;have QC:=dZ.new S w1 #[.int .i64 m.k,.int .i64 m.q,.int .i64 m.p,.int .i64 m.t,.bool m.c] 119;have d1:=nI c1 sU aQ;have d1:(w1.alloc<|aC #[.int .i64 m.k,.int .i64 m.q,.int .i64 m.p,.int .i64 m.t,.bool m.c] 119).cell? ⟨pb,po+1,af⟩=ae (.bool true):=(aD2<|aD1 w1 _ _<|nU d1).trans d1;generalize grow S w1 (w1.alloc<|aC #[.int .i64 m.k,.int .i64 m.q,.int .i64 m.p,.int .i64 m.t,.bool m.c] 119)=S2 at*
 generalize w1.alloc (aC #[.int .i64 m.k,.int .i64 m.q,.int .i64 m.p,.int .i64 m.t,.bool m.c] 119)=w2 at*
 generalize aiG:w1.heap.size=mb at*
 walk_nrm;refine aA.mu rfl rfl ?_;walk_nrm;refine aA.fQ ?_;refine aA.sq ?_;refine aA.sq ?_;refine aA.reg [0,1,2,3] rfl ?_;refine aA.mu rfl rfl ?_;walk_nrm;refine aA.mu rfl rfl ?_;walk_nrm;refine aA.mu rfl rfl ?_;walk_nrm;have e1:∀w3,bg S2 E w2 w3->w3.cell? ⟨pb,po+1,af⟩=ae (.bool true):=fun w3 hk=>nI d1 sU hk;refine aA.val (.bool true) rfl rfl (by decide) (fun w3 kN=>by have hc:=e1 w3 kN;go_simp) (fun w3 kN e he=>?_) ?_
 ·have hc:=e1 w3 kN;simp[go_sem,hc]at he;subst he;exact .inr ⟨sU,rfl⟩
 walk_nrm;refine aA.fQ ?_;refine aA.ctl rfl (fun _=>aEc (t:=true)<|by rfl) ?_;refine aA.sq ?_;refine aA.reg [0] rfl ?_;refine aA.mu rfl rfl ?_;walk_nrm;refine aA.fQ ?_;refine aA.ctl rfl (fun _=>aEh) ?_;refine aA.leave1 rfl rfl func141 rfl ?_;walk_nrm;exact ES _ _ _ ⟨rfl,h2,BK⟩
def asI(h:iD S w B lb bm n v s)(hS:∀b,S b->b<w.heap.size)(sU:E.rd pb)(hpS:¬S pb)(c0:w.cell? ⟨pb,po,af⟩=ae (ptr lb))(c1:w.cell? ⟨pb,po+1,af⟩=ae (.bool false))(m:Ms)
 (hp:(Lit.int .i64 m.p).wf=true)(hn:n<dU)(hb:(s.es.length+1)*40<=140737488355328):
 rJ prog false E 141 #[ay<|ae ⟨pb,po,af⟩,gY #[.int .i64 m.k,.int .i64 m.q,.int .i64 m.p,.int .i64 m.t,.bool m.c]] S w fun y S' w'=>∃b v',y=aJ (ae ⟨b,0,af⟩) 1 1/\dZ S' w' b m.kZ.cs.toArray 119/\w.heap.size<=b/\iD S' w' B lb bm (n+1) v' (s.closed m.p m.t m.c)/\kz S E w S' w':=by
 intro b₀ a₀ ops i rest k cs Stop fn c' hf hc ES;obtain rfl:fn=Tryz.f141:=by rw[func141]at hf;exact(qX hf).symm
 obtain rfl:c'=(Tryz.f141.body.getD .skip):=by rw[hc];rfl
 simp only[Tryz.f141,ik];walk_nrm;refine aA.sq ?_;refine aA.reg [0,1] rfl ?_;refine aA.kC rfl rfl (by decide) fun w1 aQ=>?_;refine⟨ay<|ae ⟨w1.heap.size,0,af⟩,w1.alloc<|aC #[.int .i64 m.k,.int .i64 m.q,.int .i64 m.p,.int .i64 m.t,.bool m.c] 119,.inl<|by go_simp,wL (by simp[go_sem])<|uN _,?_⟩;have h2:=(h.aY aQ).alloc<|aC #[.int .i64 m.k,.int .i64 m.q,.int .i64 m.p,.int .i64 m.t,.bool m.c] 119;have Zl:=Ig (xU hS aQ)<|aC #[.int .i64 m.k,.int .i64 m.q,.int .i64 m.p,.int .i64 m.t,.bool m.c] 119;have BK:=(SL aQ).nH<|uN (E:=E)<|aC #[.int .i64 m.k,.int .i64 m.q,.int .i64 m.p,.int .i64 m.t,.bool m.c] 119;have QC:=dZ.new S w1 #[.int .i64 m.k,.int .i64 m.q,.int .i64 m.p,.int .i64 m.t,.bool m.c] 119;have d1:=nI c1 sU aQ;have d1:(w1.alloc<|aC #[.int .i64 m.k,.int .i64 m.q,.int .i64 m.p,.int .i64 m.t,.bool m.c] 119).cell? ⟨pb,po+1,af⟩=ae (.bool false):=(aD2<|aD1 w1 _ _<|nU d1).trans d1;have wu:=aQ.size;have d0:=nI c0 sU aQ;have d0:(w1.alloc<|aC #[.int .i64 m.k,.int .i64 m.q,.int .i64 m.p,.int .i64 m.t,.bool m.c] 119).cell? ⟨pb,po,af⟩=ae (ptr lb):=(aD2<|aD1 w1 _ _<|nU d0).trans d0;generalize grow S w1 (w1.alloc<|aC #[.int .i64 m.k,.int .i64 m.q,.int .i64 m.p,.int .i64 m.t,.bool m.c] 119)=S2 at*
 generalize w1.alloc (aC #[.int .i64 m.k,.int .i64 m.q,.int .i64 m.p,.int .i64 m.t,.bool m.c] 119)=w2 at*
 generalize aiG:w1.heap.size=mb at*
 walk_nrm;refine aA.mu rfl rfl ?_;walk_nrm;refine aA.fQ ?_;refine aA.sq ?_;refine aA.sq ?_;refine aA.reg [0,1,2,3] rfl ?_;refine aA.mu rfl rfl ?_;walk_nrm;refine aA.mu rfl rfl ?_;walk_nrm;refine aA.mu rfl rfl ?_;walk_nrm;have e1:∀w3,bg S2 E w2 w3->w3.cell? ⟨pb,po+1,af⟩=ae (.bool false):=fun w3 hk=>nI d1 sU hk;refine aA.val (.bool false) rfl rfl (by decide) (fun w3 kN=>by have hc:=e1 w3 kN;go_simp) (fun w3 kN e he=>?_) ?_
 ·have hc:=e1 w3 kN;simp[go_sem,hc]at he;subst he;exact .inr ⟨sU,rfl⟩
 walk_nrm;refine aA.fQ ?_;refine aA.ctl rfl (fun _=>aEc (t:=false)<|by rfl) ?_;refine aA.ctl rfl (fun _=>aEe) ?_;refine aA.sq ?_;refine aA.drawn (X:=XC) (I:=fun S' w'=>dZ S' w' mb #[.int .i64 m.k,.int .i64 m.q,.int .i64 m.p,.int .i64 m.t,.bool m.c] 119/\w'.cell? ⟨pb,po,af⟩=ae (ptr lb)) (Q:=fun a S' w'=>a=⟨#[ay<|ae ⟨pb,po,af⟩,gY #[.int .i64 m.k,.int .i64 m.q,.int .i64 m.p,.int .i64 m.t,.bool m.c],ai,ay<|ae ⟨mb,0,af⟩,aJ af 0 0,ai,ay<|ae ⟨pb,po,af⟩,ay<|ae ⟨pb,po,af⟩,ay<|ae ⟨pb,po+1,af⟩,.bool false,ay<|ae ⟨pb,po,af⟩,ay<|ae ⟨pb,po,af⟩,ay<|ae ⟨pb,po,af⟩,ptr lb,ay<|ae ⟨mb,2,af⟩,.int .i64 m.p,ay<|ae ⟨mb,3,af⟩,.int .i64 m.t,ay<|ae ⟨mb,4,af⟩,.bool m.c,.bool<|s.isOpen m.p m.t,ai,ai,ai,ai],[]⟩/\dZ S' w' mb #[.int .i64 m.k,.int .i64 m.q,.int .i64 m.p,.int .i64 m.t,.bool m.c] 119/\∃v',iD S' w' B lb bm (n+1) v' (s.closed m.p m.t m.c)/\kz S E w S' w') rfl (by decide) (by kernel_rfl) ?_ (fun _ _ _ _ h=>h.elim) ?_
 ·rintro a S' w' ⟨rfl,hX,v',hM,hB⟩;refine aA.sq ?_;refine aA.reg [0,1,2] rfl ?_;refine aA.val (gY #[.int .i64 m.k,.int .i64 m.q,.int .i64 m.p,.int .i64 m.t,.bool m.c]) rfl rfl (by decide) (fun w3 kN=>?_) (fun w3 kN e he=>?_) ?_
  ·have kG:=hX.aY kN;have g0:=kG.cell (o:=0) rfl;have g1:=kG.cell (o:=1) rfl;have g2:=kG.cell (o:=2) rfl;have g3:=kG.cell (o:=3) rfl;have g4:=kG.cell (o:=4) rfl;go_simp
  ·have kG:=hX.aY kN;have g0:=kG.cell (o:=0) rfl;have g1:=kG.cell (o:=1) rfl;have g2:=kG.cell (o:=2) rfl;have g3:=kG.cell (o:=3) rfl;have g4:=kG.cell (o:=4) rfl;simp[go_sem,g0,g1,g2,g3,g4]at he;rcases he with rfl|rfl|rfl|rfl|rfl<;>exact .inl kG.1
  walk_nrm;refine aA.kC rfl rfl (by decide) fun w3 kN=>?_;refine⟨ay<|ae ⟨w3.heap.size,0,af⟩,w3.alloc<|aC #[.int .i64 0,.int .i64 0,.int .i64 0,.int .i64 0,.bool false] 119,.inl<|by go_simp,wL (by simp[go_sem])<|uN _,?_⟩;have FB:=(hX.aY kN).alloc<|aC #[.int .i64 0,.int .i64 0,.int .i64 0,.int .i64 0,.bool false] 119;have O8:=(hM.aY kN).alloc<|aC #[.int .i64 0,.int .i64 0,.int .i64 0,.int .i64 0,.bool false] 119;have Au:=(hB.aY kN).nH<|uN (E:=E)<|aC #[.int .i64 0,.int .i64 0,.int .i64 0,.int .i64 0,.bool false] 119;have Ti:=dZ.new S' w3 #[.int .i64 0,.int .i64 0,.int .i64 0,.int .i64 0,.bool false] 119;have Ey:w.heap.size<=w3.heap.size:=eG hB.size kN.size;have Nj:∀b,(b=lb\/b=bm\/v'.ownBlock=ae b)->b≠w3.heap.size:=fun b hb=>aao<|(hM.aY kN).log.qK hb;generalize grow S' w3 (w3.alloc<|aC #[.int .i64 0,.int .i64 0,.int .i64 0,.int .i64 0,.bool false] 119)=S4 at*
  generalize w3.alloc (aC #[.int .i64 0,.int .i64 0,.int .i64 0,.int .i64 0,.bool false] 119)=w4 at*
  generalize w3.heap.size=ab at*
  walk_nrm;refine aA.kC rfl rfl (by decide) fun w5 NQ=>?_;have sN:=Ti.aY NQ;have CP:=O8.aY NQ;have qB:=Au.aY NQ;have q0:=sN.cell (o:=0) rfl;have q1:=sN.cell (o:=1) rfl;have q2:=sN.cell (o:=2) rfl;have q3:=sN.cell (o:=3) rfl;have q4:=sN.cell (o:=4) rfl;have r0:=sN.free 0;have r1:=sN.free 1;have r2:=sN.free 2;have r3:=sN.free 3;have r4:=sN.free 4;have qC:oI S4 w5 (((((w5.setCell ⟨ab,0,af⟩<|.int .i64 m.k).setCell ⟨ab,1,af⟩<|.int .i64 m.q).setCell ⟨ab,2,af⟩<|.int .i64 m.p).setCell ⟨ab,3,af⟩<|.int .i64 m.t).setCell ⟨ab,4,af⟩<|.bool m.c):=(((((oI.refl S4 w5).set sN.1 0 _).set sN.1 1 _).set sN.1 2 _).set sN.1 3 _).set sN.1 4 _;have hG6:∀es:Array Event,(∀e∈es,mM S4 E e)->je S4 E w5 (((((w5.setCell ⟨ab,0,af⟩<|.int .i64 m.k).setCell ⟨ab,1,af⟩<|.int .i64 m.q).setCell ⟨ab,2,af⟩<|.int .i64 m.p).setCell ⟨ab,3,af⟩<|.int .i64 m.t).setCell ⟨ab,4,af⟩<|.bool m.c) es:=fun _=>qC.nH;have oH:iD S4 (((((w5.setCell ⟨ab,0,af⟩<|.int .i64 m.k).setCell ⟨ab,1,af⟩<|.int .i64 m.q).setCell ⟨ab,2,af⟩<|.int .i64 m.p).setCell ⟨ab,3,af⟩<|.int .i64 m.t).setCell ⟨ab,4,af⟩<|.bool m.c) B lb bm (n+1) v' (s.closed m.p m.t m.c):=qC.grow (T:=S4)▸CP.nH (fun b hb=>(((((oI.refl (fun x=>x=ab) w5).set rfl 0 _).set rfl 1 _).set rfl 2 _).set rfl 3 _).set rfl 4 _ |>.still b (Nj b hb)) (hG6 #[]<|by simp);have wM:=((((sN.set 0<|.int .i64 m.k).set 1<|.int .i64 m.q).set 2<|.int .i64 m.p).set 3<|.int .i64 m.t).set 4<|.bool m.c;have XE:=qB.nH (hG6 #[]<|by simp);rw[qC.grow]at XE;refine⟨ai,((((w5.setCell ⟨ab,0,af⟩<|.int .i64 m.k).setCell ⟨ab,1,af⟩<|.int .i64 m.q).setCell ⟨ab,2,af⟩<|.int .i64 m.p).setCell ⟨ab,3,af⟩<|.int .i64 m.t).setCell ⟨ab,4,af⟩<|.bool m.c,.inr ⟨rfl,by go_simp⟩,hG6 _ fun e he=>?_,?_⟩
  ·simp[go_sem,acF,storedEv,q0,q1,q2,q3,q4,r0,r1,r2,r3,r4]at he;rcases he with rfl|rfl|rfl|rfl|rfl<;>exact .inl sN.1
  rw[qC.grow];change dZ S4 (((((w5.setCell ⟨ab,0,af⟩<|.int .i64 m.k).setCell ⟨ab,1,af⟩<|.int .i64 m.q).setCell ⟨ab,2,af⟩<|.int .i64 m.p).setCell ⟨ab,3,af⟩<|.int .i64 m.t).setCell ⟨ab,4,af⟩<|.bool m.c) ab #[.int .i64 m.k,.int .i64 m.q,.int .i64 m.p,.int .i64 m.t,.bool m.c] 119 at wM;generalize((((w5.setCell ⟨ab,0,af⟩<|.int .i64 m.k).setCell ⟨ab,1,af⟩<|.int .i64 m.q).setCell ⟨ab,2,af⟩<|.int .i64 m.p).setCell ⟨ab,3,af⟩<|.int .i64 m.t).setCell ⟨ab,4,af⟩ (.bool m.c)=w6 at*
  walk_nrm;refine aA.fQ ?_;refine aA.sq ?_;refine aA.reg [0,1] rfl ?_;refine aA.mu rfl rfl ?_;walk_nrm;refine aA.kC rfl rfl (by decide) fun w7 hk7=>?_;have Tj:=wM.aY hk7;have Ph:=oH.aY hk7;have S9:=XE.aY hk7;have q0:=Tj.cell (o:=0) (x:=.int .i64 m.k) rfl;have r0:=Tj.free 0;have Ie:oI S4 w7 (w7.setCell ⟨ab,0,af⟩<|.int .i64 2):=(oI.refl S4 w7).set Tj.1 0 _;have Td:∀es:Array Event,(∀e∈es,mM S4 E e)->je S4 E w7 (w7.setCell ⟨ab,0,af⟩<|.int .i64 2) es:=fun _=>Ie.nH;have hM8:iD S4 (w7.setCell ⟨ab,0,af⟩<|.int .i64 2) B lb bm (n+1) v' (s.closed m.p m.t m.c):=Ie.grow (T:=S4)▸Ph.nH (fun b hb=>((oI.refl (fun x=>x=ab) w7).set rfl 0 _).still b<|Nj b hb) (Td #[]<|by simp);have hY8:=Tj.set 0<|.int .i64 2;have Tc:=S9.nH (Td #[]<|by simp);rw[Ie.grow]at Tc;refine⟨ai,w7.setCell ⟨ab,0,af⟩<|.int .i64 2,.inr ⟨rfl,by go_simp⟩,Td _ fun e he=>?_,?_⟩
  ·simp[go_sem,storedEv,q0,r0]at he;subst he;exact .inl Tj.1
  rw[Ie.grow];change dZ S4 (w7.setCell ⟨ab,0,af⟩<|.int .i64 2) ab #[.int .i64 2,.int .i64 m.q,.int .i64 m.p,.int .i64 m.t,.bool m.c] 119 at hY8;generalize w7.setCell ⟨ab,0,af⟩ (.int .i64 2)=w8 at*
  walk_nrm;refine aA.fQ ?_;refine aA.sq ?_;refine aA.reg [0,1,2] rfl ?_;refine aA.val (gY #[.int .i64 2,.int .i64 m.q,.int .i64 m.p,.int .i64 m.t,.bool m.c]) rfl rfl (by decide) (fun w9 NS=>?_) (fun w9 NS e he=>?_) ?_
  ·have kG:=hY8.aY NS;have g0:=kG.cell (o:=0) rfl;have g1:=kG.cell (o:=1) rfl;have g2:=kG.cell (o:=2) rfl;have g3:=kG.cell (o:=3) rfl;have g4:=kG.cell (o:=4) rfl;go_simp
  ·have kG:=hY8.aY NS;have g0:=kG.cell (o:=0) rfl;have g1:=kG.cell (o:=1) rfl;have g2:=kG.cell (o:=2) rfl;have g3:=kG.cell (o:=3) rfl;have g4:=kG.cell (o:=4) rfl;simp[go_sem,g0,g1,g2,g3,g4]at he;rcases he with rfl|rfl|rfl|rfl|rfl<;>exact .inl kG.1
  walk_nrm;refine aA.kC rfl rfl (by decide) fun w9 NS=>?_;refine⟨aJ (ae ⟨w9.heap.size,0,af⟩) 1 1,w9.alloc<|aC #[.int .i64 2,.int .i64 m.q,.int .i64 m.p,.int .i64 m.t,.bool m.c] 119,.inl<|by go_simp,wL (by simp[go_sem])<|uN _,?_⟩;have hZ:=dZ.new S4 w9 #[.int .i64 2,.int .i64 m.q,.int .i64 m.p,.int .i64 m.t,.bool m.c] 119;have hM9:=(hM8.aY NS).alloc<|aC #[.int .i64 2,.int .i64 m.q,.int .i64 m.p,.int .i64 m.t,.bool m.c] 119;have hB9:=(Tc.aY NS).nH<|uN (E:=E)<|aC #[.int .i64 2,.int .i64 m.q,.int .i64 m.p,.int .i64 m.t,.bool m.c] 119;have asM:w.heap.size<=w9.heap.size:=eG Tc.size NS.size;walk_nrm;refine aA.mu rfl rfl ?_;walk_nrm;refine aA.fQ ?_;refine aA.ctl rfl (fun _=>aEh) ?_;refine aA.leave1 rfl rfl func141 rfl ?_;walk_nrm;exact ES _ _ _ ⟨_,v',rfl,hZ,asM,hM9,hB9⟩
 intro w3 kN;have hI:∀(S':aN) (x1 y1:aj),(dZ S' x1 mb #[.int .i64 m.k,.int .i64 m.q,.int .i64 m.p,.int .i64 m.t,.bool m.c] 119/\x1.cell? ⟨pb,po,af⟩=ae (ptr lb))->bg S' E x1 y1->(dZ S' y1 mb #[.int .i64 m.k,.int .i64 m.q,.int .i64 m.p,.int .i64 m.t,.bool m.c] 119/\y1.cell? ⟨pb,po,af⟩=ae (ptr lb)):=fun _ _ _ h1 h2=>⟨h1.1.aY h2,nI h1.2 sU h2⟩;have hQ:∀(a:Act) (S':aN) (x1 y1:aj),(a=⟨#[ay<|ae ⟨pb,po,af⟩,gY #[.int .i64 m.k,.int .i64 m.q,.int .i64 m.p,.int .i64 m.t,.bool m.c],ai,ay<|ae ⟨mb,0,af⟩,aJ af 0 0,ai,ay<|ae ⟨pb,po,af⟩,ay<|ae ⟨pb,po,af⟩,ay<|ae ⟨pb,po+1,af⟩,.bool false,ay<|ae ⟨pb,po,af⟩,ay<|ae ⟨pb,po,af⟩,ay<|ae ⟨pb,po,af⟩,ptr lb,ay<|ae ⟨mb,2,af⟩,.int .i64 m.p,ay<|ae ⟨mb,3,af⟩,.int .i64 m.t,ay<|ae ⟨mb,4,af⟩,.bool m.c,.bool<|s.isOpen m.p m.t,ai,ai,ai,ai],[]⟩/\dZ S' x1 mb #[.int .i64 m.k,.int .i64 m.q,.int .i64 m.p,.int .i64 m.t,.bool m.c] 119/\∃v',iD S' x1 B lb bm (n+1) v' (s.closed m.p m.t m.c)/\kz S E w S' x1)->bg S' E x1 y1->(a=⟨#[ay<|ae ⟨pb,po,af⟩,gY #[.int .i64 m.k,.int .i64 m.q,.int .i64 m.p,.int .i64 m.t,.bool m.c],ai,ay<|ae ⟨mb,0,af⟩,aJ af 0 0,ai,ay<|ae ⟨pb,po,af⟩,ay<|ae ⟨pb,po,af⟩,ay<|ae ⟨pb,po+1,af⟩,.bool false,ay<|ae ⟨pb,po,af⟩,ay<|ae ⟨pb,po,af⟩,ay<|ae ⟨pb,po,af⟩,ptr lb,ay<|ae ⟨mb,2,af⟩,.int .i64 m.p,ay<|ae ⟨mb,3,af⟩,.int .i64 m.t,ay<|ae ⟨mb,4,af⟩,.bool m.c,.bool<|s.isOpen m.p m.t,ai,ai,ai,ai],[]⟩/\dZ S' y1 mb #[.int .i64 m.k,.int .i64 m.q,.int .i64 m.p,.int .i64 m.t,.bool m.c] 119/\∃v',iD S' y1 B lb bm (n+1) v' (s.closed m.p m.t m.c)/\kz S E w S' y1):=fun _ _ _ _ h1 h2=>⟨h1.1,h1.2.1.aY h2,h1.2.2.choose,h1.2.2.choose_spec.1.aY h2,h1.2.2.choose_spec.2.aY h2⟩;have xZ:=kN.trans<|bg.at S2 E w3<|w3.drawn+1;have h4:=h2.aY xZ;have FB:=QC.aY xZ;have Au:=BK.aY xZ;have UM:=xU Zl xZ;have d4:=nI d0 sU xZ;change qQ _ _ _ _ _ _ _ _ _ _ _ _ _ (w3.at<|w3.drawn+1);generalize w3.at (w3.drawn+1)=w4 at h4 FB Au UM d4⊢
 have qj:dZ S2 w4 mb #[.int .i64 m.k,.int .i64 m.q,.int .i64 m.p,.int .i64 m.t,.bool m.c] 119/\w4.cell? ⟨pb,po,af⟩=ae (ptr lb):=⟨FB,d4⟩;simp only[GK,oq,wB,Nat.reduceAdd,DK];refine pR hI hQ vJ (i:=0) rfl (by kernel_rfl) (by kernel_rfl) (by kernel_rfl) (by kernel_rfl) (v:=_) ⟨rfl,fun S' w' hi=>⟨by go_simp<;>rfl,fun e he=>?_⟩⟩ qj ?_
 ·have hm:=aD4 he;simp[go_sem]at hm
 walk_nrm;refine pR hI hQ vJ (i:=1) rfl (by kernel_rfl) (by kernel_rfl) (by kernel_rfl) (by kernel_rfl) (v:=_) ⟨rfl,fun S' w' hi=>⟨by go_simp<;>rfl,fun e he=>?_⟩⟩ qj ?_
 ·have hm:=aD4 he;simp[go_sem]at hm
 walk_nrm;refine pR hI hQ vJ (i:=2) rfl (by kernel_rfl) (by kernel_rfl) (by kernel_rfl) (by kernel_rfl) (v:=_) ⟨rfl,fun S' w' hi=>⟨by go_simp<;>rfl,fun e he=>?_⟩⟩ qj ?_
 ·have hm:=aD4 he;simp[go_sem]at hm
 walk_nrm;refine pR hI hQ vJ (i:=3) rfl (by kernel_rfl) (by kernel_rfl) (by kernel_rfl) (by kernel_rfl) (v:=ptr lb) ⟨rfl,fun S' w' hi=>⟨?_,fun e he=>?_⟩⟩ qj ?_
 ·have hc:=hi.2;go_simp
 ·have hc:=hi.2;have hm:=aD4 he;simp[go_sem,hc]at hm;subst hm;exact .inr ⟨sU,rfl⟩
 walk_nrm;refine pR hI hQ vJ (i:=4) rfl (by kernel_rfl) (by kernel_rfl) (by kernel_rfl) (by kernel_rfl) (v:=_) ⟨rfl,fun S' w' hi=>⟨by go_simp<;>rfl,fun e he=>?_⟩⟩ qj ?_
 ·have hm:=aD4 he;simp[go_sem]at hm
 walk_nrm;refine pR hI hQ vJ (i:=5) rfl (by kernel_rfl) (by kernel_rfl) (by kernel_rfl) (by kernel_rfl) (v:=(.int .i64 m.p)) ⟨rfl,fun S' w' hi=>⟨?_,fun e he=>?_⟩⟩ qj ?_
 ·have hc:=hi.1.cell (o:=2) rfl;go_simp
 ·have hc:=hi.1.cell (o:=2) rfl;have hm:=aD4 he;simp[go_sem,hc]at hm;subst hm;exact .inl hi.1.1
 walk_nrm;refine pR hI hQ vJ (i:=6) rfl (by kernel_rfl) (by kernel_rfl) (by kernel_rfl) (by kernel_rfl) (v:=_) ⟨rfl,fun S' w' hi=>⟨by go_simp<;>rfl,fun e he=>?_⟩⟩ qj ?_
 ·have hm:=aD4 he;simp[go_sem]at hm
 walk_nrm;refine pR hI hQ vJ (i:=7) rfl (by kernel_rfl) (by kernel_rfl) (by kernel_rfl) (by kernel_rfl) (v:=(.int .i64 m.t)) ⟨rfl,fun S' w' hi=>⟨?_,fun e he=>?_⟩⟩ qj ?_
 ·have hc:=hi.1.cell (o:=3) rfl;go_simp
 ·have hc:=hi.1.cell (o:=3) rfl;have hm:=aD4 he;simp[go_sem,hc]at hm;subst hm;exact .inl hi.1.1
 walk_nrm;refine pR hI hQ vJ (i:=8) rfl (by kernel_rfl) (by kernel_rfl) (by kernel_rfl) (by kernel_rfl) (v:=_) ⟨rfl,fun S' w' hi=>⟨by go_simp<;>rfl,fun e he=>?_⟩⟩ qj ?_
 ·have hm:=aD4 he;simp[go_sem]at hm
 walk_nrm;refine pR hI hQ vJ (i:=9) rfl (by kernel_rfl) (by kernel_rfl) (by kernel_rfl) (by kernel_rfl) (v:=(.bool m.c)) ⟨rfl,fun S' w' hi=>⟨?_,fun e he=>?_⟩⟩ qj ?_
 ·have hc:=hi.1.cell (o:=4) rfl;go_simp
 ·have hc:=hi.1.cell (o:=4) rfl;have hm:=aD4 he;simp[go_sem,hc]at hm;subst hm;exact .inl hi.1.1
 walk_nrm;refine XB (rs:=[10]) (by kernel_rfl) (by simp) fun i hi=>?_;obtain rfl:i=10:=by simpa using hi
 refine pO.call rfl rfl rfl func187 rfl rfl ?_;walk_nrm;refine(asG h4 UM m.p m.t m.c hp hn hb).mono ?_;rintro y S' w' ⟨rfl,⟨v',h5⟩,qB,XF⟩;have BH:¬lG lb bm v mb:=fun hx=>absurd ((h.aY aQ).lt mb hx) (by rw[aiG];exact Og _);have SV:dZ S' w' mb #[.int .i64 m.k,.int .i64 m.q,.int .i64 m.p,.int .i64 m.t,.bool m.c] 119:=⟨qB.own _ FB.1,by rw[XF mb FB.1 BH];exact FB.2⟩;have sS:¬S2 pb:=fun hx=>(BK.new pb hx).elim hpS fun hx=>by have:=nU c0;have:=hx.1;simp only at*;omega
 have d5:=Eb d4 sU sS qB;refine⟨fun _=>⟨SV,d5⟩,aiA (by kernel_rfl) ⟨?_,SV,v',h5,Au.trans qB⟩ _⟩;walk_nrm
end Twin
end
section
namespace Twin
open Go Go.Proofs Go.Conc Go.RowKit
section
variable{L:Type}{P:eF}{main:Bool}{E:dD}{fn:FuncId}{ops:Array Oper}{md:Region.Mode}{I:aN->aj->Prop}{Q:L->Act->aN->aj->Prop}{Stop:aN->bF->aj->Prop}{Fin:L->aN->bF->aj->Prop}{c0:Nat}{X:L->Nat->Act->aN->aj->Prop}
def Be(P:eF)(main:Bool)(E:dD)(Stop:aN->bF->aj->Prop)(Fin:L->aN->bF->aj->Prop)(f:FuncId)(args:Array az)(S:aN)(w:aj)(ny:L->az->aN->aj->Prop):Prop:=
 ∀(b₀:bu) (a₀:Act) (ops:Array Oper) (i:Nat) (rest:List Nat) (k:List Item) (cs:List bu) (fn:Func) (c:Code),P.funcs[f]? =ae fn->fn.body=ae c->
  (∀l v S' w',ny l v S' w'->aA P main E (Fin l) S' (G (b₀.at (a₀.put ((ops[i]?).bind (·.dst)) v)<|bQ ops rest::k) cs) w')->
  aA P main E Stop S (G ((base f).at {tmps:=args++Array.replicate (fn.ntmps-args.size) ai,defers:=[]} [.code c])<|b₀.at a₀ (bQ ops (i::rest)::k)::cs) w
variable{f:FuncId}{args:Array az}{S:aN}{w:aj}{ny:L->az->aN->aj->Prop}{b:bu}{k:List Item}{cs:List bu}{i fuel:Nat}{oi:Oper}{v:az}{a:Act}
def Be.rely{w1:aj}(h:Be P main E Stop Fin f args S w ny)(hk:bg S E w w1):Be P main E Stop Fin f args S w1 ny:=
 fun b₀ a₀ ops i rest k cs fn c hf hb hn=>(h b₀ a₀ ops i rest k cs fn c hf hb hn).rely hk
def Be.mono{Vq:L->az->aN->aj->Prop}(h:Be P main E Stop Fin f args S w ny)(h':∀l v S w,ny l v S w->Vq l v S w):Be P main E Stop Fin f args S w Vq:=
 fun b₀ a₀ ops i rest k cs fn c hf hb hn=>h b₀ a₀ ops i rest k cs fn c hf hb fun l v S' w' hp=>hn l v S' w'<|h' l v S' w' hp
def OpB(P:eF)(main:Bool)(E:dD)(Stop:aN->bF->aj->Prop)(Fin:L->aN->bF->aj->Prop)(ops:Array Oper)(i:Nat)(K:L->Act->aN->aj->Prop)(a:Act)(S:aN)(w:aj):Prop:=
 ∃o f args lK lX c,ops[i]? =ae o/\Region.wanted o (yielded ops a.tmps)=true/\o.op=.call {callee:=.value<|.func f,args,argTypes:=lK}/\P.funcs[f]? =ae lX/\(lX.name== "runtime.NumGoroutine")=false/\lX.body=ae c/\Be P main E Stop Fin f (args.map a.eval) S w fun l v S' w'=>K l (a.put o.dst v) S' w'
def xW(P:eF)(main:Bool)(E:dD)(Stop:aN->bF->aj->Prop)(Fin:L->aN->bF->aj->Prop)(fn:FuncId)(md:Region.Mode)(ops:Array Oper)(c0:Nat)(Q:L->Act->aN->aj->Prop)(I:aN->aj->Prop)(X:L->Nat->Act->aN->aj->Prop):Nat->Array Bool->Act->aN->aj->Prop
 |0,_,_,_,_=>False
 |fuel+1,listed,a,S,w=>Region.ready md ops listed≠[]/\∀i∈Region.ready md ops listed,if i=c0 then OpB P main E Stop Fin ops i (fun l a' S' w'=>I S' w'/\qQ P main E fn md ops (Q l) I (X l) fuel (listed.setIfInBounds i true) a' S' w') a S w
   else pO P main E fn ops i (fun a' S' w'=>I S' w'/\xW P main E Stop Fin fn md ops c0 Q I X fuel (listed.setIfInBounds i true) a' S' w') a S w
def asN(hb:b.fn=fn)(hk:b.kind≠.early)(hQ:∀l a S w,Q l a S w->aA P main E (Fin l) S (G (b.at a k) cs) w)(hX:∀l z a S w,X l z a S w->aA P main E (Fin l) S (G (b.at a<|bQ ops [z]::k) cs) w):
 ∀(fuel t:Nat) (listed:Array Bool) (a:Act) (S:aN) (w:aj),xW P main E Stop Fin fn md ops c0 Q I X fuel listed a S w->aA P main E Stop S (G (b.at a<|bQ ops (Region.linearise.go md ops fuel t listed [])::k) cs) w:=by
 intro fuel;induction fuel with
 |zero=>intro t listed a S w h;exact h.elim
 |succ fuel ih=>
  intro t listed a S w h;obtain⟨h₀,h₁⟩:=h;simp only[Region.linearise.go];change aA P main E Stop S (G (b.at a<|bQ ops (match(Region.ready md ops listed)[t%(Region.ready md ops listed).length]? with
   |some i=>Region.linearise.go md ops fuel (t/(Region.ready md ops listed).length) (listed.setIfInBounds i true) [i]
   |none=>[].reverse)::k) cs) w
  cases hi:(Region.ready md ops listed)[t%(Region.ready md ops listed).length]? with
  |none=>
   exfalso;cases hr:Region.ready md ops listed with
   |nil=>exact h₀ hr
   |cons x xs=>
    rw[hr]at hi;have aI:t%(x::xs).length<(x::xs).length:=Nat.mod_lt _ (by simp);simp at hi;simp at aI;omega
  |some i=>
   simp only[];rw[linearise_go_acc,List.reverse_singleton,amW];have h2:=h₁ i<|gz hi;split at h2
   ·obtain⟨o,f,args,lK,lX,c,e1,e2,e3,e4,e5,e6,e7⟩:=h2;refine .call e1 e2 hk e3 e4 e5 e6<|e7 b a ops i _ k cs lX c e4 e6 fun l v S' w' hp=>?_;rw[e1];exact aix hb hk (hQ l) (hX l) fuel _ _ _ S' w' hp.2
   ·exact aiu hb hk<|Xz (fun a' S' w' x=>ih _ _ a' S' w' x.2) h2
def xW.rely(hI:∀S x y,I S x->bg S E x y->I S y):∀(fuel:Nat) (listed:Array Bool) (a:Act) (S:aN) (w w₁:aj),xW P main E Stop Fin fn md ops c0 Q I X fuel listed a S w->bg S E w w₁->xW P main E Stop Fin fn md ops c0 Q I X fuel listed a S w₁
 |0,_,_,_,_,_,h,_=>h.elim
 |fuel+1,listed,a,S,w,w₁,h,r=>⟨h.1,fun i hi=>by
   have:=h.2 i hi;split
   ·rename_i hc;rw[if_pos hc]at this;obtain⟨o,f,args,lK,lX,c,e1,e2,e3,e4,e5,e6,e7⟩:=this;exact⟨o,f,args,lK,lX,c,e1,e2,e3,e4,e5,e6,e7.rely r⟩
   ·rename_i hc;rw[if_neg hc]at this;unfold pO at*
    split
    ·simp_all
    ·rename_i o ho;simp only[ho]at this;split
     ·rename_i hw;simp only[hw,if_true]at this;rcases this with this|⟨f,args,lK,lX,c,h1,h2,h3,h4,h5⟩
      ·exact .inl fun w₂ h₂=>this w₂<|r.trans h₂
      ·exact .inr ⟨f,args,lK,lX,c,h1,h2,h3,h4,rJ.rely h5 r⟩
     ·rename_i hw;simp only[hw]at this;exact⟨hI _ _ _ this.1 r,xW.rely hI fuel _ _ _ _ _ this.2 r⟩⟩
def asO(hI:∀S x y,I S x->bg S E x y->I S y)(hQ:∀l a S x y,Q l a S x->bg S E x y->Q l a S y)(hX:∀l z a S x y,X l z a S x->bg S E x y->X l z a S y)(hi:ops[i]? =ae oi)(Zt:i≠c0)(NP:∀(j:Nat) (o:Oper) cs b,ops[j]? =ae o->o.op≠.select cs b):
 ∀(fuel:Nat) (listed:Array Bool) (a:Act) (S:aN) (w:aj),Closed md ops listed->(∀j oj,ops[j]? =ae oj->j≠i->listed.getD j true=false->(∀e∈oj.after,Region.binds md e=true->e.on≠i)->oi.apart ops oj=true)->
  i∈Region.ready md ops listed->yR P E fn ops I oi v a->I S w->xW P main E Stop Fin fn md ops c0 Q I X fuel (listed.setIfInBounds i true) (a.put oi.dst v) S w->xW P main E Stop Fin fn md ops c0 Q I X (fuel+1) listed a S w:=by
 have hK:∀fuel listed,∀a S x y,(I S x/\xW P main E Stop Fin fn md ops c0 Q I X fuel listed a S x)->bg S E x y->(I S y/\xW P main E Stop Fin fn md ops c0 Q I X fuel listed a S y):=
  fun fuel listed a S x y h r=>⟨hI _ _ _ h.1 r,xW.rely hI fuel listed a S x y h.2 r⟩
 intro fuel
 induction fuel with
 |zero=>intro listed a S w _ _ hr hy hS H;exact H.elim
 |succ fuel ih=>
  intro listed a S w nK BJ hr hy hS H
  refine⟨fun h=>(by rw[h]at hr;cases hr),fun j hj=>?_⟩
  by_cases lW:j=i
  ·subst lW
   rw[if_neg Zt]
   exact hy.opR hI hi (hK _ _) hS ⟨hS,H⟩
  ·have h1:=H.2 j (aEQ hj lW)
   obtain⟨Vo,oj,I4,jF⟩:=aFb.1 hj
   have aeF:∀e∈oj.after,Region.binds md e=true->e.on≠i:=fun e he hb heq=>by
    have h1:=jF e he hb;have h0:=(aFb.1 hr).1;rw[heq]at h1;rcases E5 i listed.size with h'|h'
    ·simp[h']at h0 h1;rw[h0]at h1;cases h1
    ·simp[afb h']at h1
   have Dn:=BJ j oj I4 lW Vo aeF
   have ZN:∀k ok,ops[k]? =ae ok->k≠i->(listed.setIfInBounds j true).getD k true=false->(∀e∈ok.after,Region.binds md e=true->e.on≠i)->oi.apart ops ok=true:=fun k ok hk zh Gq qI=>by
    refine BJ k ok hk zh ?_ qI;by_cases Nr:j=k
    ·subst Nr;exact Vo
    ·rw[getD_set_ne true Nr]at Gq;exact Gq
   by_cases Zj:j=c0
   ·rw[if_pos Zj]at h1⊢
    obtain⟨o,f,args,lK,lX,c,e1,e2,e3,e4,e5,e6,e7⟩:=h1
    obtain rfl:oj=o:=by rw[I4]at e1;exact qX e1
    obtain⟨g1,g2,g3⟩:=Oper.apart_spec Dn
    have aY:∀u,yR P E fn ops I oi v (a.put oj.dst u):=fun u=>hy.of_same (execOp_put oi (fun cs b=>NP i oi cs b hi) a oj.dst u g3)<|aFq oi a oj.dst u g3
    have ea:args.map (a.put oi.dst v).eval=args.map a.eval:=amZ fun x hx=>Act.eval_put fun d hd hxd=>g1 d hd (by
     subst hxd;exact KT _<|List.mem_filterMap.2 ⟨.tmp d,by rw[e3];simp[Op.operands,Call.operands,hx],rfl⟩)
    rw[ea]at e7
    rw[aFq oj a oi.dst v g1]at e2
    refine⟨oj,f,args,lK,lX,c,I4,e2,e3,e4,e5,e6,e7.mono fun l u S' w' hp=>⟨hp.1,?_⟩⟩
    have yz:=hp.2
    rw[aE4 a v u g2,ae8 _ _<|iW lW]at yz
    exact aiz hI (hQ l) (hX l) hi NP fuel _ _ _ _ (nK.set hj) ZN (aEQ hr<|iW lW) (aY u) hp.1 yz
   ·rw[if_neg Zj]at h1⊢
    have h2:=aiy I4 Dn (fun cs b=>NP i oi cs b hi) (fun cs b=>NP j oj cs b I4) hy h1
    refine Xz (fun a' S' w' h3=>⟨h3.2.1,ih (listed.setIfInBounds j true) a' S' w' (nK.set hj) ZN (aEQ hr<|iW lW) h3.1 h3.2.1 ?_⟩) h2
    rw[ae8 _ _ lW]
    exact h3.2.2
def FC(hI:∀S x y,I S x->bg S E x y->I S y)(hQ:∀l a S x y,Q l a S x->bg S E x y->Q l a S y)(hX:∀l z a S x y,X l z a S x->bg S E x y->X l z a S y){listed:Array Bool}(hi:ops[i]? =ae oi)(Zt:i≠c0)
 (hs:Region.noSelect ops=true)(nK:acx md ops listed=true)(hf:Region.free md ops listed i=true)(hr:(Region.ready md ops listed).contains i=true)(hy:yR P E fn ops I oi v a)(hS:I S w)(h:xW P main E Stop Fin fn md ops c0 Q I X fuel (listed.setIfInBounds i true) (a.put oi.dst v) S w):xW P main E Stop Fin fn md ops c0 Q I X (fuel+1) listed a S w:=
 asO hI hQ hX hi Zt (aFr hs) fuel listed a S w (aiw nK) (Region.free_spec hi hf) (by simpa using hr) hy hS h
def asP{listed:Array Bool}(hr:Region.ready md ops listed=[c0])(h:OpB P main E Stop Fin ops c0 (fun l a' S' w'=>I S' w'/\qQ P main E fn md ops (Q l) I (X l) fuel (listed.setIfInBounds c0 true) a' S' w') a S w):xW P main E Stop Fin fn md ops c0 Q I X (fuel+1) listed a S w:=
 ⟨by rw[hr];simp,fun i hi=>by
  rw[hr]at hi;simp at hi;subst hi;rw[if_pos rfl];exact h⟩
def aA.asQ{id:Nat}(hb:b.fn=fn)(hk:b.kind≠.early)(hm:P.follows .mixedOrders=true)(hQ:∀l a S w,Q l a S w->aA P main E (Fin l) S (G (b.at a k) cs) w)(hX:∀l z a S w,X l z a S w->aA P main E (Fin l) S (G (b.at a<|bQ ops [z]::k) cs) w)
 (h:∀w₁,bg S E w w₁->xW P main E Stop Fin fn .any ops c0 Q I X ops.size (Array.replicate ops.size false) a S {w₁ with drawn:=w₁.drawn+1}):aA P main E Stop S (G (b.at a<|.code (.region id ops true)::k) cs) w:=by
 refine .step1 rfl fun w₁ h₁=>⟨_,_,_,stepG_region_draw,⟨rfl,rfl,rfl,dm _,fun _ _ _=>rfl,by simp,fun _ _ _ h=>h⟩,?_⟩;rw[sK (w:=w₁) (w':={w₁ with drawn:=w₁.drawn+1})<|dm _];simp only[Region.schedule,hm,Bool.true_or,if_true];exact asN hb hk hQ hX ops.size _ _ a S _<|h w₁ h₁
end
end Twin
end
section
namespace Twin
open Go Go.Proofs Go.Conc Go.RowKit Go.Maps fJ
def FH(P:eF)(E:dD)(c ov:Nat)(Fin:List az->aN->bF->aj->Prop):List az->List az->aN->bF->aj->Prop
 |[],l=>fun S g w=>∃z0 z1 sh,g.status=.running/\(∀w1,bg S E w w1->bD P false g w1=.comm g #[rcase c z0,rcase ov z1] true sh w1 #[])/\aA P false E (Fin l) S (g.finishComm P #[rcase c z0,rcase ov z1] sh 1 z1 false) w
 |v::r,l=>fun S g w=>∃z0 z1 sh,g.status=.running/\(∀w1,bg S E w w1->bD P false g w1=.comm g #[rcase c z0,rcase ov z1] true sh w1 #[])/\aA P false E (FH P E c ov Fin r<|l++[v]) S (g.finishComm P #[rcase c z0,rcase ov z1] sh 0 v true) w/\
   aA P false E (Fin l) S (g.finishComm P #[rcase c z0,rcase ov z1] sh 1 z1 false) w
variable{S:aN}{w:aj}{E:dD}{B lb bm n pb po:Nat}{v:az}{s:aH}
def asR{K:Type}{X:bK K}{k:K}{Fin:List az->aN->bF->aj->Prop}(hS:∀l S g w,X.Hu k l S g w↔∃r,l++r=X.xQ k/\FH X.P (X.side k) (X.ch k) X.ov Fin r l S g w)(hF:X.Fin k=Fin){l:List az}{g:bF}(h:X.Hu k l S g w):∃z0 z1 sh,X.sH k l S g z0 z1 sh w:=by
 obtain⟨r,hr,h⟩:=(hS _ _ _ _).1 h;subst hF;cases r with
 |nil=>
  obtain⟨z0,z1,sh,h1,h2,h3⟩:=h;refine⟨z0,z1,sh,h1,h2,fun v r' hv=>?_,h3⟩;rw[<-hr]at hv;simp at hv
 |cons u r=>
  obtain⟨z0,z1,sh,h1,h2,h3,h4⟩:=h;refine⟨z0,z1,sh,h1,h2,fun v r' hv=>?_,h4⟩;rw[<-hr]at hv;simp at hv;obtain⟨rfl,rfl⟩:=hv;exact h3.mono fun S' g' w' hs=>(hS _ _ _ _).2 ⟨r',by simpa using hr,hs⟩
def kH(m:Ms):Value:=gY #[.int .i64 m.k,.int .i64 m.q,.int .i64 m.p,.int .i64 m.t,.bool m.c]
def asT(h:iD S w B lb bm n v s)(hS:∀b,S b->b<w.heap.size)(sU:E.rd pb)(c1:w.cell? ⟨pb,po+1,af⟩=ae (.bool true))(m:Ms):
 rJ prog false E 141 #[ay<|ae ⟨pb,po,af⟩,kH m] S w fun y S' w'=>y=aJ af 0 0/\iD S' w' B lb bm n v s/\kz S E w S' w'/\∀b,S b->¬lG lb bm v b->w'.heap[b]? =w.heap[b]? :=by
 refine((asH h.own h.lt sU c1 m).frame ?_ h.sub hS).mono ?_
 ·rintro y S' x1 y1 ⟨rfl,h1,h2⟩ hk;exact⟨rfl,h1.aY hk,h2.aY hk⟩
 ·rintro y S' w' ⟨S0,⟨rfl,h1,h2⟩,h3,h4,h5⟩;exact⟨rfl,h1.mono h3,h2.wide h.sub h3 h4 fun b x y=>(h5 b x y).1,fun b x y=>(h5 b x y).2⟩
def asU(h:iD S w B lb bm n v s)(hS:∀b,S b->b<w.heap.size)(sU:E.rd pb)(hpS:¬S pb)(c0:w.cell? ⟨pb,po,af⟩=ae (ptr lb))(c1:w.cell? ⟨pb,po+1,af⟩=ae (.bool false))(m:Ms)
 (hp:(Lit.int .i64 m.p).wf=true)(hn:n<dU)(hb:(s.es.length+1)*40<=140737488355328):
 rJ prog false E 141 #[ay<|ae ⟨pb,po,af⟩,kH m] S w fun y S' w'=>∃b v',y=aJ (ae ⟨b,0,af⟩) 1 1/\dZ S' w' b m.kZ.cs.toArray 119/\w.heap.size<=b/\iD S' w' B lb bm (n+1) v' (s.closed m.p m.t m.c)/\kz S E w S' w'/\(∀b,S b->¬lG lb bm v b->w'.heap[b]? =w.heap[b]?)/\∀b,lG lb bm v' b->lG lb bm v b\/w.heap.size<=b:=by
 refine((asI h.own h.lt sU (fun x=>hpS<|h.sub _ x) c0 c1 m hp hn hb).frame ?_ h.sub hS).mono ?_
 ·rintro y S' x1 y1 ⟨b,v',rfl,h0,hb,h1,h2⟩ hk;exact⟨b,v',rfl,h0.aY hk,hb,h1.aY hk,h2.aY hk⟩
 ·rintro y S' w' ⟨S0,⟨b,v',rfl,h0,hb,h1,h2⟩,h3,h4,h5⟩;exact⟨b,v',rfl,⟨h3 _ h0.1,h0.2⟩,hb,h1.mono h3,h2.wide h.sub h3 h4 fun b x y=>(h5 b x y).1,fun b x y=>(h5 b x y).2,fun b hb=>(h2.new b<|h1.sub b hb).imp id And.left⟩
end Twin
end
section
namespace Twin
open Go Go.Proofs Go.Conc Go.RowKit Go.Maps fJ
def fU:Code->Code
 | .seq _ b=>b
 |c=>c
def wO:Code->Code
 | .block _ c=>c
 | .loop c=>c
 |c=>c
noncomputable def Mc:Code:=wO<|wO<|fU<|fU<|Tryz.f114.body.getD .skip
structure Pl where
 B:Nat
 Ba:Nat
 c:Nat
 ov:Nat
 pb:Nat
 po:Nat
 lb:Nat
 bm:Nat
 n:Nat
 s:aH
 down:Bool
def Pl.log(p:Pl)(l:List Ms):aH:=if p.down then p.s else l.foldl (fun s m=>s.closed m.p m.t m.c) p.s
def Pl.oV(p:Pl)(l:List Ms):List Ms:=if p.down then[]else l.map Ms.kZ
structure Pl.At(p:Pl)(E:dD)(l:List Ms)(av:az)(S:aN)(w:aj):Prop where
 log:∃v,iD S w p.B p.lb p.bm (p.n+l.length) v (p.log l)/\∀b,av.ownBlock=ae b->¬lG p.lb p.bm v b
 oV:Own S w p.Ba 119 5 av (p.oV l).length ((p.oV l).flatMap Ms.cs)
 nil:p.down=true->av=aJ af 0 0
 c0:w.cell? ⟨p.pb,p.po,af⟩=ae (ptr p.lb)
 c1:w.cell? ⟨p.pb,p.po+1,af⟩=ae (.bool p.down)
 rd:E.rd p.pb
 aiI:¬S p.pb
 low:∀b,S b->b<w.heap.size
 base:p.Ba<=w.heap.size
 ro:∀b,E.ro b->b<w.heap.size
variable{E:dD}{S:aN}{w w':aj}
def Pl.At.aY{p:Pl}{l:List Ms}{av:az}{w1:aj}(h:p.At E l av S w)(hk:bg S E w w1):p.At E l av S w1:=
 ⟨let ⟨v,h1,h2⟩:=h.log;⟨v,h1.aY hk,h2⟩,h.oV.aY hk,h.nil,nI h.c0 h.rd hk,nI h.c1 h.rd hk,h.rd,h.aiI,xU h.low hk,eG h.base hk.size,fun b hb=>fK (h.ro b hb) hk.size⟩
def asV(hS:∀b,S b->b<w.heap.size)(hE:∀b,E.ro b->b<w.heap.size)(o:Obj):bg S E w (w.alloc o):=⟨rfl,rfl,rfl,by simp,fun b hb=>aD1 w o b<|hS b hb,fun b hb=>aD1 w o b<|hE b hb⟩
def oI.aY{T:aN}(h:oI T w w')(hS:∀b,S b->¬T b)(hE:∀b,E.ro b->¬T b):bg S E w w':=⟨h.tape,h.os,h.output,BM h.size.symm,fun b hb=>h.still b<|hS b hb,fun b hb=>h.still b<|hE b hb⟩
def bg.sub{S':aN}(h:bg S E w w')(hS:∀b,S' b->S b):bg S' E w w':=h.mono (fun b hb=>.inl<|hS b hb) fun _ hb=>.inr hb
structure Pl.Fits(p:Pl)(N:Nat):Prop where
 n:p.n+N<=dU
 es:(p.s.es.length+N)*40<=140737488355328
def aaK(s:aH)(p t:Int)(c:Bool):(s.closed p t c).es.length<=s.es.length+1:=by
 unfold aH.closed;split
 ·simp[aH.put,aH.set]
 ·omega
def aiJ:∀(l:List Ms) (s:aH),(l.foldl (fun s m=>s.closed m.p m.t m.c) s).es.length<=s.es.length+l.length
 |[],s=>by simp
 |m::l,s=>by
  have h1:=aiJ l<|s.closed m.p m.t m.c;have h2:=aaK s m.p m.t m.c;simp only[afj,oq];omega
variable{ops:Array Oper}{i:Nat}{rest:List Nat}{k:List Item}{cs:List bu}
def XG{P:eF}{b:bu}{a:Act}{cases:Array CommCase}{sh:CommShape}{kk:Int}{v:az}{ok:Bool}:
 (G (b.at a<|bQ ops (i::rest)::k) cs).finishComm P cases sh kk v ok=G (b.at (a.put ((ops[i]?).bind (·.dst))<|commResult cases sh kk v ok)<|bQ ops rest::k) cs:=by
 unfold Goroutine.finishComm G;simp only[Frame.finish_at]
def aiK(c ov:Nat)(z0 z1:az):commResult #[rcase c z0,rcase ov z1] .select 1 z1 false=dK #[.int .i64 1,.bool false,z0,z1]:=by
 simp[commResult,rcase,goInt,Array.zipIdx]
def asW(c ov:Nat)(z0 z1 v:az):commResult #[rcase c z0,rcase ov z1] .select 0 v true=dK #[.int .i64 0,.bool true,v,z1]:=by
 simp[commResult,rcase,goInt,Array.zipIdx]
def asX{p:Pl}{N:Nat}{Fin:List az->aN->bF->aj->Prop}{b₀:bu}{a₀:Act}{S0:aN}{w0:aj}(hN:p.Fits N)(hn:∀(l:List Ms) (v:az) (S':aN) (w':aj),p.At E l v S' w'->kz S0 E w0 S' w'->aA prog false E (Fin<|l.map kH) S' (G (b₀.at (a₀.put ((ops[i]?).bind (·.dst)) v)<|bQ ops rest::k) cs) w'):
 ∀(r l:List Ms) (t8 t9 t10 t11 t12 t13 t14 t15 t16 t17 t18 t19 t20 t21 av:az) (S:aN) (w:aj),l.length+r.length<=N->(∀m∈r,(Lit.int .i64 m.p).wf=true)->p.At E l av S w->kz S0 E w0 S w->
  aA prog false E (FH prog E p.c p.ov Fin (r.map kH)<|l.map kH) S (G ((base 114).at ⟨#[ay<|ae ⟨p.pb,p.po,af⟩,.chan<|ae p.c,.chan<|ae p.ov,ai,ai,ai,aJ af 0 0,av,t8,t9,t10,t11,t12,t13,t14,t15,t16,t17,t18,t19,t20,t21],[]⟩ [.code Mc,.inLoop Mc,.inBlock 0])<|b₀.at a₀ (bQ ops (i::rest)::k)::cs) w:=by
 intro r
 induction r with
 |nil=>
  intro l t8 t9 t10 t11 t12 t13 t14 t15 t16 t17 t18 t19 t20 t21 av S w hl uj h hB
  generalize CQ:Item.inLoop Mc=IL
  simp only[Mc,Tryz.f114,ik,fU,wO]
  refine aA.ctl rfl (fun _=>aEg) ?_
  refine aA.sq ?_
  refine aA.sq ?_
  refine aA.reg [0] rfl ?_
  refine aA.mu rfl rfl ?_
  walk_nrm
  refine aA.fQ ?_
  refine aA.reg [0] rfl ?_
  refine aA.mu rfl rfl ?_
  walk_nrm
  refine aA.fQ ?_
  refine aA.sq ?_
  refine aA.reg [0,1,2,3] rfl ?_
  generalize Gt:G _ _=gg
  have LH:aA prog false E (Fin<|l.map kH) S (gg.finishComm prog #[rcase p.c<|gY #[.int .i64 0,.int .i64 0,.int .i64 0,.int .i64 0,.bool false],rcase p.ov<|gY #[]] .select 1 (gY #[]) false) w:=by
   rw[<-Gt,XG,aiK];walk_nrm;refine aA.mu rfl rfl ?_;walk_nrm;refine aA.mu rfl rfl ?_;walk_nrm;refine aA.mu rfl rfl ?_;walk_nrm;refine aA.fQ ?_;refine aA.ctl rfl (fun _=>aEg) ?_;refine aA.ctl rfl (fun _=>aEc (t:=false)<|by rfl) ?_;refine aA.ctl rfl (fun _=>aEc (t:=true)<|by rfl) ?_;refine aA.sq ?_;refine aA.reg [0,1] rfl ?_;refine aA.mu rfl rfl ?_;walk_nrm;refine aA.mu rfl rfl ?_;walk_nrm;refine aA.fQ ?_;refine aA.ctl rfl (fun _=>aEh) ?_;refine aA.leave1 rfl rfl func114 rfl ?_;walk_nrm;exact hn l av S w h hB
  have jG:∀w1,bD prog false gg w1=.comm gg #[rcase p.c<|gY #[.int .i64 0,.int .i64 0,.int .i64 0,.int .i64 0,.bool false],rcase p.ov<|gY #[]] true .select w1 #[]:=fun w1=>by
   rw[<-Gt];rw[stepG_comm (cases:=#[rcase p.c<|gY #[.int .i64 0,.int .i64 0,.int .i64 0,.int .i64 0,.bool false],rcase p.ov<|gY #[]]) (blocking:=true) (shape:=.select) (w':=w1) rfl rfl (by decide) (by go_simp;exact⟨rfl,rfl⟩)];congr 1;simp[listed,go_sem];rfl
  have gU:gg.status=.running:=by rw[<-Gt];rfl
  exact aA.stop fun w1 hk=>⟨_,_,_,gU,fun w2 _=>jG w2,LH.rely hk⟩
 |cons m r ih=>
  intro l t8 t9 t10 t11 t12 t13 t14 t15 t16 t17 t18 t19 t20 t21 av S w hl uj h hB
  generalize CQ:Item.inLoop Mc=IL
  simp only[Mc,Tryz.f114,ik,fU,wO]
  refine aA.ctl rfl (fun _=>aEg) ?_
  refine aA.sq ?_
  refine aA.sq ?_
  refine aA.reg [0] rfl ?_
  refine aA.mu rfl rfl ?_
  walk_nrm
  refine aA.fQ ?_
  refine aA.reg [0] rfl ?_
  refine aA.mu rfl rfl ?_
  walk_nrm
  refine aA.fQ ?_
  refine aA.sq ?_
  refine aA.reg [0,1,2,3] rfl ?_
  generalize Gt:G _ _=gg
  have LH:aA prog false E (Fin<|l.map kH) S (gg.finishComm prog #[rcase p.c<|gY #[.int .i64 0,.int .i64 0,.int .i64 0,.int .i64 0,.bool false],rcase p.ov<|gY #[]] .select 1 (gY #[]) false) w:=by
   rw[<-Gt,XG,aiK];walk_nrm;refine aA.mu rfl rfl ?_;walk_nrm;refine aA.mu rfl rfl ?_;walk_nrm;refine aA.mu rfl rfl ?_;walk_nrm;refine aA.fQ ?_;refine aA.ctl rfl (fun _=>aEg) ?_;refine aA.ctl rfl (fun _=>aEc (t:=false)<|by rfl) ?_;refine aA.ctl rfl (fun _=>aEc (t:=true)<|by rfl) ?_;refine aA.sq ?_;refine aA.reg [0,1] rfl ?_;refine aA.mu rfl rfl ?_;walk_nrm;refine aA.mu rfl rfl ?_;walk_nrm;refine aA.fQ ?_;refine aA.ctl rfl (fun _=>aEh) ?_;refine aA.leave1 rfl rfl func114 rfl ?_;walk_nrm;exact hn l av S w h hB
  have jG:∀w1,bD prog false gg w1=.comm gg #[rcase p.c<|gY #[.int .i64 0,.int .i64 0,.int .i64 0,.int .i64 0,.bool false],rcase p.ov<|gY #[]] true .select w1 #[]:=fun w1=>by
   rw[<-Gt];rw[stepG_comm (cases:=#[rcase p.c<|gY #[.int .i64 0,.int .i64 0,.int .i64 0,.int .i64 0,.bool false],rcase p.ov<|gY #[]]) (blocking:=true) (shape:=.select) (w':=w1) rfl rfl (by decide) (by go_simp;exact⟨rfl,rfl⟩)];congr 1;simp[listed,go_sem];rfl
  have gU:gg.status=.running:=by rw[<-Gt];rfl
  have azW:aA prog false E (FH prog E p.c p.ov Fin (r.map kH)<|(l++[m]).map kH) S (gg.finishComm prog #[rcase p.c<|gY #[.int .i64 0,.int .i64 0,.int .i64 0,.int .i64 0,.bool false],rcase p.ov<|gY #[]] .select 0 (kH m) true) w:=by
   rw[<-Gt,XG,asW,show kH m=gY #[.int .i64 m.k,.int .i64 m.q,.int .i64 m.p,.int .i64 m.t,.bool m.c]from rfl];walk_nrm;refine aA.mu rfl rfl ?_;walk_nrm;refine aA.mu rfl rfl ?_;walk_nrm;refine aA.mu rfl rfl ?_;walk_nrm;refine aA.fQ ?_;refine aA.ctl rfl (fun _=>aEg) ?_;refine aA.ctl rfl (fun _=>aEc (t:=true)<|by rfl) ?_;refine aA.sq ?_;refine aA.reg [0,1,2] rfl ?_;refine aA.mu rfl rfl ?_;walk_nrm;refine aA.kC rfl rfl (by decide) fun w1 aQ=>?_;refine⟨ay<|ae ⟨w1.heap.size,0,af⟩,w1.alloc<|aC #[.int .i64 0,.int .i64 0,.int .i64 0,.int .i64 0,.bool false] 119,.inl<|by go_simp,wL (by simp[go_sem])<|uN _,?_⟩;have h1:=h.aY aQ;have h2:=h1.aY<|asV h1.low h1.ro<|aC #[.int .i64 0,.int .i64 0,.int .i64 0,.int .i64 0,.bool false] 119;have BK:=(hB.aY aQ).nH<|uN (E:=E)<|aC #[.int .i64 0,.int .i64 0,.int .i64 0,.int .i64 0,.bool false] 119;have hY2:=dZ.new S w1 #[.int .i64 0,.int .i64 0,.int .i64 0,.int .i64 0,.bool false] 119;have iU:=Ig h1.low<|aC #[.int .i64 0,.int .i64 0,.int .i64 0,.int .i64 0,.bool false] 119;have Dx:∀b,S b->(grow S w1<|w1.alloc<|aC #[.int .i64 0,.int .i64 0,.int .i64 0,.int .i64 0,.bool false] 119) b:=fun b hb=>.inl hb;have sS:¬(grow S w1<|w1.alloc<|aC #[.int .i64 0,.int .i64 0,.int .i64 0,.int .i64 0,.bool false] 119) p.pb:=fun hx=>hx.elim h1.aiI fun y=>by have:=nU h1.c0;simp only at this;omega
   have asY:∀b,S b->¬b=w1.heap.size:=fun b hb=>aao<|h1.low b hb;have asZ:∀b,E.ro b->¬b=w1.heap.size:=fun b hb=>aao<|h1.ro b hb;generalize grow S w1 (w1.alloc<|aC #[.int .i64 0,.int .i64 0,.int .i64 0,.int .i64 0,.bool false] 119)=S2 at*
   generalize w1.alloc (aC #[.int .i64 0,.int .i64 0,.int .i64 0,.int .i64 0,.bool false] 119)=w2 at*
   generalize w1.heap.size=ab at*
   walk_nrm;refine aA.kC rfl rfl (by decide) fun w3 kN=>?_;have h3:=h2.aY<|kN.sub Dx;have hB3:=BK.aY kN;have wP:=hY2.aY kN;have q0:=wP.cell (o:=0) rfl;have q1:=wP.cell (o:=1) rfl;have q2:=wP.cell (o:=2) rfl;have q3:=wP.cell (o:=3) rfl;have q4:=wP.cell (o:=4) rfl;have r0:=wP.free 0;have r1:=wP.free 1;have r2:=wP.free 2;have r3:=wP.free 3;have r4:=wP.free 4;have ZR:oI S2 w3 (((((w3.setCell ⟨ab,0,af⟩<|.int .i64 m.k).setCell ⟨ab,1,af⟩<|.int .i64 m.q).setCell ⟨ab,2,af⟩<|.int .i64 m.p).setCell ⟨ab,3,af⟩<|.int .i64 m.t).setCell ⟨ab,4,af⟩<|.bool m.c):=(((((oI.refl S2 w3).set wP.1 0 _).set wP.1 1 _).set wP.1 2 _).set wP.1 3 _).set wP.1 4 _;have hA4:oI (fun x=>x=ab) w3 (((((w3.setCell ⟨ab,0,af⟩<|.int .i64 m.k).setCell ⟨ab,1,af⟩<|.int .i64 m.q).setCell ⟨ab,2,af⟩<|.int .i64 m.p).setCell ⟨ab,3,af⟩<|.int .i64 m.t).setCell ⟨ab,4,af⟩<|.bool m.c):=(((((oI.refl (fun x=>x=ab) w3).set rfl 0 _).set rfl 1 _).set rfl 2 _).set rfl 3 _).set rfl 4 _;have KL:∀es:Array Event,(∀e∈es,mM S2 E e)->je S2 E w3 (((((w3.setCell ⟨ab,0,af⟩<|.int .i64 m.k).setCell ⟨ab,1,af⟩<|.int .i64 m.q).setCell ⟨ab,2,af⟩<|.int .i64 m.p).setCell ⟨ab,3,af⟩<|.int .i64 m.t).setCell ⟨ab,4,af⟩<|.bool m.c) es:=fun _=>ZR.nH;have h4:p.At E l av S (((((w3.setCell ⟨ab,0,af⟩<|.int .i64 m.k).setCell ⟨ab,1,af⟩<|.int .i64 m.q).setCell ⟨ab,2,af⟩<|.int .i64 m.p).setCell ⟨ab,3,af⟩<|.int .i64 m.t).setCell ⟨ab,4,af⟩<|.bool m.c):=h3.aY<|hA4.aY asY asZ;have Ea:∀b,S2 b->b<(((((w3.setCell ⟨ab,0,af⟩<|.int .i64 m.k).setCell ⟨ab,1,af⟩<|.int .i64 m.q).setCell ⟨ab,2,af⟩<|.int .i64 m.p).setCell ⟨ab,3,af⟩<|.int .i64 m.t).setCell ⟨ab,4,af⟩<|.bool m.c).heap.size:=fun b hb=>by rw[ZR.size];exact xU iU kN b hb
   have Ti:=((((wP.set 0<|.int .i64 m.k).set 1<|.int .i64 m.q).set 2<|.int .i64 m.p).set 3<|.int .i64 m.t).set 4<|.bool m.c;have Au:=hB3.nH (KL #[]<|by simp);rw[ZR.grow]at Au;refine⟨ai,((((w3.setCell ⟨ab,0,af⟩<|.int .i64 m.k).setCell ⟨ab,1,af⟩<|.int .i64 m.q).setCell ⟨ab,2,af⟩<|.int .i64 m.p).setCell ⟨ab,3,af⟩<|.int .i64 m.t).setCell ⟨ab,4,af⟩<|.bool m.c,.inr ⟨rfl,by go_simp⟩,KL _ fun e he=>?_,?_⟩
   ·simp[go_sem,acF,storedEv,q0,q1,q2,q3,q4,r0,r1,r2,r3,r4]at he;rcases he with rfl|rfl|rfl|rfl|rfl<;>exact .inl wP.1
   rw[ZR.grow];change dZ S2 (((((w3.setCell ⟨ab,0,af⟩<|.int .i64 m.k).setCell ⟨ab,1,af⟩<|.int .i64 m.q).setCell ⟨ab,2,af⟩<|.int .i64 m.p).setCell ⟨ab,3,af⟩<|.int .i64 m.t).setCell ⟨ab,4,af⟩<|.bool m.c) ab #[.int .i64 m.k,.int .i64 m.q,.int .i64 m.p,.int .i64 m.t,.bool m.c] 119 at Ti;generalize((((w3.setCell ⟨ab,0,af⟩<|.int .i64 m.k).setCell ⟨ab,1,af⟩<|.int .i64 m.q).setCell ⟨ab,2,af⟩<|.int .i64 m.p).setCell ⟨ab,3,af⟩<|.int .i64 m.t).setCell ⟨ab,4,af⟩ (.bool m.c)=w4 at*
   walk_nrm;refine aA.fQ ?_;refine aA.reg [0,1,2,3,4,5] rfl ?_;refine aA.mu rfl rfl ?_;walk_nrm;refine aA.mu rfl rfl ?_;walk_nrm;refine aA.val (gY #[.int .i64 m.k,.int .i64 m.q,.int .i64 m.p,.int .i64 m.t,.bool m.c]) rfl rfl (by decide) (fun w5 NQ=>?_) (fun w5 NQ e he=>?_) ?_
   ·have kG:=Ti.aY NQ;have g0:=kG.cell (o:=0) rfl;have g1:=kG.cell (o:=1) rfl;have g2:=kG.cell (o:=2) rfl;have g3:=kG.cell (o:=3) rfl;have g4:=kG.cell (o:=4) rfl;go_simp
   ·have kG:=Ti.aY NQ;have g0:=kG.cell (o:=0) rfl;have g1:=kG.cell (o:=1) rfl;have g2:=kG.cell (o:=2) rfl;have g3:=kG.cell (o:=3) rfl;have g4:=kG.cell (o:=4) rfl;simp[go_sem,g0,g1,g2,g3,g4]at he;rcases he with rfl|rfl|rfl|rfl|rfl<;>exact .inl kG.1
   walk_nrm;obtain⟨v,hM,I5⟩:=h4.log;have xx:=hM.mono Dx;have hlen:l.length+(r.length+1)<=N:=by simpa using hl
   have Gu:=h4.c0;have Dz:=h4.c1;have sW:∀(FI:az) (aiL aiM aiN aiO aiP aiQ:az) (S':aN) (w':aj),p.At E (l++[m]) FI S' w'->kz S0 E w0 S' w'->aA prog false E (FH prog E p.c p.ov Fin (r.map kH)<|(l++[m]).map kH) S' (G ((base 114).at ⟨#[ay<|ae ⟨p.pb,p.po,af⟩,.chan<|ae p.c,.chan<|ae p.ov,ai,ai,ai,aJ af 0 0,FI,ay<|ae ⟨ab,0,af⟩,.chan<|ae p.c,.chan<|ae p.ov,dK #[.int .i64 0,.bool true,gY #[.int .i64 m.k,.int .i64 m.q,.int .i64 m.p,.int .i64 m.t,.bool m.c],gY #[]],.int .i64 0,.bool true,.bool false,aiL,aiM,aiN,aiO,aiP,aiQ,t21],[]⟩ [.inBlock 2,.inBlock 1,IL,.inBlock 0])<|b₀.at a₀ (bQ ops (i::rest)::k)::cs) w':=by
    intro FI aiL aiM aiN aiO aiP aiQ S' w' hA hB';refine aA.ctl rfl (fun _=>aEy) ?_;refine aA.ctl rfl (fun _=>aEy) ?_;rw[<-CQ];refine aA.ctl rfl (fun _=>aEI) ?_;exact ih (l++[m]) _ _ _ _ _ _ _ _ _ _ _ _ _ _ FI S' w' (by simp<;>omega) (fun x hx=>uj x<|VO _ hx) hA hB'
   cases hd:p.down
   ·
    rw[hd]at Dz;have DC:p.oV l=l.map Ms.kZ:=by simp[Pl.oV,hd]
    have BZ:p.log l=l.foldl (fun s m=>s.closed m.p m.t m.c) p.s:=by simp[Pl.log,hd]
    have oh:=aiJ l p.s;have hNn:=hN.n;have hNe:=hN.es;refine aA.Tf rfl rfl (by decide) rfl func141 rfl rfl (by walk_nrm;rfl) (asU xx Ea h4.rd sS Gu Dz m (uj m<|by simp) (by omega) (by rw[BZ];omega)) ?_;rintro y S5 w5 ⟨cc,v',rfl,sN,qi,CP,qB,XF,hL5⟩;have hO:=h4.oV;rw[DC]at hO;have hO5:Own S5 w5 p.Ba 119 5 av (l.map Ms.kZ).length ((l.map Ms.kZ).flatMap Ms.cs):=hO.of (fun b hb=>qB.own b<|Dx b hb) fun b hb=>XF b (Dx b<|hO.r b hb)<|I5 b hb;have aiR:∀b,av.ownBlock=ae b->¬lG p.lb p.bm v' b:=fun b hb hx=>by
     have h1:b<w4.heap.size:=Ea b<|Dx b<|hO.r b hb;exact(hL5 b hx).elim (I5 b hb) fun y=>by omega
    have hz5:=qB.below Ea;have as4:=Au.trans qB;have hn5:¬S5 p.pb:=fun hx=>(qB.new _ hx).elim sS fun y=>by have:=nU Gu;simp only at this;omega
    have acM:=Eb Gu h4.rd sS qB;have aiS:=Eb Dz h4.rd sS qB;walk_nrm;refine aA.kC rfl rfl (by decide) fun w6 rP=>?_;have qC:=hO5.aY rP;have wM:=sN.aY rP;have oH:=CP.aY rP;have O9:=xU hz5 rP;have hw6:=rP.size;have hw5:=qB.size;have IW:p.Ba<=w6.heap.size:=eG (eG h4.base hw5) hw6;obtain⟨i0,dR,lu,NT,Vr⟩:=aEd Jo;have Vs:((l.map Ms.kZ).length+1)*40<=140737488355328:=by simp only[EZ];omega
    obtain⟨g,cap,w7,JF,SX,Bd,Ic,JG⟩:=aFl (P:=prog) w6 107 107 p.Ba 119 i0 _ 5 40 underlying107 dR lu NT Vr rfl (by omega) av (l.map Ms.kZ).length ((l.map Ms.kZ).flatMap Ms.cs) qC.row ⟨cc,0,af⟩ 1 1 m.kZ.cs rfl (aD7 wM.2) (by simp[Ms.cs,Value.oneCell']) (by omega) (by simp only[dU];omega) Vs IW _ rfl;have Vp:=aE5 (P:=prog) w6 p.Ba 107 107 119 i0 _ 5 40 underlying107 dR lu NT Vr av (l.map Ms.kZ).length ((l.map Ms.kZ).flatMap Ms.cs) qC.row ⟨cc,0,af⟩ 1 1 m.kZ.cs rfl (aD7 wM.2) (by simp[Ms.cs,Value.oneCell']) (by simp only[dU];omega) Vs;have JH:je S5 E w6 w7 ((Builtin.append_ #[107,107] 107 #[av,aJ (ae ⟨cc,0,af⟩) 1 1]).events prog w6 #[]):=acz Bd qC.r (fun s h5 hs hw=>((au.OT (au.Xq h5).toFit<|ok_two (SS qC.row fun k hk z=>(hs k z).1<|qC.r k hk) (.slice fun y hy z=>by cases hy;exact(hs _ z).1 wM.1)).DY hw JF fun b hb=>(hs b hb).2).2) fun e he=>by
     rcases Vp e he with⟨ad,h1,h2|h2⟩|⟨m,rfl,h2⟩
     ·exact(show mM _ _ _ by unfold mM;rw[h1];exact .inl<|.inl<|h2.2▸wM.1)
     ·exact(show mM _ _ _ by unfold mM;rw[h1];exact .inl<|.inl<|qC.r _ h2.symm)
     ·exact h2
    refine⟨aJ (ae ⟨g,0,af⟩) ((l.map Ms.kZ).length+1) cap,w7,.inl ?_,?_,?_⟩
    ·exact XD (.tmp 16) (.tmp 19) 107 rfl rfl rfl JF
    ·rw[aEW (.tmp 16) (.tmp 19) 107 rfl rfl rfl];exact JH
    have SY:(grow S5 w6 w7) g:=by
     rcases Ic with h1|h1
     ·exact .inl<|qC.r g h1
     ·exact .inr ⟨by omega,JG⟩
    have as5:∀b,(grow S5 w6 w7) b->b<w7.heap.size:=fun b hb=>by
     have:=Bd.size;rcases hb with hb|hb
     ·have:=O9 b hb;omega
     ·exact hb.2
    have Ph:iD (grow S5 w6 w7) w7 p.B p.lb p.bm (p.n+l.length+1) v' ((p.log l).closed m.p m.t m.c):=oH.nH (fun b hb=>Bd.block b (oH.lt b hb) fun e=>aiR b e.symm hb) JH;have hg7:∀b,(Value.slice (ae ⟨g,0,af⟩) ((l.map Ms.kZ).length+1) cap).ownBlock=ae b->¬lG p.lb p.bm v' b:=fun b hb hx=>by
     simp only[Value.ownBlock,gu]at hb;subst hb;rcases Ic with h1|h1
     ·exact aiR g h1 hx
     ·have:=oH.lt g hx;omega
    have S9:=(as4.aY rP).nH JH;have hn7:¬(grow S5 w6 w7) p.pb:=fun hx=>hx.elim hn5 fun y=>by have:=nU acM;simp only at this;omega
    have as8:w7.cell? ⟨p.pb,p.po,af⟩=ae (ptr p.lb):=(aD2<|Bd.block _ (nU<|nI acM h4.rd rP) fun e=>hn5<|qC.r _ e.symm).trans<|nI acM h4.rd rP;have as9:w7.cell? ⟨p.pb,p.po+1,af⟩=ae (.bool false):=(aD2<|Bd.block _ (nU<|nI aiS h4.rd rP) fun e=>hn5<|qC.r _ e.symm).trans<|nI aiS h4.rd rP;have hw7:=Bd.size;generalize grow S5 w6 w7=S7 at*
    walk_nrm;refine aA.mu rfl rfl ?_;walk_nrm;refine aA.fQ ?_;refine sW _ _ _ _ _ _ _ S7 w7 ⟨⟨v',?_,hg7⟩,⟨?_,fun b hb=>by simp only[Value.ownBlock,gu]at hb;exact hb▸SY⟩,fun hx=>(by rw[hd]at hx;cases hx),as8,by rw[hd];exact as9,h4.rd,hn7,as5,by omega,fun b hb=>by have:=h4.ro b hb;omega⟩ S9
    ·have e:p.log (l++[m])=(p.log l).closed m.p m.t m.c:=by simp[Pl.log,hd]
     rw[e];exact⟨Ph.log.mono (by simp<;>omega),Ph.l,Ph.m,Ph.r⟩
    ·have e:p.oV (l++[m])=l.map Ms.kZ++[m.kZ]:=by simp[Pl.oV,hd]
     rw[e];simpa using SX
   ·
    rw[hd]at Dz;refine aA.Tf rfl rfl (by decide) rfl func141 rfl rfl (by walk_nrm;rfl) (asT xx Ea h4.rd Dz m) ?_;rintro y S5 w5 ⟨rfl,CP,qB,XF⟩;have DC:p.oV l=[]:=by simp[Pl.oV,hd]
    have ata:=h4.nil hd;subst ata;walk_nrm;refine aA.mute (aJ af 0 0) rfl rfl (by decide) (fun _=>by go_simp<;>rfl) (fun _=>by simp[go_sem]) ?_;walk_nrm;refine aA.mu rfl rfl ?_;walk_nrm;refine aA.fQ ?_;refine sW _ _ _ _ _ _ _ S5 w5 ⟨⟨v,?_,by simp[Value.ownBlock]⟩,?_,fun _=>rfl,Eb Gu h4.rd sS qB,by rw[hd];exact Eb Dz h4.rd sS qB,h4.rd,fun hx=>(qB.new _ hx).elim sS fun y=>by have:=nU Gu;simp only at this;omega,qB.below Ea,eG h4.base qB.size,fun b hb=>fK (h4.ro b hb) qB.size⟩<|Au.trans qB
    ·have e:p.log (l++[m])=p.log l:=by simp[Pl.log,hd]
     rw[e];exact⟨CP.log.mono<|by simp,CP.l,CP.m,CP.r⟩
    ·have e:p.oV (l++[m])=[]:=by simp[Pl.oV,hd]
     rw[e];have:=h4.oV;rw[DC]at this;exact this.of (fun b hb=>qB.own b<|Dx b hb) fun k hk=>by simp[Value.ownBlock]at hk
  exact aA.stop fun w1 hk=>⟨_,_,_,gU,fun w2 _=>jG w2,by simpa using azW.rely hk,LH.rely hk⟩
end Twin
end
section
namespace Twin
open Go Go.Proofs Go.Conc Go.RowKit Go.Maps fJ
variable{E:dD}{S:aN}{w:aj}
def atb{p:Pl}{N:Nat}{Fin:List az->aN->bF->aj->Prop}{ms:List Ms}(hN:p.Fits N)(hl:ms.length<=N)(uj:∀m∈ms,(Lit.int .i64 m.p).wf=true)(h:p.At E [] (aJ af 0 0) S w):
 Be prog false E (FH prog E p.c p.ov Fin (ms.map kH) []) Fin 114 #[ay<|ae ⟨p.pb,p.po,af⟩,.chan<|ae p.c,.chan<|ae p.ov] S w (fun l v S' w'=>∃lm:List Ms,l=lm.map kH/\p.At E lm v S' w'/\kz S E w S' w'):=by
 intro b₀ a₀ ops i rest k cs fn c hf hb hn;obtain rfl:fn=Tryz.f114:=by rw[func114]at hf;exact(qX hf).symm
 obtain rfl:c=(Tryz.f114.body.getD .skip):=by rw[hb];rfl
 have Gv:=asX (Fin:=Fin) (b₀:=b₀) (a₀:=a₀) (ops:=ops) (i:=i) (rest:=rest) (k:=k) (cs:=cs) (S0:=S) (w0:=w) hN (fun l v S' w' h1 h2=>hn (l.map kH) v S' w' ⟨l,rfl,h1,h2⟩) ms [] ai ai ai ai ai ai ai ai ai ai ai ai ai ai (aJ af 0 0) S w (by simpa using hl) uj h kz.refl;simp only[wC]at Gv;generalize FH prog E p.c p.ov Fin (ms.map kH) []=St at Gv⊢
 simp only[Mc]at Gv;simp only[Tryz.f114,ik,fU,wO]at Gv⊢
 walk_nrm;refine aA.sq ?_;refine aA.reg [0] rfl ?_;refine aA.mu rfl rfl ?_;walk_nrm;refine aA.fQ ?_;refine aA.sq ?_;refine aA.reg [0] rfl ?_;refine aA.mu rfl rfl ?_;walk_nrm;refine aA.fQ ?_;refine aA.ctl rfl (fun _=>aEg) ?_;refine aA.ctl rfl (fun _=>aEO) ?_;exact Gv
def Be.of{L:Type}{P:eF}{main:Bool}{Stop:aN->bF->aj->Prop}{Fin:L->aN->bF->aj->Prop}{f:FuncId}{vs vs':Array az}{ny:L->az->aN->aj->Prop}(h:Be P main E Stop Fin f vs' S w ny)(e:vs=vs'):Be P main E Stop Fin f vs S w ny:=e▸h
structure Wx where
 p:Pl
 i:Nat
 Wg:Nat
 hv:Nat
 hb:Nat
 nb:Nat
 cb:Nat
 ob:Nat
 sv:Nat
 C:Nat
 np:Nat
 pc:Nat
structure Wx.yS(x:Wx)(w:aj):Prop where
 sv:w.cell? ⟨x.sv,0,af⟩=ae (aJ (ae ⟨x.C,0,af⟩) x.np x.np)
 n:w.cell? ⟨x.nb,0,af⟩=ae (.int .i64 x.i)
 h:w.cell? ⟨x.hv,0,af⟩=ae (ay<|ae ⟨x.hb,0,af⟩)
 ps:w.cell? ⟨x.hb,68,af⟩=ae (aJ (ae ⟨x.p.pb,0,af⟩) x.np x.pc)
 c:w.cell? ⟨x.cb,0,af⟩=ae (.chan<|ae x.p.c)
 o:w.cell? ⟨x.ob,0,af⟩=ae (.chan<|ae x.p.ov)
structure Wx.Fit(x:Wx)(E:dD):Prop where
 sv:E.rd x.sv
 nb:E.rd x.nb
 hv:E.rd x.hv
 hb:E.rd x.hb
 cb:E.rd x.cb
 ob:E.rd x.ob
 lt:x.i<x.np
 po:x.p.po=x.i*2
 np:x.np<2147483648
variable{x:Wx}{w1:aj}
def Wx.yS.aY(h:x.yS w)(hF:x.Fit E)(hk:bg S E w w1):x.yS w1:=
 ⟨nI h.sv hF.sv hk,nI h.n hF.nb hk,nI h.h hF.hv hk,nI h.ps hF.hb hk,nI h.c hF.cb hk,nI h.o hF.ob hk⟩
def Wx.yS.behind{S':aN}(h:x.yS w)(hF:x.Fit E)(hS:∀b,E.rd b->¬S b)(hk:kz S E w S' w1):x.yS w1:=
 ⟨Eb h.sv hF.sv (hS _ hF.sv) hk,Eb h.n hF.nb (hS _ hF.nb) hk,Eb h.h hF.hv (hS _ hF.hv) hk,Eb h.ps hF.hb (hS _ hF.hb) hk,Eb h.c hF.cb (hS _ hF.cb) hk,Eb h.o hF.ob (hS _ hF.ob) hk⟩
noncomputable def Ih:Frame:={(default:bu)with fn:=prog.funcs.size,defers:=[],mode:=.panicking [goexitEntry]}
noncomputable def Pj:Code:=Tryz.f112.body.getD .skip
noncomputable def XH:Array Oper:=match fU Pj with| .region _ o _=>o|_=>#[]
def Wx.aiT(x:Wx):Array Value:=#[ay<|ae ⟨x.Wg,0,af⟩,ay<|ae ⟨x.hv,0,af⟩,ay<|ae ⟨x.nb,0,af⟩,ay<|ae ⟨x.cb,0,af⟩,ay<|ae ⟨x.ob,0,af⟩,ay<|ae ⟨x.sv,0,af⟩]
def Wx.dc(x:Wx):Deferred:={target:=.fn (.func 112) x.aiT,args:=#[]}
noncomputable def Wx.start(x:Wx):Goroutine:=G ((baseD 112).at ⟨#[ay<|ae ⟨x.Wg,0,af⟩,ay<|ae ⟨x.hv,0,af⟩,ay<|ae ⟨x.nb,0,af⟩,ay<|ae ⟨x.cb,0,af⟩,ay<|ae ⟨x.ob,0,af⟩,ay<|ae ⟨x.sv,0,af⟩,ai,ai,ai,ai,ai,ai,ai,ai,ai,ai,ai,ai],[]⟩ [.code Pj]) [Ih]
noncomputable def Wx.act(x:Wx)(v:az):Act:=⟨#[ay<|ae ⟨x.Wg,0,af⟩,ay<|ae ⟨x.hv,0,af⟩,ay<|ae ⟨x.nb,0,af⟩,ay<|ae ⟨x.cb,0,af⟩,ay<|ae ⟨x.ob,0,af⟩,ay<|ae ⟨x.sv,0,af⟩,aJ (ae ⟨x.C,0,af⟩) x.np x.np,.int .i64 x.i,ay<|ae ⟨x.hb,0,af⟩,ay<|ae ⟨x.hb,0,af⟩,ay<|ae ⟨x.hb,68,af⟩,aJ (ae ⟨x.p.pb,0,af⟩) x.np x.pc,.int .i64 x.i,ay<|ae ⟨x.p.pb,x.p.po,af⟩,.chan<|ae x.p.c,.chan<|ae x.p.ov,v,ay<|ae ⟨x.C,x.i,af⟩],[dcall 113 #[ay<|ae ⟨x.Wg,0,af⟩]]⟩
noncomputable def Wx.store(x:Wx)(v:az):Goroutine:=G ((baseD 112).at (x.act v) [bQ XH [12]]) [Ih]
def Wx.Fin(x:Wx)(E:dD)(l:List az)(S:aN)(g:bF)(w:aj):Prop:=∃(lm:List Ms) (v:az),l=lm.map kH/\g=x.store v/\x.p.At E lm v S w/\x.yS w
def atc(x:Wx)(w:aj):bD prog false (born prog x.dc) w=.go x.start w #[]:=by
 simp[born,Wx.dc,Wx.aiT,bD,unwind,callDeferred,invoke,callFunc,func112,Tryz.f112,seen,GStep.after,G,Frame.enter,Frame.at,baseD,Ih,Pj,Wx.start]
def atd{N:Nat}{ms:List Ms}(hF:x.Fit E)(hN:x.p.Fits N)(hl:ms.length<=N)(uj:∀m∈ms,(Lit.int .i64 m.p).wf=true)(hS:∀b,E.rd b->¬S b)(hA:x.p.At E [] (aJ af 0 0) S w)(hC:x.yS w):
 aA prog false E (FH prog E x.p.c x.p.ov (x.Fin E) (ms.map kH) []) S (born prog x.dc) w:=by
 refine aA.ctl rfl (fun _=>atc x _) ?_;have zt:∀(lm:List Ms) (v:az) (S':aN) (w':aj),x.p.At E lm v S' w'->x.yS w'->aA prog false E (x.Fin E<|lm.map kH) S' (x.store v) w':=fun lm v S' w' h1 h2=>aA.stop fun w1 hk=>⟨lm,v,rfl,rfl,h1.aY hk,h2.aY hF hk⟩;have QD:=fun(S:aN) (w:aj) (h:x.p.At E [] (aJ af 0 0) S w)=>atb (Fin:=x.Fin E) hN hl uj h;generalize FH prog E x.p.c x.p.ov (x.Fin E) (ms.map kH) []=St at QD⊢
 simp only[Wx.store,XH,Pj,Tryz.f112,ik,fU]at zt;simp only[Wx.start,Pj,Tryz.f112,ik];refine aA.sq ?_;refine aA.reg [0] rfl ?_;refine aA.ctl rfl (fun _=>stepG_defer rfl rfl (by decide) rfl) ?_;walk_nrm;refine aA.fQ ?_;refine aA.asQ (L:=List az) (c0:=10) (Fin:=x.Fin E) (I:=fun _ w=>x.yS w) (Q:=fun _ _ _ _=>False) (X:=fun l z a S w=>z=12/\∃(lm:List Ms) (v:az),l=lm.map kH/\a=x.act v/\x.p.At E lm v S w/\x.yS w) rfl (by decide) (by kernel_rfl) (fun _ _ _ _ h=>h.elim) ?_ ?_
 ·rintro l z a S' w' ⟨rfl,lm,v,rfl,rfl,h1,h2⟩;exact zt lm v S' w' h1 h2
 intro w1 aQ;have hI:∀(S':aN) (x1 y1:aj),x.yS x1->bg S' E x1 y1->x.yS y1:=fun _ _ _ h1 h2=>h1.aY hF h2;have hQ:∀(_:List az) (_:Act) (S':aN) (x1 y1:aj),False->bg S' E x1 y1->False:=fun _ _ _ _ _ h _=>h;have hX:∀(l:List az) (z:Nat) (a:Act) (S':aN) (x1 y1:aj),(z=12/\∃(lm:List Ms) (v:az),l=lm.map kH/\a=x.act v/\x.p.At E lm v S' x1/\x.yS x1)->bg S' E x1 y1->(z=12/\∃(lm:List Ms) (v:az),l=lm.map kH/\a=x.act v/\x.p.At E lm v S' y1/\x.yS y1):=by
  rintro l z a S' x1 y1 ⟨h1,lm,v,h2,h3,h4,h5⟩ hk;exact⟨h1,lm,v,h2,h3,h4.aY hk,h5.aY hF hk⟩
 have DD:=hA.aY<|aQ.trans<|bg.at S E w1<|w1.drawn+1;have Aw:=hC.aY hF<|aQ.trans<|bg.at S E w1<|w1.drawn+1;change xW _ _ _ _ _ _ _ _ _ _ _ _ _ _ _ _ (w1.at<|w1.drawn+1);generalize w1.at (w1.drawn+1)=w2 at DD Aw⊢
 clear hA hC aQ;simp only[GK,oq,wB,Nat.reduceAdd,DK];refine FC hI hQ hX (i:=0) rfl (by decide) (by kernel_rfl) (by kernel_rfl) (by kernel_rfl) (by kernel_rfl) (v:=aJ (ae ⟨x.C,0,af⟩) x.np x.np) ⟨rfl,fun S' w' hi=>⟨?_,fun e he=>?_⟩⟩ Aw ?_
 ·have g0:=hi.sv;go_simp
 ·have g0:=hi.sv;have hm:=aD4 he;simp[go_sem,g0]at hm;subst hm;exact .inr ⟨hF.sv,rfl⟩
 walk_nrm;refine FC hI hQ hX (i:=1) rfl (by decide) (by kernel_rfl) (by kernel_rfl) (by kernel_rfl) (by kernel_rfl) (v:=.int .i64 x.i) ⟨rfl,fun S' w' hi=>⟨?_,fun e he=>?_⟩⟩ Aw ?_
 ·have g0:=hi.n;go_simp
 ·have g0:=hi.n;have hm:=aD4 he;simp[go_sem,g0]at hm;subst hm;exact .inr ⟨hF.nb,rfl⟩
 walk_nrm;refine FC hI hQ hX (i:=2) rfl (by decide) (by kernel_rfl) (by kernel_rfl) (by kernel_rfl) (by kernel_rfl) (v:=ay<|ae ⟨x.hb,0,af⟩) ⟨rfl,fun S' w' hi=>⟨?_,fun e he=>?_⟩⟩ Aw ?_
 ·have g0:=hi.h;go_simp
 ·have g0:=hi.h;have hm:=aD4 he;simp[go_sem,g0]at hm;subst hm;exact .inr ⟨hF.hv,rfl⟩
 walk_nrm;refine FC hI hQ hX (i:=3) rfl (by decide) (by kernel_rfl) (by kernel_rfl) (by kernel_rfl) (by kernel_rfl) (v:=_) ⟨rfl,fun S' w' hi=>⟨by go_simp<;>rfl,fun e he=>?_⟩⟩ Aw ?_
 ·have hm:=aD4 he;simp[go_sem]at hm
 walk_nrm;refine FC hI hQ hX (i:=4) rfl (by decide) (by kernel_rfl) (by kernel_rfl) (by kernel_rfl) (by kernel_rfl) (v:=ay<|ae ⟨x.hb,68,af⟩) ⟨rfl,fun S' w' hi=>⟨by go_simp<;>rfl,fun e he=>?_⟩⟩ Aw ?_
 ·have hm:=aD4 he;simp[go_sem]at hm
 walk_nrm;refine FC hI hQ hX (i:=5) rfl (by decide) (by kernel_rfl) (by kernel_rfl) (by kernel_rfl) (by kernel_rfl) (v:=aJ (ae ⟨x.p.pb,0,af⟩) x.np x.pc) ⟨rfl,fun S' w' hi=>⟨?_,fun e he=>?_⟩⟩ Aw ?_
 ·have g0:=hi.ps;go_simp
 ·have g0:=hi.ps;have hm:=aD4 he;simp[go_sem,g0]at hm;subst hm;exact .inr ⟨hF.hb,rfl⟩
 walk_nrm;refine FC hI hQ hX (i:=6) rfl (by decide) (by kernel_rfl) (by kernel_rfl) (by kernel_rfl) (by kernel_rfl) (v:=.int .i64 x.i) ⟨rfl,fun S' w' hi=>⟨?_,fun e he=>?_⟩⟩ Aw ?_
 ·have g0:=hi.n;go_simp
 ·have g0:=hi.n;have hm:=aD4 he;simp[go_sem,g0]at hm;subst hm;exact .inr ⟨hF.nb,rfl⟩
 walk_nrm;have aI:=hF.lt;have NU:=hF.po;refine FC hI hQ hX (i:=7) rfl (by decide) (by kernel_rfl) (by kernel_rfl) (by kernel_rfl) (by kernel_rfl) (v:=ay<|ae ⟨x.p.pb,x.p.po,af⟩) ⟨rfl,fun S' w' hi=>⟨?_,fun e he=>?_⟩⟩ Aw ?_
 ·rw[NU];go_simp
 ·have hm:=aD4 he;simp[go_sem]at hm;rw[aEE _ _ _ _ _ _ (by kernel_rfl) ⟨by omega,by omega⟩]at hm;simp at hm
 walk_nrm;refine FC hI hQ hX (i:=8) rfl (by decide) (by kernel_rfl) (by kernel_rfl) (by kernel_rfl) (by kernel_rfl) (v:=.chan<|ae x.p.c) ⟨rfl,fun S' w' hi=>⟨?_,fun e he=>?_⟩⟩ Aw ?_
 ·have g0:=hi.c;go_simp
 ·have g0:=hi.c;have hm:=aD4 he;simp[go_sem,g0]at hm;subst hm;exact .inr ⟨hF.cb,rfl⟩
 walk_nrm;refine FC hI hQ hX (i:=9) rfl (by decide) (by kernel_rfl) (by kernel_rfl) (by kernel_rfl) (by kernel_rfl) (v:=.chan<|ae x.p.ov) ⟨rfl,fun S' w' hi=>⟨?_,fun e he=>?_⟩⟩ Aw ?_
 ·have g0:=hi.o;go_simp
 ·have g0:=hi.o;have hm:=aD4 he;simp[go_sem,g0]at hm;subst hm;exact .inr ⟨hF.ob,rfl⟩
 walk_nrm;refine asP (by kernel_rfl) ⟨_,114,_,_,Tryz.f114,(Tryz.f114.body.getD .skip),rfl,rfl,rfl,func114,rfl,rfl,?_⟩;refine Be.mono (Be.of (QD S w2 DD)<|by walk_nrm) ?_;rintro l v S' w' ⟨lm,rfl,Vt,hB3⟩;have hC3:=Aw.behind hF hS hB3;refine⟨hC3,?_⟩;walk_nrm;refine pR hI (hQ<|lm.map kH) (hX<|lm.map kH) (i:=11) rfl (by kernel_rfl) (by kernel_rfl) (by kernel_rfl) (by kernel_rfl) (v:=ay<|ae ⟨x.C,x.i,af⟩) ⟨rfl,fun S' w' hi=>⟨?_,fun e he=>?_⟩⟩ hC3 ?_
 ·go_simp
 ·have hm:=aD4 he;simp[go_sem]at hm;rw[aEE _ _ _ _ _ _ (by kernel_rfl) ⟨by omega,by omega⟩]at hm;simp at hm
 walk_nrm;exact aiB (by kernel_rfl) (by kernel_rfl) ⟨rfl,lm,v,rfl,rfl,Vt,hC3⟩
end Twin
end
section
namespace Twin
open Go Go.Proofs Go.Conc Go.RowKit Go.Maps fJ
open Go.Conc.Lib Go.ConcR.Gen Go.ConcN.Gen
open Go.ConcN (WgLive PayAt Has RW)
open Go.ConcR (DC0 Payload)
def ate(T:Array az):QuitsD prog 2 0 (G {(baseD 112).at ⟨T,[]⟩ []with mode:=.returning} [Ih]):=by
 refine QuitsD.ctl (g':=G Ih []) rfl (fun w=>?_) ?_
 ·simp[G,bD,unwind,doReturn,results,Frame.at,baseD,Ih,func112,Tryz.f112,seen,GStep.after,goexitEntry]
 refine QuitsD.ctl (g':={G Ih []with status:=.finished}) rfl (fun w=>?_) ⟨rfl,rfl⟩;simp[G,bD,unwind,Ih,goexitEntry,Frame.catches];rfl
variable{x:Wx}{n m c:Nat}{a:Option Addr}{w:aj}
def atf(hi:x.i<n)(Gp:PayAt x.C n w):
 bD prog false (x.store<|.slice a m c) w=.go (G ((baseD 112).at (x.act<|.slice a m c) [bQ XH []]) [Ih]) (w.setCell ⟨x.C,x.i,af⟩<|.slice a m c) #[⟨.cell ⟨x.C,x.i,af⟩,true,false⟩]:=by
 obtain⟨cs,o6,lI⟩:=Gp;have q0:w.cell? ⟨x.C,x.i,af⟩=ae cs[x.i]:=by rw[aK o6,GG<|by omega]
 have f0:w.frozen? ⟨x.C,x.i,af⟩=false:=jS o6 x.i;simp only[Wx.store,XH,Pj,Tryz.f112,ik,fU];rw[stepG_none (w':=w.setCell ⟨x.C,x.i,af⟩<|.slice a m c) rfl rfl (by decide) (by simp only[Wx.act];go_simp)];congr 1;simp[listed,Wx.act,go_sem,aEH,storedEv,q0,f0];rfl
def aiU{K:Type}{X:bK K}(hP:X.P=prog)(hW:X.Wg=x.Wg)(hC:X.C=x.C)(dh:x.Wg≠x.C)(hi:x.i<n):X.Bc 177 n x.i (.slice a m c) (x.store<|.slice a m c) w:=by
 refine⟨rfl,fun bV Gp=>?_⟩;rw[hW]at bV;rw[hC]at Gp;rw[hP,hC,hW];refine⟨_,atf hi Gp,27,?_⟩;obtain⟨cs,o6,lI⟩:=Gp;have hK:WgLive 177 x.Wg (w.setCell ⟨x.C,x.i,af⟩<|.slice a m c)/\Has x.C (x.i+1-1) (.slice a m c) (w.setCell ⟨x.C,x.i,af⟩<|.slice a m c):=by
  refine⟨?_,?_⟩
  ·obtain⟨a1,a2,h1⟩:=bV;exact⟨a1,a2,h1.of_block<|aD3 w _ _ _ dh⟩
  ·show(w.setCell ⟨x.C,x.i,af⟩<|.slice a m c).cell? ⟨x.C,x.i,af⟩=ae (.slice a m c);rw[aK<|jT o6 x.i _];simp[lI,hi]
 generalize w.setCell ⟨x.C,x.i,af⟩ (.slice a m c)=w' at hK⊢
 change Goes prog false (RW 177 x.Wg x.C n 0<|x.i+1-1) DC0 (ConcN.AtR0 prog 177 x.Wg x.C n 0 (x.i+1)<|.slice a m c) 27 _ w';u_c aDX kn_rely hK
 u_c stepG_end kn_rely hK
 u_in kn_rely hK
 rw[stepG_unwind_enter rfl SI.f_done (nm_done link) rfl];simp only[goes_go];refine⟨by u_nil,?_⟩;walk_nrmf doneFn
 exact(asw (L:=link) (n:=n) (Low:=0) SI rfl (ate _) _ hK).more
end Twin
end
section
namespace Twin
open Go Go.Proofs Go.Conc Go.RowKit Go.Maps fJ
open Go.ConcR (WgAt KK)
def iQ:Code->Code
 | .seq a _=>a
 |c=>c
noncomputable def qE:Code:=Tryz.f54.body.getD .skip
noncomputable def wQ:Code:=fU<|fU<|fU<|fU<|fU qE
noncomputable def Ii:Code:=wO<|wO<|fU<|iQ wQ
noncomputable def yT:Code:=fU wQ
noncomputable def Ec:Code:=wO<|wO<|fU<|iQ<|fU yT
noncomputable def Ed:Code:=fU<|fU yT
structure Kd where
 x:Wx
 ms:List Ms
def Md(R:aN)(x:Wx):dD:=⟨fun b=>R b\/b=x.nb\/b=x.cb,fun b=>R b\/b=x.nb\/b=x.cb,fun _ h=>h⟩
structure Gs where
 R:aN
 iG:aN
 zO:aN
 xb:Nat
 hv:Nat
 mr:Nat
 C:Nat
 sv:Nat
 ov:Nat
 ob:Nat
 Wg:Nat
 pb:Nat
 pc:Nat
 B:Nat
 Ba:Nat
 n:Nat
 N:Nat
 m0:Nat
 mb:Nat
 mc:Nat
 ma:Option Addr
 pl:List PL
 ms:List Ms
 w0:aj
def Gs.np(z:Gs):Nat:=z.pl.length
def Gs.marks(z:Gs)(i:Nat):List Ms:=z.ms.filter fun m:Ms=>decide<|m.k=1/\m.q=(i:Int)
def Gs.wx(z:Gs)(i:Nat)(p:PL)(nb cb c:Nat):Wx:=
 {p:={B:=z.B,Ba:=z.Ba,c:=c,ov:=z.ov,pb:=z.pb,po:=i*2,lb:=p.lb,bm:=p.bm,n:=z.n,s:=p.s,down:=p.out},i:=i,Wg:=z.Wg,hv:=z.hv,hb:=z.xb,nb:=nb,cb:=cb,ob:=z.ob,sv:=z.sv,C:=z.C,np:=z.np,pc:=z.pc}
noncomputable def Gs.iM(z:Gs):bK Kd where
 P:=prog
 Wg:=z.Wg
 C:=z.C
 ov:=z.ov
 m0:=z.m0
 iG:=z.iG
 zO:=z.zO
 ch k:=k.x.p.c
 side k:=Md z.R k.x
 Hu k l S g w:=∃r,l++r=k.ms.map kH/\FH prog (Md z.R k.x) k.x.p.c z.ov (k.x.Fin<|Md z.R k.x) r l S g w
 Fin k:=k.x.Fin<|Md z.R k.x
 xQ k:=k.ms.map kH
def Gs.fit(z:Gs):z.iM.Fit:=fun _ _ _ _ _ h=>asR (X:=z.iM) (fun _ _ _ _=>Iff.rfl) rfl h
def Gs.E(z:Gs):dD:=⟨fun b=>z.R b\/b=z.Wg,z.R,fun _ h=>.inl h⟩
def Gs.Good(z:Gs)(ks:List Kd):Prop:=∀(i:Nat) (k:Kd),ks[i]? =ae k->∃p nb cb c,z.pl[i]? =ae p/\k=⟨z.wx i p nb cb c,z.marks i⟩
structure Gs.Bf(z:Gs)(w:aj):Prop where
 sv:w.cell? ⟨z.sv,0,af⟩=ae (aJ (ae ⟨z.C,0,af⟩) z.np z.np)
 hv:w.cell? ⟨z.hv,0,af⟩=ae (ay<|ae ⟨z.xb,0,af⟩)
 ps:w.cell? ⟨z.xb,68,af⟩=ae (aJ (ae ⟨z.pb,0,af⟩) z.np z.pc)
 ob:w.cell? ⟨z.ob,0,af⟩=ae (.chan<|ae z.ov)
 c0:∀(i:Nat) (p:PL),z.pl[i]? =ae p->w.cell? ⟨z.pb,i*2,af⟩=ae (ptr p.lb)
 c1:∀(i:Nat) (p:PL),z.pl[i]? =ae p->w.cell? ⟨z.pb,i*2+1,af⟩=ae (.bool p.out)
 ms:∀(i:Nat) (m:Ms),z.ms[i]? =ae m->∀(j:Nat) (v:az),m.cs[j]? =ae v->w.cell? ⟨z.mb,i*5+j,af⟩=ae v
 fr:∀b,z.R b->w.heap[b]? =z.w0.heap[b]?
 tape:w.tape=z.w0.tape
 os:w.os=z.w0.os
 output:w.output=z.w0.output
structure Gs.Ok(z:Gs):Prop where
 Pm:z.R z.sv
 Pn:z.R z.hv
 Po:z.R z.xb
 Pq:z.R z.ob
 FK:z.R z.pb
 Tm:z.ms≠[]->z.R z.mb/\z.ma=ae ⟨z.mb,0,af⟩
 CS:¬z.R z.Wg
 nC:¬z.R z.C
 uO:¬z.R z.ov
 XI:z.Wg≠z.C
 np:z.np<2147483648
 len:z.ms.length<=z.N
 small:z.N<2147483648
 fits:z.n+z.N<=dU
 es:∀p∈z.pl,(p.s.es.length+z.N)*40<=140737488355328
 wf:∀m∈z.ms,(Lit.int .i64 m.p).wf=true
 apart:iP z.pl
 q:∀m∈z.ms,m.k=1->∃i:Nat,m.q=i/\i<z.np
variable{z:Gs}{S:aN}{E:dD}{w w1:aj}
def Gs.Bf.aY(h:z.Bf w)(hO:z.Ok)(hE:∀b,z.R b->E.ro b)(hk:bg S E w w1):z.Bf w1:=
 have key:∀{a:Addr} {v:az},w.cell? a=ae v->z.R a.block->w1.cell? a=ae v:=fun hc hr=>(aD2<|hk.ro _<|hE _ hr).trans hc
 ⟨key h.sv hO.Pm,key h.hv hO.Pn,key h.ps hO.Po,key h.ob hO.Pq,fun i p hp=>key (h.c0 i p hp) hO.FK,fun i p hp=>key (h.c1 i p hp) hO.FK,
  fun i m hm j v hv=>key (h.ms i m hm j v hv) (hO.Tm fun e=>by rw[e]at hm;simp at hm).1,fun b hb=>(hk.ro b<|hE b hb).trans<|h.fr b hb,hk.tape.trans h.tape,hk.os.trans h.os,hk.output.trans h.output⟩
def Gs.Bf.nH{es:Array Event}(h:z.Bf w)(hO:z.Ok)(hS:∀b,z.R b->¬S b)(aI:∀b,z.R b->b<w.heap.size)(hG:je S E w w1 es):z.Bf w1:=
 have key:∀{a:Addr} {v:az},w.cell? a=ae v->z.R a.block->w1.cell? a=ae v:=fun hc hr=>(aD2<|hG.still _ (nU hc)<|hS _ hr).trans hc
 ⟨key h.sv hO.Pm,key h.hv hO.Pn,key h.ps hO.Po,key h.ob hO.Pq,fun i p hp=>key (h.c0 i p hp) hO.FK,fun i p hp=>key (h.c1 i p hp) hO.FK,
  fun i m hm j v hv=>key (h.ms i m hm j v hv) (hO.Tm fun e=>by rw[e]at hm;simp at hm).1,fun b hb=>(hG.still b (aI b hb)<|hS b hb).trans<|h.fr b hb,hG.tape.trans h.tape,hG.os.trans h.os,hG.output.trans h.output⟩
def JJ(o:Obj)(ho:∀B:au.cO,au.mF B o):je S E w (w.alloc o) #[]:=⟨rfl,rfl,rfl,by simp,fun b hb _=>aD1 w o b hb,by simp,fun s _ _ h=>h.push<|ho<|au.uK s⟩
def Ij{ty:dw}{Wg:Nat}{st sm:Int}(h:WgAt ty Wg w st sm):Wg<w.heap.size:=(jk.1 h).1
def aiX(B:au.cO):au.mF B (aC #[.chan af] 178):=fun v hv=>by
 simp at hv;subst hv;exact .chan fun x hx=>by cases hx
def FM:Nat->Nat->List qP
 |_,0=>[]
 |j,r+1=>libs j++ .go::FM (j+1) r
def atn(v:Nat)(ts:List qP)(i:Nat):msgs (libs v++ts) i=msgs ts i:=by unfold libs;split<;>rfl
def acO(ts:List qP)(i:Nat):∀(r j:Nat),msgs (FM j r++ts) i=msgs ts i
 |0,_=>rfl
 |r+1,j=>by
  rw[FM,AQ,atn];exact acO ts i r<|j+1
def uP:List Ms->List qP
 |[]=>[]
 |m::l=>if m.k=1 then .send m.q.toNat (kH m)::uP l else uP l
def acP(i:Nat):∀(l:List Ms),(∀m∈l,m.k=1->∃j:Nat,m.q=j)->msgs (uP l) i=(l.filter fun m:Ms=>decide<|m.k=1/\m.q=(i:Int)).map kH
 |[],_=>rfl
 |m::l,h=>by
  have ih:=acP i l fun x hx=>h x<|VO _ hx;unfold uP;by_cases hk:m.k=1
  ·obtain⟨j,hj⟩:=h m (by simp) hk;rw[if_pos hk];simp only[msgs,hj,Oc];by_cases e:i=j
   ·subst e;rw[if_pos rfl,ih,ae9<|by simp[hk,hj]];rfl
   ·rw[if_neg e,ih,VM (by simp[hk,hj]<;>omega)]
  ·rw[if_neg hk,ih,VM<|by simp[hk]]
open Go.Conc.Lib Go.ConcR.Gen Go.ConcN.Gen in
def ato(v1 v2:az):#[v1,v2]++Array.replicate ((addFn link).ntmps- #[v1,v2].size) ai=#[v1,v2,ai,ai,ai,ai,ai,ai,ai,ai,ai,ai,ai,ai,ai,ai,ai,ai,ai,ai,ai,ai,ai,ai,ai,ai,ai,ai,ai,ai,ai,ai,ai,ai,ai,ai,ai,ai,ai,ai,ai,ai,ai,ai,ai,ai,ai,ai,ai,ai,ai,ai,ai,ai,ai,ai,ai,ai,ai,ai,ai,ai,ai,ai,ai,ai,ai,ai,ai,ai,ai,ai,ai,ai,ai,ai,ai,ai,ai,ai,ai,ai,ai,ai,ai,ai,ai,ai,ai,ai,ai,ai,ai,ai,ai,ai,ai,ai,ai,ai,ai,ai,ai,ai,ai,ai,ai,ai,ai,ai,ai,ai,ai,ai,ai,ai,ai]:=by
 kernel_rfl
open Go.Conc.Lib Go.ConcR.Gen Go.ConcN.Gen in
def atp{K:Type}{X:bK K}{End:List K->dD->aN->bF->aj->Prop}{ts:List qP}{ks:List K}{E:dD}{S:aN}{b:bu}{a:Act}{ops:Array Oper}{i:Nat}{rest:List Nat}{k:List Item}{cs:List bu}{o:Oper}{args:Array Operand}{lK:Array dw}(hP:X.P=prog)(ho:ops[i]? =ae o)(hw:Region.wanted o (yielded ops a.tmps)=true)(hk:b.kind≠.early)(aO:o.op=.call {callee:=.value<|.func 111,args,argTypes:=lK})(hv:args.map a.eval=#[ay<|ae ⟨X.Wg,0,af⟩,.int .i64 1])
 (hS:¬S X.Wg)(v:Nat)(aI:v<2147483647){w:aj}(hF:WgAt 177 X.Wg w ((v:Int)*KK) 0)(hE:E.ro X.Wg)
 (hT:∀w',bg S (less E X.Wg) w w'->WgAt 177 X.Wg w' (((v:Int)+1)*KK) 0->aA X.P true E (X.jY End ts ks 0 E) S (G (b.at (a.put o.dst<|dK #[])<|bQ ops rest::k) cs) w'):
 aA X.P true E (X.jY End (libs v++ts) ks 0 E) S (G (b.at a<|bQ ops (i::rest)::k) cs) w:=by
 have H:WgLib X.P link:=hP▸SI;refine aA.call ho hw hk aO H.f_add (nm_add link) rfl ?_;rw[hv,ato];have BG:∀w',bg S (less E X.Wg) w w'->WgAt link.tWg X.Wg w' (((v:Int)+1)*KK) 0->aA X.P true E (X.jY End ts ks 0 E) S (G (b.at (a.put ((ops[i]?).bind (·.dst))<|dK #[])<|bQ ops rest::k) cs) w':=by rw[ho];exact hT
 exact ass (X:=X) (L:=link) H hS v aI (w0:=w) BG w ⟨hF,bg.refl _ _ _,hE⟩
def atq(w:aj):(Instr.makeChan 178<|.int .i64 0).run prog w=.ok (.chan<|ae w.heap.size) (w.alloc<|.chan 0 #[] false 0 0 false):=by
 obtain⟨i,hi,_⟩:=aEd Jo;exact run_makeChan (t:=178) underlying178 hi .i64 0 (by decide)<|by simp
def atr(w:aj)(es:Array Event):(Instr.makeChan 178<|.int .i64 0).events prog w es=es:=by
 obtain⟨i,hi,_⟩:=aEd Jo;exact events_makeChan (t:=178) underlying178 hi .i64 0 (by decide) (by simp) es
variable{b:bu}{a:Act}{k:List Item}{cs:List bu}{w:aj}{ops:Array Oper}{i:Nat}{rest:List Nat}{o:Oper}{f:Fn}{c:Array az}
def att{P:eF}{main:Bool}{d:Deferred}(ho:ops[i]? =ae o)(hw:Region.wanted o (yielded ops a.tmps)=true)
 (hk:b.kind≠.early)(hr:(dP a.eval o).run P w=.ok (.spawn d) w)(hd:d.target=.fn f c)(he:(dP a.eval o).events P w #[]=#[]):
 bD P main (G (b.at a<|bQ ops (i::rest)::k) cs) w=.spawn (G (b.at (a.put o.dst ai)<|bQ ops rest::k) cs) (born P d) w #[]:=by
 rw[stepG_spawn ho hw hk hr hd];unfold listed;rw[he,seen_none]
def aA.spawn{K:Type}{X:bK K}{End:List K->dD->aN->bF->aj->Prop}{ts:List qP}{ks:List K}{E:dD}{S:aN}(d:Deferred)(ho:ops[i]? =ae o)(hw:Region.wanted o (yielded ops a.tmps)=true)
 (hk:b.kind≠.early)(hr:∀w1,(dP a.eval o).run X.P w1=.ok (.spawn d) w1)(hd:d.target=.fn f c)(he:∀w1,(dP a.eval o).events X.P w1 #[]=#[])
 (h:∀w1,bg S E w w1->∃κ Sk S1,aA X.P false (X.side κ) (X.Hu κ []) Sk (born X.P d) w1/\(∀b,Sk b->S b)/\S (X.ch κ)/\¬Sk (X.ch κ)/\¬(X.side κ).ro (X.ch κ)/\(∀b,(X.side κ).ro b->S b\/E.rd b)/\(∀b,Sk b->¬(X.side κ).ro b)/\
   (∀b,S1 b->S b/\¬Sk b/\¬(X.side κ).ro b/\b≠X.ch κ)/\(∃s r,w1.heap[X.ch κ]? =ae (.chan 0 #[] false s r false))/\msgs ts ks.length=X.xQ κ/\
   aA X.P true E (X.jY End ts (ks++[κ]) 0 E) S1 (G (b.at (a.put o.dst ai)<|bQ ops rest::k) cs) w1):
 aA X.P true E (X.jY End (.go::ts) ks 0 E) S (G (b.at a<|bQ ops (i::rest)::k) cs) w:=
 aA.stop fun w1 aQ=>by
  obtain⟨κ,Sk,S1,h1,h2,h3,h4,h5,h6,h7,h8,h9,ZI,KN⟩:=h w1 aQ;exact⟨rfl,rfl,_,_,κ,Sk,E,S1,att ho hw hk (hr w1) hd<|he w1,h1,h2,h3,h4,h5,h6,h7,h8,fun _ hb=>.inl hb,fun _ hb=>.inl hb,h9,ZI,KN⟩
end Twin
end
section
namespace Twin
open Go Go.Proofs Go.Conc Go.RowKit Go.Maps fJ
open Go.ConcR (WgAt KK)
structure Gs.oJ(z:Gs)(ks:List Kd)(S:aN)(w:aj):Prop where
 jM:z.Bf w
 ed:∀(i:Nat) (p:PL),ks.length<=i->z.pl[i]? =ae p->iD S w z.B p.lb p.bm z.n p.v p.s
 row:∃cs:Array az,dZ S w z.mr cs 178/\cs.size=z.np/\∀(i:Nat) (k:Kd),ks[i]? =ae k->cs[i]? =ae (.chan<|ae k.x.p.c)
 dL:∀(i:Nat) (p:PL),ks.length<=i->z.pl[i]? =ae p->¬lG p.lb p.bm p.v z.mr
 low:∀b,S b->b<w.heap.size
 zT:∀b,z.R b->¬S b
 base:z.Ba<=w.heap.size
 yU:∀b,z.R b->b<w.heap.size
 CS:¬S z.Wg
 uO:¬S z.ov/\z.ov<w.heap.size
variable{z:Gs}{ks:List Kd}{S:aN}{w:aj}
def Gs.oJ.aY{E:dD}{w1:aj}(h:z.oJ ks S w)(hO:z.Ok)(hE:∀b,z.R b->E.ro b)(hk:bg S E w w1):z.oJ ks S w1:=
 ⟨h.jM.aY hO hE hk,fun i p h1 h2=>(h.ed i p h1 h2).aY hk,let ⟨cs,h1,h2⟩:=h.row;⟨cs,h1.aY hk,h2⟩,h.dL,xU h.low hk,h.zT,eG h.base hk.size,fun b hb=>fK (h.yU b hb) hk.size,h.CS,h.uO.1,fK h.uO.2 hk.size⟩
def Gs.oJ.alloc(h:z.oJ ks S w)(hO:z.Ok)(hW:z.Wg<w.heap.size)(o:Obj)(ho:∀B:au.cO,au.mF B o):z.oJ ks (grow S w<|w.alloc o) (w.alloc o):=by
 have hG:je S z.E w (w.alloc o) #[]:=JJ o ho;refine⟨h.jM.nH hO h.zT h.yU hG,fun i p h1 h2=>(h.ed i p h1 h2).alloc o,let ⟨cs,h1,h2⟩:=h.row;⟨cs,h1.alloc o,h2⟩,h.dL,Ig h.low o,fun b hb hx=>hx.elim (h.zT b hb) fun y=>by have:=h.yU b hb;omega,by simp;have:=h.base;omega,fun b hb=>by have:=h.yU b hb;simp<;>omega,fun hx=>hx.elim h.CS fun y=>by omega,fun hx=>hx.elim h.uO.1 fun y=>by have:=h.uO.2;omega,by have:=h.uO.2;simp<;>omega⟩
def Gs.oJ.set(h:z.oJ ks S w)(hO:z.Ok){b:Nat}(hb:S b)(hm:b≠z.mr)(hl:∀(i:Nat) (p:PL),ks.length<=i->z.pl[i]? =ae p->¬lG p.lb p.bm p.v b)(v:az)(hv:∀B:au.cO,(∀b,B.bZ b->¬S b)->au.aG B v):z.oJ ks S (w.setCell ⟨b,0,af⟩ v):=by
 have hG:je S z.E w (w.setCell ⟨b,0,af⟩ v) #[]:=Ib hb hv (by simp);have hs:∀x,x≠b->(w.setCell ⟨b,0,af⟩ v).heap[x]? =w.heap[x]? :=fun x hx=>aD3 w ⟨b,0,af⟩ v x hx;refine⟨h.jM.nH hO h.zT h.yU hG,fun i p h1 h2=>?_,?_,h.dL,fun x hx=>by simpa using h.low x hx,h.zT,by simpa using h.base,fun x hx=>by simpa using h.yU x hx,h.CS,h.uO.1,by simpa using h.uO.2⟩
 ·have:=(h.ed i p h1 h2).SQ (w':=w.setCell ⟨b,0,af⟩ v) fun x hx=>hs x fun e=>hl i p h1 h2<|e▸hx;rwa[sK<|by simp]at this
 ·obtain⟨cs,h1,h2⟩:=h.row;exact⟨cs,⟨h1.1,by rw[hs _<|iW hm];exact h1.2⟩,h2⟩
def atu{End:List Kd->dD->aN->bF->aj->Prop}{ts:List qP}{u:Nat->az}{cs:List bu}(hO:z.Ok)(xu:∀i,msgs ts i=(z.marks i).map kH)
 (hn:∀(ks:List Kd) (t9 t10 t33 t34 t35 t36 t37 t38 t39 t40 t41 t42:az) (S:aN) (w:aj),ks.length=z.np->z.Good ks->z.oJ ks S w->WgAt 177 z.Wg w ((z.np:Int)*KK) 0->
   aA prog true z.E (z.iM.jY End ts ks 0 z.E) S (G ((base 54).at ⟨#[ay<|ae ⟨z.xb,0,af⟩,.slice z.ma z.ms.length z.mc,ay<|ae ⟨z.hv,0,af⟩,u 3,u 4,aJ (ae ⟨z.mr,0,af⟩) z.np z.np,ay<|ae ⟨z.sv,0,af⟩,ay<|ae ⟨z.ob,0,af⟩,ay<|ae ⟨z.Wg,0,af⟩,t9,t10,u 11,u 12,u 13,u 14,u 15,u 16,u 17,u 18,u 19,u 20,u 21,u 22,u 23,u 24,u 25,u 26,u 27,u 28,u 29,u 30,ag ah z.np,ag ah z.np,t33,t34,t35,t36,t37,t38,t39,t40,t41,t42,u 43,u 44,u 45,u 46,u 47,u 48,u 49,u 50,u 51,u 52,u 53,u 54,u 55,u 56,u 57,u 58,u 59,u 60,u 61,u 62,u 63,u 64,u 65,u 66,u 67,u 68,u 69,u 70,u 71],[]⟩ [.code yT]) cs) w):
 ∀(r:Nat) (ks:List Kd) (t9 t10 t33 t34 t35 t36 t37 t38 t39 t40 t41 t42:az) (S:aN) (w:aj),ks.length+r=z.np->z.Good ks->z.oJ ks S w->WgAt 177 z.Wg w ((ks.length:Int)*KK) 0->
  aA prog true z.E (z.iM.jY End (FM ks.length r++ts) ks 0 z.E) S (G ((base 54).at ⟨#[ay<|ae ⟨z.xb,0,af⟩,.slice z.ma z.ms.length z.mc,ay<|ae ⟨z.hv,0,af⟩,u 3,u 4,aJ (ae ⟨z.mr,0,af⟩) z.np z.np,ay<|ae ⟨z.sv,0,af⟩,ay<|ae ⟨z.ob,0,af⟩,ay<|ae ⟨z.Wg,0,af⟩,t9,t10,u 11,u 12,u 13,u 14,u 15,u 16,u 17,u 18,u 19,u 20,u 21,u 22,u 23,u 24,u 25,u 26,u 27,u 28,u 29,u 30,ag ah z.np,ag ah ks.length,t33,t34,t35,t36,t37,t38,t39,t40,t41,t42,u 43,u 44,u 45,u 46,u 47,u 48,u 49,u 50,u 51,u 52,u 53,u 54,u 55,u 56,u 57,u 58,u 59,u 60,u 61,u 62,u 63,u 64,u 65,u 66,u 67,u 68,u 69,u 70,u 71],[]⟩ [.code Ii,.inLoop Ii,.inBlock 0,.code yT]) cs) w:=by
 intro r
 induction r with
 |zero=>
  intro ks t9 t10 t33 t34 t35 t36 t37 t38 t39 t40 t41 t42 S w hl hg h bV
  have D8:ks.length=z.np:=by omega
  have I7:=hn ks t9 t10 (aB false) t34 t35 t36 t37 t38 t39 t40 t41 t42 S w D8 hg h<|D8▸bV
  simp only[FM,xH]
  generalize z.iM.jY End ts ks 0 z.E=St at I7⊢
  generalize Item.code yT=IR at I7⊢
  generalize CQ:Item.inLoop Ii=IL
  simp only[Ii,wQ,qE,Tryz.f54,ik,fU,iQ,wO]
  rw[D8]
  refine aA.sq ?_
  refine aA.reg [0] rfl ?_
  refine aA.mute (aB false) rfl rfl (by decide) (fun _=>by go_simp) (fun _=>by simp[go_sem]) ?_
  walk_nrm
  refine aA.fQ ?_
  refine aA.sq ?_
  refine aA.ctl rfl (fun _=>aEc (t:=false)<|by rfl) ?_
  refine aA.ctl rfl (fun _=>aFh (k':=[IR]) (by rw[<-CQ];rfl)) ?_
  exact I7
 |succ r ih=>
  intro ks t9 t10 t33 t34 t35 t36 t37 t38 t39 t40 t41 t42 S w hl hg h bV
  have hj:ks.length<z.np:=by omega
  obtain⟨p,hp⟩:∃p,z.pl[ks.length]? =ae p:=⟨_,eY hj⟩
  have D8:=hO.np
  have pU:∀b,z.R b->z.E.ro b:=fun b hb=>.inl hb
  simp only[FM,AQ,nP]
  generalize Pv:Item.code yT=IR
  generalize CQ:Item.inLoop Ii=IL
  simp only[Ii,wQ,qE,Tryz.f54,ik,fU,iQ,wO]
  refine aA.sq ?_
  refine aA.reg [0] rfl ?_
  refine aA.mute (aB true) rfl rfl (by decide) (fun _=>by go_simp) (fun _=>by simp[go_sem]) ?_
  walk_nrm
  refine aA.fQ ?_
  refine aA.sq ?_
  refine aA.ctl rfl (fun _=>aEc (t:=true)<|by rfl) ?_
  refine aA.ctl rfl (fun _=>aEe) ?_
  refine aA.sq ?_
  refine aA.ctl rfl (fun _=>aEg) ?_
  refine aA.sq ?_
  refine aA.reg [0,1,2] rfl ?_
  refine aA.mu rfl rfl ?_
  walk_nrm
  refine aA.kC rfl rfl (by decide) fun w1 aQ=>?_
  refine⟨ay<|ae ⟨w1.heap.size,0,af⟩,w1.alloc<|aC #[ag ah 0] 3,.inl<|by go_simp,wL (by simp[go_sem])<|uN _,?_⟩
  replace h:=h.aY hO pU aQ
  replace bV:=bV.of_block<|aQ.ro z.Wg<|.inr rfl
  have Me:z.Wg<w1.heap.size:=Ij bV
  have ZT:∀(i:Nat) (q:PL),ks.length<=i->z.pl[i]? =ae q->∀b,lG q.lb q.bm q.v b->b<w1.heap.size:=fun i q h1 h2 b hb=>h.low b<|(h.ed i q h1 h2).sub b hb
  have ZU:z.mr<w1.heap.size:=let ⟨_,h1,_⟩:=h.row;h.low _ h1.1
  have hRn:=h.yU
  have hY:=dZ.new S w1 #[ag ah 0] 3
  replace bV:=bV.of_block (w₁:=w1.alloc<|aC #[ag ah 0] 3)<|aD1 w1 _ _ Me
  replace h:=h.alloc hO Me (aC #[ag ah 0] 3) fun _=>Si rfl
  clear aQ
  generalize grow S w1 (w1.alloc<|aC #[ag ah 0] 3)=S at*
  generalize w1.alloc (aC #[ag ah 0] 3)=w at*
  generalize w1.heap.size=nb at*
  walk_nrm
  refine aA.kC rfl rfl (by decide) fun w1 aQ=>?_
  replace h:=h.aY hO pU aQ
  replace bV:=bV.of_block<|aQ.ro z.Wg<|.inr rfl
  replace hY:=hY.aY aQ
  have q0:=hY.cell (o:=0) rfl
  have r0:=hY.free 0
  refine⟨ai,w1.setCell ⟨nb,0,af⟩<|ag ah ks.length,.inr ⟨rfl,by go_simp⟩,Ib hY.1 (fun _ _=>.int) fun e he=>?_,?_⟩
  ·simp[go_sem,storedEv,q0,r0]at he
   subst he
   exact .inl hY.1
  rw[sK<|by simp]
  replace h:=h.set hO hY.1 (Nat.ne_of_gt ZU) (fun i q h1 h2 hx=>Og _<|ZT i q h1 h2 _ hx) (ag ah ks.length) fun _ _=>.int
  replace bV:=bV.of_block (w₁:=w1.setCell ⟨nb,0,af⟩<|ag ah ks.length)<|aD3 w1 _ _ _<|aao Me
  replace hY:=hY.set 0<|ag ah ks.length
  change dZ S _ nb #[ag ah ks.length] 3 at hY
  clear aQ q0 r0
  generalize w1.setCell ⟨nb,0,af⟩ (ag ah ks.length)=w at*
  walk_nrm
  refine aA.fQ ?_
  refine aA.sq ?_
  refine aA.reg [0,1,2] rfl ?_
  refine aA.kC rfl rfl (by decide) fun w1 aQ=>?_
  replace h:=h.aY hO pU aQ
  replace bV:=bV.of_block<|aQ.ro z.Wg<|.inr rfl
  replace hY:=hY.aY aQ
  refine⟨.chan<|ae w1.heap.size,w1.alloc<|.chan 0 #[] false 0 0 false,.inl (by go_simp;rw[atq];rfl),wL (by simp[go_sem,atr]) (JJ _ fun _ v hv=>by simp at hv),?_⟩
  have hnc:nb<w1.heap.size:=h.low nb hY.1
  have lQ:grow S w1 (w1.alloc<|.chan 0 #[] false 0 0 false) w1.heap.size/\(w1.alloc<|.chan 0 #[] false 0 0 false).heap[w1.heap.size]? =ae (.chan 0 #[] false 0 0 false):=⟨.inr ⟨dm _,by simp⟩,aDY _ _⟩
  have Px:z.Wg<w1.heap.size:=Ij bV
  replace hY:=hY.alloc<|.chan 0 #[] false 0 0 false
  replace bV:=bV.of_block (w₁:=w1.alloc<|.chan 0 #[] false 0 0 false)<|aD1 w1 _ _ Px
  replace h:=h.alloc hO Px (.chan 0 #[] false 0 0 false) fun _ v hv=>by simp at hv
  clear aQ
  generalize grow S w1 (w1.alloc<|.chan 0 #[] false 0 0 false)=S at*
  generalize w1.alloc (.chan 0 #[] false 0 0 false)=w at*
  generalize w1.heap.size=c at*
  walk_nrm
  refine aA.kC rfl rfl (by decide) fun w1 aQ=>?_
  replace h:=h.aY hO pU aQ
  replace bV:=bV.of_block<|aQ.ro z.Wg<|.inr rfl
  replace hY:=hY.aY aQ
  replace lQ:S c/\w1.heap[c]? =ae (.chan 0 #[] false 0 0 false):=⟨lQ.1,by rw[aQ.own c lQ.1];exact lQ.2⟩
  refine⟨ay<|ae ⟨w1.heap.size,0,af⟩,w1.alloc<|aC #[.chan af] 178,.inl<|by go_simp,wL (by simp[go_sem])<|JJ _ aiX,?_⟩
  have atw:c<w1.heap.size:=h.low c lQ.1
  have hZ:=dZ.new S w1 #[.chan af] 178
  have aiY:z.Wg<w1.heap.size:=Ij bV
  replace hY:=hY.alloc<|aC #[.chan af] 178
  replace lQ:grow S w1 (w1.alloc<|aC #[.chan af] 178) c/\(w1.alloc<|aC #[.chan af] 178).heap[c]? =ae (.chan 0 #[] false 0 0 false):=⟨.inl lQ.1,by rw[aD1 w1 _ _ atw];exact lQ.2⟩
  replace bV:=bV.of_block (w₁:=w1.alloc<|aC #[.chan af] 178)<|aD1 w1 _ _ aiY
  replace h:=h.alloc hO aiY (aC #[.chan af] 178) aiX
  clear aQ
  generalize grow S w1 (w1.alloc<|aC #[.chan af] 178)=S at*
  generalize w1.alloc (aC #[.chan af] 178)=w at*
  generalize w1.heap.size=cb at*
  walk_nrm
  refine aA.kC rfl rfl (by decide) fun w1 aQ=>?_
  replace h:=h.aY hO pU aQ
  replace bV:=bV.of_block<|aQ.ro z.Wg<|.inr rfl
  replace hY:=hY.aY aQ
  replace hZ:=hZ.aY aQ
  replace lQ:S c/\w1.heap[c]? =ae (.chan 0 #[] false 0 0 false):=⟨lQ.1,by rw[aQ.own c lQ.1];exact lQ.2⟩
  have q0:=hZ.cell (o:=0) rfl
  have r0:=hZ.free 0
  have oU:∀B:au.cO,(∀b,B.bZ b->¬S b)->au.aG B (.chan<|ae c):=fun B hB=>.chan fun y hy zz=>by cases hy;exact hB _ zz lQ.1
  refine⟨ai,w1.setCell ⟨cb,0,af⟩<|.chan<|ae c,.inr ⟨rfl,by go_simp⟩,Ib hZ.1 oU fun e he=>?_,?_⟩
  ·simp[go_sem,aFe,storedEv,q0,r0]at he
   subst he
   exact .inl hZ.1
  rw[sK<|by simp]
  replace h:=h.set hO hZ.1 (by omega) (fun i q h1 h2 hx=>by have:=ZT i q h1 h2 _ hx;omega) (.chan<|ae c) oU
  replace bV:=bV.of_block (w₁:=w1.setCell ⟨cb,0,af⟩<|.chan<|ae c)<|aD3 w1 _ _ _ (by simp<;>omega)
  replace hY:dZ S (w1.setCell ⟨cb,0,af⟩<|.chan<|ae c) nb #[ag ah ks.length] 3:=⟨hY.1,by rw[aD3 w1 _ _ _ (by simp<;>omega)];exact hY.2⟩
  replace lQ:S c/\(w1.setCell ⟨cb,0,af⟩<|.chan<|ae c).heap[c]? =ae (.chan 0 #[] false 0 0 false):=⟨lQ.1,by rw[aD3 w1 _ _ _ (by simp<;>omega)];exact lQ.2⟩
  replace hZ:=hZ.set 0<|.chan<|ae c
  change dZ S _ cb #[.chan<|ae c] 178 at hZ
  clear aQ q0 r0 oU
  generalize w1.setCell ⟨cb,0,af⟩ (.chan<|ae c)=w at*
  walk_nrm
  refine aA.fQ ?_
  refine aA.sq ?_
  refine aA.reg [0,1,2,3,4] rfl ?_
  refine aA.mu rfl rfl ?_
  walk_nrm
  refine aA.val (ag ah ks.length) rfl rfl (by decide) (fun w1 aQ=>?_) (fun w1 aQ e he=>?_) ?_
  ·have q0:=(hY.aY aQ).cell (o:=0) rfl
   go_simp
  ·have q0:=(hY.aY aQ).cell (o:=0) rfl
   simp[go_sem,q0]at he
   subst he
   exact .inl hY.1
  walk_nrm
  refine aA.val (.chan<|ae c) rfl rfl (by decide) (fun w1 aQ=>?_) (fun w1 aQ e he=>?_) ?_
  ·have q0:=(hZ.aY aQ).cell (o:=0) rfl
   go_simp
  ·have q0:=(hZ.aY aQ).cell (o:=0) rfl
   simp[go_sem,q0]at he
   subst he
   exact .inl hZ.1
  walk_nrm
  refine aA.mute (ay<|ae ⟨z.mr,ks.length,af⟩) rfl rfl (by decide) (fun _=>by go_simp) (fun _=>by simp[go_sem];rw[aEE _ _ _ _ _ _ (by kernel_rfl) ⟨by omega,by omega⟩]) ?_
  walk_nrm
  refine aA.kC rfl rfl (by decide) fun w1 aQ=>?_
  replace h:=h.aY hO pU aQ
  replace bV:=bV.of_block<|aQ.ro z.Wg<|.inr rfl
  replace hY:=hY.aY aQ
  replace hZ:=hZ.aY aQ
  replace lQ:S c/\w1.heap[c]? =ae (.chan 0 #[] false 0 0 false):=⟨lQ.1,by rw[aQ.own c lQ.1];exact lQ.2⟩
  obtain⟨cells,hM,hMs,XJ⟩:=h.row
  have q0:=hM.cell (o:=ks.length)<|GG<|by omega
  have r0:=hM.free ks.length
  have oU:∀B:au.cO,(∀b,B.bZ b->¬S b)->au.aG B (.chan<|ae c):=fun B hB=>.chan fun y hy zz=>by cases hy;exact hB _ zz lQ.1
  refine⟨ai,w1.setCell ⟨z.mr,ks.length,af⟩<|.chan<|ae c,.inr ⟨rfl,by go_simp⟩,Ib hM.1 oU fun e he=>?_,?_⟩
  ·simp[go_sem,aFe,storedEv,q0,r0]at he
   subst he
   exact .inl hM.1
  rw[sK<|by simp]
  have NV:∀b,b≠z.mr->(w1.setCell ⟨z.mr,ks.length,af⟩<|.chan<|ae c).heap[b]? =w1.heap[b]? :=fun b hb=>aD3 w1 _ _ _ hb
  have hGm:je S z.E w1 (w1.setCell ⟨z.mr,ks.length,af⟩<|.chan<|ae c) #[]:=Ib hM.1 oU<|by simp
  have xx:=hM.set ks.length<|.chan<|ae c
  have kL:=h.jM.nH hO h.zT h.yU hGm
  have Py:∀(i:Nat) (q:PL),ks.length<=i->z.pl[i]? =ae q->iD S (w1.setCell ⟨z.mr,ks.length,af⟩<|.chan<|ae c) z.B q.lb q.bm z.n q.v q.s:=fun i q h1 h2=>by
   have:=(h.ed i q h1 h2).SQ (w':=w1.setCell ⟨z.mr,ks.length,af⟩<|.chan<|ae c) fun x hx=>NV x fun e=>h.dL i q h1 h2<|e▸hx;rwa[sK<|by simp]at this
  have KO:∀b,S b->b<(w1.setCell ⟨z.mr,ks.length,af⟩<|.chan<|ae c).heap.size:=fun b hb=>by simpa using h.low b hb
  have Pz:z.Ba<=(w1.setCell ⟨z.mr,ks.length,af⟩<|.chan<|ae c).heap.size:=by simpa using h.base
  have QE:∀b,z.R b->b<(w1.setCell ⟨z.mr,ks.length,af⟩<|.chan<|ae c).heap.size:=fun b hb=>by simpa using h.yU b hb
  have ai0:=h.dL
  have Vu:=h.zT
  have hnW:=h.CS
  have atx:=h.uO.1
  have Tn:z.ov<(w1.setCell ⟨z.mr,ks.length,af⟩<|.chan<|ae c).heap.size:=by simpa using h.uO.2
  replace bV:=bV.of_block<|NV z.Wg fun e=>hnW<|e▸hM.1
  replace hY:dZ S (w1.setCell ⟨z.mr,ks.length,af⟩<|.chan<|ae c) nb #[ag ah ks.length] 3:=⟨hY.1,by rw[NV _<|by omega];exact hY.2⟩
  replace hZ:dZ S (w1.setCell ⟨z.mr,ks.length,af⟩<|.chan<|ae c) cb #[.chan<|ae c] 178:=⟨hZ.1,by rw[NV _<|by omega];exact hZ.2⟩
  replace lQ:S c/\(w1.setCell ⟨z.mr,ks.length,af⟩<|.chan<|ae c).heap[c]? =ae (.chan 0 #[] false 0 0 false):=⟨lQ.1,by rw[NV _<|by omega];exact lQ.2⟩
  clear aQ q0 r0 oU hGm h hM
  generalize w1.setCell ⟨z.mr,ks.length,af⟩ (.chan<|ae c)=w at*
  walk_nrm
  refine aA.fQ ?_
  refine aA.sq ?_
  refine aA.reg [0] rfl ?_
  refine atp (X:=z.iM) rfl rfl rfl (by decide) rfl (by walk_nrm;rfl) hnW ks.length (by omega) bV (.inr rfl) fun w' hk Ap=>?_
  have aty:∀b,z.R b->(less z.E z.Wg).ro b:=fun b hb=>⟨.inl hb,fun e=>hO.CS<|e▸hb⟩
  replace kL:=kL.aY hO aty hk
  replace Py:∀(i:Nat) (q:PL),ks.length<=i->z.pl[i]? =ae q->iD S w' z.B q.lb q.bm z.n q.v q.s:=fun i q h1 h2=>(Py i q h1 h2).aY hk
  replace xx:=xx.aY hk
  replace hY:=hY.aY hk
  replace hZ:=hZ.aY hk
  replace lQ:S c/\w'.heap[c]? =ae (.chan 0 #[] false 0 0 false):=⟨lQ.1,by rw[hk.own c lQ.1];exact lQ.2⟩
  replace KO:=xU KO hk
  replace Pz:=eG Pz hk.size
  replace Tn:=fK Tn hk.size
  replace QE:∀b,z.R b->b<w'.heap.size:=fun b hb=>fK (QE b hb) hk.size
  clear hk bV
  walk_nrm
  refine aA.fQ ?_
  refine aA.reg [0,1] rfl ?_
  refine aA.mu rfl rfl ?_
  walk_nrm
  refine aA.spawn (X:=z.iM) (z.wx ks.length p nb cb c).dc rfl rfl (by decide) (fun _=>by go_simp;rfl) rfl (fun _=>by simp[go_sem]) fun w1 hk=>?_
  replace kL:=kL.aY hO pU hk
  replace Py:∀(i:Nat) (q:PL),ks.length<=i->z.pl[i]? =ae q->iD S w1 z.B q.lb q.bm z.n q.v q.s:=fun i q h1 h2=>(Py i q h1 h2).aY hk
  replace xx:=xx.aY hk
  replace hY:=hY.aY hk
  replace hZ:=hZ.aY hk
  replace lQ:S c/\w1.heap[c]? =ae (.chan 0 #[] false 0 0 false):=⟨lQ.1,by rw[hk.own c lQ.1];exact lQ.2⟩
  replace KO:=xU KO hk
  replace Pz:=eG Pz hk.size
  replace Tn:=fK Tn hk.size
  replace QE:∀b,z.R b->b<w1.heap.size:=fun b hb=>fK (QE b hb) hk.size
  replace Ap:=Ap.of_block<|hk.ro z.Wg<|.inr rfl
  clear hk
  have hML:=Py ks.length p (dm _) hp
  have hLb:∀b,lG p.lb p.bm p.v b->b<nb:=ZT ks.length p (dm _) hp
  have XK:∀b,lG p.lb p.bm p.v b->S b:=hML.sub
  have uu:∀b,lG p.lb p.bm p.v b->¬(z.R b\/b=nb\/b=cb):=fun b hb hx=>by
   rcases hx with hx|hx|hx
   ·exact Vu b hx<|XK b hb
   ·have:=hLb b hb;omega
   ·have:=hLb b hb;omega
  have atz:(z.wx ks.length p nb cb c).p.log []=p.s:=by cases hx:p.out<;>simp[Pl.log,Gs.wx,hx]
  have atA:(z.wx ks.length p nb cb c).p.oV []=[]:=by simp[Pl.oV]
  refine⟨⟨z.wx ks.length p nb cb c,z.marks ks.length⟩,lG p.lb p.bm p.v,fun b=>S b/\¬lG p.lb p.bm p.v b/\¬(z.R b\/b=nb\/b=cb)/\b≠c,?_,XK,lQ.1,fun hx=>?_,fun hx=>?_,fun b hb=>?_,uu,fun b hb=>hb,⟨0,0,lQ.2⟩,?_,?_⟩
  ·refine(atd (x:=z.wx ks.length p nb cb c) (E:=Md z.R<|z.wx ks.length p nb cb c) (N:=z.N) (ms:=z.marks ks.length) ⟨.inl hO.Pm,.inr<|.inl rfl,.inl hO.Pn,.inl hO.Po,.inr<|.inr rfl,.inl hO.Pq,hj,rfl,hO.np⟩ ⟨hO.fits,hO.es p<|gz hp⟩ (eG (GH _ _) hO.len) (fun m hm=>hO.wf m (KU.1 hm).1) (fun b hb hx=>uu b hx hb) ?_ ⟨kL.sv,hY.cell rfl,kL.hv,kL.ps,hZ.cell rfl,kL.ob⟩).mono fun S' g' w' hs=>⟨_,rfl,hs⟩
   refine⟨⟨p.v,?_,by simp[Value.ownBlock]⟩,⟨?_,by simp[Value.ownBlock]⟩,fun _=>rfl,kL.c0 ks.length p hp,kL.c1 ks.length p hp,.inl hO.FK,fun hx=>Vu _ hO.FK<|XK _ hx,fun b hb=>KO b<|XK b hb,Pz,fun b hb=>?_⟩
   ·rw[atz]
    exact hML.own
   ·rw[atA]
    exact aD9 _ _ _ _
   ·rcases hb with hb|hb|hb
    ·exact QE b hb
    ·rw[hb];exact KO nb hY.1
    ·rw[hb];exact KO cb hZ.1
  ·have:=hLb _ hx
   simp only[Gs.iM,Gs.wx]at this
   omega
  ·rcases hx with hx|hx|hx
   ·have:=hRn _ hx
    simp only[Gs.iM,Gs.wx]at this
    omega
   ·simp only[Gs.iM,Gs.wx]at hx;omega
   ·simp only[Gs.iM,Gs.wx]at hx;omega
  ·rcases hb with hb|hb|hb
   ·exact .inr hb
   ·rw[hb];exact .inl hY.1
   ·rw[hb];exact .inl hZ.1
  ·rw[acO]
   exact xu _
  have fE:∀b,S b->b<nb->¬lG p.lb p.bm p.v b->¬z.R b->(fun b=>S b/\¬lG p.lb p.bm p.v b/\¬(z.R b\/b=nb\/b=cb)/\b≠c) b:=fun b h1 h2 h3 h4=>⟨h1,h3,fun hx=>by
   rcases hx with hx|hx|hx
   ·exact h4 hx
   ·omega
   ·omega,by omega⟩
  have hlen:(ks++[(⟨z.wx ks.length p nb cb c,z.marks ks.length⟩:Kd)]).length=ks.length+1:=by simp
  have atB:z.oJ (ks++[(⟨z.wx ks.length p nb cb c,z.marks ks.length⟩:Kd)]) (fun b=>S b/\¬lG p.lb p.bm p.v b/\¬(z.R b\/b=nb\/b=cb)/\b≠c) w1:=by
   refine⟨kL,fun i q h1 h2=>?_,⟨_,⟨fE _ xx.1 ZU (ai0 _ _ (dm _) hp) fun hx=>Vu _ hx xx.1,xx.2⟩,by simpa using hMs,fun i k hk=>?_⟩,fun i q h1 h2=>ai0 i q (by omega) h2,fun b hb=>KO b hb.1,fun b hb hx=>Vu b hb hx.1,Pz,QE,fun hx=>hnW hx.1,fun hx=>atx hx.1,Tn⟩
   ·have hm:=Py i q (by omega) h2;have Qy:∀b,lG q.lb q.bm q.v b->(fun b=>S b/\¬lG p.lb p.bm p.v b/\¬(z.R b\/b=nb\/b=cb)/\b≠c) b:=fun b hb=>fE b (hm.sub b hb) (ZT i q (by omega) h2 b hb) (fun hx=>hO.apart i ks.length q p (by omega) h2 hp b hb hx) fun hx=>Vu b hx<|hm.sub b hb;exact hm.own.mono Qy
   ·rw[ae6];rcases Wh hk with⟨h1,h2⟩|⟨rfl,rfl⟩
    ·rw[if_neg<|by omega];exact XJ i k h2
    ·rw[if_pos rfl,if_pos<|by omega];rfl
  have atC:z.Good (ks++[(⟨z.wx ks.length p nb cb c,z.marks ks.length⟩:Kd)]):=fun i k hk=>by
   rcases Wh hk with⟨h1,h2⟩|⟨rfl,rfl⟩
   ·exact hg i k h2
   ·exact⟨p,nb,cb,c,hp,rfl⟩
  have hgo:=fun t33 t34 t35 t36 t37 t38 t39 t40 t41 t42=>ih (ks++[(⟨z.wx ks.length p nb cb c,z.marks ks.length⟩:Kd)]) (ay<|ae ⟨nb,0,af⟩) (ay<|ae ⟨cb,0,af⟩) t33 t34 t35 t36 t37 t38 t39 t40 t41 t42 _ w1 (by rw[hlen];omega) atC atB (by rw[hlen];push_cast;exact Ap)
  rw[hlen]at hgo
  generalize(fun b=>S b/\¬lG p.lb p.bm p.v b/\¬(z.R b\/b=nb\/b=cb)/\b≠c)=S1 at hgo⊢
  generalize ks++[(⟨z.wx ks.length p nb cb c,z.marks ks.length⟩:Kd)]=yP at hgo⊢
  generalize z.iM.jY End (FM (ks.length+1) r++ts) yP 0 z.E=St at hgo⊢
  change aA prog true z.E St S1 _ w1
  walk_nrm
  refine aA.fQ ?_
  refine aA.ctl rfl (fun _=>aEy) ?_
  refine aA.reg [0,1] rfl ?_
  refine aA.mute (ag ah ((ks.length+1:Nat):Int)) rfl rfl (by decide) (fun _=>by go_simp;exact wrap_i64 (by omega)<|by omega) (fun _=>by simp[go_sem]) ?_
  walk_nrm
  refine aA.mu rfl rfl ?_
  walk_nrm
  refine aA.fQ ?_
  rw[<-CQ]
  refine aA.ctl rfl (fun _=>aEI) ?_
  rw[Pv]at hgo
  exact hgo _ _ _ _ _ _ _ _ _ _
end Twin
end
end Go.Proofs.YtkelpcjiediamaaGreat
