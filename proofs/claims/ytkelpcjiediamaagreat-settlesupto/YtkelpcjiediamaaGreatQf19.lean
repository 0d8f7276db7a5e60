import Derived.Test.YtkelpcjiediamaaGreatQf18
import Derived.Conc.AppendEvents3
import Derived.Conc.AppendWalk
import Derived.Conc.WgWords
set_option maxRecDepth 100000
set_option maxHeartbeats 0
set_option linter.all false
namespace Go.Proofs.YtkelpcjiediamaaGreat
noncomputable section
def aFR:=@Go.events_indexAt_slice
def aFU:=@Go.ConcR.Gen.events_store_slice
def aF3:=@Go.Conc.enter_at
def aGa:=@Go.Conc.events_append_op
def aGi:=@Go.events_append_where
def aGr:=@Go.events_store_chan
def aGu:=@Go.Conc.stepG_exit
def aGy:=@Go.run_append_lies
def aGB:=@Go.Conc.stepG_leave
open Go renaming Calls→aW,Frame→bH,FuncId→ji,Goroutine→bM,Program→fJ,TypeId→dJ,Value→aA,World→ay,execOp→dY,maxLen→eP,stepG→bK,undef→ai
open Go.Ending renaming returned→aV
open Go.IntKind renaming i64→ah
open Go.Item renaming inRegion→bW
open Go.Obj renaming cells→aG
open Go.RowKit renaming Hid→aj,intOf→eU
open Go.Value renaming agg→iF,bool→aF,int→ag,ownBlock→bY,pointer→az,slice→aN,string→dK,tuple→dU
open Go.World renaming alloc→bz,cell?→aB,ownsRow→bD,setCell→aX
open Option renaming none→af,some→ae
open _root_.Array renaming replicate→gz
open Go.Proofs.Tryz
section
namespace Twin
open Go Go.Proofs Go.Conc Go.RowKit Go.Maps
structure iO(S:aO)(w:ay)(B lb bm n:Nat)(v:aA)(s:aJ):Prop where
 log:fA w B lb bm v n s
 l:S lb
 m:S bm
 r:∀k,bY v=ae k->S k
variable{S S':aO}{E:dL}{w w1 w' Ld:ay}{B lb bm n:Nat}{v:aA}{s:aJ}{es:Array Event}
def iO.bg(h:iO S w B lb bm n v s)(hk:bu S E w w1):iO S w1 B lb bm n v s:=⟨acU h.log h.l h.m h.r hk,h.l,h.m,h.r⟩
def fE(S:aO)(w:ay)(b:Nat)(cs:Array aA)(t:dJ):Prop:=S b/\w.heap[b]? =ae (.cells cs t (0,0))
def fE.bg{b:Nat}{cs:Array aA}{t:dJ}(h:fE S w b cs t)(hk:bu S E w w1):fE S w1 b cs t:=⟨h.1,by rw[hk.own b h.1];exact h.2⟩
def kP.bg(h:kP S E w S' w')(hk:bu S' E w' Ld):kP S E w S' Ld:=
 ⟨h.own,fG h.size hk.size,fun b hb=>(h.new b hb).imp id fun x=>⟨x.1,gu x.2 hk.size⟩,hk.tape.t h.tape,hk.os.t h.os,hk.output.t h.output,fun b h1 h2 h3=>(hk.ro b h1).t<|h.ro b h1 h2 h3⟩
def TV(hk:bu S E w w'):kP S E w S w':=⟨fun _ h=>h,hk.size,fun _ h=>.inl h,hk.tape,hk.os,hk.output,fun b h _ _=>hk.ro b h⟩
def kP.og(h:kP S E w S' w')(hG:jC S' E w' Ld es):kP S E w (grow S' w' Ld) Ld:=by
 have h1:=h.size;have h2:=hG.size;refine⟨fun b hb=>.inl<|h.own b hb,by omega,fun b hb=>?_,hG.tape.t h.tape,hG.os.t h.os,hG.output.t h.output,fun b hb aK hn=>?_⟩
 ·rcases hb with hb|hb
  ·exact(h.new b hb).imp id fun x=>⟨x.1,by omega⟩
  ·exact .inr ⟨by omega,hb.2⟩
 ·rw[hG.still b (by omega) fun z=>(h.new b z).e hn fun y=>by omega,h.ro b hb aK hn]
def vJ(o:Obj)(ho:acF o=true:=by rfl):jC S E w (bz w o) #[]:=⟨rfl,rfl,rfl,by simp,fun b hb _=>aFe w o b hb,by simp,fun _ _ _ h=>h.push<|Tz ho⟩
def xC(he:es=#[])(h:jC S E w w' #[]):jC S E w w' es:=he▸h
def iO.TW(h:iO S w B lb bm n v s)(f:∀b,(b=lb\/b=bm\/bY v=ae b)->w'.heap[b]? =w.heap[b]?):iO (grow S w w') w' B lb bm n v s:=by
 refine⟨⟨by rw[f lb<|.inl rfl];exact h.log.blk,?_,?_,h.log.hl,h.log.hm⟩,.inl h.l,.inl h.m,fun k hk=>.inl<|h.r k hk⟩
 ·obtain⟨h1,h2⟩:=h.log.row;refine⟨h1,?_⟩;rcases h2 with h2|⟨g,cap,cur,rfl,hb,hg,r⟩
  ·exact .inl h2
  ·exact .inr ⟨g,cap,cur,rfl,hb,by rw[f g<|.inr<|.inr rfl];exact hg,r⟩
 ·obtain⟨D,⟨es,clock,hb,r⟩,h2⟩:=h.log.map;exact⟨D,⟨es,clock,by rw[f bm<|.inr<|.inl rfl];exact hb,r⟩,h2⟩
def iO.og(h:iO S w B lb bm n v s)(f:∀b,(b=lb\/b=bm\/bY v=ae b)->w'.heap[b]? =w.heap[b]?)(_hG:jC S E w w' es):iO (grow S w w') w' B lb bm n v s:=h.TW f
structure Own(S:aO)(w:ay)(B:Nat)(t:dJ)(size:Nat)(v:aA)(n:Nat)(xs:List aA):Prop where
 row:bD w B t size v n xs
 r:∀k,bY v=ae k->S k
variable{t:dJ}{xs:List aA}{a:Act}{P:fJ}{o:Oper}{main:Bool}{fn:ji}{ops:Array Oper}{i:Nat}{K:Act->aO->ay->Prop}
def Own.of{size:Nat}(h:Own S w B t size v n xs)(hS:∀b,S b->S' b)(hk:∀k,bY v=ae k->w1.heap[k]? =w.heap[k]?):Own S' w1 B t size v n xs:=by
 refine⟨⟨h.row.1,?_⟩,fun k hk=>hS k<|h.r k hk⟩;rcases h.row.2 with h2|⟨g,cap,cur,rfl,hb,hg,r⟩
 ·exact .inl h2
 ·exact .inr ⟨g,cap,cur,rfl,hb,by rw[hk g rfl];exact hg,r⟩
def Own.bg{size:Nat}(h:Own S w B t size v n xs)(hk:bu S E w w1):Own S w1 B t size v n xs:=h.of (fun _ h=>h) fun k hv=>hk.own k<|h.r k hv
def acZ{row:Option Nat}(hg:w.grownBy w' row)(hr:∀k,row=ae k->S k)(bT:∀s:Nat->Prop,(∀b,s b->1<=b)->(∀b,s b->¬S b/\(b<w.heap.size\/w'.heap.size<=b))->au.kD (au.vH s) w->au.kD (au.vH s) w')(eX:∀e∈es,nD (grow S w w') E e):jC S E w w' es:=
 ⟨hg.tape,hg.os,hg.output,hg.size,fun b hb hS=>hg.block b hb fun e=>hS<|hr b e.s,eX,bT⟩
def TY{B':au.dE}{size:Nat}(h:bD w B t size v n xs)(hv:∀k,bY v=ae k->¬B'.dB k):au.aI B' v:=by
 rcases h.2 with h2|⟨g,cap,cur,rfl,hb,hg,r⟩
 ·rw[h2.1];exact .slice fun x hx=>by cases hx
 ·exact .slice fun x hx=>by cases hx;exact hv g rfl
def ok_two{B:au.dE}{a b:aA}(ha:au.aI B a)(hb:au.aI B b):au.cZ B #[a,b]:=fun v hv=>by
 simp at hv;rcases hv with rfl|rfl
 ·exact ha
 ·exact hb
def IB{p:Addr}{u:aA}(hp:S p.block)(hu:∀B:au.dE,(∀b,B.dB b->¬S b)->au.aI B u)(eX:∀e∈es,nD S E e):jC S E w (aX w p u) es:=
 ⟨rfl,rfl,rfl,by simp,fun b _ hS=>aFg w p u b fun e=>hS<|e▸hp,fun e he=>by rw[tY<|by simp];exact eX e he,fun s _ hs hw=>hw.setCell<|hu (au.vH s) fun b hb=>(hs b hb).1⟩
def ac0{b:Nat}{f:aA->Option aA}(h:jG w prog 3 b n f)(e:w1.heap[b]? =w.heap[b]?):jG w1 prog 3 b n f:=by
 obtain⟨D,⟨es,clock,hb,r⟩,h2⟩:=h;exact⟨D,⟨es,clock,e.t hb,r⟩,h2⟩
def Yj{xv v':aA}(s x:Operand)(t:dJ)
 (ho:o.op=.call {callee:=.builtin .append,args:=#[s,x],argTypes:=#[t,t]})(hs:a.eval s=v)(hx:a.eval x=xv)
 (hr:(Builtin.append_ #[t,t] o.type #[v,xv]).run P w=.ok v' w'):(dY a.eval o).run P w=.ok (.value v') w':=by
 unfold dY;simp only[ho,resolve,invoke,builtin,aGI,Sem.run_pure,Result.andThen_ok,afQ,rQ,tC,hs,hx,hr]
def qx.kQ(ho:ops[i]? =ae o)(hw:Region.wanted o (yielded ops a.tmps)=true)
 (h:∀w1,bu S E w w1->∃v w2,((dY a.eval o).run P w1=.ok (.value v) w2\/(v=ai/\(dY a.eval o).run P w1=.ok .skip w2))/\jC S E w1 w2 ((dY a.eval o).events P w1 #[])/\K (a.put o.dst v) (grow S w1 w2) w2):qx P main E fn ops i K a S w:=by
 unfold qx;simp only[ho,hw,if_true];refine .inl fun w1 aT=>?_;obtain⟨v,w2,hr,hG,hn⟩:=h w1 aT;have VW:jC S E w1 w2 (listed P fn a o w1):=⟨hG.tape,hG.os,hG.output,hG.size,hG.still,fun e he=>hG.evs e<|aFW he,hG.ok⟩;rcases hr with hr|⟨rfl,hr⟩
 ·rw[hr];exact⟨VW,hn⟩
 ·rw[hr];exact⟨VW,hn⟩
def qx.call{f:ji}{mP:Func}{c:Code}{args:Array Operand}{l7:Array dJ}(ho:ops[i]? =ae o)(hw:Region.wanted o (yielded ops a.tmps)=true)(aP:o.op=.call {callee:=.value<|.func f,args,argTypes:=l7})
 (hf:P.funcs[f]? =ae mP)(Jl:(mP.name== "runtime.NumGoroutine")=false)(hb:mP.body=ae c)(h:sN P main E f (args.map a.eval) S w fun v S' w'=>K (a.put o.dst v) S' w'):qx P main E fn ops i K a S w:=by
 unfold qx;simp only[ho,hw,if_true];exact .inr ⟨f,args,l7,mP,c,aP,hf,Jl,hb,h⟩
def ajb(h:iO S w B lb bm n v s)(hS:∀b,S b->b<w.heap.size)(x:iG)(hb:(s.es.length+1)*40<=140737488355328):
 sN prog false E 184 #[az<|ae ⟨lb,0,af⟩,iF #[ag ah x.k,ag ah x.p,ag ah x.t,dK x.s]] S w fun _ S' w'=>∃v',iO S' w' B lb bm n v' (s.put x)/\kP S E w S' w':=by
 intro b₀ a₀ ops i rest k cs Stop fn c hf hc Fj;obtain rfl:fn=Tryz.f184:=by rw[func184]at hf;exact(rP hf).s
 obtain rfl:c=(Tryz.f184.body.getD .skip):=by rw[hc];rfl
 simp only[Tryz.f184,ik];walk_nrm;refine aC.sq ?_;refine aC.reg [0] rfl ?_;refine aC.kQ rfl rfl (by decide) fun w1 aT=>?_;refine⟨az<|ae ⟨w1.heap.size,0,af⟩,w1.alloc<|aG #[ag ah x.k,ag ah x.p,ag ah x.t,dK x.s] 55,.inl<|by go_simp,?_,?_⟩
 ·exact xC (by simp[go_sem])<|vJ _
 walk_nrm;have aK:∀b,(b=lb\/b=bm\/bY v=ae b)->b<w1.heap.size:=fun b hb=>gu (hS b (by rcases hb with rfl|rfl|hb;exact h.l;exact h.m;exact h.r b hb)) aT.size;have Z9:=(h.bg aT).og (w':=w1.alloc<|aG #[ag ah x.k,ag ah x.p,ag ah x.t,dK x.s] 55) (fun b hb=>aFe w1 _ b<|aK b hb)<|vJ (S:=S) (E:=E) _;have Le:=(TV aT).og<|vJ (E:=E)<|aG #[ag ah x.k,ag ah x.p,ag ah x.t,dK x.s] 55;have hX1:fE (grow S w1<|w1.alloc<|aG #[ag ah x.k,ag ah x.p,ag ah x.t,dK x.s] 55) (w1.alloc<|aG #[ag ah x.k,ag ah x.p,ag ah x.t,dK x.s] 55) w1.heap.size #[ag ah x.k,ag ah x.p,ag ah x.t,dK x.s] 55:=⟨.inr ⟨dI _,by simp⟩,aFb _ _⟩;have ig:∀b,(grow S w1<|w1.alloc<|aG #[ag ah x.k,ag ah x.p,ag ah x.t,dK x.s] 55) b->b<(w1.alloc<|aG #[ag ah x.k,ag ah x.p,ag ah x.t,dK x.s] 55).heap.size:=fun b hb=>by
  rcases hb with hb|hb
  ·have:=hS b hb;have:=aT.size;simp<;>omega
  ·exact hb.2
 generalize wU:grow S w1 (w1.alloc<|aG #[ag ah x.k,ag ah x.p,ag ah x.t,dK x.s] 55)=S1 at*
 generalize wX:bz w1 (aG #[ag ah x.k,ag ah x.p,ag ah x.t,dK x.s] 55)=W1 at*
 generalize hbb:w1.heap.size=bb at*
 refine aC.gK ?_;refine aC.drawn (X:=Yi) (I:=fun S' w'=>fE S' w' lb #[v,ag ah s.d,.map<|ae bm] 163/\fE S' w' bb #[ag ah x.k,ag ah x.p,ag ah x.t,dK x.s] 55) (Q:=fun a S' w'=>a.defers=[]/\∃v',iO S' w' B lb bm n v' (s.put x)/\kP S E w S' w') rfl (by decide) (by kernel_rfl) ?_ (fun _ _ _ _ h=>h.e) ?_
 ·rintro a S' w' ⟨hd,v',DR,jw⟩;refine aC.ctl rfl (fun _=>stepG_end) ?_;refine aC.leave0 rfl hd func184 rfl ?_;exact Fj _ _ _ ⟨v',DR,jw⟩
 intro w2 lq;have hI:∀(S':aO) (x1 y1:ay),(fE S' x1 lb #[v,ag ah s.d,.map<|ae bm] 163/\fE S' x1 bb #[ag ah x.k,ag ah x.p,ag ah x.t,dK x.s] 55)->bu S' E x1 y1->(fE S' y1 lb #[v,ag ah s.d,.map<|ae bm] 163/\fE S' y1 bb #[ag ah x.k,ag ah x.p,ag ah x.t,dK x.s] 55):=fun _ _ _ h1 h2=>⟨h1.1.bg h2,h1.2.bg h2⟩;have hQ:∀(a:Act) (S':aO) (x1 y1:ay),(a.defers=[]/\∃v',iO S' x1 B lb bm n v' (s.put x)/\kP S E w S' x1)->bu S' E x1 y1->(a.defers=[]/\∃v',iO S' y1 B lb bm n v' (s.put x)/\kP S E w S' y1):=fun _ _ _ _ h1 h2=>⟨h1.1,h1.2.choose,h1.2.choose_spec.1.bg h2,h1.2.choose_spec.2.bg h2⟩;have xY:=Z9.bg<|lq.t<|bu.at S1 E w2<|w2.drawn+1;have Q9:=hX1.bg<|lq.t<|bu.at S1 E w2<|w2.drawn+1;have Cm:=Le.bg<|lq.t<|bu.at S1 E w2<|w2.drawn+1;have jg:∀b,S1 b->b<(w2.at<|w2.drawn+1).heap.size:=fun b hb=>gu (ig b hb) (lq.t<|bu.at S1 E w2<|w2.drawn+1).size;change rE _ _ _ _ _ _ _ _ _ _ _ _ _ (w2.at<|w2.drawn+1);generalize w2.at (w2.drawn+1)=w3 at xY Q9 Cm jg⊢
 have qL:fE S1 w3 lb #[v,ag ah s.d,.map<|ae bm] 163/\fE S1 w3 bb #[ag ah x.k,ag ah x.p,ag ah x.t,dK x.s] 55:=⟨⟨xY.l,xY.log.blk⟩,Q9⟩;clear Z9 hX1 Le ig lq;simp only[Fv,oH,wu,Nat.reduceAdd,D9];refine qy hI hQ wJ (i:=0) rfl (by kernel_rfl) (by kernel_rfl) (by kernel_rfl) (by kernel_rfl) (v:=_) ⟨rfl,fun S' w' hi=>⟨by go_simp<;>rfl,fun e he=>?_⟩⟩ qL ?_
 ·have hm:=aFh he;simp[go_sem]at hm
 walk_nrm;refine qy hI hQ wJ (i:=1) rfl (by kernel_rfl) (by kernel_rfl) (by kernel_rfl) (by kernel_rfl) (v:=_) ⟨rfl,fun S' w' hi=>⟨by go_simp<;>rfl,fun e he=>?_⟩⟩ qL ?_
 ·have hm:=aFh he;simp[go_sem]at hm
 walk_nrm;refine qy hI hQ wJ (i:=2) rfl (by kernel_rfl) (by kernel_rfl) (by kernel_rfl) (by kernel_rfl) (v:=_) ⟨rfl,fun S' w' hi=>⟨by go_simp<;>rfl,fun e he=>?_⟩⟩ qL ?_
 ·have hm:=aFh he;simp[go_sem]at hm
 walk_nrm;refine qy hI hQ wJ (i:=3) rfl (by kernel_rfl) (by kernel_rfl) (by kernel_rfl) (by kernel_rfl) (v:=_) ⟨rfl,fun S' w' hi=>⟨by go_simp<;>rfl,fun e he=>?_⟩⟩ qL ?_
 ·have hm:=aFh he;simp[go_sem]at hm
 walk_nrm;refine qy hI hQ wJ (i:=4) rfl (by kernel_rfl) (by kernel_rfl) (by kernel_rfl) (by kernel_rfl) (v:=v) ⟨rfl,fun S' w' hi=>⟨?_,fun e he=>?_⟩⟩ qL ?_
 ·have hc:aB w' ⟨lb,0,af⟩=ae v:=by rw[aQ hi.1.2];rfl
  go_simp
 ·have hc:aB w' ⟨lb,0,af⟩=ae v:=by rw[aQ hi.1.2];rfl
  have hm:=aFh he;simp[go_sem,hc]at hm;subst hm;exact .inl hi.1.1
 walk_nrm;refine qy hI hQ wJ (i:=5) rfl (by kernel_rfl) (by kernel_rfl) (by kernel_rfl) (by kernel_rfl) (v:=iF #[ag ah x.k,ag ah x.p,ag ah x.t,dK x.s]) ⟨rfl,fun S' w' hi=>⟨?_,fun e he=>?_⟩⟩ qL ?_
 ·have ZJ:aB w' ⟨bb,0,af⟩=ae (ag ah x.k):=by rw[aQ hi.2.2];rfl
  have pV:aB w' ⟨bb,1,af⟩=ae (ag ah x.p):=by rw[aQ hi.2.2];rfl
  have lY:aB w' ⟨bb,2,af⟩=ae (ag ah x.t):=by rw[aQ hi.2.2];rfl
  have hc3:aB w' ⟨bb,3,af⟩=ae (dK x.s):=by rw[aQ hi.2.2];rfl
  go_simp
 ·have ZJ:aB w' ⟨bb,0,af⟩=ae (ag ah x.k):=by rw[aQ hi.2.2];rfl
  have pV:aB w' ⟨bb,1,af⟩=ae (ag ah x.p):=by rw[aQ hi.2.2];rfl
  have lY:aB w' ⟨bb,2,af⟩=ae (ag ah x.t):=by rw[aQ hi.2.2];rfl
  have hc3:aB w' ⟨bb,3,af⟩=ae (dK x.s):=by rw[aQ hi.2.2];rfl
  have hm:=aFh he;simp[go_sem,ZJ,pV,lY,hc3]at hm;rcases hm with rfl|rfl|rfl|rfl<;>exact .inl hi.2.1
 walk_nrm;refine Yh (rs:=[6]) (by kernel_rfl) (by simp) fun i hi=>?_;obtain rfl:i=6:=by simpa using hi
 refine qx.kQ rfl rfl fun w4 yO=>?_;have PZ:=xY.bg yO;have F8:=Q9.bg yO;have Bd:=Cm.bg yO;have Ew:∀b,S1 b->b<w4.heap.size:=fun b hb=>gu (jg b hb) yO.size;refine⟨aN (ae ⟨w4.heap.size,0,af⟩) 1 1,w4.alloc<|aG #[ag ah x.k,ag ah x.p,ag ah x.t,dK x.s] 55,.inl<|by go_simp,xC (by simp[go_sem])<|vJ _,?_⟩;have Dp:=PZ.og (w':=w4.alloc<|aG #[ag ah x.k,ag ah x.p,ag ah x.t,dK x.s] 55) (fun b hb=>aFe w4 _ b<|Ew b (by rcases hb with rfl|rfl|hb;exact PZ.l;exact PZ.m;exact PZ.r b hb))<|vJ (S:=S1) (E:=E) _;have qQ:=Bd.og<|vJ (E:=E)<|aG #[ag ah x.k,ag ah x.p,ag ah x.t,dK x.s] 55;have TZ:fE (grow S1 w4<|w4.alloc<|aG #[ag ah x.k,ag ah x.p,ag ah x.t,dK x.s] 55) (w4.alloc<|aG #[ag ah x.k,ag ah x.p,ag ah x.t,dK x.s] 55) bb #[ag ah x.k,ag ah x.p,ag ah x.t,dK x.s] 55:=⟨.inl F8.1,by rw[aFe w4 _ bb<|Ew bb F8.1];exact F8.2⟩;have tZ:fE (grow S1 w4<|w4.alloc<|aG #[ag ah x.k,ag ah x.p,ag ah x.t,dK x.s] 55) (w4.alloc<|aG #[ag ah x.k,ag ah x.p,ag ah x.t,dK x.s] 55) w4.heap.size #[ag ah x.k,ag ah x.p,ag ah x.t,dK x.s] 55:=⟨.inr ⟨dI _,by simp⟩,aFb _ _⟩;have hz5:∀b,(grow S1 w4<|w4.alloc<|aG #[ag ah x.k,ag ah x.p,ag ah x.t,dK x.s] 55) b->b<(w4.alloc<|aG #[ag ah x.k,ag ah x.p,ag ah x.t,dK x.s] 55).heap.size:=fun b hb=>by
  rcases hb with hb|hb
  ·have:=Ew b hb;simp<;>omega
  ·exact hb.2
 refine⟨fun _=>⟨⟨Dp.l,Dp.log.blk⟩,TZ⟩,?_⟩;generalize grow S1 w4 (w4.alloc<|aG #[ag ah x.k,ag ah x.p,ag ah x.t,dK x.s] 55)=S2 at*
 generalize w4.alloc (aG #[ag ah x.k,ag ah x.p,ag ah x.t,dK x.s] 55)=w5 at*
 generalize w4.heap.size=cc at*
 walk_nrm;refine Yh (rs:=[7]) (by kernel_rfl) (by simp) fun i hi=>?_;obtain rfl:i=7:=by simpa using hi
 refine qx.kQ rfl rfl fun w6 sS=>?_;have oZ:=Dp.bg sS;have hX6:=TZ.bg sS;have xE:=tZ.bg sS;have Yk:=qQ.bg sS;have P7:∀b,S2 b->b<w6.heap.size:=fun b hb=>gu (hz5 b hb) sS.size;obtain⟨i0,ed,iI,ig,jg⟩:=aFq aaQ;obtain⟨g,cap,w7,J3,Ua,BF,IC,MZ⟩:=aGy (P:=prog) w6 49 49 B 55 i0 _ 4 40 underlying49 ed iI ig jg rfl (by omega) v s.es.length (pG s.es) oZ.log.row ⟨cc,0,af⟩ 1 1 [ag ah x.k,ag ah x.p,ag ah x.t,dK x.s] rfl (aFk xE.2) (by simp[Value.oneCell']) (by omega) (by simp only[eP];omega) hb (aaN<|aaE oZ.log.hl<|P7 lb oZ.l) _ rfl;have VY:=aGi (P:=prog) w6 B 49 49 55 i0 _ 4 40 underlying49 ed iI ig jg v s.es.length (pG s.es) oZ.log.row ⟨cc,0,af⟩ 1 1 [ag ah x.k,ag ah x.p,ag ah x.t,dK x.s] rfl (aFk xE.2) (by simp[Value.oneCell']) (by simp only[eP];omega) hb;have J4:jC S2 E w6 w7 ((Builtin.append_ #[49,49] 49 #[v,aN (ae ⟨cc,0,af⟩) 1 1]).events prog w6 #[]):=acZ BF oZ.r (fun s h5 hs hw=>((au.Pz (au.X7 h5).toFit<|ok_two (TY oZ.log.row fun k hk z=>(hs k z).1<|oZ.r k hk) (.slice fun y hy z=>by cases hy;exact(hs _ z).1 xE.1)).Em hw J3 fun b hb=>(hs b hb).2).2) fun e he=>by
  rcases VY e he with⟨ad,h1,h2|h2⟩|⟨m,rfl,h2⟩
  ·exact(show nD _ _ _ by unfold nD;rw[h1];exact .inl<|.inl<|h2.2▸xE.1)
  ·exact(show nD _ _ _ by unfold nD;rw[h1];exact .inl<|.inl<|oZ.r _ h2.s)
  ·exact h2
 refine⟨(aN (ae ⟨g,0,af⟩) (s.es.length+1) cap),w7,.inl ?_,?_,?_⟩
 ·exact Yj (.tmp 8) (.tmp 10) 49 rfl rfl rfl J3
 ·rw[aGa (.tmp 8) (.tmp 10) 49 rfl rfl rfl];exact J4
 have dD:=oZ.log.LH;have hnm:=oZ.log.aaP;have Ub:(grow S2 w6 w7) g:=by
  rcases IC with h1|h1
  ·exact .inl<|oZ.r g h1
  ·exact .inr ⟨by omega,MZ⟩
 have hb7:∀b,S2 b->ae b≠v.ownBlock->w7.heap[b]? =w6.heap[b]? :=fun b hb hn=>BF.block b (P7 b hb) hn;have CB:g≠lb:=by
  rcases IC with h1|h1
  ·rintro rfl;exact dD h1
  ·have:=P7 lb oZ.l;omega
 have hgm:g≠bm:=by
  rcases IC with h1|h1
  ·rintro rfl;exact hnm h1
  ·have:=P7 bm oZ.m;omega
 have hL7:fE (grow S2 w6 w7) w7 lb #[v,ag ah s.d,.map<|ae bm] 163:=⟨.inl oZ.l,by rw[hb7 lb oZ.l<|Ne.s dD];exact oZ.log.blk⟩;have hO7:Own (grow S2 w6 w7) w7 B 55 4 (aN (ae ⟨g,0,af⟩) (s.es.length+1) cap) (s.es.length+1) (pG s.es++[ag ah x.k,ag ah x.p,ag ah x.t,dK x.s]):=⟨Ua,fun k hk=>by simp only[Value.ownBlock,gU]at hk;exact hk▸Ub⟩;have hm7:=ac0 oZ.log.map<|hb7 bm oZ.m<|Ne.s hnm;have hmS:(grow S2 w6 w7) bm:=.inl oZ.m;have Uc:=Yk.og J4;have hX7:fE (grow S2 w6 w7) w7 bb #[ag ah x.k,ag ah x.p,ag ah x.t,dK x.s] 55:=⟨.inl hX6.1,by rw[hb7 bb hX6.1 fun e=>by have:=aK bb<|.inr<|.inr e.s;omega];exact hX6.2⟩;refine⟨fun _=>⟨hL7,hX7⟩,?_⟩;generalize grow S2 w6 w7=S3 at*
 walk_nrm;refine qy hI hQ wJ (i:=8) rfl (by kernel_rfl) (by kernel_rfl) (by kernel_rfl) (by kernel_rfl) (v:=_) ⟨rfl,fun S' w' hi=>⟨by go_simp<;>rfl,fun e he=>?_⟩⟩ ⟨hL7,hX7⟩ ?_
 ·have hm:=aFh he;simp[go_sem]at hm
 walk_nrm;refine qy hI hQ wJ (i:=9) rfl (by kernel_rfl) (by kernel_rfl) (by kernel_rfl) (by kernel_rfl) (v:=_) ⟨rfl,fun S' w' hi=>⟨by go_simp<;>rfl,fun e he=>?_⟩⟩ ⟨hL7,hX7⟩ ?_
 ·have hm:=aFh he;simp[go_sem]at hm
 walk_nrm;refine Yh (rs:=[10]) (by kernel_rfl) (by simp) fun i hi=>?_;obtain rfl:i=10:=by simpa using hi
 refine qx.kQ rfl rfl fun w8 hk8=>?_;have J5:=hL7.bg hk8;have IE:=hO7.bg hk8;have hm8:=ac0 hm7<|hk8.own bm hmS;have Ud:=Uc.bg hk8;have c0:aB w8 ⟨lb,0,af⟩=ae v:=by rw[aQ J5.2];rfl
 have f0:w8.frozen? ⟨lb,0,af⟩=false:=kK J5.2 0;have Ue:jC S3 E w8 (aX w8 ⟨lb,0,af⟩<|aN (ae ⟨g,0,af⟩) (s.es.length+1) cap) #[⟨.cell ⟨lb,0,af⟩,true,false⟩]:=IB J5.1 (fun _ hB=>.slice fun y hy z=>by cases hy;exact hB _ z<|IE.r g rfl) fun e he=>by simp at he;subst he;exact .inl J5.1
 refine⟨ai,aX w8 ⟨lb,0,af⟩<|aN (ae ⟨g,0,af⟩) (s.es.length+1) cap,.inr ⟨rfl,by go_simp⟩,?_,fun h=>absurd h (by rw[show JZ _ _ 10=true by kernel_rfl];simp),?_⟩
 ·exact IB J5.1 (fun _ hB=>.slice fun y hy z=>by cases hy;exact hB _ z<|IE.r g rfl) fun e he=>by
   simp[go_sem,aFU,storedEv,c0,f0]at he;subst he;exact .inl J5.1
 refine ai9 (by kernel_rfl) ⟨rfl,(aN (ae ⟨g,0,af⟩) (s.es.length+1) cap),⟨⟨?_,?_,?_,oZ.log.hl,oZ.log.hm⟩,.inl J5.1,.inl hmS,fun k hk=>.inl<|IE.r k hk⟩,Ud.og Ue⟩ _
 ·rw[kU J5.2];rfl
 ·have:aX w8 ⟨lb,0,af⟩ (aN (ae ⟨g,0,af⟩) (s.es.length+1) cap) |>.ownsRow B 55 4 (aN (ae ⟨g,0,af⟩) (s.es.length+1) cap) (s.es.length+1) (pG s.es++[ag ah x.k,ag ah x.p,ag ah x.t,dK x.s]):=(IE.of (S':=S3) (fun _ h=>h) fun k hk=>by
   simp only[Value.ownBlock,gU]at hk;exact aFg w8 _ _ k (by subst hk;exact CB)).row
  simpa[aJ.put,afU,iG.cs]using this
 ·exact ac0 hm8<|aFg w8 _ _ bm<|Ne.s oZ.log.ne
end Twin
end
section
namespace Twin
open Go Go.Proofs Go.Conc Go.RowKit Go.Maps
variable{E:dL}{S S':aO}{w w':ay}{bm n:Nat}
def aC.Uf{P:fJ}{main:Bool}{Stop:aO->bM->ay->Prop}{b:bH}{a:Act}{k:List Item}{cs:List bH}{ops:Array Oper}{i:Nat}{rest:List Nat}{o:Oper}{f:ji}{mP:Func}{c:Code}{args:Array Operand}{l7:Array dJ}{nX:aA->aO->ay->Prop}
 (ho:ops[i]? =ae o)(hw:Region.wanted o (yielded ops a.tmps)=true)(hk:b.kind≠.early)(aP:o.op=.call {callee:=.value<|.func f,args,argTypes:=l7})
 (hf:P.funcs[f]? =ae mP)(Jl:(mP.name== "runtime.NumGoroutine")=false)(hb:mP.body=ae c){vs:Array aA}(hv:args.map a.eval=vs)(h:sN P main E f vs S w nX)
 (hn:∀v S' w',nX v S' w'->aC P main E Stop S' (G (b.at (a.put o.dst v)<|bW ops rest::k) cs) w'):aC P main E Stop S (G (b.at a<|bW ops (i::rest)::k) cs) w:=
 .call ho hw hk aP hf Jl hb (hv▸h b a ops i rest k cs Stop mP c hf hb fun v S' w' hp=>by rw[ho];exact hn v S' w' hp)
def kP.refl:kP S E w S w:=TV<|bu.refl _ _ _
def kP.t{S'':aO}{Ld:ay}(h:kP S E w S' w')(k:kP S' E w' S'' Ld):kP S E w S'' Ld:=by
 have h1:=h.size;have h2:=k.size;refine⟨fun b hb=>k.own b<|h.own b hb,by omega,fun b hb=>?_,k.tape.t h.tape,k.os.t h.os,k.output.t h.output,fun b hb aK hn=>?_⟩
 ·rcases k.new b hb with hb|hb
  ·exact(h.new b hb).imp id fun x=>⟨x.1,by omega⟩
  ·exact .inr ⟨by omega,hb.2⟩
 ·rw[k.ro b hb (by omega) fun z=>(h.new b z).e hn fun y=>by omega,h.ro b hb aK hn]
def kP.below(h:kP S E w S' w')(hS:∀b,S b->b<w.heap.size):∀b,S' b->b<w'.heap.size:=fun b hb=>by
 have:=h.size;rcases h.new b hb with h1|h1
 ·have:=hS b h1;omega
 ·exact h1.2
def aje{nw:Int->Option (Int×Bool)}(h:jG w prog 3 bm n (jH nw))(hm:S bm)(p t:Int)(c:Bool){w2:ay}(hr:(Instr.mapUpdate 161 (.map<|ae bm) (.int .i64 p)<|iF #[ag ah t,.bool c]).run prog w=.ok () w2)(f:Fr (fun k=>k=bm) w w2):
 jC S E w w2 ((Instr.mapUpdate 161 (.map<|ae bm) (.int .i64 p)<|iF #[ag ah t,.bool c]).events prog w #[]):=
 ⟨f.tape,f.os,f.output,f.size,fun b hb hS=>f.block b hb fun e=>hS<|e▸hm,fun e he=>evg (.inl hm)<|atd h p _ e he,fun s h5 hs hw=>by
  have hC:au.Clean (au.vH s) prog (fun _=>True) (Instr.mapUpdate 161 (.map<|ae bm) (.int .i64 p)<|iF #[ag ah t,.bool c]):=au.ab5 (au.X7 h5).toFit (au.aI.map fun y hy z=>by cases hy;exact(hs _ z).1 hm) au.aI.int (au.aI.agg fun u hu=>by
   simp at hu;rcases hu with rfl|rfl
   ·exact .int
   ·exact .bool)
  exact(hC.Em hw hr fun b hb=>(hs b hb).2).2⟩
def atj{B lb:Nat}{v:aA}{s:aJ}(h:iO S w B lb bm n v s)(hS:∀b,S b->b<w.heap.size)(p t:Int)(c:Bool)(hp:(Lit.int .i64 p).wf=true)(hn:n<eP)(hb:(s.es.length+1)*40<=140737488355328):
 sN prog false E 187 #[az<|ae ⟨lb,0,af⟩,ag ah p,ag ah t,.bool c] S w fun y S' w'=>y=.bool (s.isOpen p t)/\∃v',iO S' w' B lb bm (n+1) v' (s.closed p t c)/\kP S E w S' w':=by
 intro b₀ a₀ ops i rest k cs Stop fn c' hf hc Fj;obtain rfl:fn=Tryz.f187:=by rw[func187]at hf;exact(rP hf).s
 obtain rfl:c'=(Tryz.f187.body.getD .skip):=by rw[hc];rfl
 simp only[Tryz.f187,ik];walk_nrm;refine aC.sq ?_;refine aC.reg [0] rfl ?_;refine aC.mu rfl rfl ?_;walk_nrm;refine aC.gK ?_;refine aC.sq ?_;refine aC.sq ?_;refine aC.reg [0,1,2,3,4] rfl ?_;refine aC.mu rfl rfl ?_;walk_nrm;refine aC.mu rfl rfl ?_;walk_nrm;refine aC.mu rfl rfl ?_;walk_nrm;refine aC.Uf rfl rfl (by decide) rfl func122 rfl rfl (by walk_nrm) (atf h.log h.l h.m h.r p t hp) ?_;rintro x S' w1 ⟨rfl,aT,rfl⟩;have h1:=h.bg aT;have wU:∀b,S' b->b<w1.heap.size:=fun b hb=>gu (hS b hb) aT.size;have Le:=TV aT;walk_nrm;refine aC.mute (.bool<|!s.isOpen p t) rfl rfl (by decide) (fun _=>by go_simp<;>rfl) (fun _=>by simp[go_sem]) ?_;walk_nrm;refine aC.gK ?_;by_cases ho:s.isOpen p t=true
 ·have hs:s.closed p t c=(s.put ⟨if c then 2 else 3,p,t,⟨#[]⟩⟩).set p t false:=by cases c<;>simp[aJ.closed,ho,aJ.xh]
  simp only[ho,OT];refine aC.ctl rfl (fun _=>aFp (t:=false)<|by rfl) ?_;refine aC.ctl rfl (fun _=>aFr) ?_;refine aC.sq ?_;refine aC.reg [0] rfl ?_;refine aC.mu rfl rfl ?_;walk_nrm;refine aC.gK ?_;refine aC.sq ?_;refine aC.sq ?_;refine aC.reg [0] rfl ?_;refine aC.mu rfl rfl ?_;walk_nrm;refine aC.gK ?_;have mG:keyOf prog 3 (.int .i64 p)=ae (.int .i64 p):=aF2 underlying3 hp;cases c
  ·simp only[kG,kJ]at hs;refine aC.ctl rfl (fun _=>aFp (t:=false)<|by rfl) ?_;refine aC.ctl rfl (fun _=>aFr) ?_;refine aC.sq ?_;refine aC.reg [0,1,2,3,4,5] rfl ?_;refine aC.mu rfl rfl ?_;walk_nrm;refine aC.mu rfl rfl ?_;walk_nrm;refine aC.mu rfl rfl ?_;walk_nrm;refine aC.mu rfl rfl ?_;walk_nrm;refine aC.mu rfl rfl ?_;walk_nrm;refine aC.Uf rfl rfl (by decide) rfl func184 rfl rfl (by walk_nrm) (ajb h1 wU ⟨3,p,t,⟨#[]⟩⟩ hb) ?_;rintro x S2 w2 ⟨v',h2,Cm⟩;have lY:∀w3,bu S2 E w2 w3->aB w3 ⟨lb,2,af⟩=ae (.map<|ae bm):=fun w3 hk=>by rw[aQ (h2.bg hk).log.blk];rfl
   walk_nrm;refine aC.gK ?_;refine aC.sq ?_;refine aC.reg [0,1,2,3,4,5,6,7] rfl ?_;refine aC.mu rfl rfl ?_;walk_nrm;refine aC.mu rfl rfl ?_;walk_nrm;refine aC.mu rfl rfl ?_;walk_nrm;refine aC.val (.map<|ae bm) rfl rfl (by decide) (fun w3 lC=>by have hc:=lY w3 lC;go_simp) (fun w3 lC e he=>?_) ?_
   ·have hc:=lY w3 lC;simp[go_sem,hc]at he;subst he;exact .inl h2.l
   walk_nrm;refine aC.mu rfl rfl ?_;walk_nrm;refine aC.mu rfl rfl ?_;walk_nrm;refine aC.mu rfl rfl ?_;walk_nrm;refine aC.kQ rfl rfl (by decide) fun w3 lC=>?_;have h3:=h2.bg lC;obtain⟨w4,hr4,hm4,ht4⟩:=h3.log.map.store Bl underlying161 hn mG (val:=iF #[ag ah t,.bool false]) (g:=jH ((s.put ⟨3,p,t,⟨#[]⟩⟩).set p t false).nw) (OU _ _ _ _)<|OV _ _ _ _;have f4:Fr (fun k=>k=bm) w3 w4:=(Fr.refl (fun k=>k=bm) w3).LG ht4<|.inl rfl;have Lh:=aje (E:=E) h3.log.map h3.m p t false hr4 f4;refine⟨ai,w4,.inr ⟨rfl,by go_simp⟩,?_,?_⟩
   ·simpa[dY,Act.eval,go_sem]using Lh
   walk_nrm;have h4:iO (grow S2 w3 w4) w4 B lb bm (n+1) v' ((s.put ⟨3,p,t,⟨#[]⟩⟩).set p t false):=⟨h3.log.OW f4 hm4,.inl h3.l,.inl h3.m,fun k hk=>.inl<|h3.r k hk⟩;have Bd:=((Le.t Cm).bg lC).og Lh;refine aC.gK ?_;refine aC.sq ?_;refine aC.reg [0] rfl ?_;refine aC.mu rfl rfl ?_;walk_nrm;refine aC.gK ?_;refine aC.ctl rfl (fun _=>aFu) ?_;refine aC.leave1 rfl rfl func187 rfl ?_;walk_nrm;exact Fj _ _ _ ⟨by rw[ho],v',hs▸h4,Bd⟩
  ·simp only[if_true]at hs;refine aC.ctl rfl (fun _=>aFp (t:=true)<|by rfl) ?_;refine aC.reg [0] rfl ?_;refine aC.mu rfl rfl ?_;walk_nrm;refine aC.gK ?_;refine aC.sq ?_;refine aC.reg [0,1,2,3,4,5] rfl ?_;refine aC.mu rfl rfl ?_;walk_nrm;refine aC.mu rfl rfl ?_;walk_nrm;refine aC.mu rfl rfl ?_;walk_nrm;refine aC.mu rfl rfl ?_;walk_nrm;refine aC.mu rfl rfl ?_;walk_nrm;refine aC.Uf rfl rfl (by decide) rfl func184 rfl rfl (by walk_nrm) (ajb h1 wU ⟨2,p,t,⟨#[]⟩⟩ hb) ?_;rintro x S2 w2 ⟨v',h2,Cm⟩;have lY:∀w3,bu S2 E w2 w3->aB w3 ⟨lb,2,af⟩=ae (.map<|ae bm):=fun w3 hk=>by rw[aQ (h2.bg hk).log.blk];rfl
   walk_nrm;refine aC.gK ?_;refine aC.sq ?_;refine aC.reg [0,1,2,3,4,5,6,7] rfl ?_;refine aC.mu rfl rfl ?_;walk_nrm;refine aC.mu rfl rfl ?_;walk_nrm;refine aC.mu rfl rfl ?_;walk_nrm;refine aC.val (.map<|ae bm) rfl rfl (by decide) (fun w3 lC=>by have hc:=lY w3 lC;go_simp) (fun w3 lC e he=>?_) ?_
   ·have hc:=lY w3 lC;simp[go_sem,hc]at he;subst he;exact .inl h2.l
   walk_nrm;refine aC.mu rfl rfl ?_;walk_nrm;refine aC.mu rfl rfl ?_;walk_nrm;refine aC.mu rfl rfl ?_;walk_nrm;refine aC.kQ rfl rfl (by decide) fun w3 lC=>?_;have h3:=h2.bg lC;obtain⟨w4,hr4,hm4,ht4⟩:=h3.log.map.store Bl underlying161 hn mG (val:=iF #[ag ah t,.bool false]) (g:=jH ((s.put ⟨2,p,t,⟨#[]⟩⟩).set p t false).nw) (OU _ _ _ _)<|OV _ _ _ _;have f4:Fr (fun k=>k=bm) w3 w4:=(Fr.refl (fun k=>k=bm) w3).LG ht4<|.inl rfl;have Lh:=aje (E:=E) h3.log.map h3.m p t false hr4 f4;refine⟨ai,w4,.inr ⟨rfl,by go_simp⟩,?_,?_⟩
   ·simpa[dY,Act.eval,go_sem]using Lh
   walk_nrm;have h4:iO (grow S2 w3 w4) w4 B lb bm (n+1) v' ((s.put ⟨2,p,t,⟨#[]⟩⟩).set p t false):=⟨h3.log.OW f4 hm4,.inl h3.l,.inl h3.m,fun k hk=>.inl<|h3.r k hk⟩;have Bd:=((Le.t Cm).bg lC).og Lh;refine aC.gK ?_;refine aC.sq ?_;refine aC.reg [0] rfl ?_;refine aC.mu rfl rfl ?_;walk_nrm;refine aC.gK ?_;refine aC.ctl rfl (fun _=>aFu) ?_;refine aC.leave1 rfl rfl func187 rfl ?_;walk_nrm;exact Fj _ _ _ ⟨by rw[ho],v',hs▸h4,Bd⟩
 ·have hs:s.closed p t c=s:=by simp[aJ.closed,ho]
  have uO:s.isOpen p t=false:=by simpa using ho
  simp only[uO,afS];refine aC.ctl rfl (fun _=>aFp (t:=true)<|by rfl) ?_;refine aC.sq ?_;refine aC.reg [0] rfl ?_;refine aC.mu rfl rfl ?_;walk_nrm;refine aC.gK ?_;refine aC.ctl rfl (fun _=>aFu) ?_;refine aC.leave1 rfl rfl func187 rfl ?_;walk_nrm;exact Fj _ _ _ ⟨by rw[uO],v,by rw[hs];exact⟨h1.log.z<|Nat.le_succ n,h1.l,h1.m,h1.r⟩,Le⟩
end Twin
end
section
namespace Twin
open Go Go.Proofs Go.Conc
variable{S L:aO}{E:dL}{P:fJ}{main:Bool}{w:ay}{f:ji}{args:Array aA}{nX:aA->aO->ay->Prop}{B lb bm n:Nat}{v:aA}{s:aJ}
def nD.z{T:aO}{e:Event}(h:nD S E e)(hT:∀b,S b->T b):nD T E e:=by
 unfold nD at*
 split<;>simp_all
 ·exact h.imp (hT _) id
 ·exact h.2.imp (hT _) id
def aC.frame{Stop:aO->bM->ay->Prop}{g:bM}(h:aC P main E Stop S g w):∀(F:aO) (_:∀b,F b->b<w.heap.size) (_:∀b,F b->¬S b),
 aC P main E (fun S' g' w'=>∃S0,Stop S0 g' w'/\S'=(fun b=>S0 b\/F b)/\∀b,F b->w'.heap[b]? =w.heap[b]?) (fun b=>S b\/F b) g w:=by
 induction h with
 | @stop S g w h=>exact fun F hF hn=>.stop fun w1 hk=>⟨S,h w1<|hk.z (fun b hb=>.inl<|.inl hb) fun b hb=>.inr hb,rfl,fun b hb=>hk.own b<|.inr hb⟩
 | @step S g w hr f hs _ ih=>
   intro F hF hn;have dV:∀w1,bu (fun b=>S b\/F b) E w w1->bu S E w w1:=fun w1 hk=>hk.z (fun b hb=>.inl<|.inl hb) fun b hb=>.inr hb;have hg:∀w1 w2:ay,grow (fun b=>S b\/F b) w1 w2=(fun b=>grow S w1 w2 b\/F b):=fun w1 w2=>by
    funext b;simp only[grow,eq_iff_iff];constructor
    ·rintro((h|h)|h)
     ·exact .inl<|.inl h
     ·exact .inr h
     ·exact .inl<|.inr h
    ·rintro((h|h)|h)
     ·exact .inl<|.inl h
     ·exact .inr h
     ·exact .inl<|.inr h
   refine .step hr f (fun w1 hk=>?_) fun w1 hk=>?_
   ·obtain⟨h1,h2⟩:=hs w1<|dV w1 hk;exact⟨h1,h2.tape,h2.os,h2.output,h2.size,fun b hb hn'=>h2.still b hb fun x=>hn'<|.inl x,fun e he=>by rw[hg];exact(h2.evs e he).z fun b hb=>.inl hb,fun s h5 hs hw=>h2.ok s h5 (fun b hb=>⟨fun x=>(hs b hb).1<|.inl x,(hs b hb).2⟩) hw⟩
   ·obtain⟨_,h2⟩:=hs w1<|dV w1 hk;have hz:=hk.size;have jg:=h2.size;rw[hg];refine(ih w1 (dV w1 hk) F (fun b hb=>by have:=hF b hb;omega) fun b hb hx=>?_).z ?_
    ·rcases hx with hx|hx
     ·exact hn b hb hx
     ·have:=hF b hb;omega
    ·rintro S' g' w' ⟨S0,h0,e0,h3⟩;exact⟨S0,h0,e0,fun b hb=>by rw[h3 b hb,h2.still b (by have:=hF b hb;omega)<|hn b hb,hk.own b<|.inr hb]⟩
def sN.z{VZ:aA->aO->ay->Prop}(h:sN P main E f args S w nX)(h':∀v S' w',nX v S' w'->VZ v S' w'):sN P main E f args S w VZ:=
 fun b₀ a₀ ops i rest k cs Stop fn c hf hb hn=>h b₀ a₀ ops i rest k cs Stop fn c hf hb fun v S' w' hp=>hn v S' w'<|h' v S' w' hp
def sN.frame(h:sN P main E f args L w nX)(hP:∀v S' x y,nX v S' x->bu S' E x y->nX v S' y)(hL:∀b,L b->S b)(hS:∀b,S b->b<w.heap.size):
 sN P main E f args S w fun v S' w'=>∃S0,nX v S0 w'/\(∀b,S0 b->S' b)/\(∀b,S' b->S0 b\/S b)/\∀b,S b->¬L b->S' b/\w'.heap[b]? =w.heap[b]? :=by
 intro b₀ a₀ ops i rest k cs Stop fn c hf hb hn;have h1:=h b₀ a₀ ops i rest k cs (fun S' g' w'=>∃v,nX v S' w'/\g'=G (b₀.at (a₀.put ((ops[i]?).bind (·.dst)) v)<|bW ops rest::k) cs) fn c hf hb fun v S' w' hp=>.stop fun w1 hk=>⟨v,hP v S' w' w1 hp hk,rfl⟩;have h2:=h1.frame (fun b=>S b/\¬L b) (fun b hb=>hS b hb.1) fun b hb=>hb.2;have e:(fun b=>L b\/(S b/\¬L b))=S:=by
  funext b;simp only[eq_iff_iff];constructor
  ·rintro(h|h)
   ·exact hL b h
   ·exact h.1
  ·intro h;by_cases hl:L b
   ·exact .inl hl
   ·exact .inr ⟨h,hl⟩
 rw[e]at h2;refine h2.t ?_;rintro S' g' w' ⟨S0,⟨v,hp,rfl⟩,rfl,hF⟩;exact hn v _ w' ⟨S0,hp,fun b hb=>.inl hb,fun b hb=>hb.imp id And.left,fun b h1 h2=>⟨.inr ⟨h1,h2⟩,hF b ⟨h1,h2⟩⟩⟩
def lT(lb bm:Nat)(v:aA):aO:=fun b=>b=lb\/b=bm\/bY v=ae b
def iO.own(h:iO S w B lb bm n v s):iO (lT lb bm v) w B lb bm n v s:=⟨h.log,.inl rfl,.inr<|.inl rfl,fun _ hk=>.inr<|.inr hk⟩
def iO.sub(h:iO S w B lb bm n v s):∀b,lT lb bm v b->S b:=by
 rintro b (rfl|rfl|hb)
 ·exact h.l
 ·exact h.m
 ·exact h.r b hb
def iO.lt(h:iO S w B lb bm n v s):∀b,lT lb bm v b->b<w.heap.size:=fun _ hb=>h.log.uz hb
def iO.z{T:aO}(h:iO S w B lb bm n v s)(hT:∀b,S b->T b):iO T w B lb bm n v s:=⟨h.log,hT _ h.l,hT _ h.m,fun k hk=>hT k<|h.r k hk⟩
def kP.wide{S0 S':aO}{w':ay}(h:kP L E w S0 w')(hL:∀b,L b->S b)(h1:∀b,S0 b->S' b)(h2:∀b,S' b->S0 b\/S b)(h3:∀b,S b->¬L b->S' b):kP S E w S' w':=
 ⟨fun b hb=>by
  by_cases hl:L b
  ·exact h1 b<|h.own b hl
  ·exact h3 b hb hl,h.size,fun b hb=>(h2 b hb).e (fun x=>(h.new b x).imp (hL b) id) .inl,h.tape,h.os,h.output,fun b hb aK hn=>h.ro b hb aK fun x=>hn<|hL b x⟩
def atl(h:iO S w B lb bm n v s)(hS:∀b,S b->b<w.heap.size)(p t:Int)(c:Bool)(hp:(Lit.int .i64 p).wf=true)(hn:n<eP)(hb:(s.es.length+1)*40<=140737488355328):
 sN prog false E 187 #[az<|ae ⟨lb,0,af⟩,ag ah p,ag ah t,.bool c] S w fun y S' w'=>y=.bool (s.isOpen p t)/\(∃v',iO S' w' B lb bm (n+1) v'<|s.closed p t c)/\kP S E w S' w'/\∀b,S b->¬lT lb bm v b->w'.heap[b]? =w.heap[b]? :=by
 refine((atj h.own h.lt p t c hp hn hb).frame ?_ h.sub hS).z ?_
 ·rintro y S' x1 y1 ⟨rfl,v',h1,h2⟩ hk;exact⟨rfl,v',h1.bg hk,h2.bg hk⟩
 ·rintro y S' w' ⟨S0,⟨rfl,v',h1,h2⟩,h3,h4,h5⟩;exact⟨rfl,⟨v',h1.z h3⟩,h2.wide h.sub h3 h4 fun b x y=>(h5 b x y).1,fun b x y=>(h5 b x y).2⟩
end Twin
end
section
namespace Twin
open Go Go.Proofs Go.Conc Go.RowKit Go.Maps
variable{S:aO}{E:dL}{w w1:ay}{a:Addr}{x:aA}{b:Nat}{cs:Array aA}{t:dJ}
def oh(h:aB w a=ae x)(hr:E.rd a.block)(hk:bu S E w w1):aB w1 a=ae x:=(aFf<|hk.ro _<|E.le _ hr).t h
def Ey{S':aO}{w':ay}(h:aB w a=ae x)(hr:E.rd a.block)(hn:¬S a.block)(hk:kP S E w S' w'):aB w' a=ae x:=(aFf<|hk.ro _ (E.le _ hr) (oJ h) hn).t h
def fE.alloc(h:fE S w b cs t)(o:Obj):fE (grow S w<|w.alloc o) (bz w o) b cs t:=⟨.inl h.1,by rw[aFe w o b (jF.1 h.2).1];exact h.2⟩
def fE.new(S:aO)(w:ay)(cs:Array aA)(t:dJ):fE (grow S w<|w.alloc<|.cells cs t) (w.alloc<|.cells cs t) w.heap.size cs t:=⟨.inr ⟨dI _,by simp⟩,aFb _ _⟩
def iO.alloc{B lb bm n:Nat}{v:aA}{s:aJ}(h:iO S w B lb bm n v s)(o:Obj):iO (grow S w<|w.alloc o) (bz w o) B lb bm n v s:=
 h.TW fun _ hb=>aFe w o _<|h.log.uz hb
def IG(hS:∀b,S b->b<w.heap.size)(o:Obj):∀b,(grow S w<|w.alloc o) b->b<(bz w o).heap.size:=fun b hb=>by
 rcases hb with hb|hb
 ·have:=hS b hb;simp<;>omega
 ·exact hb.2
def yH(hS:∀b,S b->b<w.heap.size)(hk:bu S E w w1):∀b,S b->b<w1.heap.size:=fun b hb=>gu (hS b hb) hk.size
def fE.cell(h:fE S w b cs t){o:Nat}(hx:cs[o]? =ae x):aB w ⟨b,o,af⟩=ae x:=by rw[aQ h.2];exact hx
def fE.set(h:fE S w b cs t)(o:Nat)(u:aA):fE S (aX w ⟨b,o,af⟩ u) b (cs.setIfInBounds o u) t:=⟨h.1,kU h.2 o u⟩
def ac5(P:fJ)(w:ay)(es:Array Event)(a:Addr)(m:Mode)(x:Bool):(store a (.bool x) m).events P w es=storedEv P w es a (.bool x) m:=events_store P w es a _ m rfl
structure o5(S:aO)(w w':ay):Prop where
 tape:w'.tape=w.tape
 os:w'.os=w.os
 output:w'.output=w.output
 size:w'.heap.size=w.heap.size
 still:∀b,¬S b->w'.heap[b]? =w.heap[b]?
 ok:∀s:Nat->Prop,au.kD (au.vH s) w->au.kD (au.vH s) w'
def o5.refl(S:aO)(w:ay):o5 S w w:=⟨rfl,rfl,rfl,rfl,fun _ _=>rfl,fun _ h=>h⟩
variable{w':ay}{B lb bm n pb po:Nat}{v:aA}{s:aJ}
def o5.set(h:o5 S w w')(hb:S b)(o:Nat)(u:aA)(hu:X8 u=true:=by rfl):o5 S w (aX w' ⟨b,o,af⟩ u):=⟨h.tape,h.os,h.output,by simpa using h.size,fun x hx=>(aFg w' ⟨b,o,af⟩ u x fun e=>hx<|e▸hb).t<|h.still x hx,fun B hw=>(h.ok B hw).setCell<|aix hu⟩
def o5.og{es:Array Event}(h:o5 S w w')(eX:∀e∈es,nD S E e):jC S E w w' es:=⟨h.tape,h.os,h.output,CQ h.size.s,fun b _ hb=>h.still b hb,fun e he=>by rw[tY<|CQ h.size];exact eX e he,fun B _ _ hw=>h.ok B hw⟩
def o5.z{T:aO}(h:o5 S w w')(hT:∀b,S b->T b):o5 T w w':=⟨h.tape,h.os,h.output,h.size,fun b hb=>h.still b fun x=>hb<|hT b x,h.ok⟩
def o5.grow{T:aO}(h:o5 S w w'):grow T w w'=T:=tY<|CQ h.size
def fE.free(h:fE S w b cs t)(o:Nat):w.frozen? ⟨b,o,af⟩=false:=kK h.2 o
def atm(h:iO S w B lb bm n v s)(hS:∀b,S b->b<w.heap.size)(uh:E.rd pb)(c1:aB w ⟨pb,po+1,af⟩=ae (.bool true))(m:Ms):
 sN prog false E 141 #[az<|ae ⟨pb,po,af⟩,iF #[ag ah m.k,ag ah m.q,ag ah m.p,ag ah m.t,.bool m.c]] S w fun y S' w'=>y=aN af 0 0/\iO S' w' B lb bm n v s/\kP S E w S' w':=by
 intro b₀ a₀ ops i rest k cs Stop fn c' hf hc Fj;obtain rfl:fn=Tryz.f141:=by rw[func141]at hf;exact(rP hf).s
 obtain rfl:c'=(Tryz.f141.body.getD .skip):=by rw[hc];rfl
 simp only[Tryz.f141,ik];walk_nrm;refine aC.sq ?_;refine aC.reg [0,1] rfl ?_;refine aC.kQ rfl rfl (by decide) fun w1 aT=>?_;refine⟨az<|ae ⟨w1.heap.size,0,af⟩,w1.alloc<|aG #[ag ah m.k,ag ah m.q,ag ah m.p,ag ah m.t,.bool m.c] 119,.inl<|by go_simp,xC (by simp[go_sem])<|vJ _,?_⟩;have h2:=(h.bg aT).alloc<|aG #[ag ah m.k,ag ah m.q,ag ah m.p,ag ah m.t,.bool m.c] 119;have ZR:=IG (yH hS aT)<|aG #[ag ah m.k,ag ah m.q,ag ah m.p,ag ah m.t,.bool m.c] 119;have Cm:=(TV aT).og<|vJ (E:=E)<|aG #[ag ah m.k,ag ah m.q,ag ah m.p,ag ah m.t,.bool m.c] 119;have Q9:=fE.new S w1 #[ag ah m.k,ag ah m.q,ag ah m.p,ag ah m.t,.bool m.c] 119;have d1:=oh c1 uh aT;have d1:(w1.alloc<|aG #[ag ah m.k,ag ah m.q,ag ah m.p,ag ah m.t,.bool m.c] 119).cell? ⟨pb,po+1,af⟩=ae (.bool true):=(aFf<|aFe w1 _ _<|oJ d1).t d1;generalize grow S w1 (w1.alloc<|aG #[ag ah m.k,ag ah m.q,ag ah m.p,ag ah m.t,.bool m.c] 119)=S2 at*
 generalize w1.alloc (aG #[ag ah m.k,ag ah m.q,ag ah m.p,ag ah m.t,.bool m.c] 119)=w2 at*
 generalize ajf:w1.heap.size=mb at*
 walk_nrm;refine aC.mu rfl rfl ?_;walk_nrm;refine aC.gK ?_;refine aC.sq ?_;refine aC.sq ?_;refine aC.reg [0,1,2,3] rfl ?_;refine aC.mu rfl rfl ?_;walk_nrm;refine aC.mu rfl rfl ?_;walk_nrm;refine aC.mu rfl rfl ?_;walk_nrm;have e1:∀w3,bu S2 E w2 w3->aB w3 ⟨pb,po+1,af⟩=ae (.bool true):=fun w3 hk=>oh d1 uh hk;refine aC.val (.bool true) rfl rfl (by decide) (fun w3 lC=>by have hc:=e1 w3 lC;go_simp) (fun w3 lC e he=>?_) ?_
 ·have hc:=e1 w3 lC;simp[go_sem,hc]at he;subst he;exact .inr ⟨uh,rfl⟩
 walk_nrm;refine aC.gK ?_;refine aC.ctl rfl (fun _=>aFp (t:=true)<|by rfl) ?_;refine aC.sq ?_;refine aC.reg [0] rfl ?_;refine aC.mu rfl rfl ?_;walk_nrm;refine aC.gK ?_;refine aC.ctl rfl (fun _=>aFu) ?_;refine aC.leave1 rfl rfl func141 rfl ?_;walk_nrm;exact Fj _ _ _ ⟨rfl,h2,Cm⟩
def atn(h:iO S w B lb bm n v s)(hS:∀b,S b->b<w.heap.size)(uh:E.rd pb)(hpS:¬S pb)(c0:aB w ⟨pb,po,af⟩=ae (ptr lb))(c1:aB w ⟨pb,po+1,af⟩=ae (.bool false))(m:Ms)
 (hp:(Lit.int .i64 m.p).wf=true)(hn:n<eP)(hb:(s.es.length+1)*40<=140737488355328):
 sN prog false E 141 #[az<|ae ⟨pb,po,af⟩,iF #[ag ah m.k,ag ah m.q,ag ah m.p,ag ah m.t,.bool m.c]] S w fun y S' w'=>∃b v',y=aN (ae ⟨b,0,af⟩) 1 1/\fE S' w' b m.lJ.cs.toArray 119/\w.heap.size<=b/\iO S' w' B lb bm (n+1) v' (s.closed m.p m.t m.c)/\kP S E w S' w':=by
 intro b₀ a₀ ops i rest k cs Stop fn c' hf hc Fj;obtain rfl:fn=Tryz.f141:=by rw[func141]at hf;exact(rP hf).s
 obtain rfl:c'=(Tryz.f141.body.getD .skip):=by rw[hc];rfl
 simp only[Tryz.f141,ik];walk_nrm;refine aC.sq ?_;refine aC.reg [0,1] rfl ?_;refine aC.kQ rfl rfl (by decide) fun w1 aT=>?_;refine⟨az<|ae ⟨w1.heap.size,0,af⟩,w1.alloc<|aG #[ag ah m.k,ag ah m.q,ag ah m.p,ag ah m.t,.bool m.c] 119,.inl<|by go_simp,xC (by simp[go_sem])<|vJ _,?_⟩;have h2:=(h.bg aT).alloc<|aG #[ag ah m.k,ag ah m.q,ag ah m.p,ag ah m.t,.bool m.c] 119;have ZR:=IG (yH hS aT)<|aG #[ag ah m.k,ag ah m.q,ag ah m.p,ag ah m.t,.bool m.c] 119;have Cm:=(TV aT).og<|vJ (E:=E)<|aG #[ag ah m.k,ag ah m.q,ag ah m.p,ag ah m.t,.bool m.c] 119;have Q9:=fE.new S w1 #[ag ah m.k,ag ah m.q,ag ah m.p,ag ah m.t,.bool m.c] 119;have d1:=oh c1 uh aT;have d1:(w1.alloc<|aG #[ag ah m.k,ag ah m.q,ag ah m.p,ag ah m.t,.bool m.c] 119).cell? ⟨pb,po+1,af⟩=ae (.bool false):=(aFf<|aFe w1 _ _<|oJ d1).t d1;have wX:=aT.size;have d0:=oh c0 uh aT;have d0:(w1.alloc<|aG #[ag ah m.k,ag ah m.q,ag ah m.p,ag ah m.t,.bool m.c] 119).cell? ⟨pb,po,af⟩=ae (ptr lb):=(aFf<|aFe w1 _ _<|oJ d0).t d0;generalize grow S w1 (w1.alloc<|aG #[ag ah m.k,ag ah m.q,ag ah m.p,ag ah m.t,.bool m.c] 119)=S2 at*
 generalize w1.alloc (aG #[ag ah m.k,ag ah m.q,ag ah m.p,ag ah m.t,.bool m.c] 119)=w2 at*
 generalize ajf:w1.heap.size=mb at*
 walk_nrm;refine aC.mu rfl rfl ?_;walk_nrm;refine aC.gK ?_;refine aC.sq ?_;refine aC.sq ?_;refine aC.reg [0,1,2,3] rfl ?_;refine aC.mu rfl rfl ?_;walk_nrm;refine aC.mu rfl rfl ?_;walk_nrm;refine aC.mu rfl rfl ?_;walk_nrm;have e1:∀w3,bu S2 E w2 w3->aB w3 ⟨pb,po+1,af⟩=ae (.bool false):=fun w3 hk=>oh d1 uh hk;refine aC.val (.bool false) rfl rfl (by decide) (fun w3 lC=>by have hc:=e1 w3 lC;go_simp) (fun w3 lC e he=>?_) ?_
 ·have hc:=e1 w3 lC;simp[go_sem,hc]at he;subst he;exact .inr ⟨uh,rfl⟩
 walk_nrm;refine aC.gK ?_;refine aC.ctl rfl (fun _=>aFp (t:=false)<|by rfl) ?_;refine aC.ctl rfl (fun _=>aFr) ?_;refine aC.sq ?_;refine aC.drawn (X:=Yi) (I:=fun S' w'=>fE S' w' mb #[ag ah m.k,ag ah m.q,ag ah m.p,ag ah m.t,.bool m.c] 119/\aB w' ⟨pb,po,af⟩=ae (ptr lb)) (Q:=fun a S' w'=>a=⟨#[az<|ae ⟨pb,po,af⟩,iF #[ag ah m.k,ag ah m.q,ag ah m.p,ag ah m.t,.bool m.c],ai,az<|ae ⟨mb,0,af⟩,aN af 0 0,ai,az<|ae ⟨pb,po,af⟩,az<|ae ⟨pb,po,af⟩,az<|ae ⟨pb,po+1,af⟩,.bool false,az<|ae ⟨pb,po,af⟩,az<|ae ⟨pb,po,af⟩,az<|ae ⟨pb,po,af⟩,ptr lb,az<|ae ⟨mb,2,af⟩,ag ah m.p,az<|ae ⟨mb,3,af⟩,ag ah m.t,az<|ae ⟨mb,4,af⟩,.bool m.c,.bool<|s.isOpen m.p m.t,ai,ai,ai,ai],[]⟩/\fE S' w' mb #[ag ah m.k,ag ah m.q,ag ah m.p,ag ah m.t,.bool m.c] 119/\∃v',iO S' w' B lb bm (n+1) v' (s.closed m.p m.t m.c)/\kP S E w S' w') rfl (by decide) (by kernel_rfl) ?_ (fun _ _ _ _ h=>h.e) ?_
 ·rintro a S' w' ⟨rfl,hX,v',hM,hB⟩;refine aC.sq ?_;refine aC.reg [0,1,2] rfl ?_;refine aC.val (iF #[ag ah m.k,ag ah m.q,ag ah m.p,ag ah m.t,.bool m.c]) rfl rfl (by decide) (fun w3 lC=>?_) (fun w3 lC e he=>?_) ?_
  ·have kV:=hX.bg lC;have g0:=kV.cell (o:=0) rfl;have g1:=kV.cell (o:=1) rfl;have g2:=kV.cell (o:=2) rfl;have g3:=kV.cell (o:=3) rfl;have g4:=kV.cell (o:=4) rfl;go_simp
  ·have kV:=hX.bg lC;have g0:=kV.cell (o:=0) rfl;have g1:=kV.cell (o:=1) rfl;have g2:=kV.cell (o:=2) rfl;have g3:=kV.cell (o:=3) rfl;have g4:=kV.cell (o:=4) rfl;simp[go_sem,g0,g1,g2,g3,g4]at he;rcases he with rfl|rfl|rfl|rfl|rfl<;>exact .inl kV.1
  walk_nrm;refine aC.kQ rfl rfl (by decide) fun w3 lC=>?_;refine⟨az<|ae ⟨w3.heap.size,0,af⟩,w3.alloc<|aG #[ag ah 0,ag ah 0,ag ah 0,ag ah 0,.bool false] 119,.inl<|by go_simp,xC (by simp[go_sem])<|vJ _,?_⟩;have F8:=(hX.bg lC).alloc<|aG #[ag ah 0,ag ah 0,ag ah 0,ag ah 0,.bool false] 119;have PZ:=(hM.bg lC).alloc<|aG #[ag ah 0,ag ah 0,ag ah 0,ag ah 0,.bool false] 119;have Bd:=(hB.bg lC).og<|vJ (E:=E)<|aG #[ag ah 0,ag ah 0,ag ah 0,ag ah 0,.bool false] 119;have Ug:=fE.new S' w3 #[ag ah 0,ag ah 0,ag ah 0,ag ah 0,.bool false] 119;have ET:w.heap.size<=w3.heap.size:=fG hB.size lC.size;have NS:∀b,(b=lb\/b=bm\/bY v'=ae b)->b≠w3.heap.size:=fun b hb=>aaL<|(hM.bg lC).log.uz hb;generalize grow S' w3 (w3.alloc<|aG #[ag ah 0,ag ah 0,ag ah 0,ag ah 0,.bool false] 119)=S4 at*
  generalize w3.alloc (aG #[ag ah 0,ag ah 0,ag ah 0,ag ah 0,.bool false] 119)=w4 at*
  generalize w3.heap.size=ab at*
  walk_nrm;refine aC.kQ rfl rfl (by decide) fun w5 Ox=>?_;have tZ:=Ug.bg Ox;have Dp:=PZ.bg Ox;have qQ:=Bd.bg Ox;have q0:=tZ.cell (o:=0) rfl;have q1:=tZ.cell (o:=1) rfl;have q2:=tZ.cell (o:=2) rfl;have q3:=tZ.cell (o:=3) rfl;have q4:=tZ.cell (o:=4) rfl;have r0:=tZ.free 0;have r1:=tZ.free 1;have r2:=tZ.free 2;have r3:=tZ.free 3;have r4:=tZ.free 4;have qR:o5 S4 w5 (((((aX w5 ⟨ab,0,af⟩<|.int .i64 m.k).setCell ⟨ab,1,af⟩<|.int .i64 m.q).setCell ⟨ab,2,af⟩<|.int .i64 m.p).setCell ⟨ab,3,af⟩<|.int .i64 m.t).setCell ⟨ab,4,af⟩<|.bool m.c):=(((((o5.refl S4 w5).set tZ.1 0 _).set tZ.1 1 _).set tZ.1 2 _).set tZ.1 3 _).set tZ.1 4 _;have hG6:∀es:Array Event,(∀e∈es,nD S4 E e)->jC S4 E w5 (((((aX w5 ⟨ab,0,af⟩<|.int .i64 m.k).setCell ⟨ab,1,af⟩<|.int .i64 m.q).setCell ⟨ab,2,af⟩<|.int .i64 m.p).setCell ⟨ab,3,af⟩<|.int .i64 m.t).setCell ⟨ab,4,af⟩<|.bool m.c) es:=fun _=>qR.og;have oZ:iO S4 (((((aX w5 ⟨ab,0,af⟩<|.int .i64 m.k).setCell ⟨ab,1,af⟩<|.int .i64 m.q).setCell ⟨ab,2,af⟩<|.int .i64 m.p).setCell ⟨ab,3,af⟩<|.int .i64 m.t).setCell ⟨ab,4,af⟩<|.bool m.c) B lb bm (n+1) v' (s.closed m.p m.t m.c):=qR.grow (T:=S4)▸Dp.og (fun b hb=>(((((o5.refl (fun x=>x=ab) w5).set rfl 0 _).set rfl 1 _).set rfl 2 _).set rfl 3 _).set rfl 4 _ |>.still b (NS b hb)) (hG6 #[]<|by simp);have xE:=((((tZ.set 0<|.int .i64 m.k).set 1<|.int .i64 m.q).set 2<|.int .i64 m.p).set 3<|.int .i64 m.t).set 4<|.bool m.c;have Yk:=qQ.og (hG6 #[]<|by simp);rw[qR.grow]at Yk;refine⟨ai,((((aX w5 ⟨ab,0,af⟩<|.int .i64 m.k).setCell ⟨ab,1,af⟩<|.int .i64 m.q).setCell ⟨ab,2,af⟩<|.int .i64 m.p).setCell ⟨ab,3,af⟩<|.int .i64 m.t).setCell ⟨ab,4,af⟩<|.bool m.c,.inr ⟨rfl,by go_simp⟩,hG6 _ fun e he=>?_,?_⟩
  ·simp[go_sem,ac5,storedEv,q0,q1,q2,q3,q4,r0,r1,r2,r3,r4]at he;rcases he with rfl|rfl|rfl|rfl|rfl<;>exact .inl tZ.1
  rw[qR.grow];change fE S4 (((((aX w5 ⟨ab,0,af⟩<|.int .i64 m.k).setCell ⟨ab,1,af⟩<|.int .i64 m.q).setCell ⟨ab,2,af⟩<|.int .i64 m.p).setCell ⟨ab,3,af⟩<|.int .i64 m.t).setCell ⟨ab,4,af⟩<|.bool m.c) ab #[ag ah m.k,ag ah m.q,ag ah m.p,ag ah m.t,.bool m.c] 119 at xE;generalize((((aX w5 ⟨ab,0,af⟩<|.int .i64 m.k).setCell ⟨ab,1,af⟩<|.int .i64 m.q).setCell ⟨ab,2,af⟩<|.int .i64 m.p).setCell ⟨ab,3,af⟩<|.int .i64 m.t).setCell ⟨ab,4,af⟩ (.bool m.c)=w6 at*
  walk_nrm;refine aC.gK ?_;refine aC.sq ?_;refine aC.reg [0,1] rfl ?_;refine aC.mu rfl rfl ?_;walk_nrm;refine aC.kQ rfl rfl (by decide) fun w7 hk7=>?_;have Uh:=xE.bg hk7;have P8:=oZ.bg hk7;have Uc:=Yk.bg hk7;have q0:=Uh.cell (o:=0) (x:=.int .i64 m.k) rfl;have r0:=Uh.free 0;have IE:o5 S4 w7 (aX w7 ⟨ab,0,af⟩<|.int .i64 2):=(o5.refl S4 w7).set Uh.1 0 _;have Ue:∀es:Array Event,(∀e∈es,nD S4 E e)->jC S4 E w7 (aX w7 ⟨ab,0,af⟩<|.int .i64 2) es:=fun _=>IE.og;have hM8:iO S4 (aX w7 ⟨ab,0,af⟩<|.int .i64 2) B lb bm (n+1) v' (s.closed m.p m.t m.c):=IE.grow (T:=S4)▸P8.og (fun b hb=>((o5.refl (fun x=>x=ab) w7).set rfl 0 _).still b<|NS b hb) (Ue #[]<|by simp);have hY8:=Uh.set 0<|.int .i64 2;have Ud:=Uc.og (Ue #[]<|by simp);rw[IE.grow]at Ud;refine⟨ai,aX w7 ⟨ab,0,af⟩<|.int .i64 2,.inr ⟨rfl,by go_simp⟩,Ue _ fun e he=>?_,?_⟩
  ·simp[go_sem,storedEv,q0,r0]at he;subst he;exact .inl Uh.1
  rw[IE.grow];change fE S4 (aX w7 ⟨ab,0,af⟩<|.int .i64 2) ab #[ag ah 2,ag ah m.q,ag ah m.p,ag ah m.t,.bool m.c] 119 at hY8;generalize w7.setCell ⟨ab,0,af⟩ (.int .i64 2)=w8 at*
  walk_nrm;refine aC.gK ?_;refine aC.sq ?_;refine aC.reg [0,1,2] rfl ?_;refine aC.val (iF #[ag ah 2,ag ah m.q,ag ah m.p,ag ah m.t,.bool m.c]) rfl rfl (by decide) (fun w9 Oy=>?_) (fun w9 Oy e he=>?_) ?_
  ·have kV:=hY8.bg Oy;have g0:=kV.cell (o:=0) rfl;have g1:=kV.cell (o:=1) rfl;have g2:=kV.cell (o:=2) rfl;have g3:=kV.cell (o:=3) rfl;have g4:=kV.cell (o:=4) rfl;go_simp
  ·have kV:=hY8.bg Oy;have g0:=kV.cell (o:=0) rfl;have g1:=kV.cell (o:=1) rfl;have g2:=kV.cell (o:=2) rfl;have g3:=kV.cell (o:=3) rfl;have g4:=kV.cell (o:=4) rfl;simp[go_sem,g0,g1,g2,g3,g4]at he;rcases he with rfl|rfl|rfl|rfl|rfl<;>exact .inl kV.1
  walk_nrm;refine aC.kQ rfl rfl (by decide) fun w9 Oy=>?_;refine⟨aN (ae ⟨w9.heap.size,0,af⟩) 1 1,w9.alloc<|aG #[ag ah 2,ag ah m.q,ag ah m.p,ag ah m.t,.bool m.c] 119,.inl<|by go_simp,xC (by simp[go_sem])<|vJ _,?_⟩;have hZ:=fE.new S4 w9 #[ag ah 2,ag ah m.q,ag ah m.p,ag ah m.t,.bool m.c] 119;have hM9:=(hM8.bg Oy).alloc<|aG #[ag ah 2,ag ah m.q,ag ah m.p,ag ah m.t,.bool m.c] 119;have hB9:=(Ud.bg Oy).og<|vJ (E:=E)<|aG #[ag ah 2,ag ah m.q,ag ah m.p,ag ah m.t,.bool m.c] 119;have atr:w.heap.size<=w9.heap.size:=fG Ud.size Oy.size;walk_nrm;refine aC.mu rfl rfl ?_;walk_nrm;refine aC.gK ?_;refine aC.ctl rfl (fun _=>aFu) ?_;refine aC.leave1 rfl rfl func141 rfl ?_;walk_nrm;exact Fj _ _ _ ⟨_,v',rfl,hZ,atr,hM9,hB9⟩
 intro w3 lC;have hI:∀(S':aO) (x1 y1:ay),(fE S' x1 mb #[ag ah m.k,ag ah m.q,ag ah m.p,ag ah m.t,.bool m.c] 119/\x1.cell? ⟨pb,po,af⟩=ae (ptr lb))->bu S' E x1 y1->(fE S' y1 mb #[ag ah m.k,ag ah m.q,ag ah m.p,ag ah m.t,.bool m.c] 119/\y1.cell? ⟨pb,po,af⟩=ae (ptr lb)):=fun _ _ _ h1 h2=>⟨h1.1.bg h2,oh h1.2 uh h2⟩;have hQ:∀(a:Act) (S':aO) (x1 y1:ay),(a=⟨#[az<|ae ⟨pb,po,af⟩,iF #[ag ah m.k,ag ah m.q,ag ah m.p,ag ah m.t,.bool m.c],ai,az<|ae ⟨mb,0,af⟩,aN af 0 0,ai,az<|ae ⟨pb,po,af⟩,az<|ae ⟨pb,po,af⟩,az<|ae ⟨pb,po+1,af⟩,.bool false,az<|ae ⟨pb,po,af⟩,az<|ae ⟨pb,po,af⟩,az<|ae ⟨pb,po,af⟩,ptr lb,az<|ae ⟨mb,2,af⟩,ag ah m.p,az<|ae ⟨mb,3,af⟩,ag ah m.t,az<|ae ⟨mb,4,af⟩,.bool m.c,.bool<|s.isOpen m.p m.t,ai,ai,ai,ai],[]⟩/\fE S' x1 mb #[ag ah m.k,ag ah m.q,ag ah m.p,ag ah m.t,.bool m.c] 119/\∃v',iO S' x1 B lb bm (n+1) v' (s.closed m.p m.t m.c)/\kP S E w S' x1)->bu S' E x1 y1->(a=⟨#[az<|ae ⟨pb,po,af⟩,iF #[ag ah m.k,ag ah m.q,ag ah m.p,ag ah m.t,.bool m.c],ai,az<|ae ⟨mb,0,af⟩,aN af 0 0,ai,az<|ae ⟨pb,po,af⟩,az<|ae ⟨pb,po,af⟩,az<|ae ⟨pb,po+1,af⟩,.bool false,az<|ae ⟨pb,po,af⟩,az<|ae ⟨pb,po,af⟩,az<|ae ⟨pb,po,af⟩,ptr lb,az<|ae ⟨mb,2,af⟩,ag ah m.p,az<|ae ⟨mb,3,af⟩,ag ah m.t,az<|ae ⟨mb,4,af⟩,.bool m.c,.bool<|s.isOpen m.p m.t,ai,ai,ai,ai],[]⟩/\fE S' y1 mb #[ag ah m.k,ag ah m.q,ag ah m.p,ag ah m.t,.bool m.c] 119/\∃v',iO S' y1 B lb bm (n+1) v' (s.closed m.p m.t m.c)/\kP S E w S' y1):=fun _ _ _ _ h1 h2=>⟨h1.1,h1.2.1.bg h2,h1.2.2.choose,h1.2.2.choose_spec.1.bg h2,h1.2.2.choose_spec.2.bg h2⟩;have yO:=lC.t<|bu.at S2 E w3<|w3.drawn+1;have h4:=h2.bg yO;have F8:=Q9.bg yO;have Bd:=Cm.bg yO;have Vw:=yH ZR yO;have d4:=oh d0 uh yO;change rE _ _ _ _ _ _ _ _ _ _ _ _ _ (w3.at<|w3.drawn+1);generalize w3.at (w3.drawn+1)=w4 at h4 F8 Bd Vw d4⊢
 have qL:fE S2 w4 mb #[ag ah m.k,ag ah m.q,ag ah m.p,ag ah m.t,.bool m.c] 119/\aB w4 ⟨pb,po,af⟩=ae (ptr lb):=⟨F8,d4⟩;simp only[Fv,oH,wu,Nat.reduceAdd,D9];refine qy hI hQ wJ (i:=0) rfl (by kernel_rfl) (by kernel_rfl) (by kernel_rfl) (by kernel_rfl) (v:=_) ⟨rfl,fun S' w' hi=>⟨by go_simp<;>rfl,fun e he=>?_⟩⟩ qL ?_
 ·have hm:=aFh he;simp[go_sem]at hm
 walk_nrm;refine qy hI hQ wJ (i:=1) rfl (by kernel_rfl) (by kernel_rfl) (by kernel_rfl) (by kernel_rfl) (v:=_) ⟨rfl,fun S' w' hi=>⟨by go_simp<;>rfl,fun e he=>?_⟩⟩ qL ?_
 ·have hm:=aFh he;simp[go_sem]at hm
 walk_nrm;refine qy hI hQ wJ (i:=2) rfl (by kernel_rfl) (by kernel_rfl) (by kernel_rfl) (by kernel_rfl) (v:=_) ⟨rfl,fun S' w' hi=>⟨by go_simp<;>rfl,fun e he=>?_⟩⟩ qL ?_
 ·have hm:=aFh he;simp[go_sem]at hm
 walk_nrm;refine qy hI hQ wJ (i:=3) rfl (by kernel_rfl) (by kernel_rfl) (by kernel_rfl) (by kernel_rfl) (v:=ptr lb) ⟨rfl,fun S' w' hi=>⟨?_,fun e he=>?_⟩⟩ qL ?_
 ·have hc:=hi.2;go_simp
 ·have hc:=hi.2;have hm:=aFh he;simp[go_sem,hc]at hm;subst hm;exact .inr ⟨uh,rfl⟩
 walk_nrm;refine qy hI hQ wJ (i:=4) rfl (by kernel_rfl) (by kernel_rfl) (by kernel_rfl) (by kernel_rfl) (v:=_) ⟨rfl,fun S' w' hi=>⟨by go_simp<;>rfl,fun e he=>?_⟩⟩ qL ?_
 ·have hm:=aFh he;simp[go_sem]at hm
 walk_nrm;refine qy hI hQ wJ (i:=5) rfl (by kernel_rfl) (by kernel_rfl) (by kernel_rfl) (by kernel_rfl) (v:=(.int .i64 m.p)) ⟨rfl,fun S' w' hi=>⟨?_,fun e he=>?_⟩⟩ qL ?_
 ·have hc:=hi.1.cell (o:=2) rfl;go_simp
 ·have hc:=hi.1.cell (o:=2) rfl;have hm:=aFh he;simp[go_sem,hc]at hm;subst hm;exact .inl hi.1.1
 walk_nrm;refine qy hI hQ wJ (i:=6) rfl (by kernel_rfl) (by kernel_rfl) (by kernel_rfl) (by kernel_rfl) (v:=_) ⟨rfl,fun S' w' hi=>⟨by go_simp<;>rfl,fun e he=>?_⟩⟩ qL ?_
 ·have hm:=aFh he;simp[go_sem]at hm
 walk_nrm;refine qy hI hQ wJ (i:=7) rfl (by kernel_rfl) (by kernel_rfl) (by kernel_rfl) (by kernel_rfl) (v:=(.int .i64 m.t)) ⟨rfl,fun S' w' hi=>⟨?_,fun e he=>?_⟩⟩ qL ?_
 ·have hc:=hi.1.cell (o:=3) rfl;go_simp
 ·have hc:=hi.1.cell (o:=3) rfl;have hm:=aFh he;simp[go_sem,hc]at hm;subst hm;exact .inl hi.1.1
 walk_nrm;refine qy hI hQ wJ (i:=8) rfl (by kernel_rfl) (by kernel_rfl) (by kernel_rfl) (by kernel_rfl) (v:=_) ⟨rfl,fun S' w' hi=>⟨by go_simp<;>rfl,fun e he=>?_⟩⟩ qL ?_
 ·have hm:=aFh he;simp[go_sem]at hm
 walk_nrm;refine qy hI hQ wJ (i:=9) rfl (by kernel_rfl) (by kernel_rfl) (by kernel_rfl) (by kernel_rfl) (v:=(.bool m.c)) ⟨rfl,fun S' w' hi=>⟨?_,fun e he=>?_⟩⟩ qL ?_
 ·have hc:=hi.1.cell (o:=4) rfl;go_simp
 ·have hc:=hi.1.cell (o:=4) rfl;have hm:=aFh he;simp[go_sem,hc]at hm;subst hm;exact .inl hi.1.1
 walk_nrm;refine Yh (rs:=[10]) (by kernel_rfl) (by simp) fun i hi=>?_;obtain rfl:i=10:=by simpa using hi
 refine qx.call rfl rfl rfl func187 rfl rfl ?_;walk_nrm;refine(atl h4 Vw m.p m.t m.c hp hn hb).z ?_;rintro y S' w' ⟨rfl,⟨v',h5⟩,qQ,Yl⟩;have Cf:¬lT lb bm v mb:=fun hx=>absurd ((h.bg aT).lt mb hx) (by rw[ajf];exact OQ _);have TZ:fE S' w' mb #[ag ah m.k,ag ah m.q,ag ah m.p,ag ah m.t,.bool m.c] 119:=⟨qQ.own _ F8.1,by rw[Yl mb F8.1 Cf];exact F8.2⟩;have tq:¬S2 pb:=fun hx=>(Cm.new pb hx).e hpS fun hx=>by have:=oJ c0;have:=hx.1;simp only at*;omega
 have d5:=Ey d4 uh tq qQ;refine⟨fun _=>⟨TZ,d5⟩,ai9 (by kernel_rfl) ⟨?_,TZ,v',h5,Bd.t qQ⟩ _⟩;walk_nrm
end Twin
end
section
namespace Twin
open Go Go.Proofs Go.Conc Go.RowKit
section
variable{L:Type}{P:fJ}{main:Bool}{E:dL}{fn:ji}{ops:Array Oper}{md:Region.Mode}{I:aO->ay->Prop}{Q:L->Act->aO->ay->Prop}{Stop:aO->bM->ay->Prop}{Fin:L->aO->bM->ay->Prop}{c0:Nat}{X:L->Nat->Act->aO->ay->Prop}
def BG(P:fJ)(main:Bool)(E:dL)(Stop:aO->bM->ay->Prop)(Fin:L->aO->bM->ay->Prop)(f:ji)(args:Array aA)(S:aO)(w:ay)(nX:L->aA->aO->ay->Prop):Prop:=
 ∀(b₀:bH) (a₀:Act) (ops:Array Oper) (i:Nat) (rest:List Nat) (k:List Item) (cs:List bH) (fn:Func) (c:Code),P.funcs[f]? =ae fn->fn.body=ae c->
  (∀l v S' w',nX l v S' w'->aC P main E (Fin l) S' (G (b₀.at (a₀.put ((ops[i]?).bind (·.dst)) v)<|bW ops rest::k) cs) w')->
  aC P main E Stop S (G ((base f).at {tmps:=args++gz (fn.ntmps-args.size) ai,defers:=[]} [.code c])<|b₀.at a₀ (bW ops (i::rest)::k)::cs) w
variable{f:ji}{args:Array aA}{S:aO}{w:ay}{nX:L->aA->aO->ay->Prop}{b:bH}{k:List Item}{cs:List bH}{i fuel:Nat}{oi:Oper}{v:aA}{a:Act}
def BG.rely{w1:ay}(h:BG P main E Stop Fin f args S w nX)(hk:bu S E w w1):BG P main E Stop Fin f args S w1 nX:=
 fun b₀ a₀ ops i rest k cs fn c hf hb hn=>(h b₀ a₀ ops i rest k cs fn c hf hb hn).rely hk
def BG.z{VZ:L->aA->aO->ay->Prop}(h:BG P main E Stop Fin f args S w nX)(h':∀l v S w,nX l v S w->VZ l v S w):BG P main E Stop Fin f args S w VZ:=
 fun b₀ a₀ ops i rest k cs fn c hf hb hn=>h b₀ a₀ ops i rest k cs fn c hf hb fun l v S' w' hp=>hn l v S' w'<|h' l v S' w' hp
def OpB(P:fJ)(main:Bool)(E:dL)(Stop:aO->bM->ay->Prop)(Fin:L->aO->bM->ay->Prop)(ops:Array Oper)(i:Nat)(K:L->Act->aO->ay->Prop)(a:Act)(S:aO)(w:ay):Prop:=
 ∃o f args l7 mP c,ops[i]? =ae o/\Region.wanted o (yielded ops a.tmps)=true/\o.op=.call {callee:=.value<|.func f,args,argTypes:=l7}/\P.funcs[f]? =ae mP/\(mP.name== "runtime.NumGoroutine")=false/\mP.body=ae c/\BG P main E Stop Fin f (args.map a.eval) S w fun l v S' w'=>K l (a.put o.dst v) S' w'
def yI(P:fJ)(main:Bool)(E:dL)(Stop:aO->bM->ay->Prop)(Fin:L->aO->bM->ay->Prop)(fn:ji)(md:Region.Mode)(ops:Array Oper)(c0:Nat)(Q:L->Act->aO->ay->Prop)(I:aO->ay->Prop)(X:L->Nat->Act->aO->ay->Prop):Nat->Array Bool->Act->aO->ay->Prop
 |0,_,_,_,_=>False
 |fuel+1,listed,a,S,w=>Region.ready md ops listed≠[]/\∀i∈Region.ready md ops listed,if i=c0 then OpB P main E Stop Fin ops i (fun l a' S' w'=>I S' w'/\rE P main E fn md ops (Q l) I (X l) fuel (listed.setIfInBounds i true) a' S' w') a S w
   else qx P main E fn ops i (fun a' S' w'=>I S' w'/\yI P main E Stop Fin fn md ops c0 Q I X fuel (listed.setIfInBounds i true) a' S' w') a S w
def att(hb:b.fn=fn)(hk:b.kind≠.early)(hQ:∀l a S w,Q l a S w->aC P main E (Fin l) S (G (b.at a k) cs) w)(hX:∀l z a S w,X l z a S w->aC P main E (Fin l) S (G (b.at a<|bW ops [z]::k) cs) w):
 ∀(fuel t:Nat) (listed:Array Bool) (a:Act) (S:aO) (w:ay),yI P main E Stop Fin fn md ops c0 Q I X fuel listed a S w->aC P main E Stop S (G (b.at a<|bW ops (Region.linearise.go md ops fuel t listed [])::k) cs) w:=by
 intro fuel;induction fuel with
 |zero=>intro t listed a S w h;exact h.e
 |succ fuel ih=>
  intro t listed a S w h;obtain⟨h₀,h₁⟩:=h;simp only[Region.linearise.go];change aC P main E Stop S (G (b.at a<|bW ops (match(Region.ready md ops listed)[t%(Region.ready md ops listed).length]? with
   |some i=>Region.linearise.go md ops fuel (t/(Region.ready md ops listed).length) (listed.setIfInBounds i true) [i]
   |none=>[].reverse)::k) cs) w
  cases hi:(Region.ready md ops listed)[t%(Region.ready md ops listed).length]? with
  |none=>
   exfalso;cases hr:Region.ready md ops listed with
   |nil=>exact h₀ hr
   |cons x xs=>
    rw[hr]at hi;have aK:t%(x::xs).length<(x::xs).length:=Nat.mod_lt _ (by simp);simp at hi;simp at aK;omega
  |some i=>
   simp only[];rw[linearise_go_acc,List.reverse_singleton,anE];have h2:=h₁ i<|gZ hi;split at h2
   ·obtain⟨o,f,args,l7,mP,c,e1,e2,e3,e4,e5,e6,e7⟩:=h2;refine .call e1 e2 hk e3 e4 e5 e6<|e7 b a ops i _ k cs mP c e4 e6 fun l v S' w' hp=>?_;rw[e1];exact ai6 hb hk (hQ l) (hX l) fuel _ _ _ S' w' hp.2
   ·exact ai3 hb hk<|Yf (fun a' S' w' x=>ih _ _ a' S' w' x.2) h2
def yI.rely(hI:∀S x y,I S x->bu S E x y->I S y):∀(fuel:Nat) (listed:Array Bool) (a:Act) (S:aO) (w w₁:ay),yI P main E Stop Fin fn md ops c0 Q I X fuel listed a S w->bu S E w w₁->yI P main E Stop Fin fn md ops c0 Q I X fuel listed a S w₁
 |0,_,_,_,_,_,h,_=>h.e
 |fuel+1,listed,a,S,w,w₁,h,r=>⟨h.1,fun i hi=>by
   have:=h.2 i hi;split
   ·rename_i hc;rw[if_pos hc]at this;obtain⟨o,f,args,l7,mP,c,e1,e2,e3,e4,e5,e6,e7⟩:=this;exact⟨o,f,args,l7,mP,c,e1,e2,e3,e4,e5,e6,e7.rely r⟩
   ·rename_i hc;rw[if_neg hc]at this;unfold qx at*
    split
    ·simp_all
    ·rename_i o ho;simp only[ho]at this;split
     ·rename_i hw;simp only[hw,if_true]at this;rcases this with this|⟨f,args,l7,mP,c,h1,h2,h3,h4,h5⟩
      ·exact .inl fun w₂ h₂=>this w₂<|r.t h₂
      ·exact .inr ⟨f,args,l7,mP,c,h1,h2,h3,h4,sN.rely h5 r⟩
     ·rename_i hw;simp only[hw]at this;exact⟨hI _ _ _ this.1 r,yI.rely hI fuel _ _ _ _ _ this.2 r⟩⟩
def atu(hI:∀S x y,I S x->bu S E x y->I S y)(hQ:∀l a S x y,Q l a S x->bu S E x y->Q l a S y)(hX:∀l z a S x y,X l z a S x->bu S E x y->X l z a S y)(hi:ops[i]? =ae oi)(ZZ:i≠c0)(Ov:∀(j:Nat) (o:Oper) cs b,ops[j]? =ae o->o.op≠.select cs b):
 ∀(fuel:Nat) (listed:Array Bool) (a:Act) (S:aO) (w:ay),Closed md ops listed->(∀j oj,ops[j]? =ae oj->j≠i->listed.getD j true=false->(∀e∈oj.after,Region.binds md e=true->e.on≠i)->oi.apart ops oj=true)->
  i∈Region.ready md ops listed->zl P E fn ops I oi v a->I S w->yI P main E Stop Fin fn md ops c0 Q I X fuel (listed.setIfInBounds i true) (a.put oi.dst v) S w->yI P main E Stop Fin fn md ops c0 Q I X (fuel+1) listed a S w:=by
 have hK:∀fuel listed,∀a S x y,(I S x/\yI P main E Stop Fin fn md ops c0 Q I X fuel listed a S x)->bu S E x y->(I S y/\yI P main E Stop Fin fn md ops c0 Q I X fuel listed a S y):=
  fun fuel listed a S x y h r=>⟨hI _ _ _ h.1 r,yI.rely hI fuel listed a S x y h.2 r⟩
 intro fuel
 induction fuel with
 |zero=>intro listed a S w _ _ hr hy hS H;exact H.e
 |succ fuel ih=>
  intro listed a S w oz Cj hr hy hS H
  refine⟨fun h=>(by rw[h]at hr;cases hr),fun j hj=>?_⟩
  by_cases mM:j=i
  ·subst mM
   rw[if_neg ZZ]
   exact hy.opR hI hi (hK _ _) hS ⟨hS,H⟩
  ·have h1:=H.2 j (aF5 hj mM)
   obtain⟨VX,oj,Jm,jR⟩:=aGo.1 hj
   have afi:∀e∈oj.after,Region.binds md e=true->e.on≠i:=fun e he hb heq=>by
    have h1:=jR e he hb;have h0:=(aGo.1 hr).1;rw[heq]at h1;rcases FB i listed.size with h'|h'
    ·simp[h']at h0 h1;rw[h0]at h1;cases h1
    ·simp[afM h']at h1
   have DK:=Cj j oj Jm mM VX afi
   have aam:∀k ok,ops[k]? =ae ok->k≠i->(listed.setIfInBounds j true).getD k true=false->(∀e∈ok.after,Region.binds md e=true->e.on≠i)->oi.apart ops ok=true:=fun k ok hk zH G5 oL=>by
    refine Cj k ok hk zH ?_ oL;by_cases NY:j=k
    ·subst NY;exact VX
    ·rw[getD_set_ne true NY]at G5;exact G5
   by_cases ZP:j=c0
   ·rw[if_pos ZP]at h1⊢
    obtain⟨o,f,args,l7,mP,c,e1,e2,e3,e4,e5,e6,e7⟩:=h1
    obtain rfl:oj=o:=by rw[Jm]at e1;exact rP e1
    obtain⟨g1,g2,g3⟩:=Oper.apart_spec DK
    have bg:∀u,zl P E fn ops I oi v (a.put oj.dst u):=fun u=>hy.of_same (execOp_put oi (fun cs b=>Ov i oi cs b hi) a oj.dst u g3)<|aGE oi a oj.dst u g3
    have ea:args.map (a.put oi.dst v).eval=args.map a.eval:=anJ fun x hx=>Act.eval_put fun d hd hxd=>g1 d hd (by
     subst hxd;exact CJ _<|List.mem_filterMap.2 ⟨.tmp d,by rw[e3];simp[Op.operands,Call.operands,hx],rfl⟩)
    rw[ea]at e7
    rw[aGE oj a oi.dst v g1]at e2
    refine⟨oj,f,args,l7,mP,c,Jm,e2,e3,e4,e5,e6,e7.z fun l u S' w' hp=>⟨hp.1,?_⟩⟩
    have rO:=hp.2
    rw[aGh a v u g2,afJ _ _<|Ne.s mM]at rO
    exact ai8 hI (hQ l) (hX l) hi Ov fuel _ _ _ _ (oz.set hj) aam (aF5 hr<|Ne.s mM) (bg u) hp.1 rO
   ·rw[if_neg ZP]at h1⊢
    have h2:=ai7 Jm DK (fun cs b=>Ov i oi cs b hi) (fun cs b=>Ov j oj cs b Jm) hy h1
    refine Yf (fun a' S' w' h3=>⟨h3.2.1,ih (listed.setIfInBounds j true) a' S' w' (oz.set hj) aam (aF5 hr<|Ne.s mM) h3.1 h3.2.1 ?_⟩) h2
    rw[afJ _ _ mM]
    exact h3.2.2
def F9(hI:∀S x y,I S x->bu S E x y->I S y)(hQ:∀l a S x y,Q l a S x->bu S E x y->Q l a S y)(hX:∀l z a S x y,X l z a S x->bu S E x y->X l z a S y){listed:Array Bool}(hi:ops[i]? =ae oi)(ZZ:i≠c0)
 (hs:Region.noSelect ops=true)(oz:acX md ops listed=true)(hf:Region.free md ops listed i=true)(hr:(Region.ready md ops listed).contains i=true)(hy:zl P E fn ops I oi v a)(hS:I S w)(h:yI P main E Stop Fin fn md ops c0 Q I X fuel (listed.setIfInBounds i true) (a.put oi.dst v) S w):yI P main E Stop Fin fn md ops c0 Q I X (fuel+1) listed a S w:=
 atu hI hQ hX hi ZZ (aGF hs) fuel listed a S w (ai5 oz) (Region.free_spec hi hf) (by simpa using hr) hy hS h
def atv{listed:Array Bool}(hr:Region.ready md ops listed=[c0])(h:OpB P main E Stop Fin ops c0 (fun l a' S' w'=>I S' w'/\rE P main E fn md ops (Q l) I (X l) fuel (listed.setIfInBounds c0 true) a' S' w') a S w):yI P main E Stop Fin fn md ops c0 Q I X (fuel+1) listed a S w:=
 ⟨by rw[hr];simp,fun i hi=>by
  rw[hr]at hi;simp at hi;subst hi;rw[if_pos rfl];exact h⟩
def aC.atw{id:Nat}(hb:b.fn=fn)(hk:b.kind≠.early)(hm:P.follows .mixedOrders=true)(hQ:∀l a S w,Q l a S w->aC P main E (Fin l) S (G (b.at a k) cs) w)(hX:∀l z a S w,X l z a S w->aC P main E (Fin l) S (G (b.at a<|bW ops [z]::k) cs) w)
 (h:∀w₁,bu S E w w₁->yI P main E Stop Fin fn .any ops c0 Q I X ops.size (gz ops.size false) a S {w₁ with drawn:=w₁.drawn+1}):aC P main E Stop S (G (b.at a<|.code (.region id ops true)::k) cs) w:=by
 refine .step1 rfl fun w₁ h₁=>⟨_,_,_,stepG_region_draw,⟨rfl,rfl,rfl,dI _,fun _ _ _=>rfl,by simp,fun _ _ _ h=>h⟩,?_⟩;rw[tY (w:=w₁) (w':={w₁ with drawn:=w₁.drawn+1})<|dI _];simp only[Region.schedule,hm,Bool.true_or,if_true];exact att hb hk hQ hX ops.size _ _ a S _<|h w₁ h₁
end
end Twin
end
section
namespace Twin
open Go Go.Proofs Go.Conc Go.RowKit Go.Maps fU
def Gf(P:fJ)(E:dL)(c ov:Nat)(Fin:List aA->aO->bM->ay->Prop):List aA->List aA->aO->bM->ay->Prop
 |[],l=>fun S g w=>∃z0 z1 sh,g.status=.running/\(∀w1,bu S E w w1->bK P false g w1=.comm g #[rcase c z0,rcase ov z1] true sh w1 #[])/\aC P false E (Fin l) S (g.finishComm P #[rcase c z0,rcase ov z1] sh 1 z1 false) w
 |v::r,l=>fun S g w=>∃z0 z1 sh,g.status=.running/\(∀w1,bu S E w w1->bK P false g w1=.comm g #[rcase c z0,rcase ov z1] true sh w1 #[])/\aC P false E (Gf P E c ov Fin r<|l++[v]) S (g.finishComm P #[rcase c z0,rcase ov z1] sh 0 v true) w/\
   aC P false E (Fin l) S (g.finishComm P #[rcase c z0,rcase ov z1] sh 1 z1 false) w
variable{S:aO}{w:ay}{E:dL}{B lb bm n pb po:Nat}{v:aA}{s:aJ}
def atx{K:Type}{X:bV K}{k:K}{Fin:List aA->aO->bM->ay->Prop}(hS:∀l S g w,X.Iq k l S g w↔∃r,l++r=X.yE k/\Gf X.P (X.side k) (X.ch k) X.ov Fin r l S g w)(hF:X.Fin k=Fin){l:List aA}{g:bM}(h:X.Iq k l S g w):∃z0 z1 sh,X.tV k l S g z0 z1 sh w:=by
 obtain⟨r,hr,h⟩:=(hS _ _ _ _).1 h;subst hF;cases r with
 |nil=>
  obtain⟨z0,z1,sh,h1,h2,h3⟩:=h;refine⟨z0,z1,sh,h1,h2,fun v r' hv=>?_,h3⟩;rw[<-hr]at hv;simp at hv
 |cons u r=>
  obtain⟨z0,z1,sh,h1,h2,h3,h4⟩:=h;refine⟨z0,z1,sh,h1,h2,fun v r' hv=>?_,h4⟩;rw[<-hr]at hv;simp at hv;obtain⟨rfl,rfl⟩:=hv;exact h3.z fun S' g' w' hs=>(hS _ _ _ _).2 ⟨r',by simpa using hr,hs⟩
def kX(m:Ms):Value:=iF #[ag ah m.k,ag ah m.q,ag ah m.p,ag ah m.t,.bool m.c]
def aty(h:iO S w B lb bm n v s)(hS:∀b,S b->b<w.heap.size)(uh:E.rd pb)(c1:aB w ⟨pb,po+1,af⟩=ae (.bool true))(m:Ms):
 sN prog false E 141 #[az<|ae ⟨pb,po,af⟩,kX m] S w fun y S' w'=>y=aN af 0 0/\iO S' w' B lb bm n v s/\kP S E w S' w'/\∀b,S b->¬lT lb bm v b->w'.heap[b]? =w.heap[b]? :=by
 refine((atm h.own h.lt uh c1 m).frame ?_ h.sub hS).z ?_
 ·rintro y S' x1 y1 ⟨rfl,h1,h2⟩ hk;exact⟨rfl,h1.bg hk,h2.bg hk⟩
 ·rintro y S' w' ⟨S0,⟨rfl,h1,h2⟩,h3,h4,h5⟩;exact⟨rfl,h1.z h3,h2.wide h.sub h3 h4 fun b x y=>(h5 b x y).1,fun b x y=>(h5 b x y).2⟩
def atz(h:iO S w B lb bm n v s)(hS:∀b,S b->b<w.heap.size)(uh:E.rd pb)(hpS:¬S pb)(c0:aB w ⟨pb,po,af⟩=ae (ptr lb))(c1:aB w ⟨pb,po+1,af⟩=ae (.bool false))(m:Ms)
 (hp:(Lit.int .i64 m.p).wf=true)(hn:n<eP)(hb:(s.es.length+1)*40<=140737488355328):
 sN prog false E 141 #[az<|ae ⟨pb,po,af⟩,kX m] S w fun y S' w'=>∃b v',y=aN (ae ⟨b,0,af⟩) 1 1/\fE S' w' b m.lJ.cs.toArray 119/\w.heap.size<=b/\iO S' w' B lb bm (n+1) v' (s.closed m.p m.t m.c)/\kP S E w S' w'/\(∀b,S b->¬lT lb bm v b->w'.heap[b]? =w.heap[b]?)/\∀b,lT lb bm v' b->lT lb bm v b\/w.heap.size<=b:=by
 refine((atn h.own h.lt uh (fun x=>hpS<|h.sub _ x) c0 c1 m hp hn hb).frame ?_ h.sub hS).z ?_
 ·rintro y S' x1 y1 ⟨b,v',rfl,h0,hb,h1,h2⟩ hk;exact⟨b,v',rfl,h0.bg hk,hb,h1.bg hk,h2.bg hk⟩
 ·rintro y S' w' ⟨S0,⟨b,v',rfl,h0,hb,h1,h2⟩,h3,h4,h5⟩;exact⟨b,v',rfl,⟨h3 _ h0.1,h0.2⟩,hb,h1.z h3,h2.wide h.sub h3 h4 fun b x y=>(h5 b x y).1,fun b x y=>(h5 b x y).2,fun b hb=>(h2.new b<|h1.sub b hb).imp id And.left⟩
end Twin
end
section
namespace Twin
open Go Go.Proofs Go.Conc Go.RowKit Go.Maps fU
def gQ:Code->Code
 | .seq _ b=>b
 |c=>c
def xG:Code->Code
 | .block _ c=>c
 | .loop c=>c
 |c=>c
def Na:Code:=xG<|xG<|gQ<|gQ<|Tryz.f114.body.getD .skip
structure Pl where
 B:Nat
 Ba:Nat
 c:Nat
 ov:Nat
 pb:Nat
 po:Nat
 lb:Nat
 bm:Nat
 n:Nat
 s:aJ
 down:Bool
def Pl.log(p:Pl)(l:List Ms):aJ:=if p.down then p.s else l.foldl (fun s m=>s.closed m.p m.t m.c) p.s
def Pl.pK(p:Pl)(l:List Ms):List Ms:=if p.down then[]else l.map Ms.lJ
structure Pl.At(p:Pl)(E:dL)(l:List Ms)(av:aA)(S:aO)(w:ay):Prop where
 log:∃v,iO S w p.B p.lb p.bm (p.n+l.length) v (p.log l)/\∀b,bY av=ae b->¬lT p.lb p.bm v b
 pK:Own S w p.Ba 119 5 av (p.pK l).length ((p.pK l).flatMap Ms.cs)
 nil:p.down=true->av=aN af 0 0
 c0:aB w ⟨p.pb,p.po,af⟩=ae (ptr p.lb)
 c1:aB w ⟨p.pb,p.po+1,af⟩=ae (.bool p.down)
 rd:E.rd p.pb
 ajh:¬S p.pb
 low:∀b,S b->b<w.heap.size
 base:p.Ba<=w.heap.size
 ro:∀b,E.ro b->b<w.heap.size
variable{E:dL}{S:aO}{w w':ay}
def Pl.At.bg{p:Pl}{l:List Ms}{av:aA}{w1:ay}(h:p.At E l av S w)(hk:bu S E w w1):p.At E l av S w1:=
 ⟨let ⟨v,h1,h2⟩:=h.log;⟨v,h1.bg hk,h2⟩,h.pK.bg hk,h.nil,oh h.c0 h.rd hk,oh h.c1 h.rd hk,h.rd,h.ajh,yH h.low hk,fG h.base hk.size,fun b hb=>gu (h.ro b hb) hk.size⟩
def atA(hS:∀b,S b->b<w.heap.size)(hE:∀b,E.ro b->b<w.heap.size)(o:Obj):bu S E w (bz w o):=⟨rfl,rfl,rfl,by simp,fun b hb=>aFe w o b<|hS b hb,fun b hb=>aFe w o b<|hE b hb⟩
def o5.bg{T:aO}(h:o5 T w w')(hS:∀b,S b->¬T b)(hE:∀b,E.ro b->¬T b):bu S E w w':=⟨h.tape,h.os,h.output,CQ h.size.s,fun b hb=>h.still b<|hS b hb,fun b hb=>h.still b<|hE b hb⟩
def bu.sub{S':aO}(h:bu S E w w')(hS:∀b,S' b->S b):bu S' E w w':=h.z (fun b hb=>.inl<|hS b hb) fun _ hb=>.inr hb
structure Pl.Fits(p:Pl)(N:Nat):Prop where
 n:p.n+N<=eP
 es:(p.s.es.length+N)*40<=140737488355328
def aa8(s:aJ)(p t:Int)(c:Bool):(s.closed p t c).es.length<=s.es.length+1:=by
 unfold aJ.closed;split
 ·simp[aJ.put,aJ.set]
 ·omega
def aji:∀(l:List Ms) (s:aJ),(l.foldl (fun s m=>s.closed m.p m.t m.c) s).es.length<=s.es.length+l.length
 |[],s=>by simp
 |m::l,s=>by
  have h1:=aji l<|s.closed m.p m.t m.c;have h2:=aa8 s m.p m.t m.c;simp only[List.foldl_cons,oH];omega
variable{ops:Array Oper}{i:Nat}{rest:List Nat}{k:List Item}{cs:List bH}
def Ym{P:fJ}{b:bH}{a:Act}{cases:Array CommCase}{sh:CommShape}{kk:Int}{v:aA}{ok:Bool}:
 (G (b.at a<|bW ops (i::rest)::k) cs).finishComm P cases sh kk v ok=G (b.at (a.put ((ops[i]?).bind (·.dst))<|commResult cases sh kk v ok)<|bW ops rest::k) cs:=by
 unfold Goroutine.finishComm G;simp only[Frame.finish_at]
def ajj(c ov:Nat)(z0 z1:aA):commResult #[rcase c z0,rcase ov z1] .select 1 z1 false=dU #[ag ah 1,.bool false,z0,z1]:=by
 simp[commResult,rcase,goInt,Array.zipIdx]
def atB(c ov:Nat)(z0 z1 v:aA):commResult #[rcase c z0,rcase ov z1] .select 0 v true=dU #[ag ah 0,.bool true,v,z1]:=by
 simp[commResult,rcase,goInt,Array.zipIdx]
def atC{p:Pl}{N:Nat}{Fin:List aA->aO->bM->ay->Prop}{b₀:bH}{a₀:Act}{S0:aO}{w0:ay}(hN:p.Fits N)(hn:∀(l:List Ms) (v:aA) (S':aO) (w':ay),p.At E l v S' w'->kP S0 E w0 S' w'->aC prog false E (Fin<|l.map kX) S' (G (b₀.at (a₀.put ((ops[i]?).bind (·.dst)) v)<|bW ops rest::k) cs) w'):
 ∀(r l:List Ms) (t8 t9 t10 t11 t12 t13 t14 t15 t16 t17 t18 t19 t20 t21 av:aA) (S:aO) (w:ay),l.length+r.length<=N->(∀m∈r,(Lit.int .i64 m.p).wf=true)->p.At E l av S w->kP S0 E w0 S w->
  aC prog false E (Gf prog E p.c p.ov Fin (r.map kX)<|l.map kX) S (G ((base 114).at ⟨#[az<|ae ⟨p.pb,p.po,af⟩,.chan<|ae p.c,.chan<|ae p.ov,ai,ai,ai,aN af 0 0,av,t8,t9,t10,t11,t12,t13,t14,t15,t16,t17,t18,t19,t20,t21],[]⟩ [.code Na,.inLoop Na,.inBlock 0])<|b₀.at a₀ (bW ops (i::rest)::k)::cs) w:=by
 intro r
 induction r with
 |nil=>
  intro l t8 t9 t10 t11 t12 t13 t14 t15 t16 t17 t18 t19 t20 t21 av S w hl uP h hB
  generalize Dq:Item.inLoop Na=IL
  simp only[Na,Tryz.f114,ik,gQ,xG]
  refine aC.ctl rfl (fun _=>aFs) ?_
  refine aC.sq ?_
  refine aC.sq ?_
  refine aC.reg [0] rfl ?_
  refine aC.mu rfl rfl ?_
  walk_nrm
  refine aC.gK ?_
  refine aC.reg [0] rfl ?_
  refine aC.mu rfl rfl ?_
  walk_nrm
  refine aC.gK ?_
  refine aC.sq ?_
  refine aC.reg [0,1,2,3] rfl ?_
  generalize G6:G _ _=gg
  have MG:aC prog false E (Fin<|l.map kX) S (gg.finishComm prog #[rcase p.c<|iF #[ag ah 0,ag ah 0,ag ah 0,ag ah 0,.bool false],rcase p.ov<|iF #[]] .select 1 (iF #[]) false) w:=by
   rw[<-G6,Ym,ajj];walk_nrm;refine aC.mu rfl rfl ?_;walk_nrm;refine aC.mu rfl rfl ?_;walk_nrm;refine aC.mu rfl rfl ?_;walk_nrm;refine aC.gK ?_;refine aC.ctl rfl (fun _=>aFs) ?_;refine aC.ctl rfl (fun _=>aFp (t:=false)<|by rfl) ?_;refine aC.ctl rfl (fun _=>aFp (t:=true)<|by rfl) ?_;refine aC.sq ?_;refine aC.reg [0,1] rfl ?_;refine aC.mu rfl rfl ?_;walk_nrm;refine aC.mu rfl rfl ?_;walk_nrm;refine aC.gK ?_;refine aC.ctl rfl (fun _=>aFu) ?_;refine aC.leave1 rfl rfl func114 rfl ?_;walk_nrm;exact hn l av S w h hB
  have jT:∀w1,bK prog false gg w1=.comm gg #[rcase p.c<|iF #[ag ah 0,ag ah 0,ag ah 0,ag ah 0,.bool false],rcase p.ov<|iF #[]] true .select w1 #[]:=fun w1=>by
   rw[<-G6];rw[stepG_comm (cases:=#[rcase p.c<|iF #[ag ah 0,ag ah 0,ag ah 0,ag ah 0,.bool false],rcase p.ov<|iF #[]]) (blocking:=true) (shape:=.select) (w':=w1) rfl rfl (by decide) (by go_simp;exact⟨rfl,rfl⟩)];congr 1;simp[listed,go_sem];rfl
  have iy:gg.status=.running:=by rw[<-G6];rfl
  exact aC.stop fun w1 hk=>⟨_,_,_,iy,fun w2 _=>jT w2,MG.rely hk⟩
 |cons m r ih=>
  intro l t8 t9 t10 t11 t12 t13 t14 t15 t16 t17 t18 t19 t20 t21 av S w hl uP h hB
  generalize Dq:Item.inLoop Na=IL
  simp only[Na,Tryz.f114,ik,gQ,xG]
  refine aC.ctl rfl (fun _=>aFs) ?_
  refine aC.sq ?_
  refine aC.sq ?_
  refine aC.reg [0] rfl ?_
  refine aC.mu rfl rfl ?_
  walk_nrm
  refine aC.gK ?_
  refine aC.reg [0] rfl ?_
  refine aC.mu rfl rfl ?_
  walk_nrm
  refine aC.gK ?_
  refine aC.sq ?_
  refine aC.reg [0,1,2,3] rfl ?_
  generalize G6:G _ _=gg
  have MG:aC prog false E (Fin<|l.map kX) S (gg.finishComm prog #[rcase p.c<|iF #[ag ah 0,ag ah 0,ag ah 0,ag ah 0,.bool false],rcase p.ov<|iF #[]] .select 1 (iF #[]) false) w:=by
   rw[<-G6,Ym,ajj];walk_nrm;refine aC.mu rfl rfl ?_;walk_nrm;refine aC.mu rfl rfl ?_;walk_nrm;refine aC.mu rfl rfl ?_;walk_nrm;refine aC.gK ?_;refine aC.ctl rfl (fun _=>aFs) ?_;refine aC.ctl rfl (fun _=>aFp (t:=false)<|by rfl) ?_;refine aC.ctl rfl (fun _=>aFp (t:=true)<|by rfl) ?_;refine aC.sq ?_;refine aC.reg [0,1] rfl ?_;refine aC.mu rfl rfl ?_;walk_nrm;refine aC.mu rfl rfl ?_;walk_nrm;refine aC.gK ?_;refine aC.ctl rfl (fun _=>aFu) ?_;refine aC.leave1 rfl rfl func114 rfl ?_;walk_nrm;exact hn l av S w h hB
  have jT:∀w1,bK prog false gg w1=.comm gg #[rcase p.c<|iF #[ag ah 0,ag ah 0,ag ah 0,ag ah 0,.bool false],rcase p.ov<|iF #[]] true .select w1 #[]:=fun w1=>by
   rw[<-G6];rw[stepG_comm (cases:=#[rcase p.c<|iF #[ag ah 0,ag ah 0,ag ah 0,ag ah 0,.bool false],rcase p.ov<|iF #[]]) (blocking:=true) (shape:=.select) (w':=w1) rfl rfl (by decide) (by go_simp;exact⟨rfl,rfl⟩)];congr 1;simp[listed,go_sem];rfl
  have iy:gg.status=.running:=by rw[<-G6];rfl
  have aA0:aC prog false E (Gf prog E p.c p.ov Fin (r.map kX)<|(l++[m]).map kX) S (gg.finishComm prog #[rcase p.c<|iF #[ag ah 0,ag ah 0,ag ah 0,ag ah 0,.bool false],rcase p.ov<|iF #[]] .select 0 (kX m) true) w:=by
   rw[<-G6,Ym,atB,show kX m=iF #[ag ah m.k,ag ah m.q,ag ah m.p,ag ah m.t,.bool m.c]from rfl];walk_nrm;refine aC.mu rfl rfl ?_;walk_nrm;refine aC.mu rfl rfl ?_;walk_nrm;refine aC.mu rfl rfl ?_;walk_nrm;refine aC.gK ?_;refine aC.ctl rfl (fun _=>aFs) ?_;refine aC.ctl rfl (fun _=>aFp (t:=true)<|by rfl) ?_;refine aC.sq ?_;refine aC.reg [0,1,2] rfl ?_;refine aC.mu rfl rfl ?_;walk_nrm;refine aC.kQ rfl rfl (by decide) fun w1 aT=>?_;refine⟨az<|ae ⟨w1.heap.size,0,af⟩,w1.alloc<|aG #[ag ah 0,ag ah 0,ag ah 0,ag ah 0,.bool false] 119,.inl<|by go_simp,xC (by simp[go_sem])<|vJ _,?_⟩;have h1:=h.bg aT;have h2:=h1.bg<|atA h1.low h1.ro<|aG #[ag ah 0,ag ah 0,ag ah 0,ag ah 0,.bool false] 119;have Cm:=(hB.bg aT).og<|vJ (E:=E)<|aG #[ag ah 0,ag ah 0,ag ah 0,ag ah 0,.bool false] 119;have hY2:=fE.new S w1 #[ag ah 0,ag ah 0,ag ah 0,ag ah 0,.bool false] 119;have jg:=IG h1.low<|aG #[ag ah 0,ag ah 0,ag ah 0,ag ah 0,.bool false] 119;have DV:∀b,S b->(grow S w1<|w1.alloc<|aG #[ag ah 0,ag ah 0,ag ah 0,ag ah 0,.bool false] 119) b:=fun b hb=>.inl hb;have tq:¬(grow S w1<|w1.alloc<|aG #[ag ah 0,ag ah 0,ag ah 0,ag ah 0,.bool false] 119) p.pb:=fun hx=>hx.e h1.ajh fun y=>by have:=oJ h1.c0;simp only at this;omega
   have atD:∀b,S b->¬b=w1.heap.size:=fun b hb=>aaL<|h1.low b hb;have atE:∀b,E.ro b->¬b=w1.heap.size:=fun b hb=>aaL<|h1.ro b hb;generalize grow S w1 (w1.alloc<|aG #[ag ah 0,ag ah 0,ag ah 0,ag ah 0,.bool false] 119)=S2 at*
   generalize w1.alloc (aG #[ag ah 0,ag ah 0,ag ah 0,ag ah 0,.bool false] 119)=w2 at*
   generalize w1.heap.size=ab at*
   walk_nrm;refine aC.kQ rfl rfl (by decide) fun w3 lC=>?_;have h3:=h2.bg<|lC.sub DV;have hB3:=Cm.bg lC;have xH:=hY2.bg lC;have q0:=xH.cell (o:=0) rfl;have q1:=xH.cell (o:=1) rfl;have q2:=xH.cell (o:=2) rfl;have q3:=xH.cell (o:=3) rfl;have q4:=xH.cell (o:=4) rfl;have r0:=xH.free 0;have r1:=xH.free 1;have r2:=xH.free 2;have r3:=xH.free 3;have r4:=xH.free 4;have hO4:o5 S2 w3 (((((aX w3 ⟨ab,0,af⟩<|.int .i64 m.k).setCell ⟨ab,1,af⟩<|.int .i64 m.q).setCell ⟨ab,2,af⟩<|.int .i64 m.p).setCell ⟨ab,3,af⟩<|.int .i64 m.t).setCell ⟨ab,4,af⟩<|.bool m.c):=(((((o5.refl S2 w3).set xH.1 0 _).set xH.1 1 _).set xH.1 2 _).set xH.1 3 _).set xH.1 4 _;have hA4:o5 (fun x=>x=ab) w3 (((((aX w3 ⟨ab,0,af⟩<|.int .i64 m.k).setCell ⟨ab,1,af⟩<|.int .i64 m.q).setCell ⟨ab,2,af⟩<|.int .i64 m.p).setCell ⟨ab,3,af⟩<|.int .i64 m.t).setCell ⟨ab,4,af⟩<|.bool m.c):=(((((o5.refl (fun x=>x=ab) w3).set rfl 0 _).set rfl 1 _).set rfl 2 _).set rfl 3 _).set rfl 4 _;have Lh:∀es:Array Event,(∀e∈es,nD S2 E e)->jC S2 E w3 (((((aX w3 ⟨ab,0,af⟩<|.int .i64 m.k).setCell ⟨ab,1,af⟩<|.int .i64 m.q).setCell ⟨ab,2,af⟩<|.int .i64 m.p).setCell ⟨ab,3,af⟩<|.int .i64 m.t).setCell ⟨ab,4,af⟩<|.bool m.c) es:=fun _=>hO4.og;have h4:p.At E l av S (((((aX w3 ⟨ab,0,af⟩<|.int .i64 m.k).setCell ⟨ab,1,af⟩<|.int .i64 m.q).setCell ⟨ab,2,af⟩<|.int .i64 m.p).setCell ⟨ab,3,af⟩<|.int .i64 m.t).setCell ⟨ab,4,af⟩<|.bool m.c):=h3.bg<|hA4.bg atD atE;have Ew:∀b,S2 b->b<(((((aX w3 ⟨ab,0,af⟩<|.int .i64 m.k).setCell ⟨ab,1,af⟩<|.int .i64 m.q).setCell ⟨ab,2,af⟩<|.int .i64 m.p).setCell ⟨ab,3,af⟩<|.int .i64 m.t).setCell ⟨ab,4,af⟩<|.bool m.c).heap.size:=fun b hb=>by rw[hO4.size];exact yH jg lC b hb
   have Ug:=((((xH.set 0<|.int .i64 m.k).set 1<|.int .i64 m.q).set 2<|.int .i64 m.p).set 3<|.int .i64 m.t).set 4<|.bool m.c;have Bd:=hB3.og (Lh #[]<|by simp);rw[hO4.grow]at Bd;refine⟨ai,((((aX w3 ⟨ab,0,af⟩<|.int .i64 m.k).setCell ⟨ab,1,af⟩<|.int .i64 m.q).setCell ⟨ab,2,af⟩<|.int .i64 m.p).setCell ⟨ab,3,af⟩<|.int .i64 m.t).setCell ⟨ab,4,af⟩<|.bool m.c,.inr ⟨rfl,by go_simp⟩,Lh _ fun e he=>?_,?_⟩
   ·simp[go_sem,ac5,storedEv,q0,q1,q2,q3,q4,r0,r1,r2,r3,r4]at he;rcases he with rfl|rfl|rfl|rfl|rfl<;>exact .inl xH.1
   rw[hO4.grow];change fE S2 (((((aX w3 ⟨ab,0,af⟩<|.int .i64 m.k).setCell ⟨ab,1,af⟩<|.int .i64 m.q).setCell ⟨ab,2,af⟩<|.int .i64 m.p).setCell ⟨ab,3,af⟩<|.int .i64 m.t).setCell ⟨ab,4,af⟩<|.bool m.c) ab #[ag ah m.k,ag ah m.q,ag ah m.p,ag ah m.t,.bool m.c] 119 at Ug;generalize((((aX w3 ⟨ab,0,af⟩<|.int .i64 m.k).setCell ⟨ab,1,af⟩<|.int .i64 m.q).setCell ⟨ab,2,af⟩<|.int .i64 m.p).setCell ⟨ab,3,af⟩<|.int .i64 m.t).setCell ⟨ab,4,af⟩ (.bool m.c)=w4 at*
   walk_nrm;refine aC.gK ?_;refine aC.reg [0,1,2,3,4,5] rfl ?_;refine aC.mu rfl rfl ?_;walk_nrm;refine aC.mu rfl rfl ?_;walk_nrm;refine aC.val (iF #[ag ah m.k,ag ah m.q,ag ah m.p,ag ah m.t,.bool m.c]) rfl rfl (by decide) (fun w5 Ox=>?_) (fun w5 Ox e he=>?_) ?_
   ·have kV:=Ug.bg Ox;have g0:=kV.cell (o:=0) rfl;have g1:=kV.cell (o:=1) rfl;have g2:=kV.cell (o:=2) rfl;have g3:=kV.cell (o:=3) rfl;have g4:=kV.cell (o:=4) rfl;go_simp
   ·have kV:=Ug.bg Ox;have g0:=kV.cell (o:=0) rfl;have g1:=kV.cell (o:=1) rfl;have g2:=kV.cell (o:=2) rfl;have g3:=kV.cell (o:=3) rfl;have g4:=kV.cell (o:=4) rfl;simp[go_sem,g0,g1,g2,g3,g4]at he;rcases he with rfl|rfl|rfl|rfl|rfl<;>exact .inl kV.1
   walk_nrm;obtain⟨v,hM,Jn⟩:=h4.log;have xY:=hM.z DV;have hlen:l.length+(r.length+1)<=N:=by simpa using hl
   have DY:=h4.c0;have DZ:=h4.c1;have uj:∀(Gg:aA) (ajk ajl ajm ajn ajo ajp:aA) (S':aO) (w':ay),p.At E (l++[m]) Gg S' w'->kP S0 E w0 S' w'->aC prog false E (Gf prog E p.c p.ov Fin (r.map kX)<|(l++[m]).map kX) S' (G ((base 114).at ⟨#[az<|ae ⟨p.pb,p.po,af⟩,.chan<|ae p.c,.chan<|ae p.ov,ai,ai,ai,aN af 0 0,Gg,az<|ae ⟨ab,0,af⟩,.chan<|ae p.c,.chan<|ae p.ov,dU #[ag ah 0,.bool true,iF #[ag ah m.k,ag ah m.q,ag ah m.p,ag ah m.t,.bool m.c],iF #[]],ag ah 0,.bool true,.bool false,ajk,ajl,ajm,ajn,ajo,ajp,t21],[]⟩ [.inBlock 2,.inBlock 1,IL,.inBlock 0])<|b₀.at a₀ (bW ops (i::rest)::k)::cs) w':=by
    intro Gg ajk ajl ajm ajn ajo ajp S' w' hA hB';refine aC.ctl rfl (fun _=>aFL) ?_;refine aC.ctl rfl (fun _=>aFL) ?_;rw[<-Dq];refine aC.ctl rfl (fun _=>aFV) ?_;exact ih (l++[m]) _ _ _ _ _ _ _ _ _ _ _ _ _ _ Gg S' w' (by simp<;>omega) (fun x hx=>uP x<|WM _ hx) hA hB'
   cases hd:p.down
   ·
    rw[hd]at DZ;have D5:p.pK l=l.map Ms.lJ:=by simp[Pl.pK,hd]
    have CY:p.log l=l.foldl (fun s m=>s.closed m.p m.t m.c) p.s:=by simp[Pl.log,hd]
    have qX:=aji l p.s;have hNn:=hN.n;have hNe:=hN.es;refine aC.Uf rfl rfl (by decide) rfl func141 rfl rfl (by walk_nrm;rfl) (atz xY Ew h4.rd tq DY DZ m (uP m<|by simp) (by omega) (by rw[CY];omega)) ?_;rintro y S5 w5 ⟨cc,v',rfl,tZ,qK,Dp,qQ,Yl,hL5⟩;have hO:=h4.pK;rw[D5]at hO;have hO5:Own S5 w5 p.Ba 119 5 av (l.map Ms.lJ).length ((l.map Ms.lJ).flatMap Ms.cs):=hO.of (fun b hb=>qQ.own b<|DV b hb) fun b hb=>Yl b (DV b<|hO.r b hb)<|Jn b hb;have ajq:∀b,bY av=ae b->¬lT p.lb p.bm v' b:=fun b hb hx=>by
     have h1:b<w4.heap.size:=Ew b<|DV b<|hO.r b hb;exact(hL5 b hx).e (Jn b hb) fun y=>by omega
    have hz5:=qQ.below Ew;have atG:=Bd.t qQ;have hn5:¬S5 p.pb:=fun hx=>(qQ.new _ hx).e tq fun y=>by have:=oJ DY;simp only at this;omega
    have ade:=Ey DY h4.rd tq qQ;have ajr:=Ey DZ h4.rd tq qQ;walk_nrm;refine aC.kQ rfl rfl (by decide) fun w6 sS=>?_;have qR:=hO5.bg sS;have xE:=tZ.bg sS;have oZ:=Dp.bg sS;have P7:=yH hz5 sS;have hw6:=sS.size;have hw5:=qQ.size;have Ji:p.Ba<=w6.heap.size:=fG (fG h4.base hw5) hw6;obtain⟨i0,ed,lN,Oz,V4⟩:=aFq JI;have V5:((l.map Ms.lJ).length+1)*40<=140737488355328:=by simp only[Fz];omega
    obtain⟨g,cap,w7,J3,Ua,BF,IC,MZ⟩:=aGy (P:=prog) w6 107 107 p.Ba 119 i0 _ 5 40 underlying107 ed lN Oz V4 rfl (by omega) av (l.map Ms.lJ).length ((l.map Ms.lJ).flatMap Ms.cs) qR.row ⟨cc,0,af⟩ 1 1 m.lJ.cs rfl (aFk xE.2) (by simp[Ms.cs,Value.oneCell']) (by omega) (by simp only[eP];omega) V5 Ji _ rfl;have VY:=aGi (P:=prog) w6 p.Ba 107 107 119 i0 _ 5 40 underlying107 ed lN Oz V4 av (l.map Ms.lJ).length ((l.map Ms.lJ).flatMap Ms.cs) qR.row ⟨cc,0,af⟩ 1 1 m.lJ.cs rfl (aFk xE.2) (by simp[Ms.cs,Value.oneCell']) (by simp only[eP];omega) V5;have J4:jC S5 E w6 w7 ((Builtin.append_ #[107,107] 107 #[av,aN (ae ⟨cc,0,af⟩) 1 1]).events prog w6 #[]):=acZ BF qR.r (fun s h5 hs hw=>((au.Pz (au.X7 h5).toFit<|ok_two (TY qR.row fun k hk z=>(hs k z).1<|qR.r k hk) (.slice fun y hy z=>by cases hy;exact(hs _ z).1 xE.1)).Em hw J3 fun b hb=>(hs b hb).2).2) fun e he=>by
     rcases VY e he with⟨ad,h1,h2|h2⟩|⟨m,rfl,h2⟩
     ·exact(show nD _ _ _ by unfold nD;rw[h1];exact .inl<|.inl<|h2.2▸xE.1)
     ·exact(show nD _ _ _ by unfold nD;rw[h1];exact .inl<|.inl<|qR.r _ h2.s)
     ·exact h2
    refine⟨aN (ae ⟨g,0,af⟩) ((l.map Ms.lJ).length+1) cap,w7,.inl ?_,?_,?_⟩
    ·exact Yj (.tmp 16) (.tmp 19) 107 rfl rfl rfl J3
    ·rw[aGa (.tmp 16) (.tmp 19) 107 rfl rfl rfl];exact J4
    have Ub:(grow S5 w6 w7) g:=by
     rcases IC with h1|h1
     ·exact .inl<|qR.r g h1
     ·exact .inr ⟨by omega,MZ⟩
    have atH:∀b,(grow S5 w6 w7) b->b<w7.heap.size:=fun b hb=>by
     have:=BF.size;rcases hb with hb|hb
     ·have:=P7 b hb;omega
     ·exact hb.2
    have P8:iO (grow S5 w6 w7) w7 p.B p.lb p.bm (p.n+l.length+1) v' ((p.log l).closed m.p m.t m.c):=oZ.og (fun b hb=>BF.block b (oZ.lt b hb) fun e=>ajq b e.s hb) J4;have hg7:∀b,(Value.slice (ae ⟨g,0,af⟩) ((l.map Ms.lJ).length+1) cap).ownBlock=ae b->¬lT p.lb p.bm v' b:=fun b hb hx=>by
     simp only[Value.ownBlock,gU]at hb;subst hb;rcases IC with h1|h1
     ·exact ajq g h1 hx
     ·have:=oZ.lt g hx;omega
    have Uc:=(atG.bg sS).og J4;have hn7:¬(grow S5 w6 w7) p.pb:=fun hx=>hx.e hn5 fun y=>by have:=oJ ade;simp only at this;omega
    have atK:aB w7 ⟨p.pb,p.po,af⟩=ae (ptr p.lb):=(aFf<|BF.block _ (oJ<|oh ade h4.rd sS) fun e=>hn5<|qR.r _ e.s).t<|oh ade h4.rd sS;have atL:aB w7 ⟨p.pb,p.po+1,af⟩=ae (.bool false):=(aFf<|BF.block _ (oJ<|oh ajr h4.rd sS) fun e=>hn5<|qR.r _ e.s).t<|oh ajr h4.rd sS;have hw7:=BF.size;generalize grow S5 w6 w7=S7 at*
    walk_nrm;refine aC.mu rfl rfl ?_;walk_nrm;refine aC.gK ?_;refine uj _ _ _ _ _ _ _ S7 w7 ⟨⟨v',?_,hg7⟩,⟨?_,fun b hb=>by simp only[Value.ownBlock,gU]at hb;exact hb▸Ub⟩,fun hx=>(by rw[hd]at hx;cases hx),atK,by rw[hd];exact atL,h4.rd,hn7,atH,by omega,fun b hb=>by have:=h4.ro b hb;omega⟩ Uc
    ·have e:p.log (l++[m])=(p.log l).closed m.p m.t m.c:=by simp[Pl.log,hd]
     rw[e];exact⟨P8.log.z (by simp<;>omega),P8.l,P8.m,P8.r⟩
    ·have e:p.pK (l++[m])=l.map Ms.lJ++[m.lJ]:=by simp[Pl.pK,hd]
     rw[e];simpa using Ua
   ·
    rw[hd]at DZ;refine aC.Uf rfl rfl (by decide) rfl func141 rfl rfl (by walk_nrm;rfl) (aty xY Ew h4.rd DZ m) ?_;rintro y S5 w5 ⟨rfl,Dp,qQ,Yl⟩;have D5:p.pK l=[]:=by simp[Pl.pK,hd]
    have atM:=h4.nil hd;subst atM;walk_nrm;refine aC.mute (aN af 0 0) rfl rfl (by decide) (fun _=>by go_simp<;>rfl) (fun _=>by simp[go_sem]) ?_;walk_nrm;refine aC.mu rfl rfl ?_;walk_nrm;refine aC.gK ?_;refine uj _ _ _ _ _ _ _ S5 w5 ⟨⟨v,?_,by simp[Value.ownBlock]⟩,?_,fun _=>rfl,Ey DY h4.rd tq qQ,by rw[hd];exact Ey DZ h4.rd tq qQ,h4.rd,fun hx=>(qQ.new _ hx).e tq fun y=>by have:=oJ DY;simp only at this;omega,qQ.below Ew,fG h4.base qQ.size,fun b hb=>gu (h4.ro b hb) qQ.size⟩<|Bd.t qQ
    ·have e:p.log (l++[m])=p.log l:=by simp[Pl.log,hd]
     rw[e];exact⟨Dp.log.z<|by simp,Dp.l,Dp.m,Dp.r⟩
    ·have e:p.pK (l++[m])=[]:=by simp[Pl.pK,hd]
     rw[e];have:=h4.pK;rw[D5]at this;exact this.of (fun b hb=>qQ.own b<|DV b hb) fun k hk=>by simp[Value.ownBlock]at hk
  exact aC.stop fun w1 hk=>⟨_,_,_,iy,fun w2 _=>jT w2,by simpa using aA0.rely hk,MG.rely hk⟩
end Twin
end
section
namespace Twin
open Go Go.Proofs Go.Conc Go.RowKit Go.Maps fU
variable{E:dL}{S:aO}{w:ay}
def atN{p:Pl}{N:Nat}{Fin:List aA->aO->bM->ay->Prop}{ms:List Ms}(hN:p.Fits N)(hl:ms.length<=N)(uP:∀m∈ms,(Lit.int .i64 m.p).wf=true)(h:p.At E [] (aN af 0 0) S w):
 BG prog false E (Gf prog E p.c p.ov Fin (ms.map kX) []) Fin 114 #[az<|ae ⟨p.pb,p.po,af⟩,.chan<|ae p.c,.chan<|ae p.ov] S w (fun l v S' w'=>∃lm:List Ms,l=lm.map kX/\p.At E lm v S' w'/\kP S E w S' w'):=by
 intro b₀ a₀ ops i rest k cs fn c hf hb hn;obtain rfl:fn=Tryz.f114:=by rw[func114]at hf;exact(rP hf).s
 obtain rfl:c=(Tryz.f114.body.getD .skip):=by rw[hb];rfl
 have G7:=atC (Fin:=Fin) (b₀:=b₀) (a₀:=a₀) (ops:=ops) (i:=i) (rest:=rest) (k:=k) (cs:=cs) (S0:=S) (w0:=w) hN (fun l v S' w' h1 h2=>hn (l.map kX) v S' w' ⟨l,rfl,h1,h2⟩) ms [] ai ai ai ai ai ai ai ai ai ai ai ai ai ai (aN af 0 0) S w (by simpa using hl) uP h kP.refl;simp only[tC]at G7;generalize Gf prog E p.c p.ov Fin (ms.map kX) []=St at G7⊢
 simp only[Na]at G7;simp only[Tryz.f114,ik,gQ,xG]at G7⊢
 walk_nrm;refine aC.sq ?_;refine aC.reg [0] rfl ?_;refine aC.mu rfl rfl ?_;walk_nrm;refine aC.gK ?_;refine aC.sq ?_;refine aC.reg [0] rfl ?_;refine aC.mu rfl rfl ?_;walk_nrm;refine aC.gK ?_;refine aC.ctl rfl (fun _=>aFs) ?_;refine aC.ctl rfl (fun _=>aFX) ?_;exact G7
def BG.of{L:Type}{P:fJ}{main:Bool}{Stop:aO->bM->ay->Prop}{Fin:L->aO->bM->ay->Prop}{f:ji}{vs vs':Array aA}{nX:L->aA->aO->ay->Prop}(h:BG P main E Stop Fin f vs' S w nX)(e:vs=vs'):BG P main E Stop Fin f vs S w nX:=e▸h
structure Wx where
 p:Pl
 i:Nat
 Wg:Nat
 hv:Nat
 hb:Nat
 nb:Nat
 cb:Nat
 ob:Nat
 sv:Nat
 C:Nat
 np:Nat
 pc:Nat
structure Wx.zn(x:Wx)(w:ay):Prop where
 sv:aB w ⟨x.sv,0,af⟩=ae (aN (ae ⟨x.C,0,af⟩) x.np x.np)
 n:aB w ⟨x.nb,0,af⟩=ae (.int .i64 x.i)
 h:aB w ⟨x.hv,0,af⟩=ae (az<|ae ⟨x.hb,0,af⟩)
 ps:aB w ⟨x.hb,68,af⟩=ae (aN (ae ⟨x.p.pb,0,af⟩) x.np x.pc)
 c:aB w ⟨x.cb,0,af⟩=ae (.chan<|ae x.p.c)
 o:aB w ⟨x.ob,0,af⟩=ae (.chan<|ae x.p.ov)
structure Wx.Fit(x:Wx)(E:dL):Prop where
 sv:E.rd x.sv
 nb:E.rd x.nb
 hv:E.rd x.hv
 hb:E.rd x.hb
 cb:E.rd x.cb
 ob:E.rd x.ob
 lt:x.i<x.np
 po:x.p.po=x.i*2
 np:x.np<2147483648
variable{x:Wx}{w1:ay}
def Wx.zn.bg(h:x.zn w)(hF:x.Fit E)(hk:bu S E w w1):x.zn w1:=
 ⟨oh h.sv hF.sv hk,oh h.n hF.nb hk,oh h.h hF.hv hk,oh h.ps hF.hb hk,oh h.c hF.cb hk,oh h.o hF.ob hk⟩
def Wx.zn.behind{S':aO}(h:x.zn w)(hF:x.Fit E)(hS:∀b,E.rd b->¬S b)(hk:kP S E w S' w1):x.zn w1:=
 ⟨Ey h.sv hF.sv (hS _ hF.sv) hk,Ey h.n hF.nb (hS _ hF.nb) hk,Ey h.h hF.hv (hS _ hF.hv) hk,Ey h.ps hF.hb (hS _ hF.hb) hk,Ey h.c hF.cb (hS _ hF.cb) hk,Ey h.o hF.ob (hS _ hF.ob) hk⟩
def II:Frame:={(default:bH)with fn:=prog.funcs.size,defers:=[],mode:=.panicking [goexitEntry]}
def P9:Code:=Tryz.f112.body.getD .skip
def Yn:Array Oper:=match gQ P9 with| .region _ o _=>o|_=>#[]
def Wx.ajs(x:Wx):Array Value:=#[az<|ae ⟨x.Wg,0,af⟩,az<|ae ⟨x.hv,0,af⟩,az<|ae ⟨x.nb,0,af⟩,az<|ae ⟨x.cb,0,af⟩,az<|ae ⟨x.ob,0,af⟩,az<|ae ⟨x.sv,0,af⟩]
def Wx.dc(x:Wx):Deferred:={target:=.fn (.func 112) x.ajs,args:=#[]}
def Wx.start(x:Wx):Goroutine:=G ((baseD 112).at ⟨#[az<|ae ⟨x.Wg,0,af⟩,az<|ae ⟨x.hv,0,af⟩,az<|ae ⟨x.nb,0,af⟩,az<|ae ⟨x.cb,0,af⟩,az<|ae ⟨x.ob,0,af⟩,az<|ae ⟨x.sv,0,af⟩,ai,ai,ai,ai,ai,ai,ai,ai,ai,ai,ai,ai],[]⟩ [.code P9]) [II]
def Wx.act(x:Wx)(v:aA):Act:=⟨#[az<|ae ⟨x.Wg,0,af⟩,az<|ae ⟨x.hv,0,af⟩,az<|ae ⟨x.nb,0,af⟩,az<|ae ⟨x.cb,0,af⟩,az<|ae ⟨x.ob,0,af⟩,az<|ae ⟨x.sv,0,af⟩,aN (ae ⟨x.C,0,af⟩) x.np x.np,ag ah x.i,az<|ae ⟨x.hb,0,af⟩,az<|ae ⟨x.hb,0,af⟩,az<|ae ⟨x.hb,68,af⟩,aN (ae ⟨x.p.pb,0,af⟩) x.np x.pc,ag ah x.i,az<|ae ⟨x.p.pb,x.p.po,af⟩,.chan<|ae x.p.c,.chan<|ae x.p.ov,v,az<|ae ⟨x.C,x.i,af⟩],[dcall 113 #[az<|ae ⟨x.Wg,0,af⟩]]⟩
def Wx.store(x:Wx)(v:aA):Goroutine:=G ((baseD 112).at (x.act v) [bW Yn [12]]) [II]
def Wx.Fin(x:Wx)(E:dL)(l:List aA)(S:aO)(g:bM)(w:ay):Prop:=∃(lm:List Ms) (v:aA),l=lm.map kX/\g=x.store v/\x.p.At E lm v S w/\x.zn w
def atO(x:Wx)(w:ay):bK prog false (born prog x.dc) w=.go x.start w #[]:=by
 simp[born,Wx.dc,Wx.ajs,bK,unwind,callDeferred,invoke,callFunc,func112,Tryz.f112,seen,GStep.after,G,Frame.enter,Frame.at,baseD,II,P9,Wx.start]
def atP{N:Nat}{ms:List Ms}(hF:x.Fit E)(hN:x.p.Fits N)(hl:ms.length<=N)(uP:∀m∈ms,(Lit.int .i64 m.p).wf=true)(hS:∀b,E.rd b->¬S b)(hA:x.p.At E [] (aN af 0 0) S w)(hC:x.zn w):
 aC prog false E (Gf prog E x.p.c x.p.ov (x.Fin E) (ms.map kX) []) S (born prog x.dc) w:=by
 refine aC.ctl rfl (fun _=>atO x _) ?_;have zS:∀(lm:List Ms) (v:aA) (S':aO) (w':ay),x.p.At E lm v S' w'->x.zn w'->aC prog false E (x.Fin E<|lm.map kX) S' (x.store v) w':=fun lm v S' w' h1 h2=>aC.stop fun w1 hk=>⟨lm,v,rfl,rfl,h1.bg hk,h2.bg hF hk⟩;have Rf:=fun(S:aO) (w:ay) (h:x.p.At E [] (aN af 0 0) S w)=>atN (Fin:=x.Fin E) hN hl uP h;generalize Gf prog E x.p.c x.p.ov (x.Fin E) (ms.map kX) []=St at Rf⊢
 simp only[Wx.store,Yn,P9,Tryz.f112,ik,gQ]at zS;simp only[Wx.start,P9,Tryz.f112,ik];refine aC.sq ?_;refine aC.reg [0] rfl ?_;refine aC.ctl rfl (fun _=>stepG_defer rfl rfl (by decide) rfl) ?_;walk_nrm;refine aC.gK ?_;refine aC.atw (L:=List aA) (c0:=10) (Fin:=x.Fin E) (I:=fun _ w=>x.zn w) (Q:=fun _ _ _ _=>False) (X:=fun l z a S w=>z=12/\∃(lm:List Ms) (v:aA),l=lm.map kX/\a=x.act v/\x.p.At E lm v S w/\x.zn w) rfl (by decide) (by kernel_rfl) (fun _ _ _ _ h=>h.e) ?_ ?_
 ·rintro l z a S' w' ⟨rfl,lm,v,rfl,rfl,h1,h2⟩;exact zS lm v S' w' h1 h2
 intro w1 aT;have hI:∀(S':aO) (x1 y1:ay),x.zn x1->bu S' E x1 y1->x.zn y1:=fun _ _ _ h1 h2=>h1.bg hF h2;have hQ:∀(_:List aA) (_:Act) (S':aO) (x1 y1:ay),False->bu S' E x1 y1->False:=fun _ _ _ _ _ h _=>h;have hX:∀(l:List aA) (z:Nat) (a:Act) (S':aO) (x1 y1:ay),(z=12/\∃(lm:List Ms) (v:aA),l=lm.map kX/\a=x.act v/\x.p.At E lm v S' x1/\x.zn x1)->bu S' E x1 y1->(z=12/\∃(lm:List Ms) (v:aA),l=lm.map kX/\a=x.act v/\x.p.At E lm v S' y1/\x.zn y1):=by
  rintro l z a S' x1 y1 ⟨h1,lm,v,h2,h3,h4,h5⟩ hk;exact⟨h1,lm,v,h2,h3,h4.bg hk,h5.bg hF hk⟩
 have G8:=hA.bg<|aT.t<|bu.at S E w1<|w1.drawn+1;have Be:=hC.bg hF<|aT.t<|bu.at S E w1<|w1.drawn+1;change yI _ _ _ _ _ _ _ _ _ _ _ _ _ _ _ _ (w1.at<|w1.drawn+1);generalize w1.at (w1.drawn+1)=w2 at G8 Be⊢
 clear hA hC aT;simp only[Fv,oH,wu,Nat.reduceAdd,D9];refine F9 hI hQ hX (i:=0) rfl (by decide) (by kernel_rfl) (by kernel_rfl) (by kernel_rfl) (by kernel_rfl) (v:=aN (ae ⟨x.C,0,af⟩) x.np x.np) ⟨rfl,fun S' w' hi=>⟨?_,fun e he=>?_⟩⟩ Be ?_
 ·have g0:=hi.sv;go_simp
 ·have g0:=hi.sv;have hm:=aFh he;simp[go_sem,g0]at hm;subst hm;exact .inr ⟨hF.sv,rfl⟩
 walk_nrm;refine F9 hI hQ hX (i:=1) rfl (by decide) (by kernel_rfl) (by kernel_rfl) (by kernel_rfl) (by kernel_rfl) (v:=.int .i64 x.i) ⟨rfl,fun S' w' hi=>⟨?_,fun e he=>?_⟩⟩ Be ?_
 ·have g0:=hi.n;go_simp
 ·have g0:=hi.n;have hm:=aFh he;simp[go_sem,g0]at hm;subst hm;exact .inr ⟨hF.nb,rfl⟩
 walk_nrm;refine F9 hI hQ hX (i:=2) rfl (by decide) (by kernel_rfl) (by kernel_rfl) (by kernel_rfl) (by kernel_rfl) (v:=az<|ae ⟨x.hb,0,af⟩) ⟨rfl,fun S' w' hi=>⟨?_,fun e he=>?_⟩⟩ Be ?_
 ·have g0:=hi.h;go_simp
 ·have g0:=hi.h;have hm:=aFh he;simp[go_sem,g0]at hm;subst hm;exact .inr ⟨hF.hv,rfl⟩
 walk_nrm;refine F9 hI hQ hX (i:=3) rfl (by decide) (by kernel_rfl) (by kernel_rfl) (by kernel_rfl) (by kernel_rfl) (v:=_) ⟨rfl,fun S' w' hi=>⟨by go_simp<;>rfl,fun e he=>?_⟩⟩ Be ?_
 ·have hm:=aFh he;simp[go_sem]at hm
 walk_nrm;refine F9 hI hQ hX (i:=4) rfl (by decide) (by kernel_rfl) (by kernel_rfl) (by kernel_rfl) (by kernel_rfl) (v:=az<|ae ⟨x.hb,68,af⟩) ⟨rfl,fun S' w' hi=>⟨by go_simp<;>rfl,fun e he=>?_⟩⟩ Be ?_
 ·have hm:=aFh he;simp[go_sem]at hm
 walk_nrm;refine F9 hI hQ hX (i:=5) rfl (by decide) (by kernel_rfl) (by kernel_rfl) (by kernel_rfl) (by kernel_rfl) (v:=aN (ae ⟨x.p.pb,0,af⟩) x.np x.pc) ⟨rfl,fun S' w' hi=>⟨?_,fun e he=>?_⟩⟩ Be ?_
 ·have g0:=hi.ps;go_simp
 ·have g0:=hi.ps;have hm:=aFh he;simp[go_sem,g0]at hm;subst hm;exact .inr ⟨hF.hb,rfl⟩
 walk_nrm;refine F9 hI hQ hX (i:=6) rfl (by decide) (by kernel_rfl) (by kernel_rfl) (by kernel_rfl) (by kernel_rfl) (v:=.int .i64 x.i) ⟨rfl,fun S' w' hi=>⟨?_,fun e he=>?_⟩⟩ Be ?_
 ·have g0:=hi.n;go_simp
 ·have g0:=hi.n;have hm:=aFh he;simp[go_sem,g0]at hm;subst hm;exact .inr ⟨hF.nb,rfl⟩
 walk_nrm;have aK:=hF.lt;have OA:=hF.po;refine F9 hI hQ hX (i:=7) rfl (by decide) (by kernel_rfl) (by kernel_rfl) (by kernel_rfl) (by kernel_rfl) (v:=az<|ae ⟨x.p.pb,x.p.po,af⟩) ⟨rfl,fun S' w' hi=>⟨?_,fun e he=>?_⟩⟩ Be ?_
 ·rw[OA];go_simp
 ·have hm:=aFh he;simp[go_sem]at hm;rw[aFR _ _ _ _ _ _ (by kernel_rfl) ⟨by omega,by omega⟩]at hm;simp at hm
 walk_nrm;refine F9 hI hQ hX (i:=8) rfl (by decide) (by kernel_rfl) (by kernel_rfl) (by kernel_rfl) (by kernel_rfl) (v:=.chan<|ae x.p.c) ⟨rfl,fun S' w' hi=>⟨?_,fun e he=>?_⟩⟩ Be ?_
 ·have g0:=hi.c;go_simp
 ·have g0:=hi.c;have hm:=aFh he;simp[go_sem,g0]at hm;subst hm;exact .inr ⟨hF.cb,rfl⟩
 walk_nrm;refine F9 hI hQ hX (i:=9) rfl (by decide) (by kernel_rfl) (by kernel_rfl) (by kernel_rfl) (by kernel_rfl) (v:=.chan<|ae x.p.ov) ⟨rfl,fun S' w' hi=>⟨?_,fun e he=>?_⟩⟩ Be ?_
 ·have g0:=hi.o;go_simp
 ·have g0:=hi.o;have hm:=aFh he;simp[go_sem,g0]at hm;subst hm;exact .inr ⟨hF.ob,rfl⟩
 walk_nrm;refine atv (by kernel_rfl) ⟨_,114,_,_,Tryz.f114,(Tryz.f114.body.getD .skip),rfl,rfl,rfl,func114,rfl,rfl,?_⟩;refine BG.z (BG.of (Rf S w2 G8)<|by walk_nrm) ?_;rintro l v S' w' ⟨lm,rfl,hA3,hB3⟩;have hC3:=Be.behind hF hS hB3;refine⟨hC3,?_⟩;walk_nrm;refine qy hI (hQ<|lm.map kX) (hX<|lm.map kX) (i:=11) rfl (by kernel_rfl) (by kernel_rfl) (by kernel_rfl) (by kernel_rfl) (v:=az<|ae ⟨x.C,x.i,af⟩) ⟨rfl,fun S' w' hi=>⟨?_,fun e he=>?_⟩⟩ hC3 ?_
 ·go_simp
 ·have hm:=aFh he;simp[go_sem]at hm;rw[aFR _ _ _ _ _ _ (by kernel_rfl) ⟨by omega,by omega⟩]at hm;simp at hm
 walk_nrm;exact aja (by kernel_rfl) (by kernel_rfl) ⟨rfl,lm,v,rfl,rfl,hA3,hC3⟩
end Twin
end
section
namespace Twin
open Go Go.Proofs Go.Conc Go.RowKit Go.Maps fU
open Go.Conc.Lib Go.ConcR.Gen Go.ConcN.Gen
open Go.ConcN (WgLive PayAt Has RW)
open Go.ConcR (DC0 Payload)
def atQ(T:Array aA):QuitsD prog 2 0 (G {(baseD 112).at ⟨T,[]⟩ []with mode:=.returning} [II]):=by
 refine QuitsD.ctl (g':=G II []) rfl (fun w=>?_) ?_
 ·simp[G,bK,unwind,doReturn,results,Frame.at,baseD,II,func112,Tryz.f112,seen,GStep.after,goexitEntry]
 refine QuitsD.ctl (g':={G II []with status:=.finished}) rfl (fun w=>?_) ⟨rfl,rfl⟩;simp[G,bK,unwind,II,goexitEntry,Frame.catches];rfl
variable{x:Wx}{n m c:Nat}{a:Option Addr}{w:ay}
def atS(hi:x.i<n)(GZ:PayAt x.C n w):
 bK prog false (x.store<|.slice a m c) w=.go (G ((baseD 112).at (x.act<|.slice a m c) [bW Yn []]) [II]) (aX w ⟨x.C,x.i,af⟩<|.slice a m c) #[⟨.cell ⟨x.C,x.i,af⟩,true,false⟩]:=by
 obtain⟨cs,pV,lY⟩:=GZ;have q0:aB w ⟨x.C,x.i,af⟩=ae cs[x.i]:=by rw[aQ pV,Hf<|by omega]
 have f0:w.frozen? ⟨x.C,x.i,af⟩=false:=kK pV x.i;simp only[Wx.store,Yn,P9,Tryz.f112,ik,gQ];rw[stepG_none (w':=aX w ⟨x.C,x.i,af⟩<|.slice a m c) rfl rfl (by decide) (by simp only[Wx.act];go_simp)];congr 1;simp[listed,Wx.act,go_sem,aFU,storedEv,q0,f0];rfl
def ajt{K:Type}{X:bV K}(hP:X.P=prog)(hW:X.Wg=x.Wg)(hC:X.C=x.C)(dD:x.Wg≠x.C)(hi:x.i<n):X.BD 177 n x.i (.slice a m c) (x.store<|.slice a m c) w:=by
 refine⟨rfl,fun dh GZ=>?_⟩;rw[hW]at dh;rw[hC]at GZ;rw[hP,hC,hW];refine⟨_,atS hi GZ,27,?_⟩;obtain⟨cs,pV,lY⟩:=GZ;have hK:WgLive 177 x.Wg (aX w ⟨x.C,x.i,af⟩<|.slice a m c)/\Has x.C (x.i+1-1) (.slice a m c) (aX w ⟨x.C,x.i,af⟩<|.slice a m c):=by
  refine⟨?_,?_⟩
  ·obtain⟨a1,a2,h1⟩:=dh;exact⟨a1,a2,h1.of_block<|aFg w _ _ _ dD⟩
  ·show(aX w ⟨x.C,x.i,af⟩<|.slice a m c).cell? ⟨x.C,x.i,af⟩=ae (.slice a m c);rw[aQ<|kU pV x.i _];simp[lY,hi]
 generalize w.setCell ⟨x.C,x.i,af⟩ (.slice a m c)=w' at hK⊢
 change Goes prog false (RW 177 x.Wg x.C n 0<|x.i+1-1) DC0 (ConcN.AtR0 prog 177 x.Wg x.C n 0 (x.i+1)<|.slice a m c) 27 _ w';u_c aFa kn_rely hK
 u_c stepG_end kn_rely hK
 u_in kn_rely hK
 rw[stepG_unwind_enter rfl TR.f_done (nm_done link) rfl];simp only[goes_go];refine⟨by u_nil,?_⟩;walk_nrmf doneFn
 exact(ata (L:=link) (n:=n) (Low:=0) TR rfl (atQ _) _ hK).more
end Twin
end
section
namespace Twin
open Go Go.Proofs Go.Conc Go.RowKit Go.Maps fU
open Go.ConcR (WgAt KK)
def jo:Code->Code
 | .seq a _=>a
 |c=>c
def qU:Code:=Tryz.f54.body.getD .skip
def xI:Code:=gQ<|gQ<|gQ<|gQ<|gQ qU
def IJ:Code:=xG<|xG<|gQ<|jo xI
def zo:Code:=gQ xI
def Ez:Code:=xG<|xG<|gQ<|jo<|gQ zo
def EC:Code:=gQ<|gQ zo
structure Kd where
 x:Wx
 ms:List Ms
def Nb(R:aO)(x:Wx):dL:=⟨fun b=>R b\/b=x.nb\/b=x.cb,fun b=>R b\/b=x.nb\/b=x.cb,fun _ h=>h⟩
structure Gs where
 R:aO
 iQ:aO
 Ah:aO
 xb:Nat
 hv:Nat
 mr:Nat
 C:Nat
 sv:Nat
 ov:Nat
 ob:Nat
 Wg:Nat
 pb:Nat
 pc:Nat
 B:Nat
 Ba:Nat
 n:Nat
 N:Nat
 m0:Nat
 mb:Nat
 mc:Nat
 ma:Option Addr
 pl:List PL
 ms:List Ms
 w0:ay
def Gs.np(z:Gs):Nat:=z.pl.length
def Gs.marks(z:Gs)(i:Nat):List Ms:=z.ms.filter fun m:Ms=>decide<|m.k=1/\m.q=(i:Int)
def Gs.wx(z:Gs)(i:Nat)(p:PL)(nb cb c:Nat):Wx:=
 {p:={B:=z.B,Ba:=z.Ba,c:=c,ov:=z.ov,pb:=z.pb,po:=i*2,lb:=p.lb,bm:=p.bm,n:=z.n,s:=p.s,down:=p.out},i:=i,Wg:=z.Wg,hv:=z.hv,hb:=z.xb,nb:=nb,cb:=cb,ob:=z.ob,sv:=z.sv,C:=z.C,np:=z.np,pc:=z.pc}
def Gs.je(z:Gs):bV Kd where
 P:=prog
 Wg:=z.Wg
 C:=z.C
 ov:=z.ov
 m0:=z.m0
 iQ:=z.iQ
 Ah:=z.Ah
 ch k:=k.x.p.c
 side k:=Nb z.R k.x
 Iq k l S g w:=∃r,l++r=k.ms.map kX/\Gf prog (Nb z.R k.x) k.x.p.c z.ov (k.x.Fin<|Nb z.R k.x) r l S g w
 Fin k:=k.x.Fin<|Nb z.R k.x
 yE k:=k.ms.map kX
def Gs.fit(z:Gs):z.je.Fit:=fun _ _ _ _ _ h=>atx (X:=z.je) (fun _ _ _ _=>Iff.rfl) rfl h
def Gs.E(z:Gs):dL:=⟨fun b=>z.R b\/b=z.Wg,z.R,fun _ h=>.inl h⟩
def Gs.Good(z:Gs)(ks:List Kd):Prop:=∀(i:Nat) (k:Kd),ks[i]? =ae k->∃p nb cb c,z.pl[i]? =ae p/\k=⟨z.wx i p nb cb c,z.marks i⟩
structure Gs.BH(z:Gs)(w:ay):Prop where
 sv:aB w ⟨z.sv,0,af⟩=ae (aN (ae ⟨z.C,0,af⟩) z.np z.np)
 hv:aB w ⟨z.hv,0,af⟩=ae (az<|ae ⟨z.xb,0,af⟩)
 ps:aB w ⟨z.xb,68,af⟩=ae (aN (ae ⟨z.pb,0,af⟩) z.np z.pc)
 ob:aB w ⟨z.ob,0,af⟩=ae (.chan<|ae z.ov)
 c0:∀(i:Nat) (p:PL),z.pl[i]? =ae p->aB w ⟨z.pb,i*2,af⟩=ae (ptr p.lb)
 c1:∀(i:Nat) (p:PL),z.pl[i]? =ae p->aB w ⟨z.pb,i*2+1,af⟩=ae (.bool p.out)
 ms:∀(i:Nat) (m:Ms),z.ms[i]? =ae m->∀(j:Nat) (v:aA),m.cs[j]? =ae v->aB w ⟨z.mb,i*5+j,af⟩=ae v
 fr:∀b,z.R b->w.heap[b]? =z.w0.heap[b]?
 tape:w.tape=z.w0.tape
 os:w.os=z.w0.os
 output:w.output=z.w0.output
structure Gs.Ok(z:Gs):Prop where
 Qa:z.R z.sv
 Qb:z.R z.hv
 Qc:z.R z.xb
 Qd:z.R z.ob
 Gh:z.R z.pb
 Ui:z.ms≠[]->z.R z.mb/\z.ma=ae ⟨z.mb,0,af⟩
 Dt:¬z.R z.Wg
 nC:¬z.R z.C
 vK:¬z.R z.ov
 Yo:z.Wg≠z.C
 np:z.np<2147483648
 len:z.ms.length<=z.N
 small:z.N<2147483648
 fits:z.n+z.N<=eP
 es:∀p∈z.pl,(p.s.es.length+z.N)*40<=140737488355328
 wf:∀m∈z.ms,(Lit.int .i64 m.p).wf=true
 apart:jk z.pl
 q:∀m∈z.ms,m.k=1->∃i:Nat,m.q=i/\i<z.np
variable{z:Gs}{S:aO}{E:dL}{w w1:ay}
def Gs.BH.bg(h:z.BH w)(hO:z.Ok)(hE:∀b,z.R b->E.ro b)(hk:bu S E w w1):z.BH w1:=
 have key:∀{a:Addr} {v:aA},aB w a=ae v->z.R a.block->aB w1 a=ae v:=fun hc hr=>(aFf<|hk.ro _<|hE _ hr).t hc
 ⟨key h.sv hO.Qa,key h.hv hO.Qb,key h.ps hO.Qc,key h.ob hO.Qd,fun i p hp=>key (h.c0 i p hp) hO.Gh,fun i p hp=>key (h.c1 i p hp) hO.Gh,
  fun i m hm j v hv=>key (h.ms i m hm j v hv) (hO.Ui fun e=>by rw[e]at hm;simp at hm).1,fun b hb=>(hk.ro b<|hE b hb).t<|h.fr b hb,hk.tape.t h.tape,hk.os.t h.os,hk.output.t h.output⟩
def Gs.BH.og{es:Array Event}(h:z.BH w)(hO:z.Ok)(hS:∀b,z.R b->¬S b)(aK:∀b,z.R b->b<w.heap.size)(hG:jC S E w w1 es):z.BH w1:=
 have key:∀{a:Addr} {v:aA},aB w a=ae v->z.R a.block->aB w1 a=ae v:=fun hc hr=>(aFf<|hG.still _ (oJ hc)<|hS _ hr).t hc
 ⟨key h.sv hO.Qa,key h.hv hO.Qb,key h.ps hO.Qc,key h.ob hO.Qd,fun i p hp=>key (h.c0 i p hp) hO.Gh,fun i p hp=>key (h.c1 i p hp) hO.Gh,
  fun i m hm j v hv=>key (h.ms i m hm j v hv) (hO.Ui fun e=>by rw[e]at hm;simp at hm).1,fun b hb=>(hG.still b (aK b hb)<|hS b hb).t<|h.fr b hb,hG.tape.t h.tape,hG.os.t h.os,hG.output.t h.output⟩
def J6(o:Obj)(ho:∀B:au.dE,au.mZ B o):jC S E w (bz w o) #[]:=⟨rfl,rfl,rfl,by simp,fun b hb _=>aFe w o b hb,by simp,fun s _ _ h=>h.push<|ho<|au.vH s⟩
def IK{ty:dJ}{Wg:Nat}{st sm:Int}(h:WgAt ty Wg w st sm):Wg<w.heap.size:=(jF.1 h).1
def ajw(B:au.dE):au.mZ B (aG #[.chan af] 178):=fun v hv=>by
 simp at hv;subst hv;exact .chan fun x hx=>by cases hx
def Gi:Nat->Nat->List rD
 |_,0=>[]
 |j,r+1=>libs j++ .go::Gi (j+1) r
def at7(v:Nat)(ts:List rD)(i:Nat):msgs (libs v++ts) i=msgs ts i:=by unfold libs;split<;>rfl
def adg(ts:List rD)(i:Nat):∀(r j:Nat),msgs (Gi j r++ts) i=msgs ts i
 |0,_=>rfl
 |r+1,j=>by
  rw[Gi,CP,at7];exact adg ts i r<|j+1
def vM:List Ms->List rD
 |[]=>[]
 |m::l=>if m.k=1 then .send m.q.toNat (kX m)::vM l else vM l
def adh(i:Nat):∀(l:List Ms),(∀m∈l,m.k=1->∃j:Nat,m.q=j)->msgs (vM l) i=(l.filter fun m:Ms=>decide<|m.k=1/\m.q=(i:Int)).map kX
 |[],_=>rfl
 |m::l,h=>by
  have ih:=adh i l fun x hx=>h x<|WM _ hx;unfold vM;by_cases hk:m.k=1
  ·obtain⟨j,hj⟩:=h m (by simp) hk;rw[if_pos hk];simp only[msgs,hj,OM];by_cases e:i=j
   ·subst e;rw[if_pos rfl,ih,afK<|by simp[hk,hj]];rfl
   ·rw[if_neg e,ih,WJ (by simp[hk,hj]<;>omega)]
  ·rw[if_neg hk,ih,WJ<|by simp[hk]]
open Go.Conc.Lib Go.ConcR.Gen Go.ConcN.Gen in
def aua(v1 v2:aA):#[v1,v2]++gz ((addFn link).ntmps- #[v1,v2].size) ai=#[v1,v2,ai,ai,ai,ai,ai,ai,ai,ai,ai,ai,ai,ai,ai,ai,ai,ai,ai,ai,ai,ai,ai,ai,ai,ai,ai,ai,ai,ai,ai,ai,ai,ai,ai,ai,ai,ai,ai,ai,ai,ai,ai,ai,ai,ai,ai,ai,ai,ai,ai,ai,ai,ai,ai,ai,ai,ai,ai,ai,ai,ai,ai,ai,ai,ai,ai,ai,ai,ai,ai,ai,ai,ai,ai,ai,ai,ai,ai,ai,ai,ai,ai,ai,ai,ai,ai,ai,ai,ai,ai,ai,ai,ai,ai,ai,ai,ai,ai,ai,ai,ai,ai,ai,ai,ai,ai,ai,ai,ai,ai,ai,ai,ai,ai,ai,ai]:=by
 kernel_rfl
open Go.Conc.Lib Go.ConcR.Gen Go.ConcN.Gen in
def aub{K:Type}{X:bV K}{End:List K->dL->aO->bM->ay->Prop}{ts:List rD}{ks:List K}{E:dL}{S:aO}{b:bH}{a:Act}{ops:Array Oper}{i:Nat}{rest:List Nat}{k:List Item}{cs:List bH}{o:Oper}{args:Array Operand}{l7:Array dJ}(hP:X.P=prog)(ho:ops[i]? =ae o)(hw:Region.wanted o (yielded ops a.tmps)=true)(hk:b.kind≠.early)(aP:o.op=.call {callee:=.value<|.func 111,args,argTypes:=l7})(hv:args.map a.eval=#[az<|ae ⟨X.Wg,0,af⟩,ag ah 1])
 (hS:¬S X.Wg)(v:Nat)(aK:v<2147483647){w:ay}(hF:WgAt 177 X.Wg w ((v:Int)*KK) 0)(hE:E.ro X.Wg)
 (hT:∀w',bu S (less E X.Wg) w w'->WgAt 177 X.Wg w' (((v:Int)+1)*KK) 0->aC X.P true E (X.kE End ts ks 0 E) S (G (b.at (a.put o.dst<|dU #[])<|bW ops rest::k) cs) w'):
 aC X.P true E (X.kE End (libs v++ts) ks 0 E) S (G (b.at a<|bW ops (i::rest)::k) cs) w:=by
 have H:WgLib X.P link:=hP▸TR;refine aC.call ho hw hk aP H.f_add (nm_add link) rfl ?_;rw[hv,aua];have Ce:∀w',bu S (less E X.Wg) w w'->WgAt link.tWg X.Wg w' (((v:Int)+1)*KK) 0->aC X.P true E (X.kE End ts ks 0 E) S (G (b.at (a.put ((ops[i]?).bind (·.dst))<|dU #[])<|bW ops rest::k) cs) w':=by rw[ho];exact hT
 exact as6 (X:=X) (L:=link) H hS v aK (w0:=w) Ce w ⟨hF,bu.refl _ _ _,hE⟩
def auc(w:ay):(Instr.makeChan 178<|.int .i64 0).run prog w=.ok (.chan<|ae w.heap.size) (w.alloc<|.chan 0 #[] false 0 0 false):=by
 obtain⟨i,hi,_⟩:=aFq JI;exact run_makeChan (t:=178) underlying178 hi .i64 0 (by decide)<|by simp
def aud(w:ay)(es:Array Event):(Instr.makeChan 178<|.int .i64 0).events prog w es=es:=by
 obtain⟨i,hi,_⟩:=aFq JI;exact events_makeChan (t:=178) underlying178 hi .i64 0 (by decide) (by simp) es
variable{b:bH}{a:Act}{k:List Item}{cs:List bH}{w:ay}{ops:Array Oper}{i:Nat}{rest:List Nat}{o:Oper}{f:Fn}{c:Array aA}
def aue{P:fJ}{main:Bool}{d:Deferred}(ho:ops[i]? =ae o)(hw:Region.wanted o (yielded ops a.tmps)=true)
 (hk:b.kind≠.early)(hr:(dY a.eval o).run P w=.ok (.spawn d) w)(hd:d.target=.fn f c)(he:(dY a.eval o).events P w #[]=#[]):
 bK P main (G (b.at a<|bW ops (i::rest)::k) cs) w=.spawn (G (b.at (a.put o.dst ai)<|bW ops rest::k) cs) (born P d) w #[]:=by
 rw[stepG_spawn ho hw hk hr hd];unfold listed;rw[he,seen_none]
def aC.spawn{K:Type}{X:bV K}{End:List K->dL->aO->bM->ay->Prop}{ts:List rD}{ks:List K}{E:dL}{S:aO}(d:Deferred)(ho:ops[i]? =ae o)(hw:Region.wanted o (yielded ops a.tmps)=true)
 (hk:b.kind≠.early)(hr:∀w1,(dY a.eval o).run X.P w1=.ok (.spawn d) w1)(hd:d.target=.fn f c)(he:∀w1,(dY a.eval o).events X.P w1 #[]=#[])
 (h:∀w1,bu S E w w1->∃κ Sk S1,aC X.P false (X.side κ) (X.Iq κ []) Sk (born X.P d) w1/\(∀b,Sk b->S b)/\S (X.ch κ)/\¬Sk (X.ch κ)/\¬(X.side κ).ro (X.ch κ)/\(∀b,(X.side κ).ro b->S b\/E.rd b)/\(∀b,Sk b->¬(X.side κ).ro b)/\
   (∀b,S1 b->S b/\¬Sk b/\¬(X.side κ).ro b/\b≠X.ch κ)/\(∃s r,w1.heap[X.ch κ]? =ae (.chan 0 #[] false s r false))/\msgs ts ks.length=X.yE κ/\
   aC X.P true E (X.kE End ts (ks++[κ]) 0 E) S1 (G (b.at (a.put o.dst ai)<|bW ops rest::k) cs) w1):
 aC X.P true E (X.kE End (.go::ts) ks 0 E) S (G (b.at a<|bW ops (i::rest)::k) cs) w:=
 aC.stop fun w1 aT=>by
  obtain⟨κ,Sk,S1,h1,h2,h3,h4,h5,h6,h7,h8,h9,h10,Lj⟩:=h w1 aT;exact⟨rfl,rfl,_,_,κ,Sk,E,S1,aue ho hw hk (hr w1) hd<|he w1,h1,h2,h3,h4,h5,h6,h7,h8,fun _ hb=>.inl hb,fun _ hb=>.inl hb,h9,h10,Lj⟩
end Twin
end
section
namespace Twin
open Go Go.Proofs Go.Conc Go.RowKit Go.Maps fU
open Go.ConcR (WgAt KK)
structure Gs.o6(z:Gs)(ks:List Kd)(S:aO)(w:ay):Prop where
 jX:z.BH w
 dZ:∀(i:Nat) (p:PL),ks.length<=i->z.pl[i]? =ae p->iO S w z.B p.lb p.bm z.n p.v p.s
 row:∃cs:Array aA,fE S w z.mr cs 178/\cs.size=z.np/\∀(i:Nat) (k:Kd),ks[i]? =ae k->cs[i]? =ae (.chan<|ae k.x.p.c)
 dX:∀(i:Nat) (p:PL),ks.length<=i->z.pl[i]? =ae p->¬lT p.lb p.bm p.v z.mr
 low:∀b,S b->b<w.heap.size
 Ak:∀b,z.R b->¬S b
 base:z.Ba<=w.heap.size
 zq:∀b,z.R b->b<w.heap.size
 Dt:¬S z.Wg
 vK:¬S z.ov/\z.ov<w.heap.size
variable{z:Gs}{ks:List Kd}{S:aO}{w:ay}
def Gs.o6.bg{E:dL}{w1:ay}(h:z.o6 ks S w)(hO:z.Ok)(hE:∀b,z.R b->E.ro b)(hk:bu S E w w1):z.o6 ks S w1:=
 ⟨h.jX.bg hO hE hk,fun i p h1 h2=>(h.dZ i p h1 h2).bg hk,let ⟨cs,h1,h2⟩:=h.row;⟨cs,h1.bg hk,h2⟩,h.dX,yH h.low hk,h.Ak,fG h.base hk.size,fun b hb=>gu (h.zq b hb) hk.size,h.Dt,h.vK.1,gu h.vK.2 hk.size⟩
def Gs.o6.alloc(h:z.o6 ks S w)(hO:z.Ok)(hW:z.Wg<w.heap.size)(o:Obj)(ho:∀B:au.dE,au.mZ B o):z.o6 ks (grow S w<|w.alloc o) (bz w o):=by
 have hG:jC S z.E w (bz w o) #[]:=J6 o ho;refine⟨h.jX.og hO h.Ak h.zq hG,fun i p h1 h2=>(h.dZ i p h1 h2).alloc o,let ⟨cs,h1,h2⟩:=h.row;⟨cs,h1.alloc o,h2⟩,h.dX,IG h.low o,fun b hb hx=>hx.e (h.Ak b hb) fun y=>by have:=h.zq b hb;omega,by simp;have:=h.base;omega,fun b hb=>by have:=h.zq b hb;simp<;>omega,fun hx=>hx.e h.Dt fun y=>by omega,fun hx=>hx.e h.vK.1 fun y=>by have:=h.vK.2;omega,by have:=h.vK.2;simp<;>omega⟩
def Gs.o6.set(h:z.o6 ks S w)(hO:z.Ok){b:Nat}(hb:S b)(hm:b≠z.mr)(hl:∀(i:Nat) (p:PL),ks.length<=i->z.pl[i]? =ae p->¬lT p.lb p.bm p.v b)(v:aA)(hv:∀B:au.dE,(∀b,B.dB b->¬S b)->au.aI B v):z.o6 ks S (aX w ⟨b,0,af⟩ v):=by
 have hG:jC S z.E w (aX w ⟨b,0,af⟩ v) #[]:=IB hb hv (by simp);have hs:∀x,x≠b->(aX w ⟨b,0,af⟩ v).heap[x]? =w.heap[x]? :=fun x hx=>aFg w ⟨b,0,af⟩ v x hx;refine⟨h.jX.og hO h.Ak h.zq hG,fun i p h1 h2=>?_,?_,h.dX,fun x hx=>by simpa using h.low x hx,h.Ak,by simpa using h.base,fun x hx=>by simpa using h.zq x hx,h.Dt,h.vK.1,by simpa using h.vK.2⟩
 ·have:=(h.dZ i p h1 h2).TW (w':=aX w ⟨b,0,af⟩ v) fun x hx=>hs x fun e=>hl i p h1 h2<|e▸hx;rwa[tY<|by simp]at this
 ·obtain⟨cs,h1,h2⟩:=h.row;exact⟨cs,⟨h1.1,by rw[hs _<|Ne.s hm];exact h1.2⟩,h2⟩
def auf{End:List Kd->dL->aO->bM->ay->Prop}{ts:List rD}{u:Nat->aA}{cs:List bH}(hO:z.Ok)(xX:∀i,msgs ts i=(z.marks i).map kX)
 (hn:∀(ks:List Kd) (t9 t10 t33 t34 t35 t36 t37 t38 t39 t40 t41 t42:aA) (S:aO) (w:ay),ks.length=z.np->z.Good ks->z.o6 ks S w->WgAt 177 z.Wg w ((z.np:Int)*KK) 0->
   aC prog true z.E (z.je.kE End ts ks 0 z.E) S (G ((base 54).at ⟨#[az<|ae ⟨z.xb,0,af⟩,.slice z.ma z.ms.length z.mc,az<|ae ⟨z.hv,0,af⟩,u 3,u 4,aN (ae ⟨z.mr,0,af⟩) z.np z.np,az<|ae ⟨z.sv,0,af⟩,az<|ae ⟨z.ob,0,af⟩,az<|ae ⟨z.Wg,0,af⟩,t9,t10,u 11,u 12,u 13,u 14,u 15,u 16,u 17,u 18,u 19,u 20,u 21,u 22,u 23,u 24,u 25,u 26,u 27,u 28,u 29,u 30,ag ah z.np,ag ah z.np,t33,t34,t35,t36,t37,t38,t39,t40,t41,t42,u 43,u 44,u 45,u 46,u 47,u 48,u 49,u 50,u 51,u 52,u 53,u 54,u 55,u 56,u 57,u 58,u 59,u 60,u 61,u 62,u 63,u 64,u 65,u 66,u 67,u 68,u 69,u 70,u 71],[]⟩ [.code zo]) cs) w):
 ∀(r:Nat) (ks:List Kd) (t9 t10 t33 t34 t35 t36 t37 t38 t39 t40 t41 t42:aA) (S:aO) (w:ay),ks.length+r=z.np->z.Good ks->z.o6 ks S w->WgAt 177 z.Wg w ((ks.length:Int)*KK) 0->
  aC prog true z.E (z.je.kE End (Gi ks.length r++ts) ks 0 z.E) S (G ((base 54).at ⟨#[az<|ae ⟨z.xb,0,af⟩,.slice z.ma z.ms.length z.mc,az<|ae ⟨z.hv,0,af⟩,u 3,u 4,aN (ae ⟨z.mr,0,af⟩) z.np z.np,az<|ae ⟨z.sv,0,af⟩,az<|ae ⟨z.ob,0,af⟩,az<|ae ⟨z.Wg,0,af⟩,t9,t10,u 11,u 12,u 13,u 14,u 15,u 16,u 17,u 18,u 19,u 20,u 21,u 22,u 23,u 24,u 25,u 26,u 27,u 28,u 29,u 30,ag ah z.np,ag ah ks.length,t33,t34,t35,t36,t37,t38,t39,t40,t41,t42,u 43,u 44,u 45,u 46,u 47,u 48,u 49,u 50,u 51,u 52,u 53,u 54,u 55,u 56,u 57,u 58,u 59,u 60,u 61,u 62,u 63,u 64,u 65,u 66,u 67,u 68,u 69,u 70,u 71],[]⟩ [.code IJ,.inLoop IJ,.inBlock 0,.code zo]) cs) w:=by
 intro r
 induction r with
 |zero=>
  intro ks t9 t10 t33 t34 t35 t36 t37 t38 t39 t40 t41 t42 S w hl hg h dh
  have Et:ks.length=z.np:=by omega
  have Jo:=hn ks t9 t10 (aF false) t34 t35 t36 t37 t38 t39 t40 t41 t42 S w Et hg h<|Et▸dh
  simp only[Gi,wY]
  generalize z.je.kE End ts ks 0 z.E=St at Jo⊢
  generalize Item.code zo=IR at Jo⊢
  generalize Dq:Item.inLoop IJ=IL
  simp only[IJ,xI,qU,Tryz.f54,ik,gQ,jo,xG]
  rw[Et]
  refine aC.sq ?_
  refine aC.reg [0] rfl ?_
  refine aC.mute (aF false) rfl rfl (by decide) (fun _=>by go_simp) (fun _=>by simp[go_sem]) ?_
  walk_nrm
  refine aC.gK ?_
  refine aC.sq ?_
  refine aC.ctl rfl (fun _=>aFp (t:=false)<|by rfl) ?_
  refine aC.ctl rfl (fun _=>aGu (k':=[IR]) (by rw[<-Dq];rfl)) ?_
  exact Jo
 |succ r ih=>
  intro ks t9 t10 t33 t34 t35 t36 t37 t38 t39 t40 t41 t42 S w hl hg h dh
  have hj:ks.length<z.np:=by omega
  obtain⟨p,hp⟩:∃p,z.pl[ks.length]? =ae p:=⟨_,eY hj⟩
  have Et:=hO.np
  have qA:∀b,z.R b->z.E.ro b:=fun b hb=>.inl hb
  simp only[Gi,CP,nY]
  generalize Qe:Item.code zo=IR
  generalize Dq:Item.inLoop IJ=IL
  simp only[IJ,xI,qU,Tryz.f54,ik,gQ,jo,xG]
  refine aC.sq ?_
  refine aC.reg [0] rfl ?_
  refine aC.mute (aF true) rfl rfl (by decide) (fun _=>by go_simp) (fun _=>by simp[go_sem]) ?_
  walk_nrm
  refine aC.gK ?_
  refine aC.sq ?_
  refine aC.ctl rfl (fun _=>aFp (t:=true)<|by rfl) ?_
  refine aC.ctl rfl (fun _=>aFr) ?_
  refine aC.sq ?_
  refine aC.ctl rfl (fun _=>aFs) ?_
  refine aC.sq ?_
  refine aC.reg [0,1,2] rfl ?_
  refine aC.mu rfl rfl ?_
  walk_nrm
  refine aC.kQ rfl rfl (by decide) fun w1 aT=>?_
  refine⟨az<|ae ⟨w1.heap.size,0,af⟩,w1.alloc<|aG #[ag ah 0] 3,.inl<|by go_simp,xC (by simp[go_sem])<|vJ _,?_⟩
  replace h:=h.bg hO qA aT
  replace dh:=dh.of_block<|aT.ro z.Wg<|.inr rfl
  have Nc:z.Wg<w1.heap.size:=IK dh
  have hLn:∀(i:Nat) (q:PL),ks.length<=i->z.pl[i]? =ae q->∀b,lT q.lb q.bm q.v b->b<w1.heap.size:=fun i q h1 h2 b hb=>h.low b<|(h.dZ i q h1 h2).sub b hb
  have hmr:z.mr<w1.heap.size:=let ⟨_,h1,_⟩:=h.row;h.low _ h1.1
  have hRn:=h.zq
  have hY:=fE.new S w1 #[ag ah 0] 3
  replace dh:=dh.of_block (w₁:=w1.alloc<|aG #[ag ah 0] 3)<|aFe w1 _ _ Nc
  replace h:=h.alloc hO Nc (aG #[ag ah 0] 3) fun _=>Tz rfl
  clear aT
  generalize grow S w1 (w1.alloc<|aG #[ag ah 0] 3)=S at*
  generalize w1.alloc (aG #[ag ah 0] 3)=w at*
  generalize w1.heap.size=nb at*
  walk_nrm
  refine aC.kQ rfl rfl (by decide) fun w1 aT=>?_
  replace h:=h.bg hO qA aT
  replace dh:=dh.of_block<|aT.ro z.Wg<|.inr rfl
  replace hY:=hY.bg aT
  have q0:=hY.cell (o:=0) rfl
  have r0:=hY.free 0
  refine⟨ai,aX w1 ⟨nb,0,af⟩<|ag ah ks.length,.inr ⟨rfl,by go_simp⟩,IB hY.1 (fun _ _=>.int) fun e he=>?_,?_⟩
  ·simp[go_sem,storedEv,q0,r0]at he
   subst he
   exact .inl hY.1
  rw[tY<|by simp]
  replace h:=h.set hO hY.1 (Nat.ne_of_gt hmr) (fun i q h1 h2 hx=>OQ _<|hLn i q h1 h2 _ hx) (ag ah ks.length) fun _ _=>.int
  replace dh:=dh.of_block (w₁:=aX w1 ⟨nb,0,af⟩<|ag ah ks.length)<|aFg w1 _ _ _<|aaL Nc
  replace hY:=hY.set 0<|ag ah ks.length
  change fE S _ nb #[ag ah ks.length] 3 at hY
  clear aT q0 r0
  generalize w1.setCell ⟨nb,0,af⟩ (ag ah ks.length)=w at*
  walk_nrm
  refine aC.gK ?_
  refine aC.sq ?_
  refine aC.reg [0,1,2] rfl ?_
  refine aC.kQ rfl rfl (by decide) fun w1 aT=>?_
  replace h:=h.bg hO qA aT
  replace dh:=dh.of_block<|aT.ro z.Wg<|.inr rfl
  replace hY:=hY.bg aT
  refine⟨.chan<|ae w1.heap.size,w1.alloc<|.chan 0 #[] false 0 0 false,.inl (by go_simp;rw[auc];rfl),xC (by simp[go_sem,aud]) (J6 _ fun _ v hv=>by simp at hv),?_⟩
  have hnc:nb<w1.heap.size:=h.low nb hY.1
  have mD:grow S w1 (w1.alloc<|.chan 0 #[] false 0 0 false) w1.heap.size/\(w1.alloc<|.chan 0 #[] false 0 0 false).heap[w1.heap.size]? =ae (.chan 0 #[] false 0 0 false):=⟨.inr ⟨dI _,by simp⟩,aFb _ _⟩
  have Qg:z.Wg<w1.heap.size:=IK dh
  replace hY:=hY.alloc<|.chan 0 #[] false 0 0 false
  replace dh:=dh.of_block (w₁:=w1.alloc<|.chan 0 #[] false 0 0 false)<|aFe w1 _ _ Qg
  replace h:=h.alloc hO Qg (.chan 0 #[] false 0 0 false) fun _ v hv=>by simp at hv
  clear aT
  generalize grow S w1 (w1.alloc<|.chan 0 #[] false 0 0 false)=S at*
  generalize w1.alloc (.chan 0 #[] false 0 0 false)=w at*
  generalize w1.heap.size=c at*
  walk_nrm
  refine aC.kQ rfl rfl (by decide) fun w1 aT=>?_
  replace h:=h.bg hO qA aT
  replace dh:=dh.of_block<|aT.ro z.Wg<|.inr rfl
  replace hY:=hY.bg aT
  replace mD:S c/\w1.heap[c]? =ae (.chan 0 #[] false 0 0 false):=⟨mD.1,by rw[aT.own c mD.1];exact mD.2⟩
  refine⟨az<|ae ⟨w1.heap.size,0,af⟩,w1.alloc<|aG #[.chan af] 178,.inl<|by go_simp,xC (by simp[go_sem])<|J6 _ ajw,?_⟩
  have auh:c<w1.heap.size:=h.low c mD.1
  have hZ:=fE.new S w1 #[.chan af] 178
  have ajx:z.Wg<w1.heap.size:=IK dh
  replace hY:=hY.alloc<|aG #[.chan af] 178
  replace mD:grow S w1 (w1.alloc<|aG #[.chan af] 178) c/\(w1.alloc<|aG #[.chan af] 178).heap[c]? =ae (.chan 0 #[] false 0 0 false):=⟨.inl mD.1,by rw[aFe w1 _ _ auh];exact mD.2⟩
  replace dh:=dh.of_block (w₁:=w1.alloc<|aG #[.chan af] 178)<|aFe w1 _ _ ajx
  replace h:=h.alloc hO ajx (aG #[.chan af] 178) ajw
  clear aT
  generalize grow S w1 (w1.alloc<|aG #[.chan af] 178)=S at*
  generalize w1.alloc (aG #[.chan af] 178)=w at*
  generalize w1.heap.size=cb at*
  walk_nrm
  refine aC.kQ rfl rfl (by decide) fun w1 aT=>?_
  replace h:=h.bg hO qA aT
  replace dh:=dh.of_block<|aT.ro z.Wg<|.inr rfl
  replace hY:=hY.bg aT
  replace hZ:=hZ.bg aT
  replace mD:S c/\w1.heap[c]? =ae (.chan 0 #[] false 0 0 false):=⟨mD.1,by rw[aT.own c mD.1];exact mD.2⟩
  have q0:=hZ.cell (o:=0) rfl
  have r0:=hZ.free 0
  have pJ:∀B:au.dE,(∀b,B.dB b->¬S b)->au.aI B (.chan<|ae c):=fun B hB=>.chan fun y hy zz=>by cases hy;exact hB _ zz mD.1
  refine⟨ai,aX w1 ⟨cb,0,af⟩<|.chan<|ae c,.inr ⟨rfl,by go_simp⟩,IB hZ.1 pJ fun e he=>?_,?_⟩
  ·simp[go_sem,aGr,storedEv,q0,r0]at he
   subst he
   exact .inl hZ.1
  rw[tY<|by simp]
  replace h:=h.set hO hZ.1 (by omega) (fun i q h1 h2 hx=>by have:=hLn i q h1 h2 _ hx;omega) (.chan<|ae c) pJ
  replace dh:=dh.of_block (w₁:=aX w1 ⟨cb,0,af⟩<|.chan<|ae c)<|aFg w1 _ _ _ (by simp<;>omega)
  replace hY:fE S (aX w1 ⟨cb,0,af⟩<|.chan<|ae c) nb #[ag ah ks.length] 3:=⟨hY.1,by rw[aFg w1 _ _ _ (by simp<;>omega)];exact hY.2⟩
  replace mD:S c/\(aX w1 ⟨cb,0,af⟩<|.chan<|ae c).heap[c]? =ae (.chan 0 #[] false 0 0 false):=⟨mD.1,by rw[aFg w1 _ _ _ (by simp<;>omega)];exact mD.2⟩
  replace hZ:=hZ.set 0<|.chan<|ae c
  change fE S _ cb #[.chan<|ae c] 178 at hZ
  clear aT q0 r0 pJ
  generalize w1.setCell ⟨cb,0,af⟩ (.chan<|ae c)=w at*
  walk_nrm
  refine aC.gK ?_
  refine aC.sq ?_
  refine aC.reg [0,1,2,3,4] rfl ?_
  refine aC.mu rfl rfl ?_
  walk_nrm
  refine aC.val (ag ah ks.length) rfl rfl (by decide) (fun w1 aT=>?_) (fun w1 aT e he=>?_) ?_
  ·have q0:=(hY.bg aT).cell (o:=0) rfl
   go_simp
  ·have q0:=(hY.bg aT).cell (o:=0) rfl
   simp[go_sem,q0]at he
   subst he
   exact .inl hY.1
  walk_nrm
  refine aC.val (.chan<|ae c) rfl rfl (by decide) (fun w1 aT=>?_) (fun w1 aT e he=>?_) ?_
  ·have q0:=(hZ.bg aT).cell (o:=0) rfl
   go_simp
  ·have q0:=(hZ.bg aT).cell (o:=0) rfl
   simp[go_sem,q0]at he
   subst he
   exact .inl hZ.1
  walk_nrm
  refine aC.mute (az<|ae ⟨z.mr,ks.length,af⟩) rfl rfl (by decide) (fun _=>by go_simp) (fun _=>by simp[go_sem];rw[aFR _ _ _ _ _ _ (by kernel_rfl) ⟨by omega,by omega⟩]) ?_
  walk_nrm
  refine aC.kQ rfl rfl (by decide) fun w1 aT=>?_
  replace h:=h.bg hO qA aT
  replace dh:=dh.of_block<|aT.ro z.Wg<|.inr rfl
  replace hY:=hY.bg aT
  replace hZ:=hZ.bg aT
  replace mD:S c/\w1.heap[c]? =ae (.chan 0 #[] false 0 0 false):=⟨mD.1,by rw[aT.own c mD.1];exact mD.2⟩
  obtain⟨cells,hM,hMs,Yp⟩:=h.row
  have q0:=hM.cell (o:=ks.length)<|Hf<|by omega
  have r0:=hM.free ks.length
  have pJ:∀B:au.dE,(∀b,B.dB b->¬S b)->au.aI B (.chan<|ae c):=fun B hB=>.chan fun y hy zz=>by cases hy;exact hB _ zz mD.1
  refine⟨ai,aX w1 ⟨z.mr,ks.length,af⟩<|.chan<|ae c,.inr ⟨rfl,by go_simp⟩,IB hM.1 pJ fun e he=>?_,?_⟩
  ·simp[go_sem,aGr,storedEv,q0,r0]at he
   subst he
   exact .inl hM.1
  rw[tY<|by simp]
  have OB:∀b,b≠z.mr->(aX w1 ⟨z.mr,ks.length,af⟩<|.chan<|ae c).heap[b]? =w1.heap[b]? :=fun b hb=>aFg w1 _ _ _ hb
  have hGm:jC S z.E w1 (aX w1 ⟨z.mr,ks.length,af⟩<|.chan<|ae c) #[]:=IB hM.1 pJ<|by simp
  have xY:=hM.set ks.length<|.chan<|ae c
  have lq:=h.jX.og hO h.Ak h.zq hGm
  have Qh:∀(i:Nat) (q:PL),ks.length<=i->z.pl[i]? =ae q->iO S (aX w1 ⟨z.mr,ks.length,af⟩<|.chan<|ae c) z.B q.lb q.bm z.n q.v q.s:=fun i q h1 h2=>by
   have:=(h.dZ i q h1 h2).TW (w':=aX w1 ⟨z.mr,ks.length,af⟩<|.chan<|ae c) fun x hx=>OB x fun e=>h.dX i q h1 h2<|e▸hx;rwa[tY<|by simp]at this
  have Ll:∀b,S b->b<(aX w1 ⟨z.mr,ks.length,af⟩<|.chan<|ae c).heap.size:=fun b hb=>by simpa using h.low b hb
  have Qi:z.Ba<=(aX w1 ⟨z.mr,ks.length,af⟩<|.chan<|ae c).heap.size:=by simpa using h.base
  have Rh:∀b,z.R b->b<(aX w1 ⟨z.mr,ks.length,af⟩<|.chan<|ae c).heap.size:=fun b hb=>by simpa using h.zq b hb
  have ajz:=h.dX
  have V6:=h.Ak
  have hnW:=h.Dt
  have aui:=h.vK.1
  have Uj:z.ov<(aX w1 ⟨z.mr,ks.length,af⟩<|.chan<|ae c).heap.size:=by simpa using h.vK.2
  replace dh:=dh.of_block<|OB z.Wg fun e=>hnW<|e▸hM.1
  replace hY:fE S (aX w1 ⟨z.mr,ks.length,af⟩<|.chan<|ae c) nb #[ag ah ks.length] 3:=⟨hY.1,by rw[OB _<|by omega];exact hY.2⟩
  replace hZ:fE S (aX w1 ⟨z.mr,ks.length,af⟩<|.chan<|ae c) cb #[.chan<|ae c] 178:=⟨hZ.1,by rw[OB _<|by omega];exact hZ.2⟩
  replace mD:S c/\(aX w1 ⟨z.mr,ks.length,af⟩<|.chan<|ae c).heap[c]? =ae (.chan 0 #[] false 0 0 false):=⟨mD.1,by rw[OB _<|by omega];exact mD.2⟩
  clear aT q0 r0 pJ hGm h hM
  generalize w1.setCell ⟨z.mr,ks.length,af⟩ (.chan<|ae c)=w at*
  walk_nrm
  refine aC.gK ?_
  refine aC.sq ?_
  refine aC.reg [0] rfl ?_
  refine aub (X:=z.je) rfl rfl rfl (by decide) rfl (by walk_nrm;rfl) hnW ks.length (by omega) dh (.inr rfl) fun w' hk A7=>?_
  have auj:∀b,z.R b->(less z.E z.Wg).ro b:=fun b hb=>⟨.inl hb,fun e=>hO.Dt<|e▸hb⟩
  replace lq:=lq.bg hO auj hk
  replace Qh:∀(i:Nat) (q:PL),ks.length<=i->z.pl[i]? =ae q->iO S w' z.B q.lb q.bm z.n q.v q.s:=fun i q h1 h2=>(Qh i q h1 h2).bg hk
  replace xY:=xY.bg hk
  replace hY:=hY.bg hk
  replace hZ:=hZ.bg hk
  replace mD:S c/\w'.heap[c]? =ae (.chan 0 #[] false 0 0 false):=⟨mD.1,by rw[hk.own c mD.1];exact mD.2⟩
  replace Ll:=yH Ll hk
  replace Qi:=fG Qi hk.size
  replace Uj:=gu Uj hk.size
  replace Rh:∀b,z.R b->b<w'.heap.size:=fun b hb=>gu (Rh b hb) hk.size
  clear hk dh
  walk_nrm
  refine aC.gK ?_
  refine aC.reg [0,1] rfl ?_
  refine aC.mu rfl rfl ?_
  walk_nrm
  refine aC.spawn (X:=z.je) (z.wx ks.length p nb cb c).dc rfl rfl (by decide) (fun _=>by go_simp;rfl) rfl (fun _=>by simp[go_sem]) fun w1 hk=>?_
  replace lq:=lq.bg hO qA hk
  replace Qh:∀(i:Nat) (q:PL),ks.length<=i->z.pl[i]? =ae q->iO S w1 z.B q.lb q.bm z.n q.v q.s:=fun i q h1 h2=>(Qh i q h1 h2).bg hk
  replace xY:=xY.bg hk
  replace hY:=hY.bg hk
  replace hZ:=hZ.bg hk
  replace mD:S c/\w1.heap[c]? =ae (.chan 0 #[] false 0 0 false):=⟨mD.1,by rw[hk.own c mD.1];exact mD.2⟩
  replace Ll:=yH Ll hk
  replace Qi:=fG Qi hk.size
  replace Uj:=gu Uj hk.size
  replace Rh:∀b,z.R b->b<w1.heap.size:=fun b hb=>gu (Rh b hb) hk.size
  replace A7:=A7.of_block<|hk.ro z.Wg<|.inr rfl
  clear hk
  have hML:=Qh ks.length p (dI _) hp
  have hLb:∀b,lT p.lb p.bm p.v b->b<nb:=hLn ks.length p (dI _) hp
  have Yq:∀b,lT p.lb p.bm p.v b->S b:=hML.sub
  have uX:∀b,lT p.lb p.bm p.v b->¬(z.R b\/b=nb\/b=cb):=fun b hb hx=>by
   rcases hx with hx|hx|hx
   ·exact V6 b hx<|Yq b hb
   ·have:=hLb b hb;omega
   ·have:=hLb b hb;omega
  have auk:(z.wx ks.length p nb cb c).p.log []=p.s:=by cases hx:p.out<;>simp[Pl.log,Gs.wx,hx]
  have aul:(z.wx ks.length p nb cb c).p.pK []=[]:=by simp[Pl.pK]
  refine⟨⟨z.wx ks.length p nb cb c,z.marks ks.length⟩,lT p.lb p.bm p.v,fun b=>S b/\¬lT p.lb p.bm p.v b/\¬(z.R b\/b=nb\/b=cb)/\b≠c,?_,Yq,mD.1,fun hx=>?_,fun hx=>?_,fun b hb=>?_,uX,fun b hb=>hb,⟨0,0,mD.2⟩,?_,?_⟩
  ·refine(atP (x:=z.wx ks.length p nb cb c) (E:=Nb z.R<|z.wx ks.length p nb cb c) (N:=z.N) (ms:=z.marks ks.length) ⟨.inl hO.Qa,.inr<|.inl rfl,.inl hO.Qb,.inl hO.Qc,.inr<|.inr rfl,.inl hO.Qd,hj,rfl,hO.np⟩ ⟨hO.fits,hO.es p<|gZ hp⟩ (fG (D8 _ _) hO.len) (fun m hm=>hO.wf m (Hq.1 hm).1) (fun b hb hx=>uX b hx hb) ?_ ⟨lq.sv,hY.cell rfl,lq.hv,lq.ps,hZ.cell rfl,lq.ob⟩).z fun S' g' w' hs=>⟨_,rfl,hs⟩
   refine⟨⟨p.v,?_,by simp[Value.ownBlock]⟩,⟨?_,by simp[Value.ownBlock]⟩,fun _=>rfl,lq.c0 ks.length p hp,lq.c1 ks.length p hp,.inl hO.Gh,fun hx=>V6 _ hO.Gh<|Yq _ hx,fun b hb=>Ll b<|Yq b hb,Qi,fun b hb=>?_⟩
   ·rw[auk]
    exact hML.own
   ·rw[aul]
    exact aFm _ _ _ _
   ·rcases hb with hb|hb|hb
    ·exact Rh b hb
    ·rw[hb];exact Ll nb hY.1
    ·rw[hb];exact Ll cb hZ.1
  ·have:=hLb _ hx
   simp only[Gs.je,Gs.wx]at this
   omega
  ·rcases hx with hx|hx|hx
   ·have:=hRn _ hx
    simp only[Gs.je,Gs.wx]at this
    omega
   ·simp only[Gs.je,Gs.wx]at hx;omega
   ·simp only[Gs.je,Gs.wx]at hx;omega
  ·rcases hb with hb|hb|hb
   ·exact .inr hb
   ·rw[hb];exact .inl hY.1
   ·rw[hb];exact .inl hZ.1
  ·rw[adg]
   exact xX _
  have fZ:∀b,S b->b<nb->¬lT p.lb p.bm p.v b->¬z.R b->(fun b=>S b/\¬lT p.lb p.bm p.v b/\¬(z.R b\/b=nb\/b=cb)/\b≠c) b:=fun b h1 h2 h3 h4=>⟨h1,h3,fun hx=>by
   rcases hx with hx|hx|hx
   ·exact h4 hx
   ·omega
   ·omega,by omega⟩
  have hlen:(ks++[(⟨z.wx ks.length p nb cb c,z.marks ks.length⟩:Kd)]).length=ks.length+1:=by simp
  have aum:z.o6 (ks++[(⟨z.wx ks.length p nb cb c,z.marks ks.length⟩:Kd)]) (fun b=>S b/\¬lT p.lb p.bm p.v b/\¬(z.R b\/b=nb\/b=cb)/\b≠c) w1:=by
   refine⟨lq,fun i q h1 h2=>?_,⟨_,⟨fZ _ xY.1 hmr (ajz _ _ (dI _) hp) fun hx=>V6 _ hx xY.1,xY.2⟩,by simpa using hMs,fun i k hk=>?_⟩,fun i q h1 h2=>ajz i q (by omega) h2,fun b hb=>Ll b hb.1,fun b hb hx=>V6 b hb hx.1,Qi,Rh,fun hx=>hnW hx.1,fun hx=>aui hx.1,Uj⟩
   ·have hm:=Qh i q (by omega) h2;have DU:∀b,lT q.lb q.bm q.v b->(fun b=>S b/\¬lT p.lb p.bm p.v b/\¬(z.R b\/b=nb\/b=cb)/\b≠c) b:=fun b hb=>fZ b (hm.sub b hb) (hLn i q (by omega) h2 b hb) (fun hx=>hO.apart i ks.length q p (by omega) h2 hp b hb hx) fun hx=>V6 b hx<|hm.sub b hb;exact hm.own.z DU
   ·rw[afH];rcases WZ hk with⟨h1,h2⟩|⟨rfl,rfl⟩
    ·rw[if_neg<|by omega];exact Yp i k h2
    ·rw[if_pos rfl,if_pos<|by omega];rfl
  have aun:z.Good (ks++[(⟨z.wx ks.length p nb cb c,z.marks ks.length⟩:Kd)]):=fun i k hk=>by
   rcases WZ hk with⟨h1,h2⟩|⟨rfl,rfl⟩
   ·exact hg i k h2
   ·exact⟨p,nb,cb,c,hp,rfl⟩
  have hgo:=fun t33 t34 t35 t36 t37 t38 t39 t40 t41 t42=>ih (ks++[(⟨z.wx ks.length p nb cb c,z.marks ks.length⟩:Kd)]) (az<|ae ⟨nb,0,af⟩) (az<|ae ⟨cb,0,af⟩) t33 t34 t35 t36 t37 t38 t39 t40 t41 t42 _ w1 (by rw[hlen];omega) aun aum (by rw[hlen];push_cast;exact A7)
  rw[hlen]at hgo
  generalize(fun b=>S b/\¬lT p.lb p.bm p.v b/\¬(z.R b\/b=nb\/b=cb)/\b≠c)=S1 at hgo⊢
  generalize ks++[(⟨z.wx ks.length p nb cb c,z.marks ks.length⟩:Kd)]=zi at hgo⊢
  generalize z.je.kE End (Gi (ks.length+1) r++ts) zi 0 z.E=St at hgo⊢
  change aC prog true z.E St S1 _ w1
  walk_nrm
  refine aC.gK ?_
  refine aC.ctl rfl (fun _=>aFL) ?_
  refine aC.reg [0,1] rfl ?_
  refine aC.mute (ag ah ((ks.length+1:Nat):Int)) rfl rfl (by decide) (fun _=>by go_simp;exact wrap_i64 (by omega)<|by omega) (fun _=>by simp[go_sem]) ?_
  walk_nrm
  refine aC.mu rfl rfl ?_
  walk_nrm
  refine aC.gK ?_
  rw[<-Dq]
  refine aC.ctl rfl (fun _=>aFV) ?_
  rw[Qe]at hgo
  exact hgo _ _ _ _ _ _ _ _ _ _
end Twin
end
section
namespace Twin
open Go Go.Proofs Go.Conc Go.RowKit Go.Maps fU
open Go.ConcR (WgAt KK)
def fQ(l:List Ms):List Ms:=l.filter fun m=>decide<|m.k=2
variable{z:Gs}{ks:List Kd}{S:aO}{w w':ay}
def Gs.o6.grown{row:Option Nat}(h:z.o6 ks S w)(hl:ks.length=z.np)(hO:z.Ok)(hW:z.Wg<w.heap.size)(hg:w.grownBy w' row)(hr:∀k,row=ae k->S k/\k≠z.mr):z.o6 ks (grow S w w') w':=by
 have hz:=hg.size;have hb:∀b,b<w.heap.size->(∀k,row=ae k->b≠k)->w'.heap[b]? =w.heap[b]? :=fun b h1 h2=>hg.block b h1 fun e=>h2 b e.s rfl;have hk:z.BH w':=by
  have key:∀{a:Addr} {v:aA},aB w a=ae v->z.R a.block->aB w' a=ae v:=fun hc hr'=>(aFf<|hb _ (oJ hc) fun k hk e=>h.Ak _ hr'<|e▸(hr k hk).1).t hc;exact⟨key h.jX.sv hO.Qa,key h.jX.hv hO.Qb,key h.jX.ps hO.Qc,key h.jX.ob hO.Qd,fun i p hp=>key (h.jX.c0 i p hp) hO.Gh,fun i p hp=>key (h.jX.c1 i p hp) hO.Gh,fun i m hm j v hv=>key (h.jX.ms i m hm j v hv) (hO.Ui fun e=>by rw[e]at hm;simp at hm).1,fun b jw=>(hb b (h.zq b jw) fun k hk e=>h.Ak _ jw<|e▸(hr k hk).1).t<|h.jX.fr b jw,hg.tape.t h.jX.tape,hg.os.t h.jX.os,hg.output.t h.jX.output⟩
 refine⟨hk,fun i p h1 h2=>?_,?_,fun i p h1 h2=>?_,fun b jw=>?_,fun b jw hx=>?_,by have:=h.base;omega,fun b jw=>by have:=h.zq b jw;omega,fun hx=>?_,fun hx=>hx.e h.vK.1 fun y=>by have:=h.vK.2;omega,by have:=h.vK.2;omega⟩
 ·have:i<z.np:=(dS.1 h2).1;omega
 ·obtain⟨cs,h1,h2⟩:=h.row;exact⟨cs,⟨.inl h1.1,by rw[hb _ (h.low _ h1.1) fun k hk e=>(hr k hk).2 e.s];exact h1.2⟩,h2⟩
 ·have:i<z.np:=(dS.1 h2).1;omega
 ·rcases jw with jw|jw
  ·have:=h.low b jw;omega
  ·exact jw.2
 ·rcases hx with hx|hx
  ·exact h.Ak b jw hx
  ·have:=h.zq b jw;omega
 ·rcases hx with hx|hx
  ·exact h.Dt hx
  ·omega
def Gs.o6.only{b:Nat}(h:z.o6 ks S w)(hO:z.Ok)(hl:ks.length=z.np)(ho:o5 (fun x=>x=b) w w')(hb:S b)(hm:b≠z.mr):z.o6 ks S w':=by
 have hz:=ho.size;have key:∀{a:Addr} {v:aA},aB w a=ae v->z.R a.block->aB w' a=ae v:=fun hc hr=>(aFf<|ho.still _ fun e=>h.Ak _ hr<|e▸hb).t hc;refine⟨⟨key h.jX.sv hO.Qa,key h.jX.hv hO.Qb,key h.jX.ps hO.Qc,key h.jX.ob hO.Qd,fun i p hp=>key (h.jX.c0 i p hp) hO.Gh,fun i p hp=>key (h.jX.c1 i p hp) hO.Gh,fun i m hm j v hv=>key (h.jX.ms i m hm j v hv) (hO.Ui fun e=>by rw[e]at hm;simp at hm).1,fun x hx=>(ho.still x fun e=>h.Ak _ hx<|e▸hb).t<|h.jX.fr x hx,ho.tape.t h.jX.tape,ho.os.t h.jX.os,ho.output.t h.jX.output⟩,fun i p h1 h2=>?_,?_,fun i p h1 h2=>?_,fun x hx=>by have:=h.low x hx;omega,h.Ak,by have:=h.base;omega,fun x hx=>by have:=h.zq x hx;omega,h.Dt,h.vK.1,by have:=h.vK.2;omega⟩
 ·have:i<z.np:=(dS.1 h2).1;omega
 ·obtain⟨cs,h1,h2⟩:=h.row;exact⟨cs,⟨h1.1,by rw[ho.still _<|Ne.s hm];exact h1.2⟩,h2⟩
 ·have:i<z.np:=(dS.1 h2).1;omega
def aC.send{K:Type}{X:bV K}{End:List K->dL->aO->bM->ay->Prop}{ts:List rD}{ks:List K}{E:dL}{g:bM}{i:Nat}{v z:aA}{sh:CommShape}{κ:K}(hr:g.status=.running)(hk:ks[i]? =ae κ)(hs:∀w1,bK X.P true g w1=.comm g #[scase (X.ch κ) v z] true sh w1 #[])
 (h:aC X.P true E (X.kE End ts ks 0 E) S (g.finishComm X.P #[scase (X.ch κ) v z] sh 0 ai false) w):aC X.P true E (X.kE End (.send i v::ts) ks 0 E) S g w:=
 aC.stop fun w1 aT=>⟨rfl,hr,κ,z,sh,hk,hs w1,h.rely aT⟩
def auo{End:List Kd->dL->aO->bM->ay->Prop}{u:Nat->aA}{t9 t10 t33 t34 t35 t36 t37 t38 t39 t40 t41 t42:aA}{cs:List bH}(hO:z.Ok)(hl:ks.length=z.np)
 (hn:∀(t13 t46 t47 t48 t49 t50 t51 t52 t53 t54 t55 t56 t57 t58 t59 t60 t61 t62 t63 t64 t65 av:aA) (S:aO) (w:ay),z.o6 ks S w->WgAt 177 z.Wg w ((z.np:Int)*KK) 0->Own S w z.Ba 119 5 av (fQ z.ms).length ((fQ z.ms).flatMap Ms.cs)->(∀b,bY av=ae b->b≠z.mr)->
   aC prog true z.E (z.je.kE End [] ks 0 z.E) S (G ((base 54).at ⟨#[az<|ae ⟨z.xb,0,af⟩,.slice z.ma z.ms.length z.mc,az<|ae ⟨z.hv,0,af⟩,u 3,u 4,aN (ae ⟨z.mr,0,af⟩) z.np z.np,az<|ae ⟨z.sv,0,af⟩,az<|ae ⟨z.ob,0,af⟩,az<|ae ⟨z.Wg,0,af⟩,t9,t10,av,u 12,t13,u 14,u 15,u 16,u 17,u 18,u 19,u 20,u 21,u 22,u 23,u 24,u 25,u 26,u 27,u 28,u 29,u 30,ag ah z.np,ag ah z.np,t33,t34,t35,t36,t37,t38,t39,t40,t41,t42,.slice z.ma z.ms.length z.mc,ag ah z.ms.length,ag ah z.ms.length,t46,t47,t48,t49,t50,t51,t52,t53,t54,t55,t56,t57,t58,t59,t60,t61,t62,t63,t64,t65,u 66,u 67,u 68,u 69,u 70,u 71],[]⟩ [.code EC]) cs) w):
 ∀(r l:List Ms) (t13 t46 t47 t48 t49 t50 t51 t52 t53 t54 t55 t56 t57 t58 t59 t60 t61 t62 t63 t64 t65 av:aA) (S:aO) (w:ay),z.ms=l++r->z.o6 ks S w->WgAt 177 z.Wg w ((z.np:Int)*KK) 0->Own S w z.Ba 119 5 av (fQ l).length ((fQ l).flatMap Ms.cs)->(∀b,bY av=ae b->b≠z.mr)->
  aC prog true z.E (z.je.kE End (vM r) ks 0 z.E) S (G ((base 54).at ⟨#[az<|ae ⟨z.xb,0,af⟩,.slice z.ma z.ms.length z.mc,az<|ae ⟨z.hv,0,af⟩,u 3,u 4,aN (ae ⟨z.mr,0,af⟩) z.np z.np,az<|ae ⟨z.sv,0,af⟩,az<|ae ⟨z.ob,0,af⟩,az<|ae ⟨z.Wg,0,af⟩,t9,t10,av,u 12,t13,u 14,u 15,u 16,u 17,u 18,u 19,u 20,u 21,u 22,u 23,u 24,u 25,u 26,u 27,u 28,u 29,u 30,ag ah z.np,ag ah z.np,t33,t34,t35,t36,t37,t38,t39,t40,t41,t42,.slice z.ma z.ms.length z.mc,ag ah z.ms.length,ag ah l.length,t46,t47,t48,t49,t50,t51,t52,t53,t54,t55,t56,t57,t58,t59,t60,t61,t62,t63,t64,t65,u 66,u 67,u 68,u 69,u 70,u 71],[]⟩ [.code Ez,.inLoop Ez,.inBlock 2,.code EC]) cs) w:=by
 intro r
 induction r with
 |nil=>
  intro l t13 t46 t47 t48 t49 t50 t51 t52 t53 t54 t55 t56 t57 t58 t59 t60 t61 t62 t63 t64 t65 av S w xX h dh hA Jn
  obtain rfl:z.ms=l:=by rw[xX,qM]
  clear xX
  have Jo:=hn t13 (aF false) t47 t48 t49 t50 t51 t52 t53 t54 t55 t56 t57 t58 t59 t60 t61 t62 t63 t64 t65 av S w h dh hA Jn
  simp only[vM]
  generalize z.je.kE End [] ks 0 z.E=St at Jo⊢
  generalize Item.code EC=IR at Jo⊢
  generalize Dq:Item.inLoop Ez=IL
  simp only[Ez,zo,xI,qU,Tryz.f54,ik,gQ,jo,xG]
  refine aC.sq ?_
  refine aC.reg [0] rfl ?_
  refine aC.mute (aF false) rfl rfl (by decide) (fun _=>by go_simp) (fun _=>by simp[go_sem]) ?_
  walk_nrm
  refine aC.gK ?_
  refine aC.sq ?_
  refine aC.ctl rfl (fun _=>aFp (t:=false)<|by rfl) ?_
  refine aC.ctl rfl (fun _=>aGu (k':=[IR]) (by rw[<-Dq];rfl)) ?_
  exact Jo
 |cons m r ih=>
  intro l t13 t46 t47 t48 t49 t50 t51 t52 t53 t54 t55 t56 t57 t58 t59 t60 t61 t62 t63 t64 t65 av S w xX h dh hA Jn
  have qA:∀b,z.R b->z.E.ro b:=fun b hb=>.inl hb
  have aK:l.length<z.ms.length:=by rw[xX];simp
  have hm:z.ms[l.length]? =ae m:=by rw[xX];simp
  have pW:m∈z.ms:=gZ hm
  have aup:aj (z.ms=l++m::r):=xX
  clear xX
  obtain⟨auq,hma⟩:=hO.Ui fun e=>by rw[e]at hm;simp at hm
  have rM:=hO.len
  have aCQ:=hO.small
  generalize Qe:Item.code EC=IR
  generalize Dq:Item.inLoop Ez=IL
  simp only[Ez,zo,xI,qU,Tryz.f54,ik,gQ,jo,xG]
  refine aC.sq ?_
  refine aC.reg [0] rfl ?_
  refine aC.mute (aF true) rfl rfl (by decide) (fun _=>by go_simp) (fun _=>by simp[go_sem]) ?_
  walk_nrm
  refine aC.gK ?_
  refine aC.sq ?_
  refine aC.ctl rfl (fun _=>aFp (t:=true)<|by rfl) ?_
  refine aC.ctl rfl (fun _=>aFr) ?_
  refine aC.sq ?_
  refine aC.ctl rfl (fun _=>aFs) ?_
  refine aC.sq ?_
  refine aC.reg [0,1,2,3] rfl ?_
  rw[hma]
  refine aC.mute (az<|ae ⟨z.mb,l.length*5,af⟩) rfl rfl (by decide) (fun _=>by go_simp) (fun _=>by simp[go_sem];rw[aFR _ _ _ _ _ _ (by kernel_rfl) ⟨by omega,by omega⟩]) ?_
  walk_nrm
  refine aC.val (iF #[ag ah m.k,ag ah m.q,ag ah m.p,ag ah m.t,aF m.c]) rfl rfl (by decide) (fun w1 aT=>?_) (fun w1 aT e he=>?_) ?_
  ·have hx:=(h.bg hO qA aT).jX.ms l.length m hm
   have g0:=hx 0 _ rfl
   have g1:=hx 1 _ rfl
   have g2:=hx 2 _ rfl
   have g3:=hx 3 _ rfl
   have g4:=hx 4 _ rfl
   simp only[LD]at g0
   go_simp
  ·have hx:=(h.bg hO qA aT).jX.ms l.length m hm
   have g0:=hx 0 _ rfl
   have g1:=hx 1 _ rfl
   have g2:=hx 2 _ rfl
   have g3:=hx 3 _ rfl
   have g4:=hx 4 _ rfl
   simp only[LD]at g0
   simp[go_sem,g0,g1,g2,g3,g4]at he
   rcases he with rfl|rfl|rfl|rfl|rfl<;>exact .inr ⟨auq,rfl⟩
  walk_nrm
  refine aC.kQ rfl rfl (by decide) fun w1 aT=>?_
  replace h:=h.bg hO qA aT
  replace dh:=dh.of_block<|aT.ro z.Wg<|.inr rfl
  replace hA:=hA.bg aT
  have Nc:=IK dh
  refine⟨az<|ae ⟨w1.heap.size,0,af⟩,w1.alloc<|aG #[ag ah 0,ag ah 0,ag ah 0,ag ah 0,aF false] 119,.inl<|by go_simp,xC (by simp[go_sem])<|vJ _,?_⟩
  have Lc:∀b,bY av=ae b->b<w1.heap.size:=fun b hb=>h.low b<|hA.r b hb
  have hmr:z.mr<w1.heap.size:=let ⟨_,h1,_⟩:=h.row;h.low _ h1.1
  have hY:=fE.new S w1 #[ag ah 0,ag ah 0,ag ah 0,ag ah 0,aF false] 119
  replace dh:=dh.of_block (w₁:=w1.alloc<|aG #[ag ah 0,ag ah 0,ag ah 0,ag ah 0,aF false] 119)<|aFe w1 _ _ Nc
  replace hA:Own (grow S w1<|w1.alloc<|aG #[ag ah 0,ag ah 0,ag ah 0,ag ah 0,aF false] 119) (w1.alloc<|aG #[ag ah 0,ag ah 0,ag ah 0,ag ah 0,aF false] 119) z.Ba 119 5 av (fQ l).length ((fQ l).flatMap Ms.cs):=hA.of (fun b hb=>.inl hb) fun b hb=>aFe w1 _ _<|Lc b hb
  replace h:=h.alloc hO Nc (aG #[ag ah 0,ag ah 0,ag ah 0,ag ah 0,aF false] 119) fun _=>Tz rfl
  clear aT
  generalize grow S w1 (w1.alloc<|aG #[ag ah 0,ag ah 0,ag ah 0,ag ah 0,aF false] 119)=S at*
  generalize w1.alloc (aG #[ag ah 0,ag ah 0,ag ah 0,ag ah 0,aF false] 119)=w at*
  generalize w1.heap.size=bb at*
  walk_nrm
  refine aC.kQ rfl rfl (by decide) fun w1 aT=>?_
  replace h:=h.bg hO qA aT
  replace dh:=dh.of_block<|aT.ro z.Wg<|.inr rfl
  replace hA:=hA.bg aT
  replace hY:=hY.bg aT
  have q0:=hY.cell (o:=0) rfl
  have q1:=hY.cell (o:=1) rfl
  have q2:=hY.cell (o:=2) rfl
  have q3:=hY.cell (o:=3) rfl
  have q4:=hY.cell (o:=4) rfl
  have r0:=hY.free 0
  have r1:=hY.free 1
  have r2:=hY.free 2
  have r3:=hY.free 3
  have r4:=hY.free 4
  have Uk:o5 (fun x=>x=bb) w1 (((((aX w1 ⟨bb,0,af⟩<|ag ah m.k).setCell ⟨bb,1,af⟩<|ag ah m.q).setCell ⟨bb,2,af⟩<|ag ah m.p).setCell ⟨bb,3,af⟩<|ag ah m.t).setCell ⟨bb,4,af⟩<|aF m.c):=((((((o5.refl (fun x=>x=bb) w1).set rfl 0 _).set rfl 1 _).set rfl 2 _).set rfl 3 _).set rfl 4 _)
  have hOS:o5 S w1 (((((aX w1 ⟨bb,0,af⟩<|ag ah m.k).setCell ⟨bb,1,af⟩<|ag ah m.q).setCell ⟨bb,2,af⟩<|ag ah m.p).setCell ⟨bb,3,af⟩<|ag ah m.t).setCell ⟨bb,4,af⟩<|aF m.c):=Uk.z fun b hb=>hb▸hY.1
  refine⟨ai,((((aX w1 ⟨bb,0,af⟩<|ag ah m.k).setCell ⟨bb,1,af⟩<|ag ah m.q).setCell ⟨bb,2,af⟩<|ag ah m.p).setCell ⟨bb,3,af⟩<|ag ah m.t).setCell ⟨bb,4,af⟩<|aF m.c,.inr ⟨rfl,by go_simp⟩,hOS.og fun e he=>?_,?_⟩
  ·simp[go_sem,ac5,storedEv,q0,q1,q2,q3,q4,r0,r1,r2,r3,r4]at he
   rcases he with rfl|rfl|rfl|rfl|rfl<;>exact .inl hY.1
  rw[hOS.grow]
  have Qg:=IK dh
  replace dh:=dh.of_block<|Uk.still z.Wg<|by omega
  replace hA:Own S (((((aX w1 ⟨bb,0,af⟩<|ag ah m.k).setCell ⟨bb,1,af⟩<|ag ah m.q).setCell ⟨bb,2,af⟩<|ag ah m.p).setCell ⟨bb,3,af⟩<|ag ah m.t).setCell ⟨bb,4,af⟩<|aF m.c) z.Ba 119 5 av (fQ l).length ((fQ l).flatMap Ms.cs):=hA.of (fun b hb=>hb) fun b hb=>Uk.still b<|aaL<|Lc b hb
  replace h:=h.only hO hl Uk hY.1<|Nat.ne_of_gt hmr
  replace hY:=(((((hY.set 0<|ag ah m.k).set 1<|ag ah m.q).set 2<|ag ah m.p).set 3<|ag ah m.t).set 4<|aF m.c)
  change fE S _ bb #[ag ah m.k,ag ah m.q,ag ah m.p,ag ah m.t,aF m.c] 119 at hY
  clear aT q0 q1 q2 q3 q4 r0 r1 r2 r3 r4 Uk hOS
  generalize((((aX w1 ⟨bb,0,af⟩<|ag ah m.k).setCell ⟨bb,1,af⟩<|ag ah m.q).setCell ⟨bb,2,af⟩<|ag ah m.p).setCell ⟨bb,3,af⟩<|ag ah m.t).setCell ⟨bb,4,af⟩ (aF m.c)=w at*
  walk_nrm
  refine aC.gK ?_
  refine aC.sq ?_
  refine aC.reg [0,1] rfl ?_
  refine aC.mu rfl rfl ?_
  walk_nrm
  refine aC.val (ag ah m.k) rfl rfl (by decide) (fun w1 aT=>?_) (fun w1 aT e he=>?_) ?_
  ·have q0:=(hY.bg aT).cell (o:=0) rfl
   go_simp
  ·have q0:=(hY.bg aT).cell (o:=0) rfl
   simp[go_sem,q0]at he
   subst he
   exact .inl hY.1
  walk_nrm
  refine aC.gK ?_
  refine aC.ctl rfl (fun _=>aFs) ?_
  refine aC.sq ?_
  refine aC.reg [0,1] rfl ?_
  have uj:∀(t13 t46 t47 t48 t49 t50 t51 t52 t53 t54 t55 t56 t57 t58 t59 t60 t61 t62 t63 t64 t65 Gg:aA) (S':aO) (w':ay),z.o6 ks S' w'->WgAt 177 z.Wg w' ((z.np:Int)*KK) 0->Own S' w' z.Ba 119 5 Gg (fQ<|l++[m]).length ((fQ<|l++[m]).flatMap Ms.cs)->(∀b,Gg.ownBlock=ae b->b≠z.mr)->
   aC prog true z.E (z.je.kE End (vM r) ks 0 z.E) S' (G ((base 54).at ⟨#[az<|ae ⟨z.xb,0,af⟩,aN (ae ⟨z.mb,0,af⟩) z.ms.length z.mc,az<|ae ⟨z.hv,0,af⟩,u 3,u 4,aN (ae ⟨z.mr,0,af⟩) z.np z.np,az<|ae ⟨z.sv,0,af⟩,az<|ae ⟨z.ob,0,af⟩,az<|ae ⟨z.Wg,0,af⟩,t9,t10,Gg,u 12,t13,u 14,u 15,u 16,u 17,u 18,u 19,u 20,u 21,u 22,u 23,u 24,u 25,u 26,u 27,u 28,u 29,u 30,ag ah z.np,ag ah z.np,t33,t34,t35,t36,t37,t38,t39,t40,t41,t42,aN (ae ⟨z.mb,0,af⟩) z.ms.length z.mc,ag ah z.ms.length,ag ah l.length,t46,t47,t48,t49,t50,t51,t52,t53,t54,t55,t56,t57,t58,t59,t60,t61,t62,t63,t64,t65,u 66,u 67,u 68,u 69,u 70,u 71],[]⟩ [.inBlock 4,.inBlock 3,.code<|gQ<|gQ<|gQ Ez,IL,.inBlock 2,IR]) cs) w':=by
   intro t13 t46 t47 t48 t49 t50 t51 t52 t53 t54 t55 t56 t57 t58 t59 t60 t61 t62 t63 t64 t65 Gg S' w' h1 h2 h3 h4;have hi:=fun t46 t47 t48 t49 t50 t51 t52 t53 t54 t55 t56 t57 t58 t59 t60 t61 t62 t63 t64 t65=>ih (l++[m]) t13 t46 t47 t48 t49 t50 t51 t52 t53 t54 t55 t56 t57 t58 t59 t60 t61 t62 t63 t64 t65 Gg S' w' (by rw[aup];simp) h1 h2 h3 h4;have hlen:(l++[m]).length=l.length+1:=by simp
   rw[hlen]at hi;clear hlen h1 h2 h3 h4 ih hn h dh hA hY;generalize z.je.kE End (vM r) ks 0 z.E=St at hi⊢
   rw[Qe,Dq,hma]at hi;rw[<-Dq];generalize aur:Item.inLoop Ez=IL2;simp only[Ez,zo,xI,qU,Tryz.f54,ik,gQ,jo,xG];refine aC.ctl rfl (fun _=>aFL) ?_;refine aC.ctl rfl (fun _=>aFL) ?_;refine aC.reg [0,1] rfl ?_;refine aC.mute (ag ah ((l.length+1:Nat):Int)) rfl rfl (by decide) (fun _=>by go_simp;exact wrap_i64 (by omega)<|by omega) (fun _=>by simp[go_sem]) ?_;walk_nrm;refine aC.mu rfl rfl ?_;walk_nrm;refine aC.gK ?_;rw[<-aur];refine aC.ctl rfl (fun _=>aFV) ?_;rw[Dq];exact hi _ _ _ _ _ _ _ _ _ _ _ _ _ _ _ _ _ _ _ _
  simp only[Ez,zo,xI,qU,Tryz.f54,ik,gQ,jo,xG]at uj
  by_cases aT:m.k=1
  ·have Yr:aj (m.k=1):=aT
   refine aC.mute (aF true) rfl rfl (by decide) (fun _=>by go_simp) (fun _=>by simp[go_sem]) ?_
   clear aT
   walk_nrm
   refine aC.mu rfl rfl ?_
   walk_nrm
   refine aC.gK ?_
   refine aC.ctl rfl (fun _=>aFp (t:=true)<|by rfl) ?_
   obtain⟨qn,Ul,aCS⟩:=hO.q m pW Yr
   obtain⟨κ,jL⟩:∃κ,ks[qn]? =ae κ:=⟨_,eY<|by omega⟩
   obtain⟨cells,hM,hMs,Yp⟩:=h.row
   have hts:vM (m::r)=.send qn (kX m)::vM r:=by
    show(if m.k=1 then .send m.q.toNat (kX m)::vM r else vM r)=_;rw[if_pos<|show m.k=1 from Yr,Ul,OM]
   rw[hts]
   have hcell:cells[m.q.toNat]? =ae (.chan<|ae κ.x.p.c):=by rw[Ul,OM];exact Yp qn κ jL
   have sW:0<=m.q:=by omega
   have wS:m.q<z.np:=by omega
   have Um:fQ (l++[m])=fQ l:=by
    unfold fQ;rw[tu,WJ (by rw[show m.k=1 from Yr];decide)];simp
   clear Ul hts Yp
   refine aC.drawn (X:=fun zz a S' w'=>zz=6/\a=⟨#[az<|ae ⟨z.xb,0,af⟩,aN (ae ⟨z.mb,0,af⟩) z.ms.length z.mc,az<|ae ⟨z.hv,0,af⟩,u 3,u 4,aN (ae ⟨z.mr,0,af⟩) z.np z.np,az<|ae ⟨z.sv,0,af⟩,az<|ae ⟨z.ob,0,af⟩,az<|ae ⟨z.Wg,0,af⟩,t9,t10,av,u 12,az<|ae ⟨bb,0,af⟩,u 14,u 15,u 16,u 17,u 18,u 19,u 20,u 21,u 22,u 23,u 24,u 25,u 26,u 27,u 28,u 29,u 30,ag ah z.np,ag ah z.np,t33,t34,t35,t36,t37,t38,t39,t40,t41,t42,aN (ae ⟨z.mb,0,af⟩) z.ms.length z.mc,ag ah z.ms.length,ag ah l.length,aF true,az<|ae ⟨z.mb,l.length*5,af⟩,iF #[ag ah m.k,ag ah m.q,ag ah m.p,ag ah m.t,aF m.c],az<|ae ⟨bb,0,af⟩,ag ah m.k,aF true,aF true,aN (ae ⟨z.mr,0,af⟩) z.np z.np,az<|ae ⟨bb,1,af⟩,ag ah m.q,az<|ae ⟨z.mr,m.q.toNat,af⟩,.chan<|ae κ.x.p.c,iF #[ag ah m.k,ag ah m.q,ag ah m.p,ag ah m.t,aF m.c],t59,t60,t61,t62,t63,t64,t65,u 66,u 67,u 68,u 69,u 70,u 71],[]⟩/\z.o6 ks S' w'/\WgAt 177 z.Wg w' ((z.np:Int)*KK) 0/\Own S' w' z.Ba 119 5 av (fQ l).length ((fQ l).flatMap Ms.cs)) (I:=fun S' w'=>fE S' w' bb #[ag ah m.k,ag ah m.q,ag ah m.p,ag ah m.t,aF m.c] 119/\fE S' w' z.mr cells 178) (Q:=fun _ _ _=>False) rfl (by decide) (by kernel_rfl) (fun _ _ _ h=>h.e) ?_ ?_
   ·rintro zz a S' w' ⟨rfl,rfl,h1,h2,h3⟩
    refine aC.send (X:=z.je) (κ:=κ) (z:=dU #[]) (sh:=.send) rfl jL (fun w1=>?_) ?_
    ·rw[stepG_comm (cases:=#[scase κ.x.p.c (kX m)<|dU #[]]) (blocking:=true) (shape:=.send) (w':=w1) rfl rfl (by decide) (by go_simp;rfl)]
     congr 1
    ·rw[Ym]
     walk_nrm
     refine aC.gK ?_
     exact uj _ _ _ _ _ _ _ _ _ _ _ _ _ _ _ _ _ _ _ _ _ _ S' w' h1 h2 (by rw[Um];exact h3) Jn
   intro w1 hk
   have hI:∀(S':aO) (x1 y1:ay),(fE S' x1 bb #[ag ah m.k,ag ah m.q,ag ah m.p,ag ah m.t,aF m.c] 119/\fE S' x1 z.mr cells 178)->bu S' z.E x1 y1->(fE S' y1 bb #[ag ah m.k,ag ah m.q,ag ah m.p,ag ah m.t,aF m.c] 119/\fE S' y1 z.mr cells 178):=fun _ _ _ h1 h2=>⟨h1.1.bg h2,h1.2.bg h2⟩
   have hQ:∀(_:Act) (S':aO) (x1 y1:ay),False->bu S' z.E x1 y1->False:=fun _ _ _ _ h _=>h
   have hX:aj (∀(zz:Nat) (a:Act) (S':aO) (w' y1:ay),(zz=6/\a=⟨#[az<|ae ⟨z.xb,0,af⟩,aN (ae ⟨z.mb,0,af⟩) z.ms.length z.mc,az<|ae ⟨z.hv,0,af⟩,u 3,u 4,aN (ae ⟨z.mr,0,af⟩) z.np z.np,az<|ae ⟨z.sv,0,af⟩,az<|ae ⟨z.ob,0,af⟩,az<|ae ⟨z.Wg,0,af⟩,t9,t10,av,u 12,az<|ae ⟨bb,0,af⟩,u 14,u 15,u 16,u 17,u 18,u 19,u 20,u 21,u 22,u 23,u 24,u 25,u 26,u 27,u 28,u 29,u 30,ag ah z.np,ag ah z.np,t33,t34,t35,t36,t37,t38,t39,t40,t41,t42,aN (ae ⟨z.mb,0,af⟩) z.ms.length z.mc,ag ah z.ms.length,ag ah l.length,aF true,az<|ae ⟨z.mb,l.length*5,af⟩,iF #[ag ah m.k,ag ah m.q,ag ah m.p,ag ah m.t,aF m.c],az<|ae ⟨bb,0,af⟩,ag ah m.k,aF true,aF true,aN (ae ⟨z.mr,0,af⟩) z.np z.np,az<|ae ⟨bb,1,af⟩,ag ah m.q,az<|ae ⟨z.mr,m.q.toNat,af⟩,.chan<|ae κ.x.p.c,iF #[ag ah m.k,ag ah m.q,ag ah m.p,ag ah m.t,aF m.c],t59,t60,t61,t62,t63,t64,t65,u 66,u 67,u 68,u 69,u 70,u 71],[]⟩/\z.o6 ks S' w'/\WgAt 177 z.Wg w' ((z.np:Int)*KK) 0/\Own S' w' z.Ba 119 5 av (fQ l).length ((fQ l).flatMap Ms.cs))->bu S' z.E w' y1->(zz=6/\a=⟨#[az<|ae ⟨z.xb,0,af⟩,aN (ae ⟨z.mb,0,af⟩) z.ms.length z.mc,az<|ae ⟨z.hv,0,af⟩,u 3,u 4,aN (ae ⟨z.mr,0,af⟩) z.np z.np,az<|ae ⟨z.sv,0,af⟩,az<|ae ⟨z.ob,0,af⟩,az<|ae ⟨z.Wg,0,af⟩,t9,t10,av,u 12,az<|ae ⟨bb,0,af⟩,u 14,u 15,u 16,u 17,u 18,u 19,u 20,u 21,u 22,u 23,u 24,u 25,u 26,u 27,u 28,u 29,u 30,ag ah z.np,ag ah z.np,t33,t34,t35,t36,t37,t38,t39,t40,t41,t42,aN (ae ⟨z.mb,0,af⟩) z.ms.length z.mc,ag ah z.ms.length,ag ah l.length,aF true,az<|ae ⟨z.mb,l.length*5,af⟩,iF #[ag ah m.k,ag ah m.q,ag ah m.p,ag ah m.t,aF m.c],az<|ae ⟨bb,0,af⟩,ag ah m.k,aF true,aF true,aN (ae ⟨z.mr,0,af⟩) z.np z.np,az<|ae ⟨bb,1,af⟩,ag ah m.q,az<|ae ⟨z.mr,m.q.toNat,af⟩,.chan<|ae κ.x.p.c,iF #[ag ah m.k,ag ah m.q,ag ah m.p,ag ah m.t,aF m.c],t59,t60,t61,t62,t63,t64,t65,u 66,u 67,u 68,u 69,u 70,u 71],[]⟩/\z.o6 ks S' y1/\WgAt 177 z.Wg y1 ((z.np:Int)*KK) 0/\Own S' y1 z.Ba 119 5 av (fQ l).length ((fQ l).flatMap Ms.cs))):=by
    rintro zz a S' w' y1 ⟨h1,h2,h3,h4,h5⟩ hk;exact⟨h1,h2,h3.bg hO qA hk,h4.of_block<|hk.ro z.Wg<|.inr rfl,h5.bg hk⟩
   have uS:=hk.t<|bu.at S z.E w1<|w1.drawn+1
   have h2:=h.bg hO qA uS
   have ajC:=dh.of_block<|uS.ro z.Wg<|.inr rfl
   have G8:=hA.bg uS
   have qL:=hI S w _ ⟨hY,hM⟩ uS
   change rE _ _ _ _ _ _ _ _ _ _ _ _ _ (w1.at<|w1.drawn+1)
   generalize w1.at (w1.drawn+1)=w2 at h2 ajC G8 qL⊢
   clear hk uS h dh hA hY hM uj
   simp only[Fv,oH,wu,Nat.reduceAdd,D9]
   refine qy hI hQ hX (i:=0) rfl (by kernel_rfl) (by kernel_rfl) (by kernel_rfl) (by kernel_rfl) (v:=_) ⟨rfl,fun S' w' hi=>⟨by go_simp<;>rfl,fun e he=>?_⟩⟩ qL ?_
   ·have hm:=aFh he;simp[go_sem]at hm
   walk_nrm
   refine qy hI hQ hX (i:=1) rfl (by kernel_rfl) (by kernel_rfl) (by kernel_rfl) (by kernel_rfl) (v:=az<|ae ⟨bb,1,af⟩) ⟨rfl,fun S' w' hi=>⟨by go_simp<;>rfl,fun e he=>?_⟩⟩ qL ?_
   ·have hm:=aFh he;simp[go_sem]at hm
   walk_nrm
   refine qy hI hQ hX (i:=2) rfl (by kernel_rfl) (by kernel_rfl) (by kernel_rfl) (by kernel_rfl) (v:=ag ah m.q) ⟨rfl,fun S' w' hi=>⟨?_,fun e he=>?_⟩⟩ qL ?_
   ·have g0:=hi.1.cell (o:=1) rfl
    go_simp
   ·have g0:=hi.1.cell (o:=1) rfl
    have hm:=aFh he
    simp[go_sem,g0]at hm
    subst hm
    exact .inl hi.1.1
   walk_nrm
   refine qy hI hQ hX (i:=3) rfl (by kernel_rfl) (by kernel_rfl) (by kernel_rfl) (by kernel_rfl) (v:=az<|ae ⟨z.mr,m.q.toNat,af⟩) ⟨rfl,fun S' w' hi=>⟨?_,fun e he=>?_⟩⟩ qL ?_
   ·go_simp
   ·have hm:=aFh he
    simp[go_sem]at hm
    rw[aFR _ _ _ _ _ _ (by kernel_rfl) ⟨sW,wS⟩]at hm
    simp at hm
   walk_nrm
   refine qy hI hQ hX (i:=4) rfl (by kernel_rfl) (by kernel_rfl) (by kernel_rfl) (by kernel_rfl) (v:=.chan<|ae κ.x.p.c) ⟨rfl,fun S' w' hi=>⟨?_,fun e he=>?_⟩⟩ qL ?_
   ·have g0:=hi.2.cell (o:=m.q.toNat) hcell
    go_simp
   ·have g0:=hi.2.cell (o:=m.q.toNat) hcell
    have hm:=aFh he
    simp[go_sem,g0]at hm
    subst hm
    exact .inl hi.2.1
   walk_nrm
   refine qy hI hQ hX (i:=5) rfl (by kernel_rfl) (by kernel_rfl) (by kernel_rfl) (by kernel_rfl) (v:=iF #[ag ah m.k,ag ah m.q,ag ah m.p,ag ah m.t,aF m.c]) ⟨rfl,fun S' w' hi=>⟨?_,fun e he=>?_⟩⟩ qL ?_
   ·have g0:=hi.1.cell (o:=0) rfl
    have g1:=hi.1.cell (o:=1) rfl
    have g2:=hi.1.cell (o:=2) rfl
    have g3:=hi.1.cell (o:=3) rfl
    have g4:=hi.1.cell (o:=4) rfl
    go_simp
   ·have g0:=hi.1.cell (o:=0) rfl
    have g1:=hi.1.cell (o:=1) rfl
    have g2:=hi.1.cell (o:=2) rfl
    have g3:=hi.1.cell (o:=3) rfl
    have g4:=hi.1.cell (o:=4) rfl
    have hm:=aFh he
    simp[go_sem,g0,g1,g2,g3,g4]at hm
    rcases hm with rfl|rfl|rfl|rfl|rfl<;>exact .inl hi.1.1
   walk_nrm
   exact aja (by kernel_rfl) (by kernel_rfl) ⟨rfl,rfl,h2,ajC,G8⟩
  ·have Yr:aj (m.k≠1):=aT
   rw[show vM (m::r)=vM r from if_neg aT]
   refine aC.mute (aF false) rfl rfl (by decide) (fun _=>by go_simp) (fun _=>by simp[go_sem]) ?_
   clear aT
   walk_nrm
   refine aC.mu rfl rfl ?_
   walk_nrm
   refine aC.gK ?_
   refine aC.ctl rfl (fun _=>aFp (t:=false)<|by rfl) ?_
   refine aC.sq ?_
   refine aC.reg [0,1] rfl ?_
   by_cases lq:m.k=2
   ·have adm:aj (m.k=2):=lq
    refine aC.mute (aF true) rfl rfl (by decide) (fun _=>by go_simp) (fun _=>by simp[go_sem]) ?_
    clear lq
    walk_nrm
    refine aC.mu rfl rfl ?_
    walk_nrm
    refine aC.gK ?_
    refine aC.ctl rfl (fun _=>aFp (t:=true)<|by rfl) ?_
    refine aC.reg [0,1,2,3,4] rfl ?_
    refine aC.mu rfl rfl ?_
    walk_nrm
    refine aC.val (iF #[ag ah m.k,ag ah m.q,ag ah m.p,ag ah m.t,aF m.c]) rfl rfl (by decide) (fun w1 aT=>?_) (fun w1 aT e he=>?_) ?_
    ·have hx:=hY.bg aT
     have g0:=hx.cell (o:=0) rfl
     have g1:=hx.cell (o:=1) rfl
     have g2:=hx.cell (o:=2) rfl
     have g3:=hx.cell (o:=3) rfl
     have g4:=hx.cell (o:=4) rfl
     go_simp
    ·have hx:=hY.bg aT
     have g0:=hx.cell (o:=0) rfl
     have g1:=hx.cell (o:=1) rfl
     have g2:=hx.cell (o:=2) rfl
     have g3:=hx.cell (o:=3) rfl
     have g4:=hx.cell (o:=4) rfl
     simp[go_sem,g0,g1,g2,g3,g4]at he
     rcases he with rfl|rfl|rfl|rfl|rfl<;>exact .inl hY.1
    walk_nrm
    refine aC.kQ rfl rfl (by decide) fun w1 aT=>?_
    replace h:=h.bg hO qA aT
    replace dh:=dh.of_block<|aT.ro z.Wg<|.inr rfl
    replace hA:=hA.bg aT
    have Qg:=IK dh
    have ajD:∀b,bY av=ae b->b<w1.heap.size:=fun b hb=>h.low b<|hA.r b hb
    have aus:z.mr<w1.heap.size:=let ⟨_,h1,_⟩:=h.row;h.low _ h1.1
    refine⟨aN (ae ⟨w1.heap.size,0,af⟩) 1 1,w1.alloc<|aG #[ag ah m.k,ag ah m.q,ag ah m.p,ag ah m.t,aF m.c] 119,.inl<|by go_simp,xC (by simp[go_sem])<|vJ _,?_⟩
    have hN:=fE.new S w1 #[ag ah m.k,ag ah m.q,ag ah m.p,ag ah m.t,aF m.c] 119
    replace dh:=dh.of_block (w₁:=w1.alloc<|aG #[ag ah m.k,ag ah m.q,ag ah m.p,ag ah m.t,aF m.c] 119)<|aFe w1 _ _ Qg
    replace hA:Own (grow S w1<|w1.alloc<|aG #[ag ah m.k,ag ah m.q,ag ah m.p,ag ah m.t,aF m.c] 119) (w1.alloc<|aG #[ag ah m.k,ag ah m.q,ag ah m.p,ag ah m.t,aF m.c] 119) z.Ba 119 5 av (fQ l).length ((fQ l).flatMap Ms.cs):=hA.of (fun b hb=>.inl hb) fun b hb=>aFe w1 _ _<|ajD b hb
    replace h:=h.alloc hO Qg (aG #[ag ah m.k,ag ah m.q,ag ah m.p,ag ah m.t,aF m.c] 119) fun _=>Tz rfl
    clear aT hY ajD aus
    generalize grow S w1 (w1.alloc<|aG #[ag ah m.k,ag ah m.q,ag ah m.p,ag ah m.t,aF m.c] 119)=S2 at*
    generalize w1.alloc (aG #[ag ah m.k,ag ah m.q,ag ah m.p,ag ah m.t,aF m.c] 119)=w at*
    generalize w1.heap.size=cc at*
    walk_nrm
    refine aC.kQ rfl rfl (by decide) fun w6 sS=>?_
    have qR:=hA.bg sS
    have xE:=hN.bg sS
    replace h:=h.bg hO qA sS
    replace dh:=dh.of_block<|sS.ro z.Wg<|.inr rfl
    have Ji:=h.base
    obtain⟨i0,ed,lN,Oz,V4⟩:=aFq JI
    have D5:(fQ l).length<=l.length:=D8 _ _
    have V5:((fQ l).length+1)*40<=140737488355328:=by omega
    obtain⟨g,cap,w7,J3,Ua,BF,IC,MZ⟩:=aGy (P:=prog) w6 107 107 z.Ba 119 i0 _ 5 40 underlying107 ed lN Oz V4 rfl (by omega) av (fQ l).length ((fQ l).flatMap Ms.cs) qR.row ⟨cc,0,af⟩ 1 1 m.cs rfl (aFk xE.2) (by simp[Ms.cs,Value.oneCell']) (by omega) (by simp only[eP];omega) V5 Ji _ rfl
    have VY:=aGi (P:=prog) w6 z.Ba 107 107 119 i0 _ 5 40 underlying107 ed lN Oz V4 av (fQ l).length ((fQ l).flatMap Ms.cs) qR.row ⟨cc,0,af⟩ 1 1 m.cs rfl (aFk xE.2) (by simp[Ms.cs,Value.oneCell']) (by simp only[eP];omega) V5
    have J4:jC S2 z.E w6 w7 ((Builtin.append_ #[107,107] 107 #[av,aN (ae ⟨cc,0,af⟩) 1 1]).events prog w6 #[]):=acZ BF qR.r (fun s h5 hs hw=>((au.Pz (au.X7 h5).toFit<|ok_two (TY qR.row fun k hk zz=>(hs k zz).1<|qR.r k hk) (.slice fun y hy zz=>by cases hy;exact(hs _ zz).1 xE.1)).Em hw J3 fun b hb=>(hs b hb).2).2) fun e he=>by
     rcases VY e he with⟨ad,h1,h2|h2⟩|⟨m,rfl,h2⟩
     ·exact(show nD _ _ _ by unfold nD;rw[h1];exact .inl<|.inl<|h2.2▸xE.1)
     ·exact(show nD _ _ _ by unfold nD;rw[h1];exact .inl<|.inl<|qR.r _ h2.s)
     ·exact h2
    refine⟨aN (ae ⟨g,0,af⟩) ((fQ l).length+1) cap,w7,.inl ?_,?_,?_⟩
    ·exact Yj (.tmp 61) (.tmp 63) 107 rfl rfl rfl J3
    ·rw[aGa (.tmp 61) (.tmp 63) 107 rfl rfl rfl]
     exact J4
    have ajE:=IK dh
    have aCT:z.mr<w6.heap.size:=let ⟨_,h1,_⟩:=h.row;h.low _ h1.1
    have Ub:(grow S2 w6 w7) g:=by
     rcases IC with h1|h1
     ·exact .inl<|qR.r g h1
     ·exact .inr ⟨by omega,MZ⟩
    have h7:=h.grown hl hO ajE BF fun k hk=>⟨qR.r k hk,Jn k hk⟩
    have hgm:g≠z.mr:=by
     rcases IC with h1|h1
     ·exact Jn g h1
     ·omega
    have aut:WgAt 177 z.Wg w7 ((z.np:Int)*KK) 0:=dh.of_block<|BF.block _ ajE fun e=>h.Dt<|qR.r _ e.s
    have Um:fQ (l++[m])=fQ l++[m]:=by
     unfold fQ;rw[tu,afK (by simp;exact adm)];rfl
    have hA7:Own (grow S2 w6 w7) w7 z.Ba 119 5 (aN (ae ⟨g,0,af⟩) ((fQ l).length+1) cap) (fQ<|l++[m]).length ((fQ<|l++[m]).flatMap Ms.cs):=by
     rw[Um];exact⟨by simpa using Ua,fun b hb=>by simp only[Value.ownBlock,gU]at hb;exact hb▸Ub⟩
    generalize grow S2 w6 w7=S7 at*
    walk_nrm
    refine aC.mu rfl rfl ?_
    walk_nrm
    refine aC.gK ?_
    exact uj _ _ _ _ _ _ _ _ _ _ _ _ _ _ _ _ _ _ _ _ _ _ S7 w7 h7 aut hA7 (fun b hb=>by simp only[Value.ownBlock,gU]at hb;exact hb▸hgm)
   ·have adm:aj (m.k≠2):=lq
    refine aC.mute (aF false) rfl rfl (by decide) (fun _=>by go_simp) (fun _=>by simp[go_sem]) ?_
    clear lq
    walk_nrm
    refine aC.mu rfl rfl ?_
    walk_nrm
    refine aC.gK ?_
    refine aC.ctl rfl (fun _=>aFp (t:=false)<|by rfl) ?_
    refine aC.ctl rfl (fun _=>aFr) ?_
    have Um:fQ (l++[m])=fQ l:=by
     unfold fQ;rw[tu,WJ (by simp;exact adm)];simp
    refine uj _ _ _ _ _ _ _ _ _ _ _ _ _ _ _ _ _ _ _ _ _ _ S w h dh (by rw[Um];exact hA) Jn
end Twin
end
section
namespace Twin
open Go Go.Proofs Go.Conc Go.RowKit Go.Maps fU
open Go.ConcR (WgAt KK DC0)
open Go.ConcN (WgLive)
def Nh:Array Oper:=match jo (gQ EC)with| .region _ o _=>o|_=>#[]
def ED:Code:=gQ<|gQ EC
def dO(cs:List bH)(a:Act):Goroutine:=G ((base 54).at (a.put (ae 67)<|dU #[]) [bW Nh [],.code ED]) cs
def Dv(z:Gs)(cs:List bH)(a:Act):bM->ay->Prop:=TU link z.Wg ((base 54).at a [bW Nh [0],.code ED]) cs
def Gs.Mid(z:Gs)(u:Nat->aA)(a:Act)(S:aO)(w:ay):Prop:=
 ∃t9 t10 t33 t34 t35 t36 t37 t38 t39 t40 t41 t42 t13 t46 t47 t48 t49 t50 t51 t52 t53 t54 t55 t56 t57 t58 t59 t60 t61 t62 t63 t64 t65 av:aA,a=⟨#[az<|ae ⟨z.xb,0,af⟩,.slice z.ma z.ms.length z.mc,az<|ae ⟨z.hv,0,af⟩,u 3,u 4,aN (ae ⟨z.mr,0,af⟩) z.np z.np,az<|ae ⟨z.sv,0,af⟩,az<|ae ⟨z.ob,0,af⟩,az<|ae ⟨z.Wg,0,af⟩,t9,t10,av,u 12,t13,u 14,u 15,u 16,u 17,u 18,u 19,u 20,u 21,u 22,u 23,u 24,u 25,u 26,u 27,u 28,u 29,u 30,ag ah z.np,ag ah z.np,t33,t34,t35,t36,t37,t38,t39,t40,t41,t42,.slice z.ma z.ms.length z.mc,ag ah z.ms.length,ag ah z.ms.length,t46,t47,t48,t49,t50,t51,t52,t53,t54,t55,t56,t57,t58,t59,t60,t61,t62,t63,t64,t65,.chan<|ae z.ov,u 67,u 68,u 69,u 70,u 71],[]⟩/\z.BH w/\Own S w z.Ba 119 5 av (fQ z.ms).length ((fQ z.ms).flatMap Ms.cs)
def Gs.dH(z:Gs)(k:Kd)(l:List aA)(v:aA)(S:aO)(w:ay):Prop:=∃lm:List Ms,l=lm.map kX/\k.x.p.At (Nb z.R k.x) lm v S w
variable{z:Gs}{k:Kd}{l:List aA}{v:aA}{S:aO}{w:ay}
def Gs.dH.bg{w1:ay}(h:z.dH k l v S w)(hk:bu S (Nb z.R k.x) w w1):z.dH k l v S w1:=let ⟨lm,h1,h2⟩:=h;⟨lm,h1,h2.bg hk⟩
def Gs.dH.named(h:z.dH k l v S w)(B:au.dE)(hB:∀b,B.dB b->¬S b):au.aI B v:=let ⟨_,_,h2⟩:=h;TY h2.pK.row fun b hb hx=>hB b hx<|h2.pK.r b hb
def Gs.fin{z:Gs}(hO:z.Ok){ks:List Kd}(hg:z.Good ks)(i:Nat)(k:Kd)(hk:ks[i]? =ae k)(l:List aA)(S:aO)(g:bM)(w:ay)(h:z.je.Fin k l S g w):∃v,z.je.BD 177 z.np i v g w/\z.dH k l v S w:=by
 obtain⟨p,nb,cb,c,hp,rfl⟩:=hg i k hk;obtain⟨lm,v,rfl,rfl,hA,_⟩:=h;have hi:i<z.np:=(dS.1 hp).1;refine⟨v,?_,lm,rfl,hA⟩;rcases hA.pK.row.2 with h2|⟨g,cap,cur,rfl,_⟩
 ·obtain rfl:=h2.1;exact ajt (X:=z.je) (x:=z.wx i p nb cb c) rfl rfl rfl hO.Yo hi
 ·exact ajt (X:=z.je) (x:=z.wx i p nb cb c) rfl rfl rfl hO.Yo hi
open Go.Conc.Lib Go.ConcR.Gen Go.ConcN.Gen in
def auv(v1:aA):#[v1]++gz ((waitFn link).ntmps- #[v1].size) ai=#[v1]++gz 83 undef:=by
 kernel_rfl
open Go.ConcR (Payload)in
def auw [Payload]{K:Type}{X:bV K}{ty:dJ}{n:Nat}{Anch:bM->ay->Prop}{Mid:aO->ay->Prop}{dH:K->List aA->aA->aO->ay->Prop}{Good:List K->Prop}{ks:List K}{E E2:dL}{S:aO}{w:ay}{b:bH}{a:Act}{k:List Item}{cs:List bH}{ops:Array Oper}{i:Nat}{rest:List Nat}{o:Oper}{x:Operand}{l7:Array dJ}
 (ho:ops[i]? =ae o)(hw:Region.wanted o (yielded ops a.tmps)=true)(hk:b.kind≠.early)(hq:(X.P.funcs[b.fn]?).any (·.norace)=false)(aP:o.op=.call {callee:=.builtin .close,args:=#[x],argTypes:=l7})(hx:a.eval x=.chan (ae X.ov))
 (hlen:ks.length=n)(aab:Good ks)(dh:WgAt ty X.Wg w (n*KK) 0)(zS:∀(i:Nat) (k:K),ks[i]? =ae k->∀l S g w,X.Fin k l S g w->∃v,X.BD ty n i v g w/\dH k l v S w)
 (Jh:∀b,E2.ro b->E.ro b/\b≠X.Wg)(VL:∀b,E2.rd b->E.rd b)(hR:∀cap s r,w.heap[X.ov]? =ae (.chan cap #[] false s r false)->aC X.P true E2 (fun S g w=>X.AtKd ty Anch g w/\Mid S w) S (G (b.at (a.put o.dst<|dU #[])<|bW ops rest::k) cs) {w with heap:=w.heap.setIfInBounds X.ov<|.chan cap #[] true s r false}):
 X.AtClose ty n Anch Mid dH Good ks E S (G (b.at a<|bW ops (i::rest)::k) cs) w:=by
 refine⟨hlen,aab,dh,?_,zS,G (b.at (a.put o.dst<|dU #[])<|bW ops rest::k) cs,E2,rfl,Jh,VL,fun cap s r AY=>⟨?_,hR cap s r AY⟩⟩
 ·simp[mayWake,G,Frame.at,ho,aP]
 ·have iy:(dY a.eval o).run X.P w=.ok (.value<|dU #[]) {w with heap:=w.heap.setIfInBounds X.ov<|.chan cap #[] true s r false}:=by
   unfold dY;simp only[aP,resolve,invoke,builtin,aGI,Sem.run_pure,Result.andThen_ok,afQ,rQ,tC,hx,run_close_open _ _ AY]
  have eX:(dY a.eval o).events X.P w #[]=#[⟨.obj X.ov,false,true⟩,⟨.obj X.ov,true,true⟩]:=by
   unfold dY;simp[aP,resolve,invoke,builtin,hx,events_close_open _ _ AY]
  rw[aFS ho hw hk iy];congr 1;unfold listed;rw[eX];exact seen_eq hq<|by simp
open Go.Conc.Lib Go.ConcR.Gen Go.ConcN.Gen in
def auy{K:Type}{X:bV K}{E:dL}{S:aO}{w:ay}{Mid:aO->ay->Prop}{b:bH}{a:Act}{ops:Array Oper}{i:Nat}{rest:List Nat}{k:List Item}{cs:List bH}{o:Oper}{args:Array Operand}{l7:Array dJ}(hP:X.P=prog)(ho:ops[i]? =ae o)(hw:Region.wanted o (yielded ops a.tmps)=true)(hk:b.kind≠.early)(aP:o.op=.call {callee:=.value<|.func 115,args,argTypes:=l7})(hv:args.map a.eval=#[az<|ae ⟨X.Wg,0,af⟩])(hM:∀w1,bu S E w w1->Mid S w1):
 aC X.P true E (fun S g w=>X.AtKd 177 (TU link X.Wg (b.at a<|bW ops (i::rest)::k) cs) g w/\Mid S w) S (G (b.at a<|bW ops (i::rest)::k) cs) w:=by
 have H:WgLib X.P link:=hP▸TR;refine aC.call ho hw hk aP H.f_wait (nm_wait link) rfl ?_;rw[hv,auv];exact atZ (L:=link) H hM
def Gs.E2(z:Gs):dL:=⟨z.R,z.R,fun _ h=>h⟩
open Go.Conc.Lib Go.ConcR.Gen Go.ConcN.Gen in
def auz{z:Gs}{ks:List Kd}{u:Nat->aA}{cs:List bH}(hO:z.Ok)(hl:ks.length=z.np)(hg:z.Good ks)(t9 t10 t33 t34 t35 t36 t37 t38 t39 t40 t41 t42 t13 t46 t47 t48 t49 t50 t51 t52 t53 t54 t55 t56 t57 t58 t59 t60 t61 t62 t63 t64 t65 av:aA)(S:aO)(w:ay)(h:z.o6 ks S w)(dh:WgAt 177 z.Wg w ((z.np:Int)*KK) 0)(hA:Own S w z.Ba 119 5 av (fQ z.ms).length ((fQ z.ms).flatMap Ms.cs)):
 aC prog true z.E (z.je.kE (fun ks E S g w=>∃a,z.je.AtClose 177 z.np (Dv z cs a) (z.Mid u a) z.dH z.Good ks E S g w) [] ks 0 z.E) S (G ((base 54).at ⟨#[az<|ae ⟨z.xb,0,af⟩,.slice z.ma z.ms.length z.mc,az<|ae ⟨z.hv,0,af⟩,u 3,u 4,aN (ae ⟨z.mr,0,af⟩) z.np z.np,az<|ae ⟨z.sv,0,af⟩,az<|ae ⟨z.ob,0,af⟩,az<|ae ⟨z.Wg,0,af⟩,t9,t10,av,u 12,t13,u 14,u 15,u 16,u 17,u 18,u 19,u 20,u 21,u 22,u 23,u 24,u 25,u 26,u 27,u 28,u 29,u 30,ag ah z.np,ag ah z.np,t33,t34,t35,t36,t37,t38,t39,t40,t41,t42,.slice z.ma z.ms.length z.mc,ag ah z.ms.length,ag ah z.ms.length,t46,t47,t48,t49,t50,t51,t52,t53,t54,t55,t56,t57,t58,t59,t60,t61,t62,t63,t64,t65,u 66,u 67,u 68,u 69,u 70,u 71],[]⟩ [.code EC]) cs) w:=by
 have qA:∀b,z.R b->z.E.ro b:=fun b hb=>.inl hb;have yh:∀(S:aO) (w:ay),z.BH w->Own S w z.Ba 119 5 av (fQ z.ms).length ((fQ z.ms).flatMap Ms.cs)->z.Mid u ⟨#[az<|ae ⟨z.xb,0,af⟩,.slice z.ma z.ms.length z.mc,az<|ae ⟨z.hv,0,af⟩,u 3,u 4,aN (ae ⟨z.mr,0,af⟩) z.np z.np,az<|ae ⟨z.sv,0,af⟩,az<|ae ⟨z.ob,0,af⟩,az<|ae ⟨z.Wg,0,af⟩,t9,t10,av,u 12,t13,u 14,u 15,u 16,u 17,u 18,u 19,u 20,u 21,u 22,u 23,u 24,u 25,u 26,u 27,u 28,u 29,u 30,ag ah z.np,ag ah z.np,t33,t34,t35,t36,t37,t38,t39,t40,t41,t42,.slice z.ma z.ms.length z.mc,ag ah z.ms.length,ag ah z.ms.length,t46,t47,t48,t49,t50,t51,t52,t53,t54,t55,t56,t57,t58,t59,t60,t61,t62,t63,t64,t65,.chan<|ae z.ov,u 67,u 68,u 69,u 70,u 71],[]⟩ S w:=fun S w h1 h2=>⟨t9,t10,t33,t34,t35,t36,t37,t38,t39,t40,t41,t42,t13,t46,t47,t48,t49,t50,t51,t52,t53,t54,t55,t56,t57,t58,t59,t60,t61,t62,t63,t64,t65,av,rfl,h1,h2⟩;have dF:∀(S:aO) (g:bM) (w:ay),g.status=.running->(∃a,z.je.AtClose 177 z.np (Dv z cs a) (z.Mid u a) z.dH z.Good ks z.E S g w)->z.je.kE (fun ks E S g w=>∃a,z.je.AtClose 177 z.np (Dv z cs a) (z.Mid u a) z.dH z.Good ks E S g w) [] ks 0 z.E S g w:=fun S g w h1 h2=>⟨rfl,h1,h2⟩;generalize z.je.kE (fun ks E S g w=>∃a,z.je.AtClose 177 z.np (Dv z cs a) (z.Mid u a) z.dH z.Good ks E S g w) [] ks 0 z.E=St at dF⊢
 simp only[Dv,Nh,ED,EC,zo,xI,qU,Tryz.f54,ik,gQ,jo]at dF⊢
 refine aC.sq ?_;refine aC.reg [0,1] rfl ?_;refine aC.val (.chan<|ae z.ov) rfl rfl (by decide) (fun w1 aT=>?_) (fun w1 aT e he=>?_) ?_
 ·have q0:=(h.bg hO qA aT).jX.ob;go_simp
 ·have q0:=(h.bg hO qA aT).jX.ob;simp[go_sem,q0]at he;subst he;exact .inr ⟨hO.Qd,rfl⟩
 walk_nrm;refine aC.stop fun w1 aT=>dF _ _ _ rfl ⟨⟨#[az<|ae ⟨z.xb,0,af⟩,.slice z.ma z.ms.length z.mc,az<|ae ⟨z.hv,0,af⟩,u 3,u 4,aN (ae ⟨z.mr,0,af⟩) z.np z.np,az<|ae ⟨z.sv,0,af⟩,az<|ae ⟨z.ob,0,af⟩,az<|ae ⟨z.Wg,0,af⟩,t9,t10,av,u 12,t13,u 14,u 15,u 16,u 17,u 18,u 19,u 20,u 21,u 22,u 23,u 24,u 25,u 26,u 27,u 28,u 29,u 30,ag ah z.np,ag ah z.np,t33,t34,t35,t36,t37,t38,t39,t40,t41,t42,.slice z.ma z.ms.length z.mc,ag ah z.ms.length,ag ah z.ms.length,t46,t47,t48,t49,t50,t51,t52,t53,t54,t55,t56,t57,t58,t59,t60,t61,t62,t63,t64,t65,.chan<|ae z.ov,u 67,u 68,u 69,u 70,u 71],[]⟩,auw (X:=z.je) (E2:=z.E2) rfl rfl (by decide) (by kernel_rfl) rfl rfl hl hg (dh.of_block<|aT.ro z.Wg<|.inr rfl) (Gs.fin hO hg) (fun b hb=>⟨.inl hb,fun e=>hO.Dt<|show z.R z.Wg from(show b=z.Wg from e)▸hb⟩) (fun b hb=>hb) fun cap s r AY=>?_⟩;have h1:=(h.bg hO qA aT).jX;have DZ:=hA.bg aT;have Bf:¬S z.ov:=h.vK.1;have zM:bu S z.E2 w1 ({w1 with heap:=w1.heap.setIfInBounds z.je.ov<|.chan cap #[] true s r false}:ay):=⟨rfl,rfl,rfl,by simp,fun b hb=>iK fun e=>Bf<|show S z.ov from(show z.ov=b from e)▸hb,fun b hb=>iK fun e=>hO.vK<|show z.R z.ov from(show z.ov=b from e)▸hb⟩;have h2:=h1.bg hO (E:=z.E2) (fun b hb=>hb) zM;have G8:=DZ.bg zM;generalize({w1 with heap:=w1.heap.setIfInBounds z.je.ov<|.chan cap #[] true s r false}:ay)=w2 at h2 G8⊢
 clear zM AY;have EX:∀w3,bu S z.E2 w2 w3->z.Mid u ⟨#[az<|ae ⟨z.xb,0,af⟩,.slice z.ma z.ms.length z.mc,az<|ae ⟨z.hv,0,af⟩,u 3,u 4,aN (ae ⟨z.mr,0,af⟩) z.np z.np,az<|ae ⟨z.sv,0,af⟩,az<|ae ⟨z.ob,0,af⟩,az<|ae ⟨z.Wg,0,af⟩,t9,t10,av,u 12,t13,u 14,u 15,u 16,u 17,u 18,u 19,u 20,u 21,u 22,u 23,u 24,u 25,u 26,u 27,u 28,u 29,u 30,ag ah z.np,ag ah z.np,t33,t34,t35,t36,t37,t38,t39,t40,t41,t42,.slice z.ma z.ms.length z.mc,ag ah z.ms.length,ag ah z.ms.length,t46,t47,t48,t49,t50,t51,t52,t53,t54,t55,t56,t57,t58,t59,t60,t61,t62,t63,t64,t65,.chan<|ae z.ov,u 67,u 68,u 69,u 70,u 71],[]⟩ S w3:=fun w3 hk=>yh S w3 (h2.bg hO (fun b hb=>hb) hk)<|G8.bg hk;walk_nrm;refine aC.gK ?_;refine aC.sq ?_;refine aC.reg [0] rfl ?_;exact auy (X:=z.je) rfl rfl rfl (by decide) rfl (by walk_nrm;rfl) EX
end Twin
end
section
namespace Twin
open Go Go.Proofs Go.Conc Go.RowKit Go.Maps fU
open Go.ConcR (WgAt KK DC0)
variable{z:Gs}{u:Nat->aA}{cs:List bH}{S:aO}{w:ay}
def auA(hO:z.Ok)(h:z.o6 [] S w)(dh:WgAt 177 z.Wg w 0 0):
 aC prog true z.E (z.je.kE (fun ks E S g w=>∃a,z.je.AtClose 177 z.np (Dv z cs a) (z.Mid u a) z.dH z.Good ks E S g w) (Gi 0 z.np++vM z.ms) [] 0 z.E) S (G ((base 54).at ⟨#[az<|ae ⟨z.xb,0,af⟩,.slice z.ma z.ms.length z.mc,az<|ae ⟨z.hv,0,af⟩,u 3,u 4,aN (ae ⟨z.mr,0,af⟩) z.np z.np,az<|ae ⟨z.sv,0,af⟩,az<|ae ⟨z.ob,0,af⟩,az<|ae ⟨z.Wg,0,af⟩,u 9,u 10,u 11,u 12,u 13,u 14,u 15,u 16,u 17,u 18,u 19,u 20,u 21,u 22,u 23,u 24,u 25,u 26,u 27,u 28,u 29,u 30,ag ah z.np,ag ah 0,u 33,u 34,u 35,u 36,u 37,u 38,u 39,u 40,u 41,u 42,u 43,u 44,u 45,u 46,u 47,u 48,u 49,u 50,u 51,u 52,u 53,u 54,u 55,u 56,u 57,u 58,u 59,u 60,u 61,u 62,u 63,u 64,u 65,u 66,u 67,u 68,u 69,u 70,u 71],[]⟩ [.code IJ,.inLoop IJ,.inBlock 0,.code zo]) cs) w:=by
 have hR:=auf (End:=fun ks E S g w=>∃a,z.je.AtClose 177 z.np (Dv z cs a) (z.Mid u a) z.dH z.Good ks E S g w) (ts:=vM z.ms) (u:=u) (cs:=cs) hO (fun i=>adh i z.ms fun m hm hk=>let ⟨j,hj,_⟩:=hO.q m hm hk;⟨j,hj⟩) ?_ z.np [] (u 9) (u 10) (u 33) (u 34) (u 35) (u 36) (u 37) (u 38) (u 39) (u 40) (u 41) (u 42) S w (by simp) (fun i k hk=>by simp at hk) h<|by simpa using dh
 ·exact hR
 intro ks t9 t10 t33 t34 t35 t36 t37 t38 t39 t40 t41 t42 S w hl hg h dh;have uj:=fun t13 t46 t47 t48 t49 t50 t51 t52 t53 t54 t55 t56 t57 t58 t59 t60 t61 t62 t63 t64 t65 av S w h1 h2 h3=>auz (u:=u) (cs:=cs) hO hl hg t9 t10 t33 t34 t35 t36 t37 t38 t39 t40 t41 t42 t13 t46 t47 t48 t49 t50 t51 t52 t53 t54 t55 t56 t57 t58 t59 t60 t61 t62 t63 t64 t65 av S w h1 h2 h3;have G7:=auo (End:=fun ks E S g w=>∃a,z.je.AtClose 177 z.np (Dv z cs a) (z.Mid u a) z.dH z.Good ks E S g w) (ks:=ks) (u:=u) (t9:=t9) (t10:=t10) (t33:=t33) (t34:=t34) (t35:=t35) (t36:=t36) (t37:=t37) (t38:=t38) (t39:=t39) (t40:=t40) (t41:=t41) (t42:=t42) (cs:=cs) hO hl (fun t13 t46 t47 t48 t49 t50 t51 t52 t53 t54 t55 t56 t57 t58 t59 t60 t61 t62 t63 t64 t65 av S w h1 h2 h3 _=>uj t13 t46 t47 t48 t49 t50 t51 t52 t53 t54 t55 t56 t57 t58 t59 t60 t61 t62 t63 t64 t65 av S w h1 h2 h3) z.ms [] (u 13) (u 46) (u 47) (u 48) (u 49) (u 50) (u 51) (u 52) (u 53) (u 54) (u 55) (u 56) (u 57) (u 58) (u 59) (u 60) (u 61) (u 62) (u 63) (u 64) (u 65) (aN af 0 0) S w rfl h dh ⟨aFm _ _ _ _,by simp[Value.ownBlock]⟩ (by simp[Value.ownBlock]);generalize z.je.kE (fun ks E S g w=>∃a,z.je.AtClose 177 z.np (Dv z cs a) (z.Mid u a) z.dH z.Good ks E S g w) (vM z.ms) ks 0 z.E=St at G7⊢
 clear uj;generalize hI2:Item.code EC=I2 at G7;simp only[Ez,EC,zo,xI,qU,Tryz.f54,ik,gQ,jo,xG]at G7 hI2⊢
 refine aC.sq ?_;refine aC.reg [0] rfl ?_;refine aC.mu rfl rfl ?_;walk_nrm;refine aC.gK ?_;refine aC.sq ?_;refine aC.sq ?_;refine aC.reg [0,1,2] rfl ?_;refine aC.mu rfl rfl ?_;walk_nrm;refine aC.mu rfl rfl ?_;walk_nrm;refine aC.mu rfl rfl ?_;walk_nrm;refine aC.gK ?_;refine aC.ctl rfl (fun _=>aFs) ?_;refine aC.ctl rfl (fun _=>aFX) ?_;rw[hI2];exact G7
def IM:Array Oper:=match jo (gQ<|gQ<|gQ<|gQ qU)with| .region _ o _=>o|_=>#[]
def gB(z:Gs)(u:Nat->aA):Nat->Value:=(fun i=>match i with|27=>az (ae ⟨z.xb,0,af⟩)|28=>az (ae ⟨z.xb,0,af⟩)|29=>az (ae ⟨z.xb,68,af⟩)|30=>aN (ae ⟨z.pb,0,af⟩) z.np z.pc|i=>u i)
def auB(z:Gs)(u:Nat->aA):#[az<|ae ⟨z.xb,0,af⟩,.slice z.ma z.ms.length z.mc,az<|ae ⟨z.hv,0,af⟩,u 3,u 4,aN (ae ⟨z.mr,0,af⟩) z.np z.np,az<|ae ⟨z.sv,0,af⟩,az<|ae ⟨z.ob,0,af⟩,az<|ae ⟨z.Wg,0,af⟩,u 9,u 10,u 11,u 12,u 13,u 14,u 15,u 16,u 17,u 18,u 19,u 20,u 21,u 22,u 23,u 24,u 25,u 26,az<|ae ⟨z.xb,0,af⟩,az<|ae ⟨z.xb,0,af⟩,az<|ae ⟨z.xb,68,af⟩,aN (ae ⟨z.pb,0,af⟩) z.np z.pc,ag ah z.np,ag ah 0,u 33,u 34,u 35,u 36,u 37,u 38,u 39,u 40,u 41,u 42,u 43,u 44,u 45,u 46,u 47,u 48,u 49,u 50,u 51,u 52,u 53,u 54,u 55,u 56,u 57,u 58,u 59,u 60,u 61,u 62,u 63,u 64,u 65,u 66,u 67,u 68,u 69,u 70,u 71]=#[az<|ae ⟨z.xb,0,af⟩,.slice z.ma z.ms.length z.mc,az<|ae ⟨z.hv,0,af⟩,gB z u 3,gB z u 4,aN (ae ⟨z.mr,0,af⟩) z.np z.np,az<|ae ⟨z.sv,0,af⟩,az<|ae ⟨z.ob,0,af⟩,az<|ae ⟨z.Wg,0,af⟩,gB z u 9,gB z u 10,gB z u 11,gB z u 12,gB z u 13,gB z u 14,gB z u 15,gB z u 16,gB z u 17,gB z u 18,gB z u 19,gB z u 20,gB z u 21,gB z u 22,gB z u 23,gB z u 24,gB z u 25,gB z u 26,gB z u 27,gB z u 28,gB z u 29,gB z u 30,ag ah z.np,ag ah 0,gB z u 33,gB z u 34,gB z u 35,gB z u 36,gB z u 37,gB z u 38,gB z u 39,gB z u 40,gB z u 41,gB z u 42,gB z u 43,gB z u 44,gB z u 45,gB z u 46,gB z u 47,gB z u 48,gB z u 49,gB z u 50,gB z u 51,gB z u 52,gB z u 53,gB z u 54,gB z u 55,gB z u 56,gB z u 57,gB z u 58,gB z u 59,gB z u 60,gB z u 61,gB z u 62,gB z u 63,gB z u 64,gB z u 65,gB z u 66,gB z u 67,gB z u 68,gB z u 69,gB z u 70,gB z u 71]:=by kernel_rfl
def auC(hO:z.Ok)(h:z.o6 [] S w)(dh:WgAt 177 z.Wg w 0 0):
 aC prog true z.E (z.je.kE (fun ks E S g w=>∃a,z.je.AtClose 177 z.np (Dv z cs a) (z.Mid (gB z u) a) z.dH z.Good ks E S g w) (Gi 0 z.np++vM z.ms) [] 0 z.E) S (G ((base 54).at ⟨#[az<|ae ⟨z.xb,0,af⟩,.slice z.ma z.ms.length z.mc,az<|ae ⟨z.hv,0,af⟩,u 3,u 4,aN (ae ⟨z.mr,0,af⟩) z.np z.np,az<|ae ⟨z.sv,0,af⟩,az<|ae ⟨z.ob,0,af⟩,az<|ae ⟨z.Wg,0,af⟩,u 9,u 10,u 11,u 12,u 13,u 14,u 15,u 16,u 17,u 18,u 19,u 20,u 21,u 22,u 23,u 24,u 25,u 26,u 27,u 28,u 29,u 30,u 31,u 32,u 33,u 34,u 35,u 36,u 37,u 38,u 39,u 40,u 41,u 42,u 43,u 44,u 45,u 46,u 47,u 48,u 49,u 50,u 51,u 52,u 53,u 54,u 55,u 56,u 57,u 58,u 59,u 60,u 61,u 62,u 63,u 64,u 65,u 66,u 67,u 68,u 69,u 70,u 71],[]⟩ [bW IM [],.code xI]) cs) w:=by
 have aas:=auA (u:=gB z u) (cs:=cs) hO h dh;rw[<-auB]at aas;generalize z.je.kE (fun ks E S g w=>∃a,z.je.AtClose 177 z.np (Dv z cs a) (z.Mid (gB z u) a) z.dH z.Good ks E S g w) (Gi 0 z.np++vM z.ms) [] 0 z.E=St at aas⊢
 have qA:∀b,z.R b->z.E.ro b:=fun b hb=>.inl hb;simp only[IJ,zo,xI,IM,qU,Tryz.f54,ik,gQ,jo,xG]at aas⊢
 refine aC.gK ?_;refine aC.sq ?_;refine aC.sq ?_;refine aC.reg [0,1,2,3,4,5] rfl ?_;refine aC.val (az<|ae ⟨z.xb,0,af⟩) rfl rfl (by decide) (fun w1 aT=>?_) (fun w1 aT e he=>?_) ?_
 ·have q0:=(h.bg hO qA aT).jX.hv;go_simp
 ·have q0:=(h.bg hO qA aT).jX.hv;simp[go_sem,q0]at he;subst he;exact .inr ⟨hO.Qb,rfl⟩
 walk_nrm;refine aC.mu rfl rfl ?_;walk_nrm;refine aC.mute (az<|ae ⟨z.xb,68,af⟩) rfl rfl (by decide) (fun _=>by go_simp<;>rfl) (fun _=>by simp[go_sem]) ?_;walk_nrm;refine aC.val (aN (ae ⟨z.pb,0,af⟩) z.np z.pc) rfl rfl (by decide) (fun w1 aT=>?_) (fun w1 aT e he=>?_) ?_
 ·have q0:=(h.bg hO qA aT).jX.ps;go_simp
 ·have q0:=(h.bg hO qA aT).jX.ps;simp[go_sem,q0]at he;subst he;exact .inr ⟨hO.Qc,rfl⟩
 walk_nrm;refine aC.mute (ag ah z.np) rfl rfl (by decide) (fun _=>by go_simp<;>rfl) (fun _=>by simp[go_sem]) ?_;walk_nrm;refine aC.mu rfl rfl ?_;walk_nrm;refine aC.gK ?_;refine aC.ctl rfl (fun _=>aFs) ?_;refine aC.ctl rfl (fun _=>aFX) ?_;exact aas
end Twin
end
section
namespace Twin
open Go Go.Proofs Go.Conc Go.RowKit Go.Maps fU
open Go.ConcR (WgAt KK DC0)
open Go.ConcN (WgLive PayAt Has)
def ajF(fo s:Nat->Prop):au.uF (au.bP fo s)=lK s:=by
 funext l;cases l<;>first|rfl|exact propext ⟨fun h=>h.1,fun h=>⟨h,.inl h⟩⟩
structure Gs.ajG(z:Gs)(S:aO)(w:ay):Prop where
 Qj:z.o6 [] S w
 own:∀b,S b->b≠z.Wg/\b≠z.C/\b≠z.ov/\¬(z.iQ b\/z.Ah b)
 rd:∀b,z.R b->¬z.iQ b
 cl:z.C<w.heap.size
 ns:¬(z.iQ z.Wg\/z.Ah z.Wg)/\¬(z.iQ z.C\/z.Ah z.C)/\¬(z.iQ z.ov\/z.Ah z.ov)
 ne:z.Wg≠z.ov/\z.C≠z.ov
 over:∃cap s r,w.heap[z.ov]? =ae (.chan cap #[] false s r false)
 pay:∃cs:Array aA,w.heap[z.C]? =ae (.cells cs 107)/\cs.size=z.np
 wg:WgAt 177 z.Wg w 0 0
 qw:au.jK (fun b=>(z.iQ b\/z.Ah b)\/b=z.Wg) w
def auD{z:Gs}{u:Nat->aA}{cs:List bH}{S:aO}{w:ay}{gs:Array bM}{sl:Option (Nat×Nat)}{t:Trace}{q:Nat->Nat}(hO:z.Ok)(h:z.ajG S w)(hm:z.m0=gs.size)
 (ha:gs[0]? =ae (G ((base 54).at ⟨#[az<|ae ⟨z.xb,0,af⟩,.slice z.ma z.ms.length z.mc,az<|ae ⟨z.hv,0,af⟩,u 3,u 4,aN (ae ⟨z.mr,0,af⟩) z.np z.np,az<|ae ⟨z.sv,0,af⟩,az<|ae ⟨z.ob,0,af⟩,az<|ae ⟨z.Wg,0,af⟩,u 9,u 10,u 11,u 12,u 13,u 14,u 15,u 16,u 17,u 18,u 19,u 20,u 21,u 22,u 23,u 24,u 25,u 26,u 27,u 28,u 29,u 30,u 31,u 32,u 33,u 34,u 35,u 36,u 37,u 38,u 39,u 40,u 41,u 42,u 43,u 44,u 45,u 46,u 47,u 48,u 49,u 50,u 51,u 52,u 53,u 54,u 55,u 56,u 57,u 58,u 59,u 60,u 61,u 62,u 63,u 64,u 65,u 66,u 67,u 68,u 69,u 70,u 71],[]⟩ [bW IM [],.code xI]) cs))(hL:Leavers prog t gs q)(hP:Past (au.uF<|au.bP z.Ah z.iQ) w.heap.size t):
 ∃a M gs1 w1 lu t1 q1 ks S1 Sw G1,runNT prog M (crowd gs w sl) t=(.next<|crowd gs1 w1 lu,t1)/\gs1[0]? =ae (dO cs a)/\Leavers prog t1 gs1 q1/\Past (au.uF<|au.bP z.Ah fun b=>z.iQ b\/b=z.Wg) w1.heap.size t1/\z.Mid (gB z u) a S1 w1/\ks.length=z.np/\z.Good ks/\(∃E1,z.je.Mem ks E1 S1 G1 Sw w1)/\
  PayAt z.C z.np w1/\au.jK (fun b=>(z.iQ b\/b=z.Wg)\/z.Ah b) w1/\∀(i:Nat) (k:Kd),ks[i]? =ae k->∃v,z.dH k ((z.marks i).map kX) v (Sw i) w1/\Has z.C i v w1:=by
 have hR:=auC (u:=u) (cs:=cs) hO h.Qj h.wg
 have uj:∀a,dO cs a=G ((base 54).at (a.put ((Nh[0]?).bind (·.dst))<|dU #[])<|bW Nh []::[.code ED]) cs:=fun a=>rfl
 have dF:z.je.Start z.np z.E S gs w t q:=⟨hm,hL,by rw[<-ajF z.Ah];exact hP,fun b hb=>(h.qw.low b<|.inl hb).2,fun b hb=>⟨h.Qj.low b hb,fun hx=>h.Qj.Ak b hx hb,(h.own b hb).1,(h.own b hb).2.1,(h.own b hb).2.2.1,(h.own b hb).2.2.2⟩,
  fun b hb=>⟨h.Qj.zq b hb,fun e=>hO.Dt<|(show b=z.Wg from e)▸hb,fun e=>hO.nC<|(show b=z.C from e)▸hb,fun e=>hO.vK<|(show b=z.ov from e)▸hb,h.rd b hb⟩,fun b hb=>hb,⟨IK h.wg,h.cl,h.Qj.vK.2,h.ns.1,h.ns.2.1,h.ns.2.2,hO.Yo,h.ne.1,h.ne.2⟩,h.over,h.pay,h.qw⟩
 obtain⟨a,M,gs1,w1,lu,t1,q1,ks,S1,Sw,G1,r1,r2,r3,r4,r5,r6,r7,r8,_,r9,r10,r11⟩:=bV.atX (X:=z.je) (ty:=177) (n:=z.np) (sl:=sl) (dO:=dO cs) (Anch:=Dv z cs) (Mid:=z.Mid<|gB z u) (dH:=z.dH) (Good:=z.Good) z.fit (fun _ _ _ _ _ hr=>hr.named) (fun _ _ _ hx=>by obtain⟨T,rfl,_⟩:=hx;rfl) (fun _=>rfl) (fun _ _ _ _ _ _ hr hk=>hr.bg hk) hO.np (fun a g w hx hl=>by
  rw[uj];exact as5 (X:=z.je) (L:=link) TR g w hx hl) dF ha hR
 refine⟨a,M,gs1,w1,lu,t1,q1,ks,S1,Sw,G1,r1,r2,r3,by rw[ajF];exact r4,r5,r6,r7,r8,r9,r10.iff fun b=>or_right_comm,fun i k hk=>?_⟩
 have:=r11 i k hk
 rw[adg,adh i z.ms fun m hm hk=>let ⟨j,hj,_⟩:=hO.q m hm hk;⟨j,hj⟩]at this
 exact this
end Twin
end
section
namespace Twin
open Go Go.Proofs Go.Conc Go.RowKit Go.Maps fU
open Go.ConcR (WgAt KK DC0)
def ajH(w:ay):∀n:Nat,1<=n->n<=4->(Instr.makeSlice 165 (ag ah n)<|ag ah n).run prog w=.ok (aN (ae ⟨w.heap.size,0,af⟩) n n) (w.alloc<|.cells (gz n<|.chan af) 178)/\(Instr.makeSlice 165 (ag ah n)<|ag ah n).events prog w #[]=#[]
 |0,h,_=>absurd h<|by omega
 |1,_,_=>⟨by kernel_rfl,by kernel_rfl⟩
 |2,_,_=>⟨by kernel_rfl,by kernel_rfl⟩
 |3,_,_=>⟨by kernel_rfl,by kernel_rfl⟩
 |4,_,_=>⟨by kernel_rfl,by kernel_rfl⟩
 |n+5,_,h=>absurd h<|by omega
def ajI(w:ay):∀n:Nat,1<=n->n<=4->(Instr.makeSlice 166 (ag ah n)<|ag ah n).run prog w=.ok (aN (ae ⟨w.heap.size,0,af⟩) n n) (w.alloc<|.cells (gz n<|aN af 0 0) 107)/\(Instr.makeSlice 166 (ag ah n)<|ag ah n).events prog w #[]=#[]
 |0,h,_=>absurd h<|by omega
 |1,_,_=>⟨by kernel_rfl,by kernel_rfl⟩
 |2,_,_=>⟨by kernel_rfl,by kernel_rfl⟩
 |3,_,_=>⟨by kernel_rfl,by kernel_rfl⟩
 |4,_,_=>⟨by kernel_rfl,by kernel_rfl⟩
 |n+5,_,h=>absurd h<|by omega
def auE(w:ay):(Instr.makeChan 167<|ag ah 0).run prog w=.ok (.chan<|ae w.heap.size) (w.alloc<|.chan 0 #[] false 0 0 false):=by kernel_rfl
def auF(w:ay):(Instr.makeChan 167<|ag ah 0).events prog w #[]=#[]:=by kernel_rfl
def ajJ{v:aA}(hv:∀B:au.dE,au.aI B v)(t:dJ)(B:au.dE):au.mZ B (aG #[v] t):=fun x hx=>by
 simp at hx;subst hx;exact hv B
def ajK{v:aA}(hv:∀B:au.dE,au.aI B v)(n:Nat)(t:dJ)(B:au.dE):au.mZ B (.cells (gz n v) t):=fun x hx=>by
 obtain⟨_,rfl⟩:=Lu.1 hx;exact hv B
structure Laid(xb np:Nat)(S:aO)(w:ay)(hv mr C sv ov ob:Nat):Prop where
 bh:fE S w hv #[az<|ae ⟨xb,0,af⟩] 33
 bm:fE S w mr (gz np<|.chan af) 178
 bC:fE S w C (gz np<|aN af 0 0) 107
 bs:fE S w sv #[aN (ae ⟨C,0,af⟩) np np] 166
 bo:S ov/\w.heap[ov]? =ae (.chan 0 #[] false 0 0 false)
 bb:fE S w ob #[.chan<|ae ov] 167
 lt:hv<mr/\mr<C/\C<sv/\sv<ov/\ov<ob
def J7:Array Oper:=match jo qU with| .region _ o _=>o|_=>#[]
def auG{xb hv pb np pc:Nat}{mv:aA}{E:dL}{S:aO}{w:ay}{cs:List bH}(h1:1<=np)(h4:np<=4)(xZ:E.rd xb){w0:Nat}(iI:w0<=w.heap.size)(Bf:¬S xb)(hS:∀b,S b->b<w.heap.size)(hH:fE S w hv #[az<|ae ⟨xb,0,af⟩] 33)(gY:aB w ⟨xb,68,af⟩=ae (aN (ae ⟨pb,0,af⟩) np pc)):
 aC prog true E (fun S' g' w'=>∃(u:Nat->aA) (mr C sv ov ob:Nat),Laid xb np S' w' hv mr C sv ov ob/\w0<=mr/\g'=G ((base 54).at ⟨#[az<|ae ⟨xb,0,af⟩,mv,az<|ae ⟨hv,0,af⟩,u 3,u 4,aN (ae ⟨mr,0,af⟩) np np,az<|ae ⟨sv,0,af⟩,az<|ae ⟨ob,0,af⟩,u 8,u 9,u 10,u 11,u 12,u 13,u 14,u 15,u 16,u 17,u 18,u 19,u 20,u 21,u 22,u 23,u 24,u 25,u 26,u 27,u 28,u 29,u 30,u 31,u 32,u 33,u 34,u 35,u 36,u 37,u 38,u 39,u 40,u 41,u 42,u 43,u 44,u 45,u 46,u 47,u 48,u 49,u 50,u 51,u 52,u 53,u 54,u 55,u 56,u 57,u 58,u 59,u 60,u 61,u 62,u 63,u 64,u 65,u 66,u 67,u 68,u 69,u 70,u 71],[]⟩ [bW IM [0],.code xI]) cs)
  S (G ((base 54).at ⟨#[az<|ae ⟨xb,0,af⟩,mv,az<|ae ⟨hv,0,af⟩,ai,ai,ai,ai,ai,ai,ai,ai,ai,ai,ai,ai,ai,ai,ai,ai,ai,ai,ai,ai,ai,ai,ai,ai,ai,ai,ai,ai,ai,ai,ai,ai,ai,ai,ai,ai,ai,ai,ai,ai,ai,ai,ai,ai,ai,ai,ai,ai,ai,ai,ai,ai,ai,ai,ai,ai,ai,ai,ai,ai,ai,ai,ai,ai,ai,ai,ai,ai,ai],[]⟩ [bW J7 [1],.code<|gQ qU]) cs) w:=by
 generalize Qe:Item.code xI=IR
 generalize hI1:Item.inRegion IM [0]=I1
 simp only[xI,IM,J7,qU,Tryz.f54,ik,gQ,jo]at Qe hI1⊢
 refine aC.mu rfl rfl ?_
 walk_nrm
 refine aC.gK ?_
 refine aC.sq ?_
 refine aC.reg [0,1,2,3,4,5,6] rfl ?_
 refine aC.val (az<|ae ⟨xb,0,af⟩) rfl rfl (by decide) (fun w1 aT=>?_) (fun w1 aT e he=>?_) ?_
 ·have q0:=(hH.bg aT).cell (o:=0) rfl
  go_simp
 ·have q0:=(hH.bg aT).cell (o:=0) rfl
  simp[go_sem,q0]at he
  subst he
  exact .inl hH.1
 walk_nrm
 refine aC.mu rfl rfl ?_
 walk_nrm
 refine aC.mute (az<|ae ⟨xb,68,af⟩) rfl rfl (by decide) (fun _=>by go_simp<;>rfl) (fun _=>by simp[go_sem]) ?_
 walk_nrm
 refine aC.val (aN (ae ⟨pb,0,af⟩) np pc) rfl rfl (by decide) (fun w1 aT=>?_) (fun w1 aT e he=>?_) ?_
 ·have q0:=oh gY xZ aT
  go_simp
 ·have q0:=oh gY xZ aT
  simp[go_sem,q0]at he
  subst he
  exact .inr ⟨xZ,rfl⟩
 walk_nrm
 refine aC.mute (ag ah np) rfl rfl (by decide) (fun _=>by go_simp<;>rfl) (fun _=>by simp[go_sem]) ?_
 walk_nrm
 refine aC.kQ rfl rfl (by decide) fun w1 aT=>?_
 have ig:=aT.size
 replace hH:=hH.bg aT
 replace gY:=oh gY xZ aT
 replace hS:=yH hS aT
 refine⟨aN (ae ⟨w1.heap.size,0,af⟩) np np,w1.alloc<|.cells (gz np<|.chan af) 178,.inl (by go_simp;rw[(ajH w1 np h1 h4).1];rfl),xC (by simp[go_sem];exact(ajH w1 np h1 h4).2) (J6 _<|ajK (fun _=>.chan fun x hx=>by cases hx) np 178),?_⟩
 have auH:hv<w1.heap.size:=hS _ hH.1
 have auI:w0<=w1.heap.size:=by omega
 have iC:=oJ gY
 simp only at iC
 have hM:=fE.new S w1 (gz np<|.chan af) 178
 replace hH:=hH.alloc<|.cells (gz np<|.chan af) 178
 replace gY:(w1.alloc<|.cells (gz np<|.chan af) 178).cell? ⟨xb,68,af⟩=ae (aN (ae ⟨pb,0,af⟩) np pc):=(aFf<|aFe w1 _ _<|oJ gY).t gY
 replace Bf:¬grow S w1 (w1.alloc<|.cells (gz np<|.chan af) 178) xb:=fun hx=>hx.e Bf fun y=>by omega
 replace hS:=IG hS<|.cells (gz np<|.chan af) 178
 replace iI:w0<=(w1.alloc<|.cells (gz np<|.chan af) 178).heap.size:=by simp<;>omega
 clear aT iC ig
 generalize grow S w1 (w1.alloc<|.cells (gz np<|.chan af) 178)=S at*
 generalize w1.alloc (.cells (gz np<|.chan af) 178)=w at*
 generalize w1.heap.size=mr at*
 walk_nrm
 refine aC.mu rfl rfl ?_
 walk_nrm
 refine aC.gK ?_
 refine aC.sq ?_
 refine aC.reg [0,1,2,3,4,5,6,7] rfl ?_
 refine aC.val (az<|ae ⟨xb,0,af⟩) rfl rfl (by decide) (fun w1 aT=>?_) (fun w1 aT e he=>?_) ?_
 ·have q0:=(hH.bg aT).cell (o:=0) rfl
  go_simp
 ·have q0:=(hH.bg aT).cell (o:=0) rfl
  simp[go_sem,q0]at he
  subst he
  exact .inl hH.1
 walk_nrm
 refine aC.mu rfl rfl ?_
 walk_nrm
 refine aC.mute (az<|ae ⟨xb,68,af⟩) rfl rfl (by decide) (fun _=>by go_simp<;>rfl) (fun _=>by simp[go_sem]) ?_
 walk_nrm
 refine aC.val (aN (ae ⟨pb,0,af⟩) np pc) rfl rfl (by decide) (fun w1 aT=>?_) (fun w1 aT e he=>?_) ?_
 ·have q0:=oh gY xZ aT
  go_simp
 ·have q0:=oh gY xZ aT
  simp[go_sem,q0]at he
  subst he
  exact .inr ⟨xZ,rfl⟩
 walk_nrm
 refine aC.mute (ag ah np) rfl rfl (by decide) (fun _=>by go_simp<;>rfl) (fun _=>by simp[go_sem]) ?_
 walk_nrm
 refine aC.kQ rfl rfl (by decide) fun w1 aT=>?_
 have ig:=aT.size
 replace hH:=hH.bg aT
 replace hM:=hM.bg aT
 replace gY:=oh gY xZ aT
 replace hS:=yH hS aT
 refine⟨aN (ae ⟨w1.heap.size,0,af⟩) np np,w1.alloc<|.cells (gz np<|aN af 0 0) 107,.inl (by go_simp;rw[(ajI w1 np h1 h4).1];rfl),xC (by simp[go_sem];exact(ajI w1 np h1 h4).2) (J6 _<|ajK (fun _=>.slice fun x hx=>by cases hx) np 107),?_⟩
 have auJ:mr<w1.heap.size:=hS _ hM.1
 have aCU:w0<=w1.heap.size:=by omega
 have iC:=oJ gY
 simp only at iC
 have hC:=fE.new S w1 (gz np<|aN af 0 0) 107
 replace hH:=hH.alloc<|.cells (gz np<|aN af 0 0) 107
 replace hM:=hM.alloc<|.cells (gz np<|aN af 0 0) 107
 replace gY:(w1.alloc<|.cells (gz np<|aN af 0 0) 107).cell? ⟨xb,68,af⟩=ae (aN (ae ⟨pb,0,af⟩) np pc):=(aFf<|aFe w1 _ _<|oJ gY).t gY
 replace Bf:¬grow S w1 (w1.alloc<|.cells (gz np<|aN af 0 0) 107) xb:=fun hx=>hx.e Bf fun y=>by omega
 replace hS:=IG hS<|.cells (gz np<|aN af 0 0) 107
 replace iI:w0<=(w1.alloc<|.cells (gz np<|aN af 0 0) 107).heap.size:=by simp<;>omega
 clear aT iC ig
 generalize grow S w1 (w1.alloc<|.cells (gz np<|aN af 0 0) 107)=S at*
 generalize w1.alloc (.cells (gz np<|aN af 0 0) 107)=w at*
 generalize w1.heap.size=C at*
 walk_nrm
 refine aC.kQ rfl rfl (by decide) fun w1 aT=>?_
 have ig:=aT.size
 replace hH:=hH.bg aT
 replace hM:=hM.bg aT
 replace hC:=hC.bg aT
 replace gY:=oh gY xZ aT
 replace hS:=yH hS aT
 refine⟨az<|ae ⟨w1.heap.size,0,af⟩,w1.alloc<|aG #[aN af 0 0] 166,.inl<|by go_simp,xC (by simp[go_sem]) (J6 _<|ajJ (fun _=>.slice fun x hx=>by cases hx) 166),?_⟩
 have auK:C<w1.heap.size:=hS _ hC.1
 have aCV:w0<=w1.heap.size:=by omega
 have iC:=oJ gY
 simp only at iC
 have hV:=fE.new S w1 (#[aN af 0 0]) 166
 replace hH:=hH.alloc<|aG #[aN af 0 0] 166
 replace hM:=hM.alloc<|aG #[aN af 0 0] 166
 replace hC:=hC.alloc<|aG #[aN af 0 0] 166
 replace gY:(w1.alloc<|aG #[aN af 0 0] 166).cell? ⟨xb,68,af⟩=ae (aN (ae ⟨pb,0,af⟩) np pc):=(aFf<|aFe w1 _ _<|oJ gY).t gY
 replace Bf:¬grow S w1 (w1.alloc<|aG #[aN af 0 0] 166) xb:=fun hx=>hx.e Bf fun y=>by omega
 replace hS:=IG hS<|aG #[aN af 0 0] 166
 replace iI:w0<=(w1.alloc<|aG #[aN af 0 0] 166).heap.size:=by simp<;>omega
 clear aT iC ig
 generalize grow S w1 (w1.alloc<|aG #[aN af 0 0] 166)=S at*
 generalize w1.alloc (aG #[aN af 0 0] 166)=w at*
 generalize w1.heap.size=sv at*
 walk_nrm
 refine aC.kQ rfl rfl (by decide) fun w1 aT=>?_
 have ig:=aT.size
 replace hH:=hH.bg aT
 replace hM:=hM.bg aT
 replace hC:=hC.bg aT
 replace hV:=hV.bg aT
 replace gY:=oh gY xZ aT
 replace hS:=yH hS aT
 have q0:=hV.cell (o:=0) rfl
 have r0:=hV.free 0
 have pJ:∀B:au.dE,(∀b,B.dB b->¬S b)->au.aI B (aN (ae ⟨C,0,af⟩) np np):=fun B hB=>.slice fun y hy zz=>by cases hy;exact hB _ zz hC.1
 refine⟨ai,aX w1 ⟨sv,0,af⟩<|aN (ae ⟨C,0,af⟩) np np,.inr ⟨rfl,by go_simp⟩,IB hV.1 pJ fun e he=>?_,?_⟩
 ·simp[go_sem,aFU,storedEv,q0,r0]at he
  subst he
  exact .inl hV.1
 rw[tY<|by simp]
 replace hH:fE S (aX w1 ⟨sv,0,af⟩<|aN (ae ⟨C,0,af⟩) np np) hv (#[az<|ae ⟨xb,0,af⟩]) 33:=⟨hH.1,by rw[aFg w1 _ _ _ (by simp<;>omega)];exact hH.2⟩
 replace hM:fE S (aX w1 ⟨sv,0,af⟩<|aN (ae ⟨C,0,af⟩) np np) mr (gz np<|.chan af) 178:=⟨hM.1,by rw[aFg w1 _ _ _ (by simp<;>omega)];exact hM.2⟩
 replace hC:fE S (aX w1 ⟨sv,0,af⟩<|aN (ae ⟨C,0,af⟩) np np) C (gz np<|aN af 0 0) 107:=⟨hC.1,by rw[aFg w1 _ _ _ (by simp<;>omega)];exact hC.2⟩
 have V7:xb≠sv:=fun e=>Bf<|e▸hV.1
 replace gY:(aX w1 ⟨sv,0,af⟩<|aN (ae ⟨C,0,af⟩) np np).cell? ⟨xb,68,af⟩=ae (aN (ae ⟨pb,0,af⟩) np pc):=(aFf<|aFg w1 ⟨sv,0,af⟩ (aN (ae ⟨C,0,af⟩) np np) xb V7).t gY
 clear V7
 replace hS:∀b,S b->b<(aX w1 ⟨sv,0,af⟩<|aN (ae ⟨C,0,af⟩) np np).heap.size:=fun b hb=>by simpa using hS b hb
 replace iI:w0<=(aX w1 ⟨sv,0,af⟩<|aN (ae ⟨C,0,af⟩) np np).heap.size:=by simp<;>omega
 replace hV:=hV.set 0<|aN (ae ⟨C,0,af⟩) np np
 change fE S _ sv (#[aN (ae ⟨C,0,af⟩) np np]) 166 at hV
 clear ig aT q0 r0 pJ
 generalize w1.setCell ⟨sv,0,af⟩ (aN (ae ⟨C,0,af⟩) np np)=w at*
 walk_nrm
 refine aC.gK ?_
 refine aC.sq ?_
 refine aC.reg [0,1,2] rfl ?_
 refine aC.kQ rfl rfl (by decide) fun w1 aT=>?_
 have ig:=aT.size
 replace hH:=hH.bg aT
 replace hM:=hM.bg aT
 replace hC:=hC.bg aT
 replace hV:=hV.bg aT
 replace gY:=oh gY xZ aT
 replace hS:=yH hS aT
 refine⟨.chan<|ae w1.heap.size,w1.alloc<|.chan 0 #[] false 0 0 false,.inl (by go_simp;rw[auE];rfl),xC (by simp[go_sem];exact auF w1) (J6 _ fun _ v hv=>by simp at hv),?_⟩
 have auL:sv<w1.heap.size:=hS _ hV.1
 have aCW:w0<=w1.heap.size:=by omega
 have iC:=oJ gY
 simp only at iC
 have uY:grow S w1 (w1.alloc<|.chan 0 #[] false 0 0 false) w1.heap.size/\(w1.alloc<|.chan 0 #[] false 0 0 false).heap[w1.heap.size]? =ae (.chan 0 #[] false 0 0 false):=⟨.inr ⟨dI _,by simp⟩,aFb _ _⟩
 replace hH:=hH.alloc<|.chan 0 #[] false 0 0 false
 replace hM:=hM.alloc<|.chan 0 #[] false 0 0 false
 replace hC:=hC.alloc<|.chan 0 #[] false 0 0 false
 replace hV:=hV.alloc<|.chan 0 #[] false 0 0 false
 replace gY:(w1.alloc<|.chan 0 #[] false 0 0 false).cell? ⟨xb,68,af⟩=ae (aN (ae ⟨pb,0,af⟩) np pc):=(aFf<|aFe w1 _ _<|oJ gY).t gY
 replace Bf:¬grow S w1 (w1.alloc<|.chan 0 #[] false 0 0 false) xb:=fun hx=>hx.e Bf fun y=>by omega
 replace hS:=IG hS<|.chan 0 #[] false 0 0 false
 replace iI:w0<=(w1.alloc<|.chan 0 #[] false 0 0 false).heap.size:=by simp<;>omega
 clear aT iC ig
 generalize grow S w1 (w1.alloc<|.chan 0 #[] false 0 0 false)=S at*
 generalize w1.alloc (.chan 0 #[] false 0 0 false)=w at*
 generalize w1.heap.size=ov at*
 walk_nrm
 refine aC.kQ rfl rfl (by decide) fun w1 aT=>?_
 have ig:=aT.size
 replace hH:=hH.bg aT
 replace hM:=hM.bg aT
 replace hC:=hC.bg aT
 replace hV:=hV.bg aT
 replace gY:=oh gY xZ aT
 replace hS:=yH hS aT
 replace uY:S ov/\w1.heap[ov]? =ae (.chan 0 #[] false 0 0 false):=⟨uY.1,by rw[aT.own ov uY.1];exact uY.2⟩
 refine⟨az<|ae ⟨w1.heap.size,0,af⟩,w1.alloc<|aG #[.chan af] 167,.inl<|by go_simp,xC (by simp[go_sem]) (J6 _<|ajJ (fun _=>.chan fun x hx=>by cases hx) 167),?_⟩
 have auM:ov<w1.heap.size:=hS _ uY.1
 have aCX:w0<=w1.heap.size:=by omega
 have iC:=oJ gY
 simp only at iC
 have hB:=fE.new S w1 (#[.chan af]) 167
 replace hH:=hH.alloc<|aG #[.chan af] 167
 replace hM:=hM.alloc<|aG #[.chan af] 167
 replace hC:=hC.alloc<|aG #[.chan af] 167
 replace hV:=hV.alloc<|aG #[.chan af] 167
 replace gY:(w1.alloc<|aG #[.chan af] 167).cell? ⟨xb,68,af⟩=ae (aN (ae ⟨pb,0,af⟩) np pc):=(aFf<|aFe w1 _ _<|oJ gY).t gY
 replace uY:grow S w1 (w1.alloc<|aG #[.chan af] 167) ov/\(w1.alloc<|aG #[.chan af] 167).heap[ov]? =ae (.chan 0 #[] false 0 0 false):=⟨.inl uY.1,by rw[aFe w1 _ _<|hS ov uY.1];exact uY.2⟩
 replace Bf:¬grow S w1 (w1.alloc<|aG #[.chan af] 167) xb:=fun hx=>hx.e Bf fun y=>by omega
 replace hS:=IG hS<|aG #[.chan af] 167
 replace iI:w0<=(w1.alloc<|aG #[.chan af] 167).heap.size:=by simp<;>omega
 clear aT iC ig
 generalize grow S w1 (w1.alloc<|aG #[.chan af] 167)=S at*
 generalize w1.alloc (aG #[.chan af] 167)=w at*
 generalize w1.heap.size=ob at*
 walk_nrm
 refine aC.kQ rfl rfl (by decide) fun w1 aT=>?_
 have ig:=aT.size
 replace hH:=hH.bg aT
 replace hM:=hM.bg aT
 replace hC:=hC.bg aT
 replace hV:=hV.bg aT
 replace hB:=hB.bg aT
 replace gY:=oh gY xZ aT
 replace hS:=yH hS aT
 replace uY:S ov/\w1.heap[ov]? =ae (.chan 0 #[] false 0 0 false):=⟨uY.1,by rw[aT.own ov uY.1];exact uY.2⟩
 have q0:=hB.cell (o:=0) rfl
 have r0:=hB.free 0
 have pJ:∀B:au.dE,(∀b,B.dB b->¬S b)->au.aI B (.chan<|ae ov):=fun B hB'=>.chan fun y hy zz=>by cases hy;exact hB' _ zz uY.1
 refine⟨ai,aX w1 ⟨ob,0,af⟩<|.chan<|ae ov,.inr ⟨rfl,by go_simp⟩,IB hB.1 pJ fun e he=>?_,?_⟩
 ·simp[go_sem,aGr,storedEv,q0,r0]at he
  subst he
  exact .inl hB.1
 rw[tY<|by simp]
 replace hH:fE S (aX w1 ⟨ob,0,af⟩<|.chan<|ae ov) hv (#[az<|ae ⟨xb,0,af⟩]) 33:=⟨hH.1,by rw[aFg w1 _ _ _ (by simp<;>omega)];exact hH.2⟩
 replace hM:fE S (aX w1 ⟨ob,0,af⟩<|.chan<|ae ov) mr (gz np<|.chan af) 178:=⟨hM.1,by rw[aFg w1 _ _ _ (by simp<;>omega)];exact hM.2⟩
 replace hC:fE S (aX w1 ⟨ob,0,af⟩<|.chan<|ae ov) C (gz np<|aN af 0 0) 107:=⟨hC.1,by rw[aFg w1 _ _ _ (by simp<;>omega)];exact hC.2⟩
 replace hV:fE S (aX w1 ⟨ob,0,af⟩<|.chan<|ae ov) sv (#[aN (ae ⟨C,0,af⟩) np np]) 166:=⟨hV.1,by rw[aFg w1 _ _ _ (by simp<;>omega)];exact hV.2⟩
 replace uY:S ov/\(aX w1 ⟨ob,0,af⟩<|.chan<|ae ov).heap[ov]? =ae (.chan 0 #[] false 0 0 false):=⟨uY.1,by rw[aFg w1 _ _ _ (by simp<;>omega)];exact uY.2⟩
 have V7:xb≠ob:=fun e=>Bf<|e▸hB.1
 replace gY:(aX w1 ⟨ob,0,af⟩<|.chan<|ae ov).cell? ⟨xb,68,af⟩=ae (aN (ae ⟨pb,0,af⟩) np pc):=(aFf<|aFg w1 ⟨ob,0,af⟩ (.chan<|ae ov) xb V7).t gY
 clear V7
 replace hS:∀b,S b->b<(aX w1 ⟨ob,0,af⟩<|.chan<|ae ov).heap.size:=fun b hb=>by simpa using hS b hb
 replace iI:w0<=(aX w1 ⟨ob,0,af⟩<|.chan<|ae ov).heap.size:=by simp<;>omega
 replace hB:=hB.set 0<|.chan<|ae ov
 change fE S _ ob (#[.chan<|ae ov]) 167 at hB
 clear ig aT q0 r0 pJ
 generalize w1.setCell ⟨ob,0,af⟩ (.chan<|ae ov)=w at*
 walk_nrm
 refine aC.gK ?_
 refine aC.sq ?_
 refine aC.reg [0] rfl ?_
 subst Qe hI1
 refine aC.stop fun w1 hk=>⟨(fun i=>match i with|4=>aN af 0 0|14=>az (ae ⟨xb,0,af⟩)|15=>az (ae ⟨xb,0,af⟩)|16=>az (ae ⟨xb,68,af⟩)|17=>aN (ae ⟨pb,0,af⟩) np pc|18=>ag ah np|19=>aN (ae ⟨mr,0,af⟩) np np|20=>az (ae ⟨xb,0,af⟩)|21=>az (ae ⟨xb,0,af⟩)|22=>az (ae ⟨xb,68,af⟩)|23=>aN (ae ⟨pb,0,af⟩) np pc|24=>ag ah np|25=>aN (ae ⟨C,0,af⟩) np np|26=>.chan (ae ov)|_=>ai),mr,C,sv,ov,ob,⟨hH.bg hk,hM.bg hk,hC.bg hk,hV.bg hk,⟨uY.1,by rw[hk.own ov uY.1];exact uY.2⟩,hB.bg hk,⟨auH,auJ,auK,auL,auM⟩⟩,auI,?_⟩
 kernel_rfl
end Twin
end
section
namespace Twin
open Go Go.Proofs Go.Conc Go.RowKit Go.Maps fU
open Go.ConcR (WgAt KK DC0)
def Yt{w:ay}{B lb bm n:Nat}{v:aA}{s:aJ}(hl:fA w B lb bm v n s){b:Nat}{cs:Array aA}{t:dJ}{fr:Nat×Nat}(hb:w.heap[b]? =ae (.cells cs t fr))(h1:t≠163)(h2:55≠t):¬lT lb bm v b:=by
 rintro(rfl|rfl|e)
 ·have:=hl.blk;rw[hb]at this;simp only[gU,Obj.cells.injEq]at this;exact h1 this.2.1
 ·obtain⟨D,⟨es,clock,hm,_⟩,_⟩:=hl.map;rw[hb]at hm;cases hm
 ·exact Hy hl.row hb h2 e
structure Qk(s:Nat->Prop)(w:ay)(B Bm xb n:Nat)(h:HS)(ma:Option Addr)(mc:Nat)(ms:List Ms):Prop where
 at_:aH w B xb n h
 apart:jk h.pl
 row:bD w Bm 119 5 (.slice ma ms.length mc) ms.length (ms.flatMap Ms.cs)
 fits:n+ms.length<=eP
 small:ms.length<2147483648
 es:∀p∈h.pl,(p.s.es.length+ms.length)*40<=140737488355328
 wf:∀m∈ms,(Lit.int .i64 m.p).wf=true
 q:∀m∈ms,m.k=1->∃i:Nat,m.q=i/\i<h.pl.length
 ns:∀b,s b->b≠xb/\h.pv.ownBlock≠ae b/\(∀p∈h.pl,¬lT p.lb p.bm p.v b)/\Value.ownBlock (.slice ma ms.length mc)≠ae b
def xJ(pl:List PL):aO:=fun b=>∃p∈pl,lT p.lb p.bm p.v b
def qB(fo s:Nat->Prop)(w w2:ay)(B xb n:Nat)(h:HS)(ma:Option Addr)(mc:Nat)(ms:List Ms)(pb pc mb hv mr C sv ov ob Wg m0:Nat):Gs:=
 {R:=fun b=>(b<w.heap.size/\¬s b/\¬xJ h.pl b)\/b=hv\/b=sv\/b=ob,iQ:=s,Ah:=fo,xb:=xb,hv:=hv,mr:=mr,C:=C,sv:=sv,ov:=ov,ob:=ob,Wg:=Wg,pb:=pb,pc:=pc,B:=B,Ba:=w.heap.size,n:=n,N:=ms.length,m0:=m0,mb:=mb,mc:=mc,ma:=ma,pl:=h.pl,ms:=ms,w0:=w2}
variable{s:Nat->Prop}{w:ay}{B Bm xb n mc:Nat}{h:HS}{ma:Option Addr}{ms:List Ms}
def ajL(hC:Qk s w B Bm xb n h ma mc ms):
 ∃pb pc mb,h.pv=aN (ae ⟨pb,0,af⟩) h.pl.length pc/\pb<w.heap.size/\¬s pb/\¬xJ h.pl pb/\xb<w.heap.size/\¬s xb/\¬xJ h.pl xb/\(ms≠[]->ma=ae ⟨mb,0,af⟩/\mb<w.heap.size/\¬s mb/\¬xJ h.pl mb)/\1<=h.pl.length/\h.pl.length<=4:=by
 have hQ:=hC.at_.hQ;have hx:=(jF.1 hC.at_.blk).1;have hlx:¬xJ h.pl xb:=fun⟨p,hp,hb⟩=>Yt (hC.at_.dZ p hp) hC.at_.blk (by decide) (by decide) hb;have Q5:¬s xb:=fun z=>(hC.ns xb z).1 rfl;have auN:∃mb,ms≠[]->ma=ae ⟨mb,0,af⟩/\mb<w.heap.size/\¬s mb/\¬xJ h.pl mb:=by
  rcases hC.row.2 with⟨e,h0⟩|⟨g,cap,cur,e,_,hg,_⟩
  ·exact⟨0,fun dD=>absurd (WI.1 h0) dD⟩
  ·simp only[aFi]at e;obtain⟨rfl,_,rfl⟩:=e;exact⟨g,fun _=>⟨rfl,(jF.1 hg).1,fun z=>(hC.ns g z).2.2.2 rfl,fun⟨p,hp,hb⟩=>Yt (hC.at_.dZ p hp) hg (by decide) (by decide) hb⟩⟩
 obtain⟨mb,Cf⟩:=auN;rcases hC.at_.ku.2 with⟨_,h0⟩|⟨g,cap,cur,e,_,hg,_⟩
 ·omega
 ·exact⟨g,cap,mb,e,(jF.1 hg).1,fun z=>(hC.ns g z).2.1 (by rw[e];rfl),fun⟨p,hp,hb⟩=>Yt (hC.at_.dZ p hp) hg (by decide) (by decide) hb,hx,Q5,hlx,Cf,by omega,by omega⟩
def ajM(h6:h.ps.length=6):h.cells.toArray[68]? =ae h.pv:=by
 have h60:(h.ps.flatMap PS.cs).length=60:=by rw[WW,h6]
 simp only[HS.cells,anF];rw[yj<|by simp,yj (by rw[h60];simp),h60];rfl
def auO{fo:Nat->Prop}{w2:ay}(hC:Qk (fun b=>s b\/fo b) w B Bm xb n h ma mc ms){pb pc mb:Nat}(iV:h.pv=aN (ae ⟨pb,0,af⟩) h.pl.length pc)(iT:pb<w.heap.size)(gY:¬(s pb\/fo pb))(adn:¬xJ h.pl pb)(iC:xb<w.heap.size)(Cb:¬(s xb\/fo xb))(V8:¬xJ h.pl xb)
 (Cf:ms≠[]->ma=ae ⟨mb,0,af⟩/\mb<w.heap.size/\¬(s mb\/fo mb)/\¬xJ h.pl mb)(hn4:h.pl.length<=4){S:aO}{hv mr C sv ov ob Wg m0:Nat}(hL:Laid xb h.pl.length S w2 hv mr C sv ov ob)(ET:w.heap.size<=hv)(hWo:ob<Wg)(dh:WgAt 177 Wg w2 0 0)(hold:bu (fun b=>b<w.heap.size) ⟨fun _=>False,fun _=>False,fun _ z=>z⟩ w w2)(bT:au.jK (fun b=>(s b\/fo b)\/b=Wg) w2)(KN:∀b,s b\/fo b->b<w.heap.size):
 (qB fo s w w2 B xb n h ma mc ms pb pc mb hv mr C sv ov ob Wg m0).Ok/\(qB fo s w w2 B xb n h ma mc ms pb pc mb hv mr C sv ov ob Wg m0).ajG (fun b=>b=mr\/xJ h.pl b) w2:=by
 obtain⟨l1,l2,l3,l4,l5⟩:=hL.lt;have Nc:=IK dh;have CY:∀b,xJ h.pl b->b<w.heap.size:=fun b ⟨p,hp,hb⟩=>(hC.at_.dZ p hp).uz hb;have hcell:∀{a:Addr} {x:aA},aB w a=ae x->aB w2 a=ae x:=fun hc=>(aFf<|hold.own _<|oJ hc).t hc;have hP:=hC.at_.ku;rw[iV]at hP;have hO:(qB fo s w w2 B xb n h ma mc ms pb pc mb hv mr C sv ov ob Wg m0).Ok:=by
  refine⟨.inr<|.inr<|.inl rfl,.inr<|.inl rfl,.inl ⟨iC,fun z=>Cb<|.inl z,V8⟩,.inr<|.inr<|.inr rfl,.inl ⟨iT,fun z=>gY<|.inl z,adn⟩,fun dD=>⟨.inl ⟨(Cf dD).2.1,fun z=>(Cf dD).2.2.1<|.inl z,(Cf dD).2.2.2⟩,(Cf dD).1⟩,fun hx=>?_,fun hx=>?_,fun hx=>?_,?_,?_,dI _,hC.small,hC.fits,hC.es,hC.wf,hC.apart,hC.q⟩
  ·simp only[qB]at hx;omega
  ·simp only[qB]at hx;omega
  ·simp only[qB]at hx;omega
  ·simp only[qB];omega
  ·simp only[Gs.np,qB];omega
 refine⟨hO,⟨⟨⟨hL.bs.cell rfl,hL.bh.cell rfl,?_,hL.bb.cell rfl,fun i p hp=>?_,fun i p hp=>?_,fun i m hm j v hvv=>?_,fun _ _=>rfl,rfl,rfl,rfl⟩,fun i p _ hp=>?_,⟨_,⟨.inl rfl,hL.bm.2⟩,by simp[Gs.np,qB],by simp⟩,fun i p _ hp hx=>?_,fun b hb=>?_,fun b hb hx=>?_,?_,fun b hb=>?_,fun hx=>?_,fun hx=>?_,?_⟩,fun b hb=>?_,fun b hb hx=>?_,?_,⟨fun hx=>?_,fun hx=>?_,fun hx=>?_⟩,⟨?_,?_⟩,⟨0,0,0,hL.bo.2⟩,⟨_,hL.bC.2,by simp[Gs.np,qB]⟩,dh,bT⟩⟩
 ·have h68:aB w ⟨xb,68,af⟩=ae (aN (ae ⟨pb,0,af⟩) h.pl.length pc):=by rw[aQ hC.at_.blk,ajM hC.at_.h6,iV]
  exact hcell h68
 ·exact hcell (abg hP hp).1
 ·exact hcell (abg hP hp).2
 ·replace hm:ms[i]? =ae m:=hm;have dD:ms≠[]:=fun e=>by rw[e]at hm;simp at hm
  have hr:=hC.row;rw[(Cf dD).1]at hr;have hj:j<5:=by
   have:=(dS.1 hvv).1;simpa[Ms.cs]using this
  have:=hr.cells (g:=mb) rfl (i*5+j) v<|(abO ms i m j hm hj).t hvv;rw[aFA]at this;have h9:aB w ⟨mb,i*5+j,af⟩=ae v:=by simpa using this
  exact hcell h9
 ·have rJ:p∈h.pl:=gZ hp;have hl:=hC.at_.dZ p rJ;exact⟨acU (S:=fun b=>b<w.heap.size) hl (hl.uz<|.inl rfl) (hl.uz<|.inr<|.inl rfl) (fun k hk=>hl.uz<|.inr<|.inr hk) hold,.inr ⟨p,rJ,.inl rfl⟩,.inr ⟨p,rJ,.inr<|.inl rfl⟩,fun k hk=>.inr ⟨p,rJ,.inr<|.inr hk⟩⟩
 ·have:=CY _ ⟨p,gZ hp,hx⟩;simp only[qB]at this;omega
 ·rcases hb with rfl|hb
  ·exact(jF.1 hL.bm.2).1
  ·exact gu (CY b hb) hold.size
 ·simp only[qB]at hb;rcases hx with rfl|hx
  ·omega
  ·have:=CY b hx;rcases hb with hb|hb
   ·exact hb.2.2 hx
   ·omega
 ·exact hold.size
 ·have hz:=hold.size;simp only[qB]at hb;have:=(jF.1 hL.bb.2).1;rcases hb with hb|hb
  ·omega
  ·omega
 ·rcases hx with hx|hx
  ·simp only[qB]at hx;omega
  ·have:=CY _ hx;simp only[qB]at this;omega
 ·rcases hx with hx|hx
  ·simp only[qB]at hx;omega
  ·have:=CY _ hx;simp only[qB]at this;omega
 ·exact(jF.1 hL.bo.2).1
 ·simp only[qB];rcases hb with rfl|hb
  ·exact⟨by omega,by omega,by omega,fun z=>by have:=KN _ z;omega⟩
  ·have:=CY b hb;exact⟨by omega,by omega,by omega,fun z=>by obtain⟨p,hp,hb⟩:=hb;exact(hC.ns b z).2.2.1 p hp hb⟩
 ·simp only[qB]at hb hx;have:=KN b<|.inl hx;rcases hb with hb|hb
  ·exact hb.2.1 hx
  ·omega
 ·exact(jF.1 hL.bC.2).1
 ·have:=KN _ hx;simp only[qB]at this;omega
 ·have:=KN _ hx;simp only[qB]at this;omega
 ·have:=KN _ hx;simp only[qB]at this;omega
 ·simp only[qB];omega
 ·simp only[qB];omega
end Twin
end
section
namespace Twin
open Go Go.Proofs Go.Conc Go.RowKit Go.Maps fU
open Go.ConcR (WgAt KK DC0)
open Go.ConcN (WgLive PayAt Has)
def jr{B:au.dE}{P:fJ}{fr fr':bH}{cs cs' cs2:List bH}{w:ay}{Q:au.dE->bH->ay->Prop}(h:∀w1,bK P true (G fr cs) w1=.go (G fr' cs') w1 #[])(k:∀d,au.Reach B P fr' cs' (w.at d) Q cs2):au.Reach B P fr cs w Q cs2:=
 au.Reach.ok fun bT=>au.Reach.step fun d=>⟨fr',cs',w.at d,#[],h _,⟨bT.obj,bT.low,bT.ng⟩,dI _,by simp,k d⟩
section
variable{B:au.dE}{P:fJ}{b:bH}{a:Act}{l:List Item}{cs cs2:List bH}{w:ay}{Q:au.dE->bH->ay->Prop}
def jM{x y:Code}(k:∀d,au.Reach B P (b.at a<|.code x:: .code y::l) cs (w.at d) Q cs2):au.Reach B P (b.at a<|.code (.seq x y)::l) cs w Q cs2:=jr (fun _=>aFd) k
variable{ops:Array Oper}
def uH{id:Nat}(k:∀d,au.Reach B P (b.at a<|bW ops (List.range ops.size)::l) cs (w.at d) Q cs2):au.Reach B P (b.at a<|.code (.region id ops false)::l) cs w Q cs2:=jr (fun _=>stepG_region) k
def uI(k:∀d,au.Reach B P (b.at a l) cs (w.at d) Q cs2):au.Reach B P (b.at a<|bW ops []::l) cs w Q cs2:=jr (fun _=>aFa) k
end
def auP(a b:aA):#[a,b]++gz (Tryz.f54.ntmps- #[a,b].size) ai=#[a,b,ai,ai,ai,ai,ai,ai,ai,ai,ai,ai,ai,ai,ai,ai,ai,ai,ai,ai,ai,ai,ai,ai,ai,ai,ai,ai,ai,ai,ai,ai,ai,ai,ai,ai,ai,ai,ai,ai,ai,ai,ai,ai,ai,ai,ai,ai,ai,ai,ai,ai,ai,ai,ai,ai,ai,ai,ai,ai,ai,ai,ai,ai,ai,ai,ai,ai,ai,ai,ai,ai]:=by kernel_rfl
def auQ(a b:aA):Frame.enter prog 54 #[a,b] .normal=(base 54).at ⟨#[a,b,ai,ai,ai,ai,ai,ai,ai,ai,ai,ai,ai,ai,ai,ai,ai,ai,ai,ai,ai,ai,ai,ai,ai,ai,ai,ai,ai,ai,ai,ai,ai,ai,ai,ai,ai,ai,ai,ai,ai,ai,ai,ai,ai,ai,ai,ai,ai,ai,ai,ai,ai,ai,ai,ai,ai,ai,ai,ai,ai,ai,ai,ai,ai,ai,ai,ai,ai,ai,ai,ai],[]⟩ [.code qU]:=by
 rw[aF3 (c:=qU) _ func54 rfl,auP]
def auR(xb:Nat)(mv:aA)(k:List Item)(cs:List bH)(w:ay):bK prog true (G ((base 54).at ⟨#[az<|ae ⟨xb,0,af⟩,mv,ai,ai,ai,ai,ai,ai,ai,ai,ai,ai,ai,ai,ai,ai,ai,ai,ai,ai,ai,ai,ai,ai,ai,ai,ai,ai,ai,ai,ai,ai,ai,ai,ai,ai,ai,ai,ai,ai,ai,ai,ai,ai,ai,ai,ai,ai,ai,ai,ai,ai,ai,ai,ai,ai,ai,ai,ai,ai,ai,ai,ai,ai,ai,ai,ai,ai,ai,ai,ai,ai],[]⟩<|bW J7 [0,1]::k) cs) w=
 .go (G ((base 54).at ⟨#[az<|ae ⟨xb,0,af⟩,mv,az<|ae ⟨w.heap.size,0,af⟩,ai,ai,ai,ai,ai,ai,ai,ai,ai,ai,ai,ai,ai,ai,ai,ai,ai,ai,ai,ai,ai,ai,ai,ai,ai,ai,ai,ai,ai,ai,ai,ai,ai,ai,ai,ai,ai,ai,ai,ai,ai,ai,ai,ai,ai,ai,ai,ai,ai,ai,ai,ai,ai,ai,ai,ai,ai,ai,ai,ai,ai,ai,ai,ai,ai,ai,ai,ai,ai],[]⟩<|bW J7 [1]::k) cs) (w.alloc<|aG #[az<|ae ⟨xb,0,af⟩] 33) #[]:=by
 simp only[J7,qU,Tryz.f54,ik,jo];rw[aFS (v:=az<|ae ⟨w.heap.size,0,af⟩) (w':=w.alloc<|aG #[az<|ae ⟨xb,0,af⟩] 33) rfl rfl (by decide)<|by go_simp];congr 1
def auS(xb hv mr sv ob np:Nat)(mv:aA)(u:Nat->aA)(k:List Item)(cs:List bH)(w:ay):bK prog true (G ((base 54).at ⟨#[az<|ae ⟨xb,0,af⟩,mv,az<|ae ⟨hv,0,af⟩,u 3,u 4,aN (ae ⟨mr,0,af⟩) np np,az<|ae ⟨sv,0,af⟩,az<|ae ⟨ob,0,af⟩,u 8,u 9,u 10,u 11,u 12,u 13,u 14,u 15,u 16,u 17,u 18,u 19,u 20,u 21,u 22,u 23,u 24,u 25,u 26,u 27,u 28,u 29,u 30,u 31,u 32,u 33,u 34,u 35,u 36,u 37,u 38,u 39,u 40,u 41,u 42,u 43,u 44,u 45,u 46,u 47,u 48,u 49,u 50,u 51,u 52,u 53,u 54,u 55,u 56,u 57,u 58,u 59,u 60,u 61,u 62,u 63,u 64,u 65,u 66,u 67,u 68,u 69,u 70,u 71],[]⟩<|bW IM [0]::k) cs) w=
 .go (G ((base 54).at ⟨#[az<|ae ⟨xb,0,af⟩,mv,az<|ae ⟨hv,0,af⟩,u 3,u 4,aN (ae ⟨mr,0,af⟩) np np,az<|ae ⟨sv,0,af⟩,az<|ae ⟨ob,0,af⟩,az<|ae ⟨w.heap.size,0,af⟩,u 9,u 10,u 11,u 12,u 13,u 14,u 15,u 16,u 17,u 18,u 19,u 20,u 21,u 22,u 23,u 24,u 25,u 26,u 27,u 28,u 29,u 30,u 31,u 32,u 33,u 34,u 35,u 36,u 37,u 38,u 39,u 40,u 41,u 42,u 43,u 44,u 45,u 46,u 47,u 48,u 49,u 50,u 51,u 52,u 53,u 54,u 55,u 56,u 57,u 58,u 59,u 60,u 61,u 62,u 63,u 64,u 65,u 66,u 67,u 68,u 69,u 70,u 71],[]⟩<|bW IM []::k) cs) (w.alloc<|aG #[.int .u64 0,.int .u32 0] 177) #[]:=by
 simp only[IM,qU,Tryz.f54,ik,jo,gQ];rw[aFS (v:=az<|ae ⟨w.heap.size,0,af⟩) (w':=w.alloc<|aG #[.int .u64 0,.int .u32 0] 177) rfl rfl (by decide)<|by go_simp];congr 1
def auT(B:au.dE):au.mZ B (aG #[.int .u64 0,.int .u32 0] 177):=Tz rfl
variable{xb np hv mr C sv ov ob:Nat}{S:aO}
def Laid.alloc{w:ay}(h:Laid xb np S w hv mr C sv ov ob)(o:Obj):Laid xb np (grow S w<|w.alloc o) (bz w o) hv mr C sv ov ob:=
 ⟨h.bh.alloc o,h.bm.alloc o,h.bC.alloc o,h.bs.alloc o,⟨.inl h.bo.1,by rw[aFe w o _ (jF.1 h.bo.2).1];exact h.bo.2⟩,h.bb.alloc o,h.lt⟩
def Laid.at{w:ay}(h:Laid xb np S w hv mr C sv ov ob)(d:Nat):Laid xb np S (w.at d) hv mr C sv ov ob:=⟨h.bh,h.bm,h.bC,h.bs,h.bo,h.bb,h.lt⟩
def Gs.Mid.jX{z:Gs}{u:Nat->aA}{a:Act}{w:ay}(h:z.Mid u a S w):z.BH w:=by
 obtain⟨_,_,_,_,_,_,_,_,_,_,_,_,_,_,_,_,_,_,_,_,_,_,_,_,_,_,_,_,_,_,_,_,_,_,_,hk,_⟩:=h;exact hk
structure Nj(fo s:Nat->Prop)(w:ay)(B xb n:Nat)(h:HS)(ma:Option Addr)(mc:Nat)(ms:List Ms)(z:Gs)(u:Nat->aA)(a:Act)(S1:aO)(ks:List Kd)(Sw:Nat->aO)(G1:aO)(w':ay):Prop where
 ok:z.Ok
 sp:∃w2 pb pc mb hv mr C sv ov ob Wg m0,z=qB fo s w w2 B xb n h ma mc ms pb pc mb hv mr C sv ov ob Wg m0/\w.heap.size<=hv/\hv<mr/\mr<C/\C<sv/\sv<ov/\ov<ob/\ob<Wg/\bu (fun b=>b<w.heap.size) ⟨fun _=>False,fun _=>False,fun _ x=>x⟩ w w2
 mid:z.Mid u a S1 w'
 len:ks.length=z.np
 BB:z.Good ks
 mem:∃E1,z.je.Mem ks E1 S1 G1 Sw w'
 pay:PayAt z.C z.np w'
 res:∀(i:Nat) (k:Kd),ks[i]? =ae k->∃v,z.dH k ((z.marks i).map kX) v (Sw i) w'/\Has z.C i v w'
 okt:au.jK (fun b=>(s b\/b=z.Wg)\/fo b) w'
 rd:∀b,z.R b->b<w'.heap.size/\¬s b
def auV{fo s:Nat->Prop}{w:ay}{B Bm xb n:Nat}{h:HS}{ma:Option Addr}{mc:Nat}{ms:List Ms}{cs:List bH}(hC:Qk (fun b=>s b\/fo b) w B Bm xb n h ma mc ms):
 au.Reach (au.bP fo s) prog (Frame.enter prog 54 #[az<|ae ⟨xb,0,af⟩,.slice ma ms.length mc] .normal) cs w
  (fun B' fr' w'=>∃z u a S1 ks Sw G1,B'=au.bP fo (fun b=>s b\/b=z.Wg)/\fr'=(base 54).at (a.put (ae 67)<|dU #[]) [bW Nh [],.code ED]/\Nj fo s w B xb n h ma mc ms z u a S1 ks Sw G1 w') cs:=by
 refine au.Reach.ok fun bT=>?_
 obtain⟨pb,pc,mb,iV,iT,gY,adn,iC,Cb,V8,Cf,yQ,hn4⟩:=ajL hC
 rw[auQ]
 generalize hQ:(fun(B':au.dE) (fr':bH) (w':ay)=>∃z u a S1 ks Sw G1,B'=au.bP fo (fun b=>s b\/b=z.Wg)/\fr'=(base 54).at (a.put (ae 67)<|dU #[]) [bW Nh [],.code ED]/\Nj fo s w B xb n h ma mc ms z u a S1 ks Sw G1 w')=Q
 have hb:qU=.seq (jo qU) (gQ qU):=rfl
 have hr:jo qU=.region 0 J7 false:=rfl
 rw[hb]
 refine jM fun d1=>?_
 rw[hr]
 refine uH fun d2=>?_
 rw[show List.range J7.size=[0,1]from rfl]
 refine au.Reach.step fun d3=>⟨_,_,_,_,auR xb _ _ _ _,?_,by simp;exact Nat.le_succ _,by simp,?_⟩
 ·have V9:w.heap.size<=(w.heap.push<|aG #[az<|ae ⟨xb,0,af⟩] 33).size:=by simp
  refine au.pI.of (w:=w.at d3) ⟨bT.obj,bT.low,bT.ng⟩ V9<|au.kD.push (au.Tj (w:=w.at d3) bT.obj V9) fun v hv=>?_
  simp at hv
  subst hv
  exact .pointer fun x hx zz=>by
   cases hx;rcases zz with zz|zz
   ·exact Cb zz
   ·have zz':(w.heap.push<|aG #[az<|ae ⟨xb,0,af⟩] 33).size<=xb:=zz;simp at zz';omega
 have ig:((w.at d3).alloc<|aG #[az<|ae ⟨xb,0,af⟩] 33).heap.size=w.heap.size+1:=by simp;rfl
 have AA:((w.at d3).alloc<|aG #[az<|ae ⟨xb,0,af⟩] 33).heap[w.heap.size]? =ae (aG #[az<|ae ⟨xb,0,af⟩] 33 (0,0)):=aFb _ _
 have ajN:∀b,b<w.heap.size->((w.at d3).alloc<|aG #[az<|ae ⟨xb,0,af⟩] 33).heap[b]? =w.heap[b]? :=fun b hb=>aFe (w.at d3) _ b hb
 have afw:((w.at d3).alloc<|aG #[az<|ae ⟨xb,0,af⟩] 33).tape=w.tape/\((w.at d3).alloc<|aG #[az<|ae ⟨xb,0,af⟩] 33).os=w.os/\((w.at d3).alloc<|aG #[az<|ae ⟨xb,0,af⟩] 33).output=w.output:=⟨rfl,rfl,rfl⟩
 change au.Reach _ _ _ _ ((w.at d3).alloc<|aG #[az<|ae ⟨xb,0,af⟩] 33) _ _
 change au.Reach _ _ ((base 54).at ⟨#[az<|ae ⟨xb,0,af⟩,.slice ma ms.length mc,az<|ae ⟨w.heap.size,0,af⟩,ai,ai,ai,ai,ai,ai,ai,ai,ai,ai,ai,ai,ai,ai,ai,ai,ai,ai,ai,ai,ai,ai,ai,ai,ai,ai,ai,ai,ai,ai,ai,ai,ai,ai,ai,ai,ai,ai,ai,ai,ai,ai,ai,ai,ai,ai,ai,ai,ai,ai,ai,ai,ai,ai,ai,ai,ai,ai,ai,ai,ai,ai,ai,ai,ai,ai,ai,ai,ai],[]⟩<|bW J7 [1]::[.code<|gQ qU]) _ _ _ _
 generalize(w.at d3).alloc (aG #[az<|ae ⟨xb,0,af⟩] 33)=wa at*
 have h68:aB wa ⟨xb,68,af⟩=ae (aN (ae ⟨pb,0,af⟩) h.pl.length pc):=by
  refine(aFf<|ajN xb iC).t ?_;rw[aQ hC.at_.blk,ajM hC.at_.h6,iV]
 have iy:=(auG (xb:=xb) (hv:=w.heap.size) (mv:=.slice ma ms.length mc) (E:=⟨fun b=>b<w.heap.size,fun b=>b<w.heap.size/\¬s b,fun _ hx=>hx.1⟩) (S:=fun b=>b=w.heap.size) (w:=wa) (cs:=cs) (w0:=w.heap.size) yQ hn4 ⟨iC,fun z=>Cb<|.inl z⟩ (by omega) (fun e=>by have:xb=w.heap.size:=e;omega) (fun b hb=>by have:b=w.heap.size:=hb;omega) ⟨rfl,AA⟩ h68).more
 refine ajv iy (fun b hb=>⟨by have:b=w.heap.size:=hb;omega,fun zz=>by have:=(bT.low b zz).2;have:b=w.heap.size:=hb;omega⟩) (fun b hb=>⟨by have:=hb.1;omega,hb.2⟩) ?_
 rintro S' g' wb ⟨⟨u,mr,C,sv,ov,ob,hL,ET,rfl⟩,hB⟩
 refine⟨_,cs,rfl,?_⟩
 refine au.Reach.ok fun J8=>au.Reach.step fun d4=>⟨_,_,_,_,auS xb w.heap.size mr sv ob h.pl.length _ u _ _ _,?_,by simp;exact Nat.le_succ _,by simp,?_⟩
 ·have V9:wb.heap.size<=(wb.heap.push<|aG #[.int .u64 0,.int .u32 0] 177).size:=by simp
  exact au.pI.of (w:=wb.at d4) ⟨J8.obj,J8.low,J8.ng⟩ V9<|au.kD.push (au.Tj (w:=wb.at d4) J8.obj V9)<|auT _
 intro gs sl t q hh
 have fP:=hB.size
 have ajO:ob<wb.heap.size:=(jF.1 hL.bb.2).1
 have hold:bu (fun b=>b<w.heap.size) ⟨fun _=>False,fun _=>False,fun _ x=>x⟩ w ((wb.at d4).alloc<|aG #[.int .u64 0,.int .u32 0] 177):=by
  refine⟨hB.tape.t afw.1,hB.os.t afw.2.1,hB.output.t afw.2.2,?_,fun b hb=>?_,fun _ hx=>hx.e⟩
  ·show w.heap.size<=(wb.heap.push _).size;simp<;>omega
  ·rw[aFe (wb.at d4) _ b<|show b<wb.heap.size by omega];exact(hB.ro b hb (by omega) (fun e=>by have:b=w.heap.size:=e;omega)).t<|ajN b hb
 have ado:((wb.at d4).alloc<|aG #[.int .u64 0,.int .u32 0] 177).heap.size=wb.heap.size+1:=by simp;rfl
 have auX:au.jK (fun b=>(s b\/fo b)\/b=wb.heap.size) ((wb.at d4).alloc<|aG #[.int .u64 0,.int .u32 0] 177):=by
  refine⟨fun b o hb ho=>?_,fun b hb=>?_,by have:=J8.ng;omega⟩
  ·have aK:=(jF.1 ho).1;rw[ado]at aK;have dD:b≠wb.heap.size:=fun e=>hb<|.inl<|.inr e;have sV:b<wb.heap.size:=by omega
   rw[aFe (wb.at d4) _ b sV]at ho;refine(J8.obj b o (fun zz=>?_) ho).z (B:=au.vH<|au.beyond (fun b=>(s b\/fo b)\/b=wb.heap.size) _) (B':=(au.bP fo s).cut wb.heap.size) (fun c zz=>?_) rfl
   ·rcases zz with zz|zz
    ·exact hb<|.inl<|.inl zz
    ·omega
   ·rcases zz with(zz|zz)|zz
    ·exact .inl zz
    ·exact .inr<|CQ zz.s
    ·exact .inr (by rw[ado]at zz;omega)
  ·rw[ado];rcases hb with hb|hb
   ·have:=J8.low b hb;exact⟨this.1,by omega⟩
   ·have:=J8.ng;exact⟨by omega,by omega⟩
 obtain⟨hO,adp⟩:=auO (m0:=gs.size) hC iV iT gY adn iC Cb V8 Cf hn4 ((hL.at d4).alloc<|aG #[.int .u64 0,.int .u32 0] 177) (dI _) ajO (aFb _ _) hold auX fun b hb=>(bT.low b hb).2
 obtain⟨a,M,gs1,w1,lu,t1,q1,ks,S1,Sw,G1,r1,r2,r3,r4,r5,r6,r7,r8,r9,r10,r11⟩:=auD (u:=u) (cs:=cs) (sl:=sl) hO adp rfl hh.own hh.PE hh.JO
 subst hQ
 obtain⟨l1,l2,l3,l4,l5⟩:=hL.lt
 refine⟨M,_,gs1,_,w1,lu,t1,q1,r1,⟨r2,r3,r4,r10.okB⟩,_,_,a,S1,ks,Sw,G1,rfl,rfl,⟨hO,⟨_,pb,pc,mb,_,mr,C,sv,ov,ob,_,_,rfl,dI _,l1,l2,l3,l4,l5,ajO,hold⟩,r5,r6,r7,r8,r9,r11,r10,fun b hb=>⟨?_,adp.rd b hb⟩⟩⟩
 have iP:=adp.Qj.zq b hb
 have dP:=r5.jX.fr b hb
 exact(jF.1<|dP.t<|Hf iP).1
end Twin
end
section
namespace Twin
open Go Go.Proofs Go.Conc Go.RowKit Go.Maps fU
open Go.ConcR (WgAt KK DC0)
open Go.ConcN (WgLive PayAt Has)
def Gs.J9(z:Gs)(i:Nat):List Ms:=match z.pl[i]? with
 |some p=>if p.out then[]else(z.marks i).map Ms.lJ
 |none=>[]
def Gs.kY(z:Gs):List Ms:=(List.range z.np).flatMap z.J9
variable{fo s:Nat->Prop}{w w':ay}{B xb n mc:Nat}{h:HS}{ma:Option Addr}{ms:List Ms}{z:Gs}{u:Nat->aA}{a:Act}{S1 G1:aO}{ks:List Kd}
def Nj.one{Sw:Nat->aO}(hW:Nj fo s w B xb n h ma mc ms z u a S1 ks Sw G1 w'){i:Nat}(hi:i<z.np):
 ∃p v,z.pl[i]? =ae p/\Has z.C i v w'/\bD w' z.Ba 119 5 v (z.J9 i).length ((z.J9 i).flatMap Ms.cs)/\(∀b,bY v=ae b->Sw i b)/\
  ∃v',iO (Sw i) w' z.B p.lb p.bm (z.n+(z.marks i).length) v' (if p.out then p.s else(z.marks i).foldl (fun s m=>s.closed m.p m.t m.c) p.s)/\∀b,bY v=ae b->¬lT p.lb p.bm v' b:=by
 have l9:i<ks.length:=by rw[hW.len];exact hi
 have hk:ks[i]? =ae ks[i]:=eY l9
 obtain⟨p,nb,cb,c,hp,xR⟩:=hW.BB i _ hk
 obtain⟨v,⟨lm,hl,hA⟩,adt⟩:=hW.res i _ hk
 rw[xR]at hA
 have hlm:lm=z.marks i:=(List.map_inj_right (fun x y zU=>by
  obtain⟨a1,a2,a3,a4,a5⟩:=x;obtain⟨b1,b2,b3,b4,b5⟩:=y;simp[kX]at zU;obtain⟨rfl,rfl,rfl,rfl,rfl⟩:=zU;rfl)).1 hl.s
 subst hlm
 have ha:(z.wx i p nb cb c).p.pK (z.marks i)=z.J9 i:=by
  simp only[Pl.pK,Gs.wx,Gs.J9,hp];rfl
 have CY:(z.wx i p nb cb c).p.log (z.marks i)=(if p.out then p.s else(z.marks i).foldl (fun s m=>s.closed m.p m.t m.c) p.s):=rfl
 have h1:=hA.pK
 rw[ha]at h1
 obtain⟨v',h2,h3⟩:=hA.log
 rw[CY]at h2
 exact⟨p,v,hp,adt,h1.row,h1.r,v',h2,h3⟩
def Nj.rows{Sw:Nat->aO}(hW:Nj fo s w B xb n h ma mc ms z u a S1 ks Sw G1 w'):
 ∃rows:Am,rows.length=z.np/\w'.heap[z.C]? =ae (.cells (rows.map (·.1)).toArray 107 (0,0))/\(∀x∈rows,∃Bm,bD w' Bm 119 5 x.1 x.2.length (x.2.flatMap Ms.cs)/\∀b,x.1.ownBlock=ae b->∃i,i<z.np/\Sw i b)/\rows.all=z.kY:=by
 obtain⟨cs,hc,fP⟩:=hW.pay;refine⟨(List.range z.np).map fun i=>(cs.getD i ai,z.J9 i),by simp,?_,?_,?_⟩
 ·rw[hc];have e:cs=(((List.range z.np).map fun i=>(cs.getD i ai,z.J9 i)).map (·.1)).toArray:=by
   apply Array.ext
   ·simp[fP]
   ·intro i h1 h2;simp[Array.getD,h1]
  rw[<-e];rfl
 ·intro x hx;simp only[Hr,Jw]at hx;obtain⟨i,hi,rfl⟩:=hx;obtain⟨p,v,_,adt,dG,OC,_⟩:=hW.one hi;have hv:cs.getD i ai=v:=by
   have h1:aB w' ⟨z.C,i,af⟩=ae v:=adt;rw[aQ hc]at h1;simp[Array.getD,fP,hi]at h1⊢
   simpa[Hf<|show i<cs.size by omega]using h1
  exact⟨z.Ba,by simpa[hv]using dG,fun b hb=>⟨i,hi,OC b<|by simpa[hv]using hb⟩⟩
 ·simp[Am.all,Gs.kY,List.flatMap_map]
end Twin
end
section
namespace Twin
open Go Go.Proofs Go.Conc Go.RowKit Go.Maps fU
open Go.ConcR (WgAt KK DC0)
open Go.ConcN (WgLive PayAt Has)
variable{B:au.dE}{P:fJ}{b:bH}{a:Act}{ops:Array Oper}{i:Nat}{rest:List Nat}{k:List Item}{cs cs2:List bH}{w:ay}{Q:au.dE->bH->ay->Prop}{o:Oper}{v:aA}
def Yw{f:ji}{fn:Func}{c:Code}{args:Array Operand}{l7:Array dJ}{vs:Array aA}{post:au.dE->aA->ay->Prop}
 (ho:ops[i]? =ae o)(hw:Region.wanted o (yielded ops a.tmps)=true)(hk:b.kind≠.early)(aP:o.op=.call {callee:=.value<|.func f,args,argTypes:=l7})(hf:P.funcs[f]? =ae fn)(Jl:(fn.name== "runtime.NumGoroutine")=false)(hb:fn.body=ae c)(hv:args.map a.eval=vs)
 (Rf:∀d,au.sG B P f vs (w.at d) post)(hn:∀B' v w',post B' v w'->au.Reach B' P (b.at (a.put o.dst v)<|bW ops rest::k) cs w' Q cs2):au.Reach B P (b.at a<|bW ops (i::rest)::k) cs w Q cs2:=by
 refine au.Reach.ok fun bT=>au.Reach.step fun d=>?_;have hg:=goes_call (P:=P) (main:=true) (b:=b) (a:=a) (k:=k) (cs:=cs) (rest:=rest) (w:=w.at d) (K:=fun g w1 es=>g=G ((base f).at {tmps:=args.map a.eval++gz (fn.ntmps-(args.map a.eval).size) ai,defers:=[]} [.code c]) (b.at a (bW ops (i::rest)::k)::cs)/\w1=w.at d/\es=#[]) ho hw hk aP hf Jl hb ⟨rfl,rfl,rfl⟩;obtain⟨g,w1,es,e,rfl,rfl,rfl⟩:=aGx hg;refine⟨_,_,_,_,e,⟨bT.obj,bT.low,bT.ng⟩,dI _,by simp,?_⟩;have h2:=Rf d (b.at a<|bW ops (i::rest)::k) cs;rw[aF3 vs hf hb]at h2;rw[hv];refine h2.t ?_;rintro B' fr' w' ⟨v,rfl,hp⟩;have e2:(b.at a<|bW ops (i::rest)::k).finish v=b.at (a.put o.dst v) (bW ops rest::k):=by rw[Frame.finish_at,ho];rfl
 rw[e2];exact hn B' v w' hp
def au6:ED=.seq (jo ED) .ret:=rfl
def Un:Array Oper:=match jo ED with| .region _ o _=>o|_=>#[]
def au7:jo ED=.region 25 Un false:=rfl
def au8{z:Gs}{u:Nat->aA}{t9 t10 t33 t34 t35 t36 t37 t38 t39 t40 t41 t42 t13 t46 t47 t48 t49 t50 t51 t52 t53 t54 t55 t56 t57 t58 t59 t60 t61 t62 t63 t64 t65 av:aA}{S:aO}(hO:z.Ok)(hK:z.BH w):
 aC prog true z.E2 (fun S' g' w'=>S'=S/\bu S z.E2 w w'/\g'=G ((base 54).at ⟨#[az<|ae ⟨z.xb,0,af⟩,.slice z.ma z.ms.length z.mc,az<|ae ⟨z.hv,0,af⟩,u 3,u 4,aN (ae ⟨z.mr,0,af⟩) z.np z.np,az<|ae ⟨z.sv,0,af⟩,az<|ae ⟨z.ob,0,af⟩,az<|ae ⟨z.Wg,0,af⟩,t9,t10,av,u 12,t13,u 14,u 15,u 16,u 17,u 18,u 19,u 20,u 21,u 22,u 23,u 24,u 25,u 26,u 27,u 28,u 29,u 30,ag ah z.np,ag ah z.np,t33,t34,t35,t36,t37,t38,t39,t40,t41,t42,.slice z.ma z.ms.length z.mc,ag ah z.ms.length,ag ah z.ms.length,t46,t47,t48,t49,t50,t51,t52,t53,t54,t55,t56,t57,t58,t59,t60,t61,t62,t63,t64,t65,.chan<|ae z.ov,dU #[],av,aN (ae ⟨z.C,0,af⟩) z.np z.np,u 70,u 71],[]⟩<|bW Un [2,3,4]::k) cs) S (G ((base 54).at ⟨#[az<|ae ⟨z.xb,0,af⟩,.slice z.ma z.ms.length z.mc,az<|ae ⟨z.hv,0,af⟩,u 3,u 4,aN (ae ⟨z.mr,0,af⟩) z.np z.np,az<|ae ⟨z.sv,0,af⟩,az<|ae ⟨z.ob,0,af⟩,az<|ae ⟨z.Wg,0,af⟩,t9,t10,av,u 12,t13,u 14,u 15,u 16,u 17,u 18,u 19,u 20,u 21,u 22,u 23,u 24,u 25,u 26,u 27,u 28,u 29,u 30,ag ah z.np,ag ah z.np,t33,t34,t35,t36,t37,t38,t39,t40,t41,t42,.slice z.ma z.ms.length z.mc,ag ah z.ms.length,ag ah z.ms.length,t46,t47,t48,t49,t50,t51,t52,t53,t54,t55,t56,t57,t58,t59,t60,t61,t62,t63,t64,t65,.chan<|ae z.ov,dU #[],u 68,u 69,u 70,u 71],[]⟩<|bW Un [0,1,2,3,4]::k) cs) w:=by
 simp only[Un,ED,EC,zo,xI,qU,Tryz.f54,ik,gQ,jo];refine aC.mute av rfl rfl (by decide) (fun _=>by go_simp<;>rfl) (fun _=>by simp[go_sem]) ?_;walk_nrm;refine aC.val (aN (ae ⟨z.C,0,af⟩) z.np z.np) rfl rfl (by decide) (fun w1 aT=>?_) (fun w1 aT e he=>?_) ?_
 ·have q0:=(hK.bg hO (fun b hb=>hb) aT).sv;go_simp
 ·have q0:=(hK.bg hO (fun b hb=>hb) aT).sv;simp[go_sem,q0]at he;subst he;exact .inr ⟨hO.Qa,rfl⟩
 walk_nrm;exact aC.stop fun w1 hk=>⟨rfl,hk,rfl⟩
def ajW{α:Type}{ok:α->Prop}{t:Sem α}{w':ay}{v:α}(h:au.Clean B prog ok t)(hw:au.OkW B w)(hr:t.run prog w=.ok v w'):∀e∈t.events prog w #[],au.FQ B w'.heap.size e:=by
 obtain⟨n,r,gs,h1,h2⟩:=h.JL hw;have pq:=au.acg h1;rw[hr]at pq;have h3:=h1 w.tape w.drawn (fun i _=>rfl) #[];rw[show au.re w w.tape w.drawn=w from rfl,vk]at h3;have he:t.events prog w #[]=gs:=gy Prod.snd h3;rw[he];cases r with
 |halt x w1=>simp[Result.re]at pq
 |ok v1 w1=>
  simp only[Result.re,aF0]at pq;obtain⟨_,rfl⟩:=pq;exact h2.2.2.2.2.2
def au9{fo s:Nat->Prop}(x y:Operand)(ho:ops[i]? =ae o)(hw:Region.wanted o (yielded ops a.tmps)=true)(hk:b.kind≠.early)(aP:o.op=.call {callee:=.builtin .append,args:=#[x,y],argTypes:=#[107,107]})(Je:o.type=107){u:aA}(hx:a.eval x=v)(hy:a.eval y=u)
 (ajX:au.aI ((au.bP fo s).cut w.heap.size) v)(ajY:au.aI ((au.bP fo s).cut w.heap.size) u)(hr:∀d,∃v' w',(Builtin.append_ #[107,107] 107 #[v,u]).run prog (w.at d)=.ok v' w'/\(au.aI ((au.bP fo s).cut w'.heap.size) v'->au.Reach (au.bP fo s) prog (b.at (a.put o.dst v')<|bW ops rest::k) cs w' Q cs2)):au.Reach (au.bP fo s) prog (b.at a<|bW ops (i::rest)::k) cs w Q cs2:=by
 refine au.Reach.ok fun bT=>au.Reach.step fun d=>?_;obtain⟨v',w',hr,hn⟩:=hr d;have hz:w.heap.size<=w'.heap.size:=au.aif (w:=w.at d) hr;have h5:∀q,(s q\/fo q)->1<=q:=fun q hq=>(bT.low q hq).1;have yR:∀q,(s q\/fo q)\/w'.heap.size<=q->1<=q:=fun q hq=>hq.e (h5 q) fun z=>by have:=bT.ng;omega
 have lY:=(au.Pz (B:=(au.bP fo s).cut w'.heap.size) (ts:=#[107,107]) (t:=107) (au.ML yR).toFit<|ok_two (ajX.z (B:=(au.bP fo s).cut w'.heap.size) (B':=(au.bP fo s).cut w.heap.size) (au.PD (B:=au.bP fo s) hz) rfl)<|ajY.z (B:=(au.bP fo s).cut w'.heap.size) (B':=(au.bP fo s).cut w.heap.size) (au.PD (B:=au.bP fo s) hz) rfl).Em (w:=w.at d) (au.Tj (B:=au.bP fo s) (w:=w.at d) bT.obj hz) hr fun q hq=>hq.e (fun z=>.inl (bT.low q z).2) .inr;have pV:=au.Pz (B:=au.bP fo s) (ts:=#[107,107]) (t:=107) (au.lets h5).toFit<|ok_two (ajX.z (B:=au.bP fo s) (B':=(au.bP fo s).cut w.heap.size) (fun _ z=>Or.inl z) rfl)<|ajY.z (B:=au.bP fo s) (B':=(au.bP fo s).cut w.heap.size) (fun _ z=>Or.inl z) rfl;have eX:=ajW pV (w:=w.at d) ⟨bT.okW.obj,bT.okW.low⟩ hr;refine⟨_,_,w',_,aFS ho hw hk<|Yj x y 107 aP hx hy<|Je▸hr,au.pI.of (w:=w.at d) ⟨bT.obj,bT.low,bT.ng⟩ hz lY.2,hz,fun e he=>?_,hn lY.1⟩;have hm:=aFh he;rw[aGa x y 107 aP hx hy,Je]at hm;exact au.MJ<|eX e hm
def Ef{α:Type}(f:Nat->List α){M:Nat}(hf:∀i,(f i).length<=M):∀{n:Nat},((List.range n).flatMap f).length<=n*M
 |0=>by simp
 |n+1=>by
  have:=Ef f hf (n:=n);have h2:=hf n;rw[aaK,Hl,iW,Nat.add_mul];simp only[pF,List.flatMap_nil,qM];omega
def IP{main:Bool}(ho:ops[i]? =ae o)(hw:Region.wanted o (yielded ops a.tmps)=true)(hk:b.kind≠.early)(hr:(dY a.eval o).run P w=.ok (.value v) w)(he:(dY a.eval o).events P w #[]=#[]):
 bK P main (G (b.at a<|bW ops (i::rest)::k) cs) w=.go (G (b.at (a.put o.dst v)<|bW ops rest::k) cs) w #[]:=by
 rw[aFS ho hw hk hr];unfold listed;rw[he,seen_none]
structure adu(fo s:Nat->Prop)(w:ay)(B xb n:Nat)(h:HS)(ma:Option Addr)(mc:Nat)(ms:List Ms)(z:Gs)(v:aA)(w':ay):Prop where
 waited:∃u a S1 ks Sw G1 w1 av,Nj fo s w B xb n h ma mc ms z u a S1 ks Sw G1 w1/\Own S1 w1 z.Ba 119 5 av (fQ z.ms).length ((fQ z.ms).flatMap Ms.cs)/\Fr (fun b=>bY av=ae b\/s b\/b=z.Wg) w1 w'
 row:bD w' z.Ba 119 5 v ((fQ z.ms).length+z.kY.length) ((fQ z.ms).flatMap Ms.cs++z.kY.flatMap Ms.cs)
 vok:au.aI ((au.bP fo fun b=>s b\/b=z.Wg).cut w'.heap.size) v
def avb{fo s:Nat->Prop}{w:ay}{B Bm xb n:Nat}{h:HS}{ma:Option Addr}{mc:Nat}{ms:List Ms}(hC:Qk (fun b=>s b\/fo b) w B Bm xb n h ma mc ms)(ae4:ms.length*5*40<=140737488355328):
 au.sG (au.bP fo s) prog 54 #[az<|ae ⟨xb,0,af⟩,.slice ma ms.length mc] w (fun B' v w'=>∃z,B'=au.bP fo (fun b=>s b\/b=z.Wg)/\adu fo s w B xb n h ma mc ms z v w'):=by
 intro c cs;refine au.Reach.ok fun We=>(auV (cs:=c::cs) hC).t ?_;rintro B' fr' w1 ⟨z,u,a,S1,ks,Sw,G1,rfl,rfl,hW⟩;obtain⟨t9,t10,t33,t34,t35,t36,t37,t38,t39,t40,t41,t42,t13,t46,t47,t48,t49,t50,t51,t52,t53,t54,t55,t56,t57,t58,t59,t60,t61,t62,t63,t64,t65,av,rfl,hK,IQ⟩:=hW.mid;have hO:=hW.ok;obtain⟨rows,Vx,hrC,pq,hra⟩:=hW.rows;obtain⟨E1,Yx⟩:=hW.mem;obtain⟨Ff,xX,iT,afx,avd⟩:z.iQ=s/\z.ms=ms/\z.pl=h.pl/\z.je.Ai=(fun b=>s b\/fo b)/\∀b,fo b->¬s b->z.R b:=by
  obtain⟨_,_,_,_,_,_,_,_,_,_,_,_,hz,_⟩:=hW.sp;rw[hz];exact⟨rfl,rfl,rfl,rfl,fun b h1 h2=>.inl ⟨(We.low b<|.inr h1).2,h2,fun⟨p,hp,hb⟩=>(hC.ns b<|.inr h1).2.2.1 p hp hb⟩⟩
 have ave:z.np<=4:=by
  have:=hC.at_.hQ;show z.pl.length<=4;rw[iT];omega
 have D5:(fQ z.ms).length<=ms.length:=by rw[xX];exact D8 _ _
 have QV:z.kY.length<=z.np*ms.length:=Ef _ fun i=>by
  unfold Gs.J9;split
  ·split
   ·simp
   ·rw[Fz];exact fG (D8 _ _) (by rw[xX];exact dI _)
  ·simp
 have ajZ:z.np*ms.length<=4*ms.length:=Nat.mul_le_mul_right _ ave;have wU:∀b,S1 b->b<w1.heap.size/\¬((s b\/b=z.Wg)\/fo b):=fun b hb=>by
  obtain⟨k1,_,k3,k4⟩:=Yx.sJ b hb;rw[afx]at k4;exact⟨k1,fun zz=>zz.e (fun zz=>zz.e (fun y=>k4<|.inl y) fun e=>k3<|.inl e) fun y=>k4<|.inr y⟩
 have Yy:z.C<w1.heap.size/\¬((s z.C\/z.C=z.Wg)\/fo z.C):=by
  have hk:=Yx.MP z.C<|.inr<|.inl rfl;rw[afx]at hk;exact⟨Yx.low _<|.inr<|.inl rfl,fun zz=>zz.e (fun zz=>zz.e (fun y=>hk<|.inl y) fun e=>hO.Yo e.s) fun y=>hk<|.inr y⟩
 have hRd:∀b,z.R b->b<w1.heap.size/\¬(s b\/b=z.Wg):=fun b hb=>⟨(hW.rd b hb).1,fun zz=>zz.e (hW.rd b hb).2 fun e=>hO.Dt<|e▸hb⟩;rw[au6,au7];walk_nrm;refine uI fun d1=>?_;refine jM fun d2=>?_;refine uH fun d3=>?_;rw[show List.range Un.size=[0,1,2,3,4]from rfl];have hK3:z.BH (w1.at d3):=⟨hK.sv,hK.hv,hK.ps,hK.ob,hK.c0,hK.c1,hK.ms,hK.fr,hK.tape,hK.os,hK.output⟩;change au.Reach _ _ _ _ (w1.at d3) _ _;refine ajv (au8 (S:=fun b=>b<w1.heap.size/\¬z.R b/\¬((s b\/b=z.Wg)\/fo b)) hO hK3) (fun b hb=>⟨hb.1,hb.2.2⟩) hRd ?_;rintro S' g' w2 ⟨rfl,lq,rfl⟩;refine⟨_,_,rfl,?_⟩;have GI:∀b,b<w1.heap.size->¬(s b\/b=z.Wg)->w2.heap[b]? =w1.heap[b]? :=fun b h1 h2=>by
  by_cases hR:z.R b
  ·exact lq.ro b hR
  ·exact lq.own b ⟨h1,hR,fun zz=>zz.e h2 fun y=>hR<|avd b y fun x=>h2<|.inl x⟩
 have Be:w2.heap[z.C]? =ae (.cells (rows.map (·.1)).toArray 107 (0,0)):=(GI z.C Yy.1 fun zz=>Yy.2<|.inl zz).t hrC;have avg:∀x∈rows,∃Bm,bD w2 Bm 119 5 x.1 x.2.length (x.2.flatMap Ms.cs):=fun x hx=>by
  obtain⟨Bm,h1,h2⟩:=pq x hx;refine⟨Bm,(Own.of (S:=fun b=>x.1.ownBlock=ae b) ⟨h1,fun _ y=>y⟩ (fun _ y=>y) fun b hb=>?_).row⟩;obtain⟨i,hi,OC⟩:=h2 b hb;obtain⟨k1,_,k3,k4,_⟩:=Yx.mi i (by rw[hW.len];exact hi) b OC;rw[afx]at k4;exact GI b k1 fun zz=>zz.e (fun y=>k4<|.inl y) fun e=>k3<|.inl e
 have jg:w1.heap.size<=w2.heap.size:=lq.size;have hBa:z.Ba<=w1.heap.size:=by
  obtain⟨_,_,_,_,hv,_,_,_,_,_,_,_,hz,hle,_⟩:=hW.sp;have h1:=(hW.rd hv (by rw[hz];exact .inr<|.inl rfl)).1;have h2:z.Ba=w.heap.size:=by rw[hz];rfl
  omega
 have avh:Own S1 w2 z.Ba 119 5 av (fQ z.ms).length ((fQ z.ms).flatMap Ms.cs):=IQ.of (fun _ y=>y) fun b hb=>GI b (wU b<|IQ.r b hb).1 fun zz=>(wU b<|IQ.r b hb).2<|.inl zz;have h5:∀b,(s b\/b=z.Wg)\/fo b->1<=b:=fun b hb=>(hW.okt.low b hb).1;have avi:∀d t d',aW prog 116 #[aN (ae ⟨z.C,0,af⟩) z.np z.np] (au.re (w2.at d) t d') (fun e w'=>∃v,e=aV v/\bD w' w2.heap.size 119 5 v z.kY.length (z.kY.flatMap Ms.cs)/\Fr aS (au.re (w2.at d) t d') w'):=fun d t d'=>by
  have:=au4 (w:=au.re (w2.at d) t d') Be avg (by rw[hra];omega) (by omega);rw[hra,Vx]at this;exact this
 refine Yw (f:=116) (post:=fun B' v w'=>B'=(au.bP fo fun b=>s b\/b=z.Wg)/\au.aI ((au.bP fo fun b=>s b\/b=z.Wg).cut w'.heap.size) v/\au.On w2 w'/\bD w' w2.heap.size 119 5 v z.kY.length (z.kY.flatMap Ms.cs)/\∀b,b<w2.heap.size->w'.heap[b]? =w2.heap[b]?) rfl rfl (by decide) rfl func116 rfl rfl (vs:=#[aN (ae ⟨z.C,0,af⟩) z.np z.np]) (by walk_nrm) (fun d=>(au.ail (f:=116) (B:=au.bP fo fun b=>s b\/b=z.Wg) (au.lets h5) (fun m hm=>au.ML fun b hb=>hb.e (h5 b) fun y=>fG (by decide:1<=5)<|fG hm y) (show au.kN 116=true by decide) (fun x hx=>by
  simp at hx;subst hx;exact .slice fun y hy zz=>by
   cases hy;rcases zz with zz|zz
   ·exact Yy.2 zz
   ·have:w2.heap.size<=z.C:=zz;have:=Yy.1;omega) (avi d) (by rintro t d e w' ⟨v,rfl,_⟩;exact⟨v,rfl⟩)).z (by
  rintro B' v w' ⟨rfl,h1,h2,t0,d0,t1,k1,v',e,h3,h4⟩;cases e;exact⟨rfl,h1,⟨h2.tape,h2.size,h2.os,h2.output⟩,h3,fun b hb=>h4.block b hb id⟩)) ?_
 rintro B' v w3 ⟨rfl,Uo,pz,o8,mQ⟩;have hz3:w2.heap.size<=w3.heap.size:=pz.size;have aj0:Own S1 w3 z.Ba 119 5 av (fQ z.ms).length ((fQ z.ms).flatMap Ms.cs):=avh.of (fun _ y=>y) fun b hb=>mQ b (by have:=(wU b<|IQ.r b hb).1;omega);walk_nrm;refine au9 (.tmp 68) (.tmp 70) rfl rfl (by decide) rfl rfl (v:=av) (u:=v) rfl rfl (TY aj0.row fun b hb zz=>?_) Uo fun d=>?_
 ·have h6:=wU b<|IQ.r b hb;rcases zz with zz|zz
  ·exact h6.2 zz
  ·have:w3.heap.size<=b:=zz;omega
 obtain⟨v4,w4,iy,aBg,Ur⟩:=ajR (w:=w3.at d) aj0.row o8 (ajQ _) (by omega) (show z.Ba<=w3.heap.size by omega);refine⟨v4,w4,iy,fun hv4=>?_⟩;have zS:Fr (fun b=>bY av=ae b\/s b\/b=z.Wg) w1 w4:=by
  refine⟨Ur.os.t<|pz.os.t lq.os,Ur.tape.t<|pz.tape.t lq.tape,Ur.output.t<|pz.output.t lq.output,?_,fun b hb hn=>?_⟩
  ·have h7:w3.heap.size<=w4.heap.size:=Ur.size;omega
  ·refine(Ur.block b (show b<w3.heap.size by omega) fun e=>hn<|.inl e.s).t<|(mQ b<|by omega).t<|GI b hb fun zz=>hn<|.inr zz
 walk_nrm;refine jr (fun w=>IP (v:=v4) rfl rfl (by decide) rfl rfl) fun d5=>?_;walk_nrm;refine uI fun d6=>?_;refine jr (fun _=>aFu) fun d7=>?_;refine jr (fun w=>aGB (v:=v4) rfl rfl func54 (by kernel_rfl)<|by kernel_rfl) fun d8=>?_;exact au.Reach.here fun _=>⟨v4,rfl,z,rfl,⟨⟨u,_,S1,ks,Sw,G1,w1,av,hW,IQ,⟨zS.os,zS.tape,zS.output,zS.size,zS.block⟩⟩,aBg,hv4⟩⟩
end Twin
end
section
namespace Twin
open Go Go.Proofs Go.Conc Go.RowKit Go.Maps fU
def zt(ms:List Ms)(i:Nat)(p:PL):aJ:=if p.out then p.s else(ms.filter fun m:Ms=>decide<|m.k=1/\m.q=(i:Int)).foldl (fun s m=>s.closed m.p m.t m.c) p.s
def kY(ms:List Ms)(pl:List PL):List Ms:=(List.range pl.length).flatMap fun i=>match pl[i]? with
 |some p=>if p.out then[]else(ms.filter fun m:Ms=>decide<|m.k=1/\m.q=(i:Int)).map Ms.lJ
 |none=>[]
variable{w w':ay}{B n:Nat}{v:aA}
def fA.same{lb bm n':Nat}{s:aJ}(h:fA w B lb bm v n s)(hn:n<=n')(hb:∀b,lT lb bm v b->w'.heap[b]? =w.heap[b]?):fA w' B lb bm v n' s:=by
 have h1:=(iO.TW (S:=lT lb bm v) (w':=w') ⟨h,.inl rfl,.inr<|.inl rfl,fun _ hk=>.inr<|.inr hk⟩ hb).log;exact h1.z hn
def avj{t:dJ}{size:Nat}{xs:List aA}(h:bD w B t size v n xs){b:Nat}(hb:bY v=ae b):b<w.heap.size/\∃cs fr,w.heap[b]? =ae (.cells cs t fr):=by
 rcases h.2 with⟨rfl,_⟩|⟨g,cap,cur,rfl,_,hg,_⟩
 ·simp[Value.ownBlock]at hb
 ·simp only[Value.ownBlock,gU]at hb;subst hb;exact⟨(jF.1 hg).1,_,_,hg⟩
def avk{fo s:Nat->Prop}{Bm xb:Nat}{h:HS}{ma:Option Addr}{mc:Nat}{ms:List Ms}{z:Gs}(hC:Qk (fun b=>s b\/fo b) w B Bm xb n h ma mc ms)(hG:adu fo s w B xb n h ma mc ms z v w')(hj:∀b,s b->h.jv.ownBlock≠ae b/\h.fv.ownBlock≠ae b):
 ∃gW:List PL,gW.length=h.pl.length/\(∀(i:Nat) (p:PL),h.pl[i]? =ae p->∃v',gW[i]? =ae {p with v:=v',s:=zt ms i p})/\aH w' B xb (n+ms.length) {h with pl:=gW}/\jk gW/\(∀p∈gW,∀b,lT p.lb p.bm p.v b->(xJ h.pl b\/w.heap.size<=b)/\¬s b)/\
  w'.ownsRow w.heap.size 119 5 v ((fQ ms).length+(kY ms h.pl).length) ((fQ ms).flatMap Ms.cs++(kY ms h.pl).flatMap Ms.cs)/\(∀b,b<w.heap.size->¬s b->¬xJ h.pl b->w'.heap[b]? =w.heap[b]?)/\w.heap.size<=w'.heap.size/\w.heap.size<=z.Wg/\w'.tape=w.tape/\w'.os=w.os/\w'.output=w.output:=by
 obtain⟨u,a,S1,ks,Sw,G1,w1,av,hW,IQ,hF⟩:=hG.waited
 obtain⟨E1,hM⟩:=hW.mem
 obtain⟨w2,pb,pc,mb,hv,mr,C,sv,ov,ob,Wg,m0,hz,hle,l1,l2,l3,l4,l5,l6,hK⟩:=hW.sp
 have hQ:=hC.at_.hQ
 have Et:z.np=h.pl.length:=by rw[hz];rfl
 have Ff:z.je.Ai=fun b=>s b\/fo b:=by rw[hz];rfl
 have pX:0<z.np:=by rw[Et];omega
 have hRG:∀b,z.R b->G1 b:=fun b hb=>by
  have l9:0<ks.length:=by rw[hW.len];exact pX
  exact hM.zh 0 ks[0] (eY l9) b<|.inl hb
 have aj2:∀b,b<w.heap.size->¬s b->¬xJ h.pl b->z.R b:=fun b h1 h2 h3=>by rw[hz];exact .inl ⟨h1,h2,h3⟩
 have avl:w.heap.size<=z.Wg:=by
  have:z.Wg=Wg:=by rw[hz];rfl
  omega
 have adv:∀b,b<w.heap.size->¬s b->¬xJ h.pl b->w'.heap[b]? =w.heap[b]? :=fun b h1 h2 h3=>by
  have hR:=aj2 b h1 h2 h3;have e1:w1.heap[b]? =w2.heap[b]? :=by
   have:=hW.mid.jX.fr b hR;rw[this,hz];rfl
  have e2:w2.heap[b]? =w.heap[b]? :=hK.own b h1;refine(hF.block b (hW.rd b hR).1 fun zz=>?_).t<|e1.t e2;rcases zz with zz|zz|zz
  ·exact(hM.sJ b<|IQ.r b zz).2.1<|hRG b hR
  ·exact h2 zz
  ·omega
 have Us:∀i,∃v',∀p,h.pl[i]? =ae p->iO (Sw i) w1 z.B p.lb p.bm (z.n+(z.marks i).length) v' (zt ms i p):=fun i=>by
  by_cases hi:i<z.np
  ·obtain⟨p,_,hp,_,_,_,v',h1,_⟩:=hW.one hi;refine⟨v',fun p' qV=>?_⟩;have hpe:p'=p:=by
    rw[hz]at hp;have rO:h.pl[i]? =ae p:=hp;rw[qV]at rO;exact rP rO
   subst hpe;have e:zt ms i p'=(if p'.out then p'.s else(z.marks i).foldl (fun s m=>s.closed m.p m.t m.c) p'.s):=by rw[hz];rfl
   rw[e];exact h1
  ·exact⟨ai,fun p hp=>absurd (dS.1 hp).1 (by rw[<-Et];exact hi)⟩
 obtain⟨f,hf⟩:=Rw Us
 have N8:∀(i:Nat) (p:PL),h.pl[i]? =ae p->(h.pl.mapIdx fun i p=>({p with v:=f i,s:=zt ms i p}:PL))[i]? =ae {p with v:=f i,s:=zt ms i p}:=fun i p hp=>by simp[hp]
 have G9:∀(i:Nat) (q:PL),(h.pl.mapIdx fun i p=>({p with v:=f i,s:=zt ms i p}:PL))[i]? =ae q->∃p,h.pl[i]? =ae p/\q={p with v:=f i,s:=zt ms i p}:=fun i q hq=>by
  simp only[List.getElem?_mapIdx,zY]at hq;obtain⟨p,hp,rfl⟩:=hq;exact⟨p,hp,rfl⟩
 have OC:∀(i:Nat) (p:PL),h.pl[i]? =ae p->∀b,lT p.lb p.bm (f i) b->Sw i b:=fun i p hp=>(hf i p hp).sub
 have fZ:∀(i:Nat) (p:PL),h.pl[i]? =ae p->i<ks.length:=fun i p hp=>by rw[hW.len,Et];exact(dS.1 hp).1
 obtain⟨_,_,_,iV,uh,aCZ,aC0,iC,Cb,V8,_,_,_⟩:=ajL hC
 have aBi:w.heap.size<=w1.heap.size:=by
  have hR:z.R hv:=by rw[hz];exact .inr<|.inl rfl
  have:=(hW.rd hv hR).1;omega
 have fP:w.heap.size<=w'.heap.size:=fG aBi hF.size
 have dG:∀{t:dJ} {k:Nat} {x:aA} {m:Nat} {xs:List aA},bD w B t k x m xs->t≠163->55≠t->(∀b,s b->bY x≠ae b)->bD w' B t k x m xs:=fun{t k x m xs} hr h1 h2 h3=>by
  refine(Own.of (S:=fun _=>True) (S':=fun _=>True) ⟨hr,fun _ _=>trivial⟩ (fun _ h=>h) fun b hb=>?_).row;obtain⟨hl,cs,fr,hc⟩:=avj hr hb;exact adv b hl (fun z=>h3 b z hb) fun⟨p,hp,uh⟩=>Yt (hC.at_.dZ p hp) hc h1 h2 uh
 have AA:∀(i:Nat) (p:PL),h.pl[i]? =ae p->∀b,lT p.lb p.bm (f i) b->b<w1.heap.size/\¬G1 b/\¬s b/\b≠z.Wg/\¬S1 b:=fun i p hp b hb=>by
  obtain⟨q1,q2,q3,q4,q5⟩:=hM.mi i (fZ i p hp) b<|OC i p hp b hb;rw[Ff]at q4;exact⟨q1,q2,fun e=>q4<|.inl e,fun e=>q3<|.inl e,q5⟩
 have hpc:qj (h.pl.mapIdx fun i p=>({p with v:=f i,s:=zt ms i p}:PL))=qj h.pl:=by
  unfold qj;rw[List.flatMap_def,List.flatMap_def];congr 1;refine List.ext_getElem? fun i=>?_;simp only[afP,List.getElem?_mapIdx,Option.map_map];rfl
 refine⟨h.pl.mapIdx fun i p=>{p with v:=f i,s:=zt ms i p},List.length_mapIdx,fun i p hp=>⟨f i,N8 i p hp⟩,?_,?_,?_,?_,adv,fP,avl,?_,?_,?_⟩
 ·refine⟨(adv xb iC (fun z=>Cb<|.inl z) V8).t hC.at_.blk,dG hC.at_.mg (by decide) (by decide) fun b hb=>(hj b hb).1,?_,dG hC.at_.nM (by decide) (by decide) fun b hb=>(hj b hb).2,?_,hC.at_.hx,hC.at_.hP,?_,hC.at_.h6⟩
  ·show w'.ownsRow B 98 2 h.pv (h.pl.mapIdx _).length (qj _)
   rw[List.length_mapIdx,hpc]
   exact dG hC.at_.ku (by decide) (by decide) fun b hb=>(hC.ns b<|.inl hb).2.1
  ·intro q hq
   obtain⟨i,hi⟩:=anH hq
   obtain⟨p,hp,rfl⟩:=G9 i q hi
   have hml:(z.marks i).length<=ms.length:=by rw[hz];exact D8 _ _
   have hzn:z.n=n:=by rw[hz];rfl
   have hzB:z.B=B:=by rw[hz];rfl
   have hL:=(hf i p hp).log
   rw[hzB,hzn]at hL
   refine fA.same hL (by omega) fun b hb=>?_
   obtain⟨q1,_,q3,q4,q5⟩:=AA i p hp b hb
   exact hF.block b q1 fun zz=>zz.e (fun e=>q5<|IQ.r b e) fun zz=>zz.e q3 q4
  ·show h.Q=(h.pl.mapIdx _).length/\_
   rw[List.length_mapIdx]
   exact hQ
 ·intro i j p q zI hp hq k hk dV
  obtain⟨p0,xU,rfl⟩:=G9 i p hp
  obtain⟨q0,sW,rfl⟩:=G9 j q hq
  exact zI<|hM.apart i j (fZ i p0 xU) (fZ j q0 sW) k (OC i p0 xU k hk)<|OC j q0 sW k dV
 ·intro q hq b hb
  obtain⟨i,hi⟩:=anH hq
  obtain⟨p,hp,rfl⟩:=G9 i q hi
  obtain⟨_,q2,q3,_,_⟩:=AA i p hp b hb
  refine⟨?_,q3⟩
  by_cases h1:xJ h.pl b
  ·exact .inl h1
  ·refine .inr<|Nat.le_of_not_lt fun h2=>q2<|hRG b<|aj2 b h2 q3 h1
 ·have e1:z.ms=ms:=by rw[hz];rfl
  have e2:z.kY=kY ms h.pl:=by rw[hz];rfl
  have e3:z.Ba=w.heap.size:=by rw[hz];rfl
  have:=hG.row
  rw[e1,e2,e3]at this
  exact this
 ·have e0:z.w0=w2:=by rw[hz];rfl
  have:=hW.mid.jX.tape
  rw[e0]at this
  exact hF.tape.t<|this.t hK.tape
 ·have e0:z.w0=w2:=by rw[hz];rfl
  have:=hW.mid.jX.os
  rw[e0]at this
  exact hF.os.t<|this.t hK.os
 ·have e0:z.w0=w2:=by rw[hz];rfl
  have:=hW.mid.jX.output
  rw[e0]at this
  exact hF.output.t<|this.t hK.output
end Twin
end
section
open Go.RowKit Go.Maps
section
variable{h h':HS}
end
inductive qC:HS->List Ms->HS->Prop
 |nil (h:HS):qC h [] h
 |cons {h h1 h2:HS} {m:Ms} {l:List Ms} {i:Nat} {x:PS} (hi:m.p=(i:Int)) (hx:h.ps[i]? =ae x) (a:zf h i x m h1) (r:qC h1 l h2):qC h (m::l) h2
variable{h h':HS}
def zf.rest{i:Nat}{x:PS}{m:Ms}(a:zf h i x m h'):h'.P=h.P/\h'.Q=h.Q/\h'.pl=h.pl/\(h.ps.length=6->h'.ps.length=6)/\h'.fv=h.fv/\h'.fl=h.fl:=by
 cases a with
 |idle=>exact⟨rfl,rfl,rfl,id,rfl,rfl⟩
 |tie=>exact⟨rfl,rfl,rfl,fun e=>by show(h.ps.set i _).length=6;rw[zZ];exact e,rfl,rfl⟩
 |done _ _ hw=>
  cases hw with
  |ok=>exact⟨rfl,rfl,rfl,fun e=>by show(kz h.ps _).length=6;simp[kz,e],rfl,rfl⟩
  |uC=>exact⟨rfl,rfl,rfl,fun _=>rfl,rfl,rfl⟩
def Ko(l:List Ms)(s:aJ):aJ:=l.foldl (fun s m=>s.closed m.p m.t m.c) s
def aj3:∀(l:List Ms) {s:aJ} {i t:Int},(Ko l s).nw i=ae (t,true)->s.nw i=ae (t,true)/\∀m∈l,¬(m.p=i/\m.t=t)
 |[],_,_,_,h=>⟨h,by simp⟩
 |m::l,s,i,t,h=>by
  obtain⟨h1,h2⟩:=aj3 l (s:=s.closed m.p m.t m.c) h;obtain⟨h3,h4⟩:=abS h1;refine⟨h3,fun x hx=>?_⟩;rcases jZ.1 hx with rfl|hx
  ·exact fun e=>h4 ⟨e.1.s,e.2.s⟩
  ·exact h2 x hx
end
section
namespace Twin
open Go Go.Proofs Go.Conc Go.RowKit Go.Maps fU
section
variable{w w':ay}{B xb n:Nat}{h:HS}
def aH.same(hh:aH w B xb n h)(hb:∀b,h.eG xb b->w'.heap[b]? =w.heap[b]?)(_:w.heap.size<=w'.heap.size):aH w' B xb n h:=by
 have row:∀{ty:dJ} {wd:Nat} {v:aA} {k:Nat} {xs:List aA},bD w B ty wd v k xs->(∀b,bY v=ae b->h.eG xb b)->bD w' B ty wd v k xs:=fun{ty wd v k xs} ho hf=>by
  refine⟨ho.1,?_⟩;rcases ho.2 with⟨e,h0⟩|⟨g,cap,cur,e,h1,h2,h3⟩
  ·exact .inl ⟨e,h0⟩
  ·exact .inr ⟨g,cap,cur,e,h1,(hb g<|hf g (by rw[e];rfl)).t h2,h3⟩
 exact⟨(hb xb<|.inl rfl).t hh.blk,row hh.mg fun b e=>.inr<|.inl e,row hh.ku fun b e=>.inr<|.inr<|.inl e,row hh.nM fun b e=>.inr<|.inr<|.inr<|.inl e,fun p hp=>fA.same (hh.dZ p hp) (dI _) fun b hbf=>hb b<|.inr<|.inr<|.inr<|.inr ⟨p,hp,hbf⟩,hh.hx,hh.hP,hh.hQ,hh.h6⟩
def aH.re(hh:aH w B xb n h)(t:Nat->Question->Nat)(d:Nat):aH (au.re w t d) B xb n h:=aH.same hh (fun _ _=>rfl)<|dI _
def aH.IU{t:Nat->Question->Nat}{d:Nat}(hh:aH (au.re w t d) B xb n h):aH w B xb n h:=aH.same hh (fun _ _=>rfl)<|dI _
def Ut{Bn:au.dE}{v:aA}{b:Nat}(h:au.aI Bn v)(hb:bY v=ae b):¬Bn.dB b:=by
 cases h with
 |slice h=>
  rename_i a n m;cases a with
  |none=>simp[Value.ownBlock]at hb
  |some a=>
   have:=h a rfl;simp only[Value.ownBlock]at hb;cases hb;exact this
 |_=>simp[Value.ownBlock]at hb
def aH.free{fo s:Nat->Prop}(hh:aH w B xb n h)(bT:au.pI (au.bP fo s) w)(hx:¬(s xb\/fo xb)):∀b,h.eG xb b->¬(s b\/fo b):=by
 have iC:=(jF.1 hh.blk).1;have ns:∀{a:Nat},¬(s a\/fo a)->a<w.heap.size->¬((au.bP fo s).cut w.heap.size).dB a:=fun{a} h1 h2 z=>z.e h1 fun y=>by omega
 have up:∀{a:Nat},¬((au.bP fo s).cut w.heap.size).dB a->¬(s a\/fo a):=fun z hs=>z<|.inl hs;have cell:∀{a:Addr} {v:aA},¬(s a.block\/fo a.block)->a.block<w.heap.size->aB w a=ae v->au.aI ((au.bP fo s).cut w.heap.size) v:=fun h1 h2 hc=>bT.obj.cell (ns h1 h2) hc;have iV:∀b,h.pv.ownBlock=ae b->¬(s b\/fo b):=fun b e=>up<|Ut (cell hx iC hh.cV) e;rintro b (rfl|e|e|e|⟨p,hp,e⟩)
 ·exact hx
 ·exact up<|Ut (cell hx iC hh.cJ) e
 ·exact iV b e
 ·exact up<|Ut (cell hx iC hh.cF) e
 ·obtain⟨k,hk⟩:=WL.1 hp;obtain⟨g,cap,e1,hg,_,c0,_⟩:=hh.place hk;have uX:¬(s g\/fo g):=iV g (by rw[e1];rfl);have iP:¬(s p.lb\/fo p.lb):=by
   have:=cell (a:=⟨g,k*2,af⟩) uX hg c0;exact up this.ptr
  have Us:=hh.dZ p hp;have zL:=(jF.1 Us.blk).1;have c1:aB w ⟨p.lb,0,af⟩=ae p.v:=aQ Us.blk 0;have c2:aB w ⟨p.lb,2,af⟩=ae (.map<|ae p.bm):=aQ Us.blk 2;rcases e with e|e|e
  ·rw[e];exact iP
  ·rw[e];exact up (cell (a:=⟨p.lb,2,af⟩) iP zL c2).mp
  ·exact up<|Ut (cell (a:=⟨p.lb,0,af⟩) iP zL c1) e
end
end Twin
end
section
namespace Twin
open Go Go.Proofs Go.Conc Go.RowKit Go.Maps fU
def rb:Code:=Tryz.f20.body.getD .skip
def Yz:Code:=jo<|gQ rb
def rX:Code:=jo<|gQ<|gQ rb
def Uu:Code:=gQ rX
def rY:Code:=gQ<|gQ<|gQ rb
def avn:rb=.seq (jo rb) (.seq Yz<|.seq (.seq (jo rX) Uu) rY):=rfl
def ok0:au.codeOk prog au.kN (jo rb)=true:=by kernel_rfl
def Ql:au.codeOk prog au.kN Yz=true:=by kernel_rfl
def avp:au.codeOk prog au.kN Uu=true:=by kernel_rfl
def okY:au.codeOk prog au.kN rY=true:=by kernel_rfl
def rt(xb:Nat)(t2 t3 t5 t6 t7 t8 t9 t10 t11 t12 t13 t14 t15 t16 t17 t18 t19 t20 t21 t22 t23 t24 t25 t26 t27:aA):Array Value:=
 #[az<|ae ⟨xb,0,af⟩,ai,t2,t3,ai,t5,t6,t7,t8,t9,t10,t11,t12,t13,t14,t15,t16,t17,t18,t19,t20,t21,t22,t23,t24,t25,t26,t27]
section
variable{W w':ay}{B xb n:Nat}{h:HS}
def avr(hh:aH W B xb n h):Yz.wp prog (fun e a' w'=>e=.normal/\(∃t6 t7 t8 t9,a'=⟨rt xb (ag ah 0) h.fv ai t6 t7 t8 t9 ai ai ai ai ai ai ai ai ai ai ai ai ai ai ai ai ai ai,[]⟩)/\di W w' B xb n h n (h.iH (aN af 0 0) [])/\Fr (fun q=>q=xb) W w')
 ⟨rt xb (ag ah 0) ai ai ai ai ai ai ai ai ai ai ai ai ai ai ai ai ai ai ai ai ai ai ai ai,[]⟩ W:=by
 have HH:aj (aH W B xb n h):=hh;have aK:=bn hh.blk;clear hh;simp only[Yz,rb,Tryz.f20,ik,jo,gQ,rt];go_wp2_with
  ((go_at_call 53;refine(aqi HH.o).z ?_;rintro e w1 ⟨rfl,rH,bU⟩
    have M1:aj (di W w1 B xb n h n<|h.iH (aN af 0 0) []):=rH
    have F1:aj (Fr (fun q=>q=xb) W w1):=bU
    clear rH bU))
 exact⟨M1.o,F1.o⟩
def _root_.Go.Proofs.YtkelpcjiediamaaGreat.qC.snoc{l:List Ms}{m:Ms}{i:Nat}{x:PS}:∀{h h1 h2:HS},qC h l h1->m.p=(i:Int)->h1.ps[i]? =ae x->zf h1 i x m h2->qC h (l++[m]) h2:=by
 induction l with
 |nil=>intro h h1 h2 a e hx b;cases a;exact .cons e hx b<|.nil _
 |cons z l ih=>
  intro h h1 h2 a e hx b;cases a with
  |cons e1 x1 a ra=>exact .cons e1 x1 a<|ih ra e hx b
def aH.avs(hh:aH W B xb n h)(hn:h.fv=aN af 0 0){k:Nat}(hk:tag W k=119):¬h.eG xb k:=fun e=>by
 rcases hh.abj e with t|t|t|⟨_,t⟩|t|t|t;all_goals first
  |(rw[hk]at t;cases t;done)
  |(rw[hn]at t;simp[Value.ownBlock]at t)
inductive BI(h:HS):HS->Prop
 |down (hu:h.up=false):BI h h
 |up {ok:Bool} {h':HS} (hu:h.up=true) (t:Pm h ok h'):BI h h'
def avt{A:List Ms}{Bm:Nat}{aa:Option Addr}{ac:Nat}(hh:aH W B xb n h)(qg:h.fv=aN af 0 0)(dG:bD W Bm 119 5 (.slice aa A.length ac) A.length (A.flatMap Ms.cs))(rM:A.length<=1000)
 (hp:∀(k:Nat) (h2:HS) (m:Ms),qC h (A.take k) h2->A[k]? =ae m->∃(i:Nat) (x:PS) (q:Nat),m.p=(i:Int)/\i<6/\h2.ps[i]? =ae x/\m.q=(q:Int)/\q<4/\mY h2 ⟨4,i,0,x.t⟩)(t2 t3 t5 t6 t7 t8 t9 t10 t11 t15 t16 t17 t18 t19 t20 t21 t22 t23 t24 t25 t26 t27:aA):
 Uu.wp prog (fun e a' w'=>e=.normal/\(∃t5 t14 t15 t16 t17 t18 t19 t20 t21 t22 t23,a'=⟨rt xb t2 t3 t5 t6 t7 t8 t9 t10 t11 (.slice aa A.length ac) (ag ah A.length) t14 t15 t16 t17 t18 t19 t20 t21 t22 t23 t24 t25 t26 t27,[]⟩)/\∃h2,qC h A h2/\di W w' B xb n h n h2)
  ⟨rt xb t2 t3 t5 t6 t7 t8 t9 t10 t11 (.slice aa A.length ac) (ag ah A.length) (ag ah 0) t15 t16 t17 t18 t19 t20 t21 t22 t23 t24 t25 t26 t27,[]⟩ W:=by
 have HH:aj (aH W B xb n h):=hh
 have EE:aj (h.fv=aN af 0 0):=qg
 have ROW:aj (bD W Bm 119 5 (.slice aa A.length ac) A.length<|A.flatMap Ms.cs):=dG
 have HP:aj (∀(k:Nat) (h2:HS) (m:Ms),qC h (A.take k) h2->A[k]? =ae m->∃(i:Nat) (x:PS) (q:Nat),m.p=(i:Int)/\i<6/\h2.ps[i]? =ae x/\m.q=(q:Int)/\q<4/\mY h2 ⟨4,i,0,x.t⟩):=hp
 clear hh dG hp qg
 simp only[Uu,rX,rb,Tryz.f20,ik,jo,gQ,rt]
 go_wp2_with fail
 go_loopw [14] (fun iv w'=>∃(k:Nat) (h2:HS),k<=A.length/\iv=ag ah k/\qC h (A.take k) h2/\di W w' B xb n h n h2/\h2.fv=aN af 0 0/\bD w' Bm 119 5 (.slice aa A.length ac) A.length (A.flatMap Ms.cs)) (fun iv _=>A.length-(eU iv).toNat)
 case atStart=>exact⟨0,h,kH _,rfl,.nil _,di.refl HH.o,EE.o,ROW.o⟩
 case round=>
  obtain⟨k,h2,hk,rfl,D5,dQ,aj6,dG⟩:=hrel
  have MV:aj (di W wr B xb n h n h2):=dQ
  have AL:aj (qC h (A.take k) h2):=D5
  have FV2:aj (h2.fv=aN af 0 0):=aj6
  have AR:aj (bD wr Bm 119 5 (.slice aa A.length ac) A.length<|A.flatMap Ms.cs):=dG
  have aC1:=bn dQ.at_.blk
  clear D5 dQ aj6 dG
  by_cases aK:k<A.length
  ·obtain⟨x,hx⟩:∃x,A[k]? =ae x:=⟨_,eY aK⟩
   have HX:aj (A[k]? =ae x):=hx
   obtain⟨i,px,q,p1,p2,p3,p4,p5,p6⟩:=HP.o k h2 x AL.o hx
   have PX:aj (x.p=(i:Int)/\i<6/\h2.ps[i]? =ae px/\x.q=(q:Int)/\q<4/\mY h2 ⟨4,i,0,px.t⟩):=⟨p1,p2,p3,p4,p5,p6⟩
   obtain⟨g,cap,e,hg,pV,lY,r0,r1,r2,r3,r4⟩:=Xq AR.o hx
   simp only[aFi,true_and]at e
   obtain⟨rfl,rfl⟩:=e
   have aT:(k:Int)<(A.length:Int):=by omega
   clear hx p1 p2 p3 p4 p5 p6
   go_wp2_with fail
   have S0:aj (∀V,Fr aS (wr.alloc<|aG #[ag ah x.k,ag ah x.q,ag ah x.p,ag ah x.t,aF x.c] 119) V->aB V ⟨wr.heap.size,0,af⟩=ae (ag ah x.k)/\aB V ⟨wr.heap.size,1,af⟩=ae (ag ah x.q)/\aB V ⟨wr.heap.size,2,af⟩=ae (ag ah x.p)/\aB V ⟨wr.heap.size,3,af⟩=ae (ag ah x.t)/\aB V ⟨wr.heap.size,4,af⟩=ae (aF x.c)):=fun V f=>by
    have AQ:V.heap[wr.heap.size]? =ae (aG #[ag ah x.k,ag ah x.q,ag ah x.p,ag ah x.t,aF x.c] 119 (0,0)):=(f.block wr.heap.size (by simp) id).t<|aFb _ _;exact⟨aQ AQ 0,aQ AQ 1,aQ AQ 2,aQ AQ 3,aQ AQ 4⟩
   go_region_held3 (fun V=>aB V ⟨wr.heap.size,0,af⟩=ae (ag ah x.k)/\aB V ⟨wr.heap.size,1,af⟩=ae (ag ah x.q)/\aB V ⟨wr.heap.size,2,af⟩=ae (ag ah x.p)/\aB V ⟨wr.heap.size,3,af⟩=ae (ag ah x.t)/\aB V ⟨wr.heap.size,4,af⟩=ae (aF x.c))
    (first|with_reducible exact C1|exact S0.o _ dR|exact S0.o _ (dR.drew)|go_keep)
    ((go_at_call 55;refine(aht (MV.o.at_.a<|(bQ _).drew) PX.o.2.1 PX.o.2.2.1 x PX.o.2.2.2.1 PX.o.2.2.2.2.1 PX.o.1 PX.o.2.2.2.2.2).z ?_;rintro e w3 ⟨rfl,h3,hy3,YA⟩
      have Y3:aj (zf h2 i px x h3):=hy3
      have M3:aj (di W w3 B xb n h n h3):=MV.o.t<|YA.behind<|(bQ _).drew
      have ra:((wr.alloc<|aG #[ag ah x.k,ag ah x.q,ag ah x.p,ag ah x.t,aF x.c] 119).drew).ownsRow Bm 119 5 (aN (ae ⟨g,0,af⟩) A.length ac) A.length (A.flatMap Ms.cs):=((bQ _).drew).ownsRow AR.o fun _ _=>id
      have A3:aj (bD w3 Bm 119 5 (aN (ae ⟨g,0,af⟩) A.length ac) A.length<|A.flatMap Ms.cs):=YA.fr.ownsRow ra fun b hb hS=>aH.avs (MV.o.at_.a<|(bQ _).drew) FV2.o (iY ra hb) hS
      have C1:aB w3 ⟨wr.heap.size,0,af⟩=ae (ag ah x.k)/\aB w3 ⟨wr.heap.size,1,af⟩=ae (ag ah x.q)/\aB w3 ⟨wr.heap.size,2,af⟩=ae (ag ah x.p)/\aB w3 ⟨wr.heap.size,3,af⟩=ae (ag ah x.t)/\aB w3 ⟨wr.heap.size,4,af⟩=ae (aF x.c):=by
       have AQ:w3.heap[wr.heap.size]? =ae (aG #[ag ah x.k,ag ah x.q,ag ah x.p,ag ah x.t,aF x.c] 119 (0,0)):=(YA.fr.block wr.heap.size (by simp) (fun e=>by have:=(MV.o.at_.uz e).1;omega)).t (((Fr.refl (fun _=>False) _).drew.block wr.heap.size (by simp) id).t<|aFb _ _);exact⟨aQ AQ 0,aQ AQ 1,aQ AQ 2,aQ AQ 3,aQ AQ 4⟩
      clear hy3 YA ra))
   all_goals
    go_wp2
    go_roundw
    case rel=>
     refine⟨k+1,h3,by omega,by go_num,?_,M3.o,Y3.o.rest.2.2.2.2.1.t FV2.o,A3.o⟩
     rw[yu,HX.o]
     exact AL.o.snoc PX.o.1 PX.o.2.2.1 Y3.o
    case measure=>simp[eU]<;>omega
  ·have AF:aj (qC h A h2):=by
    have:=AL.o;rw[Fp<|by omega]at this;exact this
   go_wp2
   exact⟨h2,AF.o,MV.o⟩
def avu{l:Nat}{na:Option Addr}{nc:Nat}(hh:aH W B xb n h)(hp:h.up=true->∀(j:Nat) (h1:HS) (x:PS),j<h.P.toNat->ru h j h1->h1.ps[j]? =ae x->x.Ed/\mY h1 ⟨3,j,0,x.t⟩)(t2 t5 t6 t7 t8 t9 t10 t11 t12 t13 t14 t15 t16 t17 t18 t19 t20 t21 t22 t23 t24 t25 t26 t27:aA):
 rY.wp prog (fun e a' w'=>e=.ret/\a'.tmps.getD 2 ai=ag ah l/\∃h2,BI h h2/\di W w' B xb n h n h2)
  ⟨rt xb t2 (.slice na l nc) t5 t6 t7 t8 t9 t10 t11 t12 t13 t14 t15 t16 t17 t18 t19 t20 t21 t22 t23 t24 t25 t26 t27,[]⟩ W:=by
 have HH:aj (aH W B xb n h):=hh
 have HP:aj (h.up=true->∀(j:Nat) (h1:HS) (x:PS),j<h.P.toNat->ru h j h1->h1.ps[j]? =ae x->x.Ed/\mY h1 ⟨3,j,0,x.t⟩):=hp
 clear hh hp
 cases hu:h.up
 ·have HU:aj (h.up=false):=hu
  clear hu
  simp only[rY,rb,Tryz.f20,ik,gQ,rt]
  go_wp2_with ((go_at_call 56;refine(ahw HH.o HU.o).z ?_;rintro e w5 ⟨rfl,rfl⟩))
  exact⟨h,.down HU.o,di.refl HH.o⟩
 ·have HU:aj (h.up=true):=hu
  clear hu
  simp only[rY,rb,Tryz.f20,ik,gQ,rt]
  go_wp2_with
   ((go_at_call 56;refine(ahx HH.o HU.o<|HP.o HU.o).z ?_;rintro e w5 ⟨ok,h5,rfl,ho5,Kq⟩
     have O5:aj (Pm h ok h5):=ho5
     have M5:aj (di W w5 B xb n h n h5):=Kq
     clear ho5 Kq))
  all_goals exact⟨h5,.up HU.o O5.o,M5.o⟩
end
end Twin
end
