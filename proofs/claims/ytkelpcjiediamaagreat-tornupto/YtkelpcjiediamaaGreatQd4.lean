import Derived.Test.YtkelpcjiediamaaGreatQd2
import Derived.Conc.Beside
import Derived.Conc.Listed
import Derived.Calls
set_option maxRecDepth 100000
set_option maxHeartbeats 0
set_option linter.all false
namespace Go.Proofs.YtkelpcjiediamaaGreat
def aDZ:=@Go.Conc.mem_ofEvents
def aD5:=@Go.ConcN.upd_same
def aD8:=@Go.ConcN.upd_ne
def aEb:=@Go.Goroutine.mk.injEq
def aEj:=@Go.GStep.go.injEq
def aEm:=@Go.Conc.runT_crowd_go
def aEq:=@Go.wp_mono
def aEr:=@Go.Conc.Deaf_other
def aEs:=@Go.Conc.awake_of
def aEB:=@Go.Stepped.next.injEq
def aEC:=@Go.Conc.woken_quitsD
def aEJ:=@Go.Conc.mem_seen
def aEL:=@Go.Result.ok.injEq
def aEM:=@Go.Conc.Deaf_own
def aEV:=@Go.Machine.mk.injEq
def aEY:=@Go.step_lone_ended
def aEZ:=@Go.step_lone_go
def aE6:=@Go.Frame.mk.injEq
def aFf:=@Go.Conc.crowd_pick
def aFj:=@Go.Conc.woken_run
def aFs:=@Go.Sem.runT_fst
open Go renaming Calls→aU,Frame→bu,Goroutine→bF,Program→eF,TypeId→dw,Value→az,World→aj,execOp→dP,stepG→bD,undef→ai
open Go.Ending renaming returned→aT
open Go.Item renaming inRegion→bQ
open Go.Value renaming bool→aB
open Option renaming none→af,some→ae
section
namespace au
open Go Go.Conc
variable{B:cO}{P:eF}
def arb{α:Type}:∀(a:Ask α) (w:aj),(w.ask a).2.heap=w.heap:=by
 intro a;induction a with
 |done a=>intro w;rfl
 |ask what range k ih=>
  intro w;unfold World.ask;simp only[];split
  ·exact ih 0 w
  ·exact ih _ {w with drawn:=w.drawn+1}
def ahD(w:aj)(c:Sys):(w.sys c).2.heap=w.heap:=by
 have h:=arb (Kernel.perform c w.os) w;unfold World.sys;generalize w.ask (Kernel.perform c w.os)=x at h;obtain⟨⟨r,os⟩,w1⟩:=x;simp only at h;split
 ·rfl
 ·rename_i heq;simp only[uD]at heq;obtain⟨⟨rfl,rfl⟩,rfl⟩:=heq;exact h
variable{w w1:aj}{at_ a:Addr}{u:dw}{v:az}{b:Bool}{l:List Addr}{o:Obj}{B':cO}
def arc{k:Addr}(h:w.viewStore P at_ u k v b=.ok (w1,l)):w1.heap.size=w.heap.size:=by
 unfold World.viewStore at h;simp only[bind,Except.bind,pure,Except.pure]at h;repeat' split at h
 all_goals first|cases h|skip
 all_goals simp
def ard(h:w.farStore P a v b=.ok (w1,l)):w1.heap.size=w.heap.size:=by
 unfold World.farStore at h;split at h
 ·split at h
  ·rename_i hv;cases h;exact arc hv
  ·cases h
 ·cases h
def ahE(w:aj)(a:Addr)(n:Nat):(w.freeze a n).heap.size=w.heap.size:=by unfold World.freeze;split<;>simp
def ahF{α:Type}{s:Sem α}:∀{w w':aj} {a:α},s.run P w=.ok a w'->w.heap.size<=w'.heap.size:=by
 induction s with
 |pure a=>intro w w' x h;simp only[Sem.run,aEL]at h;rw[h.2];exact dm _
 |load m a k ih=>
  intro w w' x h;simp only[Sem.run]at h;split at h
  ·exact ih _ h
  ·split at h
   ·exact ih _ h
   ·cases h
 |store m a v k ih=>
  intro w w' x h;have key:∀w1:aj,w1.heap.size=w.heap.size->k.run P w1=.ok x w'->w.heap.size<=w'.heap.size:=fun w1 e hk=>e▸ih hk;by_cases hv:(∃y,v=.agg y)\/(∃y,v=.tuple y)
  ·rcases hv with⟨y,rfl⟩|⟨y,rfl⟩<;>simp[Sem.run]at h
  ·have gU:(Sem.store m a v k).run P w=match w.cell? a with
    |some _=>if w.frozen? a then .halt (.unsupported<|.unsafePointer "a write to bytes that a string shares") w else k.run P (w.setCell a v)
    |none=>match w.farStore P a v (m== .atomic)with
     | .ok (w,_)=>k.run P w
     | .error h=>.halt h w:=by
    cases v<;>first|rfl|simp at hv
   rw[gU]at h;split at h
   ·split at h
    ·cases h
    ·exact key _ (by simp) h
   ·split at h
    ·rename_i hf;exact key _ (ard hf) h
    ·cases h
 |new o k ih=>intro w w' x h;have:=ih _ h;simp at this;omega
 |shape r k ih=>intro w w' x h;exact ih _ h
 |freeze a n k ih=>intro w w' x h;have:=ih h;rw[ahE]at this;exact this
 |frozen a k ih=>intro w w' x h;exact ih _ h
 |getObj r k ih=>
  intro w w' x h;simp only[Sem.run]at h;split at h
  ·cases h
  ·exact ih _ h
  ·cases h
 |setObj r o k ih=>
  intro w w' x h;simp only[Sem.run]at h;split at h
  ·cases h
  ·have:=ih h;simpa using this
  ·cases h
 |choose q k ih=>
  intro w w' x h;simp only[Sem.run]at h;split at h
  ·exact ih _ h
  ·exact ih _ (w:={w with drawn:=w.drawn+1}) h
 |sys c k ih=>
  intro w w' x h;have:=ih _ h;rw[ahD]at this;exact this
 |program k ih=>intro w w' x h;exact ih _ h
 |mark m k ih=>intro w w' x h;exact ih h
 |halt x=>intro w w' a h;cases h
def jX(B:cO)(w:aj):Prop:=∀b o,¬B.bZ b->w.heap[b]? =ae o->mF B o
def jX.cell(h:jX B w)(ha:¬B.bZ a.block)(hc:w.cell? a=ae v):aG B v:=by
 unfold World.cell? at hc;split at hc
 ·rename_i c e fz hb;have ho:bT B c:=h _ _ ha hb;split at hc
  ·cases hc
  ·exact ho v<|KR hc
 ·cases hc
def jX.setCell(h:jX B w)(hv:aG B v):jX B (w.setCell a v):=by
 intro b o hb ho;obtain⟨o',ui,hx⟩:=WS ho;have hk:=h _ _ hb ui;rcases hx with rfl|⟨_,rfl⟩
 ·exact hk
 ·cases o'<;>first|exact hk|skip;rename_i c e fz;show bT B _;split
  ·exact hk
  ·exact bT.set (show bT B c from hk) hv _
def jX.freeze(h:jX B w){n:Nat}:jX B (w.freeze a n):=by
 unfold World.freeze;split
 ·exact h
 intro b o hb ho;obtain⟨o',ui,hx⟩:=WS ho;have hk:=h _ _ hb ui;rcases hx with rfl|⟨_,rfl⟩
 ·exact hk
 ·cases o'<;>exact hk
def jX.push(h:jX B w)(ho:mF B o):jX B {w with heap:=w.heap.push o}:=by
 intro b x hb hx;simp only[QM]at hx;split at hx
 ·cases hx;exact ho
 ·exact h _ _ hb hx
def jX.setObj(h:jX B w){r:Nat}(ho:mF B o):jX B {w with heap:=w.heap.setIfInBounds r o}:=by
 intro b x hb hx;simp only[ae6]at hx;split at hx
 ·split at hx
  ·cases hx;exact ho
  ·cases hx
 ·exact h _ _ hb hx
def jX.dL(h:jX B w)(ha:¬B.bZ a.block):w.heap[a.block]? ≠ae (.view at_ u):=fun e=>(h _ _ ha e).elim
def Clean.DY{α:Type}{ok:α->Prop}{s:Sem α}(h:Clean B P ok s):∀{w w':aj} {a:α},jX B w->s.run P w=.ok a w'->(∀b,B.bZ b->b<w.heap.size\/w'.heap.size<=b)->ok a/\jX B w':=by
 induction s with
 |pure a=>intro w w' x hw hr _;simp only[Sem.run,aEL]at hr;exact⟨hr.1▸h,hr.2▸hw⟩
 |load m a k ih=>
  intro w w' x hw hr hn;simp only[Sem.run]at hr;split at hr
  ·rename_i v hc;exact ih v (h.2 v<|hw.cell h.1 hc) hw hr hn
  ·split at hr
   ·rename_i hf;unfold World.farLoad at hf;split at hf
    ·rename_i e;exact absurd e<|hw.dL h.1
    ·cases hf
   ·cases hr
 |store m a v k ih=>
  intro w w' x hw hr hn;by_cases hv:(∃y,v=.agg y)\/(∃y,v=.tuple y)
  ·rcases hv with⟨y,rfl⟩|⟨y,rfl⟩<;>simp[Sem.run]at hr
  ·have gU:(Sem.store m a v k).run P w=match w.cell? a with
    |some _=>if w.frozen? a then .halt (.unsupported<|.unsafePointer "a write to bytes that a string shares") w else k.run P (w.setCell a v)
    |none=>match w.farStore P a v (m== .atomic)with
     | .ok (w,_)=>k.run P w
     | .error h=>.halt h w:=by
    cases v<;>first|rfl|simp at hv
   rw[gU]at hr;split at hr
   ·split at hr
    ·cases hr
    ·exact ih h.2.2 (hw.setCell h.2.1) hr<|by simpa using hn
   ·split at hr
    ·rename_i hf;unfold World.farStore at hf;split at hf
     ·rename_i e;exact absurd e<|hw.dL h.1
     ·cases hf
    ·cases hr
 |new o k ih=>
  intro w w' x hw hr hn;have hz:=ahF (s:=k w.heap.size) hr;simp only[Array.size_push]at hz;have hf:¬B.bZ w.heap.size:=fun hs=>by rcases hn _ hs with e|e<;>omega
  exact ih w.heap.size (h.2 _ hf) (hw.push h.1) hr fun b hb=>by
   rcases hn b hb with e|e
   ·exact .inl (by simp<;>omega)
   ·exact .inr e
 |shape r k ih=>intro w w' x hw hr hn;exact ih _ (h _) hw hr hn
 |freeze a n k ih=>intro w w' x hw hr hn;exact ih h hw.freeze hr (by rw[ahE];exact hn)
 |frozen a k ih=>intro w w' x hw hr hn;exact ih _ (h _) hw hr hn
 |getObj r k ih=>
  intro w w' x hw hr hn;simp only[Sem.run]at hr;split at hr
  ·cases hr
  ·rename_i o _ hb;exact ih o (h.2 o<|hw _ _ h.1 hb) hw hr hn
  ·cases hr
 |setObj r o k ih=>
  intro w w' x hw hr hn;simp only[Sem.run]at hr;split at hr
  ·cases hr
  ·exact ih h.2.2 (hw.setObj h.2.1) hr<|by simpa using hn
  ·cases hr
 |choose q k ih=>
  intro w w' x hw hr hn;simp only[Sem.run]at hr;split at hr
  ·exact ih _ (h _) hw hr hn
  ·exact ih _ (h _) (w:={w with drawn:=w.drawn+1}) hw hr hn
 |sys c k ih=>
  intro w w' x hw hr hn;have e:=ahD w c;exact ih _ (h.2 _) (w:=(w.sys c).2) (fun b o hb ho=>hw b o hb<|e▸ho) hr (by rw[e];exact hn)
 |program k ih=>intro w w' x hw hr hn;exact ih P h hw hr hn
 |mark m k ih=>intro w w' x hw hr hn;exact ih h.2 hw hr hn
 |halt x=>intro w w' a hw hr hn;cases hr
def aG.mono{B:cO}(hs:∀b,B.bZ b->B'.bZ b)(hl:B'.let_=B.let_)(h:aG B' v):aG B v:=by
 induction h with
 |bool=>exact .bool
 |int=>exact .int
 |float=>exact .float
 |string=>exact .string
 |pointer h=>exact .pointer fun x hx z=>h x hx<|hs _ z
 |slice h=>exact .slice fun x hx z=>h x hx<|hs _ z
 |map h=>exact .map fun x hx z=>h x hx<|hs _ z
 |chan h=>exact .chan fun x hx z=>h x hx<|hs _ z
 |func h _ _ ha hc=>exact .func (hl▸h) ha hc
 |nilFunc=>exact .nilFunc
 |iface _ h=>exact .iface h
 |nilIface=>exact .nilIface
 |agg _ h=>exact .agg h
 |tuple _ h=>exact .tuple h
def mF.mono{B:cO}(hs:∀b,B.bZ b->B'.bZ b)(hl:B'.let_=B.let_)(h:mF B' o):mF B o:=by
 cases o with
 |cells c t f=>exact fun v hv=>(h v hv).mono hs hl
 |map es n=>exact fun e he=>⟨(h e he).1.mono hs hl,(h e he).2.mono hs hl⟩
 |chan a b c d e f=>exact fun v hv=>(h v hv).mono hs hl
 |stringIter _ _=>trivial
 |mapIter m a b c=>exact fun r hr z=>h r hr<|hs _ z
 |_=>first|exact h.elim|exact fun z=>h (hs _ z)|trivial
def cO.cut(B:cO)(n:Nat):cO:=⟨fun b=>B.bZ b\/n<=b,B.let_,B.wg⟩
structure oQ(B:cO)(w:aj):Prop where
 obj:jX (B.cut w.heap.size) w
 low:∀b,B.bZ b->1<=b/\b<w.heap.size
 mG:5<=w.heap.size
variable{n:Nat}
def oQ.okW(h:oQ B w):OkW B w:=
 ⟨fun b o hb ho=>(h.obj b o (fun z=>z.elim hb fun y=>absurd (jk.1 ho).1<|by omega) ho).mono (B:=B) (B':=B.cut w.heap.size) (fun _ z=>.inl z) rfl,fun b hb=>(h.low b hb).2⟩
def oQ.of{w':aj}(h:oQ B w)(hz:w.heap.size<=w'.heap.size)(ho:jX (B.cut w'.heap.size) w'):oQ B w':=
 ⟨ho,fun b hb=>⟨(h.low b hb).1,fK (h.low b hb).2 hz⟩,eG h.mG hz⟩
def RS(h:jX (B.cut w.heap.size) w)(hn:w.heap.size<=n):jX (B.cut n) w:=fun b o hb ho=>
 (h b o (fun z=>z.elim (fun y=>hb<|.inl y) fun y=>absurd (jk.1 ho).1<|by omega) ho).mono (B:=B.cut n) (B':=B.cut w.heap.size) (fun _ z=>Or.imp id (fun y=>eG hn y) z) rfl
def oQ.re(h:oQ B w)(t:Nat->Question->Nat)(d:Nat):oQ B (re w t d):=⟨h.obj,h.low,h.mG⟩
def OU{m:Nat}(h:n<=m):∀b,(B.cut m).bZ b->(B.cut n).bZ b:=fun _ z=>Or.imp id (fun y=>eG h y) z
def abN{α:Type}{s:Sem α}{r:Result α}{gs:Array Event}(h:abv P s w n r gs):s.run P w=r.re w.tape (w.drawn+n):=by
 have:=h w.tape w.drawn (fun i _=>rfl) #[];rw[show au.re w w.tape w.drawn=w from rfl]at this;rw[<-aFs P s w #[],this]
end au
end
section
namespace au
open Go Go.Conc
variable{B:cO}{P:eF}
def codeOk(P:eF)(l:FuncId->Bool):Code->Bool
 | .skip| .exit _| .label _| .goto _| .ret| .refuse _=>true
 | .region _ ops _=>ops.all fun o=>sG P l o.op
 | .seq a b=>codeOk P l a&&codeOk P l b
 | .cond _ a b=>codeOk P l a&&codeOk P l b
 | .block _ b| .loop b| .scope b=>codeOk P l b
 | .rangeFunc _ _ _ _=>false
def qN(P:eF)(l:FuncId->Bool):Item->Bool
 | .code c| .inLoop c| .inScope c=>codeOk P l c
 | .inBlock _=>true
 | bQ ops _=>ops.all fun o=>sG P l o.op
 |_=>false
def RU(P:eF)(l:FuncId->Bool)(f:FuncId):Bool:=
 match P.funcs[f]? with
 |none=>false
 |some fn=>(fn.name== "runtime.NumGoroutine")==false&&match fn.body with
  |none=>false
  |some b=>codeOk P l b
structure oC(B:cO)(P:eF):Prop extends Fit B P where
 fns:∀f,B.let_ f=true->RU P B.let_ f=true
def oC.fn(L:oC B P){f:FuncId}(h:B.let_ f=true):∃fn b,P.funcs[f]? =ae fn/\(fn.name== "runtime.NumGoroutine")=false/\fn.body=ae b/\codeOk P B.let_ b=true:=by
 have:=L.fns f h;unfold RU at this;split at this
 ·cases this
 ·rename_i fn qy;simp only[mg,beq_iff_eq]at this;obtain⟨h1,h2⟩:=this;split at h2
  ·cases h2
  ·rename_i b hb;exact⟨fn,b,qy,h1,hb,h2⟩
def oC.abO(L:oC B P):Xd B P:=⟨fun f h=>by
 obtain⟨fn,b,h1,h2,h3,_⟩:=L.fn h;exact⟨fn,h1,h2,by rw[h3];rfl⟩⟩
structure fO(B:cO)(P:eF)(fr:bu):Prop where
 fn:∃fn,P.funcs[fr.fn]? =ae fn
 tmps:bT B fr.tmps
 todo:∀it∈fr.todo,qN P B.let_ it=true
 defers:fr.defers=[]
 mode:fr.mode=.run\/fr.mode=.returning
 kind:fr.kind=.normal
 round:fr.roundOf=af
variable{fr:bu}{l:Nat}
def fO.env(F:Fit B P)(h:fO B P fr):Env B P fr.eval:=⟨fun x hx=>by
 cases x with
 |tmp t=>exact h.tmps.getD rC
 |const v=>exact ahB hx
 |global g=>
  refine .rE fun hs=>?_;have:=F.globals _ hs;simp[LI]at hx;simp only at this;omega
 |func f=>exact .func hx bT.nil bT.nil⟩
def fO.finish(h:fO B P fr){v:az}(hv:aG B v):fO B P (fr.finish v):=by
 obtain⟨fn,tmps,todo,defers,mode,kind,round⟩:=fr;unfold Frame.finish;split
 ·rename_i ops i rest k heq;obtain rfl:todo=_:=heq;refine⟨h.fn,?_,?_,h.defers,h.mode,h.kind,h.round⟩
  ·dsimp only;split
   ·exact bT.set h.tmps hv _
   ·exact h.tmps
  ·intro it jy;rcases jR.1 jy with rfl|jy
   ·exact h.todo (bQ ops<|i::rest)<|by simp
   ·exact h.todo it<|by simp[jy]
 all_goals first
  |exact h
  |(rename_i heq
    have ht:=h.todo
    rw[heq]at ht
    have:=ht _<|List.mem_cons_self ..
    simp[qN]at this)
def fO.enter(L:oC B P){f:FuncId}{args:Array az}(hf:B.let_ f=true)(ha:bT B args):fO B P (Frame.enter P f args .normal):=by
 obtain⟨fn,b,h1,h2,h3,h4⟩:=L.fn hf;refine⟨⟨fn,h1⟩,?_,?_,rfl,.inl rfl,rfl,rfl⟩
 ·refine bT.append ha fun v hv=>?_;obtain⟨_,rfl⟩:=Oa.1 hv;exact rC
 ·intro it jy;simp only[Frame.enter,h1,Option.bind_some,h3,ik,oN]at jy;subst jy;exact h4
def fO.to(h:fO B P fr){k:List Item}(hk:∀it∈k,qN P B.let_ it=true):fO B P {fr with todo:=k}:=⟨h.fn,h.tmps,hk,h.defers,h.mode,h.kind,h.round⟩
def abP{id:Nat}:∀{k k':List Item},(∀it∈k,qN P B.let_ it=true)->exitTo id k=ae k'->∀it∈k',qN P B.let_ it=true
 |[],k',_,h=>by simp[exitTo]at h
 |x::k,k',hk,h=>by
  have dN:∀it∈k,qN P B.let_ it=true:=fun it jy=>hk it (by simp[jy]);cases x with
  |inBlock Zw=>
   simp only[exitTo]at h;split at h
   ·cases h;exact dN
   ·exact abP dN h
  |_=>exact abP dN<|by simpa[exitTo]using h
def abQ:∀{c r:Code},codeOk P B.let_ c=true->findLabel c l=ae r->codeOk P B.let_ r=true
 | .seq a b,r,hc,h=>by
   simp only[codeOk,mg]at hc;simp only[findLabel]at h;split at h
   ·cases h;simp only[codeOk,mg];exact⟨abQ hc.1 ‹_›,hc.2⟩
   ·exact abQ hc.2 h
 | .label l',r,hc,h=>by
   simp only[findLabel]at h;split at h
   ·cases h;rfl
   ·cases h
 | .skip,_,_,h| .region ..,_,_,h| .cond ..,_,_,h| .block ..,_,_,h| .loop _,_,_,h| .rangeFunc ..,_,_,h| .exit _,_,_,h| .scope _,_,_,h| .goto _,_,_,h| .ret,_,_,h| .refuse _,_,_,h=>by simp[findLabel]at h
def abR:∀{k k':List Item},(∀it∈k,qN P B.let_ it=true)->gotoIn l k=ae k'->∀it∈k',qN P B.let_ it=true
 |[],k',_,h=>by simp[gotoIn]at h
 |x::k,k',hk,h=>by
  have dN:∀it∈k,qN P B.let_ it=true:=fun it jy=>hk it (by simp[jy]);cases x with
  |inScope body=>
   simp only[gotoIn]at h;split at h
   ·cases h;have hb:=hk (.inScope body) (by simp);intro it jy;rcases jR.1 jy with rfl|jy
    ·exact abQ (B:=B) hb ‹_›
    ·exact hk it jy
   ·exact abR dN h
  |_=>exact abR dN<|by simpa[gotoIn]using h
def Js(F:Fit B P){fn:Func}{tmps:Array az}(h:bT B tmps):Clean B P (aG B) (results fn tmps):=by
 refine aS (aho (ok:=aG B) _ fun r=>?_) fun vs Zx=>aW ?_
 ·split
  ·exact aW<|h.getD rC
  ·exact aS (ahe F<|h.getD rC) fun a ha=>ahc ha
 ·split
  ·exact Zx _<|QO _
  ·exact .tuple Zx
inductive TS where
 |next (fr:bu) (fs:List bu) (w:aj) (es:Array Event)
 |panic (fr:bu) (chain:List PanicEntry) (fs:List bu) (w:aj) (es:Array Event)
 |ended (o:Outcome) (w:aj) (es:Array Event)
def TS.nD(t:Nat->Question->Nat)(d:Nat)(cs:List bu):TS->GStep
 | .next fr fs w es=>.go {frame:=fr,callers:=fs++cs,status:=.running,dying:=af} (re w t d) es
 | .panic fr chain fs w es=>.go {frame:=fr.raise chain,callers:=fs++cs,status:=.running,dying:=af} (re w t d) es
 | .ended o w es=>.ended o (re w t d) es
def TS.A7(B:cO)(P:eF)(w:aj):TS->Prop
 | .next fr fs w' es=>fO B P fr/\(∀f∈fs,fO B P f)/\OkW B w'/\w.heap.size<=w'.heap.size/\w'.os=w.os/\w'.output=w.output/\∀e∈es,Fg B w'.heap.size e
 | .panic fr _ fs _ _=>fO B P fr/\∀f∈fs,fO B P f
 | .ended _ _ _=>True
def TS.keeps(B:cO)(P:eF)(w:aj):TS->Prop
 | .next fr fs w' _=>(∀b,B.bZ b->b<w.heap.size\/w'.heap.size<=b)->fO B P fr/\(∀f∈fs,fO B P f)/\jX B w'
 |_=>True
def sH(fr:bu):Prop:=∃ops i r k,fr.todo=bQ ops (i::r)::k
def TS.shape(fr:bu)(fs:List bu):TS->Prop
 | .next _ lJ _ _=>lJ=fs\/(lJ=fr::fs/\sH fr)\/∃c,fs=c::lJ
 |_=>True
def abS(n:Nat)(w:aj)(t:Nat->Question->Nat)(d:Nat):Prop:=∀i,i<n->t (d+i)=w.tape (w.drawn+i)
structure yN(B:cO)(P:eF)(fr:bu)(fs:List bu)(w:aj)(n:Nat)(T:TS):Prop where
 eq:∀t d,abS n w t d->∀cs,bD P true {frame:=fr,callers:=fs++cs,status:=.running,dying:=af} (re w t d)=T.nD t (d+n) cs
 tight:∀B':cO,oC B' P->B'.let_=B.let_->fO B' P fr->(∀f∈fs,fO B' P f)->jX B' w->T.keeps B' P w
 shape:T.shape fr fs
 A7:T.A7 B P w
variable{fs:List bu}{w:aj}{k:List Item}
def wI{fr':bu}(h':∀B':cO,B'.let_=B.let_->fO B' P fr->fO B' P fr')(h:fO B P fr)(hs:∀f∈fs,fO B P f)(hw:OkW B w)
 (eq:∀w cs,bD P true {frame:=fr,callers:=fs++cs,status:=.running,dying:=af} w=.go {frame:=fr',callers:=fs++cs,status:=.running,dying:=af} w #[]):yN B P fr fs w 0 (.next fr' fs w #[]):=
 ⟨fun t d _ cs=>by rw[eq];rfl,fun B' _ hl h1 h2 h3 _=>⟨h' B' hl h1,h2,h3⟩,.inl rfl,h' B rfl h,hs,hw,dm _,rfl,rfl,by simp⟩
def Xe(o:Outcome)
 (eq:∀w cs,bD P true {frame:=fr,callers:=fs++cs,status:=.running,dying:=af} w=.ended o w #[]):yN B P fr fs w 0 (.ended o w #[]):=
 ⟨fun t d _ cs=>by rw[eq];rfl,fun _ _ _ _ _ _=>trivial,trivial,trivial⟩
def arf(L:oC B P){s:Sem Next}(vY:sH fr)(h:fO B P fr)(gU:fr.mode=.run)(hs:∀f∈fs,fO B P f)(hw:OkW B w)(hc:∀B':cO,oC B' P->B'.let_=B.let_->fO B' P fr->Clean B' P (Fp B') s)
 (eq:∀w cs,bD P true {frame:=fr,callers:=fs++cs,status:=.running,dying:=af} w=stepG.apply P true fr (fs++cs) af s w):∃n T,yN B P fr fs w n T:=by
 obtain⟨n,r,gs,h1,h2⟩:=(hc B L rfl h).Jr hw;have oL:=abN h1;have xm:(fr.kind== .early)=false:=by rw[h.kind];rfl
 cases r with
 |ok nx w'=>
  obtain⟨hn,uU,eH,UU,zo,dS⟩:=h2;cases nx with
  |value v=>
   refine⟨n,.next (fr.finish v) fs w'<|seen P fr.fn gs,fun t d ha cs=>?_,fun B' L' hl g1 g2 g3 g4=>(let ⟨k1,k2⟩:=(hc B' L' hl g1).DY g3 oL g4;⟨g1.finish k1,g2,k2⟩),.inl rfl,h.finish hn,hs,uU,eH,UU,zo,fun e he=>dS e<|aEJ he⟩;rw[eq];unfold stepG.apply;simp only[if_true,h1 t d ha #[],Result.re,xm,kP,kQ,GStep.after,TS.nD,uC,uB]
  |skip=>
   refine⟨n,.next (fr.finish ai) fs w'<|seen P fr.fn gs,fun t d ha cs=>?_,fun B' L' hl g1 g2 g3 g4=>(let ⟨_,k2⟩:=(hc B' L' hl g1).DY g3 oL g4;⟨g1.finish rC,g2,k2⟩),.inl rfl,h.finish rC,hs,uU,eH,UU,zo,fun e he=>dS e<|aEJ he⟩;rw[eq];unfold stepG.apply;simp only[if_true,h1 t d ha #[],Result.re,xm,kP,kQ,GStep.after,TS.nD,uC,uB]
  |enter f args=>
   refine⟨n,.next (Frame.enter P f args .normal) (fr::fs) w'<|seen P fr.fn gs,fun t d ha cs=>?_,fun B' L' hl g1 g2 g3 g4=>(let ⟨k1,k2⟩:=(hc B' L' hl g1).DY g3 oL g4;⟨fO.enter L' k1.1 k1.2,fun f hf=>(jR.1 hf).elim (fun e=>e▸g1)<|g2 f,k2⟩),.inr<|.inl ⟨rfl,vY⟩,fO.enter L hn.1 hn.2,?_,uU,eH,UU,zo,fun e he=>dS e<|aEJ he⟩
   ·rw[eq];unfold stepG.apply;simp only[if_true,h1 t d ha #[],Result.re,xm,kP,kQ,GStep.after,TS.nD,uC,uB,nP];split
    ·rename_i heq;have ht:=h.todo;rw[heq]at ht;have:=ht _<|List.mem_cons_self ..;simp[qN]at this
    ·rfl
   ·intro f hf;rcases jR.1 hf with rfl|hf
    ·exact h
    ·exact hs f hf
  |_=>exact hn.elim
 |halt x w'=>
  cases x with
  |panic v=>
   refine⟨n,.panic fr [{v,recovered:=false}] fs w'<|seen P fr.fn gs,fun t d ha cs=>?_,fun _ _ _ _ _ _=>trivial,trivial,h,hs⟩;rw[eq];unfold stepG.apply;simp only[if_true,h1 t d ha #[],Result.re,xm,kP,kQ,GStep.after,TS.nD,uC,uB]
  |stuck z=>
   refine⟨n,.ended (.stuck z<|fr.pos P) w'<|seen P fr.fn gs,fun t d ha cs=>?_,fun _ _ _ _ _ _=>trivial,trivial,trivial⟩;rw[eq];unfold stepG.apply;simp only[if_true,h1 t d ha #[],Result.re,xm,kP,kQ,GStep.after,TS.nD,uC,uB]
  |unsupported u=>
   refine⟨n,.ended (.unsupported u<|fr.pos P) w'<|seen P fr.fn gs,fun t d ha cs=>?_,fun _ _ _ _ _ _=>trivial,trivial,trivial⟩;rw[eq];unfold stepG.apply;cases u<;>first|exact h2.elim|simp only[if_true,h1 t d ha #[],Result.re,xm,kP,kQ,GStep.after,TS.nD,uC,uB]
  |_=>exact h2.elim
def arh(L:oC B P){ops:Array Oper}{i:Nat}{r:List Nat}(h:fO B P fr)(gU:fr.mode=.run)(hs:∀f∈fs,fO B P f)(hw:OkW B w)(ht:fr.todo=bQ ops (i::r)::k):∃n T,yN B P fr fs w n T:=by
 by_cases Gi:((ops[i]?).map (Region.wanted · (yielded ops fr.tmps))).getD false=true
 ·cases ho:ops[i]? with
  |none=>rw[ho]at Gi;simp at Gi
  |some o=>
   have bP:sG P B.let_ o.op=true:=by
    have:=h.todo (bQ ops<|i::r) (by rw[ht];simp);simp only[qN]at this;obtain⟨hi,rfl⟩:=jk.1 ho;exact(GL.1 this) i hi
   refine arf L ⟨_,_,_,_,ht⟩ h gU hs hw (fun B' L' hl h'=>abM L'.toFit L'.abO (h'.env L'.toFit) (by rw[hl];exact bP)) fun w cs=>?_;obtain⟨fn,tmps,todo,defers,mode,kind,round⟩:=fr;obtain rfl:round=none:=h.round;obtain rfl:mode=.run:=gU;obtain rfl:todo=bQ ops (i::r)::k:=ht;have uT:Region.wanted o (yielded ops tmps)=true:=by simpa[ho]using Gi
   simp[bD,stepG.exec,stepG.oper,Frame.oper?,ho,uT]
 ·refine⟨0,_,wI (fr':=fr.finish ai) (fun _ _ h'=>h'.finish rC) h hs hw fun w cs=>?_⟩;obtain⟨fn,tmps,todo,defers,mode,kind,round⟩:=fr;obtain rfl:round=none:=h.round;obtain rfl:mode=.run:=gU;obtain rfl:todo=bQ ops (i::r)::k:=ht;simp only[bD,stepG.exec];rw[if_neg Gi]
def oU{l:FuncId->Bool}{a:Item}(h:qN P l a=true)(hk:∀x∈k,qN P l x=true):∀x∈a::k,qN P l x=true:=by
 intro x hx;rcases jR.1 hx with rfl|hx
 ·exact h
 ·exact hk x hx
def Ho(fr:bu)(fs:List bu):Prop:=fr.mode=.run\/fs≠[]
def stp(L:oC B P)(h:fO B P fr)(hs:∀f∈fs,fO B P f)(hw:OkW B w)(hb:Ho fr fs):∃n T,yN B P fr fs w n T:=by
 have dO:=h;obtain⟨fn,tmps,todo,defers,mode,kind,round⟩:=fr;obtain rfl:round=none:=h.round;obtain rfl:defers=[]:=h.defers;obtain rfl:kind=.normal:=h.kind;rcases h.mode with hm|hm
 ·obtain rfl:mode=.run:=hm;cases todo with
  |nil=>exact⟨0,_,wI (fr':=⟨fn,tmps,[],[],.returning,.normal,af⟩) (fun _ _ h'=>⟨h'.fn,h'.tmps,h'.todo,rfl,.inr rfl,rfl,rfl⟩) dO hs hw fun w cs=>by simp[bD,stepG.exec]⟩
  |cons it k=>
   have jy:=h.todo it (by simp);have hk:∀x∈k,qN P B.let_ x=true:=fun x hx=>h.todo x (by simp[hx]);cases it with
   |inBlock id=>exact⟨0,_,wI (fun _ hl h'=>h'.to (by rw[hl];exact hk)) dO hs hw fun w cs=>by simp[bD,stepG.exec]⟩
   |inScope c=>exact⟨0,_,wI (fun _ hl h'=>h'.to (by rw[hl];exact hk)) dO hs hw fun w cs=>by simp[bD,stepG.exec]⟩
   |inLoop c=>exact⟨0,_,wI (fun _ hl h'=>h'.to (k:=.code c:: .inLoop c::k) (by rw[hl];exact(oU jy<|oU jy hk))) dO hs hw fun w cs=>by simp[bD,stepG.exec]⟩
   |inRegion ops todo=>
    cases todo with
    |nil=>exact⟨0,_,wI (fun _ hl h'=>h'.to (by rw[hl];exact hk)) dO hs hw fun w cs=>by simp[bD,stepG.exec]⟩
    |cons i r=>exact arh L dO rfl hs hw rfl
   |code c=>
    cases c with
    |skip=>exact⟨0,_,wI (fun _ hl h'=>h'.to (by rw[hl];exact hk)) dO hs hw fun w cs=>by simp[bD,stepG.exec]⟩
    |label l=>exact⟨0,_,wI (fun _ hl h'=>h'.to (by rw[hl];exact hk)) dO hs hw fun w cs=>by simp[bD,stepG.exec]⟩
    |seq a b=>
     simp only[qN,codeOk,mg]at jy;exact⟨0,_,wI (fun _ hl h'=>h'.to (k:=.code a:: .code b::k) (by rw[hl];exact(oU jy.1<|oU jy.2 hk))) dO hs hw fun w cs=>by simp[bD,stepG.exec]⟩
    |block id b=>exact⟨0,_,wI (fun _ hl h'=>h'.to (k:=.code b:: .inBlock id::k) (by rw[hl];exact(oU jy<|oU rfl hk))) dO hs hw fun w cs=>by simp[bD,stepG.exec]⟩
    |loop b=>exact⟨0,_,wI (fun _ hl h'=>h'.to (k:=.code b:: .inLoop b::k) (by rw[hl];exact(oU jy<|oU jy hk))) dO hs hw fun w cs=>by simp[bD,stepG.exec]⟩
    |scope b=>exact⟨0,_,wI (fun _ hl h'=>h'.to (k:=.code b:: .inScope b::k) (by rw[hl];exact(oU jy<|oU jy hk))) dO hs hw fun w cs=>by simp[bD,stepG.exec]⟩
    |cond c a b=>
     simp only[qN,codeOk,mg]at jy;by_cases hc:∃t,Frame.eval ⟨fn,tmps,.code (.cond c a b)::k,[],.run,.normal,af⟩ c=aB t
     ·obtain⟨t,ht⟩:=hc;have og:∀x∈Item.code (if t then a else b)::k,qN P B.let_ x=true:=by
       intro x hx;rcases jR.1 hx with rfl|hx
       ·cases t
        ·exact jy.2
        ·exact jy.1
       ·exact hk x hx
      exact⟨0,_,wI (fun _ hl h'=>h'.to (k:=.code (if t then a else b)::k) (by rw[hl];exact og)) dO hs hw fun w cs=>by simp[bD,stepG.exec,ht]⟩
     ·refine⟨0,_,Xe (.stuck "cond: bool expected"<|Frame.pos P ⟨fn,tmps,.code (.cond c a b)::k,[],.run,.normal,af⟩) fun w cs=>?_⟩;simp only[bD,stepG.exec];split
      ·rename_i ht;exact absurd ⟨_,ht⟩ hc
      ·rfl
    |exit id=>
     cases he:exitTo id k with
     |some k'=>exact⟨0,_,wI (fun _ hl h'=>h'.to (by rw[hl];exact(abP hk he))) dO hs hw fun w cs=>by simp[bD,stepG.exec,he]⟩
     |none=>exact⟨0,_,Xe _ fun w cs=>by simp[bD,stepG.exec,he];rfl⟩
    |goto l=>
     cases he:gotoIn l k with
     |some k'=>exact⟨0,_,wI (fun _ hl h'=>h'.to (by rw[hl];exact(abR hk he))) dO hs hw fun w cs=>by simp[bD,stepG.exec,he]⟩
     |none=>exact⟨0,_,Xe _ fun w cs=>by simp[bD,stepG.exec,he];rfl⟩
    |rangeFunc _ _ _ _=>simp[qN,codeOk]at jy
    |ret=>exact⟨0,_,wI (fr':=⟨fn,tmps,.code .ret::k,[],.returning,.normal,af⟩) (fun _ _ h'=>⟨h'.fn,h'.tmps,h'.todo,rfl,.inr rfl,rfl,rfl⟩) dO hs hw fun w cs=>by simp[bD,stepG.exec]⟩
    |refuse s=>exact⟨0,_,Xe _ fun w cs=>by simp[bD,stepG.exec];rfl⟩
    |region id ops draw=>
     cases draw with
     |false=>exact⟨0,_,wI (fun _ hl h'=>h'.to (k:=bQ ops (List.range ops.size)::k) (by rw[hl];exact(oU jy hk))) dO hs hw fun w cs=>by simp[bD,stepG.exec]⟩
     |true=>
      let t0:=Question.cut (.order fn id)<|w.tape w.drawn<|.order fn id
      refine⟨1,.next ⟨fn,tmps,bQ ops (Region.schedule (P.follows .mixedOrders) ops t0)::k,[],.run,.normal,af⟩ fs w #[],fun t d ha cs=>?_,fun B' _ hl g1 g2 g3 _=>⟨g1.to (by rw[hl];exact oU jy hk),g2,g3⟩,.inl rfl,dO.to<|oU jy hk,hs,hw,dm _,rfl,rfl,by simp⟩;have h0:=ha 0 (by omega);simp only[KW]at h0;simp only[bD,stepG.exec,Oh,kP,kQ,choose,Sem.run,Question.forced,TS.nD];simp only[re,h0];rfl
   |_=>simp[qN]at jy
 ·obtain rfl:mode=.returning:=hm;cases fs with
  |nil=>rcases hb with hb|hb<;>simp at hb
  |cons c fs=>
   obtain⟨fn',h1⟩:=h.fn;obtain⟨n,r,gs,h5,h6⟩:=(Js L.toFit (fn:=fn') h.tmps).Jr hw;have oL:=abN h5;have EC:P.funcs[fn]? =ae fn':=h1;cases r with
   |ok v w'=>
    obtain⟨hn,uU,eH,UU,zo,dS⟩:=h6;refine⟨n,.next (c.finish v) fs w'<|seen P fn gs,fun t d ha cs=>?_,fun B' L' hl g1 g2 g3 g4=>(let ⟨k1,k2⟩:=(Js L'.toFit (fn:=fn') g1.tmps).DY g3 oL g4;⟨(g2 c<|by simp).finish k1,fun f hf=>g2 f<|by simp[hf],k2⟩),.inr<|.inr ⟨c,rfl⟩,(hs c<|by simp).finish hn,fun f hf=>hs f<|by simp[hf],uU,eH,UU,zo,fun e he=>dS e<|aEJ he⟩;simp only[bD,unwind,EC,h5 t d ha #[],Result.re,doReturn,nP,GStep.after,TS.nD,uC,uB]
   |halt x w'=>
    cases x with
    |stuck z=>
     refine⟨n,.ended (.stuck z<|Frame.pos P ⟨fn,tmps,todo,[],.returning,.normal,af⟩) w'<|seen P fn gs,fun t d ha cs=>?_,fun _ _ _ _ _ _=>trivial,trivial,trivial⟩;simp only[bD,unwind,EC,h5 t d ha #[],Result.re,GStep.after,TS.nD,uC,uB]
    |panic z=>
     refine⟨n,.ended (.stuck "return: the result variables cannot be read"<|Frame.pos P ⟨fn,tmps,todo,[],.returning,.normal,af⟩) w'<|seen P fn gs,fun t d ha cs=>?_,fun _ _ _ _ _ _=>trivial,trivial,trivial⟩;simp only[bD,unwind,EC,h5 t d ha #[],Result.re,GStep.after,TS.nD,uC,uB]
    |unsupported u=>
     refine⟨n,.ended (.stuck "return: the result variables cannot be read"<|Frame.pos P ⟨fn,tmps,todo,[],.returning,.normal,af⟩) w'<|seen P fn gs,fun t d ha cs=>?_,fun _ _ _ _ _ _=>trivial,trivial,trivial⟩;simp only[bD,unwind,EC,h5 t d ha #[],Result.re,GStep.after,TS.nD,uC,uB]
    |_=>exact h6.elim
end au
end
section
namespace au
open Go Go.Conc
variable{B:cO}{P:eF}
inductive Ends(B:cO)(P:eF)(Q:bu->aj->Prop):bu->List bu->aj->Prop where
 |stop {fr:bu} {w:aj} (hq:Q fr w):Ends B P Q fr [] w
 |step {fr:bu} {fs:List bu} {w:aj} (hb:Ho fr fs) (n:Nat->Nat) (fr':Nat->bu) (lJ:Nat->List bu) (w':Nat->aj) (es:Nat->Array Event)
   (hs:∀d,yN B P fr fs (re w w.tape d) (n d)<|.next (fr' d) (lJ d) (w' d)<|es d) (h:∀d,Ends B P Q (fr' d) (lJ d)<|re (w' d) w.tape<|d+n d):Ends B P Q fr fs w
def wall(P:eF):Frame:={fn:=P.funcs.size,tmps:=#[],todo:=[.call {target:=.nil,args:=#[]} false "fmt's door, shut" #[]],defers:=[],mode:=.run,kind:=.normal}
def ari(chain:List PanicEntry):((wall P).raise chain).catches P=true:=by
 simp[Frame.catches,wall,Frame.raise]
variable{w:aj}{fr:bu}{i j:Nat}
def arj{chain:List PanicEntry}:∃o,step P (lone ((wall P).raise chain) [] w)=.ended o w:=by
 refine⟨_,aEY (o:=.unsupported (.noEntry "a panic or Goexit out of a method that fmt calls behind a cut's door")<|((wall P).raise chain).pos P) ?_⟩;have h:=ari (P:=P) chain;simp only[bD,Frame.raise,wall]at h⊢
 simp[unwind,h,GStep.bare]
def ark{v:az}:∃o,step P (lone ((wall P).finish v) [] w)=.ended o w:=by
 have h:Extern.next "fmt's door, shut" =none:=by
  have:(Extern.next "fmt's door, shut").isNone=true:=by decide
  simpa using this
 refine⟨_,aEY (o:=.stuck ("no extern row " ++ "fmt's door, shut")<|((wall P).finish v).pos P) ?_⟩;simp[bD,stepG.exec,wall,Frame.finish,h,GStep.bare]
def runN_ended{m:Machine}{o:Outcome}(h:step P m=.ended o w)(n:Nat)(m':Machine):runN P (n+1) m≠.next m':=by
 simp[runN,h]
def fO.raise(h:fO B P fr)(chain:List PanicEntry):fr.raise chain={fr with mode:=.panicking chain}:=by
 rcases h.mode with hm|hm<;>simp[Frame.raise,hm]
def ahH(L:oC B P):∀(n:Nat) {fr:bu} {chain:List PanicEntry} {fs:List bu} {w:aj} {fr':bu} {w':aj},(∃fn,P.funcs[fr.fn]? =ae fn)->fr.mode=.panicking chain->fr.defers=[]->(∀f∈fs,fO B P f)->(∀ch,fr'.mode≠.panicking ch)->runN P n (lone fr (fs++[wall P]) w)≠.next (lone fr' [wall P] w')
 |0,fr,chain,fs,w,fr',w',_,hm,_,_,hr=>by
  intro h;simp only[runN,aEB,lone,aEV,afl,VX,aEb]at h;exact hr chain<|by rw[<-h.2.1.1.1,hm]
 |n+1,fr,chain,fs,w,fr',w',hf,hm,hd,hs,hr=>by
  obtain⟨fn,h1⟩:=hf;have hc:fr.catches P=false:=by simp[Frame.catches,h1]
  intro h;cases fs with
  |cons c fs=>
   have di:step P (lone fr (c::fs++[wall P]) w)=.next (lone (c.raise chain) (fs++[wall P]) w):=aEZ (by simp[bD,unwind,hm,hd,hc,GStep.bare]);simp only[runN,di]at h;have abT:=hs c (by simp);rw[abT.raise]at h;exact ahH L n (fr:={c with mode:=.panicking chain}) (fs:=fs) (chain:=chain) abT.fn rfl abT.defers (fun f hf=>hs f<|VO _ hf) hr h
  |nil=>
   have di:step P (lone fr ([]++[wall P]) w)=.next (lone ((wall P).raise chain) [] w):=aEZ (by simp[bD,unwind,hm,hd,hc,GStep.bare]);simp only[runN,di]at h;cases n with
   |zero=>
    simp only[runN,aEB,lone,aEV,afl,VX,aEb]at h;exact absurd h.2.1.1.2.1<|by simp
   |succ n=>
    obtain⟨o,ho⟩:=arj (P:=P) (chain:=chain) (w:=w);exact runN_ended ho n _ h
def passed(L:oC B P)(h:fO B P fr)(hm:fr.mode=.returning)(hw:OkW B w)(n:Nat){fr':bu}{w':aj}:runN P (n+1) (lone fr [wall P] w)≠.next (lone fr' [wall P] w'):=by
 obtain⟨fn,h1⟩:=h.fn;obtain⟨k,r,gs,h5,h6⟩:=(Js L.toFit (fn:=fn) h.tmps).Jr hw;have yl:=h5 w.tape w.drawn (fun i _=>rfl) #[];rw[ag3]at yl;intro hr;cases r with
 |ok v w1=>
  have di:step P (lone fr [wall P] w)=.next (lone ((wall P).finish v) []<|re w1 w.tape<|w.drawn+k):=aEZ (by simp only[bD,unwind,hm,h.defers,h1,yl,Result.re,doReturn,h.kind,GStep.after,GStep.bare]);simp only[runN,di]at hr;cases n with
  |zero=>
   simp only[runN,aEB,lone,aEV,afl,VX,aEb]at hr;exact absurd hr.2.1.1.2.1<|by simp
  |succ n=>
   obtain⟨o,ho⟩:=ark (P:=P) (v:=v) (w:=re w1 w.tape<|w.drawn+k);exact runN_ended ho n _ hr
 |halt x w1=>
  have di:∃o w2,step P (lone fr [wall P] w)=.ended o w2:=by
   cases x<;>exact⟨_,_,aEY (by simp only[bD,unwind,hm,h.defers,h1,yl,Result.re,GStep.after,GStep.bare];rfl)⟩
  obtain⟨o,w2,ho⟩:=di;exact runN_ended ho n _ hr
def from_(n:Nat->Nat):Nat->Nat
 |0=>0
 |k+1=>from_ n k+n k
def ahI(n:Nat->Nat)(h:i<=j):from_ n i<=from_ n j:=by
 induction h with
 |refl=>exact dm _
 |step _ ih=>exact eG ih<|VW _ _
def arl{n:Nat->Nat}{x:Nat}(hi:from_ n i<=x/\x<from_ n i+n i)(hj:from_ n j<=x/\x<from_ n j+n j):i=j:=by
 rcases Nat.lt_trichotomy i j with h|h|h
 ·have:=ahI n<|show i+1<=j from h;simp only[from_]at this;omega
 ·exact h
 ·have:=ahI n<|show j+1<=i from h;simp only[from_]at this;omega
open Classical in
noncomputable def abU(t:Nat->Question->Nat)(n d:Nat->Nat)(x:Nat):Question->Nat:=
 if h:∃k,from_ n k<=x/\x<from_ n k+n k then t (d h.choose+(x-from_ n h.choose))else fun _=>0
def arn{t:Nat->Question->Nat}{n d:Nat->Nat}{k i:Nat}(hi:i<n k):abU t n d (from_ n k+i)=t (d k+i):=by
 have h:∃k',from_ n k'<=from_ n k+i/\from_ n k+i<from_ n k'+n k':=⟨k,by omega,by omega⟩;have hk:h.choose=k:=arl h.choose_spec ⟨by omega,by omega⟩;unfold abU;rw[dif_pos h,hk];congr 1;omega
structure St where
 fr:bu
 fs:List bu
 w:aj
structure LJ(B:cO)(P:eF)(Q:bu->aj->Prop)(t:Nat->Question->Nat)(x:St):Prop where
 fr:fO B P x.fr
 fs:∀f∈x.fs,fO B P f
 w:OkW B x.w
 tape:x.w.tape=t
 not:¬Ends B P Q x.fr x.fs x.w
variable{Q:bu->aj->Prop}
def LJ.next(L:oC B P){t:Nat->Question->Nat}{x:St}(h:LJ B P Q t x)(hb:Ho x.fr x.fs):
 ∃d n T,yN B P x.fr x.fs (re x.w t d) n T/\∀fr' lJ w' es,T=.next fr' lJ w' es->LJ B P Q t ⟨fr',lJ,re w' t<|d+n⟩:=by
 apply Jb;intro qI;refine h.not ?_;have jF:∀d,∃n fr' lJ w' es,yN B P x.fr x.fs (re x.w x.w.tape d) n (.next fr' lJ w' es)/\Ends B P Q fr' lJ (re w' x.w.tape<|d+n):=by
  intro d;obtain⟨n,T,hT⟩:=stp L h.fr h.fs (h.w.re t d) hb;apply Jb;intro hd;refine qI ⟨d,n,T,hT,?_⟩;rintro fr' lJ w' es rfl;obtain⟨g1,g2,g3,_⟩:=hT.A7;refine⟨g1,g2,g3.re _ _,rfl,fun he=>hd ⟨n,fr',lJ,w',es,?_,?_⟩⟩
  ·rw[h.tape];exact hT
  ·rw[h.tape];exact he
 have azp:∀d,∃p:Nat×bu×List bu×aj×Array Event,yN B P x.fr x.fs (re x.w x.w.tape d) p.1 (.next p.2.1 p.2.2.1 p.2.2.2.1 p.2.2.2.2)/\Ends B P Q p.2.1 p.2.2.1 (re p.2.2.2.1 x.w.tape<|d+p.1):=by
  intro d;obtain⟨n,fr',lJ,w',es,h1,h2⟩:=jF d;exact⟨(n,fr',lJ,w',es),h1,h2⟩
 obtain⟨f,hf⟩:=QL azp;exact .step hb (fun d=>(f d).1) (fun d=>(f d).2.1) (fun d=>(f d).2.2.1) (fun d=>(f d).2.2.2.1) (fun d=>(f d).2.2.2.2) (fun d=>(hf d).1) fun d=>(hf d).2
def ahJ(L:oC B P)(hQ:∀fr w t d,Q fr w->Q fr (re w t d)){fr:bu}{fs:List bu}{w:aj}(hf:fO B P fr)(UW:∀f∈fs,fO B P f)(hw:OkW B w)
 (hl:∀t d,∃k fr' w',runN P k (lone fr (fs++[wall P])<|re w t d)=.next (lone fr' [wall P] w')/\(∀ch,fr'.mode≠.panicking ch)/\Q fr' w'):Ends B P Q fr fs w:=by
 apply Jb;intro dh;have og:LJ B P Q w.tape ⟨fr,fs,w⟩:=⟨hf,UW,hw,rfl,dh⟩;have hch:∀x:{x:St//LJ B P Q w.tape x},∃p:Nat×Nat×TS×{x:St//LJ B P Q w.tape x},Ho x.1.fr x.1.fs->yN B P x.1.fr x.1.fs (re x.1.w w.tape p.1) p.2.1 p.2.2.1/\∀fr' lJ w' es,p.2.2.1=.next fr' lJ w' es->p.2.2.2.1=⟨fr',lJ,re w' w.tape<|p.1+p.2.1⟩:=by
  intro x;by_cases hb:Ho x.1.fr x.1.fs
  ·obtain⟨d,n,T,hT,hn⟩:=x.2.next L hb;cases T with
   |next fr' lJ w' es=>exact⟨(d,n,.next fr' lJ w' es,⟨⟨fr',lJ,re w' w.tape<|d+n⟩,hn _ _ _ _ rfl⟩),fun _=>⟨hT,fun _ _ _ _ he=>by cases he;rfl⟩⟩
   |panic a b c e g=>exact⟨(d,n,.panic a b c e g,x),fun _=>⟨hT,fun _ _ _ _ he=>by cases he⟩⟩
   |ended a b c=>exact⟨(d,n,.ended a b c,x),fun _=>⟨hT,fun _ _ _ _ he=>by cases he⟩⟩
  ·exact⟨(0,0,.ended (.stuck "" "") w #[],x),fun h=>absurd h hb⟩
 obtain⟨f,UX⟩:=QL hch;let x:Nat->{x:St//LJ B P Q w.tape x}:=fun k=>Nat.rec ⟨_,og⟩ (fun _ y=>(f y).2.2.2) k
 have BC:∀k,x (k+1)=(f<|x k).2.2.2:=fun k=>rfl;let n:Nat->Nat:=fun k=>(f<|x k).2.1
 let d:Nat->Nat:=fun k=>(f<|x k).1
 let t0:=abU w.tape n d
 let KC:Nat->Prop:=fun j=>Ho (x j).1.fr (x j).1.fs/\∃a b c e,(f<|x j).2.2.1=.next a b c e
 have di:∀k,Ho (x k).1.fr (x k).1.fs->∀cs,bD P true {frame:=(x k).1.fr,callers:=(x k).1.fs++cs,status:=.running,dying:=af} (re (x k).1.w t0<|from_ n k)=(f<|x k).2.2.1.nD t0 (from_ n<|k+1) cs:=by
  intro k hb cs;exact((UX<|x k) hb).1.eq t0 (from_ n k) (fun i hi=>arn hi) cs
 have gU:∀k,(∀j,j<k->KC j)->runN P k (lone fr (fs++[wall P])<|re w t0 0)=.next (lone (x k).1.fr ((x k).1.fs++[wall P])<|re (x k).1.w t0<|from_ n k):=by
  intro k;induction k with
  |zero=>intro _;rfl
  |succ k ih=>
   intro hk;obtain⟨hb,a,b,c,e,hT⟩:=hk k (by omega);have h1:=ih fun j hj=>hk j (by omega);have h2:=di k hb [wall P];rw[hT]at h2;have h3:=((UX<|x k) hb).2 a b c e hT;rw[runN_add,h1];have h4:step P (lone (x k).1.fr ((x k).1.fs++[wall P])<|re (x k).1.w t0<|from_ n k)=.next (lone a (b++[wall P])<|re c t0<|from_ n<|k+1):=aEZ (by rw[h2];rfl);simp only[runN,h4];rw[BC,h3];rfl
 obtain⟨K,fr',w',hK,hm,hq⟩:=hl t0 0;by_cases jF:∀j,j<K->KC j
 ·rw[gU K jF]at hK;simp only[aEB,lone,aEV,afl,VX,aEb]at hK;obtain⟨h1,⟨⟨h2,h3,_⟩,_⟩,_⟩:=hK;have h3':(x K).1.fs=[]:=by simpa using h3
  have alJ:=(x K).2.not;rw[h3']at alJ;refine alJ<|.stop ?_;rw[h2];have:=hQ _ _ (x K).1.w.tape (x K).1.w.drawn<|h1▸hq;exact this
 ·have hex:∃j,j<K/\¬KC j/\∀i,i<j->KC i:=by
   have:∀m,(∃j,j<m/\¬KC j)->∃j,j<m/\¬KC j/\∀i,i<j->KC i:=by
    intro m;induction m with
    |zero=>rintro⟨j,hj,_⟩;omega
    |succ m ih=>
     intro⟨j,hj,hn⟩;by_cases h:∃j,j<m/\¬KC j
     ·obtain⟨i,hi,h'⟩:=ih h;exact⟨i,by omega,h'⟩
     ·have Dk:j=m:=by
       apply Jb;intro dh;exact h ⟨j,by omega,hn⟩
      subst Dk;exact⟨j,by omega,hn,fun i hi=>Jb fun hni=>h ⟨i,hi,hni⟩⟩
   refine this K ?_;apply Jb;intro qI;exact jF fun j hj=>Jb fun hna=>qI ⟨j,hj,hna⟩
  obtain⟨j,hj,hna,azr⟩:=hex;have rW:=gU j azr;obtain⟨m,rfl⟩:∃m,K=j+(m+1):=⟨K-j-1,by omega⟩;rw[runN_add,rW]at hK;simp only at hK;have Af:=(x j).2;by_cases hb:Ho (x j).1.fr (x j).1.fs
  ·have h2:=di j hb [wall P];cases hT:(f<|x j).2.2.1 with
   |next a b c e=>exact hna ⟨hb,a,b,c,e,hT⟩
   |ended o w1 es=>
    rw[hT]at h2;exact runN_ended (aEY (by rw[h2];rfl)) m _ hK
   |panic a ch b w1 es=>
    rw[hT]at h2;have hg:=((UX<|x j) hb).1.A7;rw[hT]at hg;have h4:step P (lone (x j).1.fr ((x j).1.fs++[wall P])<|re (x j).1.w t0<|from_ n j)=.next (lone (a.raise ch) (b++[wall P])<|re w1 t0<|from_ n<|j+1):=aEZ (by rw[h2];rfl);simp only[runN,h4]at hK;rw[hg.1.raise]at hK;exact ahH L m (fr:={a with mode:=.panicking ch}) hg.1.fn rfl hg.1.defers hg.2 hm hK
  ·have iT:(x j).1.fs=[]/\(x j).1.fr.mode=.returning:=by
    refine⟨Jb fun h=>hb<|.inr h,?_⟩;rcases Af.fr.mode with h|h
    ·exact absurd (.inl h) hb
    ·exact h
   rw[iT.1]at hK;exact passed L Af.fr iT.2 (Af.w.re _ _) m hK
end au
end
section
namespace au
open Go Go.Conc
open Go.ConcN (sumTo upd sumTo_upd upd_ne upd_same)
variable{B:cO}{P:eF}
def tV(B:cO):Loc->Prop
 | .cell a=>B.wg a.block/\B.bZ a.block
 | .obj r=>B.wg r/\B.bZ r
 |_=>False
def LM{n:Nat}{e:Event}(h:Fg B n e):EvL (tV B) n e:=by
 obtain⟨loc,wr,sy⟩:=e;cases loc with
 |cell a=>
  refine⟨fun x hx hs=>?_,by simp,by simp,h.2⟩;have:x.loc=.cell a:=by
   simp only[MemAct.ofEvent,MemAct.touch?]at hx;cases hx;rfl
  rw[this]at hs;exact absurd hs.2 h.1
 |obj r=>
  cases wr<;>cases sy;case true.true=>exact⟨fun x hx=>by simp[MemAct.ofEvent,MemAct.touch?]at hx,by simp,by simp,h.2⟩
  all_goals
   refine⟨fun x hx hs=>?_,by simp,by simp,h.2⟩
   have:x.loc=.obj r:=by
    simp only[MemAct.ofEvent,MemAct.touch?]at hx;cases hx;rfl
   rw[this]at hs
   exact absurd hs.2 h.1
 |mark m=>
  obtain rfl:m=.noRoom:=h;exact⟨fun x hx=>by simp[MemAct.ofEvent,MemAct.touch?]at hx,by simp,by simp,trivial⟩
 |output=>
  refine⟨fun x hx hs=>?_,by simp,by simp,?_⟩
  ·have:x.loc=.output:=by
    simp only[MemAct.ofEvent,MemAct.touch?]at hx;cases hx;rfl
   rw[this]at hs;exact hs.elim
  ·cases wr<;>cases sy<;>trivial
 |_=>exact h.elim
def fO.mono{B B':cO}(hs:∀b,B.bZ b->B'.bZ b)(hl:B'.let_=B.let_){fr:bu}(h:fO B' P fr):fO B P fr:=
 ⟨h.fn,fun v hv=>(h.tmps v hv).mono hs hl,hl▸h.todo,h.defers,h.mode,h.kind,h.round⟩
abbrev Cm(B:cO)(P:eF):Prop:=∀n,5<=n->oC (B.cut n) P
structure zM(B:cO)(P:eF)(gs:Array bF)(w:aj)(t:Trace)(q:Nat->Nat)(fr:bu)(cs:List bu):Prop where
 own:gs[0]? =ae {frame:=fr,callers:=cs,status:=.running,dying:=af}
 OV:Leavers P t gs q
 Jt:Past (tV B) w.heap.size t
 ok:oQ B w
def Reach(B:cO)(P:eF)(fr:bu)(cs:List bu)(w:aj)(Q:cO->bu->aj->Prop)(cs':List bu):Prop:=
 ∀gs sl t q,zM B P gs w t q fr cs->∃N B' gs' fr' w' sl' t' q',runNT P N (crowd gs w sl) t=(.next<|crowd gs' w' sl',t')/\zM B' P gs' w' t' q' fr' cs'/\Q B' fr' w'
structure On(w w':aj):Prop where
 tape:w'.tape=w.tape
 size:w.heap.size<=w'.heap.size
 os:w'.os=w.os
 output:w'.output=w.output
def On.refl(w:aj):On w w:=⟨rfl,dm _,rfl,rfl⟩
def On.trans{a b c:aj}(h:On a b)(k:On b c):On a c:=⟨k.tape.trans h.tape,eG h.size k.size,k.os.trans h.os,k.output.trans h.output⟩
def aro(C:Cm B P){Q:bu->aj->Prop}{fr:bu}{fs:List bu}{w:aj}(h:Ends B P Q fr fs w)(cs:List bu)(hf:fO (B.cut w.heap.size) P fr)(UW:∀f∈fs,fO (B.cut w.heap.size) P f):
 Reach B P fr (fs++cs) w (fun B' fr' w'=>B'=B/\fO (B.cut w'.heap.size) P fr'/\Q fr' w'/\On w w') cs:=by
 induction h with
 |stop hq=>exact fun gs sl t q hh=>⟨0,B,gs,_,_,sl,t,q,rfl,hh,rfl,hf,hq,On.refl _⟩
 |step hb n fr' lJ w' es hs h ih=>
  rename_i fr fs w;have one:∀(M:Nat),(∀(d1:Nat) gs sl t q,sumTo gs.size q<M->zM B P gs (w.at d1) t q fr (fs++cs)->∃N B' gs' fr' w' sl' t' q',runNT P N (crowd gs (w.at d1) sl) t=(.next<|crowd gs' w' sl',t')/\zM B' P gs' w' t' q' fr' cs/\B'=B/\fO (B.cut w'.heap.size) P fr'/\Q fr' w'/\On w w')->
   ∀(d0:Nat) gs sl t q,sumTo gs.size q<=M->zM B P gs (w.at d0) t q fr (fs++cs)->∃N B' gs' fr' w' sl' t' q',runNT P N (crowd gs (w.at d0) sl) t=(.next<|crowd gs' w' sl',t')/\zM B' P gs' w' t' q' fr' cs/\B'=B/\fO (B.cut w'.heap.size) P fr'/\Q fr' w'/\On w w':=by
   intro M UY d0 gs sl t q hM hh;obtain⟨h0,hL,hP,bP⟩:=hh;have UZ:∀g∈gs,awake g:=by
    intro g hg;obtain⟨i,hi,rfl⟩:=GI.1 hg;rcases Jc i with rfl|o8
    ·have:gs[0]=({frame:=fr,callers:=fs++cs,status:=.running,dying:=af}:bF):=by simpa[GG hi]using h0
     rw[this];exact aEs<|.inl rfl
    ·exact aEs<|(hL.old i _ o8<|GG hi).status.elim .inl fun x=>.inr<|.inr x
   obtain⟨i,g,d,sl',hi,hg,di⟩:=aFf (P:=P) (w:=w.at d0) (sl:=sl) UZ ⟨0,_,h0,rfl⟩;have wJ:(w.at d0).at d=w.at d:=rfl;rw[wJ]at di;rcases Jc i with rfl|o8
   ·have xq:g=({frame:=fr,callers:=fs++cs,status:=.running,dying:=af}:bF):=by rw[h0]at hi;exact(qX hi).symm
    subst xq;have jG:=(hs d).eq w.tape d (fun i _=>rfl) cs;have hgo:bD P true {frame:=fr,callers:=fs++cs,status:=.running,dying:=af} (w.at d)=.go {frame:=fr' d,callers:=lJ d++cs,status:=.running,dying:=af} (re (w' d) w.tape<|d+n d) (es d):=jG;obtain⟨g1,g2,g3,g4,g5,g6,g7⟩:=(hs d).A7;have EL:w.heap.size<=(w' d).heap.size:=g4;have yl:5<=(w' d).heap.size:=eG bP.mG EL;obtain⟨k1,k2,k3⟩:=(hs d).tight (B.cut (w' d).heap.size) (C _ yl) rfl (hf.mono (OU EL) rfl) (fun f hx=>(UW f hx).mono (OU EL) rfl) (RS (w:=w) bP.obj EL) fun b hb=>Or.imp (fun z=>(bP.low b z).2) id hb;have EM:=aEm (P:=P) (sl:=sl') (i:=0) hi<|show bD P (0==0) _ (w.at d)=_ from hgo;have aI:0<gs.size:=(jk.1 h0).1;obtain⟨N,B2,ni,lD,w2,l9,t2,q2,hr,BF,k0,m1,m3,m4⟩:=ih d k1 k2 ((gs.map<|woken P {frame:=fr,callers:=fs++cs,status:=.running,dying:=af} {frame:=fr' d,callers:=lJ d++cs,status:=.running,dying:=af}<|re (w' d) w.tape<|d+n d).setIfInBounds 0 {frame:=fr' d,callers:=lJ d++cs,status:=.running,dying:=af}) sl' (t++MemOp.ofEvents 0 fr.fn fr.place (es d)) q
     ⟨by simp[aI],⟨fun j x hj hx=>by
         have dh:0≠j:=by omega
         rw[iw dh,xG]at hx;obtain⟨y,hy,rfl⟩:=zC.1 hx;have hq:=hL.old j y hj hy;rw[aEC hq,aEr t (by omega) _ (fun op aO=>by obtain⟨e,_,rfl⟩:=aDZ aO;rfl)];exact hq,fun j hj=>by
         rw[aEr t (g':=0) (by simp at hj;omega) _ (fun op aO=>by obtain⟨e,_,rfl⟩:=aDZ aO;rfl)];exact hL.above j<|by simpa using hj⟩,
      (hP.mono (B':=(w' d).heap.size) g4).own (fun e he=>LM<|g7 e he),(oQ.of (w:=w) ⟨bP.obj,bP.low,bP.mG⟩ EL k3).re _ _⟩
    refine⟨N+1,B2,ni,lD,w2,l9,t2,q2,?_,BF,k0,m1,m3,On.trans (b:=re (w' d) w.tape<|d+n d) ⟨rfl,g4,g5,g6⟩ m4⟩;simp only[runNT,di,EM];exact hr
   ·have hq:=hL.old i g o8 hi;have dR:(i==0)=false:=by simp<;>omega
    have aI:i<gs.size:=(jk.1 hi).1;cases uV:q i with
    |zero=>rw[uV]at hq;rw[hq.1]at hg;cases hg
    |succ k=>
     rw[uV]at hq;rcases hq with⟨EK,_⟩|⟨_,g',U0,hm,Nw,sQ⟩
     ·rw[EK]at hg;cases hg
     have EM:=aEm (P:=P) (sl:=sl') (i:=i) hi (by rw[dR];exact Nw<|w.at d);have eH:((gs.map<|woken P g g'<|w.at d).setIfInBounds i g').size=gs.size:=by simp
     have alK:sumTo gs.size (upd q i k)+(k+1)=sumTo gs.size q+k:=by
      have:=sumTo_upd q k id aI;simpa[uV]using this
     obtain⟨N,B2,ni,lD,w2,l9,t2,q2,hr,BF,Dp⟩:=UY d ((gs.map<|woken P g g'<|w.at d).setIfInBounds i g') sl' (t++MemOp.ofEvents i g.frame.fn g.frame.place U0) (upd q i k) (by rw[eH];omega)
      ⟨by
       have dh:i≠0:=by omega
       rw[iw dh,xG,h0];simp[aFj],⟨fun j x hj hx=>by
       by_cases lW:i=j
       ·subst lW;rw[tq<|by simpa using aI]at hx;obtain rfl:=qX hx;rw[aD5,aEM];exact sQ
       ·rw[iw lW,xG]at hx;obtain⟨y,hy,rfl⟩:=zC.1 hx;have KD:=hL.old j y hj hy;rw[aEC KD,aD8 q k<|iW lW,aEr t lW _ (fun op aO=>by obtain⟨e,_,rfl⟩:=aDZ aO;rfl)];exact KD,fun j hj=>by
       rw[aEr t (g':=i) (by simp at hj;omega) _ (fun op aO=>by obtain⟨e,_,rfl⟩:=aDZ aO;rfl)];exact hL.above j<|by simpa using hj⟩,hP.mute (by omega) hm,⟨bP.obj,bP.low,bP.mG⟩⟩
     refine⟨N+1,B2,ni,lD,w2,l9,t2,q2,?_,BF,Dp⟩;simp only[runNT,di,EM];exact hr
  have main:∀(M d0:Nat) gs sl t q,sumTo gs.size q<=M->zM B P gs (w.at d0) t q fr (fs++cs)->∃N B' gs' fr' w' sl' t' q',runNT P N (crowd gs (w.at d0) sl) t=(.next<|crowd gs' w' sl',t')/\zM B' P gs' w' t' q' fr' cs/\B'=B/\fO (B.cut w'.heap.size) P fr'/\Q fr' w'/\On w w':=by
   intro M;induction M with
   |zero=>
    intro d0 gs sl t q hM hh;exact one 0 (fun d1 gs1 kM t1 q1 aI _=>absurd aI<|by omega) d0 gs sl t q hM hh
   |succ M RV=>
    intro d0 gs sl t q hM hh;exact one (M+1) (fun d1 gs1 kM t1 q1 aI h1=>RV d1 gs1 kM t1 q1 (by omega) h1) d0 gs sl t q hM hh
  exact fun gs sl t q hh=>main _ w.drawn gs sl t q (dm _) hh
end au
end
section
namespace au
open Go Go.Conc
open Go.ConcN (sumTo upd sumTo_upd upd_ne upd_same)
variable{B:cO}{P:eF}
def Xf{m m' m'':Machine}{t t' t'':Trace}:∀{N K:Nat},runNT P N m t=(.next m',t')->runNT P K m' t'=(.next m'',t'')->runNT P (N+K) m t=(.next m'',t'')
 |0,K,h,k=>by
  simp only[runNT,uD,aEB]at h;obtain⟨rfl,rfl⟩:=h;simpa using k
 |N+1,K,h,k=>by
  rw[show N+1+K=(N+K)+1 by omega];simp only[runNT]at h⊢
  split
  ·rename_i m1 ops hs;rw[hs]at h;exact Xf h k
  ·rename_i e ops dh hs;rw[hs]at h;cases e with
   |next m1=>exact absurd rfl<|dh m1
   |ended o w=>simp at h
variable{fr:bu}{cs Ny:List bu}{w:aj}{Q Q':cO->bu->aj->Prop}{f:FuncId}{args:Array az}
def Reach.trans{cs2:List bu}(h:Reach B P fr cs w Q Ny)(h':∀B' fr' w',Q B' fr' w'->Reach B' P fr' Ny w' Q' cs2):Reach B P fr cs w Q' cs2:=by
 intro gs sl t q hh;obtain⟨N,B1,gs1,sJ,w1,kM,t1,q1,hr,UT,hq⟩:=h gs sl t q hh;obtain⟨K,B2,ni,lD,w2,l9,t2,q2,hr2,BF,EF⟩:=h' B1 sJ w1 hq gs1 kM t1 q1 UT;exact⟨N+K,B2,ni,lD,w2,l9,t2,q2,Xf hr hr2,BF,EF⟩
def Reach.mono(h:Reach B P fr cs w Q Ny)(h':∀B' fr' w',Q B' fr' w'->Q' B' fr' w'):Reach B P fr cs w Q' Ny:=by
 intro gs sl t q hh;obtain⟨N,B1,gs1,sJ,w1,kM,t1,q1,hr,UT,hq⟩:=h gs sl t q hh;exact⟨N,B1,gs1,sJ,w1,kM,t1,q1,hr,UT,h' _ _ _ hq⟩
def Reach.here(h:oQ B w->Q B fr w):Reach B P fr cs w Q cs:=
 fun gs sl t q hh=>⟨0,B,gs,fr,w,sl,t,q,rfl,hh,h hh.ok⟩
def Reach.ok{fr:bu}{cs Ny:List bu}{w:aj}{Q:cO->bu->aj->Prop}(h:oQ B w->Reach B P fr cs w Q Ny):Reach B P fr cs w Q Ny:=fun gs sl t q hh=>h hh.ok gs sl t q hh
def Reach.step{fr:bu}{cs cs2:List bu}{w:aj}{Q:cO->bu->aj->Prop}
 (h:∀d,∃fr' cs' w' es,bD P true {frame:=fr,callers:=cs,status:=.running,dying:=af} (w.at d)=.go {frame:=fr',callers:=cs',status:=.running,dying:=af} w' es/\oQ B w'/\w.heap.size<=w'.heap.size/\(∀e∈es,EvL (tV B) w'.heap.size e)/\Reach B P fr' cs' w' Q cs2):Reach B P fr cs w Q cs2:=by
 have one:∀(M:Nat),(∀(d1:Nat) gs sl t q,sumTo gs.size q<M->zM B P gs (w.at d1) t q fr cs->∃N B' gs' fr' w' sl' t' q',runNT P N (crowd gs (w.at d1) sl) t=(.next<|crowd gs' w' sl',t')/\zM B' P gs' w' t' q' fr' cs2/\Q B' fr' w')->
  ∀(d0:Nat) gs sl t q,sumTo gs.size q<=M->zM B P gs (w.at d0) t q fr cs->∃N B' gs' fr' w' sl' t' q',runNT P N (crowd gs (w.at d0) sl) t=(.next<|crowd gs' w' sl',t')/\zM B' P gs' w' t' q' fr' cs2/\Q B' fr' w':=by
  intro M UY d0 gs sl t q hM hh;obtain⟨h0,hL,hP,bP⟩:=hh;have UZ:∀g∈gs,awake g:=by
   intro g hg;obtain⟨i,hi,rfl⟩:=GI.1 hg;rcases Jc i with rfl|o8
   ·have:gs[0]=({frame:=fr,callers:=cs,status:=.running,dying:=af}:bF):=by simpa[GG hi]using h0
    rw[this];exact aEs<|.inl rfl
   ·exact aEs<|(hL.old i _ o8<|GG hi).status.elim .inl fun x=>.inr<|.inr x
  obtain⟨i,g,d,sl',hi,hg,di⟩:=aFf (P:=P) (w:=w.at d0) (sl:=sl) UZ ⟨0,_,h0,rfl⟩;have wJ:(w.at d0).at d=w.at d:=rfl;rw[wJ]at di;rcases Jc i with rfl|o8
  ·have xq:g=({frame:=fr,callers:=cs,status:=.running,dying:=af}:bF):=by rw[h0]at hi;exact(qX hi).symm
   subst xq;obtain⟨fr',cs',w',es,hgo,g3,g4,g7,ih⟩:=h d;have EM:=aEm (P:=P) (sl:=sl') (i:=0) hi<|show bD P (0==0) _ (w.at d)=_ from hgo;have aI:0<gs.size:=(jk.1 h0).1;obtain⟨N,B2,ni,lD,w2,l9,t2,q2,hr,BF,k0⟩:=ih ((gs.map<|woken P {frame:=fr,callers:=cs,status:=.running,dying:=af} {frame:=fr',callers:=cs',status:=.running,dying:=af} w').setIfInBounds 0 {frame:=fr',callers:=cs',status:=.running,dying:=af}) sl' (t++MemOp.ofEvents 0 fr.fn fr.place es) q
    ⟨by simp[aI],⟨fun j x hj hx=>by
        have dh:0≠j:=by omega
        rw[iw dh,xG]at hx;obtain⟨y,hy,rfl⟩:=zC.1 hx;have hq:=hL.old j y hj hy;rw[aEC hq,aEr t (by omega) _ (fun op aO=>by obtain⟨e,_,rfl⟩:=aDZ aO;rfl)];exact hq,fun j hj=>by
        rw[aEr t (g':=0) (by simp at hj;omega) _ (fun op aO=>by obtain⟨e,_,rfl⟩:=aDZ aO;rfl)];exact hL.above j<|by simpa using hj⟩,
     (hP.mono (B':=w'.heap.size) g4).own g7,g3⟩
   refine⟨N+1,B2,ni,lD,w2,l9,t2,q2,?_,BF,k0⟩;simp only[runNT,di,EM];exact hr
  ·have hq:=hL.old i g o8 hi;have dR:(i==0)=false:=by simp<;>omega
   have aI:i<gs.size:=(jk.1 hi).1;cases uV:q i with
   |zero=>rw[uV]at hq;rw[hq.1]at hg;cases hg
   |succ k=>
    rw[uV]at hq;rcases hq with⟨EK,_⟩|⟨_,g',U0,hm,Nw,sQ⟩
    ·rw[EK]at hg;cases hg
    have EM:=aEm (P:=P) (sl:=sl') (i:=i) hi (by rw[dR];exact Nw<|w.at d);have eH:((gs.map<|woken P g g'<|w.at d).setIfInBounds i g').size=gs.size:=by simp
    have alK:sumTo gs.size (upd q i k)+(k+1)=sumTo gs.size q+k:=by
     have:=sumTo_upd q k id aI;simpa[uV]using this
    obtain⟨N,B2,ni,lD,w2,l9,t2,q2,hr,BF,Dp⟩:=UY d ((gs.map<|woken P g g'<|w.at d).setIfInBounds i g') sl' (t++MemOp.ofEvents i g.frame.fn g.frame.place U0) (upd q i k) (by rw[eH];omega)
     ⟨by
      have dh:i≠0:=by omega
      rw[iw dh,xG,h0];simp[aFj],⟨fun j x hj hx=>by
      by_cases lW:i=j
      ·subst lW;rw[tq<|by simpa using aI]at hx;obtain rfl:=qX hx;rw[aD5,aEM];exact sQ
      ·rw[iw lW,xG]at hx;obtain⟨y,hy,rfl⟩:=zC.1 hx;have KD:=hL.old j y hj hy;rw[aEC KD,aD8 q k<|iW lW,aEr t lW _ (fun op aO=>by obtain⟨e,_,rfl⟩:=aDZ aO;rfl)];exact KD,fun j hj=>by
      rw[aEr t (g':=i) (by simp at hj;omega) _ (fun op aO=>by obtain⟨e,_,rfl⟩:=aDZ aO;rfl)];exact hL.above j<|by simpa using hj⟩,hP.mute (by omega) hm,⟨bP.obj,bP.low,bP.mG⟩⟩
    refine⟨N+1,B2,ni,lD,w2,l9,t2,q2,?_,BF,Dp⟩;simp only[runNT,di,EM];exact hr
 have main:∀(M d0:Nat) gs sl t q,sumTo gs.size q<=M->zM B P gs (w.at d0) t q fr cs->∃N B' gs' fr' w' sl' t' q',runNT P N (crowd gs (w.at d0) sl) t=(.next<|crowd gs' w' sl',t')/\zM B' P gs' w' t' q' fr' cs2/\Q B' fr' w':=by
  intro M;induction M with
  |zero=>
   intro d0 gs sl t q hM hh;exact one 0 (fun d1 gs1 kM t1 q1 aI _=>absurd aI<|by omega) d0 gs sl t q hM hh
  |succ M RV=>
   intro d0 gs sl t q hM hh;exact one (M+1) (fun d1 gs1 kM t1 q1 aI h1=>RV d1 gs1 kM t1 q1 (by omega) h1) d0 gs sl t q hM hh
 exact fun gs sl t q hh=>main _ w.drawn gs sl t q (dm _) hh
def tX(B:cO)(P:eF)(f:FuncId)(args:Array az)(w:aj)(post:cO->az->aj->Prop):Prop:=
 ∀c cs,Reach B P (Frame.enter P f args .normal) (c::cs) w (fun B' fr' w'=>∃v,fr'=c.finish v/\post B' v w') cs
def tX.mono{post alN:cO->az->aj->Prop}(h:tX B P f args w post)(hp:∀B' v w',post B' v w'->alN B' v w'):tX B P f args w alN:=
 fun c cs=>(h c cs).mono fun B' _ w' ⟨v,h1,h2⟩=>⟨v,h1,hp B' v w' h2⟩
def ahK{α:Type}{s:Sem α}{n:Nat}{r:Result α}{gs:Array Event}(h:abv P s w n r gs)(t:Nat->Question->Nat)(d:Nat)(hd:∀i,i<n->t (d+i)=w.tape (w.drawn+i)):s.run P (re w t d)=r.re t (d+n):=by
 have:=h t d hd #[];rw[<-aFs P s (re w t d) #[],this]
def ahL(L:oC B P)(C:Cm B P){R:(Nat->Question->Nat)->Nat->Ending->aj->Prop}(hf:B.let_ f=true)(ha:bT (B.cut w.heap.size) args)
 (hc:∀t d,aU P f args (re w t d)<|R t d)(ho:∀t d e w',R t d e w'->∃v,e=aT v):
 tX B P f args w (fun B' v w'=>B'=B/\aG (B.cut w'.heap.size) v/\On w w'/\∃t d t' k,R t d (aT v)<|re w' t' k):=by
 intro c cs;refine Reach.ok fun hw=>?_;have ahM:=fO.enter (C _ hw.mG) (B:=B.cut w.heap.size) hf ha;have dO:fO B P (Frame.enter P f args .normal):=ahM.mono (B:=B) (B':=B.cut w.heap.size) (fun _ z=>Or.inl z) rfl;obtain⟨fn,b,qy,_⟩:=L.fn hf;have hE:=ahJ (B:=B) (P:=P) L (Q:=fun fr w'=>fr.mode=.returning/\fr.fn=f/\∃v,(∃t d t' k,R t d (aT v)<|re w' t' k)/\∃t k,(results fn fr.tmps).run P (re w' t k)=.ok v (re w' t k))
  (fun fr w' t d h=>h) (fs:=[]) dO (by simp) hw.okW (by
    intro t d;obtain⟨e,w',fr,hR,Bz,Nz,hlv⟩:=hc t d [wall P];obtain⟨v,rfl⟩:=ho _ _ _ _ hR;obtain⟨k,hk⟩:=Bz;obtain⟨hm,_,_,fn2,jP,zq⟩:=hlv;have:fn2=fn:=by rw[Nz,qy]at jP;exact(qX jP).symm
    subst this;exact⟨k,fr,w',hk,by rw[hm];simp,hm,Nz,v,⟨t,d,w'.tape,w'.drawn,hR⟩,w'.tape,w'.drawn,zq⟩)
 refine(aro C hE (c::cs) ahM<|by simp).trans ?_;rintro B' fr' w' ⟨rfl,yu,⟨hm,Nz,v,hR,t,k,zq⟩,oM⟩;refine Reach.ok fun uU=>Reach.step fun d=>?_;have hvT:=((Js (C _ uU.mG).toFit (fn:=fn) yu.tmps).DY (w:=re w' t k) uU.obj zq fun b _=>E5 b _).1;have arq:fO B' P fr':=yu.mono (B:=B') (B':=B'.cut w'.heap.size) (fun _ z=>Or.inl z) rfl;obtain⟨n,r,gs,h1,h2⟩:=(Js (B:=B') (P:=P) L.toFit (fn:=fn) arq.tmps).Jr<|uU.okW.re t k;have oL:=ahK h1 t k fun i _=>rfl;rw[WQ]at oL;rw[zq]at oL;cases r with
 |halt x w1=>simp[Result.re]at oL
 |ok v1 w1=>
  simp only[Result.re,aEL]at oL;obtain⟨rfl,wJ⟩:=oL;have hn:n=0:=by
   have:=fG World.drawn wJ;simp only[re]at this;omega
  subst hn;have abW:re w1 w'.tape d=w'.at d:=by
   have e1:=fG World.heap wJ;have e2:=fG World.os wJ;have e3:=fG World.output wJ;simp only[re]at e1 e2 e3;unfold re;show _=({w' with drawn:=d}:aj);rw[<-e1,<-e2,<-e3]
  have di:=h1 w'.tape d (fun i hi=>absurd hi<|by omega) #[];rw[WQ]at di;simp only[Result.re,KW,abW]at di;obtain⟨hv,_,_,_,_,dS⟩:=h2;have eH:w1.heap.size=w'.heap.size:=by
   have e1:=fG World.heap wJ;simp only[re]at e1;rw[e1]
  refine⟨c.finish v,cs,w'.at d,seen P fr'.fn gs,?_,⟨uU.obj,uU.low,uU.mG⟩,dm _,?_,Reach.here fun _=>⟨v,rfl,rfl,hvT,⟨oM.tape,oM.size,oM.os,oM.output⟩,hR⟩⟩
  ·have Gj:(results fn fr'.tmps).runT P (w'.at d) #[]=(.ok v<|w'.at d,#[]++gs):=di;have azs:P.funcs[fr'.fn]? =ae fn:=by rw[Nz];exact qy
   simp only[bD,unwind,hm,yu.defers,azs,Gj,doReturn,yu.kind,GStep.after,uC,uB]
  ·intro e he;have:=dS e<|aEJ he;rw[eH]at this;exact LM this
end au
end
section
namespace au
open Go Go.Conc
variable{B:cO}{P:eF}
def more(k:List Item)(fr:bu):Frame:={fr with todo:=fr.todo++k}
def k0:List Item:=[.code<|.refuse ""]
variable{fr:bu}{k:List Item}{w w1:aj}
def Ju(h:sH fr)(k:List Item)(v:az):(more k fr).finish v=more k (fr.finish v):=by
 obtain⟨fn,tmps,todo,defers,mode,kind,round⟩:=fr;obtain⟨ops,i,r,k1,rfl⟩:=h;simp[more,Frame.finish]
def Xg{id:Nat}:∀{l l':List Item},exitTo id l=ae l'->exitTo id (l++k)=ae (l'++k)
 |[],_,h=>by simp[exitTo]at h
 |x::l,l',h=>by
  cases x with
  |inBlock Zw=>
   simp only[exitTo,nP]at h⊢
   split at h
   ·cases h;rw[if_pos ‹_›]
   ·rw[if_neg ‹_›];exact Xg h
  |_=>
   simp only[exitTo,nP]at h⊢
   exact Xg h
def abX{id:Nat}:∀{l:List Item},exitTo id l=af->exitTo id (l++k0)=af
 |[],_=>by simp[k0,exitTo]
 |x::l,h=>by
  cases x with
  |inBlock Zw=>
   simp only[exitTo,nP]at h⊢
   split at h
   ·cases h
   ·rw[if_neg ‹_›];exact abX h
  |_=>
   simp only[exitTo,nP]at h⊢
   exact abX h
def Xh{id:Nat}:∀{l l':List Item},gotoIn id l=ae l'->gotoIn id (l++k)=ae (l'++k)
 |[],_,h=>by simp[gotoIn]at h
 |x::l,l',h=>by
  cases x with
  |inScope c=>
   simp only[gotoIn,nP]at h⊢
   split at h
   ·cases h;rfl
   ·exact Xh h
  |_=>
   simp only[gotoIn,nP]at h⊢
   exact Xh h
def abY{id:Nat}:∀{l:List Item},gotoIn id l=af->gotoIn id (l++k0)=af
 |[],_=>by simp[k0,gotoIn]
 |x::l,h=>by
  cases x with
  |inScope c=>
   simp only[gotoIn,nP]at h⊢
   split at h
   ·cases h
   ·exact abY h
  |_=>
   simp only[gotoIn,nP]at h⊢
   exact abY h
def Xi{t:Nat->Question->Nat}{d d1:Nat}(h:re w t d=re w1 t d1)(t':Nat->Question->Nat)(d':Nat):re w t' d'=re w1 t' d':=by
 have e1:=fG World.heap h;have e2:=fG World.os h;have e3:=fG World.output h;simp only[re]at e1 e2 e3;unfold re;rw[e1,e2,e3]
def LP{sJ:bu}{zN:List bu}{Ai:Array Event}{n:Nat}{C:Prop}(hS:yN B P (more k0 fr) [] w n (.next sJ zN w1 Ai))
 (he:∃o w',bD P true {frame:=more k0 fr,callers:=[],status:=.running,dying:=af} (re w w.tape w.drawn)=.ended o w' #[]):C:=by
 have h:=hS.eq w.tape w.drawn (fun i _=>rfl) [];obtain⟨o,w',he⟩:=he;simp only[xH]at h;rw[he]at h;simp[TS.nD]at h
def fO.less(h:fO B P (more k fr)):fO B P fr:=
 ⟨h.fn,h.tmps,fun it hi=>h.todo it<|KT _ hi,h.defers,h.mode,h.kind,h.round⟩
def Sw(k:List Item)(fr:bu)(fs:List bu)(fr':bu)(lJ:List bu):Prop:=
 (∃f,fs=[]/\lJ=[]/\fr=more k0 f/\fr'=more k f)\/∃f gs,fr'=fr/\fs=gs++[more k0 f]/\lJ=gs++[more k f]/\sH f
end au
end
section
namespace au
open Go Go.Conc
variable{B:cO}{P:eF}
def DZ:Code->Bool
 | .ret=>false
 | .seq a b=>DZ a&&DZ b
 | .cond _ a b=>DZ a&&DZ b
 | .block _ a=>DZ a
 | .loop a=>DZ a
 | .scope _=>false
 | .goto _=>false
 |_=>true
def CB(z:Bool)(c:Code):Prop:=z=true->DZ c=true
inductive qO(z:Bool)(S:Code):Code->Code->Prop
 |cut {s:String} (c:Code):qO z S (.refuse s) c
 |stop:qO z S .ret S
 |same (c:Code) (h:CB z c):qO z S c c
 |seq {a b a' b':Code}:qO z S a a'->qO z S b b'->qO z S (.seq a b) (.seq a' b')
 |cond {x:Operand} {a b a' b':Code}:qO z S a a'->qO z S b b'->qO z S (.cond x a b) (.cond x a' b')
 |block {id:Nat} {a a':Code}:qO z S a a'->qO z S (.block id a) (.block id a')
 |loop {a a':Code}:qO z S a a'->qO z S (.loop a) (.loop a')
def Xj(z:Bool):Item->Prop
 | .code c=>CB z c
 | .inLoop c=>CB z c
 | .inScope _=>z=false
 |_=>True
variable{z:Bool}
theorem CB.off(h:z=false)(c:Code):CB z c:=fun e=>by rw[h]at e;cases e
theorem Xj.off(h:z=false)(it:Item):Xj z it:=by
 cases it<;>first|exact CB.off h _|exact h|trivial
theorem CB.two{a b c:Code}(h:CB z c)(e:DZ c=(DZ a&&DZ b)):CB z a/\CB z b:=by
 refine⟨fun hz=>?_,fun hz=>?_⟩<;>(have:=h hz;rw[e,mg]at this)
 ·exact this.1
 ·exact this.2
theorem CB.bad{z:Bool}{c:Code}(h:CB z c)(e:DZ c=false):z=false:=by
 cases z with
 |false=>rfl
 |true=>rw[h rfl]at e;cases e
inductive OW(z:Bool)(S:Code):Item->Item->Prop
 |code {a b:Code}:qO z S a b->OW z S (.code a) (.code b)
 |loop {a b:Code}:qO z S a b->OW z S (.inLoop a) (.inLoop b)
 |same (it:Item) (h:∀c,it≠.code c) (hr:Xj z it):OW z S it it
theorem OW.refl{z:Bool}{S:Code}(it:Item)(hr:Xj z it):OW z S it it:=by
 by_cases h:∃c,it=.code c
 ·obtain⟨c,rfl⟩:=h;exact .code<|.same c hr
 ·exact .same it (fun c e=>h ⟨c,e⟩) hr
inductive rF(z:Bool)(S:Code):List Item->List Item->Prop
 |nil:rF z S [] []
 |cons {a b:Item} {l m:List Item}:OW z S a b->rF z S l m->rF z S (a::l) (b::m)
theorem abZ{id:Nat}:∀{m x:List Item},exitTo id m=ae x->∀y∈x,y∈m
 |[],x,h=>by simp[exitTo]at h
 |a::m,x,h=>by
  cases a with
  |inBlock Zw=>
   simp only[exitTo]at h;split at h
   ·cases h;exact fun y hy=>VO _ hy
   ·exact fun y hy=>VO _<|abZ h y hy
  |_=>
   simp only[exitTo]at h;exact fun y hy=>VO _<|abZ h y hy
variable{S a b c c':Code}{t:Array az}{i d n:Nat}{D q r:List Nat}{x:Operand}{fn:FuncId}{ops:Array Oper}{fr sJ f Hq:bu}{l m m' k:List Item}{zN fs OX cs cs2:List bu}{w w1:aj}{Ai:Array Event}{Q:cO->bu->aj->Prop}
theorem RX{id:Nat}:∀{l m l':List Item},rF z S l m->exitTo id l=ae l'->∃m',exitTo id m=ae m'/\rF z S l' m'
 |[],_,_,.nil,h=>by simp[exitTo]at h
 |x::l,_::m,l',.cons hx ht,h=>by
  cases hx with
  |code=>
   simp only[exitTo]at h⊢
   exact RX ht h
  |loop=>
   simp only[exitTo]at h⊢
   exact RX ht h
  |same it _ hr=>
   cases x with
   |inBlock Zw=>
    simp only[exitTo]at h⊢
    split at h
    ·cases h;exact⟨m,by rw[if_pos ‹_›],ht⟩
    ·rw[if_neg ‹_›];exact RX ht h
   |_=>
    simp only[exitTo]at h⊢
    exact RX ht h
theorem RY{id:Nat}:∀{l m l':List Item},rF z S l m->gotoIn id l=ae l'->∃m',gotoIn id m=ae m'/\rF z S l' m'
 |[],_,_,.nil,h=>by simp[gotoIn]at h
 |x::l,_::m,l',.cons hx ht,h=>by
  cases hx with
  |code=>
   simp only[gotoIn]at h⊢
   exact RY ht h
  |loop=>
   simp only[gotoIn]at h⊢
   exact RY ht h
  |same it _ hr=>
   cases x with
   |inScope c=>
    simp only[gotoIn]at h⊢
    split at h
    ·rename_i c' zl;cases h;exact⟨_,rfl,.cons (.refl _<|.off hr _)<|.cons (.refl _<|.off hr _) ht⟩
    ·exact RY ht h
   |_=>
    simp only[gotoIn]at h⊢
    exact RY ht h
def jA:List (Nat×az)->Array az->Array az
 |[],t=>t
 |x::r,t=>(jA r t).setIfInBounds x.1 x.2
def uJ(D:List Nat):Operand->Bool
 | .tmp n=>!D.contains n
 |_=>true
def OY(D:List Nat):Op->Bool
 | .move x| .assign x| .load _ x| .box _ x| .nilCheck x| .unOp _ _ x| .fieldAddr _ x _| .extract x _=>uJ D x
 | .binOp _ _ x y _| .indexAddr _ x y| .store _ x y=>uJ D x&&uJ D y
 | .alloc _=>true
 | .slice _ x a b c=>uJ D x&&a.all (uJ D)&&b.all (uJ D)&&c.all (uJ D)
 | .pick x y z=>uJ D x&&uJ D y&&uJ D z
 | .call c=>(match c.callee with| .value f=>uJ D f| .builtin _=>true|_=>false)&&c.args.all (uJ D)
 |_=>false
def Jv(D:List Nat)(o:Oper):Bool:=OY D o.op&&(match o.dst with|some d=>!D.contains d|none=>true)
def pK(D:List Nat):Code->Bool
 | .seq a b=>pK D a&&pK D b
 | .cond x a b=>uJ D x&&pK D a&&pK D b
 | .block _ a=>pK D a
 | .loop a=>pK D a
 | .region _ ops _=>ops.all<|Jv D
 | .skip| .ret| .exit _| .refuse _| .label _=>true
 |_=>false
def xP(D:List Nat):Item->Bool
 | .code c=>pK D c
 | .inLoop c=>pK D c
 | bQ ops _=>ops.all<|Jv D
 | .inBlock _=>true
 |_=>false
def mJ(D:List Nat)(it:Item):Prop:=D=[]\/xP D it=true
def jL(ov:List (Nat×az)):List Nat:=ov.map Prod.fst
theorem ab1:∀{ov:List (Nat×az)},(jL ov).contains i=false->(jA ov t)[i]? =t[i]?
 |[],_=>rfl
 |x::r,h=>by
  simp only[jL,uF,List.contains_cons,Bool.or_eq_false_iff,beq_eq_false_iff_ne]at h;simp only[jA];rw[iw<|iW h.1];exact ab1 h.2
theorem ahN{v:az}:∀{ov:List (Nat×az)},(jL ov).contains d=false->jA ov (t.setIfInBounds d v)=(jA ov t).setIfInBounds d v
 |[],_=>rfl
 |x::r,h=>by
  simp only[jL,uF,List.contains_cons,Bool.or_eq_false_iff,beq_eq_false_iff_ne]at h;simp only[jA];rw[ahN h.2,ae8 _ _ h.1]
theorem mJ.two{a b c:Item}(h:mJ D c)(e:xP D c=true->xP D a=true/\xP D b=true):mJ D a/\mJ D b:=by
 rcases h with h|h
 ·exact⟨.inl h,.inl h⟩
 ·exact⟨.inr (e h).1,.inr (e h).2⟩
theorem mJ.one{a c:Item}(h:mJ D c)(e:xP D c=true->xP D a=true):mJ D a:=h.imp id e
theorem Xk:xP D (.code<|.seq a b)=true->xP D (.code a)=true/\xP D (.code b)=true:=fun h=>by
 simpa[xP,pK]using h
theorem Xl:xP D (.code<|.cond x a b)=true->xP D (.code a)=true/\xP D (.code b)=true:=fun h=>by
 simp only[xP,pK,mg]at h;exact⟨h.1.2,h.2⟩
theorem ahO{ov:List (Nat×az)}{a b:List Item}(h:uJ (jL ov) x=true):Frame.eval ⟨fn,jA ov t,a,[],.run,.normal,af⟩ x=Frame.eval ⟨fn,t,b,[],.run,.normal,af⟩ x:=by
 cases x with
 |tmp n=>
  have:(jA ov t)[n]? =t[n]? :=ab1 (by simpa[uJ]using h);simp[Frame.eval,this]
 |_=>rfl
variable{ov:List (Nat×az)}
theorem ab2(h:jL ov=[]):ov=[]:=by
 cases ov with
 |nil=>rfl
 |cons x r=>simp[jL]at h
theorem ahP{a b:List Item}(h:jL ov=[]\/uJ (jL ov) x=true):Frame.eval ⟨fn,jA ov t,a,[],.run,.normal,af⟩ x=Frame.eval ⟨fn,t,b,[],.run,.normal,af⟩ x:=by
 rcases h with h|h
 ·rw[ab2 h];cases x<;>rfl
 ·exact ahO h
theorem ahQ(h:mJ (jL ov) (.code<|.cond x a b)):jL ov=[]\/uJ (jL ov) x=true:=h.imp id fun h=>by
 simp only[xP,pK,mg]at h;exact h.1.1
theorem ahR(h:mJ (jL ov) (bQ ops q)):yielded ops (jA ov t)=yielded ops t:=by
 rcases h with h|h
 ·rw[ab2 h];rfl
 ·funext j;unfold yielded;cases ho:ops[j]? with
  |none=>rfl
  |some o=>
   obtain⟨hi,rfl⟩:=jk.1 ho;have:=(GL.1<|show ops.all (Jv<|jL ov)=true from h) j hi;simp only[Jv,mg]at this;cases hd:ops[j].dst with
   |none=>simp[hd]
   |some d=>
    rw[hd]at this;have hg:(jA ov t)[d]? =t[d]? :=ab1 (by simpa using this.2);simp[hd,hg]
theorem ars{ρ ρ':Operand->az}{o:Oper}(h:OY D o.op=true)(he:∀x,uJ D x=true->ρ' x=ρ x):dP ρ' o=dP ρ o:=by
 unfold dP;cases ho:o.op with
 |move x|assign x|load t x|box t x|nilCheck x|unOp u t x|fieldAddr t x f|extract x i=>
  rw[ho]at h;simp only[he x h]
 |alloc=>rfl
 |slice t x a b c=>
  rw[ho]at h;simp only[OY,mg]at h;have hm:∀u:Option Operand,u.all (uJ D)=true->u.map ρ'=u.map ρ:=fun u hu=>by
   cases u with
   |none=>rfl
   |some z=>exact fG ae<|he z hu
  simp only[he x h.1.1.1,hm a h.1.1.2,hm b h.1.2,hm c h.2]
 |binOp p t x y t'|indexAddr t x y|store t x y=>
  rw[ho]at h;simp only[OY,mg]at h;simp only[he x h.1,he y h.2]
 |pick x y u=>
  rw[ho]at h;simp only[OY,mg]at h;simp only[he x h.1.1,he y h.1.2,he u h.2]
 |call c=>
  rw[ho]at h;simp only[OY,mg]at h;have ha:c.args.map ρ'=c.args.map ρ:=amZ fun x hx=>he x<|amR.1 h.2 x hx;obtain⟨callee,args,lK⟩:=c;cases callee with
  |value f=>simp only[resolve,he f h.1,show args.map ρ'=args.map ρ from ha]
  |builtin b=>simp only[resolve,show args.map ρ'=args.map ρ from ha]
  |invoke r n=>cases h.1
 |_=>rw[ho]at h;first|cases h|done
def put(ov:List (Nat×az))(fr:bu)(l:List Item):Frame:={fr with todo:=l,tmps:=jA ov fr.tmps}
def Xm(ov:List (Nat×az))(z:Bool)(S:Code)(P:eF)(fr:bu)(l:List Item)(w:aj)(n:Nat)(sJ:bu)(zN:List bu)(w1:aj)(Ai:Array Event):Prop:=
 (∃lD l2,zN=[]/\sJ=more k0 lD/\rF z S lD.todo l2/\(z=true->lD.mode=.run)/\(∀it∈lD.todo,mJ (jL ov) it)/\∀k cs t d,abS n w t d->bD P true {frame:=more k<|put ov fr l,callers:=cs,status:=.running,dying:=af} (re w t d)=.go {frame:=more k<|put ov lD l2,callers:=cs,status:=.running,dying:=af} (re w1 t<|d+n) Ai)\/
 (zN=[more k0 fr]/\sH fr/\∀k cs t d,abS n w t d->bD P true {frame:=more k<|put ov fr l,callers:=cs,status:=.running,dying:=af} (re w t d)=.go {frame:=sJ,callers:=more k (put ov fr l)::cs,status:=.running,dying:=af} (re w1 t<|d+n) Ai)
theorem ahS{lD:bu}{l2:List Item}(hS:yN B P (more k0 fr) [] w n (.next sJ zN w1 Ai))(hc:rF z S lD.todo l2)(hz:z=true->lD.mode=.run)(ED:∀it∈lD.todo,mJ (jL ov) it)
 (h0:∀w cs,bD P true {frame:=more k0 fr,callers:=cs,status:=.running,dying:=af} w=.go {frame:=more k0 lD,callers:=cs,status:=.running,dying:=af} w #[])
 (he:∀k w cs,bD P true {frame:=more k<|put ov fr l,callers:=cs,status:=.running,dying:=af} w=.go {frame:=more k<|put ov lD l2,callers:=cs,status:=.running,dying:=af} w #[]):Xm ov z S P fr l w n sJ zN w1 Ai:=by
 have h:=hS.eq w.tape w.drawn (fun i _=>rfl) [];simp only[h0,TS.nD,ql,aEj,aEb]at h;obtain⟨⟨h1,h2,_⟩,h3,h4⟩:=h;have hn:n=0:=by
  have:=fG World.drawn h3;simp only[re]at this;omega
 subst hn;refine .inl ⟨lD,l2,h2.symm,h1.symm,hc,hz,ED,fun k cs t d _=>?_⟩;rw[he,<-h4,Xi h3 t d];rfl
theorem art(h:mJ (jL ov) (bQ ops q))(hd:(ops[i]?).bind (·.dst)=ae d):(jL ov).contains d=false:=by
 rcases h with h|h
 ·rw[h];rfl
 ·cases ho:ops[i]? with
  |none=>rw[ho]at hd;cases hd
  |some o=>
   rw[ho]at hd;obtain⟨hi,rfl⟩:=jk.1 ho;have:=(GL.1<|show ops.all (Jv<|jL ov)=true from h) i hi;have IM:ops[i].dst=ae d:=hd;simp only[Jv,IM,mg,Bool.not_eq_true']at this;exact this.2
theorem aru(ht:fr.todo=bQ ops (i::r)::m)(hM:mJ (jL ov) (bQ ops<|i::r))(v:az):(put ov fr<|bQ ops (i::r)::m').finish v=put ov (fr.finish v) (bQ ops r::m'):=by
 obtain⟨fn,tmps,todo,defers,mode,kind,round⟩:=fr;obtain rfl:todo=_:=ht;simp only[put,Frame.finish];cases hd:(ops[i]?).bind (·.dst)with
 |none=>simp
 |some d=>simp[ahN<|art hM hd]
theorem ab3(ht:fr.todo=bQ ops (i::r)::m)(hm:rF z S m m')(hM:mJ (jL ov) (bQ ops<|i::r))(v:az):(put ov fr<|bQ ops (i::r)::m').finish v=put ov (fr.finish v) (bQ ops r::m')/\rF z S (fr.finish v).todo (bQ ops r::m'):=by
 refine⟨aru ht hM v,?_⟩;obtain⟨fn,tmps,todo,defers,mode,kind,round⟩:=fr;obtain rfl:todo=_:=ht;simp only[Frame.finish];exact .cons (.refl _ trivial) hm
theorem Xn(ht:fr.todo=bQ ops (i::r)::m)(hM:∀it∈fr.todo,mJ D it)(v:az):∀it∈(fr.finish v).todo,mJ D it:=by
 obtain⟨fn,tmps,todo,defers,mode,kind,round⟩:=fr;obtain rfl:todo=_:=ht;intro it jy;simp only[Frame.finish,jR]at jy;rcases jy with rfl|jy
 ·exact(hM (bQ ops<|i::r)<|by simp).one id
 ·exact hM it<|by simp[jy]
theorem arv{s:Sem Next}(hS:yN B P (more k0 fr) [] w n (.next sJ zN w1 Ai))(ht:fr.todo=bQ ops (i::r)::m)(hl:l=bQ ops (i::r)::m')(hm:rF z S m m')(h:fO B P fr)(vF:∀it∈fr.todo,mJ (jL ov) it)(hz:∀v,z=true->(fr.finish v).mode=.run)(hw:OkW B w)(hc:Clean B P (Fp B) s)
 (eq0:∀w cs,bD P true {frame:=more k0 fr,callers:=cs,status:=.running,dying:=af} w=stepG.apply P true (more k0 fr) cs af s w)
 (eq:∀k w cs,bD P true {frame:=more k<|put ov fr l,callers:=cs,status:=.running,dying:=af} w=stepG.apply P true (more k<|put ov fr l) cs af s w):Xm ov z S P fr l w n sJ zN w1 Ai:=by
 have vY:sH fr:=⟨_,_,_,_,ht⟩;have Zy:sH (put ov fr l):=⟨ops,i,r,m',hl⟩;obtain⟨n',rr,gs,h1,h2⟩:=hc.Jr hw;have OZ:((more k0 fr).kind== .early)=false:=by
  show(fr.kind== .early)=false;rw[h.kind];rfl
 have xm:∀k,((more k<|put ov fr l).kind== .early)=false:=fun k=>by
  show(fr.kind== .early)=false;rw[h.kind];rfl
 have Zz:mJ (jL ov) (bQ ops<|i::r):=vF _ (by rw[ht];simp);have zt:∀v,(put ov fr l).finish v=put ov (fr.finish v) (bQ ops r::m')/\rF z S (fr.finish v).todo (bQ ops r::m'):=fun v=>by
  rw[hl];exact ab3 ht hm Zz v
 have o9:=hS.eq w.tape w.drawn (fun i _=>rfl) [];rw[xH,eq0]at o9;cases rr with
 |ok nx w'=>
  cases nx with
  |value v=>
   unfold stepG.apply at o9;simp only[if_true,h1 w.tape w.drawn (fun i _=>rfl) #[],Result.re,OZ,kP,kQ,GStep.after,TS.nD,uC,uB,ql,aEj,aEb]at o9;obtain⟨⟨k1,k2,_⟩,k3,k4⟩:=o9;have hn:n'=n:=by
    have:=fG World.drawn k3;simp only[re]at this;omega
   subst hn;refine .inl ⟨fr.finish v,_,k2.symm,by rw[<-Ju vY];exact k1.symm,(zt v).2,hz v,Xn ht vF v,fun k cs t d ha=>?_⟩;rw[eq];unfold stepG.apply;simp only[if_true,h1 t d ha #[],Result.re,xm,kP,kQ,GStep.after,uC,uB];rw[Ju Zy,(zt v).1,Xi k3 t<|d+n',<-k4];rfl
  |skip=>
   unfold stepG.apply at o9;simp only[if_true,h1 w.tape w.drawn (fun i _=>rfl) #[],Result.re,OZ,kP,kQ,GStep.after,TS.nD,uC,uB,ql,aEj,aEb]at o9;obtain⟨⟨k1,k2,_⟩,k3,k4⟩:=o9;have hn:n'=n:=by
    have:=fG World.drawn k3;simp only[re]at this;omega
   subst hn;refine .inl ⟨fr.finish ai,_,k2.symm,by rw[<-Ju vY];exact k1.symm,(zt ai).2,hz ai,Xn ht vF ai,fun k cs t d ha=>?_⟩;rw[eq];unfold stepG.apply;simp only[if_true,h1 t d ha #[],Result.re,xm,kP,kQ,GStep.after,uC,uB];rw[Ju Zy,(zt ai).1,Xi k3 t<|d+n',<-k4];rfl
  |enter f args=>
   unfold stepG.apply at o9;simp only[if_true,h1 w.tape w.drawn (fun i _=>rfl) #[],Result.re,OZ,kP,kQ,GStep.after,TS.nD,uC,uB,ql,aEj,aEb]at o9;obtain⟨⟨k1,k2,_⟩,k3,k4⟩:=o9;have hn:n'=n:=by
    have:=fG World.drawn k3;simp only[re]at this;omega
   subst hn;refine .inr ⟨k2.symm,vY,fun k cs t d ha=>?_⟩;rw[eq];unfold stepG.apply;simp only[if_true,h1 t d ha #[],Result.re,xm,kP,kQ,GStep.after,uC,uB];have vV:(more k<|put ov fr l).todo=bQ ops (i::r)::(m'++k):=by simp[more,put,hl]
   have EF:(more k0 fr).todo=bQ ops (i::r)::(m++k0):=by simp[more,ht]
   rw[Xi k3 t<|d+n',<-k4,<-k1];simp only[vV,EF];rfl
  |_=>exact h2.1.elim
 |halt x w'=>
  have ZA:=hS.A7.1.mode;unfold stepG.apply at o9;cases x with
  |panic z=>
   simp only[if_true,h1 w.tape w.drawn (fun i _=>rfl) #[],Result.re,OZ,kP,kQ,GStep.after,TS.nD,uC,uB,ql,aEj,aEb]at o9;obtain⟨⟨k1,_⟩,_⟩:=o9;rw[<-k1]at ZA;have hm:(more k0 fr).mode=fr.mode:=rfl;rcases h.mode with Dv|Dv<;>simp[Frame.raise,hm,Dv]at ZA
  |stuck z=>
   simp only[if_true,h1 w.tape w.drawn (fun i _=>rfl) #[],Result.re,OZ,kP,kQ,GStep.after,TS.nD]at o9;cases o9
  |unsupported u=>
   cases u<;>first
    |exact h2.elim
    |(simp only[if_true,h1 w.tape w.drawn (fun i _=>rfl) #[],Result.re,OZ,kP,kQ,GStep.after,TS.nD]at o9
      cases o9)
  |_=>exact h2.elim
theorem arx(L:oC B P)(hS:yN B P (more k0 fr) [] w n (.next sJ zN w1 Ai))(hcut:rF z S fr.todo l)(hns:∀m m',fr.todo=.code .ret::m->l=.code S::m'->S=.ret)(IP:z=true->S≠.ret)(vF:∀it∈fr.todo,mJ (jL ov) it)(h:fO B P fr)(gU:fr.mode=.run)(hw:OkW B w):Xm ov z S P fr l w n sJ zN w1 Ai:=by
 have dO:=h;obtain⟨fn,tmps,todo,defers,mode,kind,round⟩:=fr;obtain rfl:round=none:=h.round;obtain rfl:defers=[]:=h.defers;obtain rfl:kind=.normal:=h.kind;obtain rfl:mode=.run:=gU;have azt:rF z S todo l:=hcut;clear hcut;replace vF:∀it∈todo,mJ (jL ov) it:=vF;cases azt with
 |nil=>exact LP hS ⟨_,_,by simp[more,k0,bD,stepG.exec];exact⟨rfl,rfl⟩⟩
 | @cons it it' m m' hI hm=>
   have jy:=h.todo it (by simp);have nM:mJ (jL ov) it:=vF it (by simp);have Jw:∀x∈m,mJ (jL ov) x:=fun x hx=>vF x (by simp[hx]);have plain:∀(x x':List Item) (md:FrameMode),(z=true->md=.run)->(∀y∈x,mJ (jL ov) y)->rF z S x x'->(∀k w cs,bD P true {frame:=⟨fn,tmps,it::(m++k),[],.run,.normal,af⟩,callers:=cs,status:=.running,dying:=af} w=.go {frame:=⟨fn,tmps,x++k,[],md,.normal,af⟩,callers:=cs,status:=.running,dying:=af} w #[])->(∀k w cs,bD P true {frame:=⟨fn,jA ov tmps,it'::(m'++k),[],.run,.normal,af⟩,callers:=cs,status:=.running,dying:=af} w=.go {frame:=⟨fn,jA ov tmps,x'++k,[],md,.normal,af⟩,callers:=cs,status:=.running,dying:=af} w #[])->Xm ov z S P ⟨fn,tmps,it::m,[],.run,.normal,af⟩ (it'::m') w n sJ zN w1 Ai:=fun x x' md U1 qh hx e0 ek=>
    ahS (lD:=⟨fn,tmps,x,[],md,.normal,af⟩) (l2:=x') hS hx U1 qh (e0 k0) ek
   have two:∀{a b:Item},mJ (jL ov) a->mJ (jL ov) b->∀y∈a::b::m,mJ (jL ov) y:=fun ha hb y hy=>by
    rcases jR.1 hy with rfl|hy
    ·exact ha
    rcases jR.1 hy with rfl|hy
    ·exact hb
    ·exact Jw y hy
   have one:∀{a:Item},mJ (jL ov) a->∀y∈a::m,mJ (jL ov) y:=fun ha y hy=>by
    rcases jR.1 hy with rfl|hy
    ·exact ha
    ·exact Jw y hy
   cases hI with
   | @loop a a' hc=>exact plain (.code a:: .inLoop a::m) (.code a':: .inLoop a'::m') .run (fun _=>rfl) (two (a:=.code a) (b:=.inLoop a) (nM.one fun e=>e) nM) (.cons (.code hc)<|.cons (.loop hc) hm) (fun k w cs=>by simp[bD,stepG.exec]) fun k w cs=>by simp[bD,stepG.exec]
   |code hc=>
    cases hc with
    |cut c=>exact LP hS ⟨_,_,by simp[more,bD,stepG.exec];exact⟨rfl,rfl⟩⟩
    |stop=>
     obtain rfl:S=.ret:=hns m m' rfl rfl;exact plain (.code .ret::m) (.code .ret::m') .returning (fun hz=>absurd rfl<|IP hz) (one<|.inr rfl) (.cons (.code .stop) hm) (fun k w cs=>by simp[bD,stepG.exec]) fun k w cs=>by simp[bD,stepG.exec]
    |seq ha hb=>exact plain (.code _:: .code _::m) (.code _:: .code _::m') .run (fun _=>rfl) (two (nM.two Xk).1 (nM.two Xk).2) (.cons (.code ha)<|.cons (.code hb) hm) (fun k w cs=>by simp[bD,stepG.exec]) fun k w cs=>by simp[bD,stepG.exec]
    | @block id a a' ha=>exact plain (.code a:: .inBlock id::m) (.code a':: .inBlock id::m') .run (fun _=>rfl) (two (nM.one fun e=>e)<|.inr rfl) (.cons (.code ha)<|.cons (.refl _ trivial) hm) (fun k w cs=>by simp[bD,stepG.exec]) fun k w cs=>by simp[bD,stepG.exec]
    | @loop a a' ha=>exact plain (.code a:: .inLoop a::m) (.code a':: .inLoop a'::m') .run (fun _=>rfl) (two (a:=.code a) (b:=.inLoop a) (nM.one fun e=>e)<|nM.one fun e=>e) (.cons (.code ha)<|.cons (.loop ha) hm) (fun k w cs=>by simp[bD,stepG.exec]) fun k w cs=>by simp[bD,stepG.exec]
    | @cond x a b a' b' ha hb=>
      have dS:∀y,Frame.eval ⟨fn,tmps,y,[],.run,.normal,af⟩ x=Frame.eval ⟨fn,tmps,[],[],.run,.normal,af⟩ x:=fun y=>by cases x<;>rfl
      have ab4:∀y,Frame.eval ⟨fn,jA ov tmps,y,[],.run,.normal,af⟩ x=Frame.eval ⟨fn,tmps,[],[],.run,.normal,af⟩ x:=fun y=>ahP<|ahQ nM;by_cases hc:∃t,Frame.eval ⟨fn,tmps,[],[],.run,.normal,af⟩ x=aB t
      ·obtain⟨t,ht⟩:=hc;refine plain (.code (if t then a else b)::m) (.code (if t then a' else b')::m') .run (fun _=>rfl) (one (by cases t;exact(nM.two Xl).2;exact(nM.two Xl).1)) (.cons (.code (by cases t;exact hb;exact ha)) hm) (fun k w cs=>by simp[bD,stepG.exec,dS,ht]) fun k w cs=>by simp[bD,stepG.exec,ab4,ht]
      ·refine LP hS ⟨.stuck "cond: bool expected"<|Frame.pos P<|more k0 ⟨fn,tmps,.code (.cond x a b)::m,[],.run,.normal,af⟩,re w w.tape w.drawn,?_⟩;simp only[more,bD,stepG.exec,nP];split
       ·rename_i ht;exact absurd ⟨_,(dS _).symm.trans ht⟩ hc
       ·rfl
    |same=>
     rename_i c hR;cases c with
     |skip=>exact plain m m' .run (fun _=>rfl) Jw hm (fun k w cs=>by simp[bD,stepG.exec]) fun k w cs=>by simp[bD,stepG.exec]
     |label l1=>exact plain m m' .run (fun _=>rfl) Jw hm (fun k w cs=>by simp[bD,stepG.exec]) fun k w cs=>by simp[bD,stepG.exec]
     |seq a b=>exact plain (.code a:: .code b::m) (.code a:: .code b::m') .run (fun _=>rfl) (two (nM.two Xk).1 (nM.two Xk).2) (.cons (.refl _ (hR.two rfl).1)<|.cons (.refl _ (hR.two rfl).2) hm) (fun k w cs=>by simp[bD,stepG.exec]) fun k w cs=>by simp[bD,stepG.exec]
     |block id b=>exact plain (.code b:: .inBlock id::m) (.code b:: .inBlock id::m') .run (fun _=>rfl) (two (a:=.code b) (b:=.inBlock id) (nM.one fun e=>e)<|.inr rfl) (.cons (.refl _ hR)<|.cons (.refl _ trivial) hm) (fun k w cs=>by simp[bD,stepG.exec]) fun k w cs=>by simp[bD,stepG.exec]
     |loop b=>exact plain (.code b:: .inLoop b::m) (.code b:: .inLoop b::m') .run (fun _=>rfl) (two (a:=.code b) (b:=.inLoop b) (nM.one fun e=>e)<|nM.one fun e=>e) (.cons (.refl _ hR)<|.cons (.refl _ hR) hm) (fun k w cs=>by simp[bD,stepG.exec]) fun k w cs=>by simp[bD,stepG.exec]
     |scope b=>exact plain (.code b:: .inScope b::m) (.code b:: .inScope b::m') .run (fun _=>rfl) (two (nM.one fun e=>by cases e)<|nM.one fun e=>by cases e) (.cons (.refl _<|.off (hR.bad rfl) _)<|.cons (.refl _<|.off (hR.bad rfl) _) hm) (fun k w cs=>by simp[bD,stepG.exec]) fun k w cs=>by simp[bD,stepG.exec]
     |cond c a b=>
      have dS:∀x,Frame.eval ⟨fn,tmps,x,[],.run,.normal,af⟩ c=Frame.eval ⟨fn,tmps,[],[],.run,.normal,af⟩ c:=fun x=>by cases c<;>rfl
      have ab4:∀x,Frame.eval ⟨fn,jA ov tmps,x,[],.run,.normal,af⟩ c=Frame.eval ⟨fn,tmps,[],[],.run,.normal,af⟩ c:=fun x=>ahP<|ahQ nM;by_cases hc:∃t,Frame.eval ⟨fn,tmps,[],[],.run,.normal,af⟩ c=aB t
      ·obtain⟨t,ht⟩:=hc;exact plain (.code (if t then a else b)::m) (.code (if t then a else b)::m') .run (fun _=>rfl) (one (by cases t;exact(nM.two Xl).2;exact(nM.two Xl).1)) (.cons (.refl _ (by cases t;exact(hR.two rfl).2;exact(hR.two rfl).1)) hm) (fun k w cs=>by simp[bD,stepG.exec,dS,ht]) fun k w cs=>by simp[bD,stepG.exec,ab4,ht]
      ·refine LP hS ⟨.stuck "cond: bool expected"<|Frame.pos P<|more k0 ⟨fn,tmps,.code (.cond c a b)::m,[],.run,.normal,af⟩,re w w.tape w.drawn,?_⟩;simp only[more,bD,stepG.exec,nP];split
       ·rename_i ht;exact absurd ⟨_,(dS _).symm.trans ht⟩ hc
       ·rfl
     |exit id=>
      cases he:exitTo id m with
      |some x=>
       obtain⟨x',gJ,qh⟩:=RX hm he;exact plain x x' .run (fun _=>rfl) (fun y hy=>Jw y<|abZ he y hy) qh (fun k w cs=>by simp[bD,stepG.exec,Xg he]) fun k w cs=>by simp[bD,stepG.exec,Xg gJ]
      |none=>exact LP hS ⟨_,_,by simp[more,bD,stepG.exec,abX he];exact⟨rfl,rfl⟩⟩
     |goto l1=>
      cases he:gotoIn l1 m with
      |some x=>
       obtain⟨x',gJ,qh⟩:=RY hm he;exact plain x x' .run (fun _=>rfl) (fun y hy=>.inl<|nM.resolve_right<|by simp[xP,pK]) qh (fun k w cs=>by simp[bD,stepG.exec,Xh he]) fun k w cs=>by simp[bD,stepG.exec,Xh gJ]
      |none=>exact LP hS ⟨_,_,by simp[more,bD,stepG.exec,abY he];exact⟨rfl,rfl⟩⟩
     |rangeFunc _ _ _ _=>simp[qN,codeOk]at jy
     |ret=>exact plain (.code .ret::m) (.code .ret::m') .returning (fun hz=>by have:=hR.bad rfl;rw[hz]at this;cases this) (one<|.inr rfl) (.cons (.refl _ hR) hm) (fun k w cs=>by simp[bD,stepG.exec]) fun k w cs=>by simp[bD,stepG.exec]
     |refuse s=>exact LP hS ⟨_,_,by simp[more,bD,stepG.exec];exact⟨rfl,rfl⟩⟩
     |region id ops draw=>
      cases draw with
      |false=>exact plain (bQ ops (List.range ops.size)::m) (bQ ops (List.range ops.size)::m') .run (fun _=>rfl) (one (a:=bQ ops<|List.range ops.size)<|nM.one fun e=>e) (.cons (.refl _ trivial) hm) (fun k w cs=>by simp[bD,stepG.exec]) fun k w cs=>by simp[bD,stepG.exec]
      |true=>
       have o9:=hS.eq w.tape w.drawn (fun i _=>rfl) [];simp only[more,bD,stepG.exec,Oh,kP,kQ,choose,Sem.run,Question.forced,TS.nD,ql,nP,aEj,aEb]at o9;simp only[re]at o9;obtain⟨⟨k1,k2,_⟩,k3,k4⟩:=o9;have hn:n=1:=by
        have:=fG World.drawn k3;simp only at this;omega
       subst hn;refine .inl ⟨⟨fn,tmps,bQ ops (Region.schedule (P.follows .mixedOrders) ops<|Question.cut (.order fn id)<|w.tape w.drawn<|.order fn id)::m,[],.run,.normal,af⟩,bQ ops (Region.schedule (P.follows .mixedOrders) ops<|Question.cut (.order fn id)<|w.tape w.drawn<|.order fn id)::m',k2.symm,k1.symm,.cons (.refl _ trivial) hm,fun _=>rfl,one<|nM.one fun e=>e,fun k cs t d ha=>?_⟩;have h0:=ha 0 (by omega);simp only[KW]at h0;simp only[more,put,bD,stepG.exec,Oh,kP,kQ,choose,Sem.run,Question.forced,nP];simp only[re,h0];have e1:=fG World.heap k3;have e2:=fG World.os k3;have e3:=fG World.output k3;simp only at e1 e2 e3;rw[<-k4,e1,e2,e3]
   |same _ hnc hr=>
    cases it with
    |inBlock id=>exact plain m m' .run (fun _=>rfl) Jw hm (fun k w cs=>by simp[bD,stepG.exec]) fun k w cs=>by simp[bD,stepG.exec]
    |inScope c=>exact plain m m' .run (fun _=>rfl) Jw hm (fun k w cs=>by simp[bD,stepG.exec]) fun k w cs=>by simp[bD,stepG.exec]
    |inLoop c=>exact plain (.code c:: .inLoop c::m) (.code c:: .inLoop c::m') .run (fun _=>rfl) (two (a:=.code c) (b:=.inLoop c) (nM.one fun e=>e) nM) (.cons (.refl _ hr)<|.cons (.refl _ hr) hm) (fun k w cs=>by simp[bD,stepG.exec]) fun k w cs=>by simp[bD,stepG.exec]
    |inRegion ops todo=>
     cases todo with
     |nil=>exact plain m m' .run (fun _=>rfl) Jw hm (fun k w cs=>by simp[bD,stepG.exec]) fun k w cs=>by simp[bD,stepG.exec]
     |cons i r=>
      by_cases Gi:((ops[i]?).map (Region.wanted · (yielded ops tmps))).getD false=true
      ·cases ho:ops[i]? with
       |none=>rw[ho]at Gi;simp at Gi
       |some o=>
        have bP:sG P B.let_ o.op=true:=by
         simp only[qN]at jy;obtain⟨hi,rfl⟩:=jk.1 ho;exact(GL.1 jy) i hi
        have uT:Region.wanted o (yielded ops tmps)=true:=by simpa[ho]using Gi
        refine arv (s:=dP (Frame.eval ⟨fn,tmps,bQ ops (i::r)::m,[],.run,.normal,af⟩) o) hS rfl rfl hm dO vF (fun _ _=>rfl) hw (abM L.toFit L.abO (dO.env L.toFit) bP) (fun w cs=>?_) fun k w cs=>?_
        ·simp[more,bD,stepG.exec,stepG.oper,Frame.oper?,ho,uT];rfl
        ·have hwO:Region.wanted o (yielded ops<|jA ov tmps)=true:=by rw[ahR nM];exact uT
         have hxO:∀y y',dP (Frame.eval ⟨fn,jA ov tmps,y,[],.run,.normal,af⟩) o=dP (Frame.eval ⟨fn,tmps,y',[],.run,.normal,af⟩) o:=fun y y'=>by
          rcases nM with hD|hD
          ·rw[ab2 hD];exact fG (fun ρ=>dP ρ o)<|funext fun x=>by cases x<;>rfl
          ·obtain⟨hi,rfl⟩:=jk.1 ho;have hA:=(GL.1<|show ops.all (Jv<|jL ov)=true from hD) i hi;simp only[Jv,mg]at hA;exact ars hA.1 fun x hx=>ahO hx
         simp[more,put,bD,stepG.exec,stepG.oper,Frame.oper?,ho,hwO];rw[hxO]
      ·obtain⟨f1,f2⟩:=ab3 (ov:=ov) (fr:=⟨fn,tmps,bQ ops (i::r)::m,[],.run,.normal,af⟩) rfl hm nM ai;refine ahS (lD:=Frame.finish ⟨fn,tmps,bQ ops (i::r)::m,[],.run,.normal,af⟩ ai) (l2:=bQ ops r::m') hS f2 (fun _=>rfl) (Xn (fr:=⟨fn,tmps,bQ ops (i::r)::m,[],.run,.normal,af⟩) rfl vF ai) (fun w cs=>?_) (fun k w cs=>?_)
       ·rw[<-Ju ⟨_,_,_,_,rfl⟩];simp only[more,bD,stepG.exec,nP];exact if_neg Gi
       ·rw[<-f1,<-Ju ⟨ops,i,r,m',rfl⟩];simp only[more,put,bD,stepG.exec,nP];exact if_neg (by rw[ahR nM];exact Gi)
    |code c=>exact absurd rfl<|hnc c
    |_=>simp[qN]at jy
def SwC(ov:List (Nat×az))(z:Bool)(S:Code)(k:List Item)(fr:bu)(fs:List bu)(fr':bu)(lJ:List bu):Prop:=
 (∃f l,fs=[]/\lJ=[]/\fr=more k0 f/\rF z S f.todo l/\(z=true->f.mode=.run)/\(∀it∈f.todo,mJ (jL ov) it)/\fr'=more k (put ov f l))\/∃f l gs,fr'=fr/\fs=gs++[more k0 f]/\rF z S f.todo l/\(z=true->f.mode=.run)/\(∀it∈f.todo,mJ (jL ov) it)/\lJ=gs++[more k<|put ov f l]/\sH f
theorem arA(vY:sH f)(hc:rF z S f.todo l)(hM:∀it∈f.todo,mJ (jL ov) it)(k:List Item)(v:az):∃l2,rF z S (f.finish v).todo l2/\(more k<|put ov f l).finish v=more k (put ov (f.finish v) l2):=by
 obtain⟨ops,i,r,m,ht⟩:=vY;rw[ht]at hc;cases hc with
 |cons hI hm=>
  cases hI with
  |same=>
   obtain⟨f1,f2⟩:=ab3 ht hm (hM _ (by rw[ht];simp)) v;exact⟨_,f2,by rw[Ju ⟨ops,i,r,_,rfl⟩,f1]⟩
theorem arB(vY:sH f)(v:az):(f.finish v).mode=f.mode:=by
 obtain⟨fn,tmps,todo,defers,mode,kind,round⟩:=f;obtain⟨ops,i,r,m,ht⟩:=vY;obtain rfl:todo=_:=ht;rfl
theorem arC(L:oC B P)(hS:yN B P fr fs w n (.next sJ zN w1 Ai))(NC:SwC ov z S k fr fs Hq OX)(hns:∀f l,fs=[]->fr=more k0 f->Hq=more k (put ov f l)->∀m m',f.todo=.code .ret::m->l=.code S::m'->S=.ret)(IP:z=true->S≠.ret)(h:fO B P fr)(hw:OkW B w)(hb:Ho fr fs)(cs:List bu):
 ∃Xo Xp,SwC ov z S k sJ zN Xo Xp/\bD P true {frame:=Hq,callers:=OX++cs,status:=.running,dying:=af} w=.go {frame:=Xo,callers:=Xp++cs,status:=.running,dying:=af} (re w1 w.tape<|w.drawn+n) Ai:=by
 have o9:=fun cs=>hS.eq w.tape w.drawn (fun i _=>rfl) cs;have U9:re w w.tape w.drawn=w:=ag3 w;rw[U9]at o9;rcases NC with⟨f,l,rfl,rfl,rfl,nK,hz,vF,rfl⟩|⟨f,l,gs,rfl,rfl,nK,hz,vF,rfl,vY⟩
 ·have hm:f.mode=.run:=by
   rcases hb with hb|hb
   ·exact hb
   ·exact absurd rfl hb
  rcases arx L hS nK (hns f l rfl rfl rfl) IP vF h.less hm hw with⟨lD,l2,rfl,rfl,lI,iU,xx,di⟩|⟨rfl,vY,di⟩
  ·exact⟨_,[],.inl ⟨lD,l2,rfl,rfl,rfl,lI,iU,xx,rfl⟩,by have:=di k cs w.tape w.drawn fun i _=>rfl;rw[U9]at this;exact this⟩
  ·exact⟨sJ,[more k<|put ov f l],.inr ⟨f,l,[],rfl,rfl,nK,hz,vF,rfl,vY⟩,by have:=di k cs w.tape w.drawn fun i _=>rfl;rw[U9]at this;exact this⟩
 ·rcases h.mode with hm|hm
  ·obtain⟨n2,T2,h2⟩:=stp L (fs:=[]) h (by simp) hw<|.inl hm;have Dw:=fun cs=>h2.eq w.tape w.drawn (fun i _=>rfl) cs;rw[U9]at Dw;have hc:=Dw<|(gs++[more k0 f])++[];rw[xH,o9 []]at hc;cases T2 with
   |ended o w' es=>simp[TS.nD]at hc
   |panic a ch b w' es=>
    simp only[TS.nD,aEj,aEb]at hc;have hg:=hS.A7.1.mode;rw[hc.1.1]at hg;rw[h2.A7.1.raise]at hg;simp at hg
   |next a b c e=>
    simp only[TS.nD,aEj,aEb,ql]at hc;obtain⟨⟨k1,k2,_⟩,k3,k4⟩:=hc;have hn:n=n2:=by
     have:=fG World.drawn k3;simp only[re]at this;omega
    subst hn;refine⟨a,b++(gs++[more k<|put ov f l]),.inr ⟨f,l,b++gs,k1.symm,by rw[k2,AQ],nK,hz,vF,by rw[AQ],vY⟩,?_⟩;have:=Dw<|(gs++[more k<|put ov f l])++cs;rw[xH]at this;rw[this,TS.nD,k3,k4,AQ b]
  ·obtain⟨fn',h1⟩:=h.fn;obtain⟨n2,r,es2,h5,h6⟩:=(Js L.toFit (fn:=fn') h.tmps).Jr hw;have yl:=h5 w.tape w.drawn (fun i _=>rfl) #[];rw[U9]at yl;cases r with
   |halt x w'=>
    exfalso;have hc:=o9 [];obtain⟨c,cs',hcs⟩:∃c cs',gs++[more k0 f]++[]=c::cs':=by cases gs<;>simp
    rw[hcs]at hc;cases x<;>
    ·simp only[bD,unwind,hm,h.defers,h1,yl,Result.re,GStep.after,TS.nD]at hc;cases hc
   |ok v w'=>
    have di:∀c cs',bD P true {frame:=Hq,callers:=c::cs',status:=.running,dying:=af} w=.go {frame:=c.finish v,callers:=cs',status:=.running,dying:=af} (re w' w.tape<|w.drawn+n2) (seen P Hq.fn es2):=by
     intro c cs';simp only[bD,unwind,hm,h.defers,h1,yl,Result.re,doReturn,h.kind,GStep.after,uC,uB]
    cases gs with
    |nil=>
     have hc:=o9 [];rw[xH,ql,di]at hc;simp only[TS.nD,aEj,aEb,ql]at hc;obtain⟨⟨k1,k2,_⟩,k3,k4⟩:=hc;obtain⟨l2,lI,e2⟩:=arA vY nK vF k v;refine⟨more k<|put ov (f.finish v) l2,[],.inl ⟨f.finish v,l2,k2.symm,rfl,by rw[<-Ju vY];exact k1.symm,lI,fun e=>(arB vY v).trans<|hz e,(by obtain⟨_,_,_,_,ht⟩:=vY;exact Xn ht vF v),rfl⟩,?_⟩;rw[xH,amW,di,e2,k3,k4];rfl
    |cons c gs=>
     have hc:=o9 [];rw[ql,nP,di]at hc;simp only[TS.nD,aEj,aEb,ql]at hc;obtain⟨⟨k1,k2,_⟩,k3,k4⟩:=hc;refine⟨c.finish v,gs++[more k<|put ov f l],.inr ⟨f,l,gs,k1,k2.symm,nK,hz,vF,rfl,vY⟩,?_⟩;rw[nP,nP,di,k3,k4]
theorem arD{Q:bu->aj->Prop}(ab6:∀fr w t d,Q fr (re w t d)->Q fr w)(h:Ends B P Q (more k0 f) [] w)(ht:f.todo=.code .ret::m)(hf:fO B P (more k0 f))(hm:f.mode=.run)(Zo:¬Q (more k0 f) w):Q {more k0 f with mode:=.returning} w:=by
 cases h with
 |stop hq=>exact absurd hq Zo
 |step hb n fr' lJ w' es hs h=>
  have h0:=(hs 0).eq w.tape 0 (fun i _=>rfl) [];have e0:∀w,bD P true {frame:=more k0 f,callers:=[]++[],status:=.running,dying:=af} w=.go {frame:={more k0 f with mode:=.returning},callers:=[],status:=.running,dying:=af} w #[]:=fun w=>by
   obtain⟨fn,tmps,todo,defers,mode,kind,round⟩:=f;obtain rfl:todo=_:=ht;obtain rfl:round=none:=hf.round;obtain rfl:mode=.run:=hm;simp[more,bD,stepG.exec]
  rw[e0]at h0;simp only[TS.nD,aEj,aEb,ql]at h0;obtain⟨⟨k1,k2,_⟩,k3,_⟩:=h0;have h1:=h 0;rw[<-k1,<-k2]at h1;have k3':re (w' 0) w.tape (0+n 0)=re w w.tape 0:=by rw[<-k3];rfl
  rw[k3']at h1;cases h1 with
  |stop hq=>exact ab6 _ _ _ _ hq
  |step rQ=>
   rcases rQ with rQ|rQ
   ·cases rQ
   ·exact absurd rfl rQ
theorem arF(L:oC B P)(C:Cm B P){Q:bu->aj->Prop}(ab6:∀fr w t d,Q fr (re w t d)->Q fr w)(hQt:∀f w,Q (more k0 f) w->f.mode=.run->f.todo=[]){w0:aj}(h:Ends B P Q fr fs w){Q2:cO->bu->aj->Prop}
 (IP:z=true->S≠.ret)(hQ:∀f l w',(z=true->f.mode=.run)->On w0 w'->fO (B.cut w'.heap.size) P f->rF z S f.todo l->Q (more k0 f) w'->Reach B P (more k<|put ov f l) cs w' Q2 cs2)
 (ND:∀f l w',On w0 w'->fO (B.cut w'.heap.size) P f->f.mode=.run->S≠.ret->Q {more k0 f with mode:=.returning} w'->Reach B P (more k<|put ov f<|.code S::l) cs w' Q2 cs2)
 (oM:On w0 w)(NC:SwC ov z S k fr fs Hq OX)(hf:fO (B.cut w.heap.size) P fr)(UW:∀f∈fs,fO (B.cut w.heap.size) P f):Reach B P Hq (OX++cs) w Q2 cs2:=by
 induction h generalizing Hq OX with
 |stop hq=>
  rcases NC with⟨f,l,_,rfl,rfl,nK,hz,_,rfl⟩|⟨f,l,gs,_,h,_⟩
  ·exact hQ f l _ hz oM hf.less nK hq
  ·simp at h
 |step hb n fr' lJ w' es hs h ih=>
  rename_i fr fs w;by_cases di:∃f l m m',fs=[]/\fr=more k0 f/\Hq=more k (put ov f l)/\OX=[]/\f.todo=.code .ret::m/\l=.code S::m'/\S≠.ret
  ·obtain⟨f,l,m,m',rfl,rfl,rfl,rfl,ht,rfl,dh⟩:=di;have hm:f.mode=.run:=by
    rcases hb with hb|hb
    ·exact hb
    ·exact absurd rfl hb
   have hfB:fO B P (more k0 f):=hf.mono (B:=B) (B':=B.cut w.heap.size) (fun _ z=>Or.inl z) rfl;refine ND f m' w oM hf.less hm dh<|arD ab6 (.step hb n fr' lJ w' es hs h) ht hfB hm fun hq=>?_;have:=hQt f w hq hm;rw[ht]at this;cases this
  refine Reach.ok fun bP=>Reach.step fun d=>?_;have hfB:fO B P fr:=hf.mono (B:=B) (B':=B.cut w.heap.size) (fun _ z=>Or.inl z) rfl;obtain⟨Xo,Xp,arH,Nw⟩:=arC L (hs d) NC (fun f l e1 e2 e3 m m' e4 e5=>Jb fun dh=>di ⟨f,l,m,m',e1,e2,e3,by
   rcases NC with⟨_,_,_,q,_⟩|⟨_,_,gs,_,q,_⟩
   ·exact q
   ·rw[e1]at q;simp at q,e4,e5,dh⟩) IP hfB (bP.okW.re w.tape d) hb cs
  obtain⟨g1,g2,g3,g4,g5,g6,g7⟩:=(hs d).A7;have EL:w.heap.size<=(w' d).heap.size:=g4;have yl:5<=(w' d).heap.size:=eG bP.mG EL;obtain⟨m1,m2,m3⟩:=(hs d).tight (B.cut (w' d).heap.size) (C _ yl) rfl (hf.mono (OU EL) rfl) (fun f hx=>(UW f hx).mono (OU EL) rfl) (RS (w:=w) bP.obj EL) fun b hb=>Or.imp (fun z=>(bP.low b z).2) id hb;refine⟨Xo,Xp++cs,re (w' d) w.tape<|d+n d,es d,Nw,(oQ.of (w:=w) ⟨bP.obj,bP.low,bP.mG⟩ EL m3).re _ _,g4,fun e he=>LM<|g7 e he,?_⟩;exact ih d (oM.trans ⟨rfl,g4,g5,g6⟩) arH m1 m2
theorem ab7(L:oC B P)(C:Cm B P){a:Act}{b:bu}{K:(Nat->Question->Nat)->Nat->Exit->Act->aj->Prop}
 (hM:∀it∈[Item.code c],mJ (jL ov) it)(hcut:qO z S c c')(hc:codeOk P B.let_ c=true)(ha:bT (B.cut w.heap.size) a.tmps)(hd:a.defers=[])(qy:∃fn,P.funcs[b.fn]? =ae fn)(hk:b.kind=.normal)
 (BD:∀t d,c.wp P (fun e a' w'=>(e=.normal\/e=.ret)/\K t d e a' w') a<|re w t d)
 (hN:∀a' w',On w w'->bT (B.cut w'.heap.size) a'.tmps->a'.defers=[]->(∃t d t' j,K t d .normal a'<|re w' t' j)->Reach B P (b.at ⟨jA ov a'.tmps,a'.defers⟩ k) cs w' Q cs2)
 (IP:z=true->S≠.ret)
 (hR:z=false->∀a' w' todo,On w w'->bT (B.cut w'.heap.size) a'.tmps->a'.defers=[]->(∃t d t' j,K t d .ret a'<|re w' t' j)->Reach B P {b.at ⟨jA ov a'.tmps,a'.defers⟩ todo with mode:=.returning} cs w' Q cs2)
 (ND:S≠.ret->∀a' w' l,On w w'->bT (B.cut w'.heap.size) a'.tmps->a'.defers=[]->(∃t d t' j,K t d .ret a'<|re w' t' j)->Reach B P (b.at ⟨jA ov a'.tmps,a'.defers⟩<|.code S::l) cs w' Q cs2):
 Reach B P (b.at ⟨jA ov a.tmps,a.defers⟩<|.code c'::k) cs w Q cs2:=by
 refine Reach.ok fun hw=>?_;have dO:fO (B.cut w.heap.size) P (more k0<|b.at a [.code c]):=⟨qy,ha,fun it hi=>by
  simp only[more,k0,Frame.at,nP,xH,jR,pF,pG]at hi;rcases hi with rfl|rfl
  ·exact hc
  ·rfl,hd,.inl rfl,hk,rfl⟩
 have azu:fO B P (more k0<|b.at a [.code c]):=dO.mono (B:=B) (B':=B.cut w.heap.size) (fun _ z=>Or.inl z) rfl;have hE:=ahJ (B:=B) (P:=P) L (Q:=fun fr w'=>∃a':Act,((fr=b.at a' k0/\∃t d t' j,K t d .normal a'<|re w' t' j)\/∃todo,fr={b.at a' todo with mode:=.returning}/\∃t d t' j,K t d .ret a'<|re w' t' j))
  (fun fr w' t d h=>h) (fs:=[]) (w:=w) azu (by simp) hw.okW (by
    intro t d;obtain⟨e,a',w',⟨he,hK⟩,har⟩:=BD t d b k0 [wall P];rcases he with rfl|rfl
    ·obtain⟨j,hj⟩:=har;exact⟨j,b.at a' k0,w',hj,by simp[Frame.at],a',.inl ⟨rfl,t,d,w'.tape,w'.drawn,hK⟩⟩
    ·obtain⟨todo,j,hj⟩:=har;exact⟨j,_,w',hj,by simp,a',.inr ⟨todo,rfl,t,d,w'.tape,w'.drawn,hK⟩⟩)
 have:=arF (ov:=ov) (S:=S) L C (fun fr w t d h=>h) (fun f w hq hm=>?_) (w0:=w) (k:=k) (cs:=cs) (cs2:=cs2) (Q2:=Q) hE IP ?_ ?_ (On.refl w) (.inl ⟨b.at a [.code c],[.code c'],rfl,rfl,rfl,.cons (.code hcut) .nil,fun _=>rfl,hM,rfl⟩) dO<|by simp
 ·exact this
 ·obtain⟨a',⟨he,_⟩|⟨todo,he,_⟩⟩:=hq
  ·have:=fG Frame.todo he;have e3:f.todo++k0=k0:=this;have:=fG List.length e3;simp only[iV]at this;exact QK.1<|by omega
  ·have:=fG Frame.mode he;have e3:f.mode=.returning:=this;rw[hm]at e3;cases e3
 rotate_left
 ·intro f l w' oM yu hm dh hq;obtain⟨a',⟨he,_⟩|⟨todo,he,hK⟩⟩:=hq
  ·have e3:FrameMode.returning=.run:=fG Frame.mode he;cases e3
  ·have h1:more k (put ov f<|.code S::l)=b.at ⟨jA ov a'.tmps,a'.defers⟩ (.code S::(l++k)):=by
    obtain⟨fn,tmps,td,defers,mode,kind,round⟩:=f;obtain rfl:mode=.run:=hm;simp only[more,Frame.at,aE6]at he;obtain⟨e1,e2,e3,e4,e5,e6,e7⟩:=he;simp only[more,put,Frame.at,aE6,nP];exact⟨e1,by rw[e2],trivial,e4,trivial,e6,e7⟩
   have h2:f.tmps=a'.tmps/\f.defers=a'.defers:=⟨fG Frame.tmps he,fG Frame.defers he⟩;rw[h1];exact ND dh a' w' _ oM (h2.1▸yu.tmps) (h2.2▸yu.defers) hK
 intro f l w' hz oM yu nK hq;obtain⟨a',⟨he,hK⟩|⟨todo,he,hK⟩⟩:=hq
 ·have h1:f=b.at a' []:=by
   obtain⟨fn,tmps,td,defers,mode,kind,round⟩:=f;simp only[more,Frame.at,aE6]at he⊢
   obtain⟨e1,e2,e3,e4,e5,e6,e7⟩:=he;refine⟨e1,e2,?_,e4,e5,e6,e7⟩;have:=fG List.length e3;simp only[iV]at this;exact QK.1<|by omega
  subst h1;have hl:l=[]:=by
   have azv:rF z S [] l:=nK;cases azv;rfl
  subst hl;exact hN a' w' oM yu.tmps yu.defers hK
 ·have h1:more k (put ov f l)={b.at ⟨jA ov a'.tmps,a'.defers⟩ (l++k)with mode:=.returning}:=by
   obtain⟨fn,tmps,td,defers,mode,kind,round⟩:=f;simp only[more,put,Frame.at,aE6]at he⊢
   obtain⟨e1,e2,e3,e4,e5,e6,e7⟩:=he;exact⟨e1,by rw[e2],trivial,e4,e5,e6,e7⟩
  have h2:f.tmps=a'.tmps/\f.defers=a'.defers:=⟨fG Frame.tmps he,fG Frame.defers he⟩;rw[h1];have hzf:z=false:=by
   cases z with
   |false=>rfl
   |true=>
    have e1:=hz rfl;have e2:f.mode=.returning:=fG Frame.mode he;rw[e1]at e2;cases e2
  exact hR hzf a' w' _ oM (h2.1▸yu.tmps) (h2.2▸yu.defers) hK
theorem ab8(L:oC B P)(C:Cm B P){a:Act}{b:bu}{K:(Nat->Question->Nat)->Nat->Exit->Act->aj->Prop}
 (hcut:qO z S c c')(hc:codeOk P B.let_ c=true)(ha:bT (B.cut w.heap.size) a.tmps)(hd:a.defers=[])(qy:∃fn,P.funcs[b.fn]? =ae fn)(hk:b.kind=.normal)
 (BD:∀t d,c.wp P (fun e a' w'=>(e=.normal\/e=.ret)/\K t d e a' w') a<|re w t d)
 (hN:∀a' w',On w w'->bT (B.cut w'.heap.size) a'.tmps->a'.defers=[]->(∃t d t' j,K t d .normal a'<|re w' t' j)->Reach B P (b.at a' k) cs w' Q cs2)
 (IP:z=true->S≠.ret)
 (hR:z=false->∀a' w' todo,On w w'->bT (B.cut w'.heap.size) a'.tmps->a'.defers=[]->(∃t d t' j,K t d .ret a'<|re w' t' j)->Reach B P {b.at a' todo with mode:=.returning} cs w' Q cs2)
 (ND:S≠.ret->∀a' w' l,On w w'->bT (B.cut w'.heap.size) a'.tmps->a'.defers=[]->(∃t d t' j,K t d .ret a'<|re w' t' j)->Reach B P (b.at a'<|.code S::l) cs w' Q cs2):
 Reach B P (b.at a<|.code c'::k) cs w Q cs2:=
 ab7 (ov:=[]) L C (fun _ _=>.inl rfl) hcut hc ha hd qy hk BD hN IP hR ND
theorem Hr(L:oC B P)(C:Cm B P){a:Act}{b:bu}{K:(Nat->Question->Nat)->Nat->Exit->Act->aj->Prop}
 (hc:codeOk P B.let_ c=true)(ha:bT (B.cut w.heap.size) a.tmps)(hd:a.defers=[])(qy:∃fn,P.funcs[b.fn]? =ae fn)(hk:b.kind=.normal)
 (BD:∀t d,c.wp P (fun e a' w'=>(e=.normal\/e=.ret)/\K t d e a' w') a<|re w t d)
 (hN:∀a' w',On w w'->bT (B.cut w'.heap.size) a'.tmps->a'.defers=[]->(∃t d t' j,K t d .normal a'<|re w' t' j)->Reach B P (b.at a' k) cs w' Q cs2)
 (hR:∀a' w' todo,On w w'->bT (B.cut w'.heap.size) a'.tmps->a'.defers=[]->(∃t d t' j,K t d .ret a'<|re w' t' j)->Reach B P {b.at a' todo with mode:=.returning} cs w' Q cs2):
 Reach B P (b.at a<|.code c::k) cs w Q cs2:=
 ab8 (z:=false) (S:=.ret) L C (.same c<|.off rfl c) hc ha hd qy hk BD hN (fun h=>by cases h) (fun _=>hR) fun h=>absurd rfl h
end au
end
section
namespace au
open Go Go.Conc
variable{B:cO}{P:eF}
variable{w:aj}{fn:Func}
def TU(L:oC B P)(C:Cm B P){fr c:bu}{cs:List bu}{v:az}{t:Nat->Question->Nat}{k:Nat}{Q:cO->bu->aj->Prop}(hm:fr.mode=.returning)(hd:fr.defers=[])(hk:fr.kind=.normal)(qy:P.funcs[fr.fn]? =ae fn)(bP:bT (B.cut w.heap.size) fr.tmps)(zq:(results fn fr.tmps).run P (re w t k)=.ok v (re w t k))
 (hQ:∀d,aG (B.cut w.heap.size) v->Q B (c.finish v) (w.at d)):Reach B P fr (c::cs) w Q cs:=by
 refine Reach.ok fun uU=>Reach.step fun d=>?_;have hvT:=((Js (C _ uU.mG).toFit (fn:=fn) bP).DY (w:=re w t k) uU.obj zq fun b _=>E5 b _).1;have aAA:bT B fr.tmps:=fun x hx=>(bP x hx).mono (B:=B) (B':=B.cut w.heap.size) (fun _ z=>Or.inl z) rfl;obtain⟨n,r,gs,h1,h2⟩:=(Js (B:=B) (P:=P) L.toFit (fn:=fn) aAA).Jr<|uU.okW.re t k;have oL:=ahK h1 t k fun i _=>rfl;rw[WQ]at oL;rw[zq]at oL;cases r with
 |halt x w1=>simp[Result.re]at oL
 |ok v1 w1=>
  simp only[Result.re,aEL]at oL;obtain⟨rfl,wJ⟩:=oL;have hn:n=0:=by
   have:=fG World.drawn wJ;simp only[re]at this;omega
  subst hn;have abW:re w1 w.tape d=w.at d:=by
   have e1:=fG World.heap wJ;have e2:=fG World.os wJ;have e3:=fG World.output wJ;simp only[re]at e1 e2 e3;unfold re;show _=({w with drawn:=d}:aj);rw[<-e1,<-e2,<-e3]
  have di:=h1 w.tape d (fun i hi=>absurd hi<|by omega) #[];rw[WQ]at di;simp only[Result.re,KW,abW]at di;obtain⟨hv,_,_,_,_,dS⟩:=h2;have eH:w1.heap.size=w.heap.size:=by
   have e1:=fG World.heap wJ;simp only[re]at e1;rw[e1]
  refine⟨c.finish v,cs,w.at d,seen P fr.fn gs,?_,⟨uU.obj,uU.low,uU.mG⟩,dm _,?_,Reach.here fun _=>hQ d hvT⟩
  ·have Gj:(results fn fr.tmps).runT P (w.at d) #[]=(.ok v<|w.at d,#[]++gs):=di;simp only[bD,unwind,hm,hd,qy,Gj,doReturn,hk,GStep.after,uC,uB]
  ·intro e he;have:=dS e<|aEJ he;rw[eH]at this;exact LM this
def cutAt(r:Code):List Bool->Code->Code
 |[],_=>r
 |b::p,.seq x y=>if b then .seq x (cutAt r p y)else .seq (cutAt r p x) y
 |b::p,.cond o x y=>if b then .cond o x (cutAt r p y)else .cond o (cutAt r p x) y
 |b::p,.block id x=>.block id<|cutAt r (b::p) x
 |b::p,.loop x=>.loop<|cutAt r (b::p) x
 |_::_,c=>c
def gq:List Bool->Code->Code
 |[],c=>c
 |b::p,.seq x y=>if b then gq p y else gq p x
 |b::p,.cond _ x y=>if b then gq p y else gq p x
 |b::p,.block _ x=>gq (b::p) x
 |b::p,.loop x=>gq (b::p) x
 |_::_,c=>c
def MN{S r:Code}:∀(p:List Bool) (c:Code),qO false S r (gq p c)->qO false S (cutAt r p c) c
 |[],c,h=>by simp only[cutAt];simp only[gq]at h;exact h
 |b::p,.seq x y,h=>by
  simp only[cutAt];simp only[gq]at h;split
  ·rw[if_pos ‹_›]at h;exact .seq (.same x<|.off rfl _)<|MN p y h
  ·rw[if_neg ‹_›]at h;exact .seq (MN p x h)<|.same y<|.off rfl _
 |b::p,.cond o x y,h=>by
  simp only[cutAt];simp only[gq]at h;split
  ·rw[if_pos ‹_›]at h;exact .cond (.same x<|.off rfl _)<|MN p y h
  ·rw[if_neg ‹_›]at h;exact .cond (MN p x h)<|.same y<|.off rfl _
 |b::p,.block id x,h=>by simp only[cutAt];simp only[gq]at h;exact .block<|MN (b::p) x h
 |b::p,.loop x,h=>by simp only[cutAt];simp only[gq]at h;exact .loop<|MN (b::p) x h
 |_::_,.skip,_|_::_,.label _,_|_::_,.scope _,_|_::_,.goto _,_|_::_,.exit _,_|_::_,.rangeFunc ..,_|_::_,.ret,_|_::_,.refuse _,_|_::_,.region ..,_=>by
  simp only[cutAt];exact .same _<|.off rfl _
def aki(p:List Bool)(c:Code):qO false .ret (cutAt (.refuse "") p c) c:=MN p c<|.cut _
def adC(L:oC B P)(C:Cm B P){f:FuncId}{c c':Code}{args:Array az}{R:(Nat->Question->Nat)->Nat->Ending->aj->Prop}(hf:P.funcs[f]? =ae fn)(hb:fn.body=ae c)(hcut:qO false .ret c' c)(bP:codeOk P B.let_ c'=true)(ha:bT (B.cut w.heap.size) args)
 (hc:∀t d,c'.wp P (bodyPost P fn<|R t d) {tmps:=args++Array.replicate (fn.ntmps-args.size) ai,defers:=[]}<|re w t d)(ho:∀t d e w',R t d e w'->∃v,e=aT v):
 tX B P f args w (fun B' v w'=>B'=B/\aG (B.cut w'.heap.size) v/\On w w'/\∃t d t' k,R t d (aT v)<|re w' t' k):=by
 intro c0 cs;let b:Frame:={(default:bu)with fn:=f,kind:=.normal}
 have aAB:Frame.enter P f args .normal=b.at {tmps:=args++Array.replicate (fn.ntmps-args.size) ai,defers:=[]} [.code c]:=by
  simp[Frame.enter,Frame.at,hf,hb,b]
 rw[aAB];have KE:bT (B.cut w.heap.size) (args++Array.replicate (fn.ntmps-args.size) ai):=bT.append ha fun v hv=>by
  obtain⟨_,rfl⟩:=Oa.1 hv;exact rC
 refine ab8 (K:=fun t d e a' w'=>a'.defers=[]/\∃v,(results fn a'.tmps).run P w'=.ok v w'/\R t d (aT v) w') L C hcut bP KE rfl ⟨fn,hf⟩ rfl (fun t d=>aEq (hc t d) fun e a' w' hq=>?_) ?_ (fun hz=>by cases hz) (fun _=>?_) fun dh=>absurd rfl dh
 ·cases e with
  |normal=>exact⟨.inl rfl,hq⟩
  |ret=>exact⟨.inr rfl,hq⟩
  |panic chain=>obtain⟨v,hv⟩:=ho _ _ _ _ hq.2;cases hv
  |outgrown=>obtain⟨v,hv⟩:=ho _ _ _ _ hq;cases hv
  |exit id=>exact hq.elim
  |goto id=>exact hq.elim
 ·rintro a' w' oM adD IM ⟨t,d,t',j,_,v,zq,hR⟩;refine Reach.ok fun N7=>Reach.step fun d2=>⟨{b.at a' []with mode:=.returning},c0::cs,w'.at d2,#[],by simp[bD,stepG.exec,Frame.at,b],⟨N7.obj,N7.low,N7.mG⟩,dm _,by simp,?_⟩;exact TU L C (fr:={b.at a' []with mode:=.returning}) (w:=w'.at d2) (v:=v) (t:=t') (k:=j) rfl IM rfl hf adD zq fun d3 hv=>⟨v,rfl,rfl,hv,⟨oM.tape,oM.size,oM.os,oM.output⟩,t,d,t',j,hR⟩
 ·rintro a' w' todo oM adD IM ⟨t,d,t',j,_,v,zq,hR⟩;exact TU L C (fr:={b.at a' todo with mode:=.returning}) (w:=w') (v:=v) (t:=t') (k:=j) rfl IM rfl hf adD zq fun d3 hv=>⟨v,rfl,rfl,hv,⟨oM.tape,oM.size,oM.os,oM.output⟩,t,d,t',j,hR⟩
end au
end
section
namespace au
open Go Go.Conc
variable{B:cO}{P:eF}
def Ep:Code->Code
 | .seq a b=>.seq (Ep a)<|Ep b
 | .cond o a b=>.cond o (Ep a)<|Ep b
 | .block id a=>.block id<|Ep a
 | .loop a=>.loop<|Ep a
 | .skip=>.skip
 | .exit id=>.exit id
 | .region i o d=>.region i o d
 |_=>.refuse ""
variable{S:Code}
def MP:∀c:Code,qO true S (Ep c) c
 | .seq a b=>.seq (MP a)<|MP b
 | .cond _ a b=>.cond (MP a)<|MP b
 | .block _ a=>.block<|MP a
 | .loop a=>.loop<|MP a
 | .skip=>.same _ fun _=>rfl
 | .exit _=>.same _ fun _=>rfl
 | .region .. =>.same _ fun _=>rfl
 | .ret=>.cut _
 | .label _=>.cut _
 | .scope _=>.cut _
 | .goto _=>.cut _
 | .rangeFunc .. =>.cut _
 | .refuse _=>.cut _
def qG:List Bool->Code->Code
 |[],_=>.ret
 |b::p,.seq x y=>if b then .seq (Ep x) (qG p y)else .seq (qG p x) (.refuse "")
 |b::p,.cond o x y=>if b then .cond o (.refuse "") (qG p y)else .cond o (qG p x) (.refuse "")
 |b::p,.block id x=>.block id<|qG (b::p) x
 |b::p,.loop x=>.loop<|qG (b::p) x
 |_::_,_=>.refuse ""
def MQ:∀(p:List Bool) (c:Code),S=gq p c->qO true S (qG p c) c
 |[],c,h=>by simp only[gq]at h;subst h;simp only[qG];exact .stop
 |b::p,.seq x y,h=>by
  simp only[gq]at h;simp only[qG];split
  ·rw[if_pos ‹_›]at h;exact .seq (MP x)<|MQ p y h
  ·rw[if_neg ‹_›]at h;exact .seq (MQ p x h)<|.cut _
 |b::p,.cond o x y,h=>by
  simp only[gq]at h;simp only[qG];split
  ·rw[if_pos ‹_›]at h;exact .cond (.cut _)<|MQ p y h
  ·rw[if_neg ‹_›]at h;exact .cond (MQ p x h)<|.cut _
 |b::p,.block id x,h=>by simp only[gq]at h;simp only[qG];exact .block<|MQ (b::p) x h
 |b::p,.loop x,h=>by simp only[gq]at h;simp only[qG];exact .loop<|MQ (b::p) x h
 |_::_,.skip,_|_::_,.label _,_|_::_,.scope _,_|_::_,.goto _,_|_::_,.exit _,_|_::_,.rangeFunc ..,_|_::_,.ret,_|_::_,.refuse _,_|_::_,.region ..,_=>by
  simp only[qG];exact .cut _
def adN(L:oC B P)(C:Cm B P){p:List Bool}{c:Code}{a:Act}{b:bu}{k:List Item}{cs cs2:List bu}{w:aj}{Q:cO->bu->aj->Prop}{K:(Nat->Question->Nat)->Nat->Act->aj->Prop}
 (hS:S=gq p c)(dh:S≠.ret)(hc:codeOk P B.let_ (qG p c)=true)(ha:bT (B.cut w.heap.size) a.tmps)(hd:a.defers=[])(qy:∃fn,P.funcs[b.fn]? =ae fn)(hk:b.kind=.normal)
 (BD:∀t d,(qG p c).wp P (fun e a' w'=>e=.ret/\K t d a' w') a<|re w t d)
 (ND:∀a' w' l,On w w'->bT (B.cut w'.heap.size) a'.tmps->a'.defers=[]->(∃t d t' j,K t d a'<|re w' t' j)->Reach B P (b.at a'<|.code S::l) cs w' Q cs2):
 Reach B P (b.at a<|.code c::k) cs w Q cs2:=
 ab8 (z:=true) (K:=fun t d e a' w'=>e=.ret/\K t d a' w') L C (MQ p c hS) hc ha hd qy hk (fun t d=>aEq (BD t d) fun e a' w' hq=>⟨.inr hq.1,hq⟩)
  (fun _ _ _ _ _ ⟨_,_,_,_,e,_⟩=>by cases e) (fun _=>dh) (fun h=>by cases h)
  (fun _ a' w' l h1 h2 h3 ⟨t,d,t',j,_,hK⟩=>ND a' w' l h1 h2 h3 ⟨t,d,t',j,hK⟩)
end au
end
end Go.Proofs.YtkelpcjiediamaaGreat
