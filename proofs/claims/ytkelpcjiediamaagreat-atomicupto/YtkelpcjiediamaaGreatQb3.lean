import Derived.Test.YtkelpcjiediamaaGreatQb2
import Derived.Conc.Beside
import Derived.Conc.Listed
set_option maxRecDepth 100000
set_option maxHeartbeats 0
set_option linter.all false
namespace Go.Proofs.YtkelpcjiediamaaGreat
def aCJ:=@Go.Conc.mem_seen
def aCL:=@Go.Result.ok.injEq
def aDs:=@Go.Sem.runT_fst
open Go renaming Frame→aV,Program→dO,TypeId→bW,Value→aj,World→ah,stepG→aW,undef→ag
open Option renaming none→af,some→ae
section
namespace ai
open Go Go.Conc
variable{B:bP}{P:dO}
def apv{α:Type}:∀(a:Ask α) (w:ah),(w.ask a).2.heap=w.heap:=by
 intro a;induction a with
 |done a=>intro w;rfl
 |ask what range k ih=>
  intro w;unfold World.ask;simp only[];split
  ·exact ih 0 w
  ·exact ih _ {w with drawn:=w.drawn+1}
def af5(w:ah)(c:Sys):(w.sys c).2.heap=w.heap:=by
 have h:=apv (Kernel.perform c w.os) w;unfold World.sys;generalize w.ask (Kernel.perform c w.os)=x at h;obtain⟨⟨r,os⟩,w1⟩:=x;simp only at h;split
 ·rfl
 ·rename_i heq;simp only[tV]at heq;obtain⟨⟨rfl,rfl⟩,rfl⟩:=heq;exact h
variable{w w1:ah}{at_ a:Addr}{u:bW}{v:aj}{b:Bool}{l:List Addr}{o:Obj}{B':bP}
def apw{k:Addr}(h:w.viewStore P at_ u k v b=.ok (w1,l)):w1.heap.size=w.heap.size:=by
 unfold World.viewStore at h;simp only[bind,Except.bind,pure,Except.pure]at h;repeat' split at h
 all_goals first|cases h|skip
 all_goals simp
def apx(h:w.farStore P a v b=.ok (w1,l)):w1.heap.size=w.heap.size:=by
 unfold World.farStore at h;split at h
 ·split at h
  ·rename_i hv;cases h;exact apw hv
  ·cases h
 ·cases h
def af6(w:ah)(a:Addr)(n:Nat):(w.freeze a n).heap.size=w.heap.size:=by unfold World.freeze;split<;>simp
def af7{α:Type}{s:Sem α}:∀{w w':ah} {a:α},s.run P w=.ok a w'->w.heap.size<=w'.heap.size:=by
 induction s with
 |pure a=>intro w w' x h;simp only[Sem.run,aCL]at h;rw[h.2];exact bV _
 |load m a k ih=>
  intro w w' x h;simp only[Sem.run]at h;split at h
  ·exact ih _ h
  ·split at h
   ·exact ih _ h
   ·cases h
 |store m a v k ih=>
  intro w w' x h;have key:∀w1:ah,w1.heap.size=w.heap.size->k.run P w1=.ok x w'->w.heap.size<=w'.heap.size:=fun w1 e hk=>e▸ih hk;by_cases hv:(∃y,v=.agg y)\/(∃y,v=.tuple y)
  ·rcases hv with⟨y,rfl⟩|⟨y,rfl⟩<;>simp[Sem.run]at h
  ·have fU:(Sem.store m a v k).run P w=match w.cell? a with
    |some _=>if w.frozen? a then .halt (.unsupported<|.unsafePointer "a write to bytes that a string shares") w else k.run P (w.setCell a v)
    |none=>match w.farStore P a v (m== .atomic)with
     | .ok (w,_)=>k.run P w
     | .error h=>.halt h w:=by
    cases v<;>first|rfl|simp at hv
   rw[fU]at h;split at h
   ·split at h
    ·cases h
    ·exact key _ (by simp) h
   ·split at h
    ·rename_i hf;exact key _ (apx hf) h
    ·cases h
 |new o k ih=>intro w w' x h;have:=ih _ h;simp at this;omega
 |shape r k ih=>intro w w' x h;exact ih _ h
 |freeze a n k ih=>intro w w' x h;have:=ih h;rw[af6]at this;exact this
 |frozen a k ih=>intro w w' x h;exact ih _ h
 |getObj r k ih=>
  intro w w' x h;simp only[Sem.run]at h;split at h
  ·cases h
  ·exact ih _ h
  ·cases h
 |setObj r o k ih=>
  intro w w' x h;simp only[Sem.run]at h;split at h
  ·cases h
  ·have:=ih h;simpa using this
  ·cases h
 |choose q k ih=>
  intro w w' x h;simp only[Sem.run]at h;split at h
  ·exact ih _ h
  ·exact ih _ (w:={w with drawn:=w.drawn+1}) h
 |sys c k ih=>
  intro w w' x h;have:=ih _ h;rw[af5]at this;exact this
 |program k ih=>intro w w' x h;exact ih _ h
 |mark m k ih=>intro w w' x h;exact ih h
 |halt x=>intro w w' a h;cases h
def jG(B:bP)(w:ah):Prop:=∀b o,¬B.bK b->w.heap[b]? =ae o->lN B o
def jG.cell(h:jG B w)(ha:¬B.bK a.block)(hc:w.cell? a=ae v):az B v:=by
 unfold World.cell? at hc;split at hc
 ·rename_i c e fz hb;have ho:bG B c:=h _ _ ha hb;split at hc
  ·cases hc
  ·exact ho v<|JJ hc
 ·cases hc
def jG.setCell(h:jG B w)(hv:az B v):jG B (w.setCell a v):=by
 intro b o hb ho;obtain⟨o',sS,hx⟩:=Vs ho;have hk:=h _ _ hb sS;rcases hx with rfl|⟨_,rfl⟩
 ·exact hk
 ·cases o'<;>first|exact hk|skip;rename_i c e fz;show bG B _;split
  ·exact hk
  ·exact bG.set (show bG B c from hk) hv _
def jG.freeze(h:jG B w){n:Nat}:jG B (w.freeze a n):=by
 unfold World.freeze;split
 ·exact h
 intro b o hb ho;obtain⟨o',sS,hx⟩:=Vs ho;have hk:=h _ _ hb sS;rcases hx with rfl|⟨_,rfl⟩
 ·exact hk
 ·cases o'<;>exact hk
def jG.push(h:jG B w)(ho:lN B o):jG B {w with heap:=w.heap.push o}:=by
 intro b x hb hx;simp only[PE]at hx;split at hx
 ·cases hx;exact ho
 ·exact h _ _ hb hx
def jG.setObj(h:jG B w){r:Nat}(ho:lN B o):jG B {w with heap:=w.heap.setIfInBounds r o}:=by
 intro b x hb hx;simp only[adC]at hx;split at hx
 ·split at hx
  ·cases hx;exact ho
  ·cases hx
 ·exact h _ _ hb hx
def jG.dV(h:jG B w)(ha:¬B.bK a.block):w.heap[a.block]? ≠ae (.view at_ u):=fun e=>(h _ _ ha e).elim
def Clean.CV{α:Type}{ok:α->Prop}{s:Sem α}(h:Clean B P ok s):∀{w w':ah} {a:α},jG B w->s.run P w=.ok a w'->(∀b,B.bK b->b<w.heap.size\/w'.heap.size<=b)->ok a/\jG B w':=by
 induction s with
 |pure a=>intro w w' x hw hr _;simp only[Sem.run,aCL]at hr;exact⟨hr.1▸h,hr.2▸hw⟩
 |load m a k ih=>
  intro w w' x hw hr hn;simp only[Sem.run]at hr;split at hr
  ·rename_i v hc;exact ih v (h.2 v<|hw.cell h.1 hc) hw hr hn
  ·split at hr
   ·rename_i hf;unfold World.farLoad at hf;split at hf
    ·rename_i e;exact absurd e<|hw.dV h.1
    ·cases hf
   ·cases hr
 |store m a v k ih=>
  intro w w' x hw hr hn;by_cases hv:(∃y,v=.agg y)\/(∃y,v=.tuple y)
  ·rcases hv with⟨y,rfl⟩|⟨y,rfl⟩<;>simp[Sem.run]at hr
  ·have fU:(Sem.store m a v k).run P w=match w.cell? a with
    |some _=>if w.frozen? a then .halt (.unsupported<|.unsafePointer "a write to bytes that a string shares") w else k.run P (w.setCell a v)
    |none=>match w.farStore P a v (m== .atomic)with
     | .ok (w,_)=>k.run P w
     | .error h=>.halt h w:=by
    cases v<;>first|rfl|simp at hv
   rw[fU]at hr;split at hr
   ·split at hr
    ·cases hr
    ·exact ih h.2.2 (hw.setCell h.2.1) hr<|by simpa using hn
   ·split at hr
    ·rename_i hf;unfold World.farStore at hf;split at hf
     ·rename_i e;exact absurd e<|hw.dV h.1
     ·cases hf
    ·cases hr
 |new o k ih=>
  intro w w' x hw hr hn;have hz:=af7 (s:=k w.heap.size) hr;simp only[Array.size_push]at hz;have hf:¬B.bK w.heap.size:=fun hs=>by rcases hn _ hs with e|e<;>omega
  exact ih w.heap.size (h.2 _ hf) (hw.push h.1) hr fun b hb=>by
   rcases hn b hb with e|e
   ·exact .inl (by simp<;>omega)
   ·exact .inr e
 |shape r k ih=>intro w w' x hw hr hn;exact ih _ (h _) hw hr hn
 |freeze a n k ih=>intro w w' x hw hr hn;exact ih h hw.freeze hr (by rw[af6];exact hn)
 |frozen a k ih=>intro w w' x hw hr hn;exact ih _ (h _) hw hr hn
 |getObj r k ih=>
  intro w w' x hw hr hn;simp only[Sem.run]at hr;split at hr
  ·cases hr
  ·rename_i o _ hb;exact ih o (h.2 o<|hw _ _ h.1 hb) hw hr hn
  ·cases hr
 |setObj r o k ih=>
  intro w w' x hw hr hn;simp only[Sem.run]at hr;split at hr
  ·cases hr
  ·exact ih h.2.2 (hw.setObj h.2.1) hr<|by simpa using hn
  ·cases hr
 |choose q k ih=>
  intro w w' x hw hr hn;simp only[Sem.run]at hr;split at hr
  ·exact ih _ (h _) hw hr hn
  ·exact ih _ (h _) (w:={w with drawn:=w.drawn+1}) hw hr hn
 |sys c k ih=>
  intro w w' x hw hr hn;have e:=af5 w c;exact ih _ (h.2 _) (w:=(w.sys c).2) (fun b o hb ho=>hw b o hb<|e▸ho) hr (by rw[e];exact hn)
 |program k ih=>intro w w' x hw hr hn;exact ih P h hw hr hn
 |mark m k ih=>intro w w' x hw hr hn;exact ih h.2 hw hr hn
 |halt x=>intro w w' a hw hr hn;cases hr
def az.mono{B:bP}(hs:∀b,B.bK b->B'.bK b)(hl:B'.let_=B.let_)(h:az B' v):az B v:=by
 induction h with
 |bool=>exact .bool
 |int=>exact .int
 |float=>exact .float
 |string=>exact .string
 |pointer h=>exact .pointer fun x hx z=>h x hx<|hs _ z
 |slice h=>exact .slice fun x hx z=>h x hx<|hs _ z
 |map h=>exact .map fun x hx z=>h x hx<|hs _ z
 |chan h=>exact .chan fun x hx z=>h x hx<|hs _ z
 |func h _ _ ha hc=>exact .func (hl▸h) ha hc
 |nilFunc=>exact .nilFunc
 |iface _ h=>exact .iface h
 |nilIface=>exact .nilIface
 |agg _ h=>exact .agg h
 |tuple _ h=>exact .tuple h
def lN.mono{B:bP}(hs:∀b,B.bK b->B'.bK b)(hl:B'.let_=B.let_)(h:lN B' o):lN B o:=by
 cases o with
 |cells c t f=>exact fun v hv=>(h v hv).mono hs hl
 |map es n=>exact fun e he=>⟨(h e he).1.mono hs hl,(h e he).2.mono hs hl⟩
 |chan a b c d e f=>exact fun v hv=>(h v hv).mono hs hl
 |stringIter _ _=>trivial
 |mapIter m a b c=>exact fun r hr z=>h r hr<|hs _ z
 |_=>first|exact h.elim|exact fun z=>h (hs _ z)|trivial
def bP.cut(B:bP)(n:Nat):bP:=⟨fun b=>B.bK b\/n<=b,B.let_,B.wg⟩
structure oq(B:bP)(w:ah):Prop where
 obj:jG (B.cut w.heap.size) w
 low:∀b,B.bK b->1<=b/\b<w.heap.size
 lQ:5<=w.heap.size
variable{n:Nat}
def oq.okW(h:oq B w):OkW B w:=
 ⟨fun b o hb ho=>(h.obj b o (fun z=>z.elim hb fun y=>absurd (iU.1 ho).1<|by omega) ho).mono (B:=B) (B':=B.cut w.heap.size) (fun _ z=>.inl z) rfl,fun b hb=>(h.low b hb).2⟩
def oq.of{w':ah}(h:oq B w)(hz:w.heap.size<=w'.heap.size)(ho:jG (B.cut w'.heap.size) w'):oq B w':=
 ⟨ho,fun b hb=>⟨(h.low b hb).1,dY (h.low b hb).2 hz⟩,dP h.lQ hz⟩
def QB(h:jG (B.cut w.heap.size) w)(hn:w.heap.size<=n):jG (B.cut n) w:=fun b o hb ho=>
 (h b o (fun z=>z.elim (fun y=>hb<|.inl y) fun y=>absurd (iU.1 ho).1<|by omega) ho).mono (B:=B.cut n) (B':=B.cut w.heap.size) (fun _ z=>Or.imp id (fun y=>dP hn y) z) rfl
def oq.re(h:oq B w)(t:Nat->Question->Nat)(d:Nat):oq B (re w t d):=⟨h.obj,h.low,h.lQ⟩
def NK{m:Nat}(h:n<=m):∀b,(B.cut m).bK b->(B.cut n).bK b:=fun _ z=>Or.imp id (fun y=>dP h y) z
def aam{α:Type}{s:Sem α}{r:Result α}{gs:Array Event}(h:ZZ P s w n r gs):s.run P w=r.re w.tape (w.drawn+n):=by
 have:=h w.tape w.drawn (fun i _=>rfl) #[];rw[show ai.re w w.tape w.drawn=w from rfl]at this;rw[<-aDs P s w #[],this]
end ai
end
section
namespace ai
open Go Go.Conc
variable{B:bP}{P:dO}
def codeOk(P:dO)(l:FuncId->Bool):Code->Bool
 | .skip| .exit _| .label _| .goto _| .ret| .refuse _=>true
 | .region _ ops _=>ops.all fun o=>ry P l o.op
 | .seq a b=>codeOk P l a&&codeOk P l b
 | .cond _ a b=>codeOk P l a&&codeOk P l b
 | .block _ b| .loop b| .scope b=>codeOk P l b
 | .rangeFunc _ _ _ _=>false
def ql(P:dO)(l:FuncId->Bool):Item->Bool
 | .code c| .inLoop c| .inScope c=>codeOk P l c
 | .inBlock _=>true
 | .inRegion ops _=>ops.all fun o=>ry P l o.op
 |_=>false
def QC(P:dO)(l:FuncId->Bool)(f:FuncId):Bool:=
 match P.funcs[f]? with
 |none=>false
 |some fn=>(fn.name== "runtime.NumGoroutine")==false&&match fn.body with
  |none=>false
  |some b=>codeOk P l b
structure nI(B:bP)(P:dO):Prop extends Fit B P where
 fns:∀f,B.let_ f=true->QC P B.let_ f=true
def nI.fn(L:nI B P){f:FuncId}(h:B.let_ f=true):∃fn b,P.funcs[f]? =ae fn/\(fn.name== "runtime.NumGoroutine")=false/\fn.body=ae b/\codeOk P B.let_ b=true:=by
 have:=L.fns f h;unfold QC at this;split at this
 ·cases this
 ·rename_i fn pO;simp only[lX,beq_iff_eq]at this;obtain⟨h1,h2⟩:=this;split at h2
  ·cases h2
  ·rename_i b hb;exact⟨fn,b,pO,h1,hb,h2⟩
def nI.aan(L:nI B P):VH B P:=⟨fun f h=>by
 obtain⟨fn,b,h1,h2,h3,_⟩:=L.fn h;exact⟨fn,h1,h2,by rw[h3];rfl⟩⟩
structure eU(B:bP)(P:dO)(fr:aV):Prop where
 fn:∃fn,P.funcs[fr.fn]? =ae fn
 tmps:bG B fr.tmps
 todo:∀it∈fr.todo,ql P B.let_ it=true
 defers:fr.defers=[]
 mode:fr.mode=.run\/fr.mode=.returning
 kind:fr.kind=.normal
 round:fr.roundOf=af
variable{fr:aV}{l:Nat}
def eU.env(F:Fit B P)(h:eU B P fr):Env B P fr.eval:=⟨fun x hx=>by
 cases x with
 |tmp t=>exact h.tmps.getD ru
 |const v=>exact af2 hx
 |global g=>
  refine .qI fun hs=>?_;have:=F.globals _ hs;simp[Kt]at hx;simp only at this;omega
 |func f=>exact .func hx bG.nil bG.nil⟩
def eU.finish(h:eU B P fr){v:aj}(hv:az B v):eU B P (fr.finish v):=by
 obtain⟨fn,tmps,todo,defers,mode,kind,round⟩:=fr;unfold Frame.finish;split
 ·rename_i ops i rest k heq;obtain rfl:todo=_:=heq;refine⟨h.fn,?_,?_,h.defers,h.mode,h.kind,h.round⟩
  ·dsimp only;split
   ·exact bG.set h.tmps hv _
   ·exact h.tmps
  ·intro it iY;rcases jC.1 iY with rfl|iY
   ·exact h.todo (.inRegion ops<|i::rest)<|by simp
   ·exact h.todo it<|by simp[iY]
 all_goals first
  |exact h
  |(rename_i heq
    have ht:=h.todo
    rw[heq]at ht
    have:=ht _<|List.mem_cons_self ..
    simp[ql]at this)
def eU.enter(L:nI B P){f:FuncId}{args:Array aj}(hf:B.let_ f=true)(ha:bG B args):eU B P (Frame.enter P f args .normal):=by
 obtain⟨fn,b,h1,h2,h3,h4⟩:=L.fn hf;refine⟨⟨fn,h1⟩,?_,?_,rfl,.inl rfl,rfl,rfl⟩
 ·refine bG.append ha fun v hv=>?_;obtain⟨_,rfl⟩:=MQ.1 hv;exact ru
 ·intro it iY;simp only[Frame.enter,h1,Option.bind_some,h3,gQ,nY]at iY;subst iY;exact h4
def eU.to(h:eU B P fr){k:List Item}(hk:∀it∈k,ql P B.let_ it=true):eU B P {fr with todo:=k}:=⟨h.fn,h.tmps,hk,h.defers,h.mode,h.kind,h.round⟩
def aao{id:Nat}:∀{k k':List Item},(∀it∈k,ql P B.let_ it=true)->exitTo id k=ae k'->∀it∈k',ql P B.let_ it=true
 |[],k',_,h=>by simp[exitTo]at h
 |x::k,k',hk,h=>by
  have dC:∀it∈k,ql P B.let_ it=true:=fun it iY=>hk it (by simp[iY]);cases x with
  |inBlock XZ=>
   simp only[exitTo]at h;split at h
   ·cases h;exact dC
   ·exact aao dC h
  |_=>exact aao dC<|by simpa[exitTo]using h
def aap:∀{c r:Code},codeOk P B.let_ c=true->findLabel c l=ae r->codeOk P B.let_ r=true
 | .seq a b,r,hc,h=>by
   simp only[codeOk,lX]at hc;simp only[findLabel]at h;split at h
   ·cases h;simp only[codeOk,lX];exact⟨aap hc.1 ‹_›,hc.2⟩
   ·exact aap hc.2 h
 | .label l',r,hc,h=>by
   simp only[findLabel]at h;split at h
   ·cases h;rfl
   ·cases h
 | .skip,_,_,h| .region ..,_,_,h| .cond ..,_,_,h| .block ..,_,_,h| .loop _,_,_,h| .rangeFunc ..,_,_,h| .exit _,_,_,h| .scope _,_,_,h| .goto _,_,_,h| .ret,_,_,h| .refuse _,_,_,h=>by simp[findLabel]at h
def aaq:∀{k k':List Item},(∀it∈k,ql P B.let_ it=true)->gotoIn l k=ae k'->∀it∈k',ql P B.let_ it=true
 |[],k',_,h=>by simp[gotoIn]at h
 |x::k,k',hk,h=>by
  have dC:∀it∈k,ql P B.let_ it=true:=fun it iY=>hk it (by simp[iY]);cases x with
  |inScope body=>
   simp only[gotoIn]at h;split at h
   ·cases h;have hb:=hk (.inScope body) (by simp);intro it iY;rcases jC.1 iY with rfl|iY
    ·exact aap (B:=B) hb ‹_›
    ·exact hk it iY
   ·exact aaq dC h
  |_=>exact aaq dC<|by simpa[gotoIn]using h
def IA(F:Fit B P){fn:Func}{tmps:Array aj}(h:bG B tmps):Clean B P (az B) (results fn tmps):=by
 refine aJ (afP (ok:=az B) _ fun r=>?_) fun vs X0=>aO ?_
 ·split
  ·exact aO<|h.getD ru
  ·exact aJ (afF F<|h.getD ru) fun a ha=>afD ha
 ·split
  ·exact X0 _<|PH _
  ·exact .tuple X0
inductive TS where
 |next (fr:aV) (fs:List aV) (w:ah) (es:Array Event)
 |panic (fr:aV) (chain:List PanicEntry) (fs:List aV) (w:ah) (es:Array Event)
 |ended (o:Outcome) (w:ah) (es:Array Event)
def TS.mF(t:Nat->Question->Nat)(d:Nat)(cs:List aV):TS->GStep
 | .next fr fs w es=>.go {frame:=fr,callers:=fs++cs,status:=.running,dying:=af} (re w t d) es
 | .panic fr chain fs w es=>.go {frame:=fr.raise chain,callers:=fs++cs,status:=.running,dying:=af} (re w t d) es
 | .ended o w es=>.ended o (re w t d) es
def TS.zV(B:bP)(P:dO)(w:ah):TS->Prop
 | .next fr fs w' es=>eU B P fr/\(∀f∈fs,eU B P f)/\OkW B w'/\w.heap.size<=w'.heap.size/\w'.os=w.os/\w'.output=w.output/\∀e∈es,Ei B w'.heap.size e
 | .panic fr _ fs _ _=>eU B P fr/\∀f∈fs,eU B P f
 | .ended _ _ _=>True
def TS.keeps(B:bP)(P:dO)(w:ah):TS->Prop
 | .next fr fs w' _=>(∀b,B.bK b->b<w.heap.size\/w'.heap.size<=b)->eU B P fr/\(∀f∈fs,eU B P f)/\jG B w'
 |_=>True
def rC(fr:aV):Prop:=∃ops i r k,fr.todo=.inRegion ops (i::r)::k
def TS.shape(fr:aV)(fs:List aV):TS->Prop
 | .next _ kN _ _=>kN=fs\/(kN=fr::fs/\rC fr)\/∃c,fs=c::kN
 |_=>True
def aar(n:Nat)(w:ah)(t:Nat->Question->Nat)(d:Nat):Prop:=∀i,i<n->t (d+i)=w.tape (w.drawn+i)
structure xI(B:bP)(P:dO)(fr:aV)(fs:List aV)(w:ah)(n:Nat)(T:TS):Prop where
 eq:∀t d,aar n w t d->∀cs,aW P true {frame:=fr,callers:=fs++cs,status:=.running,dying:=af} (re w t d)=T.mF t (d+n) cs
 tight:∀B':bP,nI B' P->B'.let_=B.let_->eU B' P fr->(∀f∈fs,eU B' P f)->jG B' w->T.keeps B' P w
 shape:T.shape fr fs
 zV:T.zV B P w
variable{fs:List aV}{w:ah}{k:List Item}
def vJ{fr':aV}(h':∀B':bP,B'.let_=B.let_->eU B' P fr->eU B' P fr')(h:eU B P fr)(hs:∀f∈fs,eU B P f)(hw:OkW B w)
 (eq:∀w cs,aW P true {frame:=fr,callers:=fs++cs,status:=.running,dying:=af} w=.go {frame:=fr',callers:=fs++cs,status:=.running,dying:=af} w #[]):xI B P fr fs w 0 (.next fr' fs w #[]):=
 ⟨fun t d _ cs=>by rw[eq];rfl,fun B' _ hl h1 h2 h3 _=>⟨h' B' hl h1,h2,h3⟩,.inl rfl,h' B rfl h,hs,hw,bV _,rfl,rfl,by simp⟩
def VI(o:Outcome)
 (eq:∀w cs,aW P true {frame:=fr,callers:=fs++cs,status:=.running,dying:=af} w=.ended o w #[]):xI B P fr fs w 0 (.ended o w #[]):=
 ⟨fun t d _ cs=>by rw[eq];rfl,fun _ _ _ _ _ _=>trivial,trivial,trivial⟩
def apy(L:nI B P){s:Sem Next}(uY:rC fr)(h:eU B P fr)(fU:fr.mode=.run)(hs:∀f∈fs,eU B P f)(hw:OkW B w)(hc:∀B':bP,nI B' P->B'.let_=B.let_->eU B' P fr->Clean B' P (En B') s)
 (eq:∀w cs,aW P true {frame:=fr,callers:=fs++cs,status:=.running,dying:=af} w=stepG.apply P true fr (fs++cs) af s w):∃n T,xI B P fr fs w n T:=by
 obtain⟨n,r,gs,h1,h2⟩:=(hc B L rfl h).Iz hw;have nV:=aam h1;have wu:(fr.kind== .early)=false:=by rw[h.kind];rfl
 cases r with
 |ok nx w'=>
  obtain⟨hn,uz,dS,Tj,yz,dI⟩:=h2;cases nx with
  |value v=>
   refine⟨n,.next (fr.finish v) fs w'<|seen P fr.fn gs,fun t d ha cs=>?_,fun B' L' hl g1 g2 g3 g4=>(let ⟨k1,k2⟩:=(hc B' L' hl g1).CV g3 nV g4;⟨g1.finish k1,g2,k2⟩),.inl rfl,h.finish hn,hs,uz,dS,Tj,yz,fun e he=>dI e<|aCJ he⟩;rw[eq];unfold stepG.apply;simp only[if_true,h1 t d ha #[],Result.re,wu,lq,lu,GStep.after,TS.mF,tN,tK]
  |skip=>
   refine⟨n,.next (fr.finish ag) fs w'<|seen P fr.fn gs,fun t d ha cs=>?_,fun B' L' hl g1 g2 g3 g4=>(let ⟨_,k2⟩:=(hc B' L' hl g1).CV g3 nV g4;⟨g1.finish ru,g2,k2⟩),.inl rfl,h.finish ru,hs,uz,dS,Tj,yz,fun e he=>dI e<|aCJ he⟩;rw[eq];unfold stepG.apply;simp only[if_true,h1 t d ha #[],Result.re,wu,lq,lu,GStep.after,TS.mF,tN,tK]
  |enter f args=>
   refine⟨n,.next (Frame.enter P f args .normal) (fr::fs) w'<|seen P fr.fn gs,fun t d ha cs=>?_,fun B' L' hl g1 g2 g3 g4=>(let ⟨k1,k2⟩:=(hc B' L' hl g1).CV g3 nV g4;⟨eU.enter L' k1.1 k1.2,fun f hf=>(jC.1 hf).elim (fun e=>e▸g1)<|g2 f,k2⟩),.inr<|.inl ⟨rfl,uY⟩,eU.enter L hn.1 hn.2,?_,uz,dS,Tj,yz,fun e he=>dI e<|aCJ he⟩
   ·rw[eq];unfold stepG.apply;simp only[if_true,h1 t d ha #[],Result.re,wu,lq,lu,GStep.after,TS.mF,tN,tK,mV];split
    ·rename_i heq;have ht:=h.todo;rw[heq]at ht;have:=ht _<|List.mem_cons_self ..;simp[ql]at this
    ·rfl
   ·intro f hf;rcases jC.1 hf with rfl|hf
    ·exact h
    ·exact hs f hf
  |_=>exact hn.elim
 |halt x w'=>
  cases x with
  |panic v=>
   refine⟨n,.panic fr [{v,recovered:=false}] fs w'<|seen P fr.fn gs,fun t d ha cs=>?_,fun _ _ _ _ _ _=>trivial,trivial,h,hs⟩;rw[eq];unfold stepG.apply;simp only[if_true,h1 t d ha #[],Result.re,wu,lq,lu,GStep.after,TS.mF,tN,tK]
  |stuck z=>
   refine⟨n,.ended (.stuck z<|fr.pos P) w'<|seen P fr.fn gs,fun t d ha cs=>?_,fun _ _ _ _ _ _=>trivial,trivial,trivial⟩;rw[eq];unfold stepG.apply;simp only[if_true,h1 t d ha #[],Result.re,wu,lq,lu,GStep.after,TS.mF,tN,tK]
  |unsupported u=>
   refine⟨n,.ended (.unsupported u<|fr.pos P) w'<|seen P fr.fn gs,fun t d ha cs=>?_,fun _ _ _ _ _ _=>trivial,trivial,trivial⟩;rw[eq];unfold stepG.apply;cases u<;>first|exact h2.elim|simp only[if_true,h1 t d ha #[],Result.re,wu,lq,lu,GStep.after,TS.mF,tN,tK]
  |_=>exact h2.elim
def apz(L:nI B P){ops:Array Oper}{i:Nat}{r:List Nat}(h:eU B P fr)(fU:fr.mode=.run)(hs:∀f∈fs,eU B P f)(hw:OkW B w)(ht:fr.todo=.inRegion ops (i::r)::k):∃n T,xI B P fr fs w n T:=by
 by_cases EU:((ops[i]?).map (Region.wanted · (yielded ops fr.tmps))).getD false=true
 ·cases ho:ops[i]? with
  |none=>rw[ho]at EU;simp at EU
  |some o=>
   have bD:ry P B.let_ o.op=true:=by
    have:=h.todo (.inRegion ops<|i::r) (by rw[ht];simp);simp only[ql]at this;obtain⟨hi,rfl⟩:=iU.1 ho;exact(Fz.1 this) i hi
   refine apy L ⟨_,_,_,_,ht⟩ h fU hs hw (fun B' L' hl h'=>aal L'.toFit L'.aan (h'.env L'.toFit) (by rw[hl];exact bD)) fun w cs=>?_;obtain⟨fn,tmps,todo,defers,mode,kind,round⟩:=fr;obtain rfl:round=none:=h.round;obtain rfl:mode=.run:=fU;obtain rfl:todo=.inRegion ops (i::r)::k:=ht;have uy:Region.wanted o (yielded ops tmps)=true:=by simpa[ho]using EU
   simp[aW,stepG.exec,stepG.oper,Frame.oper?,ho,uy]
 ·refine⟨0,_,vJ (fr':=fr.finish ag) (fun _ _ h'=>h'.finish ru) h hs hw fun w cs=>?_⟩;obtain⟨fn,tmps,todo,defers,mode,kind,round⟩:=fr;obtain rfl:round=none:=h.round;obtain rfl:mode=.run:=fU;obtain rfl:todo=.inRegion ops (i::r)::k:=ht;simp only[aW,stepG.exec];rw[if_neg EU]
def ou{l:FuncId->Bool}{a:Item}(h:ql P l a=true)(hk:∀x∈k,ql P l x=true):∀x∈a::k,ql P l x=true:=by
 intro x hx;rcases jC.1 hx with rfl|hx
 ·exact h
 ·exact hk x hx
def Gg(fr:aV)(fs:List aV):Prop:=fr.mode=.run\/fs≠[]
def stp(L:nI B P)(h:eU B P fr)(hs:∀f∈fs,eU B P f)(hw:OkW B w)(hb:Gg fr fs):∃n T,xI B P fr fs w n T:=by
 have dA:=h;obtain⟨fn,tmps,todo,defers,mode,kind,round⟩:=fr;obtain rfl:round=none:=h.round;obtain rfl:defers=[]:=h.defers;obtain rfl:kind=.normal:=h.kind;rcases h.mode with hm|hm
 ·obtain rfl:mode=.run:=hm;cases todo with
  |nil=>exact⟨0,_,vJ (fr':=⟨fn,tmps,[],[],.returning,.normal,af⟩) (fun _ _ h'=>⟨h'.fn,h'.tmps,h'.todo,rfl,.inr rfl,rfl,rfl⟩) dA hs hw fun w cs=>by simp[aW,stepG.exec]⟩
  |cons it k=>
   have iY:=h.todo it (by simp);have hk:∀x∈k,ql P B.let_ x=true:=fun x hx=>h.todo x (by simp[hx]);cases it with
   |inBlock id=>exact⟨0,_,vJ (fun _ hl h'=>h'.to (by rw[hl];exact hk)) dA hs hw fun w cs=>by simp[aW,stepG.exec]⟩
   |inScope c=>exact⟨0,_,vJ (fun _ hl h'=>h'.to (by rw[hl];exact hk)) dA hs hw fun w cs=>by simp[aW,stepG.exec]⟩
   |inLoop c=>exact⟨0,_,vJ (fun _ hl h'=>h'.to (k:=.code c:: .inLoop c::k) (by rw[hl];exact(ou iY<|ou iY hk))) dA hs hw fun w cs=>by simp[aW,stepG.exec]⟩
   |inRegion ops todo=>
    cases todo with
    |nil=>exact⟨0,_,vJ (fun _ hl h'=>h'.to (by rw[hl];exact hk)) dA hs hw fun w cs=>by simp[aW,stepG.exec]⟩
    |cons i r=>exact apz L dA rfl hs hw rfl
   |code c=>
    cases c with
    |skip=>exact⟨0,_,vJ (fun _ hl h'=>h'.to (by rw[hl];exact hk)) dA hs hw fun w cs=>by simp[aW,stepG.exec]⟩
    |label l=>exact⟨0,_,vJ (fun _ hl h'=>h'.to (by rw[hl];exact hk)) dA hs hw fun w cs=>by simp[aW,stepG.exec]⟩
    |seq a b=>
     simp only[ql,codeOk,lX]at iY;exact⟨0,_,vJ (fun _ hl h'=>h'.to (k:=.code a:: .code b::k) (by rw[hl];exact(ou iY.1<|ou iY.2 hk))) dA hs hw fun w cs=>by simp[aW,stepG.exec]⟩
    |block id b=>exact⟨0,_,vJ (fun _ hl h'=>h'.to (k:=.code b:: .inBlock id::k) (by rw[hl];exact(ou iY<|ou rfl hk))) dA hs hw fun w cs=>by simp[aW,stepG.exec]⟩
    |loop b=>exact⟨0,_,vJ (fun _ hl h'=>h'.to (k:=.code b:: .inLoop b::k) (by rw[hl];exact(ou iY<|ou iY hk))) dA hs hw fun w cs=>by simp[aW,stepG.exec]⟩
    |scope b=>exact⟨0,_,vJ (fun _ hl h'=>h'.to (k:=.code b:: .inScope b::k) (by rw[hl];exact(ou iY<|ou iY hk))) dA hs hw fun w cs=>by simp[aW,stepG.exec]⟩
    |cond c a b=>
     simp only[ql,codeOk,lX]at iY;by_cases hc:∃t,Frame.eval ⟨fn,tmps,.code (.cond c a b)::k,[],.run,.normal,af⟩ c=.bool t
     ·obtain⟨t,ht⟩:=hc;have pq:∀x∈Item.code (if t then a else b)::k,ql P B.let_ x=true:=by
       intro x hx;rcases jC.1 hx with rfl|hx
       ·cases t
        ·exact iY.2
        ·exact iY.1
       ·exact hk x hx
      exact⟨0,_,vJ (fun _ hl h'=>h'.to (k:=.code (if t then a else b)::k) (by rw[hl];exact pq)) dA hs hw fun w cs=>by simp[aW,stepG.exec,ht]⟩
     ·refine⟨0,_,VI (.stuck "cond: bool expected"<|Frame.pos P ⟨fn,tmps,.code (.cond c a b)::k,[],.run,.normal,af⟩) fun w cs=>?_⟩;simp only[aW,stepG.exec];split
      ·rename_i ht;exact absurd ⟨_,ht⟩ hc
      ·rfl
    |exit id=>
     cases he:exitTo id k with
     |some k'=>exact⟨0,_,vJ (fun _ hl h'=>h'.to (by rw[hl];exact(aao hk he))) dA hs hw fun w cs=>by simp[aW,stepG.exec,he]⟩
     |none=>exact⟨0,_,VI _ fun w cs=>by simp[aW,stepG.exec,he];rfl⟩
    |goto l=>
     cases he:gotoIn l k with
     |some k'=>exact⟨0,_,vJ (fun _ hl h'=>h'.to (by rw[hl];exact(aaq hk he))) dA hs hw fun w cs=>by simp[aW,stepG.exec,he]⟩
     |none=>exact⟨0,_,VI _ fun w cs=>by simp[aW,stepG.exec,he];rfl⟩
    |rangeFunc _ _ _ _=>simp[ql,codeOk]at iY
    |ret=>exact⟨0,_,vJ (fr':=⟨fn,tmps,.code .ret::k,[],.returning,.normal,af⟩) (fun _ _ h'=>⟨h'.fn,h'.tmps,h'.todo,rfl,.inr rfl,rfl,rfl⟩) dA hs hw fun w cs=>by simp[aW,stepG.exec]⟩
    |refuse s=>exact⟨0,_,VI _ fun w cs=>by simp[aW,stepG.exec];rfl⟩
    |region id ops draw=>
     cases draw with
     |false=>exact⟨0,_,vJ (fun _ hl h'=>h'.to (k:=.inRegion ops (List.range ops.size)::k) (by rw[hl];exact(ou iY hk))) dA hs hw fun w cs=>by simp[aW,stepG.exec]⟩
     |true=>
      let t0:=Question.cut (.order fn id)<|w.tape w.drawn<|.order fn id
      refine⟨1,.next ⟨fn,tmps,.inRegion ops (Region.schedule (P.follows .mixedOrders) ops t0)::k,[],.run,.normal,af⟩ fs w #[],fun t d ha cs=>?_,fun B' _ hl g1 g2 g3 _=>⟨g1.to (by rw[hl];exact ou iY hk),g2,g3⟩,.inl rfl,dA.to<|ou iY hk,hs,hw,bV _,rfl,rfl,by simp⟩;have h0:=ha 0 (by omega);simp only[JM]at h0;simp only[aW,stepG.exec,MW,lq,lu,choose,Sem.run,Question.forced,TS.mF];simp only[re,h0];rfl
   |_=>simp[ql]at iY
 ·obtain rfl:mode=.returning:=hm;cases fs with
  |nil=>rcases hb with hb|hb<;>simp at hb
  |cons c fs=>
   obtain⟨fn',h1⟩:=h.fn;obtain⟨n,r,gs,h5,h6⟩:=(IA L.toFit (fn:=fn') h.tmps).Iz hw;have nV:=aam h5;have DJ:P.funcs[fn]? =ae fn':=h1;cases r with
   |ok v w'=>
    obtain⟨hn,uz,dS,Tj,yz,dI⟩:=h6;refine⟨n,.next (c.finish v) fs w'<|seen P fn gs,fun t d ha cs=>?_,fun B' L' hl g1 g2 g3 g4=>(let ⟨k1,k2⟩:=(IA L'.toFit (fn:=fn') g1.tmps).CV g3 nV g4;⟨(g2 c<|by simp).finish k1,fun f hf=>g2 f<|by simp[hf],k2⟩),.inr<|.inr ⟨c,rfl⟩,(hs c<|by simp).finish hn,fun f hf=>hs f<|by simp[hf],uz,dS,Tj,yz,fun e he=>dI e<|aCJ he⟩;simp only[aW,unwind,DJ,h5 t d ha #[],Result.re,doReturn,mV,GStep.after,TS.mF,tN,tK]
   |halt x w'=>
    cases x with
    |stuck z=>
     refine⟨n,.ended (.stuck z<|Frame.pos P ⟨fn,tmps,todo,[],.returning,.normal,af⟩) w'<|seen P fn gs,fun t d ha cs=>?_,fun _ _ _ _ _ _=>trivial,trivial,trivial⟩;simp only[aW,unwind,DJ,h5 t d ha #[],Result.re,GStep.after,TS.mF,tN,tK]
    |panic z=>
     refine⟨n,.ended (.stuck "return: the result variables cannot be read"<|Frame.pos P ⟨fn,tmps,todo,[],.returning,.normal,af⟩) w'<|seen P fn gs,fun t d ha cs=>?_,fun _ _ _ _ _ _=>trivial,trivial,trivial⟩;simp only[aW,unwind,DJ,h5 t d ha #[],Result.re,GStep.after,TS.mF,tN,tK]
    |unsupported u=>
     refine⟨n,.ended (.stuck "return: the result variables cannot be read"<|Frame.pos P ⟨fn,tmps,todo,[],.returning,.normal,af⟩) w'<|seen P fn gs,fun t d ha cs=>?_,fun _ _ _ _ _ _=>trivial,trivial,trivial⟩;simp only[aW,unwind,DJ,h5 t d ha #[],Result.re,GStep.after,TS.mF,tN,tK]
    |_=>exact h6.elim
end ai
end
end Go.Proofs.YtkelpcjiediamaaGreat
