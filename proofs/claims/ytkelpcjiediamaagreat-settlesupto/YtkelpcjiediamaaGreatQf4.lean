import Derived.Test.YtkelpcjiediamaaGreatQf2
import Derived.Test.YtkelpcjiediamaaGreatQf3
import Derived.Conc.Beside
import Derived.Conc.Listed
set_option maxRecDepth 100000
set_option maxHeartbeats 0
set_option linter.all false
namespace Go.Proofs.YtkelpcjiediamaaGreat
noncomputable section
def aFc:=@Go.Conc.mem_ofEvents
def aFj:=@Go.ConcN.upd_same
def aFl:=@Go.ConcN.upd_ne
def aFo:=@Go.Goroutine.mk.injEq
def aFw:=@Go.GStep.go.injEq
def aFz:=@Go.Conc.runT_crowd_go
def aFB:=@Go.wp_mono
def aFF:=@Go.Conc.Deaf_other
def aFG:=@Go.Conc.awake_of
def aFO:=@Go.Stepped.next.injEq
def aFP:=@Go.Conc.woken_quitsD
def aFW:=@Go.Conc.mem_seen
def aF0:=@Go.Result.ok.injEq
def aF1:=@Go.Conc.Deaf_own
def aF9:=@Go.Machine.mk.injEq
def aGb:=@Go.step_lone_ended
def aGc:=@Go.step_lone_go
def aGj:=@Go.Frame.mk.injEq
def aGs:=@Go.Conc.crowd_pick
def aGw:=@Go.Conc.woken_run
def aGG:=@Go.Sem.runT_fst
open Go renaming Calls→aW,Frame→bH,FuncId→ji,Goroutine→bM,Program→fJ,TypeId→dJ,Value→aA,World→ay,execOp→dY,stepG→bK,undef→ai
open Go.Ending renaming returned→aV
open Go.Item renaming inRegion→bW
open Go.Value renaming bool→aF
open Go.World renaming cell?→aB,setCell→aX
open Option renaming none→af,some→ae
open _root_.Array renaming replicate→gz
section
namespace au
open Go Go.Conc
variable{B:dE}{P:fJ}
def arP{α:Type}:∀(a:Ask α) (w:ay),(w.ask a).2.heap=w.heap:=by
 intro a;induction a with
 |done a=>intro w;rfl
 |ask what range k ih=>
  intro w;unfold World.ask;simp only[];split
  ·exact ih 0 w
  ·exact ih _ {w with drawn:=w.drawn+1}
def aid(w:ay)(c:Sys):(w.sys c).2.heap=w.heap:=by
 have h:=arP (Kernel.perform c w.os) w;unfold World.sys;generalize w.ask (Kernel.perform c w.os)=x at h;obtain⟨⟨r,os⟩,w1⟩:=x;simp only at h;split
 ·rfl
 ·rename_i heq;simp only[uu]at heq;obtain⟨⟨rfl,rfl⟩,rfl⟩:=heq;exact h
variable{w w1:ay}{at_ a:Addr}{u:dJ}{v:aA}{b:Bool}{l:List Addr}{o:Obj}{B':dE}
def arQ{k:Addr}(h:w.viewStore P at_ u k v b=.ok (w1,l)):w1.heap.size=w.heap.size:=by
 unfold World.viewStore at h;simp only[bind,Except.bind,pure,Except.pure]at h;repeat' split at h
 all_goals first|cases h|skip
 all_goals simp
def arR(h:w.farStore P a v b=.ok (w1,l)):w1.heap.size=w.heap.size:=by
 unfold World.farStore at h;split at h
 ·split at h
  ·rename_i hv;cases h;exact arQ hv
  ·cases h
 ·cases h
def aie(w:ay)(a:Addr)(n:Nat):(w.freeze a n).heap.size=w.heap.size:=by unfold World.freeze;split<;>simp
def aif{α:Type}{s:Sem α}:∀{w w':ay} {a:α},s.run P w=.ok a w'->w.heap.size<=w'.heap.size:=by
 induction s with
 |pure a=>intro w w' x h;simp only[Sem.run,aF0]at h;rw[h.2];exact dI _
 |load m a k ih=>
  intro w w' x h;simp only[Sem.run]at h;split at h
  ·exact ih _ h
  ·split at h
   ·exact ih _ h
   ·cases h
 |store m a v k ih=>
  intro w w' x h;have key:∀w1:ay,w1.heap.size=w.heap.size->k.run P w1=.ok x w'->w.heap.size<=w'.heap.size:=fun w1 e hk=>e▸ih hk;by_cases hv:(∃y,v=.agg y)\/(∃y,v=.tuple y)
  ·rcases hv with⟨y,rfl⟩|⟨y,rfl⟩<;>simp[Sem.run]at h
  ·have iy:(Sem.store m a v k).run P w=match w.cell? a with
    |some _=>if w.frozen? a then .halt (.unsupported<|.unsafePointer "a write to bytes that a string shares") w else k.run P (aX w a v)
    |none=>match w.farStore P a v (m== .atomic)with
     | .ok (w,_)=>k.run P w
     | .error h=>.halt h w:=by
    cases v<;>first|rfl|simp at hv
   rw[iy]at h;split at h
   ·split at h
    ·cases h
    ·exact key _ (by simp) h
   ·split at h
    ·rename_i hf;exact key _ (arR hf) h
    ·cases h
 |new o k ih=>intro w w' x h;have:=ih _ h;simp at this;omega
 |shape r k ih=>intro w w' x h;exact ih _ h
 |freeze a n k ih=>intro w w' x h;have:=ih h;rw[aie]at this;exact this
 |frozen a k ih=>intro w w' x h;exact ih _ h
 |getObj r k ih=>
  intro w w' x h;simp only[Sem.run]at h;split at h
  ·cases h
  ·exact ih _ h
  ·cases h
 |setObj r o k ih=>
  intro w w' x h;simp only[Sem.run]at h;split at h
  ·cases h
  ·have:=ih h;simpa using this
  ·cases h
 |choose q k ih=>
  intro w w' x h;simp only[Sem.run]at h;split at h
  ·exact ih _ h
  ·exact ih _ (w:={w with drawn:=w.drawn+1}) h
 |sys c k ih=>
  intro w w' x h;have:=ih _ h;rw[aid]at this;exact this
 |program k ih=>intro w w' x h;exact ih _ h
 |mark m k ih=>intro w w' x h;exact ih h
 |halt x=>intro w w' a h;cases h
def kD(B:dE)(w:ay):Prop:=∀b o,¬B.dB b->w.heap[b]? =ae o->mZ B o
def kD.cell(h:kD B w)(ha:¬B.dB a.block)(hc:aB w a=ae v):aI B v:=by
 unfold World.cell? at hc;split at hc
 ·rename_i c e fz hb;have ho:cZ B c:=h _ _ ha hb;split at hc
  ·cases hc
  ·exact ho v<|Jt hc
 ·cases hc
def kD.setCell(h:kD B w)(hv:aI B v):kD B (aX w a v):=by
 intro b o hb ho;obtain⟨o',uO,hx⟩:=Xx ho;have hk:=h _ _ hb uO;rcases hx with rfl|⟨_,rfl⟩
 ·exact hk
 ·cases o'<;>first|exact hk|skip;rename_i c e fz;show cZ B _;split
  ·exact hk
  ·exact cZ.set (show cZ B c from hk) hv _
def kD.freeze(h:kD B w){n:Nat}:kD B (w.freeze a n):=by
 unfold World.freeze;split
 ·exact h
 intro b o hb ho;obtain⟨o',uO,hx⟩:=Xx ho;have hk:=h _ _ hb uO;rcases hx with rfl|⟨_,rfl⟩
 ·exact hk
 ·cases o'<;>exact hk
def kD.push(h:kD B w)(ho:mZ B o):kD B {w with heap:=w.heap.push o}:=by
 intro b x hb hx;simp only[RG]at hx;split at hx
 ·cases hx;exact ho
 ·exact h _ _ hb hx
def kD.setObj(h:kD B w){r:Nat}(ho:mZ B o):kD B {w with heap:=w.heap.setIfInBounds r o}:=by
 intro b x hb hx;simp only[afH]at hx;split at hx
 ·split at hx
  ·cases hx;exact ho
  ·cases hx
 ·exact h _ _ hb hx
def kD.dX(h:kD B w)(ha:¬B.dB a.block):w.heap[a.block]? ≠ae (.view at_ u):=fun e=>(h _ _ ha e).e
def Clean.Em{α:Type}{ok:α->Prop}{s:Sem α}(h:Clean B P ok s):∀{w w':ay} {a:α},kD B w->s.run P w=.ok a w'->(∀b,B.dB b->b<w.heap.size\/w'.heap.size<=b)->ok a/\kD B w':=by
 induction s with
 |pure a=>intro w w' x hw hr _;simp only[Sem.run,aF0]at hr;exact⟨hr.1▸h,hr.2▸hw⟩
 |load m a k ih=>
  intro w w' x hw hr hn;simp only[Sem.run]at hr;split at hr
  ·rename_i v hc;exact ih v (h.2 v<|hw.cell h.1 hc) hw hr hn
  ·split at hr
   ·rename_i hf;unfold World.farLoad at hf;split at hf
    ·rename_i e;exact absurd e<|hw.dX h.1
    ·cases hf
   ·cases hr
 |store m a v k ih=>
  intro w w' x hw hr hn;by_cases hv:(∃y,v=.agg y)\/(∃y,v=.tuple y)
  ·rcases hv with⟨y,rfl⟩|⟨y,rfl⟩<;>simp[Sem.run]at hr
  ·have iy:(Sem.store m a v k).run P w=match w.cell? a with
    |some _=>if w.frozen? a then .halt (.unsupported<|.unsafePointer "a write to bytes that a string shares") w else k.run P (aX w a v)
    |none=>match w.farStore P a v (m== .atomic)with
     | .ok (w,_)=>k.run P w
     | .error h=>.halt h w:=by
    cases v<;>first|rfl|simp at hv
   rw[iy]at hr;split at hr
   ·split at hr
    ·cases hr
    ·exact ih h.2.2 (hw.setCell h.2.1) hr<|by simpa using hn
   ·split at hr
    ·rename_i hf;unfold World.farStore at hf;split at hf
     ·rename_i e;exact absurd e<|hw.dX h.1
     ·cases hf
    ·cases hr
 |new o k ih=>
  intro w w' x hw hr hn;have hz:=aif (s:=k w.heap.size) hr;simp only[Array.size_push]at hz;have hf:¬B.dB w.heap.size:=fun hs=>by rcases hn _ hs with e|e<;>omega
  exact ih w.heap.size (h.2 _ hf) (hw.push h.1) hr fun b hb=>by
   rcases hn b hb with e|e
   ·exact .inl (by simp<;>omega)
   ·exact .inr e
 |shape r k ih=>intro w w' x hw hr hn;exact ih _ (h _) hw hr hn
 |freeze a n k ih=>intro w w' x hw hr hn;exact ih h hw.freeze hr (by rw[aie];exact hn)
 |frozen a k ih=>intro w w' x hw hr hn;exact ih _ (h _) hw hr hn
 |getObj r k ih=>
  intro w w' x hw hr hn;simp only[Sem.run]at hr;split at hr
  ·cases hr
  ·rename_i o _ hb;exact ih o (h.2 o<|hw _ _ h.1 hb) hw hr hn
  ·cases hr
 |setObj r o k ih=>
  intro w w' x hw hr hn;simp only[Sem.run]at hr;split at hr
  ·cases hr
  ·exact ih h.2.2 (hw.setObj h.2.1) hr<|by simpa using hn
  ·cases hr
 |choose q k ih=>
  intro w w' x hw hr hn;simp only[Sem.run]at hr;split at hr
  ·exact ih _ (h _) hw hr hn
  ·exact ih _ (h _) (w:={w with drawn:=w.drawn+1}) hw hr hn
 |sys c k ih=>
  intro w w' x hw hr hn;have e:=aid w c;exact ih _ (h.2 _) (w:=(w.sys c).2) (fun b o hb ho=>hw b o hb<|e▸ho) hr (by rw[e];exact hn)
 |program k ih=>intro w w' x hw hr hn;exact ih P h hw hr hn
 |mark m k ih=>intro w w' x hw hr hn;exact ih h.2 hw hr hn
 |halt x=>intro w w' a hw hr hn;cases hr
def aI.z{B:dE}(hs:∀b,B.dB b->B'.dB b)(hl:B'.let_=B.let_)(h:aI B' v):aI B v:=by
 induction h with
 |bool=>exact .bool
 |int=>exact .int
 |float=>exact .float
 |string=>exact .string
 |pointer h=>exact .pointer fun x hx z=>h x hx<|hs _ z
 |slice h=>exact .slice fun x hx z=>h x hx<|hs _ z
 |map h=>exact .map fun x hx z=>h x hx<|hs _ z
 |chan h=>exact .chan fun x hx z=>h x hx<|hs _ z
 |func h _ _ ha hc=>exact .func (hl▸h) ha hc
 |nilFunc=>exact .nilFunc
 |iface _ h=>exact .iface h
 |nilIface=>exact .nilIface
 |agg _ h=>exact .agg h
 |tuple _ h=>exact .tuple h
def mZ.z{B:dE}(hs:∀b,B.dB b->B'.dB b)(hl:B'.let_=B.let_)(h:mZ B' o):mZ B o:=by
 cases o with
 |cells c t f=>exact fun v hv=>(h v hv).z hs hl
 |map es n=>exact fun e he=>⟨(h e he).1.z hs hl,(h e he).2.z hs hl⟩
 |chan a b c d e f=>exact fun v hv=>(h v hv).z hs hl
 |stringIter _ _=>trivial
 |mapIter m a b c=>exact fun r hr z=>h r hr<|hs _ z
 |_=>first|exact h.e|exact fun z=>h (hs _ z)|trivial
def dE.cut(B:dE)(n:Nat):dE:=⟨fun b=>B.dB b\/n<=b,B.let_,B.wg⟩
structure pI(B:dE)(w:ay):Prop where
 obj:kD (B.cut w.heap.size) w
 low:∀b,B.dB b->1<=b/\b<w.heap.size
 ng:5<=w.heap.size
variable{n:Nat}
def pI.okW(h:pI B w):OkW B w:=
 ⟨fun b o hb ho=>(h.obj b o (fun z=>z.e hb fun y=>absurd (jF.1 ho).1<|by omega) ho).z (B:=B) (B':=B.cut w.heap.size) (fun _ z=>.inl z) rfl,fun b hb=>(h.low b hb).2⟩
def pI.of{w':ay}(h:pI B w)(hz:w.heap.size<=w'.heap.size)(ho:kD (B.cut w'.heap.size) w'):pI B w':=
 ⟨ho,fun b hb=>⟨(h.low b hb).1,gu (h.low b hb).2 hz⟩,fG h.ng hz⟩
def Tj(h:kD (B.cut w.heap.size) w)(hn:w.heap.size<=n):kD (B.cut n) w:=fun b o hb ho=>
 (h b o (fun z=>z.e (fun y=>hb<|.inl y) fun y=>absurd (jF.1 ho).1<|by omega) ho).z (B:=B.cut n) (B':=B.cut w.heap.size) (fun _ z=>Or.imp id (fun y=>fG hn y) z) rfl
def pI.re(h:pI B w)(t:Nat->Question->Nat)(d:Nat):pI B (re w t d):=⟨h.obj,h.low,h.ng⟩
def PD{m:Nat}(h:n<=m):∀b,(B.cut m).dB b->(B.cut n).dB b:=fun _ z=>Or.imp id (fun y=>fG h y) z
def acg{α:Type}{s:Sem α}{r:Result α}{gs:Array Event}(h:abX P s w n r gs):s.run P w=r.re w.tape (w.drawn+n):=by
 have:=h w.tape w.drawn (fun i _=>rfl) #[];rw[show au.re w w.tape w.drawn=w from rfl]at this;rw[<-aGG P s w #[],this]
end au
end
section
namespace au
open Go Go.Conc
variable{B:dE}{P:fJ}
def codeOk(P:fJ)(l:ji->Bool):Code->Bool
 | .skip| .exit _| .label _| .goto _| .ret| .refuse _=>true
 | .region _ ops _=>ops.all fun o=>tN P l o.op
 | .seq a b=>codeOk P l a&&codeOk P l b
 | .cond _ a b=>codeOk P l a&&codeOk P l b
 | .block _ b| .loop b| .scope b=>codeOk P l b
 | .rangeFunc _ _ _ _=>false
def ry(P:fJ)(l:ji->Bool):Item->Bool
 | .code c| .inLoop c| .inScope c=>codeOk P l c
 | .inBlock _=>true
 | bW ops _=>ops.all fun o=>tN P l o.op
 |_=>false
def Tm(P:fJ)(l:ji->Bool)(f:ji):Bool:=
 match P.funcs[f]? with
 |none=>false
 |some fn=>(fn.name== "runtime.NumGoroutine")==false&&match fn.body with
  |none=>false
  |some b=>codeOk P l b
structure oQ(B:dE)(P:fJ):Prop extends Fit B P where
 fns:∀f,B.let_ f=true->Tm P B.let_ f=true
def oQ.fn(L:oQ B P){f:ji}(h:B.let_ f=true):∃fn b,P.funcs[f]? =ae fn/\(fn.name== "runtime.NumGoroutine")=false/\fn.body=ae b/\codeOk P B.let_ b=true:=by
 have:=L.fns f h;unfold Tm at this;split at this
 ·cases this
 ·rename_i fn qc;simp only[mX,beq_iff_eq]at this;obtain⟨h1,h2⟩:=this;split at h2
  ·cases h2
  ·rename_i b hb;exact⟨fn,b,qc,h1,hb,h2⟩
def oQ.ach(L:oQ B P):XK B P:=⟨fun f h=>by
 obtain⟨fn,b,h1,h2,h3,_⟩:=L.fn h;exact⟨fn,h1,h2,by rw[h3];rfl⟩⟩
structure gI(B:dE)(P:fJ)(fr:bH):Prop where
 fn:∃fn,P.funcs[fr.fn]? =ae fn
 tmps:cZ B fr.tmps
 todo:∀it∈fr.todo,ry P B.let_ it=true
 defers:fr.defers=[]
 mode:fr.mode=.run\/fr.mode=.returning
 kind:fr.kind=.normal
 round:fr.roundOf=af
variable{fr:bH}{l:Nat}
def gI.env(F:Fit B P)(h:gI B P fr):Env B P fr.eval:=⟨fun x hx=>by
 cases x with
 |tmp t=>exact h.tmps.getD rZ
 |const v=>exact aib hx
 |global g=>
  refine .sF fun hs=>?_;have:=F.globals _ hs;simp[MH]at hx;simp only at this;omega
 |func f=>exact .func hx cZ.nil cZ.nil⟩
def gI.finish(h:gI B P fr){v:aA}(hv:aI B v):gI B P (fr.finish v):=by
 obtain⟨fn,tmps,todo,defers,mode,kind,round⟩:=fr;unfold Frame.finish;split
 ·rename_i ops i rest k heq;obtain rfl:todo=_:=heq;refine⟨h.fn,?_,?_,h.defers,h.mode,h.kind,h.round⟩
  ·dsimp only;split
   ·exact cZ.set h.tmps hv _
   ·exact h.tmps
  ·intro it jJ;rcases jZ.1 jJ with rfl|jJ
   ·exact h.todo (bW ops<|i::rest)<|by simp
   ·exact h.todo it<|by simp[jJ]
 all_goals first
  |exact h
  |(rename_i heq
    have ht:=h.todo
    rw[heq]at ht
    have:=ht _<|List.mem_cons_self ..
    simp[ry]at this)
def gI.enter(L:oQ B P){f:ji}{args:Array aA}(hf:B.let_ f=true)(ha:cZ B args):gI B P (Frame.enter P f args .normal):=by
 obtain⟨fn,b,h1,h2,h3,h4⟩:=L.fn hf;refine⟨⟨fn,h1⟩,?_,?_,rfl,.inl rfl,rfl,rfl⟩
 ·refine cZ.append ha fun v hv=>?_;obtain⟨_,rfl⟩:=Lu.1 hv;exact rZ
 ·intro it jJ;simp only[Frame.enter,h1,Option.bind_some,h3,ik,oM]at jJ;subst jJ;exact h4
def gI.to(h:gI B P fr){k:List Item}(hk:∀it∈k,ry P B.let_ it=true):gI B P {fr with todo:=k}:=⟨h.fn,h.tmps,hk,h.defers,h.mode,h.kind,h.round⟩
def aci{id:Nat}:∀{k k':List Item},(∀it∈k,ry P B.let_ it=true)->exitTo id k=ae k'->∀it∈k',ry P B.let_ it=true
 |[],k',_,h=>by simp[exitTo]at h
 |x::k,k',hk,h=>by
  have dV:∀it∈k,ry P B.let_ it=true:=fun it jJ=>hk it (by simp[jJ]);cases x with
  |inBlock Z7=>
   simp only[exitTo]at h;split at h
   ·cases h;exact dV
   ·exact aci dV h
  |_=>exact aci dV<|by simpa[exitTo]using h
def acj:∀{c r:Code},codeOk P B.let_ c=true->findLabel c l=ae r->codeOk P B.let_ r=true
 | .seq a b,r,hc,h=>by
   simp only[codeOk,mX]at hc;simp only[findLabel]at h;split at h
   ·cases h;simp only[codeOk,mX];exact⟨acj hc.1 ‹_›,hc.2⟩
   ·exact acj hc.2 h
 | .label l',r,hc,h=>by
   simp only[findLabel]at h;split at h
   ·cases h;rfl
   ·cases h
 | .skip,_,_,h| .region ..,_,_,h| .cond ..,_,_,h| .block ..,_,_,h| .loop _,_,_,h| .rangeFunc ..,_,_,h| .exit _,_,_,h| .scope _,_,_,h| .goto _,_,_,h| .ret,_,_,h| .refuse _,_,_,h=>by simp[findLabel]at h
def acm:∀{k k':List Item},(∀it∈k,ry P B.let_ it=true)->gotoIn l k=ae k'->∀it∈k',ry P B.let_ it=true
 |[],k',_,h=>by simp[gotoIn]at h
 |x::k,k',hk,h=>by
  have dV:∀it∈k,ry P B.let_ it=true:=fun it jJ=>hk it (by simp[jJ]);cases x with
  |inScope body=>
   simp only[gotoIn]at h;split at h
   ·cases h;have hb:=hk (.inScope body) (by simp);intro it jJ;rcases jZ.1 jJ with rfl|jJ
    ·exact acj (B:=B) hb ‹_›
    ·exact hk it jJ
   ·exact acm dV h
  |_=>exact acm dV<|by simpa[gotoIn]using h
def JM(F:Fit B P){fn:Func}{tmps:Array aA}(h:cZ B tmps):Clean B P (aI B) (results fn tmps):=by
 refine aU (ahY (ok:=aI B) _ fun r=>?_) fun vs Z8=>aZ ?_
 ·split
  ·exact aZ<|h.getD rZ
  ·exact aU (ahO F<|h.getD rZ) fun a ha=>ahM ha
 ·split
  ·exact Z8 _<|RJ _
  ·exact .tuple Z8
inductive TS where
 |next (fr:bH) (fs:List bH) (w:ay) (es:Array Event)
 |panic (fr:bH) (chain:List PanicEntry) (fs:List bH) (w:ay) (es:Array Event)
 |ended (o:Outcome) (w:ay) (es:Array Event)
def TS.nZ(t:Nat->Question->Nat)(d:Nat)(cs:List bH):TS->GStep
 | .next fr fs w es=>.go {frame:=fr,callers:=fs++cs,status:=.running,dying:=af} (re w t d) es
 | .panic fr chain fs w es=>.go {frame:=fr.raise chain,callers:=fs++cs,status:=.running,dying:=af} (re w t d) es
 | .ended o w es=>.ended o (re w t d) es
def TS.BB(B:dE)(P:fJ)(w:ay):TS->Prop
 | .next fr fs w' es=>gI B P fr/\(∀f∈fs,gI B P f)/\OkW B w'/\w.heap.size<=w'.heap.size/\w'.os=w.os/\w'.output=w.output/\∀e∈es,FQ B w'.heap.size e
 | .panic fr _ fs _ _=>gI B P fr/\∀f∈fs,gI B P f
 | .ended _ _ _=>True
def TS.keeps(B:dE)(P:fJ)(w:ay):TS->Prop
 | .next fr fs w' _=>(∀b,B.dB b->b<w.heap.size\/w'.heap.size<=b)->gI B P fr/\(∀f∈fs,gI B P f)/\kD B w'
 |_=>True
def tV(fr:bH):Prop:=∃ops i r k,fr.todo=bW ops (i::r)::k
def TS.shape(fr:bH)(fs:List bH):TS->Prop
 | .next _ lZ _ _=>lZ=fs\/(lZ=fr::fs/\tV fr)\/∃c,fs=c::lZ
 |_=>True
def acn(n:Nat)(w:ay)(t:Nat->Question->Nat)(d:Nat):Prop:=∀i,i<n->t (d+i)=w.tape (w.drawn+i)
structure zg(B:dE)(P:fJ)(fr:bH)(fs:List bH)(w:ay)(n:Nat)(T:TS):Prop where
 eq:∀t d,acn n w t d->∀cs,bK P true {frame:=fr,callers:=fs++cs,status:=.running,dying:=af} (re w t d)=T.nZ t (d+n) cs
 tight:∀B':dE,oQ B' P->B'.let_=B.let_->gI B' P fr->(∀f∈fs,gI B' P f)->kD B' w->T.keeps B' P w
 shape:T.shape fr fs
 BB:T.BB B P w
variable{fs:List bH}{w:ay}{k:List Item}
def xx{fr':bH}(h':∀B':dE,B'.let_=B.let_->gI B' P fr->gI B' P fr')(h:gI B P fr)(hs:∀f∈fs,gI B P f)(hw:OkW B w)
 (eq:∀w cs,bK P true {frame:=fr,callers:=fs++cs,status:=.running,dying:=af} w=.go {frame:=fr',callers:=fs++cs,status:=.running,dying:=af} w #[]):zg B P fr fs w 0 (.next fr' fs w #[]):=
 ⟨fun t d _ cs=>by rw[eq];rfl,fun B' _ hl h1 h2 h3 _=>⟨h' B' hl h1,h2,h3⟩,.inl rfl,h' B rfl h,hs,hw,dI _,rfl,rfl,by simp⟩
def XL(o:Outcome)
 (eq:∀w cs,bK P true {frame:=fr,callers:=fs++cs,status:=.running,dying:=af} w=.ended o w #[]):zg B P fr fs w 0 (.ended o w #[]):=
 ⟨fun t d _ cs=>by rw[eq];rfl,fun _ _ _ _ _ _=>trivial,trivial,trivial⟩
def arS(L:oQ B P){s:Sem Next}(wV:tV fr)(h:gI B P fr)(iy:fr.mode=.run)(hs:∀f∈fs,gI B P f)(hw:OkW B w)(hc:∀B':dE,oQ B' P->B'.let_=B.let_->gI B' P fr->Clean B' P (FV B') s)
 (eq:∀w cs,bK P true {frame:=fr,callers:=fs++cs,status:=.running,dying:=af} w=stepG.apply P true fr (fs++cs) af s w):∃n T,zg B P fr fs w n T:=by
 obtain⟨n,r,gs,h1,h2⟩:=(hc B L rfl h).JL hw;have pq:=acg h1;have xR:(fr.kind== .early)=false:=by rw[h.kind];rfl
 cases r with
 |ok nx w'=>
  obtain⟨hn,vT,fP,VC,zO,eX⟩:=h2;cases nx with
  |value v=>
   refine⟨n,.next (fr.finish v) fs w'<|seen P fr.fn gs,fun t d ha cs=>?_,fun B' L' hl g1 g2 g3 g4=>(let ⟨k1,k2⟩:=(hc B' L' hl g1).Em g3 pq g4;⟨g1.finish k1,g2,k2⟩),.inl rfl,h.finish hn,hs,vT,fP,VC,zO,fun e he=>eX e<|aFW he⟩;rw[eq];unfold stepG.apply;simp only[if_true,h1 t d ha #[],Result.re,xR,kG,kJ,GStep.after,TS.nZ,vw,vk]
  |skip=>
   refine⟨n,.next (fr.finish ai) fs w'<|seen P fr.fn gs,fun t d ha cs=>?_,fun B' L' hl g1 g2 g3 g4=>(let ⟨_,k2⟩:=(hc B' L' hl g1).Em g3 pq g4;⟨g1.finish rZ,g2,k2⟩),.inl rfl,h.finish rZ,hs,vT,fP,VC,zO,fun e he=>eX e<|aFW he⟩;rw[eq];unfold stepG.apply;simp only[if_true,h1 t d ha #[],Result.re,xR,kG,kJ,GStep.after,TS.nZ,vw,vk]
  |enter f args=>
   refine⟨n,.next (Frame.enter P f args .normal) (fr::fs) w'<|seen P fr.fn gs,fun t d ha cs=>?_,fun B' L' hl g1 g2 g3 g4=>(let ⟨k1,k2⟩:=(hc B' L' hl g1).Em g3 pq g4;⟨gI.enter L' k1.1 k1.2,fun f hf=>(jZ.1 hf).e (fun e=>e▸g1)<|g2 f,k2⟩),.inr<|.inl ⟨rfl,wV⟩,gI.enter L hn.1 hn.2,?_,vT,fP,VC,zO,fun e he=>eX e<|aFW he⟩
   ·rw[eq];unfold stepG.apply;simp only[if_true,h1 t d ha #[],Result.re,xR,kG,kJ,GStep.after,TS.nZ,vw,vk,nY];split
    ·rename_i heq;have ht:=h.todo;rw[heq]at ht;have:=ht _<|List.mem_cons_self ..;simp[ry]at this
    ·rfl
   ·intro f hf;rcases jZ.1 hf with rfl|hf
    ·exact h
    ·exact hs f hf
  |_=>exact hn.e
 |halt x w'=>
  cases x with
  |panic v=>
   refine⟨n,.panic fr [{v,recovered:=false}] fs w'<|seen P fr.fn gs,fun t d ha cs=>?_,fun _ _ _ _ _ _=>trivial,trivial,h,hs⟩;rw[eq];unfold stepG.apply;simp only[if_true,h1 t d ha #[],Result.re,xR,kG,kJ,GStep.after,TS.nZ,vw,vk]
  |stuck z=>
   refine⟨n,.ended (.stuck z<|fr.pos P) w'<|seen P fr.fn gs,fun t d ha cs=>?_,fun _ _ _ _ _ _=>trivial,trivial,trivial⟩;rw[eq];unfold stepG.apply;simp only[if_true,h1 t d ha #[],Result.re,xR,kG,kJ,GStep.after,TS.nZ,vw,vk]
  |unsupported u=>
   refine⟨n,.ended (.unsupported u<|fr.pos P) w'<|seen P fr.fn gs,fun t d ha cs=>?_,fun _ _ _ _ _ _=>trivial,trivial,trivial⟩;rw[eq];unfold stepG.apply;cases u<;>first|exact h2.e|simp only[if_true,h1 t d ha #[],Result.re,xR,kG,kJ,GStep.after,TS.nZ,vw,vk]
  |_=>exact h2.e
def arT(L:oQ B P){ops:Array Oper}{i:Nat}{r:List Nat}(h:gI B P fr)(iy:fr.mode=.run)(hs:∀f∈fs,gI B P f)(hw:OkW B w)(ht:fr.todo=bW ops (i::r)::k):∃n T,zg B P fr fs w n T:=by
 by_cases GN:((ops[i]?).map (Region.wanted · (yielded ops fr.tmps))).getD false=true
 ·cases ho:ops[i]? with
  |none=>rw[ho]at GN;simp at GN
  |some o=>
   have bT:tN P B.let_ o.op=true:=by
    have:=h.todo (bW ops<|i::r) (by rw[ht];simp);simp only[ry]at this;obtain⟨hi,rfl⟩:=jF.1 ho;exact(Hm.1 this) i hi
   refine arS L ⟨_,_,_,_,ht⟩ h iy hs hw (fun B' L' hl h'=>acf L'.toFit L'.ach (h'.env L'.toFit) (by rw[hl];exact bT)) fun w cs=>?_;obtain⟨fn,tmps,todo,defers,mode,kind,round⟩:=fr;obtain rfl:round=none:=h.round;obtain rfl:mode=.run:=iy;obtain rfl:todo=bW ops (i::r)::k:=ht;have vS:Region.wanted o (yielded ops tmps)=true:=by simpa[ho]using GN
   simp[bK,stepG.exec,stepG.oper,Frame.oper?,ho,vS]
 ·refine⟨0,_,xx (fr':=fr.finish ai) (fun _ _ h'=>h'.finish rZ) h hs hw fun w cs=>?_⟩;obtain⟨fn,tmps,todo,defers,mode,kind,round⟩:=fr;obtain rfl:round=none:=h.round;obtain rfl:mode=.run:=iy;obtain rfl:todo=bW ops (i::r)::k:=ht;simp only[bK,stepG.exec];rw[if_neg GN]
def pJ{l:ji->Bool}{a:Item}(h:ry P l a=true)(hk:∀x∈k,ry P l x=true):∀x∈a::k,ry P l x=true:=by
 intro x hx;rcases jZ.1 hx with rfl|hx
 ·exact h
 ·exact hk x hx
def Ik(fr:bH)(fs:List bH):Prop:=fr.mode=.run\/fs≠[]
def Tn(L:oQ B P)(h:gI B P fr)(hs:∀f∈fs,gI B P f)(hw:OkW B w)(hb:Ik fr fs):∃n T,zg B P fr fs w n T:=by
 have dP:=h;obtain⟨fn,tmps,todo,defers,mode,kind,round⟩:=fr;obtain rfl:round=none:=h.round;obtain rfl:defers=[]:=h.defers;obtain rfl:kind=.normal:=h.kind;rcases h.mode with hm|hm
 ·obtain rfl:mode=.run:=hm;cases todo with
  |nil=>exact⟨0,_,xx (fr':=⟨fn,tmps,[],[],.returning,.normal,af⟩) (fun _ _ h'=>⟨h'.fn,h'.tmps,h'.todo,rfl,.inr rfl,rfl,rfl⟩) dP hs hw fun w cs=>by simp[bK,stepG.exec]⟩
  |cons it k=>
   have jJ:=h.todo it (by simp);have hk:∀x∈k,ry P B.let_ x=true:=fun x hx=>h.todo x (by simp[hx]);cases it with
   |inBlock id=>exact⟨0,_,xx (fun _ hl h'=>h'.to (by rw[hl];exact hk)) dP hs hw fun w cs=>by simp[bK,stepG.exec]⟩
   |inScope c=>exact⟨0,_,xx (fun _ hl h'=>h'.to (by rw[hl];exact hk)) dP hs hw fun w cs=>by simp[bK,stepG.exec]⟩
   |inLoop c=>exact⟨0,_,xx (fun _ hl h'=>h'.to (k:=.code c:: .inLoop c::k) (by rw[hl];exact(pJ jJ<|pJ jJ hk))) dP hs hw fun w cs=>by simp[bK,stepG.exec]⟩
   |inRegion ops todo=>
    cases todo with
    |nil=>exact⟨0,_,xx (fun _ hl h'=>h'.to (by rw[hl];exact hk)) dP hs hw fun w cs=>by simp[bK,stepG.exec]⟩
    |cons i r=>exact arT L dP rfl hs hw rfl
   |code c=>
    cases c with
    |skip=>exact⟨0,_,xx (fun _ hl h'=>h'.to (by rw[hl];exact hk)) dP hs hw fun w cs=>by simp[bK,stepG.exec]⟩
    |label l=>exact⟨0,_,xx (fun _ hl h'=>h'.to (by rw[hl];exact hk)) dP hs hw fun w cs=>by simp[bK,stepG.exec]⟩
    |seq a b=>
     simp only[ry,codeOk,mX]at jJ;exact⟨0,_,xx (fun _ hl h'=>h'.to (k:=.code a:: .code b::k) (by rw[hl];exact(pJ jJ.1<|pJ jJ.2 hk))) dP hs hw fun w cs=>by simp[bK,stepG.exec]⟩
    |block id b=>exact⟨0,_,xx (fun _ hl h'=>h'.to (k:=.code b:: .inBlock id::k) (by rw[hl];exact(pJ jJ<|pJ rfl hk))) dP hs hw fun w cs=>by simp[bK,stepG.exec]⟩
    |loop b=>exact⟨0,_,xx (fun _ hl h'=>h'.to (k:=.code b:: .inLoop b::k) (by rw[hl];exact(pJ jJ<|pJ jJ hk))) dP hs hw fun w cs=>by simp[bK,stepG.exec]⟩
    |scope b=>exact⟨0,_,xx (fun _ hl h'=>h'.to (k:=.code b:: .inScope b::k) (by rw[hl];exact(pJ jJ<|pJ jJ hk))) dP hs hw fun w cs=>by simp[bK,stepG.exec]⟩
    |cond c a b=>
     simp only[ry,codeOk,mX]at jJ;by_cases hc:∃t,Frame.eval ⟨fn,tmps,.code (.cond c a b)::k,[],.run,.normal,af⟩ c=aF t
     ·obtain⟨t,ht⟩:=hc;have o9:∀x∈Item.code (if t then a else b)::k,ry P B.let_ x=true:=by
       intro x hx;rcases jZ.1 hx with rfl|hx
       ·cases t
        ·exact jJ.2
        ·exact jJ.1
       ·exact hk x hx
      exact⟨0,_,xx (fun _ hl h'=>h'.to (k:=.code (if t then a else b)::k) (by rw[hl];exact o9)) dP hs hw fun w cs=>by simp[bK,stepG.exec,ht]⟩
     ·refine⟨0,_,XL (.stuck "cond: bool expected"<|Frame.pos P ⟨fn,tmps,.code (.cond c a b)::k,[],.run,.normal,af⟩) fun w cs=>?_⟩;simp only[bK,stepG.exec];split
      ·rename_i ht;exact absurd ⟨_,ht⟩ hc
      ·rfl
    |exit id=>
     cases he:exitTo id k with
     |some k'=>exact⟨0,_,xx (fun _ hl h'=>h'.to (by rw[hl];exact(aci hk he))) dP hs hw fun w cs=>by simp[bK,stepG.exec,he]⟩
     |none=>exact⟨0,_,XL _ fun w cs=>by simp[bK,stepG.exec,he];rfl⟩
    |goto l=>
     cases he:gotoIn l k with
     |some k'=>exact⟨0,_,xx (fun _ hl h'=>h'.to (by rw[hl];exact(acm hk he))) dP hs hw fun w cs=>by simp[bK,stepG.exec,he]⟩
     |none=>exact⟨0,_,XL _ fun w cs=>by simp[bK,stepG.exec,he];rfl⟩
    |rangeFunc _ _ _ _=>simp[ry,codeOk]at jJ
    |ret=>exact⟨0,_,xx (fr':=⟨fn,tmps,.code .ret::k,[],.returning,.normal,af⟩) (fun _ _ h'=>⟨h'.fn,h'.tmps,h'.todo,rfl,.inr rfl,rfl,rfl⟩) dP hs hw fun w cs=>by simp[bK,stepG.exec]⟩
    |refuse s=>exact⟨0,_,XL _ fun w cs=>by simp[bK,stepG.exec];rfl⟩
    |region id ops draw=>
     cases draw with
     |false=>exact⟨0,_,xx (fun _ hl h'=>h'.to (k:=bW ops (List.range ops.size)::k) (by rw[hl];exact(pJ jJ hk))) dP hs hw fun w cs=>by simp[bK,stepG.exec]⟩
     |true=>
      let t0:=Question.cut (.order fn id)<|w.tape w.drawn<|.order fn id
      refine⟨1,.next ⟨fn,tmps,bW ops (Region.schedule (P.follows .mixedOrders) ops t0)::k,[],.run,.normal,af⟩ fs w #[],fun t d ha cs=>?_,fun B' _ hl g1 g2 g3 _=>⟨g1.to (by rw[hl];exact pJ jJ hk),g2,g3⟩,.inl rfl,dP.to<|pJ jJ hk,hs,hw,dI _,rfl,rfl,by simp⟩;have h0:=ha 0 (by omega);simp only[LD]at h0;simp only[bK,stepG.exec,OT,kG,kJ,choose,Sem.run,Question.forced,TS.nZ];simp only[re,h0];rfl
   |_=>simp[ry]at jJ
 ·obtain rfl:mode=.returning:=hm;cases fs with
  |nil=>rcases hb with hb|hb<;>simp at hb
  |cons c fs=>
   obtain⟨fn',h1⟩:=h.fn;obtain⟨n,r,gs,h5,h6⟩:=(JM L.toFit (fn:=fn') h.tmps).JL hw;have pq:=acg h5;have EW:P.funcs[fn]? =ae fn':=h1;cases r with
   |ok v w'=>
    obtain⟨hn,vT,fP,VC,zO,eX⟩:=h6;refine⟨n,.next (c.finish v) fs w'<|seen P fn gs,fun t d ha cs=>?_,fun B' L' hl g1 g2 g3 g4=>(let ⟨k1,k2⟩:=(JM L'.toFit (fn:=fn') g1.tmps).Em g3 pq g4;⟨(g2 c<|by simp).finish k1,fun f hf=>g2 f<|by simp[hf],k2⟩),.inr<|.inr ⟨c,rfl⟩,(hs c<|by simp).finish hn,fun f hf=>hs f<|by simp[hf],vT,fP,VC,zO,fun e he=>eX e<|aFW he⟩;simp only[bK,unwind,EW,h5 t d ha #[],Result.re,doReturn,nY,GStep.after,TS.nZ,vw,vk]
   |halt x w'=>
    cases x with
    |stuck z=>
     refine⟨n,.ended (.stuck z<|Frame.pos P ⟨fn,tmps,todo,[],.returning,.normal,af⟩) w'<|seen P fn gs,fun t d ha cs=>?_,fun _ _ _ _ _ _=>trivial,trivial,trivial⟩;simp only[bK,unwind,EW,h5 t d ha #[],Result.re,GStep.after,TS.nZ,vw,vk]
    |panic z=>
     refine⟨n,.ended (.stuck "return: the result variables cannot be read"<|Frame.pos P ⟨fn,tmps,todo,[],.returning,.normal,af⟩) w'<|seen P fn gs,fun t d ha cs=>?_,fun _ _ _ _ _ _=>trivial,trivial,trivial⟩;simp only[bK,unwind,EW,h5 t d ha #[],Result.re,GStep.after,TS.nZ,vw,vk]
    |unsupported u=>
     refine⟨n,.ended (.stuck "return: the result variables cannot be read"<|Frame.pos P ⟨fn,tmps,todo,[],.returning,.normal,af⟩) w'<|seen P fn gs,fun t d ha cs=>?_,fun _ _ _ _ _ _=>trivial,trivial,trivial⟩;simp only[bK,unwind,EW,h5 t d ha #[],Result.re,GStep.after,TS.nZ,vw,vk]
    |_=>exact h6.e
end au
end
section
namespace au
open Go Go.Conc
variable{B:dE}{P:fJ}
inductive Ends(B:dE)(P:fJ)(Q:bH->ay->Prop):bH->List bH->ay->Prop where
 |stop {fr:bH} {w:ay} (hq:Q fr w):Ends B P Q fr [] w
 |step {fr:bH} {fs:List bH} {w:ay} (hb:Ik fr fs) (n:Nat->Nat) (fr':Nat->bH) (lZ:Nat->List bH) (w':Nat->ay) (es:Nat->Array Event)
   (hs:∀d,zg B P fr fs (re w w.tape d) (n d)<|.next (fr' d) (lZ d) (w' d)<|es d) (h:∀d,Ends B P Q (fr' d) (lZ d)<|re (w' d) w.tape<|d+n d):Ends B P Q fr fs w
def wall(P:fJ):Frame:={fn:=P.funcs.size,tmps:=#[],todo:=[.call {target:=.nil,args:=#[]} false "fmt's door, shut" #[]],defers:=[],mode:=.run,kind:=.normal}
def arU(chain:List PanicEntry):((wall P).raise chain).catches P=true:=by
 simp[Frame.catches,wall,Frame.raise]
variable{w:ay}{fr:bH}{i j:Nat}
def arV{chain:List PanicEntry}:∃o,step P (lone ((wall P).raise chain) [] w)=.ended o w:=by
 refine⟨_,aGb (o:=.unsupported (.noEntry "a panic or Goexit out of a method that fmt calls behind a cut's door")<|((wall P).raise chain).pos P) ?_⟩;have h:=arU (P:=P) chain;simp only[bK,Frame.raise,wall]at h⊢
 simp[unwind,h,GStep.bare]
def arW{v:aA}:∃o,step P (lone ((wall P).finish v) [] w)=.ended o w:=by
 have h:Extern.next "fmt's door, shut" =none:=by
  have:(Extern.next "fmt's door, shut").isNone=true:=by decide
  simpa using this
 refine⟨_,aGb (o:=.stuck ("no extern row " ++ "fmt's door, shut")<|((wall P).finish v).pos P) ?_⟩;simp[bK,stepG.exec,wall,Frame.finish,h,GStep.bare]
def runN_ended{m:Machine}{o:Outcome}(h:step P m=.ended o w)(n:Nat)(m':Machine):runN P (n+1) m≠.next m':=by
 simp[runN,h]
def gI.raise(h:gI B P fr)(chain:List PanicEntry):fr.raise chain={fr with mode:=.panicking chain}:=by
 rcases h.mode with hm|hm<;>simp[Frame.raise,hm]
def aih(L:oQ B P):∀(n:Nat) {fr:bH} {chain:List PanicEntry} {fs:List bH} {w:ay} {fr':bH} {w':ay},(∃fn,P.funcs[fr.fn]? =ae fn)->fr.mode=.panicking chain->fr.defers=[]->(∀f∈fs,gI B P f)->(∀ch,fr'.mode≠.panicking ch)->runN P n (lone fr (fs++[wall P]) w)≠.next (lone fr' [wall P] w')
 |0,fr,chain,fs,w,fr',w',_,hm,_,_,hr=>by
  intro h;simp only[runN,aFO,lone,aF9,afT,WS,aFo]at h;exact hr chain<|by rw[<-h.2.1.1.1,hm]
 |n+1,fr,chain,fs,w,fr',w',hf,hm,hd,hs,hr=>by
  obtain⟨fn,h1⟩:=hf;have hc:fr.catches P=false:=by simp[Frame.catches,h1]
  intro h;cases fs with
  |cons c fs=>
   have dF:step P (lone fr (c::fs++[wall P]) w)=.next (lone (c.raise chain) (fs++[wall P]) w):=aGc (by simp[bK,unwind,hm,hd,hc,GStep.bare]);simp only[runN,dF]at h;have aco:=hs c (by simp);rw[aco.raise]at h;exact aih L n (fr:={c with mode:=.panicking chain}) (fs:=fs) (chain:=chain) aco.fn rfl aco.defers (fun f hf=>hs f<|WM _ hf) hr h
  |nil=>
   have dF:step P (lone fr ([]++[wall P]) w)=.next (lone ((wall P).raise chain) [] w):=aGc (by simp[bK,unwind,hm,hd,hc,GStep.bare]);simp only[runN,dF]at h;cases n with
   |zero=>
    simp only[runN,aFO,lone,aF9,afT,WS,aFo]at h;exact absurd h.2.1.1.2.1<|by simp
   |succ n=>
    obtain⟨o,ho⟩:=arV (P:=P) (chain:=chain) (w:=w);exact runN_ended ho n _ h
def passed(L:oQ B P)(h:gI B P fr)(hm:fr.mode=.returning)(hw:OkW B w)(n:Nat){fr':bH}{w':ay}:runN P (n+1) (lone fr [wall P] w)≠.next (lone fr' [wall P] w'):=by
 obtain⟨fn,h1⟩:=h.fn;obtain⟨k,r,gs,h5,h6⟩:=(JM L.toFit (fn:=fn) h.tmps).JL hw;have yR:=h5 w.tape w.drawn (fun i _=>rfl) #[];rw[ahD]at yR;intro hr;cases r with
 |ok v w1=>
  have dF:step P (lone fr [wall P] w)=.next (lone ((wall P).finish v) []<|re w1 w.tape<|w.drawn+k):=aGc (by simp only[bK,unwind,hm,h.defers,h1,yR,Result.re,doReturn,h.kind,GStep.after,GStep.bare]);simp only[runN,dF]at hr;cases n with
  |zero=>
   simp only[runN,aFO,lone,aF9,afT,WS,aFo]at hr;exact absurd hr.2.1.1.2.1<|by simp
  |succ n=>
   obtain⟨o,ho⟩:=arW (P:=P) (v:=v) (w:=re w1 w.tape<|w.drawn+k);exact runN_ended ho n _ hr
 |halt x w1=>
  have dF:∃o w2,step P (lone fr [wall P] w)=.ended o w2:=by
   cases x<;>exact⟨_,_,aGb (by simp only[bK,unwind,hm,h.defers,h1,yR,Result.re,GStep.after,GStep.bare];rfl)⟩
  obtain⟨o,w2,ho⟩:=dF;exact runN_ended ho n _ hr
def from_(n:Nat->Nat):Nat->Nat
 |0=>0
 |k+1=>from_ n k+n k
def aii(n:Nat->Nat)(h:i<=j):from_ n i<=from_ n j:=by
 induction h with
 |refl=>exact dI _
 |step _ ih=>exact fG ih<|WR _ _
def arX{n:Nat->Nat}{x:Nat}(hi:from_ n i<=x/\x<from_ n i+n i)(hj:from_ n j<=x/\x<from_ n j+n j):i=j:=by
 rcases Nat.lt_trichotomy i j with h|h|h
 ·have:=aii n<|show i+1<=j from h;simp only[from_]at this;omega
 ·exact h
 ·have:=aii n<|show j+1<=i from h;simp only[from_]at this;omega
open Classical in
def acp(t:Nat->Question->Nat)(n d:Nat->Nat)(x:Nat):Question->Nat:=
 if h:∃k,from_ n k<=x/\x<from_ n k+n k then t (d h.choose+(x-from_ n h.choose))else fun _=>0
def arY{t:Nat->Question->Nat}{n d:Nat->Nat}{k i:Nat}(hi:i<n k):acp t n d (from_ n k+i)=t (d k+i):=by
 have h:∃k',from_ n k'<=from_ n k+i/\from_ n k+i<from_ n k'+n k':=⟨k,by omega,by omega⟩;have hk:h.choose=k:=arX h.choose_spec ⟨by omega,by omega⟩;unfold acp;rw[dif_pos h,hk];congr 1;omega
structure St where
 fr:bH
 fs:List bH
 w:ay
structure MI(B:dE)(P:fJ)(Q:bH->ay->Prop)(t:Nat->Question->Nat)(x:St):Prop where
 fr:gI B P x.fr
 fs:∀f∈x.fs,gI B P f
 w:OkW B x.w
 tape:x.w.tape=t
 not:¬Ends B P Q x.fr x.fs x.w
variable{Q:bH->ay->Prop}
def MI.next(L:oQ B P){t:Nat->Question->Nat}{x:St}(h:MI B P Q t x)(hb:Ik x.fr x.fs):
 ∃d n T,zg B P x.fr x.fs (re x.w t d) n T/\∀fr' lZ w' es,T=.next fr' lZ w' es->MI B P Q t ⟨fr',lZ,re w' t<|d+n⟩:=by
 apply Js;intro oL;refine h.not ?_;have jR:∀d,∃n fr' lZ w' es,zg B P x.fr x.fs (re x.w x.w.tape d) n (.next fr' lZ w' es)/\Ends B P Q fr' lZ (re w' x.w.tape<|d+n):=by
  intro d;obtain⟨n,T,hT⟩:=Tn L h.fr h.fs (h.w.re t d) hb;apply Js;intro hd;refine oL ⟨d,n,T,hT,?_⟩;rintro fr' lZ w' es rfl;obtain⟨g1,g2,g3,_⟩:=hT.BB;refine⟨g1,g2,g3.re _ _,rfl,fun he=>hd ⟨n,fr',lZ,w',es,?_,?_⟩⟩
  ·rw[h.tape];exact hT
  ·rw[h.tape];exact he
 have aAt:∀d,∃p:Nat×bH×List bH×ay×Array Event,zg B P x.fr x.fs (re x.w x.w.tape d) p.1 (.next p.2.1 p.2.2.1 p.2.2.2.1 p.2.2.2.2)/\Ends B P Q p.2.1 p.2.2.1 (re p.2.2.2.1 x.w.tape<|d+p.1):=by
  intro d;obtain⟨n,fr',lZ,w',es,h1,h2⟩:=jR d;exact⟨(n,fr',lZ,w',es),h1,h2⟩
 obtain⟨f,hf⟩:=Rw aAt;exact .step hb (fun d=>(f d).1) (fun d=>(f d).2.1) (fun d=>(f d).2.2.1) (fun d=>(f d).2.2.2.1) (fun d=>(f d).2.2.2.2) (fun d=>(hf d).1) fun d=>(hf d).2
def aij(L:oQ B P)(hQ:∀fr w t d,Q fr w->Q fr (re w t d)){fr:bH}{fs:List bH}{w:ay}(hf:gI B P fr)(VD:∀f∈fs,gI B P f)(hw:OkW B w)
 (hl:∀t d,∃k fr' w',runN P k (lone fr (fs++[wall P])<|re w t d)=.next (lone fr' [wall P] w')/\(∀ch,fr'.mode≠.panicking ch)/\Q fr' w'):Ends B P Q fr fs w:=by
 apply Js;intro dD;have o9:MI B P Q w.tape ⟨fr,fs,w⟩:=⟨hf,VD,hw,rfl,dD⟩;have hch:∀x:{x:St//MI B P Q w.tape x},∃p:Nat×Nat×TS×{x:St//MI B P Q w.tape x},Ik x.1.fr x.1.fs->zg B P x.1.fr x.1.fs (re x.1.w w.tape p.1) p.2.1 p.2.2.1/\∀fr' lZ w' es,p.2.2.1=.next fr' lZ w' es->p.2.2.2.1=⟨fr',lZ,re w' w.tape<|p.1+p.2.1⟩:=by
  intro x;by_cases hb:Ik x.1.fr x.1.fs
  ·obtain⟨d,n,T,hT,hn⟩:=x.2.next L hb;cases T with
   |next fr' lZ w' es=>exact⟨(d,n,.next fr' lZ w' es,⟨⟨fr',lZ,re w' w.tape<|d+n⟩,hn _ _ _ _ rfl⟩),fun _=>⟨hT,fun _ _ _ _ he=>by cases he;rfl⟩⟩
   |panic a b c e g=>exact⟨(d,n,.panic a b c e g,x),fun _=>⟨hT,fun _ _ _ _ he=>by cases he⟩⟩
   |ended a b c=>exact⟨(d,n,.ended a b c,x),fun _=>⟨hT,fun _ _ _ _ he=>by cases he⟩⟩
  ·exact⟨(0,0,.ended (.stuck "" "") w #[],x),fun h=>absurd h hb⟩
 obtain⟨f,VE⟩:=Rw hch;let x:Nat->{x:St//MI B P Q w.tape x}:=fun k=>Nat.rec ⟨_,o9⟩ (fun _ y=>(f y).2.2.2) k
 have Cb:∀k,x (k+1)=(f<|x k).2.2.2:=fun k=>rfl;let n:Nat->Nat:=fun k=>(f<|x k).2.1
 let d:Nat->Nat:=fun k=>(f<|x k).1
 let t0:=acp w.tape n d
 let KW:Nat->Prop:=fun j=>Ik (x j).1.fr (x j).1.fs/\∃a b c e,(f<|x j).2.2.1=.next a b c e
 have dF:∀k,Ik (x k).1.fr (x k).1.fs->∀cs,bK P true {frame:=(x k).1.fr,callers:=(x k).1.fs++cs,status:=.running,dying:=af} (re (x k).1.w t0<|from_ n k)=(f<|x k).2.2.1.nZ t0 (from_ n<|k+1) cs:=by
  intro k hb cs;exact((VE<|x k) hb).1.eq t0 (from_ n k) (fun i hi=>arY hi) cs
 have iy:∀k,(∀j,j<k->KW j)->runN P k (lone fr (fs++[wall P])<|re w t0 0)=.next (lone (x k).1.fr ((x k).1.fs++[wall P])<|re (x k).1.w t0<|from_ n k):=by
  intro k;induction k with
  |zero=>intro _;rfl
  |succ k ih=>
   intro hk;obtain⟨hb,a,b,c,e,hT⟩:=hk k (by omega);have h1:=ih fun j hj=>hk j (by omega);have h2:=dF k hb [wall P];rw[hT]at h2;have h3:=((VE<|x k) hb).2 a b c e hT;rw[runN_add,h1];have h4:step P (lone (x k).1.fr ((x k).1.fs++[wall P])<|re (x k).1.w t0<|from_ n k)=.next (lone a (b++[wall P])<|re c t0<|from_ n<|k+1):=aGc (by rw[h2];rfl);simp only[runN,h4];rw[Cb,h3];rfl
 obtain⟨K,fr',w',hK,hm,hq⟩:=hl t0 0;by_cases jR:∀j,j<K->KW j
 ·rw[iy K jR]at hK;simp only[aFO,lone,aF9,afT,WS,aFo]at hK;obtain⟨h1,⟨⟨h2,h3,_⟩,_⟩,_⟩:=hK;have h3':(x K).1.fs=[]:=by simpa using h3
  have amr:=(x K).2.not;rw[h3']at amr;refine amr<|.stop ?_;rw[h2];have:=hQ _ _ (x K).1.w.tape (x K).1.w.drawn<|h1▸hq;exact this
 ·have hex:∃j,j<K/\¬KW j/\∀i,i<j->KW i:=by
   have:∀m,(∃j,j<m/\¬KW j)->∃j,j<m/\¬KW j/\∀i,i<j->KW i:=by
    intro m;induction m with
    |zero=>rintro⟨j,hj,_⟩;omega
    |succ m ih=>
     intro⟨j,hj,hn⟩;by_cases h:∃j,j<m/\¬KW j
     ·obtain⟨i,hi,h'⟩:=ih h;exact⟨i,by omega,h'⟩
     ·have DJ:j=m:=by
       apply Js;intro dD;exact h ⟨j,by omega,hn⟩
      subst DJ;exact⟨j,by omega,hn,fun i hi=>Js fun hni=>h ⟨i,hi,hni⟩⟩
   refine this K ?_;apply Js;intro oL;exact jR fun j hj=>Js fun hna=>oL ⟨j,hj,hna⟩
  obtain⟨j,hj,hna,aAv⟩:=hex;have sZ:=iy j aAv;obtain⟨m,rfl⟩:∃m,K=j+(m+1):=⟨K-j-1,by omega⟩;rw[runN_add,sZ]at hK;simp only at hK;have AP:=(x j).2;by_cases hb:Ik (x j).1.fr (x j).1.fs
  ·have h2:=dF j hb [wall P];cases hT:(f<|x j).2.2.1 with
   |next a b c e=>exact hna ⟨hb,a,b,c,e,hT⟩
   |ended o w1 es=>
    rw[hT]at h2;exact runN_ended (aGb (by rw[h2];rfl)) m _ hK
   |panic a ch b w1 es=>
    rw[hT]at h2;have hg:=((VE<|x j) hb).1.BB;rw[hT]at hg;have h4:step P (lone (x j).1.fr ((x j).1.fs++[wall P])<|re (x j).1.w t0<|from_ n j)=.next (lone (a.raise ch) (b++[wall P])<|re w1 t0<|from_ n<|j+1):=aGc (by rw[h2];rfl);simp only[runN,h4]at hK;rw[hg.1.raise]at hK;exact aih L m (fr:={a with mode:=.panicking ch}) hg.1.fn rfl hg.1.defers hg.2 hm hK
  ·have jw:(x j).1.fs=[]/\(x j).1.fr.mode=.returning:=by
    refine⟨Js fun h=>hb<|.inr h,?_⟩;rcases AP.fr.mode with h|h
    ·exact absurd (.inl h) hb
    ·exact h
   rw[jw.1]at hK;exact passed L AP.fr jw.2 (AP.w.re _ _) m hK
end au
end
section
namespace au
open Go Go.Conc
open Go.ConcN (sumTo upd sumTo_upd upd_ne upd_same)
variable{B:dE}{P:fJ}
def uF(B:dE):Loc->Prop
 | .cell a=>B.wg a.block/\B.dB a.block
 | .obj r=>B.wg r/\B.dB r
 |_=>False
def MJ{n:Nat}{e:Event}(h:FQ B n e):EvL (uF B) n e:=by
 obtain⟨loc,wr,sy⟩:=e;cases loc with
 |cell a=>
  refine⟨fun x hx hs=>?_,by simp,by simp,h.2⟩;have:x.loc=.cell a:=by
   simp only[MemAct.ofEvent,MemAct.touch?]at hx;cases hx;rfl
  rw[this]at hs;exact absurd hs.2 h.1
 |obj r=>
  cases wr<;>cases sy;case true.true=>exact⟨fun x hx=>by simp[MemAct.ofEvent,MemAct.touch?]at hx,by simp,by simp,h.2⟩
  all_goals
   refine⟨fun x hx hs=>?_,by simp,by simp,h.2⟩
   have:x.loc=.obj r:=by
    simp only[MemAct.ofEvent,MemAct.touch?]at hx;cases hx;rfl
   rw[this]at hs
   exact absurd hs.2 h.1
 |mark m=>
  obtain rfl:m=.noRoom:=h;exact⟨fun x hx=>by simp[MemAct.ofEvent,MemAct.touch?]at hx,by simp,by simp,trivial⟩
 |output=>
  refine⟨fun x hx hs=>?_,by simp,by simp,?_⟩
  ·have:x.loc=.output:=by
    simp only[MemAct.ofEvent,MemAct.touch?]at hx;cases hx;rfl
   rw[this]at hs;exact hs.e
  ·cases wr<;>cases sy<;>trivial
 |_=>exact h.e
def gI.z{B B':dE}(hs:∀b,B.dB b->B'.dB b)(hl:B'.let_=B.let_){fr:bH}(h:gI B' P fr):gI B P fr:=
 ⟨h.fn,fun v hv=>(h.tmps v hv).z hs hl,hl▸h.todo,h.defers,h.mode,h.kind,h.round⟩
abbrev Dh(B:dE)(P:fJ):Prop:=∀n,5<=n->oQ (B.cut n) P
structure Af(B:dE)(P:fJ)(gs:Array bM)(w:ay)(t:Trace)(q:Nat->Nat)(fr:bH)(cs:List bH):Prop where
 own:gs[0]? =ae {frame:=fr,callers:=cs,status:=.running,dying:=af}
 PE:Leavers P t gs q
 JO:Past (uF B) w.heap.size t
 ok:pI B w
def Reach(B:dE)(P:fJ)(fr:bH)(cs:List bH)(w:ay)(Q:dE->bH->ay->Prop)(cs':List bH):Prop:=
 ∀gs sl t q,Af B P gs w t q fr cs->∃N B' gs' fr' w' sl' t' q',runNT P N (crowd gs w sl) t=(.next<|crowd gs' w' sl',t')/\Af B' P gs' w' t' q' fr' cs'/\Q B' fr' w'
structure On(w w':ay):Prop where
 tape:w'.tape=w.tape
 size:w.heap.size<=w'.heap.size
 os:w'.os=w.os
 output:w'.output=w.output
def On.refl(w:ay):On w w:=⟨rfl,dI _,rfl,rfl⟩
def On.t{a b c:ay}(h:On a b)(k:On b c):On a c:=⟨k.tape.t h.tape,fG h.size k.size,k.os.t h.os,k.output.t h.output⟩
def arZ(C:Dh B P){Q:bH->ay->Prop}{fr:bH}{fs:List bH}{w:ay}(h:Ends B P Q fr fs w)(cs:List bH)(hf:gI (B.cut w.heap.size) P fr)(VD:∀f∈fs,gI (B.cut w.heap.size) P f):
 Reach B P fr (fs++cs) w (fun B' fr' w'=>B'=B/\gI (B.cut w'.heap.size) P fr'/\Q fr' w'/\On w w') cs:=by
 induction h with
 |stop hq=>exact fun gs sl t q hh=>⟨0,B,gs,_,_,sl,t,q,rfl,hh,rfl,hf,hq,On.refl _⟩
 |step hb n fr' lZ w' es hs h ih=>
  rename_i fr fs w;have one:∀(M:Nat),(∀(d1:Nat) gs sl t q,sumTo gs.size q<M->Af B P gs (w.at d1) t q fr (fs++cs)->∃N B' gs' fr' w' sl' t' q',runNT P N (crowd gs (w.at d1) sl) t=(.next<|crowd gs' w' sl',t')/\Af B' P gs' w' t' q' fr' cs/\B'=B/\gI (B.cut w'.heap.size) P fr'/\Q fr' w'/\On w w')->
   ∀(d0:Nat) gs sl t q,sumTo gs.size q<=M->Af B P gs (w.at d0) t q fr (fs++cs)->∃N B' gs' fr' w' sl' t' q',runNT P N (crowd gs (w.at d0) sl) t=(.next<|crowd gs' w' sl',t')/\Af B' P gs' w' t' q' fr' cs/\B'=B/\gI (B.cut w'.heap.size) P fr'/\Q fr' w'/\On w w':=by
   intro M VF d0 gs sl t q hM hh;obtain⟨h0,hL,hP,bT⟩:=hh;have VG:∀g∈gs,awake g:=by
    intro g hg;obtain⟨i,hi,rfl⟩:=Hg.1 hg;rcases Ju i with rfl|pX
    ·have:gs[0]=({frame:=fr,callers:=fs++cs,status:=.running,dying:=af}:bM):=by simpa[Hf hi]using h0
     rw[this];exact aFG<|.inl rfl
    ·exact aFG<|(hL.old i _ pX<|Hf hi).status.e .inl fun x=>.inr<|.inr x
   obtain⟨i,g,d,sl',hi,hg,dF⟩:=aGs (P:=P) (w:=w.at d0) (sl:=sl) VG ⟨0,_,h0,rfl⟩;have xA:(w.at d0).at d=w.at d:=rfl;rw[xA]at dF;rcases Ju i with rfl|pX
   ·have xW:g=({frame:=fr,callers:=fs++cs,status:=.running,dying:=af}:bM):=by rw[h0]at hi;exact(rP hi).s
    subst xW;have jT:=(hs d).eq w.tape d (fun i _=>rfl) cs;have hgo:bK P true {frame:=fr,callers:=fs++cs,status:=.running,dying:=af} (w.at d)=.go {frame:=fr' d,callers:=lZ d++cs,status:=.running,dying:=af} (re (w' d) w.tape<|d+n d) (es d):=jT;obtain⟨g1,g2,g3,g4,g5,g6,g7⟩:=(hs d).BB;have Fb:w.heap.size<=(w' d).heap.size:=g4;have yR:5<=(w' d).heap.size:=fG bT.ng Fb;obtain⟨k1,k2,k3⟩:=(hs d).tight (B.cut (w' d).heap.size) (C _ yR) rfl (hf.z (PD Fb) rfl) (fun f hx=>(VD f hx).z (PD Fb) rfl) (Tj (w:=w) bT.obj Fb) fun b hb=>Or.imp (fun z=>(bT.low b z).2) id hb;have Fe:=aFz (P:=P) (sl:=sl') (i:=0) hi<|show bK P (0==0) _ (w.at d)=_ from hgo;have aK:0<gs.size:=(jF.1 h0).1;obtain⟨N,B2,nV,lS,w2,mV,t2,q2,hr,Cc,k0,m1,m3,m4⟩:=ih d k1 k2 ((gs.map<|woken P {frame:=fr,callers:=fs++cs,status:=.running,dying:=af} {frame:=fr' d,callers:=lZ d++cs,status:=.running,dying:=af}<|re (w' d) w.tape<|d+n d).setIfInBounds 0 {frame:=fr' d,callers:=lZ d++cs,status:=.running,dying:=af}) sl' (t++MemOp.ofEvents 0 fr.fn fr.place (es d)) q
     ⟨by simp[aK],⟨fun j x hj hx=>by
         have dD:0≠j:=by omega
         rw[iK dD,yl]at hx;obtain⟨y,hy,rfl⟩:=zY.1 hx;have hq:=hL.old j y hj hy;rw[aFP hq,aFF t (by omega) _ (fun op aP=>by obtain⟨e,_,rfl⟩:=aFc aP;rfl)];exact hq,fun j hj=>by
         rw[aFF t (g':=0) (by simp at hj;omega) _ (fun op aP=>by obtain⟨e,_,rfl⟩:=aFc aP;rfl)];exact hL.above j<|by simpa using hj⟩,
      (hP.mono (B':=(w' d).heap.size) g4).own (fun e he=>MJ<|g7 e he),(pI.of (w:=w) ⟨bT.obj,bT.low,bT.ng⟩ Fb k3).re _ _⟩
    refine⟨N+1,B2,nV,lS,w2,mV,t2,q2,?_,Cc,k0,m1,m3,On.t (b:=re (w' d) w.tape<|d+n d) ⟨rfl,g4,g5,g6⟩ m4⟩;simp only[runNT,dF,Fe];exact hr
   ·have hq:=hL.old i g pX hi;have ed:(i==0)=false:=by simp<;>omega
    have aK:i<gs.size:=(jF.1 hi).1;cases vU:q i with
    |zero=>rw[vU]at hq;rw[hq.1]at hg;cases hg
    |succ k=>
     rw[vU]at hq;rcases hq with⟨E8,_⟩|⟨_,g',VH,hm,N9,qH⟩
     ·rw[E8]at hg;cases hg
     have Fe:=aFz (P:=P) (sl:=sl') (i:=i) hi (by rw[ed];exact N9<|w.at d);have fP:((gs.map<|woken P g g'<|w.at d).setIfInBounds i g').size=gs.size:=by simp
     have ams:sumTo gs.size (upd q i k)+(k+1)=sumTo gs.size q+k:=by
      have:=sumTo_upd q k id aK;simpa[vU]using this
     obtain⟨N,B2,nV,lS,w2,mV,t2,q2,hr,Cc,DL⟩:=VF d ((gs.map<|woken P g g'<|w.at d).setIfInBounds i g') sl' (t++MemOp.ofEvents i g.frame.fn g.frame.place VH) (upd q i k) (by rw[fP];omega)
      ⟨by
       have dD:i≠0:=by omega
       rw[iK dD,yl,h0];simp[aGw],⟨fun j x hj hx=>by
       by_cases mM:i=j
       ·subst mM;rw[um<|by simpa using aK]at hx;obtain rfl:=rP hx;rw[aFj,aF1];exact qH
       ·rw[iK mM,yl]at hx;obtain⟨y,hy,rfl⟩:=zY.1 hx;have KX:=hL.old j y hj hy;rw[aFP KX,aFl q k<|Ne.s mM,aFF t mM _ (fun op aP=>by obtain⟨e,_,rfl⟩:=aFc aP;rfl)];exact KX,fun j hj=>by
       rw[aFF t (g':=i) (by simp at hj;omega) _ (fun op aP=>by obtain⟨e,_,rfl⟩:=aFc aP;rfl)];exact hL.above j<|by simpa using hj⟩,hP.mute (by omega) hm,⟨bT.obj,bT.low,bT.ng⟩⟩
     refine⟨N+1,B2,nV,lS,w2,mV,t2,q2,?_,Cc,DL⟩;simp only[runNT,dF,Fe];exact hr
  have main:∀(M d0:Nat) gs sl t q,sumTo gs.size q<=M->Af B P gs (w.at d0) t q fr (fs++cs)->∃N B' gs' fr' w' sl' t' q',runNT P N (crowd gs (w.at d0) sl) t=(.next<|crowd gs' w' sl',t')/\Af B' P gs' w' t' q' fr' cs/\B'=B/\gI (B.cut w'.heap.size) P fr'/\Q fr' w'/\On w w':=by
   intro M;induction M with
   |zero=>
    intro d0 gs sl t q hM hh;exact one 0 (fun d1 gs1 lu t1 q1 aK _=>absurd aK<|by omega) d0 gs sl t q hM hh
   |succ M Tq=>
    intro d0 gs sl t q hM hh;exact one (M+1) (fun d1 gs1 lu t1 q1 aK h1=>Tq d1 gs1 lu t1 q1 (by omega) h1) d0 gs sl t q hM hh
  exact fun gs sl t q hh=>main _ w.drawn gs sl t q (dI _) hh
end au
end
section
namespace au
open Go Go.Conc
open Go.ConcN (sumTo upd sumTo_upd upd_ne upd_same)
variable{B:dE}{P:fJ}
def XM{m m' m'':Machine}{t t' t'':Trace}:∀{N K:Nat},runNT P N m t=(.next m',t')->runNT P K m' t'=(.next m'',t'')->runNT P (N+K) m t=(.next m'',t'')
 |0,K,h,k=>by
  simp only[runNT,uu,aFO]at h;obtain⟨rfl,rfl⟩:=h;simpa using k
 |N+1,K,h,k=>by
  rw[show N+1+K=(N+K)+1 by omega];simp only[runNT]at h⊢
  split
  ·rename_i m1 ops hs;rw[hs]at h;exact XM h k
  ·rename_i e ops dD hs;rw[hs]at h;cases e with
   |next m1=>exact absurd rfl<|dD m1
   |ended o w=>simp at h
variable{fr:bH}{cs Oa:List bH}{w:ay}{Q Q':dE->bH->ay->Prop}{f:ji}{args:Array aA}
def Reach.t{cs2:List bH}(h:Reach B P fr cs w Q Oa)(h':∀B' fr' w',Q B' fr' w'->Reach B' P fr' Oa w' Q' cs2):Reach B P fr cs w Q' cs2:=by
 intro gs sl t q hh;obtain⟨N,B1,gs1,tX,w1,lu,t1,q1,hr,Vz,hq⟩:=h gs sl t q hh;obtain⟨K,B2,nV,lS,w2,mV,t2,q2,hr2,Cc,EY⟩:=h' B1 tX w1 hq gs1 lu t1 q1 Vz;exact⟨N+K,B2,nV,lS,w2,mV,t2,q2,XM hr hr2,Cc,EY⟩
def Reach.z(h:Reach B P fr cs w Q Oa)(h':∀B' fr' w',Q B' fr' w'->Q' B' fr' w'):Reach B P fr cs w Q' Oa:=by
 intro gs sl t q hh;obtain⟨N,B1,gs1,tX,w1,lu,t1,q1,hr,Vz,hq⟩:=h gs sl t q hh;exact⟨N,B1,gs1,tX,w1,lu,t1,q1,hr,Vz,h' _ _ _ hq⟩
def Reach.here(h:pI B w->Q B fr w):Reach B P fr cs w Q cs:=
 fun gs sl t q hh=>⟨0,B,gs,fr,w,sl,t,q,rfl,hh,h hh.ok⟩
def Reach.ok{fr:bH}{cs Oa:List bH}{w:ay}{Q:dE->bH->ay->Prop}(h:pI B w->Reach B P fr cs w Q Oa):Reach B P fr cs w Q Oa:=fun gs sl t q hh=>h hh.ok gs sl t q hh
def Reach.step{fr:bH}{cs cs2:List bH}{w:ay}{Q:dE->bH->ay->Prop}
 (h:∀d,∃fr' cs' w' es,bK P true {frame:=fr,callers:=cs,status:=.running,dying:=af} (w.at d)=.go {frame:=fr',callers:=cs',status:=.running,dying:=af} w' es/\pI B w'/\w.heap.size<=w'.heap.size/\(∀e∈es,EvL (uF B) w'.heap.size e)/\Reach B P fr' cs' w' Q cs2):Reach B P fr cs w Q cs2:=by
 have one:∀(M:Nat),(∀(d1:Nat) gs sl t q,sumTo gs.size q<M->Af B P gs (w.at d1) t q fr cs->∃N B' gs' fr' w' sl' t' q',runNT P N (crowd gs (w.at d1) sl) t=(.next<|crowd gs' w' sl',t')/\Af B' P gs' w' t' q' fr' cs2/\Q B' fr' w')->
  ∀(d0:Nat) gs sl t q,sumTo gs.size q<=M->Af B P gs (w.at d0) t q fr cs->∃N B' gs' fr' w' sl' t' q',runNT P N (crowd gs (w.at d0) sl) t=(.next<|crowd gs' w' sl',t')/\Af B' P gs' w' t' q' fr' cs2/\Q B' fr' w':=by
  intro M VF d0 gs sl t q hM hh;obtain⟨h0,hL,hP,bT⟩:=hh;have VG:∀g∈gs,awake g:=by
   intro g hg;obtain⟨i,hi,rfl⟩:=Hg.1 hg;rcases Ju i with rfl|pX
   ·have:gs[0]=({frame:=fr,callers:=cs,status:=.running,dying:=af}:bM):=by simpa[Hf hi]using h0
    rw[this];exact aFG<|.inl rfl
   ·exact aFG<|(hL.old i _ pX<|Hf hi).status.e .inl fun x=>.inr<|.inr x
  obtain⟨i,g,d,sl',hi,hg,dF⟩:=aGs (P:=P) (w:=w.at d0) (sl:=sl) VG ⟨0,_,h0,rfl⟩;have xA:(w.at d0).at d=w.at d:=rfl;rw[xA]at dF;rcases Ju i with rfl|pX
  ·have xW:g=({frame:=fr,callers:=cs,status:=.running,dying:=af}:bM):=by rw[h0]at hi;exact(rP hi).s
   subst xW;obtain⟨fr',cs',w',es,hgo,g3,g4,g7,ih⟩:=h d;have Fe:=aFz (P:=P) (sl:=sl') (i:=0) hi<|show bK P (0==0) _ (w.at d)=_ from hgo;have aK:0<gs.size:=(jF.1 h0).1;obtain⟨N,B2,nV,lS,w2,mV,t2,q2,hr,Cc,k0⟩:=ih ((gs.map<|woken P {frame:=fr,callers:=cs,status:=.running,dying:=af} {frame:=fr',callers:=cs',status:=.running,dying:=af} w').setIfInBounds 0 {frame:=fr',callers:=cs',status:=.running,dying:=af}) sl' (t++MemOp.ofEvents 0 fr.fn fr.place es) q
    ⟨by simp[aK],⟨fun j x hj hx=>by
        have dD:0≠j:=by omega
        rw[iK dD,yl]at hx;obtain⟨y,hy,rfl⟩:=zY.1 hx;have hq:=hL.old j y hj hy;rw[aFP hq,aFF t (by omega) _ (fun op aP=>by obtain⟨e,_,rfl⟩:=aFc aP;rfl)];exact hq,fun j hj=>by
        rw[aFF t (g':=0) (by simp at hj;omega) _ (fun op aP=>by obtain⟨e,_,rfl⟩:=aFc aP;rfl)];exact hL.above j<|by simpa using hj⟩,
     (hP.mono (B':=w'.heap.size) g4).own g7,g3⟩
   refine⟨N+1,B2,nV,lS,w2,mV,t2,q2,?_,Cc,k0⟩;simp only[runNT,dF,Fe];exact hr
  ·have hq:=hL.old i g pX hi;have ed:(i==0)=false:=by simp<;>omega
   have aK:i<gs.size:=(jF.1 hi).1;cases vU:q i with
   |zero=>rw[vU]at hq;rw[hq.1]at hg;cases hg
   |succ k=>
    rw[vU]at hq;rcases hq with⟨E8,_⟩|⟨_,g',VH,hm,N9,qH⟩
    ·rw[E8]at hg;cases hg
    have Fe:=aFz (P:=P) (sl:=sl') (i:=i) hi (by rw[ed];exact N9<|w.at d);have fP:((gs.map<|woken P g g'<|w.at d).setIfInBounds i g').size=gs.size:=by simp
    have ams:sumTo gs.size (upd q i k)+(k+1)=sumTo gs.size q+k:=by
     have:=sumTo_upd q k id aK;simpa[vU]using this
    obtain⟨N,B2,nV,lS,w2,mV,t2,q2,hr,Cc,DL⟩:=VF d ((gs.map<|woken P g g'<|w.at d).setIfInBounds i g') sl' (t++MemOp.ofEvents i g.frame.fn g.frame.place VH) (upd q i k) (by rw[fP];omega)
     ⟨by
      have dD:i≠0:=by omega
      rw[iK dD,yl,h0];simp[aGw],⟨fun j x hj hx=>by
      by_cases mM:i=j
      ·subst mM;rw[um<|by simpa using aK]at hx;obtain rfl:=rP hx;rw[aFj,aF1];exact qH
      ·rw[iK mM,yl]at hx;obtain⟨y,hy,rfl⟩:=zY.1 hx;have KX:=hL.old j y hj hy;rw[aFP KX,aFl q k<|Ne.s mM,aFF t mM _ (fun op aP=>by obtain⟨e,_,rfl⟩:=aFc aP;rfl)];exact KX,fun j hj=>by
      rw[aFF t (g':=i) (by simp at hj;omega) _ (fun op aP=>by obtain⟨e,_,rfl⟩:=aFc aP;rfl)];exact hL.above j<|by simpa using hj⟩,hP.mute (by omega) hm,⟨bT.obj,bT.low,bT.ng⟩⟩
    refine⟨N+1,B2,nV,lS,w2,mV,t2,q2,?_,Cc,DL⟩;simp only[runNT,dF,Fe];exact hr
 have main:∀(M d0:Nat) gs sl t q,sumTo gs.size q<=M->Af B P gs (w.at d0) t q fr cs->∃N B' gs' fr' w' sl' t' q',runNT P N (crowd gs (w.at d0) sl) t=(.next<|crowd gs' w' sl',t')/\Af B' P gs' w' t' q' fr' cs2/\Q B' fr' w':=by
  intro M;induction M with
  |zero=>
   intro d0 gs sl t q hM hh;exact one 0 (fun d1 gs1 lu t1 q1 aK _=>absurd aK<|by omega) d0 gs sl t q hM hh
  |succ M Tq=>
   intro d0 gs sl t q hM hh;exact one (M+1) (fun d1 gs1 lu t1 q1 aK h1=>Tq d1 gs1 lu t1 q1 (by omega) h1) d0 gs sl t q hM hh
 exact fun gs sl t q hh=>main _ w.drawn gs sl t q (dI _) hh
def sG(B:dE)(P:fJ)(f:ji)(args:Array aA)(w:ay)(post:dE->aA->ay->Prop):Prop:=
 ∀c cs,Reach B P (Frame.enter P f args .normal) (c::cs) w (fun B' fr' w'=>∃v,fr'=c.finish v/\post B' v w') cs
def sG.z{post amw:dE->aA->ay->Prop}(h:sG B P f args w post)(hp:∀B' v w',post B' v w'->amw B' v w'):sG B P f args w amw:=
 fun c cs=>(h c cs).z fun B' _ w' ⟨v,h1,h2⟩=>⟨v,h1,hp B' v w' h2⟩
def aik{α:Type}{s:Sem α}{n:Nat}{r:Result α}{gs:Array Event}(h:abX P s w n r gs)(t:Nat->Question->Nat)(d:Nat)(hd:∀i,i<n->t (d+i)=w.tape (w.drawn+i)):s.run P (re w t d)=r.re t (d+n):=by
 have:=h t d hd #[];rw[<-aGG P s (re w t d) #[],this]
def ail(L:oQ B P)(C:Dh B P){R:(Nat->Question->Nat)->Nat->Ending->ay->Prop}(hf:B.let_ f=true)(ha:cZ (B.cut w.heap.size) args)
 (hc:∀t d,aW P f args (re w t d)<|R t d)(ho:∀t d e w',R t d e w'->∃v,e=aV v):
 sG B P f args w (fun B' v w'=>B'=B/\aI (B.cut w'.heap.size) v/\On w w'/\∃t d t' k,R t d (aV v)<|re w' t' k):=by
 intro c cs;refine Reach.ok fun hw=>?_;have aim:=gI.enter (C _ hw.ng) (B:=B.cut w.heap.size) hf ha;have dP:gI B P (Frame.enter P f args .normal):=aim.z (B:=B) (B':=B.cut w.heap.size) (fun _ z=>Or.inl z) rfl;obtain⟨fn,b,qc,_⟩:=L.fn hf;have hE:=aij (B:=B) (P:=P) L (Q:=fun fr w'=>fr.mode=.returning/\fr.fn=f/\∃v,(∃t d t' k,R t d (aV v)<|re w' t' k)/\∃t k,(results fn fr.tmps).run P (re w' t k)=.ok v (re w' t k))
  (fun fr w' t d h=>h) (fs:=[]) dP (by simp) hw.okW (by
    intro t d;obtain⟨e,w',fr,hR,BU,Ob,hlv⟩:=hc t d [wall P];obtain⟨v,rfl⟩:=ho _ _ _ _ hR;obtain⟨k,hk⟩:=BU;obtain⟨hm,_,_,fn2,jS,zQ⟩:=hlv;have:fn2=fn:=by rw[Ob,qc]at jS;exact(rP jS).s
    subst this;exact⟨k,fr,w',hk,by rw[hm];simp,hm,Ob,v,⟨t,d,w'.tape,w'.drawn,hR⟩,w'.tape,w'.drawn,zQ⟩)
 refine(arZ C hE (c::cs) aim<|by simp).t ?_;rintro B' fr' w' ⟨rfl,yS,⟨hm,Ob,v,hR,t,k,zQ⟩,pz⟩;refine Reach.ok fun vT=>Reach.step fun d=>?_;have hvT:=((JM (C _ vT.ng).toFit (fn:=fn) yS.tmps).Em (w:=re w' t k) vT.obj zQ fun b _=>FB b _).1;have ar1:gI B' P fr':=yS.z (B:=B') (B':=B'.cut w'.heap.size) (fun _ z=>Or.inl z) rfl;obtain⟨n,r,gs,h1,h2⟩:=(JM (B:=B') (P:=P) L.toFit (fn:=fn) ar1.tmps).JL<|vT.okW.re t k;have pq:=aik h1 t k fun i _=>rfl;rw[Xv]at pq;rw[zQ]at pq;cases r with
 |halt x w1=>simp[Result.re]at pq
 |ok v1 w1=>
  simp only[Result.re,aF0]at pq;obtain⟨rfl,xA⟩:=pq;have hn:n=0:=by
   have:=gy World.drawn xA;simp only[re]at this;omega
  subst hn;have acs:re w1 w'.tape d=w'.at d:=by
   have e1:=gy World.heap xA;have e2:=gy World.os xA;have e3:=gy World.output xA;simp only[re]at e1 e2 e3;unfold re;show _=({w' with drawn:=d}:ay);rw[<-e1,<-e2,<-e3]
  have dF:=h1 w'.tape d (fun i hi=>absurd hi<|by omega) #[];rw[Xv]at dF;simp only[Result.re,LD,acs]at dF;obtain⟨hv,_,_,_,_,eX⟩:=h2;have fP:w1.heap.size=w'.heap.size:=by
   have e1:=gy World.heap xA;simp only[re]at e1;rw[e1]
  refine⟨c.finish v,cs,w'.at d,seen P fr'.fn gs,?_,⟨vT.obj,vT.low,vT.ng⟩,dI _,?_,Reach.here fun _=>⟨v,rfl,rfl,hvT,⟨pz.tape,pz.size,pz.os,pz.output⟩,hR⟩⟩
  ·have GU:(results fn fr'.tmps).runT P (w'.at d) #[]=(.ok v<|w'.at d,#[]++gs):=dF;have aAw:P.funcs[fr'.fn]? =ae fn:=by rw[Ob];exact qc
   simp only[bK,unwind,hm,yS.defers,aAw,GU,doReturn,yS.kind,GStep.after,vw,vk]
  ·intro e he;have:=eX e<|aFW he;rw[fP]at this;exact MJ this
end au
end
section
namespace au
open Go Go.Conc
variable{B:dE}{P:fJ}
def more(k:List Item)(fr:bH):Frame:={fr with todo:=fr.todo++k}
def k0:List Item:=[.code<|.refuse ""]
variable{fr:bH}{k:List Item}{w w1:ay}
def JP(h:tV fr)(k:List Item)(v:aA):(more k fr).finish v=more k (fr.finish v):=by
 obtain⟨fn,tmps,todo,defers,mode,kind,round⟩:=fr;obtain⟨ops,i,r,k1,rfl⟩:=h;simp[more,Frame.finish]
def XN{id:Nat}:∀{l l':List Item},exitTo id l=ae l'->exitTo id (l++k)=ae (l'++k)
 |[],_,h=>by simp[exitTo]at h
 |x::l,l',h=>by
  cases x with
  |inBlock Z7=>
   simp only[exitTo,nY]at h⊢
   split at h
   ·cases h;rw[if_pos ‹_›]
   ·rw[if_neg ‹_›];exact XN h
  |_=>
   simp only[exitTo,nY]at h⊢
   exact XN h
def acu{id:Nat}:∀{l:List Item},exitTo id l=af->exitTo id (l++k0)=af
 |[],_=>by simp[k0,exitTo]
 |x::l,h=>by
  cases x with
  |inBlock Z7=>
   simp only[exitTo,nY]at h⊢
   split at h
   ·cases h
   ·rw[if_neg ‹_›];exact acu h
  |_=>
   simp only[exitTo,nY]at h⊢
   exact acu h
def XO{id:Nat}:∀{l l':List Item},gotoIn id l=ae l'->gotoIn id (l++k)=ae (l'++k)
 |[],_,h=>by simp[gotoIn]at h
 |x::l,l',h=>by
  cases x with
  |inScope c=>
   simp only[gotoIn,nY]at h⊢
   split at h
   ·cases h;rfl
   ·exact XO h
  |_=>
   simp only[gotoIn,nY]at h⊢
   exact XO h
def acv{id:Nat}:∀{l:List Item},gotoIn id l=af->gotoIn id (l++k0)=af
 |[],_=>by simp[k0,gotoIn]
 |x::l,h=>by
  cases x with
  |inScope c=>
   simp only[gotoIn,nY]at h⊢
   split at h
   ·cases h
   ·exact acv h
  |_=>
   simp only[gotoIn,nY]at h⊢
   exact acv h
def XP{t:Nat->Question->Nat}{d d1:Nat}(h:re w t d=re w1 t d1)(t':Nat->Question->Nat)(d':Nat):re w t' d'=re w1 t' d':=by
 have e1:=gy World.heap h;have e2:=gy World.os h;have e3:=gy World.output h;simp only[re]at e1 e2 e3;unfold re;rw[e1,e2,e3]
def MK{tX:bH}{Ag:List bH}{AV:Array Event}{n:Nat}{C:Prop}(hS:zg B P (more k0 fr) [] w n (.next tX Ag w1 AV))
 (he:∃o w',bK P true {frame:=more k0 fr,callers:=[],status:=.running,dying:=af} (re w w.tape w.drawn)=.ended o w' #[]):C:=by
 have h:=hS.eq w.tape w.drawn (fun i _=>rfl) [];obtain⟨o,w',he⟩:=he;simp only[wY]at h;rw[he]at h;simp[TS.nZ]at h
def gI.less(h:gI B P (more k fr)):gI B P fr:=
 ⟨h.fn,h.tmps,fun it hi=>h.todo it<|CJ _ hi,h.defers,h.mode,h.kind,h.round⟩
def Sw(k:List Item)(fr:bH)(fs:List bH)(fr':bH)(lZ:List bH):Prop:=
 (∃f,fs=[]/\lZ=[]/\fr=more k0 f/\fr'=more k f)\/∃f gs,fr'=fr/\fs=gs++[more k0 f]/\lZ=gs++[more k f]/\tV f
end au
end
section
namespace au
open Go Go.Conc
variable{B:dE}{P:fJ}
def En:Code->Bool
 | .ret=>false
 | .seq a b=>En a&&En b
 | .cond _ a b=>En a&&En b
 | .block _ a=>En a
 | .loop a=>En a
 | .scope _=>false
 | .goto _=>false
 |_=>true
def Di(z:Bool)(c:Code):Prop:=z=true->En c=true
inductive rC(z:Bool)(S:Code):Code->Code->Prop
 |cut {s:String} (c:Code):rC z S (.refuse s) c
 |stop:rC z S .ret S
 |same (c:Code) (h:Di z c):rC z S c c
 |seq {a b a' b':Code}:rC z S a a'->rC z S b b'->rC z S (.seq a b) (.seq a' b')
 |cond {x:Operand} {a b a' b':Code}:rC z S a a'->rC z S b b'->rC z S (.cond x a b) (.cond x a' b')
 |block {id:Nat} {a a':Code}:rC z S a a'->rC z S (.block id a) (.block id a')
 |loop {a a':Code}:rC z S a a'->rC z S (.loop a) (.loop a')
def XQ(z:Bool):Item->Prop
 | .code c=>Di z c
 | .inLoop c=>Di z c
 | .inScope _=>z=false
 |_=>True
variable{z:Bool}
theorem Di.off(h:z=false)(c:Code):Di z c:=fun e=>by rw[h]at e;cases e
theorem XQ.off(h:z=false)(it:Item):XQ z it:=by
 cases it<;>first|exact Di.off h _|exact h|trivial
theorem Di.two{a b c:Code}(h:Di z c)(e:En c=(En a&&En b)):Di z a/\Di z b:=by
 refine⟨fun hz=>?_,fun hz=>?_⟩<;>(have:=h hz;rw[e,mX]at this)
 ·exact this.1
 ·exact this.2
theorem Di.bad{z:Bool}{c:Code}(h:Di z c)(e:En c=false):z=false:=by
 cases z with
 |false=>rfl
 |true=>rw[h rfl]at e;cases e
inductive PH(z:Bool)(S:Code):Item->Item->Prop
 |code {a b:Code}:rC z S a b->PH z S (.code a) (.code b)
 |loop {a b:Code}:rC z S a b->PH z S (.inLoop a) (.inLoop b)
 |same (it:Item) (h:∀c,it≠.code c) (hr:XQ z it):PH z S it it
theorem PH.refl{z:Bool}{S:Code}(it:Item)(hr:XQ z it):PH z S it it:=by
 by_cases h:∃c,it=.code c
 ·obtain⟨c,rfl⟩:=h;exact .code<|.same c hr
 ·exact .same it (fun c e=>h ⟨c,e⟩) hr
inductive sH(z:Bool)(S:Code):List Item->List Item->Prop
 |nil:sH z S [] []
 |cons {a b:Item} {l m:List Item}:PH z S a b->sH z S l m->sH z S (a::l) (b::m)
theorem acw{id:Nat}:∀{m x:List Item},exitTo id m=ae x->∀y∈x,y∈m
 |[],x,h=>by simp[exitTo]at h
 |a::m,x,h=>by
  cases a with
  |inBlock Z7=>
   simp only[exitTo]at h;split at h
   ·cases h;exact fun y hy=>WM _ hy
   ·exact fun y hy=>WM _<|acw h y hy
  |_=>
   simp only[exitTo]at h;exact fun y hy=>WM _<|acw h y hy
variable{S a b c c':Code}{t:Array aA}{i d n:Nat}{D q r:List Nat}{x:Operand}{fn:ji}{ops:Array Oper}{fr tX f Il:bH}{l m m' k:List Item}{Ag fs PI cs cs2:List bH}{w w1:ay}{AV:Array Event}{Q:dE->bH->ay->Prop}
theorem Tt{id:Nat}:∀{l m l':List Item},sH z S l m->exitTo id l=ae l'->∃m',exitTo id m=ae m'/\sH z S l' m'
 |[],_,_,.nil,h=>by simp[exitTo]at h
 |x::l,_::m,l',.cons hx ht,h=>by
  cases hx with
  |code=>
   simp only[exitTo]at h⊢
   exact Tt ht h
  |loop=>
   simp only[exitTo]at h⊢
   exact Tt ht h
  |same it _ hr=>
   cases x with
   |inBlock Z7=>
    simp only[exitTo]at h⊢
    split at h
    ·cases h;exact⟨m,by rw[if_pos ‹_›],ht⟩
    ·rw[if_neg ‹_›];exact Tt ht h
   |_=>
    simp only[exitTo]at h⊢
    exact Tt ht h
theorem Tu{id:Nat}:∀{l m l':List Item},sH z S l m->gotoIn id l=ae l'->∃m',gotoIn id m=ae m'/\sH z S l' m'
 |[],_,_,.nil,h=>by simp[gotoIn]at h
 |x::l,_::m,l',.cons hx ht,h=>by
  cases hx with
  |code=>
   simp only[gotoIn]at h⊢
   exact Tu ht h
  |loop=>
   simp only[gotoIn]at h⊢
   exact Tu ht h
  |same it _ hr=>
   cases x with
   |inScope c=>
    simp only[gotoIn]at h⊢
    split at h
    ·rename_i c' zK;cases h;exact⟨_,rfl,.cons (.refl _<|.off hr _)<|.cons (.refl _<|.off hr _) ht⟩
    ·exact Tu ht h
   |_=>
    simp only[gotoIn]at h⊢
    exact Tu ht h
def jd:List (Nat×aA)->Array aA->Array aA
 |[],t=>t
 |x::r,t=>(jd r t).setIfInBounds x.1 x.2
def vG(D:List Nat):Operand->Bool
 | .tmp n=>!D.contains n
 |_=>true
def PM(D:List Nat):Op->Bool
 | .move x| .assign x| .load _ x| .box _ x| .nilCheck x| .unOp _ _ x| .fieldAddr _ x _| .extract x _=>vG D x
 | .binOp _ _ x y _| .indexAddr _ x y| .store _ x y=>vG D x&&vG D y
 | .alloc _=>true
 | .slice _ x a b c=>vG D x&&a.all (vG D)&&b.all (vG D)&&c.all (vG D)
 | .pick x y z=>vG D x&&vG D y&&vG D z
 | .call c=>(match c.callee with| .value f=>vG D f| .builtin _=>true|_=>false)&&c.args.all (vG D)
 |_=>false
def JQ(D:List Nat)(o:Oper):Bool:=PM D o.op&&(match o.dst with|some d=>!D.contains d|none=>true)
def oU(D:List Nat):Code->Bool
 | .seq a b=>oU D a&&oU D b
 | .cond x a b=>vG D x&&oU D a&&oU D b
 | .block _ a=>oU D a
 | .loop a=>oU D a
 | .region _ ops _=>ops.all<|JQ D
 | .skip| .ret| .exit _| .refuse _| .label _=>true
 |_=>false
def yD(D:List Nat):Item->Bool
 | .code c=>oU D c
 | .inLoop c=>oU D c
 | bW ops _=>ops.all<|JQ D
 | .inBlock _=>true
 |_=>false
def ny(D:List Nat)(it:Item):Prop:=D=[]\/yD D it=true
def jV(ov:List (Nat×aA)):List Nat:=ov.map Prod.fst
theorem acx:∀{ov:List (Nat×aA)},(jV ov).contains i=false->(jd ov t)[i]? =t[i]?
 |[],_=>rfl
 |x::r,h=>by
  simp only[jV,rQ,List.contains_cons,Bool.or_eq_false_iff,beq_eq_false_iff_ne]at h;simp only[jd];rw[iK<|Ne.s h.1];exact acx h.2
theorem ain{v:aA}:∀{ov:List (Nat×aA)},(jV ov).contains d=false->jd ov (t.setIfInBounds d v)=(jd ov t).setIfInBounds d v
 |[],_=>rfl
 |x::r,h=>by
  simp only[jV,rQ,List.contains_cons,Bool.or_eq_false_iff,beq_eq_false_iff_ne]at h;simp only[jd];rw[ain h.2,afJ _ _ h.1]
theorem ny.two{a b c:Item}(h:ny D c)(e:yD D c=true->yD D a=true/\yD D b=true):ny D a/\ny D b:=by
 rcases h with h|h
 ·exact⟨.inl h,.inl h⟩
 ·exact⟨.inr (e h).1,.inr (e h).2⟩
theorem ny.one{a c:Item}(h:ny D c)(e:yD D c=true->yD D a=true):ny D a:=h.imp id e
theorem XR:yD D (.code<|.seq a b)=true->yD D (.code a)=true/\yD D (.code b)=true:=fun h=>by
 simpa[yD,oU]using h
theorem XU:yD D (.code<|.cond x a b)=true->yD D (.code a)=true/\yD D (.code b)=true:=fun h=>by
 simp only[yD,oU,mX]at h;exact⟨h.1.2,h.2⟩
theorem aio{ov:List (Nat×aA)}{a b:List Item}(h:vG (jV ov) x=true):Frame.eval ⟨fn,jd ov t,a,[],.run,.normal,af⟩ x=Frame.eval ⟨fn,t,b,[],.run,.normal,af⟩ x:=by
 cases x with
 |tmp n=>
  have:(jd ov t)[n]? =t[n]? :=acx (by simpa[vG]using h);simp[Frame.eval,this]
 |_=>rfl
variable{ov:List (Nat×aA)}
theorem acy(h:jV ov=[]):ov=[]:=by
 cases ov with
 |nil=>rfl
 |cons x r=>simp[jV]at h
theorem aip{a b:List Item}(h:jV ov=[]\/vG (jV ov) x=true):Frame.eval ⟨fn,jd ov t,a,[],.run,.normal,af⟩ x=Frame.eval ⟨fn,t,b,[],.run,.normal,af⟩ x:=by
 rcases h with h|h
 ·rw[acy h];cases x<;>rfl
 ·exact aio h
theorem aiq(h:ny (jV ov) (.code<|.cond x a b)):jV ov=[]\/vG (jV ov) x=true:=h.imp id fun h=>by
 simp only[yD,oU,mX]at h;exact h.1.1
theorem air(h:ny (jV ov) (bW ops q)):yielded ops (jd ov t)=yielded ops t:=by
 rcases h with h|h
 ·rw[acy h];rfl
 ·funext j;unfold yielded;cases ho:ops[j]? with
  |none=>rfl
  |some o=>
   obtain⟨hi,rfl⟩:=jF.1 ho;have:=(Hm.1<|show ops.all (JQ<|jV ov)=true from h) j hi;simp only[JQ,mX]at this;cases hd:ops[j].dst with
   |none=>simp[hd]
   |some d=>
    rw[hd]at this;have hg:(jd ov t)[d]? =t[d]? :=acx (by simpa using this.2);simp[hd,hg]
theorem ar2{ρ ρ':Operand->aA}{o:Oper}(h:PM D o.op=true)(he:∀x,vG D x=true->ρ' x=ρ x):dY ρ' o=dY ρ o:=by
 unfold dY;cases ho:o.op with
 |move x|assign x|load t x|box t x|nilCheck x|unOp u t x|fieldAddr t x f|extract x i=>
  rw[ho]at h;simp only[he x h]
 |alloc=>rfl
 |slice t x a b c=>
  rw[ho]at h;simp only[PM,mX]at h;have hm:∀u:Option Operand,u.all (vG D)=true->u.map ρ'=u.map ρ:=fun u hu=>by
   cases u with
   |none=>rfl
   |some z=>exact gy ae<|he z hu
  simp only[he x h.1.1.1,hm a h.1.1.2,hm b h.1.2,hm c h.2]
 |binOp p t x y t'|indexAddr t x y|store t x y=>
  rw[ho]at h;simp only[PM,mX]at h;simp only[he x h.1,he y h.2]
 |pick x y u=>
  rw[ho]at h;simp only[PM,mX]at h;simp only[he x h.1.1,he y h.1.2,he u h.2]
 |call c=>
  rw[ho]at h;simp only[PM,mX]at h;have ha:c.args.map ρ'=c.args.map ρ:=anJ fun x hx=>he x<|anA.1 h.2 x hx;obtain⟨callee,args,l7⟩:=c;cases callee with
  |value f=>simp only[resolve,he f h.1,show args.map ρ'=args.map ρ from ha]
  |builtin b=>simp only[resolve,show args.map ρ'=args.map ρ from ha]
  |invoke r n=>cases h.1
 |_=>rw[ho]at h;first|cases h|done
def put(ov:List (Nat×aA))(fr:bH)(l:List Item):Frame:={fr with todo:=l,tmps:=jd ov fr.tmps}
def XV(ov:List (Nat×aA))(z:Bool)(S:Code)(P:fJ)(fr:bH)(l:List Item)(w:ay)(n:Nat)(tX:bH)(Ag:List bH)(w1:ay)(AV:Array Event):Prop:=
 (∃lS l2,Ag=[]/\tX=more k0 lS/\sH z S lS.todo l2/\(z=true->lS.mode=.run)/\(∀it∈lS.todo,ny (jV ov) it)/\∀k cs t d,acn n w t d->bK P true {frame:=more k<|put ov fr l,callers:=cs,status:=.running,dying:=af} (re w t d)=.go {frame:=more k<|put ov lS l2,callers:=cs,status:=.running,dying:=af} (re w1 t<|d+n) AV)\/
 (Ag=[more k0 fr]/\tV fr/\∀k cs t d,acn n w t d->bK P true {frame:=more k<|put ov fr l,callers:=cs,status:=.running,dying:=af} (re w t d)=.go {frame:=tX,callers:=more k (put ov fr l)::cs,status:=.running,dying:=af} (re w1 t<|d+n) AV)
theorem ais{lS:bH}{l2:List Item}(hS:zg B P (more k0 fr) [] w n (.next tX Ag w1 AV))(hc:sH z S lS.todo l2)(hz:z=true->lS.mode=.run)(EX:∀it∈lS.todo,ny (jV ov) it)
 (h0:∀w cs,bK P true {frame:=more k0 fr,callers:=cs,status:=.running,dying:=af} w=.go {frame:=more k0 lS,callers:=cs,status:=.running,dying:=af} w #[])
 (he:∀k w cs,bK P true {frame:=more k<|put ov fr l,callers:=cs,status:=.running,dying:=af} w=.go {frame:=more k<|put ov lS l2,callers:=cs,status:=.running,dying:=af} w #[]):XV ov z S P fr l w n tX Ag w1 AV:=by
 have h:=hS.eq w.tape w.drawn (fun i _=>rfl) [];simp only[h0,TS.nZ,qM,aFw,aFo]at h;obtain⟨⟨h1,h2,_⟩,h3,h4⟩:=h;have hn:n=0:=by
  have:=gy World.drawn h3;simp only[re]at this;omega
 subst hn;refine .inl ⟨lS,l2,h2.s,h1.s,hc,hz,EX,fun k cs t d _=>?_⟩;rw[he,<-h4,XP h3 t d];rfl
theorem ar4(h:ny (jV ov) (bW ops q))(hd:(ops[i]?).bind (·.dst)=ae d):(jV ov).contains d=false:=by
 rcases h with h|h
 ·rw[h];rfl
 ·cases ho:ops[i]? with
  |none=>rw[ho]at hd;cases hd
  |some o=>
   rw[ho]at hd;obtain⟨hi,rfl⟩:=jF.1 ho;have:=(Hm.1<|show ops.all (JQ<|jV ov)=true from h) i hi;have Jf:ops[i].dst=ae d:=hd;simp only[JQ,Jf,mX,Bool.not_eq_true']at this;exact this.2
theorem ar5(ht:fr.todo=bW ops (i::r)::m)(hM:ny (jV ov) (bW ops<|i::r))(v:aA):(put ov fr<|bW ops (i::r)::m').finish v=put ov (fr.finish v) (bW ops r::m'):=by
 obtain⟨fn,tmps,todo,defers,mode,kind,round⟩:=fr;obtain rfl:todo=_:=ht;simp only[put,Frame.finish];cases hd:(ops[i]?).bind (·.dst)with
 |none=>simp
 |some d=>simp[ain<|ar4 hM hd]
theorem acz(ht:fr.todo=bW ops (i::r)::m)(hm:sH z S m m')(hM:ny (jV ov) (bW ops<|i::r))(v:aA):(put ov fr<|bW ops (i::r)::m').finish v=put ov (fr.finish v) (bW ops r::m')/\sH z S (fr.finish v).todo (bW ops r::m'):=by
 refine⟨ar5 ht hM v,?_⟩;obtain⟨fn,tmps,todo,defers,mode,kind,round⟩:=fr;obtain rfl:todo=_:=ht;simp only[Frame.finish];exact .cons (.refl _ trivial) hm
theorem XW(ht:fr.todo=bW ops (i::r)::m)(hM:∀it∈fr.todo,ny D it)(v:aA):∀it∈(fr.finish v).todo,ny D it:=by
 obtain⟨fn,tmps,todo,defers,mode,kind,round⟩:=fr;obtain rfl:todo=_:=ht;intro it jJ;simp only[Frame.finish,jZ]at jJ;rcases jJ with rfl|jJ
 ·exact(hM (bW ops<|i::r)<|by simp).one id
 ·exact hM it<|by simp[jJ]
theorem ar6{s:Sem Next}(hS:zg B P (more k0 fr) [] w n (.next tX Ag w1 AV))(ht:fr.todo=bW ops (i::r)::m)(hl:l=bW ops (i::r)::m')(hm:sH z S m m')(h:gI B P fr)(wF:∀it∈fr.todo,ny (jV ov) it)(hz:∀v,z=true->(fr.finish v).mode=.run)(hw:OkW B w)(hc:Clean B P (FV B) s)
 (eq0:∀w cs,bK P true {frame:=more k0 fr,callers:=cs,status:=.running,dying:=af} w=stepG.apply P true (more k0 fr) cs af s w)
 (eq:∀k w cs,bK P true {frame:=more k<|put ov fr l,callers:=cs,status:=.running,dying:=af} w=stepG.apply P true (more k<|put ov fr l) cs af s w):XV ov z S P fr l w n tX Ag w1 AV:=by
 have wV:tV fr:=⟨_,_,_,_,ht⟩;have Q4:tV (put ov fr l):=⟨ops,i,r,m',hl⟩;obtain⟨n',rr,gs,h1,h2⟩:=hc.JL hw;have PN:((more k0 fr).kind== .early)=false:=by
  show(fr.kind== .early)=false;rw[h.kind];rfl
 have xR:∀k,((more k<|put ov fr l).kind== .early)=false:=fun k=>by
  show(fr.kind== .early)=false;rw[h.kind];rfl
 have Z9:ny (jV ov) (bW ops<|i::r):=wF _ (by rw[ht];simp);have zS:∀v,(put ov fr l).finish v=put ov (fr.finish v) (bW ops r::m')/\sH z S (fr.finish v).todo (bW ops r::m'):=fun v=>by
  rw[hl];exact acz ht hm Z9 v
 have pY:=hS.eq w.tape w.drawn (fun i _=>rfl) [];rw[wY,eq0]at pY;cases rr with
 |ok nx w'=>
  cases nx with
  |value v=>
   unfold stepG.apply at pY;simp only[if_true,h1 w.tape w.drawn (fun i _=>rfl) #[],Result.re,PN,kG,kJ,GStep.after,TS.nZ,vw,vk,qM,aFw,aFo]at pY;obtain⟨⟨k1,k2,_⟩,k3,k4⟩:=pY;have hn:n'=n:=by
    have:=gy World.drawn k3;simp only[re]at this;omega
   subst hn;refine .inl ⟨fr.finish v,_,k2.s,by rw[<-JP wV];exact k1.s,(zS v).2,hz v,XW ht wF v,fun k cs t d ha=>?_⟩;rw[eq];unfold stepG.apply;simp only[if_true,h1 t d ha #[],Result.re,xR,kG,kJ,GStep.after,vw,vk];rw[JP Q4,(zS v).1,XP k3 t<|d+n',<-k4];rfl
  |skip=>
   unfold stepG.apply at pY;simp only[if_true,h1 w.tape w.drawn (fun i _=>rfl) #[],Result.re,PN,kG,kJ,GStep.after,TS.nZ,vw,vk,qM,aFw,aFo]at pY;obtain⟨⟨k1,k2,_⟩,k3,k4⟩:=pY;have hn:n'=n:=by
    have:=gy World.drawn k3;simp only[re]at this;omega
   subst hn;refine .inl ⟨fr.finish ai,_,k2.s,by rw[<-JP wV];exact k1.s,(zS ai).2,hz ai,XW ht wF ai,fun k cs t d ha=>?_⟩;rw[eq];unfold stepG.apply;simp only[if_true,h1 t d ha #[],Result.re,xR,kG,kJ,GStep.after,vw,vk];rw[JP Q4,(zS ai).1,XP k3 t<|d+n',<-k4];rfl
  |enter f args=>
   unfold stepG.apply at pY;simp only[if_true,h1 w.tape w.drawn (fun i _=>rfl) #[],Result.re,PN,kG,kJ,GStep.after,TS.nZ,vw,vk,qM,aFw,aFo]at pY;obtain⟨⟨k1,k2,_⟩,k3,k4⟩:=pY;have hn:n'=n:=by
    have:=gy World.drawn k3;simp only[re]at this;omega
   subst hn;refine .inr ⟨k2.s,wV,fun k cs t d ha=>?_⟩;rw[eq];unfold stepG.apply;simp only[if_true,h1 t d ha #[],Result.re,xR,kG,kJ,GStep.after,vw,vk];have wS:(more k<|put ov fr l).todo=bW ops (i::r)::(m'++k):=by simp[more,put,hl]
   have EY:(more k0 fr).todo=bW ops (i::r)::(m++k0):=by simp[more,ht]
   rw[XP k3 t<|d+n',<-k4,<-k1];simp only[wS,EY];rfl
  |_=>exact h2.1.e
 |halt x w'=>
  have aab:=hS.BB.1.mode;unfold stepG.apply at pY;cases x with
  |panic z=>
   simp only[if_true,h1 w.tape w.drawn (fun i _=>rfl) #[],Result.re,PN,kG,kJ,GStep.after,TS.nZ,vw,vk,qM,aFw,aFo]at pY;obtain⟨⟨k1,_⟩,_⟩:=pY;rw[<-k1]at aab;have hm:(more k0 fr).mode=fr.mode:=rfl;rcases h.mode with DR|DR<;>simp[Frame.raise,hm,DR]at aab
  |stuck z=>
   simp only[if_true,h1 w.tape w.drawn (fun i _=>rfl) #[],Result.re,PN,kG,kJ,GStep.after,TS.nZ]at pY;cases pY
  |unsupported u=>
   cases u<;>first
    |exact h2.e
    |(simp only[if_true,h1 w.tape w.drawn (fun i _=>rfl) #[],Result.re,PN,kG,kJ,GStep.after,TS.nZ]at pY
      cases pY)
  |_=>exact h2.e
theorem ar8(L:oQ B P)(hS:zg B P (more k0 fr) [] w n (.next tX Ag w1 AV))(hcut:sH z S fr.todo l)(hns:∀m m',fr.todo=.code .ret::m->l=.code S::m'->S=.ret)(Jg:z=true->S≠.ret)(wF:∀it∈fr.todo,ny (jV ov) it)(h:gI B P fr)(iy:fr.mode=.run)(hw:OkW B w):XV ov z S P fr l w n tX Ag w1 AV:=by
 have dP:=h;obtain⟨fn,tmps,todo,defers,mode,kind,round⟩:=fr;obtain rfl:round=none:=h.round;obtain rfl:defers=[]:=h.defers;obtain rfl:kind=.normal:=h.kind;obtain rfl:mode=.run:=iy;have aAx:sH z S todo l:=hcut;clear hcut;replace wF:∀it∈todo,ny (jV ov) it:=wF;cases aAx with
 |nil=>exact MK hS ⟨_,_,by simp[more,k0,bK,stepG.exec];exact⟨rfl,rfl⟩⟩
 | @cons it it' m m' hI hm=>
   have jJ:=h.todo it (by simp);have oC:ny (jV ov) it:=wF it (by simp);have JR:∀x∈m,ny (jV ov) x:=fun x hx=>wF x (by simp[hx]);have plain:∀(x x':List Item) (md:FrameMode),(z=true->md=.run)->(∀y∈x,ny (jV ov) y)->sH z S x x'->(∀k w cs,bK P true {frame:=⟨fn,tmps,it::(m++k),[],.run,.normal,af⟩,callers:=cs,status:=.running,dying:=af} w=.go {frame:=⟨fn,tmps,x++k,[],md,.normal,af⟩,callers:=cs,status:=.running,dying:=af} w #[])->(∀k w cs,bK P true {frame:=⟨fn,jd ov tmps,it'::(m'++k),[],.run,.normal,af⟩,callers:=cs,status:=.running,dying:=af} w=.go {frame:=⟨fn,jd ov tmps,x'++k,[],md,.normal,af⟩,callers:=cs,status:=.running,dying:=af} w #[])->XV ov z S P ⟨fn,tmps,it::m,[],.run,.normal,af⟩ (it'::m') w n tX Ag w1 AV:=fun x x' md VI mW hx e0 ek=>
    ais (lS:=⟨fn,tmps,x,[],md,.normal,af⟩) (l2:=x') hS hx VI mW (e0 k0) ek
   have two:∀{a b:Item},ny (jV ov) a->ny (jV ov) b->∀y∈a::b::m,ny (jV ov) y:=fun ha hb y hy=>by
    rcases jZ.1 hy with rfl|hy
    ·exact ha
    rcases jZ.1 hy with rfl|hy
    ·exact hb
    ·exact JR y hy
   have one:∀{a:Item},ny (jV ov) a->∀y∈a::m,ny (jV ov) y:=fun ha y hy=>by
    rcases jZ.1 hy with rfl|hy
    ·exact ha
    ·exact JR y hy
   cases hI with
   | @loop a a' hc=>exact plain (.code a:: .inLoop a::m) (.code a':: .inLoop a'::m') .run (fun _=>rfl) (two (a:=.code a) (b:=.inLoop a) (oC.one fun e=>e) oC) (.cons (.code hc)<|.cons (.loop hc) hm) (fun k w cs=>by simp[bK,stepG.exec]) fun k w cs=>by simp[bK,stepG.exec]
   |code hc=>
    cases hc with
    |cut c=>exact MK hS ⟨_,_,by simp[more,bK,stepG.exec];exact⟨rfl,rfl⟩⟩
    |stop=>
     obtain rfl:S=.ret:=hns m m' rfl rfl;exact plain (.code .ret::m) (.code .ret::m') .returning (fun hz=>absurd rfl<|Jg hz) (one<|.inr rfl) (.cons (.code .stop) hm) (fun k w cs=>by simp[bK,stepG.exec]) fun k w cs=>by simp[bK,stepG.exec]
    |seq ha hb=>exact plain (.code _:: .code _::m) (.code _:: .code _::m') .run (fun _=>rfl) (two (oC.two XR).1 (oC.two XR).2) (.cons (.code ha)<|.cons (.code hb) hm) (fun k w cs=>by simp[bK,stepG.exec]) fun k w cs=>by simp[bK,stepG.exec]
    | @block id a a' ha=>exact plain (.code a:: .inBlock id::m) (.code a':: .inBlock id::m') .run (fun _=>rfl) (two (oC.one fun e=>e)<|.inr rfl) (.cons (.code ha)<|.cons (.refl _ trivial) hm) (fun k w cs=>by simp[bK,stepG.exec]) fun k w cs=>by simp[bK,stepG.exec]
    | @loop a a' ha=>exact plain (.code a:: .inLoop a::m) (.code a':: .inLoop a'::m') .run (fun _=>rfl) (two (a:=.code a) (b:=.inLoop a) (oC.one fun e=>e)<|oC.one fun e=>e) (.cons (.code ha)<|.cons (.loop ha) hm) (fun k w cs=>by simp[bK,stepG.exec]) fun k w cs=>by simp[bK,stepG.exec]
    | @cond x a b a' b' ha hb=>
      have eX:∀y,Frame.eval ⟨fn,tmps,y,[],.run,.normal,af⟩ x=Frame.eval ⟨fn,tmps,[],[],.run,.normal,af⟩ x:=fun y=>by cases x<;>rfl
      have acA:∀y,Frame.eval ⟨fn,jd ov tmps,y,[],.run,.normal,af⟩ x=Frame.eval ⟨fn,tmps,[],[],.run,.normal,af⟩ x:=fun y=>aip<|aiq oC;by_cases hc:∃t,Frame.eval ⟨fn,tmps,[],[],.run,.normal,af⟩ x=aF t
      ·obtain⟨t,ht⟩:=hc;refine plain (.code (if t then a else b)::m) (.code (if t then a' else b')::m') .run (fun _=>rfl) (one (by cases t;exact(oC.two XU).2;exact(oC.two XU).1)) (.cons (.code (by cases t;exact hb;exact ha)) hm) (fun k w cs=>by simp[bK,stepG.exec,eX,ht]) fun k w cs=>by simp[bK,stepG.exec,acA,ht]
      ·refine MK hS ⟨.stuck "cond: bool expected"<|Frame.pos P<|more k0 ⟨fn,tmps,.code (.cond x a b)::m,[],.run,.normal,af⟩,re w w.tape w.drawn,?_⟩;simp only[more,bK,stepG.exec,nY];split
       ·rename_i ht;exact absurd ⟨_,(eX _).s.t ht⟩ hc
       ·rfl
    |same=>
     rename_i c hR;cases c with
     |skip=>exact plain m m' .run (fun _=>rfl) JR hm (fun k w cs=>by simp[bK,stepG.exec]) fun k w cs=>by simp[bK,stepG.exec]
     |label l1=>exact plain m m' .run (fun _=>rfl) JR hm (fun k w cs=>by simp[bK,stepG.exec]) fun k w cs=>by simp[bK,stepG.exec]
     |seq a b=>exact plain (.code a:: .code b::m) (.code a:: .code b::m') .run (fun _=>rfl) (two (oC.two XR).1 (oC.two XR).2) (.cons (.refl _ (hR.two rfl).1)<|.cons (.refl _ (hR.two rfl).2) hm) (fun k w cs=>by simp[bK,stepG.exec]) fun k w cs=>by simp[bK,stepG.exec]
     |block id b=>exact plain (.code b:: .inBlock id::m) (.code b:: .inBlock id::m') .run (fun _=>rfl) (two (a:=.code b) (b:=.inBlock id) (oC.one fun e=>e)<|.inr rfl) (.cons (.refl _ hR)<|.cons (.refl _ trivial) hm) (fun k w cs=>by simp[bK,stepG.exec]) fun k w cs=>by simp[bK,stepG.exec]
     |loop b=>exact plain (.code b:: .inLoop b::m) (.code b:: .inLoop b::m') .run (fun _=>rfl) (two (a:=.code b) (b:=.inLoop b) (oC.one fun e=>e)<|oC.one fun e=>e) (.cons (.refl _ hR)<|.cons (.refl _ hR) hm) (fun k w cs=>by simp[bK,stepG.exec]) fun k w cs=>by simp[bK,stepG.exec]
     |scope b=>exact plain (.code b:: .inScope b::m) (.code b:: .inScope b::m') .run (fun _=>rfl) (two (oC.one fun e=>by cases e)<|oC.one fun e=>by cases e) (.cons (.refl _<|.off (hR.bad rfl) _)<|.cons (.refl _<|.off (hR.bad rfl) _) hm) (fun k w cs=>by simp[bK,stepG.exec]) fun k w cs=>by simp[bK,stepG.exec]
     |cond c a b=>
      have eX:∀x,Frame.eval ⟨fn,tmps,x,[],.run,.normal,af⟩ c=Frame.eval ⟨fn,tmps,[],[],.run,.normal,af⟩ c:=fun x=>by cases c<;>rfl
      have acA:∀x,Frame.eval ⟨fn,jd ov tmps,x,[],.run,.normal,af⟩ c=Frame.eval ⟨fn,tmps,[],[],.run,.normal,af⟩ c:=fun x=>aip<|aiq oC;by_cases hc:∃t,Frame.eval ⟨fn,tmps,[],[],.run,.normal,af⟩ c=aF t
      ·obtain⟨t,ht⟩:=hc;exact plain (.code (if t then a else b)::m) (.code (if t then a else b)::m') .run (fun _=>rfl) (one (by cases t;exact(oC.two XU).2;exact(oC.two XU).1)) (.cons (.refl _ (by cases t;exact(hR.two rfl).2;exact(hR.two rfl).1)) hm) (fun k w cs=>by simp[bK,stepG.exec,eX,ht]) fun k w cs=>by simp[bK,stepG.exec,acA,ht]
      ·refine MK hS ⟨.stuck "cond: bool expected"<|Frame.pos P<|more k0 ⟨fn,tmps,.code (.cond c a b)::m,[],.run,.normal,af⟩,re w w.tape w.drawn,?_⟩;simp only[more,bK,stepG.exec,nY];split
       ·rename_i ht;exact absurd ⟨_,(eX _).s.t ht⟩ hc
       ·rfl
     |exit id=>
      cases he:exitTo id m with
      |some x=>
       obtain⟨x',iJ,mW⟩:=Tt hm he;exact plain x x' .run (fun _=>rfl) (fun y hy=>JR y<|acw he y hy) mW (fun k w cs=>by simp[bK,stepG.exec,XN he]) fun k w cs=>by simp[bK,stepG.exec,XN iJ]
      |none=>exact MK hS ⟨_,_,by simp[more,bK,stepG.exec,acu he];exact⟨rfl,rfl⟩⟩
     |goto l1=>
      cases he:gotoIn l1 m with
      |some x=>
       obtain⟨x',iJ,mW⟩:=Tu hm he;exact plain x x' .run (fun _=>rfl) (fun y hy=>.inl<|oC.resolve_right<|by simp[yD,oU]) mW (fun k w cs=>by simp[bK,stepG.exec,XO he]) fun k w cs=>by simp[bK,stepG.exec,XO iJ]
      |none=>exact MK hS ⟨_,_,by simp[more,bK,stepG.exec,acv he];exact⟨rfl,rfl⟩⟩
     |rangeFunc _ _ _ _=>simp[ry,codeOk]at jJ
     |ret=>exact plain (.code .ret::m) (.code .ret::m') .returning (fun hz=>by have:=hR.bad rfl;rw[hz]at this;cases this) (one<|.inr rfl) (.cons (.refl _ hR) hm) (fun k w cs=>by simp[bK,stepG.exec]) fun k w cs=>by simp[bK,stepG.exec]
     |refuse s=>exact MK hS ⟨_,_,by simp[more,bK,stepG.exec];exact⟨rfl,rfl⟩⟩
     |region id ops draw=>
      cases draw with
      |false=>exact plain (bW ops (List.range ops.size)::m) (bW ops (List.range ops.size)::m') .run (fun _=>rfl) (one (a:=bW ops<|List.range ops.size)<|oC.one fun e=>e) (.cons (.refl _ trivial) hm) (fun k w cs=>by simp[bK,stepG.exec]) fun k w cs=>by simp[bK,stepG.exec]
      |true=>
       have pY:=hS.eq w.tape w.drawn (fun i _=>rfl) [];simp only[more,bK,stepG.exec,OT,kG,kJ,choose,Sem.run,Question.forced,TS.nZ,qM,nY,aFw,aFo]at pY;simp only[re]at pY;obtain⟨⟨k1,k2,_⟩,k3,k4⟩:=pY;have hn:n=1:=by
        have:=gy World.drawn k3;simp only at this;omega
       subst hn;refine .inl ⟨⟨fn,tmps,bW ops (Region.schedule (P.follows .mixedOrders) ops<|Question.cut (.order fn id)<|w.tape w.drawn<|.order fn id)::m,[],.run,.normal,af⟩,bW ops (Region.schedule (P.follows .mixedOrders) ops<|Question.cut (.order fn id)<|w.tape w.drawn<|.order fn id)::m',k2.s,k1.s,.cons (.refl _ trivial) hm,fun _=>rfl,one<|oC.one fun e=>e,fun k cs t d ha=>?_⟩;have h0:=ha 0 (by omega);simp only[LD]at h0;simp only[more,put,bK,stepG.exec,OT,kG,kJ,choose,Sem.run,Question.forced,nY];simp only[re,h0];have e1:=gy World.heap k3;have e2:=gy World.os k3;have e3:=gy World.output k3;simp only at e1 e2 e3;rw[<-k4,e1,e2,e3]
   |same _ hnc hr=>
    cases it with
    |inBlock id=>exact plain m m' .run (fun _=>rfl) JR hm (fun k w cs=>by simp[bK,stepG.exec]) fun k w cs=>by simp[bK,stepG.exec]
    |inScope c=>exact plain m m' .run (fun _=>rfl) JR hm (fun k w cs=>by simp[bK,stepG.exec]) fun k w cs=>by simp[bK,stepG.exec]
    |inLoop c=>exact plain (.code c:: .inLoop c::m) (.code c:: .inLoop c::m') .run (fun _=>rfl) (two (a:=.code c) (b:=.inLoop c) (oC.one fun e=>e) oC) (.cons (.refl _ hr)<|.cons (.refl _ hr) hm) (fun k w cs=>by simp[bK,stepG.exec]) fun k w cs=>by simp[bK,stepG.exec]
    |inRegion ops todo=>
     cases todo with
     |nil=>exact plain m m' .run (fun _=>rfl) JR hm (fun k w cs=>by simp[bK,stepG.exec]) fun k w cs=>by simp[bK,stepG.exec]
     |cons i r=>
      by_cases GN:((ops[i]?).map (Region.wanted · (yielded ops tmps))).getD false=true
      ·cases ho:ops[i]? with
       |none=>rw[ho]at GN;simp at GN
       |some o=>
        have bT:tN P B.let_ o.op=true:=by
         simp only[ry]at jJ;obtain⟨hi,rfl⟩:=jF.1 ho;exact(Hm.1 jJ) i hi
        have vS:Region.wanted o (yielded ops tmps)=true:=by simpa[ho]using GN
        refine ar6 (s:=dY (Frame.eval ⟨fn,tmps,bW ops (i::r)::m,[],.run,.normal,af⟩) o) hS rfl rfl hm dP wF (fun _ _=>rfl) hw (acf L.toFit L.ach (dP.env L.toFit) bT) (fun w cs=>?_) fun k w cs=>?_
        ·simp[more,bK,stepG.exec,stepG.oper,Frame.oper?,ho,vS];rfl
        ·have hwO:Region.wanted o (yielded ops<|jd ov tmps)=true:=by rw[air oC];exact vS
         have hxO:∀y y',dY (Frame.eval ⟨fn,jd ov tmps,y,[],.run,.normal,af⟩) o=dY (Frame.eval ⟨fn,tmps,y',[],.run,.normal,af⟩) o:=fun y y'=>by
          rcases oC with hD|hD
          ·rw[acy hD];exact gy (fun ρ=>dY ρ o)<|funext fun x=>by cases x<;>rfl
          ·obtain⟨hi,rfl⟩:=jF.1 ho;have hA:=(Hm.1<|show ops.all (JQ<|jV ov)=true from hD) i hi;simp only[JQ,mX]at hA;exact ar2 hA.1 fun x hx=>aio hx
         simp[more,put,bK,stepG.exec,stepG.oper,Frame.oper?,ho,hwO];rw[hxO]
      ·obtain⟨f1,f2⟩:=acz (ov:=ov) (fr:=⟨fn,tmps,bW ops (i::r)::m,[],.run,.normal,af⟩) rfl hm oC ai;refine ais (lS:=Frame.finish ⟨fn,tmps,bW ops (i::r)::m,[],.run,.normal,af⟩ ai) (l2:=bW ops r::m') hS f2 (fun _=>rfl) (XW (fr:=⟨fn,tmps,bW ops (i::r)::m,[],.run,.normal,af⟩) rfl wF ai) (fun w cs=>?_) (fun k w cs=>?_)
       ·rw[<-JP ⟨_,_,_,_,rfl⟩];simp only[more,bK,stepG.exec,nY];exact if_neg GN
       ·rw[<-f1,<-JP ⟨ops,i,r,m',rfl⟩];simp only[more,put,bK,stepG.exec,nY];exact if_neg (by rw[air oC];exact GN)
    |code c=>exact absurd rfl<|hnc c
    |_=>simp[ry]at jJ
def SwC(ov:List (Nat×aA))(z:Bool)(S:Code)(k:List Item)(fr:bH)(fs:List bH)(fr':bH)(lZ:List bH):Prop:=
 (∃f l,fs=[]/\lZ=[]/\fr=more k0 f/\sH z S f.todo l/\(z=true->f.mode=.run)/\(∀it∈f.todo,ny (jV ov) it)/\fr'=more k (put ov f l))\/∃f l gs,fr'=fr/\fs=gs++[more k0 f]/\sH z S f.todo l/\(z=true->f.mode=.run)/\(∀it∈f.todo,ny (jV ov) it)/\lZ=gs++[more k<|put ov f l]/\tV f
theorem asb(wV:tV f)(hc:sH z S f.todo l)(hM:∀it∈f.todo,ny (jV ov) it)(k:List Item)(v:aA):∃l2,sH z S (f.finish v).todo l2/\(more k<|put ov f l).finish v=more k (put ov (f.finish v) l2):=by
 obtain⟨ops,i,r,m,ht⟩:=wV;rw[ht]at hc;cases hc with
 |cons hI hm=>
  cases hI with
  |same=>
   obtain⟨f1,f2⟩:=acz ht hm (hM _ (by rw[ht];simp)) v;exact⟨_,f2,by rw[JP ⟨ops,i,r,_,rfl⟩,f1]⟩
theorem asc(wV:tV f)(v:aA):(f.finish v).mode=f.mode:=by
 obtain⟨fn,tmps,todo,defers,mode,kind,round⟩:=f;obtain⟨ops,i,r,m,ht⟩:=wV;obtain rfl:todo=_:=ht;rfl
theorem ase(L:oQ B P)(hS:zg B P fr fs w n (.next tX Ag w1 AV))(Oc:SwC ov z S k fr fs Il PI)(hns:∀f l,fs=[]->fr=more k0 f->Il=more k (put ov f l)->∀m m',f.todo=.code .ret::m->l=.code S::m'->S=.ret)(Jg:z=true->S≠.ret)(h:gI B P fr)(hw:OkW B w)(hb:Ik fr fs)(cs:List bH):
 ∃XX XY,SwC ov z S k tX Ag XX XY/\bK P true {frame:=Il,callers:=PI++cs,status:=.running,dying:=af} w=.go {frame:=XX,callers:=XY++cs,status:=.running,dying:=af} (re w1 w.tape<|w.drawn+n) AV:=by
 have pY:=fun cs=>hS.eq w.tape w.drawn (fun i _=>rfl) cs;have VJ:re w w.tape w.drawn=w:=ahD w;rw[VJ]at pY;rcases Oc with⟨f,l,rfl,rfl,rfl,oz,hz,wF,rfl⟩|⟨f,l,gs,rfl,rfl,oz,hz,wF,rfl,wV⟩
 ·have hm:f.mode=.run:=by
   rcases hb with hb|hb
   ·exact hb
   ·exact absurd rfl hb
  rcases ar8 L hS oz (hns f l rfl rfl rfl) Jg wF h.less hm hw with⟨lS,l2,rfl,rfl,lY,jg,xY,dF⟩|⟨rfl,wV,dF⟩
  ·exact⟨_,[],.inl ⟨lS,l2,rfl,rfl,rfl,lY,jg,xY,rfl⟩,by have:=dF k cs w.tape w.drawn fun i _=>rfl;rw[VJ]at this;exact this⟩
  ·exact⟨tX,[more k<|put ov f l],.inr ⟨f,l,[],rfl,rfl,oz,hz,wF,rfl,wV⟩,by have:=dF k cs w.tape w.drawn fun i _=>rfl;rw[VJ]at this;exact this⟩
 ·rcases h.mode with hm|hm
  ·obtain⟨n2,T2,h2⟩:=Tn L (fs:=[]) h (by simp) hw<|.inl hm;have DT:=fun cs=>h2.eq w.tape w.drawn (fun i _=>rfl) cs;rw[VJ]at DT;have hc:=DT<|(gs++[more k0 f])++[];rw[wY,pY []]at hc;cases T2 with
   |ended o w' es=>simp[TS.nZ]at hc
   |panic a ch b w' es=>
    simp only[TS.nZ,aFw,aFo]at hc;have hg:=hS.BB.1.mode;rw[hc.1.1]at hg;rw[h2.BB.1.raise]at hg;simp at hg
   |next a b c e=>
    simp only[TS.nZ,aFw,aFo,qM]at hc;obtain⟨⟨k1,k2,_⟩,k3,k4⟩:=hc;have hn:n=n2:=by
     have:=gy World.drawn k3;simp only[re]at this;omega
    subst hn;refine⟨a,b++(gs++[more k<|put ov f l]),.inr ⟨f,l,b++gs,k1.s,by rw[k2,CP],oz,hz,wF,by rw[CP],wV⟩,?_⟩;have:=DT<|(gs++[more k<|put ov f l])++cs;rw[wY]at this;rw[this,TS.nZ,k3,k4,CP b]
  ·obtain⟨fn',h1⟩:=h.fn;obtain⟨n2,r,es2,h5,h6⟩:=(JM L.toFit (fn:=fn') h.tmps).JL hw;have yR:=h5 w.tape w.drawn (fun i _=>rfl) #[];rw[VJ]at yR;cases r with
   |halt x w'=>
    exfalso;have hc:=pY [];obtain⟨c,cs',hcs⟩:∃c cs',gs++[more k0 f]++[]=c::cs':=by cases gs<;>simp
    rw[hcs]at hc;cases x<;>
    ·simp only[bK,unwind,hm,h.defers,h1,yR,Result.re,GStep.after,TS.nZ]at hc;cases hc
   |ok v w'=>
    have dF:∀c cs',bK P true {frame:=Il,callers:=c::cs',status:=.running,dying:=af} w=.go {frame:=c.finish v,callers:=cs',status:=.running,dying:=af} (re w' w.tape<|w.drawn+n2) (seen P Il.fn es2):=by
     intro c cs';simp only[bK,unwind,hm,h.defers,h1,yR,Result.re,doReturn,h.kind,GStep.after,vw,vk]
    cases gs with
    |nil=>
     have hc:=pY [];rw[wY,qM,dF]at hc;simp only[TS.nZ,aFw,aFo,qM]at hc;obtain⟨⟨k1,k2,_⟩,k3,k4⟩:=hc;obtain⟨l2,lY,e2⟩:=asb wV oz wF k v;refine⟨more k<|put ov (f.finish v) l2,[],.inl ⟨f.finish v,l2,k2.s,rfl,by rw[<-JP wV];exact k1.s,lY,fun e=>(asc wV v).t<|hz e,(by obtain⟨_,_,_,_,ht⟩:=wV;exact XW ht wF v),rfl⟩,?_⟩;rw[wY,anE,dF,e2,k3,k4];rfl
    |cons c gs=>
     have hc:=pY [];rw[qM,nY,dF]at hc;simp only[TS.nZ,aFw,aFo,qM]at hc;obtain⟨⟨k1,k2,_⟩,k3,k4⟩:=hc;refine⟨c.finish v,gs++[more k<|put ov f l],.inr ⟨f,l,gs,k1,k2.s,oz,hz,wF,rfl,wV⟩,?_⟩;rw[nY,nY,dF,k3,k4]
theorem asf{Q:bH->ay->Prop}(acC:∀fr w t d,Q fr (re w t d)->Q fr w)(h:Ends B P Q (more k0 f) [] w)(ht:f.todo=.code .ret::m)(hf:gI B P (more k0 f))(hm:f.mode=.run)(ZU:¬Q (more k0 f) w):Q {more k0 f with mode:=.returning} w:=by
 cases h with
 |stop hq=>exact absurd hq ZU
 |step hb n fr' lZ w' es hs h=>
  have h0:=(hs 0).eq w.tape 0 (fun i _=>rfl) [];have e0:∀w,bK P true {frame:=more k0 f,callers:=[]++[],status:=.running,dying:=af} w=.go {frame:={more k0 f with mode:=.returning},callers:=[],status:=.running,dying:=af} w #[]:=fun w=>by
   obtain⟨fn,tmps,todo,defers,mode,kind,round⟩:=f;obtain rfl:todo=_:=ht;obtain rfl:round=none:=hf.round;obtain rfl:mode=.run:=hm;simp[more,bK,stepG.exec]
  rw[e0]at h0;simp only[TS.nZ,aFw,aFo,qM]at h0;obtain⟨⟨k1,k2,_⟩,k3,_⟩:=h0;have h1:=h 0;rw[<-k1,<-k2]at h1;have k3':re (w' 0) w.tape (0+n 0)=re w w.tape 0:=by rw[<-k3];rfl
  rw[k3']at h1;cases h1 with
  |stop hq=>exact acC _ _ _ _ hq
  |step sV=>
   rcases sV with sV|sV
   ·cases sV
   ·exact absurd rfl sV
theorem ash(L:oQ B P)(C:Dh B P){Q:bH->ay->Prop}(acC:∀fr w t d,Q fr (re w t d)->Q fr w)(hQt:∀f w,Q (more k0 f) w->f.mode=.run->f.todo=[]){w0:ay}(h:Ends B P Q fr fs w){Q2:dE->bH->ay->Prop}
 (Jg:z=true->S≠.ret)(hQ:∀f l w',(z=true->f.mode=.run)->On w0 w'->gI (B.cut w'.heap.size) P f->sH z S f.todo l->Q (more k0 f) w'->Reach B P (more k<|put ov f l) cs w' Q2 cs2)
 (Oe:∀f l w',On w0 w'->gI (B.cut w'.heap.size) P f->f.mode=.run->S≠.ret->Q {more k0 f with mode:=.returning} w'->Reach B P (more k<|put ov f<|.code S::l) cs w' Q2 cs2)
 (pz:On w0 w)(Oc:SwC ov z S k fr fs Il PI)(hf:gI (B.cut w.heap.size) P fr)(VD:∀f∈fs,gI (B.cut w.heap.size) P f):Reach B P Il (PI++cs) w Q2 cs2:=by
 induction h generalizing Il PI with
 |stop hq=>
  rcases Oc with⟨f,l,_,rfl,rfl,oz,hz,_,rfl⟩|⟨f,l,gs,_,h,_⟩
  ·exact hQ f l _ hz pz hf.less oz hq
  ·simp at h
 |step hb n fr' lZ w' es hs h ih=>
  rename_i fr fs w;by_cases dF:∃f l m m',fs=[]/\fr=more k0 f/\Il=more k (put ov f l)/\PI=[]/\f.todo=.code .ret::m/\l=.code S::m'/\S≠.ret
  ·obtain⟨f,l,m,m',rfl,rfl,rfl,rfl,ht,rfl,dD⟩:=dF;have hm:f.mode=.run:=by
    rcases hb with hb|hb
    ·exact hb
    ·exact absurd rfl hb
   have hfB:gI B P (more k0 f):=hf.z (B:=B) (B':=B.cut w.heap.size) (fun _ z=>Or.inl z) rfl;refine Oe f m' w pz hf.less hm dD<|asf acC (.step hb n fr' lZ w' es hs h) ht hfB hm fun hq=>?_;have:=hQt f w hq hm;rw[ht]at this;cases this
  refine Reach.ok fun bT=>Reach.step fun d=>?_;have hfB:gI B P fr:=hf.z (B:=B) (B':=B.cut w.heap.size) (fun _ z=>Or.inl z) rfl;obtain⟨XX,XY,asj,N9⟩:=ase L (hs d) Oc (fun f l e1 e2 e3 m m' e4 e5=>Js fun dD=>dF ⟨f,l,m,m',e1,e2,e3,by
   rcases Oc with⟨_,_,_,q,_⟩|⟨_,_,gs,_,q,_⟩
   ·exact q
   ·rw[e1]at q;simp at q,e4,e5,dD⟩) Jg hfB (bT.okW.re w.tape d) hb cs
  obtain⟨g1,g2,g3,g4,g5,g6,g7⟩:=(hs d).BB;have Fb:w.heap.size<=(w' d).heap.size:=g4;have yR:5<=(w' d).heap.size:=fG bT.ng Fb;obtain⟨m1,m2,m3⟩:=(hs d).tight (B.cut (w' d).heap.size) (C _ yR) rfl (hf.z (PD Fb) rfl) (fun f hx=>(VD f hx).z (PD Fb) rfl) (Tj (w:=w) bT.obj Fb) fun b hb=>Or.imp (fun z=>(bT.low b z).2) id hb;refine⟨XX,XY++cs,re (w' d) w.tape<|d+n d,es d,N9,(pI.of (w:=w) ⟨bT.obj,bT.low,bT.ng⟩ Fb m3).re _ _,g4,fun e he=>MJ<|g7 e he,?_⟩;exact ih d (pz.t ⟨rfl,g4,g5,g6⟩) asj m1 m2
theorem XZ(L:oQ B P)(C:Dh B P){a:Act}{b:bH}{K:(Nat->Question->Nat)->Nat->Exit->Act->ay->Prop}
 (hM:∀it∈[Item.code c],ny (jV ov) it)(hcut:rC z S c c')(hc:codeOk P B.let_ c=true)(ha:cZ (B.cut w.heap.size) a.tmps)(hd:a.defers=[])(qc:∃fn,P.funcs[b.fn]? =ae fn)(hk:b.kind=.normal)
 (zN:∀t d,c.wp P (fun e a' w'=>(e=.normal\/e=.ret)/\K t d e a' w') a<|re w t d)
 (hN:∀a' w',On w w'->cZ (B.cut w'.heap.size) a'.tmps->a'.defers=[]->(∃t d t' j,K t d .normal a'<|re w' t' j)->Reach B P (b.at ⟨jd ov a'.tmps,a'.defers⟩ k) cs w' Q cs2)
 (Jg:z=true->S≠.ret)
 (hR:z=false->∀a' w' todo,On w w'->cZ (B.cut w'.heap.size) a'.tmps->a'.defers=[]->(∃t d t' j,K t d .ret a'<|re w' t' j)->Reach B P {b.at ⟨jd ov a'.tmps,a'.defers⟩ todo with mode:=.returning} cs w' Q cs2)
 (Oe:S≠.ret->∀a' w' l,On w w'->cZ (B.cut w'.heap.size) a'.tmps->a'.defers=[]->(∃t d t' j,K t d .ret a'<|re w' t' j)->Reach B P (b.at ⟨jd ov a'.tmps,a'.defers⟩<|.code S::l) cs w' Q cs2):
 Reach B P (b.at ⟨jd ov a.tmps,a.defers⟩<|.code c'::k) cs w Q cs2:=by
 refine Reach.ok fun hw=>?_;have dP:gI (B.cut w.heap.size) P (more k0<|b.at a [.code c]):=⟨qc,ha,fun it hi=>by
  simp only[more,k0,Frame.at,nY,wY,jZ,qh,qi]at hi;rcases hi with rfl|rfl
  ·exact hc
  ·rfl,hd,.inl rfl,hk,rfl⟩
 have aAy:gI B P (more k0<|b.at a [.code c]):=dP.z (B:=B) (B':=B.cut w.heap.size) (fun _ z=>Or.inl z) rfl;have hE:=aij (B:=B) (P:=P) L (Q:=fun fr w'=>∃a':Act,((fr=b.at a' k0/\∃t d t' j,K t d .normal a'<|re w' t' j)\/∃todo,fr={b.at a' todo with mode:=.returning}/\∃t d t' j,K t d .ret a'<|re w' t' j))
  (fun fr w' t d h=>h) (fs:=[]) (w:=w) aAy (by simp) hw.okW (by
    intro t d;obtain⟨e,a',w',⟨he,hK⟩,har⟩:=zN t d b k0 [wall P];rcases he with rfl|rfl
    ·obtain⟨j,hj⟩:=har;exact⟨j,b.at a' k0,w',hj,by simp[Frame.at],a',.inl ⟨rfl,t,d,w'.tape,w'.drawn,hK⟩⟩
    ·obtain⟨todo,j,hj⟩:=har;exact⟨j,_,w',hj,by simp,a',.inr ⟨todo,rfl,t,d,w'.tape,w'.drawn,hK⟩⟩)
 have:=ash (ov:=ov) (S:=S) L C (fun fr w t d h=>h) (fun f w hq hm=>?_) (w0:=w) (k:=k) (cs:=cs) (cs2:=cs2) (Q2:=Q) hE Jg ?_ ?_ (On.refl w) (.inl ⟨b.at a [.code c],[.code c'],rfl,rfl,rfl,.cons (.code hcut) .nil,fun _=>rfl,hM,rfl⟩) dP<|by simp
 ·exact this
 ·obtain⟨a',⟨he,_⟩|⟨todo,he,_⟩⟩:=hq
  ·have:=gy Frame.todo he;have e3:f.todo++k0=k0:=this;have:=gy List.length e3;simp only[iW]at this;exact WI.1<|by omega
  ·have:=gy Frame.mode he;have e3:f.mode=.returning:=this;rw[hm]at e3;cases e3
 rotate_left
 ·intro f l w' pz yS hm dD hq;obtain⟨a',⟨he,_⟩|⟨todo,he,hK⟩⟩:=hq
  ·have e3:FrameMode.returning=.run:=gy Frame.mode he;cases e3
  ·have h1:more k (put ov f<|.code S::l)=b.at ⟨jd ov a'.tmps,a'.defers⟩ (.code S::(l++k)):=by
    obtain⟨fn,tmps,td,defers,mode,kind,round⟩:=f;obtain rfl:mode=.run:=hm;simp only[more,Frame.at,aGj]at he;obtain⟨e1,e2,e3,e4,e5,e6,e7⟩:=he;simp only[more,put,Frame.at,aGj,nY];exact⟨e1,by rw[e2],trivial,e4,trivial,e6,e7⟩
   have h2:f.tmps=a'.tmps/\f.defers=a'.defers:=⟨gy Frame.tmps he,gy Frame.defers he⟩;rw[h1];exact Oe dD a' w' _ pz (h2.1▸yS.tmps) (h2.2▸yS.defers) hK
 intro f l w' hz pz yS oz hq;obtain⟨a',⟨he,hK⟩|⟨todo,he,hK⟩⟩:=hq
 ·have h1:f=b.at a' []:=by
   obtain⟨fn,tmps,td,defers,mode,kind,round⟩:=f;simp only[more,Frame.at,aGj]at he⊢
   obtain⟨e1,e2,e3,e4,e5,e6,e7⟩:=he;refine⟨e1,e2,?_,e4,e5,e6,e7⟩;have:=gy List.length e3;simp only[iW]at this;exact WI.1<|by omega
  subst h1;have hl:l=[]:=by
   have aAz:sH z S [] l:=oz;cases aAz;rfl
  subst hl;exact hN a' w' pz yS.tmps yS.defers hK
 ·have h1:more k (put ov f l)={b.at ⟨jd ov a'.tmps,a'.defers⟩ (l++k)with mode:=.returning}:=by
   obtain⟨fn,tmps,td,defers,mode,kind,round⟩:=f;simp only[more,put,Frame.at,aGj]at he⊢
   obtain⟨e1,e2,e3,e4,e5,e6,e7⟩:=he;exact⟨e1,by rw[e2],trivial,e4,e5,e6,e7⟩
  have h2:f.tmps=a'.tmps/\f.defers=a'.defers:=⟨gy Frame.tmps he,gy Frame.defers he⟩;rw[h1];have hzf:z=false:=by
   cases z with
   |false=>rfl
   |true=>
    have e1:=hz rfl;have e2:f.mode=.returning:=gy Frame.mode he;rw[e1]at e2;cases e2
  exact hR hzf a' w' _ pz (h2.1▸yS.tmps) (h2.2▸yS.defers) hK
theorem acD(L:oQ B P)(C:Dh B P){a:Act}{b:bH}{K:(Nat->Question->Nat)->Nat->Exit->Act->ay->Prop}
 (hcut:rC z S c c')(hc:codeOk P B.let_ c=true)(ha:cZ (B.cut w.heap.size) a.tmps)(hd:a.defers=[])(qc:∃fn,P.funcs[b.fn]? =ae fn)(hk:b.kind=.normal)
 (zN:∀t d,c.wp P (fun e a' w'=>(e=.normal\/e=.ret)/\K t d e a' w') a<|re w t d)
 (hN:∀a' w',On w w'->cZ (B.cut w'.heap.size) a'.tmps->a'.defers=[]->(∃t d t' j,K t d .normal a'<|re w' t' j)->Reach B P (b.at a' k) cs w' Q cs2)
 (Jg:z=true->S≠.ret)
 (hR:z=false->∀a' w' todo,On w w'->cZ (B.cut w'.heap.size) a'.tmps->a'.defers=[]->(∃t d t' j,K t d .ret a'<|re w' t' j)->Reach B P {b.at a' todo with mode:=.returning} cs w' Q cs2)
 (Oe:S≠.ret->∀a' w' l,On w w'->cZ (B.cut w'.heap.size) a'.tmps->a'.defers=[]->(∃t d t' j,K t d .ret a'<|re w' t' j)->Reach B P (b.at a'<|.code S::l) cs w' Q cs2):
 Reach B P (b.at a<|.code c'::k) cs w Q cs2:=
 XZ (ov:=[]) L C (fun _ _=>.inl rfl) hcut hc ha hd qc hk zN hN Jg hR Oe
theorem Io(L:oQ B P)(C:Dh B P){a:Act}{b:bH}{K:(Nat->Question->Nat)->Nat->Exit->Act->ay->Prop}
 (hc:codeOk P B.let_ c=true)(ha:cZ (B.cut w.heap.size) a.tmps)(hd:a.defers=[])(qc:∃fn,P.funcs[b.fn]? =ae fn)(hk:b.kind=.normal)
 (zN:∀t d,c.wp P (fun e a' w'=>(e=.normal\/e=.ret)/\K t d e a' w') a<|re w t d)
 (hN:∀a' w',On w w'->cZ (B.cut w'.heap.size) a'.tmps->a'.defers=[]->(∃t d t' j,K t d .normal a'<|re w' t' j)->Reach B P (b.at a' k) cs w' Q cs2)
 (hR:∀a' w' todo,On w w'->cZ (B.cut w'.heap.size) a'.tmps->a'.defers=[]->(∃t d t' j,K t d .ret a'<|re w' t' j)->Reach B P {b.at a' todo with mode:=.returning} cs w' Q cs2):
 Reach B P (b.at a<|.code c::k) cs w Q cs2:=
 acD (z:=false) (S:=.ret) L C (.same c<|.off rfl c) hc ha hd qc hk zN hN (fun h=>by cases h) (fun _=>hR) fun h=>absurd rfl h
end au
end
section
namespace au
open Go Go.Conc
variable{B:dE}{P:fJ}
variable{w:ay}{fn:Func}
def UG(L:oQ B P)(C:Dh B P){fr c:bH}{cs:List bH}{v:aA}{t:Nat->Question->Nat}{k:Nat}{Q:dE->bH->ay->Prop}(hm:fr.mode=.returning)(hd:fr.defers=[])(hk:fr.kind=.normal)(qc:P.funcs[fr.fn]? =ae fn)(bT:cZ (B.cut w.heap.size) fr.tmps)(zQ:(results fn fr.tmps).run P (re w t k)=.ok v (re w t k))
 (hQ:∀d,aI (B.cut w.heap.size) v->Q B (c.finish v) (w.at d)):Reach B P fr (c::cs) w Q cs:=by
 refine Reach.ok fun vT=>Reach.step fun d=>?_;have hvT:=((JM (C _ vT.ng).toFit (fn:=fn) bT).Em (w:=re w t k) vT.obj zQ fun b _=>FB b _).1;have aBB:cZ B fr.tmps:=fun x hx=>(bT x hx).z (B:=B) (B':=B.cut w.heap.size) (fun _ z=>Or.inl z) rfl;obtain⟨n,r,gs,h1,h2⟩:=(JM (B:=B) (P:=P) L.toFit (fn:=fn) aBB).JL<|vT.okW.re t k;have pq:=aik h1 t k fun i _=>rfl;rw[Xv]at pq;rw[zQ]at pq;cases r with
 |halt x w1=>simp[Result.re]at pq
 |ok v1 w1=>
  simp only[Result.re,aF0]at pq;obtain⟨rfl,xA⟩:=pq;have hn:n=0:=by
   have:=gy World.drawn xA;simp only[re]at this;omega
  subst hn;have acs:re w1 w.tape d=w.at d:=by
   have e1:=gy World.heap xA;have e2:=gy World.os xA;have e3:=gy World.output xA;simp only[re]at e1 e2 e3;unfold re;show _=({w with drawn:=d}:ay);rw[<-e1,<-e2,<-e3]
  have dF:=h1 w.tape d (fun i hi=>absurd hi<|by omega) #[];rw[Xv]at dF;simp only[Result.re,LD,acs]at dF;obtain⟨hv,_,_,_,_,eX⟩:=h2;have fP:w1.heap.size=w.heap.size:=by
   have e1:=gy World.heap xA;simp only[re]at e1;rw[e1]
  refine⟨c.finish v,cs,w.at d,seen P fr.fn gs,?_,⟨vT.obj,vT.low,vT.ng⟩,dI _,?_,Reach.here fun _=>hQ d hvT⟩
  ·have GU:(results fn fr.tmps).runT P (w.at d) #[]=(.ok v<|w.at d,#[]++gs):=dF;simp only[bK,unwind,hm,hd,qc,GU,doReturn,hk,GStep.after,vw,vk]
  ·intro e he;have:=eX e<|aFW he;rw[fP]at this;exact MJ this
def cutAt(r:Code):List Bool->Code->Code
 |[],_=>r
 |b::p,.seq x y=>if b then .seq x (cutAt r p y)else .seq (cutAt r p x) y
 |b::p,.cond o x y=>if b then .cond o x (cutAt r p y)else .cond o (cutAt r p x) y
 |b::p,.block id x=>.block id<|cutAt r (b::p) x
 |b::p,.loop x=>.loop<|cutAt r (b::p) x
 |_::_,c=>c
def fH:List Bool->Code->Code
 |[],c=>c
 |b::p,.seq x y=>if b then fH p y else fH p x
 |b::p,.cond _ x y=>if b then fH p y else fH p x
 |b::p,.block _ x=>fH (b::p) x
 |b::p,.loop x=>fH (b::p) x
 |_::_,c=>c
def Nw{S r:Code}:∀(p:List Bool) (c:Code),rC false S r (fH p c)->rC false S (cutAt r p c) c
 |[],c,h=>by simp only[cutAt];simp only[fH]at h;exact h
 |b::p,.seq x y,h=>by
  simp only[cutAt];simp only[fH]at h;split
  ·rw[if_pos ‹_›]at h;exact .seq (.same x<|.off rfl _)<|Nw p y h
  ·rw[if_neg ‹_›]at h;exact .seq (Nw p x h)<|.same y<|.off rfl _
 |b::p,.cond o x y,h=>by
  simp only[cutAt];simp only[fH]at h;split
  ·rw[if_pos ‹_›]at h;exact .cond (.same x<|.off rfl _)<|Nw p y h
  ·rw[if_neg ‹_›]at h;exact .cond (Nw p x h)<|.same y<|.off rfl _
 |b::p,.block id x,h=>by simp only[cutAt];simp only[fH]at h;exact .block<|Nw (b::p) x h
 |b::p,.loop x,h=>by simp only[cutAt];simp only[fH]at h;exact .loop<|Nw (b::p) x h
 |_::_,.skip,_|_::_,.label _,_|_::_,.scope _,_|_::_,.goto _,_|_::_,.exit _,_|_::_,.rangeFunc ..,_|_::_,.ret,_|_::_,.refuse _,_|_::_,.region ..,_=>by
  simp only[cutAt];exact .same _<|.off rfl _
def akD(p:List Bool)(c:Code):rC false .ret (cutAt (.refuse "") p c) c:=Nw p c<|.cut _
def adS(L:oQ B P)(C:Dh B P){f:ji}{c c':Code}{args:Array aA}{R:(Nat->Question->Nat)->Nat->Ending->ay->Prop}(hf:P.funcs[f]? =ae fn)(hb:fn.body=ae c)(hcut:rC false .ret c' c)(bT:codeOk P B.let_ c'=true)(ha:cZ (B.cut w.heap.size) args)
 (hc:∀t d,c'.wp P (bodyPost P fn<|R t d) {tmps:=args++gz (fn.ntmps-args.size) ai,defers:=[]}<|re w t d)(ho:∀t d e w',R t d e w'->∃v,e=aV v):
 sG B P f args w (fun B' v w'=>B'=B/\aI (B.cut w'.heap.size) v/\On w w'/\∃t d t' k,R t d (aV v)<|re w' t' k):=by
 intro c0 cs;let b:Frame:={(default:bH)with fn:=f,kind:=.normal}
 have aBC:Frame.enter P f args .normal=b.at {tmps:=args++gz (fn.ntmps-args.size) ai,defers:=[]} [.code c]:=by
  simp[Frame.enter,Frame.at,hf,hb,b]
 rw[aBC];have KY:cZ (B.cut w.heap.size) (args++gz (fn.ntmps-args.size) ai):=cZ.append ha fun v hv=>by
  obtain⟨_,rfl⟩:=Lu.1 hv;exact rZ
 refine acD (K:=fun t d e a' w'=>a'.defers=[]/\∃v,(results fn a'.tmps).run P w'=.ok v w'/\R t d (aV v) w') L C hcut bT KY rfl ⟨fn,hf⟩ rfl (fun t d=>aFB (hc t d) fun e a' w' hq=>?_) ?_ (fun hz=>by cases hz) (fun _=>?_) fun dD=>absurd rfl dD
 ·cases e with
  |normal=>exact⟨.inl rfl,hq⟩
  |ret=>exact⟨.inr rfl,hq⟩
  |panic chain=>obtain⟨v,hv⟩:=ho _ _ _ _ hq.2;cases hv
  |outgrown=>obtain⟨v,hv⟩:=ho _ _ _ _ hq;cases hv
  |exit id=>exact hq.e
  |goto id=>exact hq.e
 ·rintro a' w' pz adT Jf ⟨t,d,t',j,_,v,zQ,hR⟩;refine Reach.ok fun OG=>Reach.step fun d2=>⟨{b.at a' []with mode:=.returning},c0::cs,w'.at d2,#[],by simp[bK,stepG.exec,Frame.at,b],⟨OG.obj,OG.low,OG.ng⟩,dI _,by simp,?_⟩;exact UG L C (fr:={b.at a' []with mode:=.returning}) (w:=w'.at d2) (v:=v) (t:=t') (k:=j) rfl Jf rfl hf adT zQ fun d3 hv=>⟨v,rfl,rfl,hv,⟨pz.tape,pz.size,pz.os,pz.output⟩,t,d,t',j,hR⟩
 ·rintro a' w' todo pz adT Jf ⟨t,d,t',j,_,v,zQ,hR⟩;exact UG L C (fr:={b.at a' todo with mode:=.returning}) (w:=w') (v:=v) (t:=t') (k:=j) rfl Jf rfl hf adT zQ fun d3 hv=>⟨v,rfl,rfl,hv,⟨pz.tape,pz.size,pz.os,pz.output⟩,t,d,t',j,hR⟩
end au
end
section
namespace au
open Go Go.Conc
variable{B:dE}{P:fJ}
def BL:Code->Code
 | .seq a b=>.seq (BL a)<|BL b
 | .cond o a b=>.cond o (BL a)<|BL b
 | .block id a=>.block id<|BL a
 | .loop a=>.loop<|BL a
 | .skip=>.skip
 | .exit id=>.exit id
 | .region i o d=>.region i o d
 |_=>.refuse ""
variable{S:Code}
def Ny:∀c:Code,rC true S (BL c) c
 | .seq a b=>.seq (Ny a)<|Ny b
 | .cond _ a b=>.cond (Ny a)<|Ny b
 | .block _ a=>.block<|Ny a
 | .loop a=>.loop<|Ny a
 | .skip=>.same _ fun _=>rfl
 | .exit _=>.same _ fun _=>rfl
 | .region .. =>.same _ fun _=>rfl
 | .ret=>.cut _
 | .label _=>.cut _
 | .scope _=>.cut _
 | .goto _=>.cut _
 | .rangeFunc .. =>.cut _
 | .refuse _=>.cut _
def lW:List Bool->Code->Code
 |[],_=>.ret
 |b::p,.seq x y=>if b then .seq (BL x) (lW p y)else .seq (lW p x) (.refuse "")
 |b::p,.cond o x y=>if b then .cond o (.refuse "") (lW p y)else .cond o (lW p x) (.refuse "")
 |b::p,.block id x=>.block id<|lW (b::p) x
 |b::p,.loop x=>.loop<|lW (b::p) x
 |_::_,_=>.refuse ""
def Kv:∀(p:List Bool) (c:Code),S=fH p c->rC true S (lW p c) c
 |[],c,h=>by simp only[fH]at h;subst h;simp only[lW];exact .stop
 |b::p,.seq x y,h=>by
  simp only[fH]at h;simp only[lW];split
  ·rw[if_pos ‹_›]at h;exact .seq (Ny x)<|Kv p y h
  ·rw[if_neg ‹_›]at h;exact .seq (Kv p x h)<|.cut _
 |b::p,.cond o x y,h=>by
  simp only[fH]at h;simp only[lW];split
  ·rw[if_pos ‹_›]at h;exact .cond (.cut _)<|Kv p y h
  ·rw[if_neg ‹_›]at h;exact .cond (Kv p x h)<|.cut _
 |b::p,.block id x,h=>by simp only[fH]at h;simp only[lW];exact .block<|Kv (b::p) x h
 |b::p,.loop x,h=>by simp only[fH]at h;simp only[lW];exact .loop<|Kv (b::p) x h
 |_::_,.skip,_|_::_,.label _,_|_::_,.scope _,_|_::_,.goto _,_|_::_,.exit _,_|_::_,.rangeFunc ..,_|_::_,.ret,_|_::_,.refuse _,_|_::_,.region ..,_=>by
  simp only[lW];exact .cut _
def YU(L:oQ B P)(C:Dh B P){p:List Bool}{c:Code}{a:Act}{b:bH}{k:List Item}{cs cs2:List bH}{w:ay}{Q:dE->bH->ay->Prop}{K:(Nat->Question->Nat)->Nat->Act->ay->Prop}
 (hS:S=fH p c)(dD:S≠.ret)(hc:codeOk P B.let_ (lW p c)=true)(ha:cZ (B.cut w.heap.size) a.tmps)(hd:a.defers=[])(qc:∃fn,P.funcs[b.fn]? =ae fn)(hk:b.kind=.normal)
 (zN:∀t d,(lW p c).wp P (fun e a' w'=>e=.ret/\K t d a' w') a<|re w t d)
 (Oe:∀a' w' l,On w w'->cZ (B.cut w'.heap.size) a'.tmps->a'.defers=[]->(∃t d t' j,K t d a'<|re w' t' j)->Reach B P (b.at a'<|.code S::l) cs w' Q cs2):
 Reach B P (b.at a<|.code c::k) cs w Q cs2:=
 acD (z:=true) (K:=fun t d e a' w'=>e=.ret/\K t d a' w') L C (Kv p c hS) hc ha hd qc hk (fun t d=>aFB (zN t d) fun e a' w' hq=>⟨.inr hq.1,hq⟩)
  (fun _ _ _ _ _ ⟨_,_,_,_,e,_⟩=>by cases e) (fun _=>dD) (fun h=>by cases h)
  (fun _ a' w' l h1 h2 h3 ⟨t,d,t',j,_,hK⟩=>Oe a' w' l h1 h2 h3 ⟨t,d,t',j,hK⟩)
end au
end
