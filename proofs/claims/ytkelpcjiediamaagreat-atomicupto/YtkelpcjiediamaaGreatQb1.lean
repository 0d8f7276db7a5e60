import Derived.Test.YtkelpcjiediamaaGreatQb0
import GoSem.Step
set_option maxRecDepth 100000
set_option maxHeartbeats 0
set_option linter.all false
namespace Go.Proofs.YtkelpcjiediamaaGreat
open Go renaming Program→dO,TypeId→bW,Value→aj,World→ah
open Option renaming none→af,some→ae
section
namespace ai
open Go
structure bP where
 bK:Nat->Prop
 let_:FuncId->Bool
 wg:Nat->Prop
inductive az(B:bP):aj->Prop where
 |bool {b}:az B (.bool b)
 |int {k n}:az B (.int k n)
 |float {k n}:az B (.float k n)
 |string {s}:az B (.string s)
 |pointer {a:Option Addr} (h:∀x,a=ae x->¬B.bK x.block):az B (.pointer a)
 |slice {a:Option Addr} {n m} (h:∀x,a=ae x->¬B.bK x.block):az B (.slice a n m)
 |map {r:Option Nat} (h:∀x,r=ae x->¬B.bK x):az B (.map r)
 |chan {r:Option Nat} (h:∀x,r=ae x->¬B.bK x):az B (.chan r)
 |func {f:FuncId} {a c:Array aj} (h:B.let_ f=true) (ha:∀v∈a,az B v) (hc:∀v∈c,az B v):az B (.func (.func f) a c)
 |nilFunc:az B .nilFunc
 |iface {t v} (h:az B v):az B (.iface t v)
 |nilIface:az B .nilIface
 |agg {a:Array aj} (h:∀v∈a,az B v):az B (.agg a)
 |tuple {a:Array aj} (h:∀v∈a,az B v):az B (.tuple a)
variable{B:bP}{P:dO}
def bG(B:bP)(a:Array aj):Prop:=∀v∈a,az B v
def lN(B:bP):Obj->Prop
 | .cells c _ _=>bG B c
 | .map es _=>∀e∈es,az B e.key/\az B e.val
 | .chan _ buf _ _ _ _=>bG B buf
 | .stringIter _ _=>True
 | .mapIter m _ _ _=>∀r,m=ae r->¬B.bK r
 | .finalizers _ _=>True
 | .number a _=>¬B.bK a.block
 |_=>False
structure OkW(B:bP)(w:ah):Prop where
 obj:∀b o,¬B.bK b->w.heap[b]? =ae o->lN B o
 low:∀b,B.bK b->b<w.heap.size
def ZY:Halt->Prop
 | .panic _=>True
 | .stuck _=>True
 | .unsupported (.initOrder _)=>False
 | .unsupported _=>True
 |_=>False
def Clean(B:bP)(P:dO){α:Type}(ok:α->Prop):Sem α->Prop
 | .pure a=>ok a
 | .load _ a k=>¬B.bK a.block/\∀v,az B v->Clean B P ok (k v)
 | .store _ a v k=>¬B.bK a.block/\az B v/\Clean B P ok k
 | .new o k=>lN B o/\∀r,¬B.bK r->Clean B P ok (k r)
 | .shape _ k=>∀x,Clean B P ok<|k x
 | .freeze _ _ k=>Clean B P ok k
 | .frozen _ k=>∀x,Clean B P ok<|k x
 | .getObj r k=>¬B.bK r/\∀o,lN B o->Clean B P ok (k o)
 | .setObj r o k=>¬B.bK r/\lN B o/\Clean B P ok k
 | .choose _ k=>∀x,Clean B P ok<|k x
 | .sys c k=>c=.env/\∀r,Clean B P ok<|k r
 | .program k=>Clean B P ok<|k P
 | .mark m k=>m=.noRoom/\Clean B P ok k
 | .halt h=>ZY h
def Clean.mono{α:Type}{ok ET:α->Prop}(hi:∀a,ok a->ET a){s:Sem α}(h:Clean B P ok s):Clean B P ET s:=by
 induction s with
 |pure a=>exact hi a h
 |load m a k ih=>exact⟨h.1,fun v hv=>ih v<|h.2 v hv⟩
 |store m a v k ih=>exact⟨h.1,h.2.1,ih h.2.2⟩
 |new o k ih=>exact⟨h.1,fun r hr=>ih r<|h.2 r hr⟩
 |shape r k ih=>exact fun x=>ih x<|h x
 |freeze a n k ih=>exact ih h
 |frozen a k ih=>exact fun x=>ih x<|h x
 |getObj r k ih=>exact⟨h.1,fun o ho=>ih o<|h.2 o ho⟩
 |setObj r o k ih=>exact⟨h.1,h.2.1,ih h.2.2⟩
 |choose q k ih=>exact fun x=>ih x<|h x
 |sys c k ih=>exact⟨h.1,fun r=>ih r<|h.2 r⟩
 |program k ih=>exact ih P h
 |mark m k ih=>exact⟨h.1,ih h.2⟩
 |halt x=>exact h
def Clean.bind{α β:Type}{ok:α->Prop}{ET:β->Prop}{f:α->Sem β}{s:Sem α}(h:Clean B P ok s)(hf:∀a,ok a->Clean B P ET (f a)):Clean B P ET (s.bind f):=by
 induction s with
 |pure a=>exact hf a h
 |load m a k ih=>exact⟨h.1,fun v hv=>ih v<|h.2 v hv⟩
 |store m a v k ih=>exact⟨h.1,h.2.1,ih h.2.2⟩
 |new o k ih=>exact⟨h.1,fun r hr=>ih r<|h.2 r hr⟩
 |shape r k ih=>exact fun x=>ih x<|h x
 |freeze a n k ih=>exact ih h
 |frozen a k ih=>exact fun x=>ih x<|h x
 |getObj r k ih=>exact⟨h.1,fun o ho=>ih o<|h.2 o ho⟩
 |setObj r o k ih=>exact⟨h.1,h.2.1,ih h.2.2⟩
 |choose q k ih=>exact fun x=>ih x<|h x
 |sys c k ih=>exact⟨h.1,fun r=>ih r<|h.2 r⟩
 |program k ih=>exact ih P h
 |mark m k ih=>exact⟨h.1,ih h.2⟩
 |halt x=>exact h
def re(w:ah)(t:Nat->Question->Nat)(d:Nat):World:={w with tape:=t,drawn:=d}
variable{w:ah}{a:Addr}{v:aj}{o:Obj}{n:Nat}
def OkW.re(h:OkW B w)(t:Nat->Question->Nat)(d:Nat):OkW B (re w t d):=⟨h.obj,h.low⟩
@[simp]def Vq(w:ah)(t t':Nat->Question->Nat)(d d':Nat):ai.re (ai.re w t d) t' d'=ai.re w t' d':=rfl
@[simp]def afu(w:ah):ai.re w w.tape w.drawn=w:=rfl
@[simp]def Vr(w:ah)(t:Nat->Question->Nat)(d:Nat)(a:Addr):(ai.re w t d).cell? a=w.cell? a:=rfl
def OkW.cell(h:OkW B w)(ha:¬B.bK a.block)(hc:w.cell? a=ae v):az B v:=by
 unfold World.cell? at hc;split at hc
 ·rename_i c e fz hb;have ho:bG B c:=h.obj _ _ ha hb;split at hc
  ·cases hc
  ·exact ho v<|JJ hc
 ·cases hc
def afv(hc:w.cell? a=ae v):a.block<w.heap.size:=by
 unfold World.cell? at hc;split at hc
 ·rename_i hb;exact(iU.1 hb).1
 ·cases hc
def bG.set{c:Array aj}(h:bG B c)(hv:az B v)(i:Nat):bG B (c.setIfInBounds i v):=by
 intro x hx;obtain⟨j,hj,rfl⟩:=Fp.1 hx;rw[Array.getElem_setIfInBounds<|by simpa using hj];split
 ·exact hv
 ·exact h _<|PH _
def Vs{b:Nat}{f:Obj->Obj}{k:Nat}(h:(w.heap.modify b f)[k]? =ae o):∃o',w.heap[k]? =ae o'/\(o=o'\/(k=b/\o=f o')):=by
 rw[ale]at h;split at h
 ·rename_i hb;obtain⟨o',sS,rfl⟩:=yI.1 h;exact⟨o',sS,.inr ⟨hb.symm,rfl⟩⟩
 ·exact⟨o,h,.inl rfl⟩
def OkW.setCell(h:OkW B w)(hv:az B v):OkW B (w.setCell a v):=by
 refine⟨fun b o hb ho=>?_,fun b hb=>by simpa[World.setCell]using h.low b hb⟩;obtain⟨o',sS,hx⟩:=Vs ho;have hk:=h.obj _ _ hb sS;rcases hx with rfl|⟨_,rfl⟩
 ·exact hk
 ·cases o'<;>first|exact hk|skip;rename_i c e fz;show bG B _;split
  ·exact hk
  ·exact bG.set (show bG B c from hk) hv _
def OkW.freeze(h:OkW B w):OkW B (w.freeze a n):=by
 unfold World.freeze;split
 ·exact h
 refine⟨fun b o hb ho=>?_,fun b hb=>by simpa using h.low b hb⟩;obtain⟨o',sS,hx⟩:=Vs ho;have hk:=h.obj _ _ hb sS;rcases hx with rfl|⟨_,rfl⟩
 ·exact hk
 ·cases o'<;>exact hk
def OkW.push(h:OkW B w)(ho:lN B o):OkW B {w with heap:=w.heap.push o}:=by
 refine⟨fun b x hb hx=>?_,fun b hb=>by have:=h.low b hb;simp<;>omega⟩;simp only[PE]at hx;split at hx
 ·cases hx;exact ho
 ·exact h.obj _ _ hb hx
def OkW.fresh(h:OkW B w):¬B.bK w.heap.size:=fun x=>PI _<|h.low _ x
def OkW.setObj(h:OkW B w){r:Nat}(ho:lN B o):OkW B {w with heap:=w.heap.setIfInBounds r o}:=by
 refine⟨fun b x hb hx=>?_,fun b hb=>by simpa using h.low b hb⟩;simp only[adC]at hx;split at hx
 ·split at hx
  ·cases hx;exact ho
  ·cases hx
 ·exact h.obj _ _ hb hx
def Ei(B:bP)(n:Nat)(e:Event):Prop:=
 match e.loc with
 | .cell a=>¬B.bK a.block/\a.block<n
 | .obj r=>¬B.bK r/\r<n
 | .mark m=>m=.noRoom
 | .output=>True
 |_=>False
def Ei.mono{m:Nat}(h:n<=m){e:Event}(he:Ei B n e):Ei B m e:=by
 unfold Ei at*
 split at he<;>simp_all
 ·omega
 ·omega
def _root_.Go.Result.re{α:Type}(t:Nat->Question->Nat)(d:Nat):Result α->Result α
 | .ok a w=>.ok a<|ai.re w t d
 | .halt h w=>.halt h<|ai.re w t d
def Ko(B:bP){α:Type}(ok:α->Prop)(w:ah)(gs:Array Event):Result α->Prop
 | .ok a w'=>ok a/\OkW B w'/\w.heap.size<=w'.heap.size/\w'.os=w.os/\w'.output=w.output/\∀e∈gs,Ei B w'.heap.size e
 | .halt h _=>ZY h
def Ko.step{α:Type}{ok:α->Prop}{w w1:ah}{gs:Array Event}{e:Event}{r:Result α}(h:Ko B ok w1 gs r)(hs:w.heap.size<=w1.heap.size)(ho:w1.os=w.os)(hu:w1.output=w.output)(he:Ei B w1.heap.size e):Ko B ok w (#[e]++gs) r:=by
 cases r with
 |halt x w2=>exact h
 |ok a w2=>
  obtain⟨h1,h2,h3,h4,h5,h6⟩:=h;refine⟨h1,h2,dP hs h3,h4.trans ho,h5.trans hu,fun x hx=>?_⟩;rcases Ia.1 hx with hx|hx
  ·obtain rfl:x=e:=by simpa using hx
   exact he.mono h3
  ·exact h6 x hx
def Ko.same{α:Type}{ok:α->Prop}{w1:ah}{gs:Array Event}{r:Result α}(h:Ko B ok w1 gs r)(hs:w.heap.size<=w1.heap.size)(ho:w1.os=w.os)(hu:w1.output=w.output):Ko B ok w gs r:=by
 cases r with
 |halt x w2=>exact h
 |ok a w2=>
  obtain⟨h1,h2,h3,h4,h5,h6⟩:=h;exact⟨h1,h2,dP hs h3,h4.trans ho,h5.trans hu,h6⟩
def ZZ(P:dO){α:Type}(s:Sem α)(w:ah)(n:Nat)(r:Result α)(gs:Array Event):Prop:=
 ∀t d,(∀i,i<n->t (d+i)=w.tape (w.drawn+i))->∀fs,s.runT P (re w t d) fs=(r.re t<|d+n,fs++gs)
def afw(hw:OkW B w)(ha:¬B.bK a.block)(s:String):ZY (w.noCell a s):=by
 unfold World.noCell;split
 ·rename_i h;exact(hw.obj _ _ ha h).elim
 ·rename_i h;exact(hw.obj _ _ ha h).elim
 ·trivial
def aow(hw:OkW B w)(ha:¬B.bK a.block)(b:Bool):w.farLoad P a b=.error (w.noCell a "load: no such cell"):=by
 unfold World.farLoad;split
 ·rename_i h;exact(hw.obj _ _ ha h).elim
 ·rfl
def aox(hw:OkW B w)(ha:¬B.bK a.block)(v:aj)(b:Bool):w.farStore P a v b=.error (w.noCell a "store: no such cell"):=by
 unfold World.farStore;split
 ·rename_i h;exact(hw.obj _ _ ha h).elim
 ·rfl
def NF(fs gs:Array Event)(e:Event):fs.push e++gs=fs++(#[e]++gs):=by
 rw[Array.push_eq_append,YG]
def Clean.Iz{α:Type}{ok:α->Prop}{s:Sem α}(h:Clean B P ok s):∀{w:ah},OkW B w->∃n r gs,ZZ P s w n r gs/\Ko B ok w gs r:=by
 induction s with
 |pure a=>exact fun{w} hw=>⟨0,.ok a w,#[],fun t d _ fs=>by simp[Sem.runT,Result.re],h,hw,bV _,rfl,rfl,by simp⟩
 |load m a k ih=>
  intro w hw;cases hc:w.cell? a with
  |some v=>
   obtain⟨n,r,gs,h1,h2⟩:=ih v (h.2 v<|hw.cell h.1 hc) hw;refine⟨n,r,_,fun t d hd fs=>?_,h2.step (e:=⟨.cell a,false,m== .atomic⟩) (bV _) rfl rfl ⟨h.1,afv hc⟩⟩;simp only[Sem.runT,Vr,hc];rw[h1 t d hd,NF]
  |none=>
   refine⟨0,.halt (w.noCell a "load: no such cell") w,#[],fun t d hd fs=>?_,afw hw h.1 _⟩;simp only[Sem.runT,Vr,hc,aow (P:=P) (hw.re t d) h.1];simp[Result.re,World.noCell,ai.re]
 |store m a v k ih=>
  intro w hw;by_cases hv:(∃x,v=.agg x)\/(∃x,v=.tuple x)
  ·refine⟨0,.halt (.stuck "store: not the value of one cell") w,#[],fun t d hd fs=>?_,trivial⟩;rcases hv with⟨x,rfl⟩|⟨x,rfl⟩<;>simp[Sem.runT,Result.re]
  ·have fU:∀w es,(Sem.store m a v k).runT P w es=match w.cell? a with
    |some _=>
     if w.frozen? a then(.halt (.unsupported<|.unsafePointer "a write to bytes that a string shares") w,es)
     else k.runT P (w.setCell a v) (es.push ⟨.cell a,true,m== .atomic⟩)
    |none=>match w.farStore P a v (m== .atomic)with
     | .ok (w,touched)=>k.runT P w (es++touched.toArray.map (⟨.cell ·,true,m== .atomic⟩))
     | .error h=>(.halt h w,es):=by
    intro w es
    cases v<;>first|rfl|simp at hv
   cases hc:w.cell? a with
   |some x=>
    by_cases hf:w.frozen? a=true
    ·refine⟨0,.halt (.unsupported<|.unsafePointer "a write to bytes that a string shares") w,#[],fun t d hd fs=>?_,trivial⟩;rw[fU];have:(ai.re w t d).frozen? a=true:=hf;simp[hc,this,Result.re]
    ·obtain⟨n,r,gs,h1,h2⟩:=ih h.2.2<|hw.setCell (a:=a) h.2.1;refine⟨n,r,_,fun t d hd fs=>?_,h2.step (e:=⟨.cell a,true,m== .atomic⟩) (by simp[World.setCell]) rfl rfl ⟨h.1,by simpa[World.setCell]using afv hc⟩⟩;rw[fU];have DV:¬(ai.re w t d).frozen? a=true:=hf;have:=h1 t d hd<|fs.push ⟨.cell a,true,m== .atomic⟩;simp only[Vr,hc,if_neg DV];rw[<-NF];exact this
   |none=>
    refine⟨0,.halt (w.noCell a "store: no such cell") w,#[],fun t d hd fs=>?_,afw hw h.1 _⟩;rw[fU];simp only[Vr,hc,aox (P:=P) (hw.re t d) h.1];simp[Result.re,World.noCell,ai.re]
 |new o k ih=>
  intro w hw;obtain⟨n,r,gs,h1,h2⟩:=ih w.heap.size (h.2 _ hw.fresh)<|hw.push h.1;exact⟨n,r,gs,fun t d hd fs=>h1 t d hd fs,h2.same (by simp) rfl rfl⟩
 |shape x k ih=>
  intro w hw;obtain⟨n,r,gs,h1,h2⟩:=ih (w.shape? x) (h _) hw;exact⟨n,r,gs,fun t d hd fs=>h1 t d hd fs,h2⟩
 |freeze a m k ih=>
  intro w hw;obtain⟨n,r,gs,h1,h2⟩:=ih h<|hw.freeze (a:=a) (n:=m);refine⟨n,r,gs,fun t d hd fs=>?_,h2.same (by unfold World.freeze;split<;>simp) (by unfold World.freeze;split<;>rfl) (by unfold World.freeze;split<;>rfl)⟩;have e:∀t d,(ai.re w t d).freeze a m=ai.re (w.freeze a m) t d:=by
   intro t d;unfold World.freeze;split<;>rfl
  have e1:(w.freeze a m).tape=w.tape:=by unfold World.freeze;split<;>rfl
  have e2:(w.freeze a m).drawn=w.drawn:=by unfold World.freeze;split<;>rfl
  simp only[Sem.runT];rw[e];exact h1 t d (by rw[e1,e2];exact hd) fs
 |frozen a k ih=>
  intro w hw;obtain⟨n,r,gs,h1,h2⟩:=ih (w.frozen? a) (h _) hw;exact⟨n,r,gs,fun t d hd fs=>h1 t d hd fs,h2⟩
 |getObj x k ih=>
  intro w hw;cases hb:w.heap[x]? with
  |none=>exact⟨0,.halt (.stuck "getObj: no such block") w,#[],fun t d hd fs=>by simp[Sem.runT,ai.re,hb,Result.re],trivial⟩
  |some o=>
   have ho:=hw.obj _ _ h.1 hb;have aB:=(iU.1 hb).1;by_cases Ha:∃c e f,o=.cells c e f
   ·obtain⟨c,e,f,rfl⟩:=Ha;exact⟨0,.halt (.stuck "getObj: a row of cells") w,#[],fun t d hd fs=>by simp[Sem.runT,ai.re,hb,Result.re],trivial⟩
   ·obtain⟨n,r,gs,h1,h2⟩:=ih o (h.2 o ho) hw;refine⟨n,r,_,fun t d hd fs=>?_,h2.step (e:=⟨.obj x,false,o.isChan⟩) (bV _) rfl rfl ⟨h.1,aB⟩⟩;have iG:(ai.re w t d).heap[x]? =ae o:=hb;have:(Sem.getObj x k).runT P (ai.re w t d) fs=(k o).runT P (ai.re w t d) (fs.push ⟨.obj x,false,o.isChan⟩):=by
     simp only[Sem.runT,iG];cases o<;>first|rfl|simp at Ha
    rw[this,h1 t d hd,NF]
 |setObj x o' k ih=>
  intro w hw;cases hb:w.heap[x]? with
  |none=>exact⟨0,.halt (.stuck "setObj: no such block") w,#[],fun t d hd fs=>by simp[Sem.runT,ai.re,hb,Result.re],trivial⟩
  |some o=>
   have aB:=(iU.1 hb).1;by_cases Ha:∃c e f,o=.cells c e f
   ·obtain⟨c,e,f,rfl⟩:=Ha;exact⟨0,.halt (.stuck "setObj: a row of cells") w,#[],fun t d hd fs=>by simp[Sem.runT,ai.re,hb,Result.re],trivial⟩
   ·obtain⟨n,r,gs,h1,h2⟩:=ih h.2.2<|hw.setObj (r:=x) h.2.1;refine⟨n,r,_,fun t d hd fs=>?_,h2.step (e:=⟨.obj x,true,o'.isChan⟩) (by simp) rfl rfl ⟨h.1,by simpa using aB⟩⟩;have iG:(ai.re w t d).heap[x]? =ae o:=hb;have:(Sem.setObj x o' k).runT P (ai.re w t d) fs=k.runT P (ai.re {w with heap:=w.heap.setIfInBounds x o'} t d) (fs.push ⟨.obj x,true,o'.isChan⟩):=by
     simp only[Sem.runT,iG];cases o<;>first|rfl|simp at Ha
    rw[this,h1 t d hd,NF]
 |choose q k ih=>
  intro w hw;by_cases hq:q.forced=true
  ·obtain⟨n,r,gs,h1,h2⟩:=ih 0 (h _) hw;exact⟨n,r,gs,fun t d hd fs=>by simp only[Sem.runT,hq,if_true];exact h1 t d hd fs,h2⟩
  ·obtain⟨n,r,gs,h1,h2⟩:=ih (q.cut<|w.tape w.drawn q) (h _) (w:={w with drawn:=w.drawn+1}) ⟨hw.obj,hw.low⟩;refine⟨n+1,r,gs,fun t d hd fs=>?_,h2.same (bV _) rfl rfl⟩;have h0:=hd 0 (by omega);simp only[JM]at h0;have:=h1 t (d+1) (fun i hi=>by have:=hd (i+1) (by omega);rw[show d+1+i=d+(i+1)by omega,this];show _=w.tape (w.drawn+1+i);congr 1;omega) fs;have e:(Sem.choose q k).runT P (ai.re w t d) fs=(k<|q.cut<|w.tape w.drawn q).runT P (ai.re {w with drawn:=w.drawn+1} t<|d+1) fs:=by
    simp only[Sem.runT,if_neg hq];show(k<|q.cut<|t d q).runT P _ fs=_;rw[h0];rfl
   rw[e,this,show d+1+n=d+(n+1)by omega]
 |sys c k ih=>
  intro w hw;obtain⟨rfl,h'⟩:=h;obtain⟨n,r,gs,h1,h2⟩:=ih (.strings w.os.env) (h' _) hw;refine⟨n,r,_,fun t d hd fs=>?_,h2.step (e:=⟨.output,true,false⟩) (bV _) rfl rfl trivial⟩;have e:(Sem.sys .env k).runT P (ai.re w t d) fs=(k<|.strings w.os.env).runT P (ai.re w t d) (fs.push ⟨.output,true,false⟩):=rfl;rw[e,h1 t d hd,NF]
 |program k ih=>exact fun{w} hw=>ih P h hw
 |mark m k ih=>
  intro w hw;obtain⟨n,r,gs,h1,h2⟩:=ih h.2 hw;refine⟨n,r,_,fun t d hd fs=>?_,h2.step (e:=⟨.mark m,false,true⟩) (bV _) rfl rfl h.1⟩;simp only[Sem.runT];rw[h1 t d hd,NF]
 |halt x=>exact fun{w} hw=>⟨0,.halt x w,#[],fun t d _ fs=>by simp[Sem.runT,Result.re],h⟩
end ai
end
section
namespace ai
open Go
structure Fit(B:bP)(P:dO):Prop where
 zero:∀t i v,P.info? t=ae i->i.zero=ae v->az B v
 globals:∀b,B.bK b->P.globals.size+1<=b
variable{B:bP}{P:dO}{α β:Type}
section basics
variable{ok:α->Prop}{ET:β->Prop}
def aO{a:α}(h:ok a):Clean B P ok (pure a:Sem α):=h
def cZ{s:String}:Clean B P ok (stuck s:Sem α):=trivial
def aJ{s:Sem α}{f:α->Sem β}(h:Clean B P ok s)(hf:∀a,ok a->Clean B P ET (f a)):Clean B P ET (s>>=f):=Clean.bind h hf
def afx{s:Sem α}{f:α->β}(h:Clean B P ok s)(hf:∀a,ok a->ET (f a)):Clean B P ET (f<$>s):=Clean.bind h hf
def fG{c:Prop}[Decidable c]{s t:Sem α}(h:c->Clean B P ok s)(h':¬c->Clean B P ok t):Clean B P ok (if c then s else t):=by
 split
 ·exact h ‹_›
 ·exact h' ‹_›
def iM{u:Unsupported}(h:∀g,u≠.initOrder g):Clean B P ok (unsupported u:Sem α):=by
 cases u<;>first|trivial|exact absurd rfl<|h _
def yR:Clean B P (fun p=>p=P) program:=rfl
end basics
variable{t:bW}{r n i:Nat}{a:Addr}{o:Obj}{m v u k x:aj}{c:Array aj}{es:Array MapEntry}
def Bd:Clean B P (fun i=>P.info? t=ae i) (typeInfo t):=by
 refine aJ yR fun p hp=>?_;subst hp;split
 ·exact aO ‹_›
 ·exact cZ
def jF:Clean B P (fun d=>P.underlying t=ae d) (underlying t):=by
 refine aJ yR fun p hp=>?_;subst hp;split
 ·exact aO ‹_›
 ·exact cZ
def tZ:Clean B P (fun _=>True) (sizeOf t):=aJ Bd fun _ _=>aO trivial
def afy:Clean B P (fun _=>True) (typeStr t):=by
 refine aJ Bd fun _ _=>fG (fun _=>iM<|by simp) fun _=>aO trivial
def afz:Clean B P (fun _=>True) (isAgg t):=by
 refine aJ jF fun _ _=>?_;split<;>exact aO trivial
def zU{q:Question}:Clean B P (fun _=>True) (choose q):=fun _=>trivial
def Ej:Clean B P (fun _=>True) (shape r):=fun _=>trivial
def Qs:Clean B P (fun _=>True) (frozen a):=fun _=>trivial
def aoy:Clean B P (fun _=>True) (freeze a n):=trivial
def wO(h:¬B.bK r):Clean B P (lN B) (getObj r):=⟨h,fun _ ho=>ho⟩
def Em(h:¬B.bK r)(ho:lN B o):Clean B P (fun _=>True) (setObj r o):=⟨h,ho,trivial⟩
def Vt(ho:lN B o):Clean B P (fun r=>¬B.bK r) (newObj o):=⟨ho,fun _ h=>h⟩
def afA{m:Mode}(h:¬B.bK a.block):Clean B P (az B) (load a m):=⟨h,fun _ hv=>hv⟩
def aoz{m:Mode}(h:¬B.bK a.block)(hv:az B v):Clean B P (fun _=>True) (store a v m):=⟨h,hv,trivial⟩
def afB:Clean B P (fun _=>True) (askRoom n):=fG (fun _=>⟨rfl,trivial⟩) fun _=>trivial
@[simp]def add_block(a:Addr)(n:Nat):(a.add n).block=a.block:=by unfold Addr.add;split<;>rfl
def F8(F:Fit B P):Clean B P (az B) (zeroValue t):=by
 refine aJ Bd fun i hi=>?_;split
 ·exact aO<|F.zero _ _ _ hi ‹_›
 ·exact iM<|by simp
def bG.push(h:bG B c)(hv:az B v):bG B (c.push v):=by
 intro x hx;rcases Array.mem_push.1 hx with hx|rfl
 ·exact h x hx
 ·exact hv
def bG.append{d:Array aj}(h:bG B c)(h':bG B d):bG B (c++d):=fun x hx=>(Ia.1 hx).elim (h x)<|h' x
def bG.extract(h:bG B c)(i j:Nat):bG B (c.extract i j):=by
 intro x hx;obtain⟨k,hk,rfl⟩:=Fp.1 hx;rw[Array.getElem_extract];exact h _<|PH _
def bG.nil:bG B #[]:=by intro x hx;simp at hx
def bG.one(h:az B v):bG B #[v]:=by intro x hx;simp at hx;exact hx▸h
def bG.two(h:az B v)(h':az B u):bG B #[v,u]:=by intro x hx;simp at hx;rcases hx with rfl|rfl<;>assumption
def bG.three{z:aj}(h:az B v)(h':az B u)(h'':az B z):bG B #[v,u,z]:=by intro x hx;simp at hx;rcases hx with rfl|rfl|rfl<;>assumption
def bG.get(h:bG B c)(hv:c[i]? =ae v):az B v:=h v<|JJ hv
def bG.getD(h:bG B c)(hv:az B v):az B (c.getD i v):=by
 unfold Array.getD;split
 ·exact h _<|PH _
 ·exact hv
def az.cells(h:az B v):bG B v.cells:=by
 cases h<;>first|exact bG.one (by constructor<;>assumption)|assumption|skip
def ru:az B undef:=.tuple<|by simp
def afC(h:¬B.bK a.block):∀(n i:Nat) (acc:Array aj),bG B acc->Clean B P (bG B) (loadCellsFrom a i n acc)
 |0,_,_,ha=>ha
 |n+1,i,acc,ha=>aJ (afA<|by simpa using h) fun _ hv=>afC h n (i+1) _<|ha.push hv
def Z4(h:¬B.bK a.block)(n:Nat):Clean B P (bG B) (loadCells a n):=afC h n 0 _ bG.nil
def NG(h:¬B.bK a.block):∀(vs:List aj) (i:Nat),(∀v∈vs,az B v)->Clean B P (fun _=>True) (storeCells a vs i)
 |[],_,_=>trivial
 |v::vs,i,hv=>aJ (aoz (by simpa using h)<|hv v<|by simp) fun _ _=>NG h vs (i+1) fun x hx=>hv x<|by simp[hx]
def afD(h:¬B.bK a.block):Clean B P (az B) (loadVar t a):=by
 refine aJ afz fun b _=>?_;split
 ·exact aJ tZ fun _ _=>aJ (Z4 h _) fun _ hc=>aO<|.agg hc
 ·exact afA h
def aoA(h:¬B.bK a.block)(hv:az B v):Clean B P (fun _=>True) (storeVar t a v):=by
 refine aJ tZ fun _ _=>?_;split
 ·exact aJ (cZ (ok:=fun _=>True)) fun _ _=>NG h _ _ fun x hx=>hv.cells x<|by simpa using hx
 ·exact aJ (aO (ok:=fun _=>True) trivial) fun _ _=>NG h _ _ fun x hx=>hv.cells x<|by simpa using hx
def Qu(h:bG B c):Clean B P (fun a=>¬B.bK a.block) (newRow t c):=aJ (Vt<|show lN B (.cells c t)from h) fun _ hr=>aO hr
def Vu(h:az B v):Clean B P (fun a=>¬B.bK a.block) (newVar t v):=Qu h.cells
def Be{o:Nat}(h:bG B c):Clean B P (az B) (part t c o):=by
 refine aJ afz fun b _=>?_;split
 ·exact aJ tZ fun _ _=>aO<|.agg<|h.extract _ _
 ·split
  ·exact aO<|h.get ‹_›
  ·exact cZ
def Qv{ok:α->Prop}:Clean B P ok (goPanic v:Sem α):=trivial
def afE:Clean B P (fun _=>True) (elemOf t):=by
 refine aJ jF fun _ _=>?_;split
 ·exact aO trivial
 ·exact cZ
def qH(F:Fit B P){ok:α->Prop}{e:RuntimeError}:Clean B P ok (runtimePanic e:Sem α):=by
 refine aJ yR fun p hp=>?_;subst hp;cases e;case typeAssertion i c a m=>
  have hh:∀t,az B (typeHandle p t):=fun t=>.pointer (by
   rintro x hx;cases hx;intro h;have:=F.globals _ h;simp only at this;omega)
  have h1:∀t:Option bW,az B (match t with|some t=>typeHandle p t|none=>.pointer af):=by
   intro t;split
   ·exact hh _
   ·exact .pointer<|by simp
  refine aJ afE fun _ _=>aJ (Vu<|.agg ?_) fun _ _=>Qv
  intro v hv
  simp at hv
  rcases hv with rfl|rfl|rfl|rfl
  ·exact h1 i
  ·exact h1 c
  ·exact hh _
  ·exact .string
 case panicNil=>exact aJ afE fun _ _=>aJ (Vu<|.agg<|by simp) fun _ _=>Qv
 all_goals exact Qv
def Qw(F:Fit B P){ok:α->Prop}{k:IntKind}{x y:Int}{c:BoundsCode}:Clean B P ok (boundsPanic k x y c:Sem α):=by
 unfold boundsPanic;split
 ·exact aJ (ok:=fun _=>True) (afx zU fun _ _=>trivial) fun _ _=>qH F
 ·exact aJ (ok:=fun _=>True) (aO trivial) fun _ _=>qH F
def Vw:Clean B P (fun _=>True) (asIntOf v):=by
 unfold asIntOf;split
 ·exact aO trivial
 ·exact iM<|by simp
 ·exact cZ
def NH:Clean B P (fun _=>True) (asInt v):=aJ Vw fun _ _=>aO trivial
def Z5:Clean B P (fun _=>True) (asBool v):=by
 unfold asBool;split
 ·exact aO trivial
 ·exact cZ
def az.Bf(h:az B (.agg c)):bG B c:=by cases h;assumption
def az.aoB(h:az B (.tuple c)):bG B c:=by cases h;assumption
def az.ptr(h:az B (.pointer<|ae a)):¬B.bK a.block:=by cases h with|pointer h=>exact h _ rfl
def az.Qx{m:Nat}(h:az B (.slice (ae a) n m)):¬B.bK a.block:=by cases h with|slice h=>exact h _ rfl
def az.mp(h:az B (.map<|ae r)):¬B.bK r:=by cases h with|map h=>exact h _ rfl
def az.qI(h:¬B.bK a.block):az B (.pointer<|ae a):=.pointer fun x hx=>by cases hx;exact h
def az.NI{m:Nat}(h:¬B.bK a.block):az B (.slice (ae a) n m):=.slice fun x hx=>by cases hx;exact h
def aoC(h:az B v):Clean B P (bG B) (asAgg v):=by
 unfold asAgg;split
 ·exact aO h.Bf
 ·exact cZ
def afF(F:Fit B P)(h:az B v):Clean B P (fun a=>¬B.bK a.block) (asAddr v):=by
 unfold asAddr;split
 ·exact aO h.ptr
 ·exact qH F
 ·exact cZ
def Qy(h:az B v):Clean B P (fun a=>¬B.bK a.block) (Instr.sureAddr v):=by
 unfold Instr.sureAddr;split
 ·exact aO h.ptr
 ·exact cZ
def afG(h:¬B.bK r):Clean B P (fun _=>True) (viewAt r):=by
 refine aJ Ej fun x _=>?_;split
 ·exact aO trivial
 ·refine aJ (wO h) fun o ho=>?_;split<;>exact aO trivial
def Z7(h:¬B.bK a.block):Clean B P (fun _=>True) (noView a):=by
 refine aJ (afG h) fun x _=>?_;split
 ·exact iM<|by simp
 ·exact aO trivial
def Kq(h:¬B.bK a.block):Clean B P (fun _=>True) (byteOf a):=by
 unfold byteOf;split
 ·exact aO trivial
 refine aJ yR fun p _=>aJ (Z7 h) fun _ _=>aJ Ej fun s _=>?_;split
 ·refine fG (fun _=>aO trivial) fun _=>?_;split
  ·exact aO trivial
  ·exact cZ
 ·exact cZ
def aoD(h:¬B.bK a.block)(c b:Nat):Clean B P (fun x=>x.block=a.block) (partAt a c b):=by
 refine aJ (Kq h) fun _ _=>aJ (Kq<|by exact h) fun _ _=>aO ?_;split<;>rfl
def aoE(h:¬B.bK a.block)(f:Field):Clean B P (fun x=>x.block=a.block) (fieldPlace a f):=by
 refine aJ tZ fun _ _=>?_;split
 ·exact aoD h _ _
 ·exact aO<|by simp
def afH{b:Addr}(h:¬B.bK a.block)(h':¬B.bK b.block):Clean B P (fun _=>True) (sameAddr a b):=by
 unfold sameAddr;have hs:∀x:Addr,Clean B P (fun _=>True) (stringish x):=by
  intro x;refine aJ Qs fun _ _=>?_;split
  ·exact aO trivial
  ·refine aJ Ej fun _ _=>?_;split
   ·exact Qs
   ·exact aO trivial
 have hm:Clean B P (fun _=>True) (mayBeOne a b):=by
  refine aJ (hs a) fun _ _=>aJ (hs b) fun _ _=>?_;exact aJ (ok:=fun _=>True) (aJ Ej fun _ _=>aO trivial) fun _ _=>aJ (ok:=fun _=>True) (aJ Ej fun _ _=>aO trivial) fun _ _=>aO trivial
 refine fG (fun _=>aO trivial) fun _=>?_;refine aJ Qs fun _ _=>?_;refine aJ Qs fun _ _=>?_;have ht:Clean B P (fun _=>True) (do
  noView a
  noView b
  if<-mayBeOne a b then return(<-choose (.extern "sameAddr.stringBytes" 2))==1
  pure false:Sem Bool):=by
  refine aJ (Z7 h) fun _ _=>aJ (Z7 h') fun _ _=>aJ hm fun _ _=>?_;split
  ·exact aJ zU fun _ _=>aO trivial
  ·exact aO trivial
 split
 ·exact aJ (ok:=fun _=>True) (iM<|by simp) fun _ _=>ht
 ·exact ht
def aoF{a b:Option Addr}(h:∀x,a=ae x->¬B.bK x.block)(h':∀x,b=ae x->¬B.bK x.block):Clean B P (fun _=>True) (samePointer a b):=by
 unfold samePointer;split
 ·exact afH (h _ rfl)<|h' _ rfl
 ·exact aO trivial
def afI(h:¬B.bK r):Clean B P (fun x=>∀y,x=ae y->¬B.bK y.1.block) (numberAt r):=by
 refine aJ Ej fun x _=>?_;split
 ·exact aO<|by simp
 ·refine aJ (wO h) fun o ho=>?_;split
  ·exact aO (by rintro y hy;cases hy;exact ho)
  ·exact aO<|by simp
def F9(h:¬B.bK a.block):Clean B P (fun x=>¬B.bK x.1.block) (behindNumber a):=by
 refine aJ (afI h) fun x hx=>aO ?_;cases x with
 |none=>exact h
 |some y=>exact hx y rfl
def Z8{γ:Type}{ok:β->Prop}{f:γ->β->Sem (ForInStep β)}:∀(l:List γ) (b:β),ok b->(∀x∈l,∀b,ok b->Clean B P (fun s=>match s with| .yield b=>ok b| .done b=>ok b) (f x b))->Clean B P ok (forIn l b f)
 |[],b,hb,_=>by
  rw[List.forIn_nil];exact hb
 |x::l,b,hb,hf=>by
  rw[List.forIn_cons];refine aJ (hf x (by simp) b hb) fun s hs=>?_;cases s with
  |done b=>exact hs
  |yield b=>exact Z8 l b hs fun y hy=>hf y<|by simp[hy]
def Vx{γ:Type}{f:γ->β->Sem (ForInStep β)}(l:Array γ)(b:β)(hf:∀x b,Clean B P (fun _=>True)<|f x b):Clean B P (fun _=>True) (forIn l b f):=by
 rw[<-Array.forIn_toList];exact Z8 (ok:=fun _=>True) _ _ trivial fun x _ b _=>(hf x b).mono fun s _=>by cases s<;>trivial
def Z9{f:Nat->β->Sem (ForInStep β)}(n:Nat)(b:β)(hf:∀x b,Clean B P (fun _=>True)<|f x b):Clean B P (fun _=>True) (forIn [0:n] b f):=by
 rw[Std.Legacy.Range.forIn_eq_forIn_range'];exact Z8 (ok:=fun _=>True) _ _ trivial fun x _ b _=>(hf x b).mono fun s _=>by cases s<;>trivial
def Vy(F:Fit B P):∀(d:Nat) (t:bW) (x y:aj),az B x->az B y->Clean B P (fun _=>True) (Op.equalIn d t x y)
 |0,_,_,_,_,_=>by unfold Op.equalIn;exact iM<|by simp
 |d+1,t,x,y,hx,hy=>by
  unfold Op.equalIn;refine aJ jF fun u _=>?_;split;case h_5=>
   refine aJ (F9 hx.ptr) fun a ha=>aJ (F9 hy.ptr) fun b hb=>aJ yR fun _ _=>?_
   refine fG (fun _=>aJ (Kq ha) fun _ _=>aJ (Kq hb) fun _ _=>aO trivial) fun _=>aJ Bd fun _ _=>?_
   split
   ·exact fG (fun _=>aO trivial) fun _=>iM<|by simp
   ·exact iM<|by simp
  all_goals first
   |exact aO trivial
   |exact cZ
   |exact iM<|by simp
   |exact fG (fun _=>aO trivial) fun _=>cZ
   |skip
  ·refine aJ tZ fun _ _=>fG (fun _=>afH hx.ptr hy.ptr) fun _=>fG (fun _=>aO trivial) fun _=>aJ zU fun _ _=>aO trivial
  ·cases hx with|pointer hx=>cases hy with|pointer hy=>exact aoF hx hy
  ·refine fG (fun _=>aO trivial) fun _=>aJ Bd fun _ _=>fG (fun _=>?_) fun _=>?_
   ·refine aJ yR fun _ _=>aJ yR fun _ _=>fG (fun _=>aJ (ok:=fun _=>True) (iM<|by simp) fun _ _=>?_) fun _=>?_;all_goals exact aJ afy fun _ _=>qH F
   ·cases hx with|iface hx=>cases hy with|iface hy=>exact Vy F d _ _ _ hx hy
  ·refine aJ yR fun _ _=>fG (fun _=>aJ (ok:=fun _=>True) (iM<|by simp) fun _ _=>?_) fun _=>?_;all_goals
    refine aJ (Vx _ _ fun f s=>fG (fun _=>aJ (Be hx.Bf) fun _ h1=>aJ (Be hy.Bf) fun _ h2=>aJ (Vy F d _ _ _ h1 h2) fun _ _=>fG (fun _=>aO trivial) fun _=>aO trivial) fun _=>aO trivial) fun r _=>by dsimp only;split<;>exact aO trivial
  ·refine aJ tZ fun _ _=>aJ (Z9 _ _ fun f s=>aJ (Be hx.Bf) fun _ h1=>aJ (Be hy.Bf) fun _ h2=>aJ (Vy F d _ _ _ h1 h2) fun _ _=>fG (fun _=>aO trivial) fun _=>aO trivial) fun r _=>by dsimp only;split<;>exact aO trivial
def afJ(F:Fit B P){y:aj}(hx:az B x)(hy:az B y):Clean B P (fun _=>True) (Op.equal t x y):=Vy F _ t x y hx hy
def aab:∀(d:Nat) (t:bW) (x y:aj),az B x->az B y->Clean B P (fun _=>True) (Op.eqGuardIn d t x y)
 |0,_,_,_,_,_=>by unfold Op.eqGuardIn;exact iM<|by simp
 |d+1,t,x,y,hx,hy=>by
  unfold Op.eqGuardIn;refine aJ jF fun u _=>?_;split
  ·exact aO trivial
  ·refine aJ (Vx _ _ fun f s=>fG (fun _=>aJ (Be hx.Bf) fun _ h1=>aJ (Be hy.Bf) fun _ h2=>aJ (aab d _ _ _ h1 h2) fun _ _=>fG (fun _=>aO trivial) fun _=>aO trivial) fun _=>aO trivial) fun r _=>by dsimp only;split<;>exact aO trivial
  ·refine aJ tZ fun _ _=>aJ (Z9 _ _ fun f s=>aJ (Be hx.Bf) fun _ h1=>aJ (Be hy.Bf) fun _ h2=>aJ (aab d _ _ _ h1 h2) fun _ _=>fG (fun _=>aO trivial) fun _=>aO trivial) fun r _=>by dsimp only;split<;>exact aO trivial
  ·exact aO trivial
def mY(B:bP)(es:Array MapEntry):Prop:=∀e∈es,az B e.key/\az B e.val
def Gf(F:Fit B P)(b:Bool):∀(d:Nat) (t:bW) (x:aj),az B x->Clean B P (fun _=>True) (Instr.checkKey b d t x)
 |0,_,_,_=>by unfold Instr.checkKey;exact iM<|by simp
 |d+1,t,x,hx=>by
  unfold Instr.checkKey;refine aJ jF fun u _=>?_;split
  ·cases hx with|iface hx=>
   refine aJ Bd fun _ _=>fG (fun _=>?_) fun _=>Gf F b d _ _ hx;refine fG (fun _=>aJ (ok:=fun _=>True) (qH F) fun _ _=>?_) fun _=>?_;all_goals exact aJ afy fun _ _=>aJ (ok:=fun _=>True) (qH F) fun _ _=>Gf F b d _ _ hx
  ·exact aJ (Z9 _ _ fun f s=>aJ tZ fun _ _=>aJ (Be hx.Bf) fun _ h1=>aJ (Gf F b d _ _ h1) fun _ _=>aO trivial) fun r _=>aO trivial
  ·exact aJ (Vx _ _ fun f s=>fG (fun _=>aJ (Be hx.Bf) fun _ h1=>aJ (Gf F b d _ _ h1) fun _ _=>aO trivial) fun _=>aO trivial) fun r _=>aO trivial
  all_goals first|exact aO trivial|exact cZ
def afK(F:Fit B P)(hk:az B k):∀(es:List MapEntry) (i:Nat),(∀e∈es,az B e.key/\az B e.val)->Clean B P (fun r=>∀x,r=ae x->az B x.2) (Instr.findAsking t k es i)
 |[],_,_=>aO<|by simp
 |e::es,i,h=>by
  unfold Instr.findAsking;refine aJ (afJ F hk (h e<|by simp).1) fun b _=>?_;split
  ·exact aO (by rintro x hx;cases hx;exact(h e<|by simp).2)
  ·exact afK F hk es (i+1) fun x hx=>h x<|by simp[hx]
def afL{d:TypeDesc}:∀(es:List MapEntry) (i:Nat) (r:Option (Nat×aj)),(∀e∈es,az B e.key/\az B e.val)->Instr.findNow d k es i=ae r->∀x,r=ae x->az B x.2
 |[],_,r,_,h=>by simp[Instr.findNow]at h;subst h;simp
 |e::es,i,r,he,h=>by
  unfold Instr.findNow at h;split at h
  ·cases h;rintro x hx;cases hx;exact(he e<|by simp).2
  ·exact afL es (i+1) r (fun x hx=>he x<|by simp[hx]) h
  ·cases h
def Vz(F:Fit B P)(hk:az B k)(he:mY B es):Clean B P (fun r=>∀x,r=ae x->az B x.2) (Instr.findKey t k es.toList):=by
 have he':∀e∈es.toList,az B e.key/\az B e.val:=fun e h=>he e (by simpa using h);refine aJ jF fun u _=>?_;split
 ·exact aO<|afL _ _ _ he' ‹_›
 ·exact afK F hk _ _ he'
def aoG(F:Fit B P){c:Bool}(hx:az B x)(hk:az B k):Clean B P (az B) (Instr.lookup t x k c):=by
 refine aJ jF fun u _=>?_;split
 ·extract_lets jq jp
  have hq:∀(z:aj×Bool),az B z.1->Clean B P (az B) (jq z):=by
   intro z hz;refine aO ?_;split
   ·exact .tuple<|bG.two hz .bool
   ·exact hz
  have jg:∀es,mY B es->Clean B P (az B) (jp es):=by
   intro es he;refine aJ (Gf F _ _ _ _ hk) fun _ _=>aJ (Vz F hk he) fun r hr=>?_;split
   ·exact aJ (ok:=fun z=>az B z.1) (aO<|hr _ rfl) fun z hz=>hq _ hz
   ·exact aJ (F8 F) fun z hz=>aJ (ok:=fun z=>az B z.1) (aO hz) fun z hz=>hq _ hz
  split
  ·exact aJ (ok:=mY B) (aO (by intro e h;simp at h)) fun es he=>jg es he
  ·refine aJ (wO hx.mp) fun o ho=>?_;split
   ·exact aJ (ok:=mY B) (aO ho) fun es he=>jg es he
   ·exact aJ (ok:=mY B) cZ fun es he=>jg es he
  ·exact aJ (ok:=mY B) cZ fun es he=>jg es he
 ·exact cZ
def afM{a b:aj}(ha:az B a)(hb:az B b):Clean B P (az B) (Instr.keyThatStays a b):=by
 unfold Instr.keyThatStays;refine fG (fun _=>aO hb) fun _=>aJ zU fun n _=>aO ?_;split<;>assumption
def mY.modify(h:mY B es){f:MapEntry->MapEntry}(hf:∀e,az B e.key/\az B e.val->az B (f e).key/\az B (f e).val):mY B (es.modify i f):=by
 intro e he;obtain⟨k,hk,rfl⟩:=Fp.1 he;rw[Array.getElem_modify];split
 ·exact hf _<|h _<|PH _
 ·exact h _<|PH _
def mY.push(h:mY B es){e:MapEntry}(he:az B e.key/\az B e.val):mY B (es.push e):=by
 intro x hx;rcases Array.mem_push.1 hx with hx|rfl
 ·exact h x hx
 ·exact he
def mY.afN(h:mY B es)(hk:az B k):az B (((es[i]?).map (·.key)).getD k):=by
 cases he:es[i]? with
 |none=>exact hk
 |some e=>exact(h e<|JJ he).1
def aac(F:Fit B P)(hm:az B m)(hk:az B k)(hv:az B v):Clean B P (fun _=>True) (Instr.mapUpdate t m k v):=by
 refine aJ jF fun u _=>?_;split
 ·split
  ·exact qH F
  ·refine aJ (wO hm.mp) fun o ho=>?_;split
   ·have ho:mY B _:=ho;refine aJ (Gf F _ _ _ _ hk) fun _ _=>aJ (Vz F hk ho) fun r hr=>?_;split
    ·exact aJ (afM (ho.afN hk) hk) fun k' dC=>Em hm.mp<|show mY B _ from ho.modify fun e he=>⟨dC,hv⟩
    ·exact Em hm.mp<|show mY B _ from ho.push ⟨hk,hv⟩
   ·exact cZ
  ·exact cZ
 ·exact cZ
def aoH(F:Fit B P)(hm:az B m)(hk:az B k):Clean B P (az B) (Instr.mapEntry t m k):=by
 refine aJ jF fun u _=>?_;split
 ·split
  ·exact qH F
  ·refine aJ (wO hm.mp) fun o ho=>?_;split
   ·have ho:mY B _:=ho;refine aJ (Gf F _ _ _ _ hk) fun _ _=>aJ (Vz F hk ho) fun r hr=>?_;split
    ·exact aJ (afM (ho.afN hk) hk) fun k' dC=>aJ (Em hm.mp<|show mY B _ from ho.modify fun e he=>⟨dC,he.2⟩) fun _ _=>aO<|.tuple<|bG.two (hr _ rfl) .int
    ·exact aJ (F8 F) fun z hz=>aJ (Em hm.mp<|show mY B _ from ho.push ⟨hk,hz⟩) fun _ _=>aO<|.tuple<|bG.two hz .int
   ·exact cZ
  ·exact cZ
 ·exact cZ
def aoI{s:aj}(hm:az B m)(hv:az B v):Clean B P (fun _=>True) (Instr.entryStore t m s v):=by
 unfold Instr.entryStore;split
 ·refine aJ (wO hm.mp) fun o ho=>?_;split
  ·refine aJ NH fun _ _=>?_;split
   ·exact Em hm.mp<|show mY B _ from mY.modify (show mY B _ from ho) fun e he=>⟨he.1,hv⟩
   ·exact iM<|by simp
  ·exact cZ
 ·exact cZ
def aoJ{r:Option aj}:Clean B P (az B) (Instr.makeMap t r):=by
 have hn:Clean B P (az B) (do pure (Value.map<|ae<|<-newObj (.map #[] 0)):Sem aj):=
  aJ (Vt (show mY B #[]from by intro e h;simp at h)) fun r hr=>aO (.map fun x hx=>by cases hx;exact hr)
 unfold Instr.makeMap;split
 ·refine aJ jF fun u _=>?_;split
  ·exact aJ NH fun _ _=>hn
  ·exact aJ (ok:=fun _=>True) cZ fun _ _=>hn
 ·exact hn
def aoK(hx:az B x):Clean B P (az B) (Instr.range t x):=by
 refine aJ jF fun u _=>?_;extract_lets jp
 have jg:∀o,lN B o->Clean B P (az B) (jp o):=fun o ho=>aJ (Vt ho) fun r hr=>aO<|.qI hr;split
 ·exact aJ (ok:=lN B) (aO trivial) jg
 ·exact aJ (ok:=lN B) (aO (by intro r hr;cases hr)) jg
 ·refine aJ (wO hx.mp) fun o ho=>?_;split
  ·exact aJ (ok:=lN B) (aO (by intro r hr;cases hr;exact hx.mp)) jg
  ·exact aJ (ok:=lN B) cZ jg
 ·exact aJ (ok:=lN B) cZ jg
def aoL{i:aj}{b:Bool}(hi:az B i):Clean B P (az B) (Instr.next i b t):=by
 have Kr:Clean B P (az B) (pure (.tuple #[.bool false]):Sem aj):=aO<|.tuple<|bG.one .bool;unfold Instr.next;split
 ·have hr:=hi.ptr;refine aJ (wO hr) fun o ho=>?_;split
  ·refine fG (fun _=>?_) fun _=>Kr;exact aJ (Em hr trivial) fun _ _=>aO<|.tuple<|bG.three .bool .int .int
  ·exact Kr
  ·have hm:=ho _ rfl;refine aJ (wO hm) fun o' sS=>?_;split
   ·have he:mY B _:=sS;refine fG (fun _=>aJ (ok:=fun _=>True) (iM<|by simp) fun _ _=>?_) fun _=>?_;all_goals
     refine aJ zU fun n _=>?_
     split
     ·rename_i e hc
      have oI:az B e.key/\az B e.val:=by
       have:=JJ hc;simp only[Ia,UH,Array.mem_filter]at this;rcases this with h|⟨e',h,h2⟩
       ·exfalso;split at h<;>simp at h
       ·cases h2;rcases h with h|h<;>exact he _ h.1.1
      exact aJ (Em hr (show lN B (.mapIter _ _ _ _)from by intro r hr;cases hr;exact hm)) fun _ _=>aO<|.tuple<|bG.three .bool oI.1 oI.2
     ·exact Kr
     ·exact cZ
   ·exact cZ
  ·exact cZ
 ·exact cZ
def aoM{i:aj}(hi:az B i):Clean B P (az B) (Instr.entry i):=by
 unfold Instr.entry;split
 ·have hr:=hi.ptr;refine aJ (wO hr) fun o ho=>?_;split
  ·have hm:=ho _ rfl;split
   ·refine aJ (wO hm) fun o' sS=>?_;split
    ·have he:mY B _:=sS;refine fG (fun _=>aJ (ok:=fun _=>True) (iM<|by simp) fun _ _=>?_) fun _=>?_;all_goals
      split
      ·rename_i e hf
       have oI:=Array.mem_of_find?_eq_some hf
       exact aO<|.tuple<|bG.two (he _ oI).1 (he _ oI).2
      ·exact iM<|by simp
    ·exact cZ
   ·exact cZ
  ·exact cZ
 ·exact cZ
end ai
end
end Go.Proofs.YtkelpcjiediamaaGreat
