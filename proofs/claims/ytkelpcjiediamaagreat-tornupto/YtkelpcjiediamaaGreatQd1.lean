import Derived.Test.YtkelpcjiediamaaGreatQd0
import GoSem.Step
set_option maxRecDepth 100000
set_option maxHeartbeats 0
set_option linter.all false
namespace Go.Proofs.YtkelpcjiediamaaGreat
open Go renaming Program→eF,TypeId→dw,Value→az,World→aj
open Go.Value renaming bool→aB,pointer→ay,slice→aJ,string→dA,tuple→dK
open Option renaming none→af,some→ae
section
namespace au
open Go
structure cO where
 bZ:Nat->Prop
 let_:FuncId->Bool
 wg:Nat->Prop
inductive aG(B:cO):az->Prop where
 |bool {b}:aG B (aB b)
 |int {k n}:aG B (.int k n)
 |float {k n}:aG B (.float k n)
 |string {s}:aG B (dA s)
 |pointer {a:Option Addr} (h:∀x,a=ae x->¬B.bZ x.block):aG B (.pointer a)
 |slice {a:Option Addr} {n m} (h:∀x,a=ae x->¬B.bZ x.block):aG B (.slice a n m)
 |map {r:Option Nat} (h:∀x,r=ae x->¬B.bZ x):aG B (.map r)
 |chan {r:Option Nat} (h:∀x,r=ae x->¬B.bZ x):aG B (.chan r)
 |func {f:FuncId} {a c:Array az} (h:B.let_ f=true) (ha:∀v∈a,aG B v) (hc:∀v∈c,aG B v):aG B (.func (.func f) a c)
 |nilFunc:aG B .nilFunc
 |iface {t v} (h:aG B v):aG B (.iface t v)
 |nilIface:aG B .nilIface
 |agg {a:Array az} (h:∀v∈a,aG B v):aG B (.agg a)
 |tuple {a:Array az} (h:∀v∈a,aG B v):aG B (.tuple a)
variable{B:cO}{P:eF}
def bT(B:cO)(a:Array az):Prop:=∀v∈a,aG B v
def mF(B:cO):Obj->Prop
 | .cells c _ _=>bT B c
 | .map es _=>∀e∈es,aG B e.key/\aG B e.val
 | .chan _ buf _ _ _ _=>bT B buf
 | .stringIter _ _=>True
 | .mapIter m _ _ _=>∀r,m=ae r->¬B.bZ r
 | .finalizers _ _=>True
 | .number a _=>¬B.bZ a.block
 |_=>False
structure OkW(B:cO)(w:aj):Prop where
 obj:∀b o,¬B.bZ b->w.heap[b]? =ae o->mF B o
 low:∀b,B.bZ b->b<w.heap.size
def OkH:Halt->Prop
 | .panic _=>True
 | .stuck _=>True
 | .unsupported (.initOrder _)=>False
 | .unsupported _=>True
 |_=>False
def Clean(B:cO)(P:eF){α:Type}(ok:α->Prop):Sem α->Prop
 | .pure a=>ok a
 | .load _ a k=>¬B.bZ a.block/\∀v,aG B v->Clean B P ok (k v)
 | .store _ a v k=>¬B.bZ a.block/\aG B v/\Clean B P ok k
 | .new o k=>mF B o/\∀r,¬B.bZ r->Clean B P ok (k r)
 | .shape _ k=>∀x,Clean B P ok<|k x
 | .freeze _ _ k=>Clean B P ok k
 | .frozen _ k=>∀x,Clean B P ok<|k x
 | .getObj r k=>¬B.bZ r/\∀o,mF B o->Clean B P ok (k o)
 | .setObj r o k=>¬B.bZ r/\mF B o/\Clean B P ok k
 | .choose _ k=>∀x,Clean B P ok<|k x
 | .sys c k=>c=.env/\∀r,Clean B P ok<|k r
 | .program k=>Clean B P ok<|k P
 | .mark m k=>m=.noRoom/\Clean B P ok k
 | .halt h=>OkH h
def Clean.mono{α:Type}{ok Gh:α->Prop}(hi:∀a,ok a->Gh a){s:Sem α}(h:Clean B P ok s):Clean B P Gh s:=by
 induction s with
 |pure a=>exact hi a h
 |load m a k ih=>exact⟨h.1,fun v hv=>ih v<|h.2 v hv⟩
 |store m a v k ih=>exact⟨h.1,h.2.1,ih h.2.2⟩
 |new o k ih=>exact⟨h.1,fun r hr=>ih r<|h.2 r hr⟩
 |shape r k ih=>exact fun x=>ih x<|h x
 |freeze a n k ih=>exact ih h
 |frozen a k ih=>exact fun x=>ih x<|h x
 |getObj r k ih=>exact⟨h.1,fun o ho=>ih o<|h.2 o ho⟩
 |setObj r o k ih=>exact⟨h.1,h.2.1,ih h.2.2⟩
 |choose q k ih=>exact fun x=>ih x<|h x
 |sys c k ih=>exact⟨h.1,fun r=>ih r<|h.2 r⟩
 |program k ih=>exact ih P h
 |mark m k ih=>exact⟨h.1,ih h.2⟩
 |halt x=>exact h
def Clean.bind{α β:Type}{ok:α->Prop}{Gh:β->Prop}{f:α->Sem β}{s:Sem α}(h:Clean B P ok s)(hf:∀a,ok a->Clean B P Gh (f a)):Clean B P Gh (s.bind f):=by
 induction s with
 |pure a=>exact hf a h
 |load m a k ih=>exact⟨h.1,fun v hv=>ih v<|h.2 v hv⟩
 |store m a v k ih=>exact⟨h.1,h.2.1,ih h.2.2⟩
 |new o k ih=>exact⟨h.1,fun r hr=>ih r<|h.2 r hr⟩
 |shape r k ih=>exact fun x=>ih x<|h x
 |freeze a n k ih=>exact ih h
 |frozen a k ih=>exact fun x=>ih x<|h x
 |getObj r k ih=>exact⟨h.1,fun o ho=>ih o<|h.2 o ho⟩
 |setObj r o k ih=>exact⟨h.1,h.2.1,ih h.2.2⟩
 |choose q k ih=>exact fun x=>ih x<|h x
 |sys c k ih=>exact⟨h.1,fun r=>ih r<|h.2 r⟩
 |program k ih=>exact ih P h
 |mark m k ih=>exact⟨h.1,ih h.2⟩
 |halt x=>exact h
def re(w:aj)(t:Nat->Question->Nat)(d:Nat):World:={w with tape:=t,drawn:=d}
variable{w:aj}{a:Addr}{v:az}{o:Obj}{n:Nat}
def OkW.re(h:OkW B w)(t:Nat->Question->Nat)(d:Nat):OkW B (re w t d):=⟨h.obj,h.low⟩
@[simp]def WQ(w:aj)(t t':Nat->Question->Nat)(d d':Nat):au.re (au.re w t d) t' d'=au.re w t' d':=rfl
@[simp]def ag3(w:aj):au.re w w.tape w.drawn=w:=rfl
@[simp]def WR(w:aj)(t:Nat->Question->Nat)(d:Nat)(a:Addr):(au.re w t d).cell? a=w.cell? a:=rfl
def OkW.cell(h:OkW B w)(ha:¬B.bZ a.block)(hc:w.cell? a=ae v):aG B v:=by
 unfold World.cell? at hc;split at hc
 ·rename_i c e fz hb;have ho:bT B c:=h.obj _ _ ha hb;split at hc
  ·cases hc
  ·exact ho v<|KR hc
 ·cases hc
def ag4(hc:w.cell? a=ae v):a.block<w.heap.size:=by
 unfold World.cell? at hc;split at hc
 ·rename_i hb;exact(jk.1 hb).1
 ·cases hc
def bT.set{c:Array az}(h:bT B c)(hv:aG B v)(i:Nat):bT B (c.setIfInBounds i v):=by
 intro x hx;obtain⟨j,hj,rfl⟩:=GI.1 hx;rw[Array.getElem_setIfInBounds<|by simpa using hj];split
 ·exact hv
 ·exact h _<|QO _
def WS{b:Nat}{f:Obj->Obj}{k:Nat}(h:(w.heap.modify b f)[k]? =ae o):∃o',w.heap[k]? =ae o'/\(o=o'\/(k=b/\o=f o')):=by
 rw[amX]at h;split at h
 ·rename_i hb;obtain⟨o',ui,rfl⟩:=zC.1 h;exact⟨o',ui,.inr ⟨hb.symm,rfl⟩⟩
 ·exact⟨o,h,.inl rfl⟩
def OkW.setCell(h:OkW B w)(hv:aG B v):OkW B (w.setCell a v):=by
 refine⟨fun b o hb ho=>?_,fun b hb=>by simpa[World.setCell]using h.low b hb⟩;obtain⟨o',ui,hx⟩:=WS ho;have hk:=h.obj _ _ hb ui;rcases hx with rfl|⟨_,rfl⟩
 ·exact hk
 ·cases o'<;>first|exact hk|skip;rename_i c e fz;show bT B _;split
  ·exact hk
  ·exact bT.set (show bT B c from hk) hv _
def OkW.freeze(h:OkW B w):OkW B (w.freeze a n):=by
 unfold World.freeze;split
 ·exact h
 refine⟨fun b o hb ho=>?_,fun b hb=>by simpa using h.low b hb⟩;obtain⟨o',ui,hx⟩:=WS ho;have hk:=h.obj _ _ hb ui;rcases hx with rfl|⟨_,rfl⟩
 ·exact hk
 ·cases o'<;>exact hk
def OkW.push(h:OkW B w)(ho:mF B o):OkW B {w with heap:=w.heap.push o}:=by
 refine⟨fun b x hb hx=>?_,fun b hb=>by have:=h.low b hb;simp<;>omega⟩;simp only[QM]at hx;split at hx
 ·cases hx;exact ho
 ·exact h.obj _ _ hb hx
def OkW.fresh(h:OkW B w):¬B.bZ w.heap.size:=fun x=>Og _<|h.low _ x
def OkW.setObj(h:OkW B w){r:Nat}(ho:mF B o):OkW B {w with heap:=w.heap.setIfInBounds r o}:=by
 refine⟨fun b x hb hx=>?_,fun b hb=>by simpa using h.low b hb⟩;simp only[ae6]at hx;split at hx
 ·split at hx
  ·cases hx;exact ho
  ·cases hx
 ·exact h.obj _ _ hb hx
def Fg(B:cO)(n:Nat)(e:Event):Prop:=
 match e.loc with
 | .cell a=>¬B.bZ a.block/\a.block<n
 | .obj r=>¬B.bZ r/\r<n
 | .mark m=>m=.noRoom
 | .output=>True
 |_=>False
def Fg.mono{m:Nat}(h:n<=m){e:Event}(he:Fg B n e):Fg B m e:=by
 unfold Fg at*
 split at he<;>simp_all
 ·omega
 ·omega
def _root_.Go.Result.re{α:Type}(t:Nat->Question->Nat)(d:Nat):Result α->Result α
 | .ok a w=>.ok a<|au.re w t d
 | .halt h w=>.halt h<|au.re w t d
def LD(B:cO){α:Type}(ok:α->Prop)(w:aj)(gs:Array Event):Result α->Prop
 | .ok a w'=>ok a/\OkW B w'/\w.heap.size<=w'.heap.size/\w'.os=w.os/\w'.output=w.output/\∀e∈gs,Fg B w'.heap.size e
 | .halt h _=>OkH h
def LD.step{α:Type}{ok:α->Prop}{w w1:aj}{gs:Array Event}{e:Event}{r:Result α}(h:LD B ok w1 gs r)(hs:w.heap.size<=w1.heap.size)(ho:w1.os=w.os)(hu:w1.output=w.output)(he:Fg B w1.heap.size e):LD B ok w (#[e]++gs) r:=by
 cases r with
 |halt x w2=>exact h
 |ok a w2=>
  obtain⟨h1,h2,h3,h4,h5,h6⟩:=h;refine⟨h1,h2,eG hs h3,h4.trans ho,h5.trans hu,fun x hx=>?_⟩;rcases Jd.1 hx with hx|hx
  ·obtain rfl:x=e:=by simpa using hx
   exact he.mono h3
  ·exact h6 x hx
def LD.same{α:Type}{ok:α->Prop}{w1:aj}{gs:Array Event}{r:Result α}(h:LD B ok w1 gs r)(hs:w.heap.size<=w1.heap.size)(ho:w1.os=w.os)(hu:w1.output=w.output):LD B ok w gs r:=by
 cases r with
 |halt x w2=>exact h
 |ok a w2=>
  obtain⟨h1,h2,h3,h4,h5,h6⟩:=h;exact⟨h1,h2,eG hs h3,h4.trans ho,h5.trans hu,h6⟩
def abv(P:eF){α:Type}(s:Sem α)(w:aj)(n:Nat)(r:Result α)(gs:Array Event):Prop:=
 ∀t d,(∀i,i<n->t (d+i)=w.tape (w.drawn+i))->∀fs,s.runT P (re w t d) fs=(r.re t<|d+n,fs++gs)
def ag5(hw:OkW B w)(ha:¬B.bZ a.block)(s:String):OkH (w.noCell a s):=by
 unfold World.noCell;split
 ·rename_i h;exact(hw.obj _ _ ha h).elim
 ·rename_i h;exact(hw.obj _ _ ha h).elim
 ·trivial
def aqc(hw:OkW B w)(ha:¬B.bZ a.block)(b:Bool):w.farLoad P a b=.error (w.noCell a "load: no such cell"):=by
 unfold World.farLoad;split
 ·rename_i h;exact(hw.obj _ _ ha h).elim
 ·rfl
def aqd(hw:OkW B w)(ha:¬B.bZ a.block)(v:az)(b:Bool):w.farStore P a v b=.error (w.noCell a "store: no such cell"):=by
 unfold World.farStore;split
 ·rename_i h;exact(hw.obj _ _ ha h).elim
 ·rfl
def OL(fs gs:Array Event)(e:Event):fs.push e++gs=fs++(#[e]++gs):=by
 rw[Array.push_eq_append,aaj]
def Clean.Jr{α:Type}{ok:α->Prop}{s:Sem α}(h:Clean B P ok s):∀{w:aj},OkW B w->∃n r gs,abv P s w n r gs/\LD B ok w gs r:=by
 induction s with
 |pure a=>exact fun{w} hw=>⟨0,.ok a w,#[],fun t d _ fs=>by simp[Sem.runT,Result.re],h,hw,dm _,rfl,rfl,by simp⟩
 |load m a k ih=>
  intro w hw;cases hc:w.cell? a with
  |some v=>
   obtain⟨n,r,gs,h1,h2⟩:=ih v (h.2 v<|hw.cell h.1 hc) hw;refine⟨n,r,_,fun t d hd fs=>?_,h2.step (e:=⟨.cell a,false,m== .atomic⟩) (dm _) rfl rfl ⟨h.1,ag4 hc⟩⟩;simp only[Sem.runT,WR,hc];rw[h1 t d hd,OL]
  |none=>
   refine⟨0,.halt (w.noCell a "load: no such cell") w,#[],fun t d hd fs=>?_,ag5 hw h.1 _⟩;simp only[Sem.runT,WR,hc,aqc (P:=P) (hw.re t d) h.1];simp[Result.re,World.noCell,au.re]
 |store m a v k ih=>
  intro w hw;by_cases hv:(∃x,v=.agg x)\/(∃x,v=.tuple x)
  ·refine⟨0,.halt (.stuck "store: not the value of one cell") w,#[],fun t d hd fs=>?_,trivial⟩;rcases hv with⟨x,rfl⟩|⟨x,rfl⟩<;>simp[Sem.runT,Result.re]
  ·have gU:∀w es,(Sem.store m a v k).runT P w es=match w.cell? a with
    |some _=>
     if w.frozen? a then(.halt (.unsupported<|.unsafePointer "a write to bytes that a string shares") w,es)
     else k.runT P (w.setCell a v) (es.push ⟨.cell a,true,m== .atomic⟩)
    |none=>match w.farStore P a v (m== .atomic)with
     | .ok (w,touched)=>k.runT P w (es++touched.toArray.map (⟨.cell ·,true,m== .atomic⟩))
     | .error h=>(.halt h w,es):=by
    intro w es
    cases v<;>first|rfl|simp at hv
   cases hc:w.cell? a with
   |some x=>
    by_cases hf:w.frozen? a=true
    ·refine⟨0,.halt (.unsupported<|.unsafePointer "a write to bytes that a string shares") w,#[],fun t d hd fs=>?_,trivial⟩;rw[gU];have:(au.re w t d).frozen? a=true:=hf;simp[hc,this,Result.re]
    ·obtain⟨n,r,gs,h1,h2⟩:=ih h.2.2<|hw.setCell (a:=a) h.2.1;refine⟨n,r,_,fun t d hd fs=>?_,h2.step (e:=⟨.cell a,true,m== .atomic⟩) (by simp[World.setCell]) rfl rfl ⟨h.1,by simpa[World.setCell]using ag4 hc⟩⟩;rw[gU];have EK:¬(au.re w t d).frozen? a=true:=hf;have:=h1 t d hd<|fs.push ⟨.cell a,true,m== .atomic⟩;simp only[WR,hc,if_neg EK];rw[<-OL];exact this
   |none=>
    refine⟨0,.halt (w.noCell a "store: no such cell") w,#[],fun t d hd fs=>?_,ag5 hw h.1 _⟩;rw[gU];simp only[WR,hc,aqd (P:=P) (hw.re t d) h.1];simp[Result.re,World.noCell,au.re]
 |new o k ih=>
  intro w hw;obtain⟨n,r,gs,h1,h2⟩:=ih w.heap.size (h.2 _ hw.fresh)<|hw.push h.1;exact⟨n,r,gs,fun t d hd fs=>h1 t d hd fs,h2.same (by simp) rfl rfl⟩
 |shape x k ih=>
  intro w hw;obtain⟨n,r,gs,h1,h2⟩:=ih (w.shape? x) (h _) hw;exact⟨n,r,gs,fun t d hd fs=>h1 t d hd fs,h2⟩
 |freeze a m k ih=>
  intro w hw;obtain⟨n,r,gs,h1,h2⟩:=ih h<|hw.freeze (a:=a) (n:=m);refine⟨n,r,gs,fun t d hd fs=>?_,h2.same (by unfold World.freeze;split<;>simp) (by unfold World.freeze;split<;>rfl) (by unfold World.freeze;split<;>rfl)⟩;have e:∀t d,(au.re w t d).freeze a m=au.re (w.freeze a m) t d:=by
   intro t d;unfold World.freeze;split<;>rfl
  have e1:(w.freeze a m).tape=w.tape:=by unfold World.freeze;split<;>rfl
  have e2:(w.freeze a m).drawn=w.drawn:=by unfold World.freeze;split<;>rfl
  simp only[Sem.runT];rw[e];exact h1 t d (by rw[e1,e2];exact hd) fs
 |frozen a k ih=>
  intro w hw;obtain⟨n,r,gs,h1,h2⟩:=ih (w.frozen? a) (h _) hw;exact⟨n,r,gs,fun t d hd fs=>h1 t d hd fs,h2⟩
 |getObj x k ih=>
  intro w hw;cases hb:w.heap[x]? with
  |none=>exact⟨0,.halt (.stuck "getObj: no such block") w,#[],fun t d hd fs=>by simp[Sem.runT,au.re,hb,Result.re],trivial⟩
  |some o=>
   have ho:=hw.obj _ _ h.1 hb;have aI:=(jk.1 hb).1;by_cases IJ:∃c e f,o=.cells c e f
   ·obtain⟨c,e,f,rfl⟩:=IJ;exact⟨0,.halt (.stuck "getObj: a row of cells") w,#[],fun t d hd fs=>by simp[Sem.runT,au.re,hb,Result.re],trivial⟩
   ·obtain⟨n,r,gs,h1,h2⟩:=ih o (h.2 o ho) hw;refine⟨n,r,_,fun t d hd fs=>?_,h2.step (e:=⟨.obj x,false,o.isChan⟩) (dm _) rfl rfl ⟨h.1,aI⟩⟩;have iT:(au.re w t d).heap[x]? =ae o:=hb;have:(Sem.getObj x k).runT P (au.re w t d) fs=(k o).runT P (au.re w t d) (fs.push ⟨.obj x,false,o.isChan⟩):=by
     simp only[Sem.runT,iT];cases o<;>first|rfl|simp at IJ
    rw[this,h1 t d hd,OL]
 |setObj x o' k ih=>
  intro w hw;cases hb:w.heap[x]? with
  |none=>exact⟨0,.halt (.stuck "setObj: no such block") w,#[],fun t d hd fs=>by simp[Sem.runT,au.re,hb,Result.re],trivial⟩
  |some o=>
   have aI:=(jk.1 hb).1;by_cases IJ:∃c e f,o=.cells c e f
   ·obtain⟨c,e,f,rfl⟩:=IJ;exact⟨0,.halt (.stuck "setObj: a row of cells") w,#[],fun t d hd fs=>by simp[Sem.runT,au.re,hb,Result.re],trivial⟩
   ·obtain⟨n,r,gs,h1,h2⟩:=ih h.2.2<|hw.setObj (r:=x) h.2.1;refine⟨n,r,_,fun t d hd fs=>?_,h2.step (e:=⟨.obj x,true,o'.isChan⟩) (by simp) rfl rfl ⟨h.1,by simpa using aI⟩⟩;have iT:(au.re w t d).heap[x]? =ae o:=hb;have:(Sem.setObj x o' k).runT P (au.re w t d) fs=k.runT P (au.re {w with heap:=w.heap.setIfInBounds x o'} t d) (fs.push ⟨.obj x,true,o'.isChan⟩):=by
     simp only[Sem.runT,iT];cases o<;>first|rfl|simp at IJ
    rw[this,h1 t d hd,OL]
 |choose q k ih=>
  intro w hw;by_cases hq:q.forced=true
  ·obtain⟨n,r,gs,h1,h2⟩:=ih 0 (h _) hw;exact⟨n,r,gs,fun t d hd fs=>by simp only[Sem.runT,hq,if_true];exact h1 t d hd fs,h2⟩
  ·obtain⟨n,r,gs,h1,h2⟩:=ih (q.cut<|w.tape w.drawn q) (h _) (w:={w with drawn:=w.drawn+1}) ⟨hw.obj,hw.low⟩;refine⟨n+1,r,gs,fun t d hd fs=>?_,h2.same (dm _) rfl rfl⟩;have h0:=hd 0 (by omega);simp only[KW]at h0;have:=h1 t (d+1) (fun i hi=>by have:=hd (i+1) (by omega);rw[show d+1+i=d+(i+1)by omega,this];show _=w.tape (w.drawn+1+i);congr 1;omega) fs;have e:(Sem.choose q k).runT P (au.re w t d) fs=(k<|q.cut<|w.tape w.drawn q).runT P (au.re {w with drawn:=w.drawn+1} t<|d+1) fs:=by
    simp only[Sem.runT,if_neg hq];show(k<|q.cut<|t d q).runT P _ fs=_;rw[h0];rfl
   rw[e,this,show d+1+n=d+(n+1)by omega]
 |sys c k ih=>
  intro w hw;obtain⟨rfl,h'⟩:=h;obtain⟨n,r,gs,h1,h2⟩:=ih (.strings w.os.env) (h' _) hw;refine⟨n,r,_,fun t d hd fs=>?_,h2.step (e:=⟨.output,true,false⟩) (dm _) rfl rfl trivial⟩;have e:(Sem.sys .env k).runT P (au.re w t d) fs=(k<|.strings w.os.env).runT P (au.re w t d) (fs.push ⟨.output,true,false⟩):=rfl;rw[e,h1 t d hd,OL]
 |program k ih=>exact fun{w} hw=>ih P h hw
 |mark m k ih=>
  intro w hw;obtain⟨n,r,gs,h1,h2⟩:=ih h.2 hw;refine⟨n,r,_,fun t d hd fs=>?_,h2.step (e:=⟨.mark m,false,true⟩) (dm _) rfl rfl h.1⟩;simp only[Sem.runT];rw[h1 t d hd,OL]
 |halt x=>exact fun{w} hw=>⟨0,.halt x w,#[],fun t d _ fs=>by simp[Sem.runT,Result.re],h⟩
end au
end
section
namespace au
open Go
structure Fit(B:cO)(P:eF):Prop where
 zero:∀t i v,P.info? t=ae i->i.zero=ae v->aG B v
 globals:∀b,B.bZ b->P.globals.size+1<=b
variable{B:cO}{P:eF}{α β:Type}
section basics
variable{ok:α->Prop}{Gh:β->Prop}
def aW{a:α}(h:ok a):Clean B P ok (pure a:Sem α):=h
def dE{s:String}:Clean B P ok (stuck s:Sem α):=trivial
def aS{s:Sem α}{f:α->Sem β}(h:Clean B P ok s)(hf:∀a,ok a->Clean B P Gh (f a)):Clean B P Gh (s>>=f):=Clean.bind h hf
def ag6{s:Sem α}{f:α->β}(h:Clean B P ok s)(hf:∀a,ok a->Gh (f a)):Clean B P Gh (f<$>s):=Clean.bind h hf
def gp{c:Prop}[Decidable c]{s t:Sem α}(h:c->Clean B P ok s)(h':¬c->Clean B P ok t):Clean B P ok (if c then s else t):=by
 split
 ·exact h ‹_›
 ·exact h' ‹_›
def jd{u:Unsupported}(h:∀g,u≠.initOrder g):Clean B P ok (unsupported u:Sem α):=by
 cases u<;>first|trivial|exact absurd rfl<|h _
def zL:Clean B P (fun p=>p=P) program:=rfl
end basics
variable{t:dw}{r n i:Nat}{a:Addr}{o:Obj}{m v u k x:az}{c:Array az}{es:Array MapEntry}
def Cf:Clean B P (fun i=>P.info? t=ae i) (typeInfo t):=by
 refine aS zL fun p hp=>?_;subst hp;split
 ·exact aW ‹_›
 ·exact dE
def jW:Clean B P (fun d=>P.underlying t=ae d) (underlying t):=by
 refine aS zL fun p hp=>?_;subst hp;split
 ·exact aW ‹_›
 ·exact dE
def uI:Clean B P (fun _=>True) (sizeOf t):=aS Cf fun _ _=>aW trivial
def ag7:Clean B P (fun _=>True) (typeStr t):=by
 refine aS Cf fun _ _=>gp (fun _=>jd<|by simp) fun _=>aW trivial
def ag8:Clean B P (fun _=>True) (isAgg t):=by
 refine aS jW fun _ _=>?_;split<;>exact aW trivial
def AZ{q:Question}:Clean B P (fun _=>True) (choose q):=fun _=>trivial
def Fh:Clean B P (fun _=>True) (shape r):=fun _=>trivial
def RD:Clean B P (fun _=>True) (frozen a):=fun _=>trivial
def aqe:Clean B P (fun _=>True) (freeze a n):=trivial
def xO(h:¬B.bZ r):Clean B P (mF B) (getObj r):=⟨h,fun _ ho=>ho⟩
def Fj(h:¬B.bZ r)(ho:mF B o):Clean B P (fun _=>True) (setObj r o):=⟨h,ho,trivial⟩
def WT(ho:mF B o):Clean B P (fun r=>¬B.bZ r) (newObj o):=⟨ho,fun _ h=>h⟩
def ag9{m:Mode}(h:¬B.bZ a.block):Clean B P (aG B) (load a m):=⟨h,fun _ hv=>hv⟩
def aqf{m:Mode}(h:¬B.bZ a.block)(hv:aG B v):Clean B P (fun _=>True) (store a v m):=⟨h,hv,trivial⟩
def aha:Clean B P (fun _=>True) (askRoom n):=gp (fun _=>⟨rfl,trivial⟩) fun _=>trivial
@[simp]def add_block(a:Addr)(n:Nat):(a.add n).block=a.block:=by unfold Addr.add;split<;>rfl
def Hg(F:Fit B P):Clean B P (aG B) (zeroValue t):=by
 refine aS Cf fun i hi=>?_;split
 ·exact aW<|F.zero _ _ _ hi ‹_›
 ·exact jd<|by simp
def bT.push(h:bT B c)(hv:aG B v):bT B (c.push v):=by
 intro x hx;rcases Array.mem_push.1 hx with hx|rfl
 ·exact h x hx
 ·exact hv
def bT.append{d:Array az}(h:bT B c)(h':bT B d):bT B (c++d):=fun x hx=>(Jd.1 hx).elim (h x)<|h' x
def bT.extract(h:bT B c)(i j:Nat):bT B (c.extract i j):=by
 intro x hx;obtain⟨k,hk,rfl⟩:=GI.1 hx;rw[Array.getElem_extract];exact h _<|QO _
def bT.nil:bT B #[]:=by intro x hx;simp at hx
def bT.one(h:aG B v):bT B #[v]:=by intro x hx;simp at hx;exact hx▸h
def bT.two(h:aG B v)(h':aG B u):bT B #[v,u]:=by intro x hx;simp at hx;rcases hx with rfl|rfl<;>assumption
def bT.three{z:az}(h:aG B v)(h':aG B u)(h'':aG B z):bT B #[v,u,z]:=by intro x hx;simp at hx;rcases hx with rfl|rfl|rfl<;>assumption
def bT.get(h:bT B c)(hv:c[i]? =ae v):aG B v:=h v<|KR hv
def bT.getD(h:bT B c)(hv:aG B v):aG B (c.getD i v):=by
 unfold Array.getD;split
 ·exact h _<|QO _
 ·exact hv
def aG.cells(h:aG B v):bT B v.cells:=by
 cases h<;>first|exact bT.one (by constructor<;>assumption)|assumption|skip
def rC:aG B undef:=.tuple<|by simp
def ahb(h:¬B.bZ a.block):∀(n i:Nat) (acc:Array az),bT B acc->Clean B P (bT B) (loadCellsFrom a i n acc)
 |0,_,_,ha=>ha
 |n+1,i,acc,ha=>aS (ag9<|by simpa using h) fun _ hv=>ahb h n (i+1) _<|ha.push hv
def abw(h:¬B.bZ a.block)(n:Nat):Clean B P (bT B) (loadCells a n):=ahb h n 0 _ bT.nil
def OM(h:¬B.bZ a.block):∀(vs:List az) (i:Nat),(∀v∈vs,aG B v)->Clean B P (fun _=>True) (storeCells a vs i)
 |[],_,_=>trivial
 |v::vs,i,hv=>aS (aqf (by simpa using h)<|hv v<|by simp) fun _ _=>OM h vs (i+1) fun x hx=>hv x<|by simp[hx]
def ahc(h:¬B.bZ a.block):Clean B P (aG B) (loadVar t a):=by
 refine aS ag8 fun b _=>?_;split
 ·exact aS uI fun _ _=>aS (abw h _) fun _ hc=>aW<|.agg hc
 ·exact ag9 h
def aqg(h:¬B.bZ a.block)(hv:aG B v):Clean B P (fun _=>True) (storeVar t a v):=by
 refine aS uI fun _ _=>?_;split
 ·exact aS (dE (ok:=fun _=>True)) fun _ _=>OM h _ _ fun x hx=>hv.cells x<|by simpa using hx
 ·exact aS (aW (ok:=fun _=>True) trivial) fun _ _=>OM h _ _ fun x hx=>hv.cells x<|by simpa using hx
def RF(h:bT B c):Clean B P (fun a=>¬B.bZ a.block) (newRow t c):=aS (WT<|show mF B (.cells c t)from h) fun _ hr=>aW hr
def WU(h:aG B v):Clean B P (fun a=>¬B.bZ a.block) (newVar t v):=RF h.cells
def Ci{o:Nat}(h:bT B c):Clean B P (aG B) (part t c o):=by
 refine aS ag8 fun b _=>?_;split
 ·exact aS uI fun _ _=>aW<|.agg<|h.extract _ _
 ·split
  ·exact aW<|h.get ‹_›
  ·exact dE
def RG{ok:α->Prop}:Clean B P ok (goPanic v:Sem α):=trivial
def ahd:Clean B P (fun _=>True) (elemOf t):=by
 refine aS jW fun _ _=>?_;split
 ·exact aW trivial
 ·exact dE
def rD(F:Fit B P){ok:α->Prop}{e:RuntimeError}:Clean B P ok (runtimePanic e:Sem α):=by
 refine aS zL fun p hp=>?_;subst hp;cases e;case typeAssertion i c a m=>
  have hh:∀t,aG B (typeHandle p t):=fun t=>.pointer (by
   rintro x hx;cases hx;intro h;have:=F.globals _ h;simp only at this;omega)
  have h1:∀t:Option dw,aG B (match t with|some t=>typeHandle p t|none=>ay af):=by
   intro t;split
   ·exact hh _
   ·exact .pointer<|by simp
  refine aS ahd fun _ _=>aS (WU<|.agg ?_) fun _ _=>RG
  intro v hv
  simp at hv
  rcases hv with rfl|rfl|rfl|rfl
  ·exact h1 i
  ·exact h1 c
  ·exact hh _
  ·exact .string
 case panicNil=>exact aS ahd fun _ _=>aS (WU<|.agg<|by simp) fun _ _=>RG
 all_goals exact RG
def RH(F:Fit B P){ok:α->Prop}{k:IntKind}{x y:Int}{c:BoundsCode}:Clean B P ok (boundsPanic k x y c:Sem α):=by
 unfold boundsPanic;split
 ·exact aS (ok:=fun _=>True) (ag6 AZ fun _ _=>trivial) fun _ _=>rD F
 ·exact aS (ok:=fun _=>True) (aW trivial) fun _ _=>rD F
def WV:Clean B P (fun _=>True) (asIntOf v):=by
 unfold asIntOf;split
 ·exact aW trivial
 ·exact jd<|by simp
 ·exact dE
def OO:Clean B P (fun _=>True) (asInt v):=aS WV fun _ _=>aW trivial
def abx:Clean B P (fun _=>True) (asBool v):=by
 unfold asBool;split
 ·exact aW trivial
 ·exact dE
def aG.Cj(h:aG B (.agg c)):bT B c:=by cases h;assumption
def aG.aqh(h:aG B (.tuple c)):bT B c:=by cases h;assumption
def aG.ptr(h:aG B (ay<|ae a)):¬B.bZ a.block:=by cases h with|pointer h=>exact h _ rfl
def aG.RJ{m:Nat}(h:aG B (aJ (ae a) n m)):¬B.bZ a.block:=by cases h with|slice h=>exact h _ rfl
def aG.mp(h:aG B (.map<|ae r)):¬B.bZ r:=by cases h with|map h=>exact h _ rfl
def aG.rE(h:¬B.bZ a.block):aG B (ay<|ae a):=.pointer fun x hx=>by cases hx;exact h
def aG.OQ{m:Nat}(h:¬B.bZ a.block):aG B (aJ (ae a) n m):=.slice fun x hx=>by cases hx;exact h
def aqi(h:aG B v):Clean B P (bT B) (asAgg v):=by
 unfold asAgg;split
 ·exact aW h.Cj
 ·exact dE
def ahe(F:Fit B P)(h:aG B v):Clean B P (fun a=>¬B.bZ a.block) (asAddr v):=by
 unfold asAddr;split
 ·exact aW h.ptr
 ·exact rD F
 ·exact dE
def RN(h:aG B v):Clean B P (fun a=>¬B.bZ a.block) (Instr.sureAddr v):=by
 unfold Instr.sureAddr;split
 ·exact aW h.ptr
 ·exact dE
def ahf(h:¬B.bZ r):Clean B P (fun _=>True) (viewAt r):=by
 refine aS Fh fun x _=>?_;split
 ·exact aW trivial
 ·refine aS (xO h) fun o ho=>?_;split<;>exact aW trivial
def aby(h:¬B.bZ a.block):Clean B P (fun _=>True) (noView a):=by
 refine aS (ahf h) fun x _=>?_;split
 ·exact jd<|by simp
 ·exact aW trivial
def LG(h:¬B.bZ a.block):Clean B P (fun _=>True) (byteOf a):=by
 unfold byteOf;split
 ·exact aW trivial
 refine aS zL fun p _=>aS (aby h) fun _ _=>aS Fh fun s _=>?_;split
 ·refine gp (fun _=>aW trivial) fun _=>?_;split
  ·exact aW trivial
  ·exact dE
 ·exact dE
def aqj(h:¬B.bZ a.block)(c b:Nat):Clean B P (fun x=>x.block=a.block) (partAt a c b):=by
 refine aS (LG h) fun _ _=>aS (LG<|by exact h) fun _ _=>aW ?_;split<;>rfl
def aqk(h:¬B.bZ a.block)(f:Field):Clean B P (fun x=>x.block=a.block) (fieldPlace a f):=by
 refine aS uI fun _ _=>?_;split
 ·exact aqj h _ _
 ·exact aW<|by simp
def ahg{b:Addr}(h:¬B.bZ a.block)(h':¬B.bZ b.block):Clean B P (fun _=>True) (sameAddr a b):=by
 unfold sameAddr;have hs:∀x:Addr,Clean B P (fun _=>True) (stringish x):=by
  intro x;refine aS RD fun _ _=>?_;split
  ·exact aW trivial
  ·refine aS Fh fun _ _=>?_;split
   ·exact RD
   ·exact aW trivial
 have hm:Clean B P (fun _=>True) (mayBeOne a b):=by
  refine aS (hs a) fun _ _=>aS (hs b) fun _ _=>?_;exact aS (ok:=fun _=>True) (aS Fh fun _ _=>aW trivial) fun _ _=>aS (ok:=fun _=>True) (aS Fh fun _ _=>aW trivial) fun _ _=>aW trivial
 refine gp (fun _=>aW trivial) fun _=>?_;refine aS RD fun _ _=>?_;refine aS RD fun _ _=>?_;have ht:Clean B P (fun _=>True) (do
  noView a
  noView b
  if<-mayBeOne a b then return(<-choose (.extern "sameAddr.stringBytes" 2))==1
  pure false:Sem Bool):=by
  refine aS (aby h) fun _ _=>aS (aby h') fun _ _=>aS hm fun _ _=>?_;split
  ·exact aS AZ fun _ _=>aW trivial
  ·exact aW trivial
 split
 ·exact aS (ok:=fun _=>True) (jd<|by simp) fun _ _=>ht
 ·exact ht
def aql{a b:Option Addr}(h:∀x,a=ae x->¬B.bZ x.block)(h':∀x,b=ae x->¬B.bZ x.block):Clean B P (fun _=>True) (samePointer a b):=by
 unfold samePointer;split
 ·exact ahg (h _ rfl)<|h' _ rfl
 ·exact aW trivial
def ahh(h:¬B.bZ r):Clean B P (fun x=>∀y,x=ae y->¬B.bZ y.1.block) (numberAt r):=by
 refine aS Fh fun x _=>?_;split
 ·exact aW<|by simp
 ·refine aS (xO h) fun o ho=>?_;split
  ·exact aW (by rintro y hy;cases hy;exact ho)
  ·exact aW<|by simp
def Hl(h:¬B.bZ a.block):Clean B P (fun x=>¬B.bZ x.1.block) (behindNumber a):=by
 refine aS (ahh h) fun x hx=>aW ?_;cases x with
 |none=>exact h
 |some y=>exact hx y rfl
def abz{γ:Type}{ok:β->Prop}{f:γ->β->Sem (ForInStep β)}:∀(l:List γ) (b:β),ok b->(∀x∈l,∀b,ok b->Clean B P (fun s=>match s with| .yield b=>ok b| .done b=>ok b) (f x b))->Clean B P ok (forIn l b f)
 |[],b,hb,_=>by
  rw[List.forIn_nil];exact hb
 |x::l,b,hb,hf=>by
  rw[List.forIn_cons];refine aS (hf x (by simp) b hb) fun s hs=>?_;cases s with
  |done b=>exact hs
  |yield b=>exact abz l b hs fun y hy=>hf y<|by simp[hy]
def WW{γ:Type}{f:γ->β->Sem (ForInStep β)}(l:Array γ)(b:β)(hf:∀x b,Clean B P (fun _=>True)<|f x b):Clean B P (fun _=>True) (forIn l b f):=by
 rw[<-Array.forIn_toList];exact abz (ok:=fun _=>True) _ _ trivial fun x _ b _=>(hf x b).mono fun s _=>by cases s<;>trivial
def abA{f:Nat->β->Sem (ForInStep β)}(n:Nat)(b:β)(hf:∀x b,Clean B P (fun _=>True)<|f x b):Clean B P (fun _=>True) (forIn [0:n] b f):=by
 rw[Std.Legacy.Range.forIn_eq_forIn_range'];exact abz (ok:=fun _=>True) _ _ trivial fun x _ b _=>(hf x b).mono fun s _=>by cases s<;>trivial
def WX(F:Fit B P):∀(d:Nat) (t:dw) (x y:az),aG B x->aG B y->Clean B P (fun _=>True) (Op.equalIn d t x y)
 |0,_,_,_,_,_=>by unfold Op.equalIn;exact jd<|by simp
 |d+1,t,x,y,hx,hy=>by
  unfold Op.equalIn;refine aS jW fun u _=>?_;split;case h_5=>
   refine aS (Hl hx.ptr) fun a ha=>aS (Hl hy.ptr) fun b hb=>aS zL fun _ _=>?_
   refine gp (fun _=>aS (LG ha) fun _ _=>aS (LG hb) fun _ _=>aW trivial) fun _=>aS Cf fun _ _=>?_
   split
   ·exact gp (fun _=>aW trivial) fun _=>jd<|by simp
   ·exact jd<|by simp
  all_goals first
   |exact aW trivial
   |exact dE
   |exact jd<|by simp
   |exact gp (fun _=>aW trivial) fun _=>dE
   |skip
  ·refine aS uI fun _ _=>gp (fun _=>ahg hx.ptr hy.ptr) fun _=>gp (fun _=>aW trivial) fun _=>aS AZ fun _ _=>aW trivial
  ·cases hx with|pointer hx=>cases hy with|pointer hy=>exact aql hx hy
  ·refine gp (fun _=>aW trivial) fun _=>aS Cf fun _ _=>gp (fun _=>?_) fun _=>?_
   ·refine aS zL fun _ _=>aS zL fun _ _=>gp (fun _=>aS (ok:=fun _=>True) (jd<|by simp) fun _ _=>?_) fun _=>?_;all_goals exact aS ag7 fun _ _=>rD F
   ·cases hx with|iface hx=>cases hy with|iface hy=>exact WX F d _ _ _ hx hy
  ·refine aS zL fun _ _=>gp (fun _=>aS (ok:=fun _=>True) (jd<|by simp) fun _ _=>?_) fun _=>?_;all_goals
    refine aS (WW _ _ fun f s=>gp (fun _=>aS (Ci hx.Cj) fun _ h1=>aS (Ci hy.Cj) fun _ h2=>aS (WX F d _ _ _ h1 h2) fun _ _=>gp (fun _=>aW trivial) fun _=>aW trivial) fun _=>aW trivial) fun r _=>by dsimp only;split<;>exact aW trivial
  ·refine aS uI fun _ _=>aS (abA _ _ fun f s=>aS (Ci hx.Cj) fun _ h1=>aS (Ci hy.Cj) fun _ h2=>aS (WX F d _ _ _ h1 h2) fun _ _=>gp (fun _=>aW trivial) fun _=>aW trivial) fun r _=>by dsimp only;split<;>exact aW trivial
def ahi(F:Fit B P){y:az}(hx:aG B x)(hy:aG B y):Clean B P (fun _=>True) (Op.equal t x y):=WX F _ t x y hx hy
def abB:∀(d:Nat) (t:dw) (x y:az),aG B x->aG B y->Clean B P (fun _=>True) (Op.eqGuardIn d t x y)
 |0,_,_,_,_,_=>by unfold Op.eqGuardIn;exact jd<|by simp
 |d+1,t,x,y,hx,hy=>by
  unfold Op.eqGuardIn;refine aS jW fun u _=>?_;split
  ·exact aW trivial
  ·refine aS (WW _ _ fun f s=>gp (fun _=>aS (Ci hx.Cj) fun _ h1=>aS (Ci hy.Cj) fun _ h2=>aS (abB d _ _ _ h1 h2) fun _ _=>gp (fun _=>aW trivial) fun _=>aW trivial) fun _=>aW trivial) fun r _=>by dsimp only;split<;>exact aW trivial
  ·refine aS uI fun _ _=>aS (abA _ _ fun f s=>aS (Ci hx.Cj) fun _ h1=>aS (Ci hy.Cj) fun _ h2=>aS (abB d _ _ _ h1 h2) fun _ _=>gp (fun _=>aW trivial) fun _=>aW trivial) fun r _=>by dsimp only;split<;>exact aW trivial
  ·exact aW trivial
def nV(B:cO)(es:Array MapEntry):Prop:=∀e∈es,aG B e.key/\aG B e.val
def Hm(F:Fit B P)(b:Bool):∀(d:Nat) (t:dw) (x:az),aG B x->Clean B P (fun _=>True) (Instr.checkKey b d t x)
 |0,_,_,_=>by unfold Instr.checkKey;exact jd<|by simp
 |d+1,t,x,hx=>by
  unfold Instr.checkKey;refine aS jW fun u _=>?_;split
  ·cases hx with|iface hx=>
   refine aS Cf fun _ _=>gp (fun _=>?_) fun _=>Hm F b d _ _ hx;refine gp (fun _=>aS (ok:=fun _=>True) (rD F) fun _ _=>?_) fun _=>?_;all_goals exact aS ag7 fun _ _=>aS (ok:=fun _=>True) (rD F) fun _ _=>Hm F b d _ _ hx
  ·exact aS (abA _ _ fun f s=>aS uI fun _ _=>aS (Ci hx.Cj) fun _ h1=>aS (Hm F b d _ _ h1) fun _ _=>aW trivial) fun r _=>aW trivial
  ·exact aS (WW _ _ fun f s=>gp (fun _=>aS (Ci hx.Cj) fun _ h1=>aS (Hm F b d _ _ h1) fun _ _=>aW trivial) fun _=>aW trivial) fun r _=>aW trivial
  all_goals first|exact aW trivial|exact dE
def ahj(F:Fit B P)(hk:aG B k):∀(es:List MapEntry) (i:Nat),(∀e∈es,aG B e.key/\aG B e.val)->Clean B P (fun r=>∀x,r=ae x->aG B x.2) (Instr.findAsking t k es i)
 |[],_,_=>aW<|by simp
 |e::es,i,h=>by
  unfold Instr.findAsking;refine aS (ahi F hk (h e<|by simp).1) fun b _=>?_;split
  ·exact aW (by rintro x hx;cases hx;exact(h e<|by simp).2)
  ·exact ahj F hk es (i+1) fun x hx=>h x<|by simp[hx]
def ahk{d:TypeDesc}:∀(es:List MapEntry) (i:Nat) (r:Option (Nat×az)),(∀e∈es,aG B e.key/\aG B e.val)->Instr.findNow d k es i=ae r->∀x,r=ae x->aG B x.2
 |[],_,r,_,h=>by simp[Instr.findNow]at h;subst h;simp
 |e::es,i,r,he,h=>by
  unfold Instr.findNow at h;split at h
  ·cases h;rintro x hx;cases hx;exact(he e<|by simp).2
  ·exact ahk es (i+1) r (fun x hx=>he x<|by simp[hx]) h
  ·cases h
def WY(F:Fit B P)(hk:aG B k)(he:nV B es):Clean B P (fun r=>∀x,r=ae x->aG B x.2) (Instr.findKey t k es.toList):=by
 have he':∀e∈es.toList,aG B e.key/\aG B e.val:=fun e h=>he e (by simpa using h);refine aS jW fun u _=>?_;split
 ·exact aW<|ahk _ _ _ he' ‹_›
 ·exact ahj F hk _ _ he'
def aqm(F:Fit B P){c:Bool}(hx:aG B x)(hk:aG B k):Clean B P (aG B) (Instr.lookup t x k c):=by
 refine aS jW fun u _=>?_;split
 ·extract_lets jq jp
  have hq:∀(z:az×Bool),aG B z.1->Clean B P (aG B) (jq z):=by
   intro z hz;refine aW ?_;split
   ·exact .tuple<|bT.two hz .bool
   ·exact hz
  have jE:∀es,nV B es->Clean B P (aG B) (jp es):=by
   intro es he;refine aS (Hm F _ _ _ _ hk) fun _ _=>aS (WY F hk he) fun r hr=>?_;split
   ·exact aS (ok:=fun z=>aG B z.1) (aW<|hr _ rfl) fun z hz=>hq _ hz
   ·exact aS (Hg F) fun z hz=>aS (ok:=fun z=>aG B z.1) (aW hz) fun z hz=>hq _ hz
  split
  ·exact aS (ok:=nV B) (aW (by intro e h;simp at h)) fun es he=>jE es he
  ·refine aS (xO hx.mp) fun o ho=>?_;split
   ·exact aS (ok:=nV B) (aW ho) fun es he=>jE es he
   ·exact aS (ok:=nV B) dE fun es he=>jE es he
  ·exact aS (ok:=nV B) dE fun es he=>jE es he
 ·exact dE
def ahl{a b:az}(ha:aG B a)(hb:aG B b):Clean B P (aG B) (Instr.keyThatStays a b):=by
 unfold Instr.keyThatStays;refine gp (fun _=>aW hb) fun _=>aS AZ fun n _=>aW ?_;split<;>assumption
def nV.modify(h:nV B es){f:MapEntry->MapEntry}(hf:∀e,aG B e.key/\aG B e.val->aG B (f e).key/\aG B (f e).val):nV B (es.modify i f):=by
 intro e he;obtain⟨k,hk,rfl⟩:=GI.1 he;rw[Array.getElem_modify];split
 ·exact hf _<|h _<|QO _
 ·exact h _<|QO _
def nV.push(h:nV B es){e:MapEntry}(he:aG B e.key/\aG B e.val):nV B (es.push e):=by
 intro x hx;rcases Array.mem_push.1 hx with hx|rfl
 ·exact h x hx
 ·exact he
def nV.ahm(h:nV B es)(hk:aG B k):aG B (((es[i]?).map (·.key)).getD k):=by
 cases he:es[i]? with
 |none=>exact hk
 |some e=>exact(h e<|KR he).1
def abC(F:Fit B P)(hm:aG B m)(hk:aG B k)(hv:aG B v):Clean B P (fun _=>True) (Instr.mapUpdate t m k v):=by
 refine aS jW fun u _=>?_;split
 ·split
  ·exact rD F
  ·refine aS (xO hm.mp) fun o ho=>?_;split
   ·have ho:nV B _:=ho;refine aS (Hm F _ _ _ _ hk) fun _ _=>aS (WY F hk ho) fun r hr=>?_;split
    ·exact aS (ahl (ho.ahm hk) hk) fun k' dN=>Fj hm.mp<|show nV B _ from ho.modify fun e he=>⟨dN,hv⟩
    ·exact Fj hm.mp<|show nV B _ from ho.push ⟨hk,hv⟩
   ·exact dE
  ·exact dE
 ·exact dE
def aqn(F:Fit B P)(hm:aG B m)(hk:aG B k):Clean B P (aG B) (Instr.mapEntry t m k):=by
 refine aS jW fun u _=>?_;split
 ·split
  ·exact rD F
  ·refine aS (xO hm.mp) fun o ho=>?_;split
   ·have ho:nV B _:=ho;refine aS (Hm F _ _ _ _ hk) fun _ _=>aS (WY F hk ho) fun r hr=>?_;split
    ·exact aS (ahl (ho.ahm hk) hk) fun k' dN=>aS (Fj hm.mp<|show nV B _ from ho.modify fun e he=>⟨dN,he.2⟩) fun _ _=>aW<|.tuple<|bT.two (hr _ rfl) .int
    ·exact aS (Hg F) fun z hz=>aS (Fj hm.mp<|show nV B _ from ho.push ⟨hk,hz⟩) fun _ _=>aW<|.tuple<|bT.two hz .int
   ·exact dE
  ·exact dE
 ·exact dE
def aqo{s:az}(hm:aG B m)(hv:aG B v):Clean B P (fun _=>True) (Instr.entryStore t m s v):=by
 unfold Instr.entryStore;split
 ·refine aS (xO hm.mp) fun o ho=>?_;split
  ·refine aS OO fun _ _=>?_;split
   ·exact Fj hm.mp<|show nV B _ from nV.modify (show nV B _ from ho) fun e he=>⟨he.1,hv⟩
   ·exact jd<|by simp
  ·exact dE
 ·exact dE
def aqp{r:Option az}:Clean B P (aG B) (Instr.makeMap t r):=by
 have hn:Clean B P (aG B) (do pure (Value.map<|ae<|<-newObj (.map #[] 0)):Sem az):=
  aS (WT (show nV B #[]from by intro e h;simp at h)) fun r hr=>aW (.map fun x hx=>by cases hx;exact hr)
 unfold Instr.makeMap;split
 ·refine aS jW fun u _=>?_;split
  ·exact aS OO fun _ _=>hn
  ·exact aS (ok:=fun _=>True) dE fun _ _=>hn
 ·exact hn
def aqr(hx:aG B x):Clean B P (aG B) (Instr.range t x):=by
 refine aS jW fun u _=>?_;extract_lets jp
 have jE:∀o,mF B o->Clean B P (aG B) (jp o):=fun o ho=>aS (WT ho) fun r hr=>aW<|.rE hr;split
 ·exact aS (ok:=mF B) (aW trivial) jE
 ·exact aS (ok:=mF B) (aW (by intro r hr;cases hr)) jE
 ·refine aS (xO hx.mp) fun o ho=>?_;split
  ·exact aS (ok:=mF B) (aW (by intro r hr;cases hr;exact hx.mp)) jE
  ·exact aS (ok:=mF B) dE jE
 ·exact aS (ok:=mF B) dE jE
def aqs{i:az}{b:Bool}(hi:aG B i):Clean B P (aG B) (Instr.next i b t):=by
 have LH:Clean B P (aG B) (pure (dK #[.bool false]):Sem az):=aW<|.tuple<|bT.one .bool;unfold Instr.next;split
 ·have hr:=hi.ptr;refine aS (xO hr) fun o ho=>?_;split
  ·refine gp (fun _=>?_) fun _=>LH;exact aS (Fj hr trivial) fun _ _=>aW<|.tuple<|bT.three .bool .int .int
  ·exact LH
  ·have hm:=ho _ rfl;refine aS (xO hm) fun o' ui=>?_;split
   ·have he:nV B _:=ui;refine gp (fun _=>aS (ok:=fun _=>True) (jd<|by simp) fun _ _=>?_) fun _=>?_;all_goals
     refine aS AZ fun n _=>?_
     split
     ·rename_i e hc
      have o7:aG B e.key/\aG B e.val:=by
       have:=KR hc;simp only[Jd,VY,Array.mem_filter]at this;rcases this with h|⟨e',h,h2⟩
       ·exfalso;split at h<;>simp at h
       ·cases h2;rcases h with h|h<;>exact he _ h.1.1
      exact aS (Fj hr (show mF B (.mapIter _ _ _ _)from by intro r hr;cases hr;exact hm)) fun _ _=>aW<|.tuple<|bT.three .bool o7.1 o7.2
     ·exact LH
     ·exact dE
   ·exact dE
  ·exact dE
 ·exact dE
def aqt{i:az}(hi:aG B i):Clean B P (aG B) (Instr.entry i):=by
 unfold Instr.entry;split
 ·have hr:=hi.ptr;refine aS (xO hr) fun o ho=>?_;split
  ·have hm:=ho _ rfl;split
   ·refine aS (xO hm) fun o' ui=>?_;split
    ·have he:nV B _:=ui;refine gp (fun _=>aS (ok:=fun _=>True) (jd<|by simp) fun _ _=>?_) fun _=>?_;all_goals
      split
      ·rename_i e hf
       have o7:=Array.mem_of_find?_eq_some hf
       exact aW<|.tuple<|bT.two (he _ o7).1 (he _ o7).2
      ·exact jd<|by simp
    ·exact dE
   ·exact dE
  ·exact dE
 ·exact dE
end au
end
end Go.Proofs.YtkelpcjiediamaaGreat
