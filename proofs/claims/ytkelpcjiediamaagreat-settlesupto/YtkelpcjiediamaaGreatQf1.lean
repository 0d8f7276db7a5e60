import Derived.Test.YtkelpcjiediamaaGreatQf0
import GoSem.Step
set_option maxRecDepth 100000
set_option maxHeartbeats 0
set_option linter.all false
namespace Go.Proofs.YtkelpcjiediamaaGreat
open Go renaming FuncId→ji,Program→fJ,TypeId→dJ,Value→aA,World→ay
open Go.Value renaming bool→aF,pointer→az,slice→aN,string→dK,tuple→dU
open Go.World renaming cell?→aB,setCell→aX
open Option renaming none→af,some→ae
section
namespace au
open Go
structure dE where
 dB:Nat->Prop
 let_:ji->Bool
 wg:Nat->Prop
inductive aI(B:dE):aA->Prop where
 |bool {b}:aI B (aF b)
 |int {k n}:aI B (.int k n)
 |float {k n}:aI B (.float k n)
 |string {s}:aI B (dK s)
 |pointer {a:Option Addr} (h:∀x,a=ae x->¬B.dB x.block):aI B (.pointer a)
 |slice {a:Option Addr} {n m} (h:∀x,a=ae x->¬B.dB x.block):aI B (.slice a n m)
 |map {r:Option Nat} (h:∀x,r=ae x->¬B.dB x):aI B (.map r)
 |chan {r:Option Nat} (h:∀x,r=ae x->¬B.dB x):aI B (.chan r)
 |func {f:ji} {a c:Array aA} (h:B.let_ f=true) (ha:∀v∈a,aI B v) (hc:∀v∈c,aI B v):aI B (.func (.func f) a c)
 |nilFunc:aI B .nilFunc
 |iface {t v} (h:aI B v):aI B (.iface t v)
 |nilIface:aI B .nilIface
 |agg {a:Array aA} (h:∀v∈a,aI B v):aI B (.agg a)
 |tuple {a:Array aA} (h:∀v∈a,aI B v):aI B (.tuple a)
variable{B:dE}{P:fJ}
def cZ(B:dE)(a:Array aA):Prop:=∀v∈a,aI B v
def mZ(B:dE):Obj->Prop
 | .cells c _ _=>cZ B c
 | .map es _=>∀e∈es,aI B e.key/\aI B e.val
 | .chan _ buf _ _ _ _=>cZ B buf
 | .stringIter _ _=>True
 | .mapIter m _ _ _=>∀r,m=ae r->¬B.dB r
 | .finalizers _ _=>True
 | .number a _=>¬B.dB a.block
 |_=>False
structure OkW(B:dE)(w:ay):Prop where
 obj:∀b o,¬B.dB b->w.heap[b]? =ae o->mZ B o
 low:∀b,B.dB b->b<w.heap.size
def OkH:Halt->Prop
 | .panic _=>True
 | .stuck _=>True
 | .unsupported (.initOrder _)=>False
 | .unsupported _=>True
 |_=>False
def Clean(B:dE)(P:fJ){α:Type}(ok:α->Prop):Sem α->Prop
 | .pure a=>ok a
 | .load _ a k=>¬B.dB a.block/\∀v,aI B v->Clean B P ok (k v)
 | .store _ a v k=>¬B.dB a.block/\aI B v/\Clean B P ok k
 | .new o k=>mZ B o/\∀r,¬B.dB r->Clean B P ok (k r)
 | .shape _ k=>∀x,Clean B P ok<|k x
 | .freeze _ _ k=>Clean B P ok k
 | .frozen _ k=>∀x,Clean B P ok<|k x
 | .getObj r k=>¬B.dB r/\∀o,mZ B o->Clean B P ok (k o)
 | .setObj r o k=>¬B.dB r/\mZ B o/\Clean B P ok k
 | .choose _ k=>∀x,Clean B P ok<|k x
 | .sys c k=>c=.env/\∀r,Clean B P ok<|k r
 | .program k=>Clean B P ok<|k P
 | .mark m k=>m=.noRoom/\Clean B P ok k
 | .halt h=>OkH h
def Clean.z{α:Type}{ok GM:α->Prop}(hi:∀a,ok a->GM a){s:Sem α}(h:Clean B P ok s):Clean B P GM s:=by
 induction s with
 |pure a=>exact hi a h
 |load m a k ih=>exact⟨h.1,fun v hv=>ih v<|h.2 v hv⟩
 |store m a v k ih=>exact⟨h.1,h.2.1,ih h.2.2⟩
 |new o k ih=>exact⟨h.1,fun r hr=>ih r<|h.2 r hr⟩
 |shape r k ih=>exact fun x=>ih x<|h x
 |freeze a n k ih=>exact ih h
 |frozen a k ih=>exact fun x=>ih x<|h x
 |getObj r k ih=>exact⟨h.1,fun o ho=>ih o<|h.2 o ho⟩
 |setObj r o k ih=>exact⟨h.1,h.2.1,ih h.2.2⟩
 |choose q k ih=>exact fun x=>ih x<|h x
 |sys c k ih=>exact⟨h.1,fun r=>ih r<|h.2 r⟩
 |program k ih=>exact ih P h
 |mark m k ih=>exact⟨h.1,ih h.2⟩
 |halt x=>exact h
def Clean.bind{α β:Type}{ok:α->Prop}{GM:β->Prop}{f:α->Sem β}{s:Sem α}(h:Clean B P ok s)(hf:∀a,ok a->Clean B P GM (f a)):Clean B P GM (s.bind f):=by
 induction s with
 |pure a=>exact hf a h
 |load m a k ih=>exact⟨h.1,fun v hv=>ih v<|h.2 v hv⟩
 |store m a v k ih=>exact⟨h.1,h.2.1,ih h.2.2⟩
 |new o k ih=>exact⟨h.1,fun r hr=>ih r<|h.2 r hr⟩
 |shape r k ih=>exact fun x=>ih x<|h x
 |freeze a n k ih=>exact ih h
 |frozen a k ih=>exact fun x=>ih x<|h x
 |getObj r k ih=>exact⟨h.1,fun o ho=>ih o<|h.2 o ho⟩
 |setObj r o k ih=>exact⟨h.1,h.2.1,ih h.2.2⟩
 |choose q k ih=>exact fun x=>ih x<|h x
 |sys c k ih=>exact⟨h.1,fun r=>ih r<|h.2 r⟩
 |program k ih=>exact ih P h
 |mark m k ih=>exact⟨h.1,ih h.2⟩
 |halt x=>exact h
def re(w:ay)(t:Nat->Question->Nat)(d:Nat):World:={w with tape:=t,drawn:=d}
variable{w:ay}{a:Addr}{v:aA}{o:Obj}{n:Nat}
def OkW.re(h:OkW B w)(t:Nat->Question->Nat)(d:Nat):OkW B (re w t d):=⟨h.obj,h.low⟩
@[simp]def Xv(w:ay)(t t':Nat->Question->Nat)(d d':Nat):au.re (au.re w t d) t' d'=au.re w t' d':=rfl
@[simp]def ahD(w:ay):au.re w w.tape w.drawn=w:=rfl
@[simp]def Xw(w:ay)(t:Nat->Question->Nat)(d:Nat)(a:Addr):(au.re w t d).cell? a=aB w a:=rfl
def OkW.cell(h:OkW B w)(ha:¬B.dB a.block)(hc:aB w a=ae v):aI B v:=by
 unfold World.cell? at hc;split at hc
 ·rename_i c e fz hb;have ho:cZ B c:=h.obj _ _ ha hb;split at hc
  ·cases hc
  ·exact ho v<|Jt hc
 ·cases hc
def ahE(hc:aB w a=ae v):a.block<w.heap.size:=by
 unfold World.cell? at hc;split at hc
 ·rename_i hb;exact(jF.1 hb).1
 ·cases hc
def cZ.set{c:Array aA}(h:cZ B c)(hv:aI B v)(i:Nat):cZ B (c.setIfInBounds i v):=by
 intro x hx;obtain⟨j,hj,rfl⟩:=Hg.1 hx;rw[Array.getElem_setIfInBounds<|by simpa using hj];split
 ·exact hv
 ·exact h _<|RJ _
def Xx{b:Nat}{f:Obj->Obj}{k:Nat}(h:(w.heap.modify b f)[k]? =ae o):∃o',w.heap[k]? =ae o'/\(o=o'\/(k=b/\o=f o')):=by
 rw[anG]at h;split at h
 ·rename_i hb;obtain⟨o',uO,rfl⟩:=zY.1 h;exact⟨o',uO,.inr ⟨hb.s,rfl⟩⟩
 ·exact⟨o,h,.inl rfl⟩
def OkW.setCell(h:OkW B w)(hv:aI B v):OkW B (aX w a v):=by
 refine⟨fun b o hb ho=>?_,fun b hb=>by simpa[World.setCell]using h.low b hb⟩;obtain⟨o',uO,hx⟩:=Xx ho;have hk:=h.obj _ _ hb uO;rcases hx with rfl|⟨_,rfl⟩
 ·exact hk
 ·cases o'<;>first|exact hk|skip;rename_i c e fz;show cZ B _;split
  ·exact hk
  ·exact cZ.set (show cZ B c from hk) hv _
def OkW.freeze(h:OkW B w):OkW B (w.freeze a n):=by
 unfold World.freeze;split
 ·exact h
 refine⟨fun b o hb ho=>?_,fun b hb=>by simpa using h.low b hb⟩;obtain⟨o',uO,hx⟩:=Xx ho;have hk:=h.obj _ _ hb uO;rcases hx with rfl|⟨_,rfl⟩
 ·exact hk
 ·cases o'<;>exact hk
def OkW.push(h:OkW B w)(ho:mZ B o):OkW B {w with heap:=w.heap.push o}:=by
 refine⟨fun b x hb hx=>?_,fun b hb=>by have:=h.low b hb;simp<;>omega⟩;simp only[RG]at hx;split at hx
 ·cases hx;exact ho
 ·exact h.obj _ _ hb hx
def OkW.fresh(h:OkW B w):¬B.dB w.heap.size:=fun x=>OQ _<|h.low _ x
def OkW.setObj(h:OkW B w){r:Nat}(ho:mZ B o):OkW B {w with heap:=w.heap.setIfInBounds r o}:=by
 refine⟨fun b x hb hx=>?_,fun b hb=>by simpa using h.low b hb⟩;simp only[afH]at hx;split at hx
 ·split at hx
  ·cases hx;exact ho
  ·cases hx
 ·exact h.obj _ _ hb hx
def FQ(B:dE)(n:Nat)(e:Event):Prop:=
 match e.loc with
 | .cell a=>¬B.dB a.block/\a.block<n
 | .obj r=>¬B.dB r/\r<n
 | .mark m=>m=.noRoom
 | .output=>True
 |_=>False
def FQ.z{m:Nat}(h:n<=m){e:Event}(he:FQ B n e):FQ B m e:=by
 unfold FQ at*
 split at he<;>simp_all
 ·omega
 ·omega
def _root_.Go.Result.re{α:Type}(t:Nat->Question->Nat)(d:Nat):Result α->Result α
 | .ok a w=>.ok a<|au.re w t d
 | .halt h w=>.halt h<|au.re w t d
def MC(B:dE){α:Type}(ok:α->Prop)(w:ay)(gs:Array Event):Result α->Prop
 | .ok a w'=>ok a/\OkW B w'/\w.heap.size<=w'.heap.size/\w'.os=w.os/\w'.output=w.output/\∀e∈gs,FQ B w'.heap.size e
 | .halt h _=>OkH h
def MC.step{α:Type}{ok:α->Prop}{w w1:ay}{gs:Array Event}{e:Event}{r:Result α}(h:MC B ok w1 gs r)(hs:w.heap.size<=w1.heap.size)(ho:w1.os=w.os)(hu:w1.output=w.output)(he:FQ B w1.heap.size e):MC B ok w (#[e]++gs) r:=by
 cases r with
 |halt x w2=>exact h
 |ok a w2=>
  obtain⟨h1,h2,h3,h4,h5,h6⟩:=h;refine⟨h1,h2,fG hs h3,h4.t ho,h5.t hu,fun x hx=>?_⟩;rcases Jv.1 hx with hx|hx
  ·obtain rfl:x=e:=by simpa using hx
   exact he.z h3
  ·exact h6 x hx
def MC.same{α:Type}{ok:α->Prop}{w1:ay}{gs:Array Event}{r:Result α}(h:MC B ok w1 gs r)(hs:w.heap.size<=w1.heap.size)(ho:w1.os=w.os)(hu:w1.output=w.output):MC B ok w gs r:=by
 cases r with
 |halt x w2=>exact h
 |ok a w2=>
  obtain⟨h1,h2,h3,h4,h5,h6⟩:=h;exact⟨h1,h2,fG hs h3,h4.t ho,h5.t hu,h6⟩
def abX(P:fJ){α:Type}(s:Sem α)(w:ay)(n:Nat)(r:Result α)(gs:Array Event):Prop:=
 ∀t d,(∀i,i<n->t (d+i)=w.tape (w.drawn+i))->∀fs,s.runT P (re w t d) fs=(r.re t<|d+n,fs++gs)
def ahF(hw:OkW B w)(ha:¬B.dB a.block)(s:String):OkH (w.noCell a s):=by
 unfold World.noCell;split
 ·rename_i h;exact(hw.obj _ _ ha h).e
 ·rename_i h;exact(hw.obj _ _ ha h).e
 ·trivial
def aqN(hw:OkW B w)(ha:¬B.dB a.block)(b:Bool):w.farLoad P a b=.error (w.noCell a "load: no such cell"):=by
 unfold World.farLoad;split
 ·rename_i h;exact(hw.obj _ _ ha h).e
 ·rfl
def aqO(hw:OkW B w)(ha:¬B.dB a.block)(v:aA)(b:Bool):w.farStore P a v b=.error (w.noCell a "store: no such cell"):=by
 unfold World.farStore;split
 ·rename_i h;exact(hw.obj _ _ ha h).e
 ·rfl
def Pq(fs gs:Array Event)(e:Event):fs.push e++gs=fs++(#[e]++gs):=by
 rw[Array.push_eq_append,aaF]
def Clean.JL{α:Type}{ok:α->Prop}{s:Sem α}(h:Clean B P ok s):∀{w:ay},OkW B w->∃n r gs,abX P s w n r gs/\MC B ok w gs r:=by
 induction s with
 |pure a=>exact fun{w} hw=>⟨0,.ok a w,#[],fun t d _ fs=>by simp[Sem.runT,Result.re],h,hw,dI _,rfl,rfl,by simp⟩
 |load m a k ih=>
  intro w hw;cases hc:aB w a with
  |some v=>
   obtain⟨n,r,gs,h1,h2⟩:=ih v (h.2 v<|hw.cell h.1 hc) hw;refine⟨n,r,_,fun t d hd fs=>?_,h2.step (e:=⟨.cell a,false,m== .atomic⟩) (dI _) rfl rfl ⟨h.1,ahE hc⟩⟩;simp only[Sem.runT,Xw,hc];rw[h1 t d hd,Pq]
  |none=>
   refine⟨0,.halt (w.noCell a "load: no such cell") w,#[],fun t d hd fs=>?_,ahF hw h.1 _⟩;simp only[Sem.runT,Xw,hc,aqN (P:=P) (hw.re t d) h.1];simp[Result.re,World.noCell,au.re]
 |store m a v k ih=>
  intro w hw;by_cases hv:(∃x,v=.agg x)\/(∃x,v=.tuple x)
  ·refine⟨0,.halt (.stuck "store: not the value of one cell") w,#[],fun t d hd fs=>?_,trivial⟩;rcases hv with⟨x,rfl⟩|⟨x,rfl⟩<;>simp[Sem.runT,Result.re]
  ·have iy:∀w es,(Sem.store m a v k).runT P w es=match w.cell? a with
    |some _=>
     if w.frozen? a then(.halt (.unsupported<|.unsafePointer "a write to bytes that a string shares") w,es)
     else k.runT P (aX w a v) (es.push ⟨.cell a,true,m== .atomic⟩)
    |none=>match w.farStore P a v (m== .atomic)with
     | .ok (w,touched)=>k.runT P w (es++touched.toArray.map (⟨.cell ·,true,m== .atomic⟩))
     | .error h=>(.halt h w,es):=by
    intro w es
    cases v<;>first|rfl|simp at hv
   cases hc:aB w a with
   |some x=>
    by_cases hf:w.frozen? a=true
    ·refine⟨0,.halt (.unsupported<|.unsafePointer "a write to bytes that a string shares") w,#[],fun t d hd fs=>?_,trivial⟩;rw[iy];have:(au.re w t d).frozen? a=true:=hf;simp[hc,this,Result.re]
    ·obtain⟨n,r,gs,h1,h2⟩:=ih h.2.2<|hw.setCell (a:=a) h.2.1;refine⟨n,r,_,fun t d hd fs=>?_,h2.step (e:=⟨.cell a,true,m== .atomic⟩) (by simp[World.setCell]) rfl rfl ⟨h.1,by simpa[World.setCell]using ahE hc⟩⟩;rw[iy];have E8:¬(au.re w t d).frozen? a=true:=hf;have:=h1 t d hd<|fs.push ⟨.cell a,true,m== .atomic⟩;simp only[Xw,hc,if_neg E8];rw[<-Pq];exact this
   |none=>
    refine⟨0,.halt (w.noCell a "store: no such cell") w,#[],fun t d hd fs=>?_,ahF hw h.1 _⟩;rw[iy];simp only[Xw,hc,aqO (P:=P) (hw.re t d) h.1];simp[Result.re,World.noCell,au.re]
 |new o k ih=>
  intro w hw;obtain⟨n,r,gs,h1,h2⟩:=ih w.heap.size (h.2 _ hw.fresh)<|hw.push h.1;exact⟨n,r,gs,fun t d hd fs=>h1 t d hd fs,h2.same (by simp) rfl rfl⟩
 |shape x k ih=>
  intro w hw;obtain⟨n,r,gs,h1,h2⟩:=ih (w.shape? x) (h _) hw;exact⟨n,r,gs,fun t d hd fs=>h1 t d hd fs,h2⟩
 |freeze a m k ih=>
  intro w hw;obtain⟨n,r,gs,h1,h2⟩:=ih h<|hw.freeze (a:=a) (n:=m);refine⟨n,r,gs,fun t d hd fs=>?_,h2.same (by unfold World.freeze;split<;>simp) (by unfold World.freeze;split<;>rfl) (by unfold World.freeze;split<;>rfl)⟩;have e:∀t d,(au.re w t d).freeze a m=au.re (w.freeze a m) t d:=by
   intro t d;unfold World.freeze;split<;>rfl
  have e1:(w.freeze a m).tape=w.tape:=by unfold World.freeze;split<;>rfl
  have e2:(w.freeze a m).drawn=w.drawn:=by unfold World.freeze;split<;>rfl
  simp only[Sem.runT];rw[e];exact h1 t d (by rw[e1,e2];exact hd) fs
 |frozen a k ih=>
  intro w hw;obtain⟨n,r,gs,h1,h2⟩:=ih (w.frozen? a) (h _) hw;exact⟨n,r,gs,fun t d hd fs=>h1 t d hd fs,h2⟩
 |getObj x k ih=>
  intro w hw;cases hb:w.heap[x]? with
  |none=>exact⟨0,.halt (.stuck "getObj: no such block") w,#[],fun t d hd fs=>by simp[Sem.runT,au.re,hb,Result.re],trivial⟩
  |some o=>
   have ho:=hw.obj _ _ h.1 hb;have aK:=(jF.1 hb).1;by_cases Jd:∃c e f,o=.cells c e f
   ·obtain⟨c,e,f,rfl⟩:=Jd;exact⟨0,.halt (.stuck "getObj: a row of cells") w,#[],fun t d hd fs=>by simp[Sem.runT,au.re,hb,Result.re],trivial⟩
   ·obtain⟨n,r,gs,h1,h2⟩:=ih o (h.2 o ho) hw;refine⟨n,r,_,fun t d hd fs=>?_,h2.step (e:=⟨.obj x,false,o.isChan⟩) (dI _) rfl rfl ⟨h.1,aK⟩⟩;have jw:(au.re w t d).heap[x]? =ae o:=hb;have:(Sem.getObj x k).runT P (au.re w t d) fs=(k o).runT P (au.re w t d) (fs.push ⟨.obj x,false,o.isChan⟩):=by
     simp only[Sem.runT,jw];cases o<;>first|rfl|simp at Jd
    rw[this,h1 t d hd,Pq]
 |setObj x o' k ih=>
  intro w hw;cases hb:w.heap[x]? with
  |none=>exact⟨0,.halt (.stuck "setObj: no such block") w,#[],fun t d hd fs=>by simp[Sem.runT,au.re,hb,Result.re],trivial⟩
  |some o=>
   have aK:=(jF.1 hb).1;by_cases Jd:∃c e f,o=.cells c e f
   ·obtain⟨c,e,f,rfl⟩:=Jd;exact⟨0,.halt (.stuck "setObj: a row of cells") w,#[],fun t d hd fs=>by simp[Sem.runT,au.re,hb,Result.re],trivial⟩
   ·obtain⟨n,r,gs,h1,h2⟩:=ih h.2.2<|hw.setObj (r:=x) h.2.1;refine⟨n,r,_,fun t d hd fs=>?_,h2.step (e:=⟨.obj x,true,o'.isChan⟩) (by simp) rfl rfl ⟨h.1,by simpa using aK⟩⟩;have jw:(au.re w t d).heap[x]? =ae o:=hb;have:(Sem.setObj x o' k).runT P (au.re w t d) fs=k.runT P (au.re {w with heap:=w.heap.setIfInBounds x o'} t d) (fs.push ⟨.obj x,true,o'.isChan⟩):=by
     simp only[Sem.runT,jw];cases o<;>first|rfl|simp at Jd
    rw[this,h1 t d hd,Pq]
 |choose q k ih=>
  intro w hw;by_cases hq:q.forced=true
  ·obtain⟨n,r,gs,h1,h2⟩:=ih 0 (h _) hw;exact⟨n,r,gs,fun t d hd fs=>by simp only[Sem.runT,hq,if_true];exact h1 t d hd fs,h2⟩
  ·obtain⟨n,r,gs,h1,h2⟩:=ih (q.cut<|w.tape w.drawn q) (h _) (w:={w with drawn:=w.drawn+1}) ⟨hw.obj,hw.low⟩;refine⟨n+1,r,gs,fun t d hd fs=>?_,h2.same (dI _) rfl rfl⟩;have h0:=hd 0 (by omega);simp only[LD]at h0;have:=h1 t (d+1) (fun i hi=>by have:=hd (i+1) (by omega);rw[show d+1+i=d+(i+1)by omega,this];show _=w.tape (w.drawn+1+i);congr 1;omega) fs;have e:(Sem.choose q k).runT P (au.re w t d) fs=(k<|q.cut<|w.tape w.drawn q).runT P (au.re {w with drawn:=w.drawn+1} t<|d+1) fs:=by
    simp only[Sem.runT,if_neg hq];show(k<|q.cut<|t d q).runT P _ fs=_;rw[h0];rfl
   rw[e,this,show d+1+n=d+(n+1)by omega]
 |sys c k ih=>
  intro w hw;obtain⟨rfl,h'⟩:=h;obtain⟨n,r,gs,h1,h2⟩:=ih (.strings w.os.env) (h' _) hw;refine⟨n,r,_,fun t d hd fs=>?_,h2.step (e:=⟨.output,true,false⟩) (dI _) rfl rfl trivial⟩;have e:(Sem.sys .env k).runT P (au.re w t d) fs=(k<|.strings w.os.env).runT P (au.re w t d) (fs.push ⟨.output,true,false⟩):=rfl;rw[e,h1 t d hd,Pq]
 |program k ih=>exact fun{w} hw=>ih P h hw
 |mark m k ih=>
  intro w hw;obtain⟨n,r,gs,h1,h2⟩:=ih h.2 hw;refine⟨n,r,_,fun t d hd fs=>?_,h2.step (e:=⟨.mark m,false,true⟩) (dI _) rfl rfl h.1⟩;simp only[Sem.runT];rw[h1 t d hd,Pq]
 |halt x=>exact fun{w} hw=>⟨0,.halt x w,#[],fun t d _ fs=>by simp[Sem.runT,Result.re],h⟩
end au
end
section
namespace au
open Go
structure Fit(B:dE)(P:fJ):Prop where
 zero:∀t i v,P.info? t=ae i->i.zero=ae v->aI B v
 globals:∀b,B.dB b->P.globals.size+1<=b
variable{B:dE}{P:fJ}{α β:Type}
section basics
variable{ok:α->Prop}{GM:β->Prop}
def aZ{a:α}(h:ok a):Clean B P ok (pure a:Sem α):=h
def dM{s:String}:Clean B P ok (stuck s:Sem α):=trivial
def aU{s:Sem α}{f:α->Sem β}(h:Clean B P ok s)(hf:∀a,ok a->Clean B P GM (f a)):Clean B P GM (s>>=f):=Clean.bind h hf
def ahG{s:Sem α}{f:α->β}(h:Clean B P ok s)(hf:∀a,ok a->GM (f a)):Clean B P GM (f<$>s):=Clean.bind h hf
def gX{c:Prop}[Decidable c]{s t:Sem α}(h:c->Clean B P ok s)(h':¬c->Clean B P ok t):Clean B P ok (if c then s else t):=by
 split
 ·exact h ‹_›
 ·exact h' ‹_›
def jB{u:Unsupported}(h:∀g,u≠.initOrder g):Clean B P ok (unsupported u:Sem α):=by
 cases u<;>first|trivial|exact absurd rfl<|h _
def Ae:Clean B P (fun p=>p=P) program:=rfl
end basics
variable{t:dJ}{r n i:Nat}{a:Addr}{o:Obj}{m v u k x:aA}{c:Array aA}{es:Array MapEntry}
def C9:Clean B P (fun i=>P.info? t=ae i) (typeInfo t):=by
 refine aU Ae fun p hp=>?_;subst hp;split
 ·exact aZ ‹_›
 ·exact dM
def kC:Clean B P (fun d=>P.underlying t=ae d) (underlying t):=by
 refine aU Ae fun p hp=>?_;subst hp;split
 ·exact aZ ‹_›
 ·exact dM
def vF:Clean B P (fun _=>True) (sizeOf t):=aU C9 fun _ _=>aZ trivial
def ahH:Clean B P (fun _=>True) (typeStr t):=by
 refine aU C9 fun _ _=>gX (fun _=>jB<|by simp) fun _=>aZ trivial
def ahI:Clean B P (fun _=>True) (isAgg t):=by
 refine aU kC fun _ _=>?_;split<;>exact aZ trivial
def BA{q:Question}:Clean B P (fun _=>True) (choose q):=fun _=>trivial
def FT:Clean B P (fun _=>True) (shape r):=fun _=>trivial
def SV:Clean B P (fun _=>True) (frozen a):=fun _=>trivial
def aqP:Clean B P (fun _=>True) (freeze a n):=trivial
def yC(h:¬B.dB r):Clean B P (mZ B) (getObj r):=⟨h,fun _ ho=>ho⟩
def FU(h:¬B.dB r)(ho:mZ B o):Clean B P (fun _=>True) (setObj r o):=⟨h,ho,trivial⟩
def Xy(ho:mZ B o):Clean B P (fun r=>¬B.dB r) (newObj o):=⟨ho,fun _ h=>h⟩
def ahJ{m:Mode}(h:¬B.dB a.block):Clean B P (aI B) (load a m):=⟨h,fun _ hv=>hv⟩
def aqQ{m:Mode}(h:¬B.dB a.block)(hv:aI B v):Clean B P (fun _=>True) (store a v m):=⟨h,hv,trivial⟩
def ahK:Clean B P (fun _=>True) (askRoom n):=gX (fun _=>⟨rfl,trivial⟩) fun _=>trivial
@[simp]def add_block(a:Addr)(n:Nat):(a.add n).block=a.block:=by unfold Addr.add;split<;>rfl
def Ih(F:Fit B P):Clean B P (aI B) (zeroValue t):=by
 refine aU C9 fun i hi=>?_;split
 ·exact aZ<|F.zero _ _ _ hi ‹_›
 ·exact jB<|by simp
def cZ.push(h:cZ B c)(hv:aI B v):cZ B (c.push v):=by
 intro x hx;rcases Array.mem_push.1 hx with hx|rfl
 ·exact h x hx
 ·exact hv
def cZ.append{d:Array aA}(h:cZ B c)(h':cZ B d):cZ B (c++d):=fun x hx=>(Jv.1 hx).e (h x)<|h' x
def cZ.extract(h:cZ B c)(i j:Nat):cZ B (c.extract i j):=by
 intro x hx;obtain⟨k,hk,rfl⟩:=Hg.1 hx;rw[Array.getElem_extract];exact h _<|RJ _
def cZ.nil:cZ B #[]:=by intro x hx;simp at hx
def cZ.one(h:aI B v):cZ B #[v]:=by intro x hx;simp at hx;exact hx▸h
def cZ.two(h:aI B v)(h':aI B u):cZ B #[v,u]:=by intro x hx;simp at hx;rcases hx with rfl|rfl<;>assumption
def cZ.three{z:aA}(h:aI B v)(h':aI B u)(h'':aI B z):cZ B #[v,u,z]:=by intro x hx;simp at hx;rcases hx with rfl|rfl|rfl<;>assumption
def cZ.get(h:cZ B c)(hv:c[i]? =ae v):aI B v:=h v<|Jt hv
def cZ.getD(h:cZ B c)(hv:aI B v):aI B (c.getD i v):=by
 unfold Array.getD;split
 ·exact h _<|RJ _
 ·exact hv
def aI.cells(h:aI B v):cZ B v.cells:=by
 cases h<;>first|exact cZ.one (by constructor<;>assumption)|assumption|skip
def rZ:aI B undef:=.tuple<|by simp
def ahL(h:¬B.dB a.block):∀(n i:Nat) (acc:Array aA),cZ B acc->Clean B P (cZ B) (loadCellsFrom a i n acc)
 |0,_,_,ha=>ha
 |n+1,i,acc,ha=>aU (ahJ<|by simpa using h) fun _ hv=>ahL h n (i+1) _<|ha.push hv
def abY(h:¬B.dB a.block)(n:Nat):Clean B P (cZ B) (loadCells a n):=ahL h n 0 _ cZ.nil
def Pv(h:¬B.dB a.block):∀(vs:List aA) (i:Nat),(∀v∈vs,aI B v)->Clean B P (fun _=>True) (storeCells a vs i)
 |[],_,_=>trivial
 |v::vs,i,hv=>aU (aqQ (by simpa using h)<|hv v<|by simp) fun _ _=>Pv h vs (i+1) fun x hx=>hv x<|by simp[hx]
def ahM(h:¬B.dB a.block):Clean B P (aI B) (loadVar t a):=by
 refine aU ahI fun b _=>?_;split
 ·exact aU vF fun _ _=>aU (abY h _) fun _ hc=>aZ<|.agg hc
 ·exact ahJ h
def aqR(h:¬B.dB a.block)(hv:aI B v):Clean B P (fun _=>True) (storeVar t a v):=by
 refine aU vF fun _ _=>?_;split
 ·exact aU (dM (ok:=fun _=>True)) fun _ _=>Pv h _ _ fun x hx=>hv.cells x<|by simpa using hx
 ·exact aU (aZ (ok:=fun _=>True) trivial) fun _ _=>Pv h _ _ fun x hx=>hv.cells x<|by simpa using hx
def SX(h:cZ B c):Clean B P (fun a=>¬B.dB a.block) (newRow t c):=aU (Xy<|show mZ B (.cells c t)from h) fun _ hr=>aZ hr
def Xz(h:aI B v):Clean B P (fun a=>¬B.dB a.block) (newVar t v):=SX h.cells
def Dc{o:Nat}(h:cZ B c):Clean B P (aI B) (part t c o):=by
 refine aU ahI fun b _=>?_;split
 ·exact aU vF fun _ _=>aZ<|.agg<|h.extract _ _
 ·split
  ·exact aZ<|h.get ‹_›
  ·exact dM
def SY{ok:α->Prop}:Clean B P ok (goPanic v:Sem α):=trivial
def ahN:Clean B P (fun _=>True) (elemOf t):=by
 refine aU kC fun _ _=>?_;split
 ·exact aZ trivial
 ·exact dM
def sD(F:Fit B P){ok:α->Prop}{e:RuntimeError}:Clean B P ok (runtimePanic e:Sem α):=by
 refine aU Ae fun p hp=>?_;subst hp;cases e;case typeAssertion i c a m=>
  have hh:∀t,aI B (typeHandle p t):=fun t=>.pointer (by
   rintro x hx;cases hx;intro h;have:=F.globals _ h;simp only at this;omega)
  have h1:∀t:Option dJ,aI B (match t with|some t=>typeHandle p t|none=>az af):=by
   intro t;split
   ·exact hh _
   ·exact .pointer<|by simp
  refine aU ahN fun _ _=>aU (Xz<|.agg ?_) fun _ _=>SY
  intro v hv
  simp at hv
  rcases hv with rfl|rfl|rfl|rfl
  ·exact h1 i
  ·exact h1 c
  ·exact hh _
  ·exact .string
 case panicNil=>exact aU ahN fun _ _=>aU (Xz<|.agg<|by simp) fun _ _=>SY
 all_goals exact SY
def S9(F:Fit B P){ok:α->Prop}{k:IntKind}{x y:Int}{c:BoundsCode}:Clean B P ok (boundsPanic k x y c:Sem α):=by
 unfold boundsPanic;split
 ·exact aU (ok:=fun _=>True) (ahG BA fun _ _=>trivial) fun _ _=>sD F
 ·exact aU (ok:=fun _=>True) (aZ trivial) fun _ _=>sD F
def XA:Clean B P (fun _=>True) (asIntOf v):=by
 unfold asIntOf;split
 ·exact aZ trivial
 ·exact jB<|by simp
 ·exact dM
def Px:Clean B P (fun _=>True) (asInt v):=aU XA fun _ _=>aZ trivial
def abZ:Clean B P (fun _=>True) (asBool v):=by
 unfold asBool;split
 ·exact aZ trivial
 ·exact dM
def aI.Df(h:aI B (.agg c)):cZ B c:=by cases h;assumption
def aI.aqS(h:aI B (.tuple c)):cZ B c:=by cases h;assumption
def aI.ptr(h:aI B (az<|ae a)):¬B.dB a.block:=by cases h with|pointer h=>exact h _ rfl
def aI.Tc{m:Nat}(h:aI B (aN (ae a) n m)):¬B.dB a.block:=by cases h with|slice h=>exact h _ rfl
def aI.mp(h:aI B (.map<|ae r)):¬B.dB r:=by cases h with|map h=>exact h _ rfl
def aI.sF(h:¬B.dB a.block):aI B (az<|ae a):=.pointer fun x hx=>by cases hx;exact h
def aI.Py{m:Nat}(h:¬B.dB a.block):aI B (aN (ae a) n m):=.slice fun x hx=>by cases hx;exact h
def aqT(h:aI B v):Clean B P (cZ B) (asAgg v):=by
 unfold asAgg;split
 ·exact aZ h.Df
 ·exact dM
def ahO(F:Fit B P)(h:aI B v):Clean B P (fun a=>¬B.dB a.block) (asAddr v):=by
 unfold asAddr;split
 ·exact aZ h.ptr
 ·exact sD F
 ·exact dM
def Td(h:aI B v):Clean B P (fun a=>¬B.dB a.block) (Instr.sureAddr v):=by
 unfold Instr.sureAddr;split
 ·exact aZ h.ptr
 ·exact dM
def ahP(h:¬B.dB r):Clean B P (fun _=>True) (viewAt r):=by
 refine aU FT fun x _=>?_;split
 ·exact aZ trivial
 ·refine aU (yC h) fun o ho=>?_;split<;>exact aZ trivial
def ab1(h:¬B.dB a.block):Clean B P (fun _=>True) (noView a):=by
 refine aU (ahP h) fun x _=>?_;split
 ·exact jB<|by simp
 ·exact aZ trivial
def MF(h:¬B.dB a.block):Clean B P (fun _=>True) (byteOf a):=by
 unfold byteOf;split
 ·exact aZ trivial
 refine aU Ae fun p _=>aU (ab1 h) fun _ _=>aU FT fun s _=>?_;split
 ·refine gX (fun _=>aZ trivial) fun _=>?_;split
  ·exact aZ trivial
  ·exact dM
 ·exact dM
def aqU(h:¬B.dB a.block)(c b:Nat):Clean B P (fun x=>x.block=a.block) (partAt a c b):=by
 refine aU (MF h) fun _ _=>aU (MF<|by exact h) fun _ _=>aZ ?_;split<;>rfl
def aqV(h:¬B.dB a.block)(f:Field):Clean B P (fun x=>x.block=a.block) (fieldPlace a f):=by
 refine aU vF fun _ _=>?_;split
 ·exact aqU h _ _
 ·exact aZ<|by simp
def ahQ{b:Addr}(h:¬B.dB a.block)(h':¬B.dB b.block):Clean B P (fun _=>True) (sameAddr a b):=by
 unfold sameAddr;have hs:∀x:Addr,Clean B P (fun _=>True) (stringish x):=by
  intro x;refine aU SV fun _ _=>?_;split
  ·exact aZ trivial
  ·refine aU FT fun _ _=>?_;split
   ·exact SV
   ·exact aZ trivial
 have hm:Clean B P (fun _=>True) (mayBeOne a b):=by
  refine aU (hs a) fun _ _=>aU (hs b) fun _ _=>?_;exact aU (ok:=fun _=>True) (aU FT fun _ _=>aZ trivial) fun _ _=>aU (ok:=fun _=>True) (aU FT fun _ _=>aZ trivial) fun _ _=>aZ trivial
 refine gX (fun _=>aZ trivial) fun _=>?_;refine aU SV fun _ _=>?_;refine aU SV fun _ _=>?_;have ht:Clean B P (fun _=>True) (do
  noView a
  noView b
  if<-mayBeOne a b then return(<-choose (.extern "sameAddr.stringBytes" 2))==1
  pure false:Sem Bool):=by
  refine aU (ab1 h) fun _ _=>aU (ab1 h') fun _ _=>aU hm fun _ _=>?_;split
  ·exact aU BA fun _ _=>aZ trivial
  ·exact aZ trivial
 split
 ·exact aU (ok:=fun _=>True) (jB<|by simp) fun _ _=>ht
 ·exact ht
def aqW{a b:Option Addr}(h:∀x,a=ae x->¬B.dB x.block)(h':∀x,b=ae x->¬B.dB x.block):Clean B P (fun _=>True) (samePointer a b):=by
 unfold samePointer;split
 ·exact ahQ (h _ rfl)<|h' _ rfl
 ·exact aZ trivial
def ahR(h:¬B.dB r):Clean B P (fun x=>∀y,x=ae y->¬B.dB y.1.block) (numberAt r):=by
 refine aU FT fun x _=>?_;split
 ·exact aZ<|by simp
 ·refine aU (yC h) fun o ho=>?_;split
  ·exact aZ (by rintro y hy;cases hy;exact ho)
  ·exact aZ<|by simp
def Ii(h:¬B.dB a.block):Clean B P (fun x=>¬B.dB x.1.block) (behindNumber a):=by
 refine aU (ahR h) fun x hx=>aZ ?_;cases x with
 |none=>exact h
 |some y=>exact hx y rfl
def ab2{γ:Type}{ok:β->Prop}{f:γ->β->Sem (ForInStep β)}:∀(l:List γ) (b:β),ok b->(∀x∈l,∀b,ok b->Clean B P (fun s=>match s with| .yield b=>ok b| .done b=>ok b) (f x b))->Clean B P ok (forIn l b f)
 |[],b,hb,_=>by
  rw[List.forIn_nil];exact hb
 |x::l,b,hb,hf=>by
  rw[List.forIn_cons];refine aU (hf x (by simp) b hb) fun s hs=>?_;cases s with
  |done b=>exact hs
  |yield b=>exact ab2 l b hs fun y hy=>hf y<|by simp[hy]
def XB{γ:Type}{f:γ->β->Sem (ForInStep β)}(l:Array γ)(b:β)(hf:∀x b,Clean B P (fun _=>True)<|f x b):Clean B P (fun _=>True) (forIn l b f):=by
 rw[<-Array.forIn_toList];exact ab2 (ok:=fun _=>True) _ _ trivial fun x _ b _=>(hf x b).z fun s _=>by cases s<;>trivial
def ab3{f:Nat->β->Sem (ForInStep β)}(n:Nat)(b:β)(hf:∀x b,Clean B P (fun _=>True)<|f x b):Clean B P (fun _=>True) (forIn [0:n] b f):=by
 rw[Std.Legacy.Range.forIn_eq_forIn_range'];exact ab2 (ok:=fun _=>True) _ _ trivial fun x _ b _=>(hf x b).z fun s _=>by cases s<;>trivial
def XC(F:Fit B P):∀(d:Nat) (t:dJ) (x y:aA),aI B x->aI B y->Clean B P (fun _=>True) (Op.equalIn d t x y)
 |0,_,_,_,_,_=>by unfold Op.equalIn;exact jB<|by simp
 |d+1,t,x,y,hx,hy=>by
  unfold Op.equalIn;refine aU kC fun u _=>?_;split;case h_5=>
   refine aU (Ii hx.ptr) fun a ha=>aU (Ii hy.ptr) fun b hb=>aU Ae fun _ _=>?_
   refine gX (fun _=>aU (MF ha) fun _ _=>aU (MF hb) fun _ _=>aZ trivial) fun _=>aU C9 fun _ _=>?_
   split
   ·exact gX (fun _=>aZ trivial) fun _=>jB<|by simp
   ·exact jB<|by simp
  all_goals first
   |exact aZ trivial
   |exact dM
   |exact jB<|by simp
   |exact gX (fun _=>aZ trivial) fun _=>dM
   |skip
  ·refine aU vF fun _ _=>gX (fun _=>ahQ hx.ptr hy.ptr) fun _=>gX (fun _=>aZ trivial) fun _=>aU BA fun _ _=>aZ trivial
  ·cases hx with|pointer hx=>cases hy with|pointer hy=>exact aqW hx hy
  ·refine gX (fun _=>aZ trivial) fun _=>aU C9 fun _ _=>gX (fun _=>?_) fun _=>?_
   ·refine aU Ae fun _ _=>aU Ae fun _ _=>gX (fun _=>aU (ok:=fun _=>True) (jB<|by simp) fun _ _=>?_) fun _=>?_;all_goals exact aU ahH fun _ _=>sD F
   ·cases hx with|iface hx=>cases hy with|iface hy=>exact XC F d _ _ _ hx hy
  ·refine aU Ae fun _ _=>gX (fun _=>aU (ok:=fun _=>True) (jB<|by simp) fun _ _=>?_) fun _=>?_;all_goals
    refine aU (XB _ _ fun f s=>gX (fun _=>aU (Dc hx.Df) fun _ h1=>aU (Dc hy.Df) fun _ h2=>aU (XC F d _ _ _ h1 h2) fun _ _=>gX (fun _=>aZ trivial) fun _=>aZ trivial) fun _=>aZ trivial) fun r _=>by dsimp only;split<;>exact aZ trivial
  ·refine aU vF fun _ _=>aU (ab3 _ _ fun f s=>aU (Dc hx.Df) fun _ h1=>aU (Dc hy.Df) fun _ h2=>aU (XC F d _ _ _ h1 h2) fun _ _=>gX (fun _=>aZ trivial) fun _=>aZ trivial) fun r _=>by dsimp only;split<;>exact aZ trivial
def ahS(F:Fit B P){y:aA}(hx:aI B x)(hy:aI B y):Clean B P (fun _=>True) (Op.equal t x y):=XC F _ t x y hx hy
def ab4:∀(d:Nat) (t:dJ) (x y:aA),aI B x->aI B y->Clean B P (fun _=>True) (Op.eqGuardIn d t x y)
 |0,_,_,_,_,_=>by unfold Op.eqGuardIn;exact jB<|by simp
 |d+1,t,x,y,hx,hy=>by
  unfold Op.eqGuardIn;refine aU kC fun u _=>?_;split
  ·exact aZ trivial
  ·refine aU (XB _ _ fun f s=>gX (fun _=>aU (Dc hx.Df) fun _ h1=>aU (Dc hy.Df) fun _ h2=>aU (ab4 d _ _ _ h1 h2) fun _ _=>gX (fun _=>aZ trivial) fun _=>aZ trivial) fun _=>aZ trivial) fun r _=>by dsimp only;split<;>exact aZ trivial
  ·refine aU vF fun _ _=>aU (ab3 _ _ fun f s=>aU (Dc hx.Df) fun _ h1=>aU (Dc hy.Df) fun _ h2=>aU (ab4 d _ _ _ h1 h2) fun _ _=>gX (fun _=>aZ trivial) fun _=>aZ trivial) fun r _=>by dsimp only;split<;>exact aZ trivial
  ·exact aZ trivial
def oK(B:dE)(es:Array MapEntry):Prop:=∀e∈es,aI B e.key/\aI B e.val
def Ij(F:Fit B P)(b:Bool):∀(d:Nat) (t:dJ) (x:aA),aI B x->Clean B P (fun _=>True) (Instr.checkKey b d t x)
 |0,_,_,_=>by unfold Instr.checkKey;exact jB<|by simp
 |d+1,t,x,hx=>by
  unfold Instr.checkKey;refine aU kC fun u _=>?_;split
  ·cases hx with|iface hx=>
   refine aU C9 fun _ _=>gX (fun _=>?_) fun _=>Ij F b d _ _ hx;refine gX (fun _=>aU (ok:=fun _=>True) (sD F) fun _ _=>?_) fun _=>?_;all_goals exact aU ahH fun _ _=>aU (ok:=fun _=>True) (sD F) fun _ _=>Ij F b d _ _ hx
  ·exact aU (ab3 _ _ fun f s=>aU vF fun _ _=>aU (Dc hx.Df) fun _ h1=>aU (Ij F b d _ _ h1) fun _ _=>aZ trivial) fun r _=>aZ trivial
  ·exact aU (XB _ _ fun f s=>gX (fun _=>aU (Dc hx.Df) fun _ h1=>aU (Ij F b d _ _ h1) fun _ _=>aZ trivial) fun _=>aZ trivial) fun r _=>aZ trivial
  all_goals first|exact aZ trivial|exact dM
def ahT(F:Fit B P)(hk:aI B k):∀(es:List MapEntry) (i:Nat),(∀e∈es,aI B e.key/\aI B e.val)->Clean B P (fun r=>∀x,r=ae x->aI B x.2) (Instr.findAsking t k es i)
 |[],_,_=>aZ<|by simp
 |e::es,i,h=>by
  unfold Instr.findAsking;refine aU (ahS F hk (h e<|by simp).1) fun b _=>?_;split
  ·exact aZ (by rintro x hx;cases hx;exact(h e<|by simp).2)
  ·exact ahT F hk es (i+1) fun x hx=>h x<|by simp[hx]
def ahU{d:TypeDesc}:∀(es:List MapEntry) (i:Nat) (r:Option (Nat×aA)),(∀e∈es,aI B e.key/\aI B e.val)->Instr.findNow d k es i=ae r->∀x,r=ae x->aI B x.2
 |[],_,r,_,h=>by simp[Instr.findNow]at h;subst h;simp
 |e::es,i,r,he,h=>by
  unfold Instr.findNow at h;split at h
  ·cases h;rintro x hx;cases hx;exact(he e<|by simp).2
  ·exact ahU es (i+1) r (fun x hx=>he x<|by simp[hx]) h
  ·cases h
def XD(F:Fit B P)(hk:aI B k)(he:oK B es):Clean B P (fun r=>∀x,r=ae x->aI B x.2) (Instr.findKey t k es.toList):=by
 have he':∀e∈es.toList,aI B e.key/\aI B e.val:=fun e h=>he e (by simpa using h);refine aU kC fun u _=>?_;split
 ·exact aZ<|ahU _ _ _ he' ‹_›
 ·exact ahT F hk _ _ he'
def aqX(F:Fit B P){c:Bool}(hx:aI B x)(hk:aI B k):Clean B P (aI B) (Instr.lookup t x k c):=by
 refine aU kC fun u _=>?_;split
 ·extract_lets jq jp
  have hq:∀(z:aA×Bool),aI B z.1->Clean B P (aI B) (jq z):=by
   intro z hz;refine aZ ?_;split
   ·exact .tuple<|cZ.two hz .bool
   ·exact hz
  have jQ:∀es,oK B es->Clean B P (aI B) (jp es):=by
   intro es he;refine aU (Ij F _ _ _ _ hk) fun _ _=>aU (XD F hk he) fun r hr=>?_;split
   ·exact aU (ok:=fun z=>aI B z.1) (aZ<|hr _ rfl) fun z hz=>hq _ hz
   ·exact aU (Ih F) fun z hz=>aU (ok:=fun z=>aI B z.1) (aZ hz) fun z hz=>hq _ hz
  split
  ·exact aU (ok:=oK B) (aZ (by intro e h;simp at h)) fun es he=>jQ es he
  ·refine aU (yC hx.mp) fun o ho=>?_;split
   ·exact aU (ok:=oK B) (aZ ho) fun es he=>jQ es he
   ·exact aU (ok:=oK B) dM fun es he=>jQ es he
  ·exact aU (ok:=oK B) dM fun es he=>jQ es he
 ·exact dM
def ahV{a b:aA}(ha:aI B a)(hb:aI B b):Clean B P (aI B) (Instr.keyThatStays a b):=by
 unfold Instr.keyThatStays;refine gX (fun _=>aZ hb) fun _=>aU BA fun n _=>aZ ?_;split<;>assumption
def oK.modify(h:oK B es){f:MapEntry->MapEntry}(hf:∀e,aI B e.key/\aI B e.val->aI B (f e).key/\aI B (f e).val):oK B (es.modify i f):=by
 intro e he;obtain⟨k,hk,rfl⟩:=Hg.1 he;rw[Array.getElem_modify];split
 ·exact hf _<|h _<|RJ _
 ·exact h _<|RJ _
def oK.push(h:oK B es){e:MapEntry}(he:aI B e.key/\aI B e.val):oK B (es.push e):=by
 intro x hx;rcases Array.mem_push.1 hx with hx|rfl
 ·exact h x hx
 ·exact he
def oK.ahW(h:oK B es)(hk:aI B k):aI B (((es[i]?).map (·.key)).getD k):=by
 cases he:es[i]? with
 |none=>exact hk
 |some e=>exact(h e<|Jt he).1
def ab5(F:Fit B P)(hm:aI B m)(hk:aI B k)(hv:aI B v):Clean B P (fun _=>True) (Instr.mapUpdate t m k v):=by
 refine aU kC fun u _=>?_;split
 ·split
  ·exact sD F
  ·refine aU (yC hm.mp) fun o ho=>?_;split
   ·have ho:oK B _:=ho;refine aU (Ij F _ _ _ _ hk) fun _ _=>aU (XD F hk ho) fun r hr=>?_;split
    ·exact aU (ahV (ho.ahW hk) hk) fun k' dV=>FU hm.mp<|show oK B _ from ho.modify fun e he=>⟨dV,hv⟩
    ·exact FU hm.mp<|show oK B _ from ho.push ⟨hk,hv⟩
   ·exact dM
  ·exact dM
 ·exact dM
def aqY(F:Fit B P)(hm:aI B m)(hk:aI B k):Clean B P (aI B) (Instr.mapEntry t m k):=by
 refine aU kC fun u _=>?_;split
 ·split
  ·exact sD F
  ·refine aU (yC hm.mp) fun o ho=>?_;split
   ·have ho:oK B _:=ho;refine aU (Ij F _ _ _ _ hk) fun _ _=>aU (XD F hk ho) fun r hr=>?_;split
    ·exact aU (ahV (ho.ahW hk) hk) fun k' dV=>aU (FU hm.mp<|show oK B _ from ho.modify fun e he=>⟨dV,he.2⟩) fun _ _=>aZ<|.tuple<|cZ.two (hr _ rfl) .int
    ·exact aU (Ih F) fun z hz=>aU (FU hm.mp<|show oK B _ from ho.push ⟨hk,hz⟩) fun _ _=>aZ<|.tuple<|cZ.two hz .int
   ·exact dM
  ·exact dM
 ·exact dM
def aqZ{s:aA}(hm:aI B m)(hv:aI B v):Clean B P (fun _=>True) (Instr.entryStore t m s v):=by
 unfold Instr.entryStore;split
 ·refine aU (yC hm.mp) fun o ho=>?_;split
  ·refine aU Px fun _ _=>?_;split
   ·exact FU hm.mp<|show oK B _ from oK.modify (show oK B _ from ho) fun e he=>⟨he.1,hv⟩
   ·exact jB<|by simp
  ·exact dM
 ·exact dM
def aq0{r:Option aA}:Clean B P (aI B) (Instr.makeMap t r):=by
 have hn:Clean B P (aI B) (do pure (Value.map<|ae<|<-newObj (.map #[] 0)):Sem aA):=
  aU (Xy (show oK B #[]from by intro e h;simp at h)) fun r hr=>aZ (.map fun x hx=>by cases hx;exact hr)
 unfold Instr.makeMap;split
 ·refine aU kC fun u _=>?_;split
  ·exact aU Px fun _ _=>hn
  ·exact aU (ok:=fun _=>True) dM fun _ _=>hn
 ·exact hn
def aq1(hx:aI B x):Clean B P (aI B) (Instr.range t x):=by
 refine aU kC fun u _=>?_;extract_lets jp
 have jQ:∀o,mZ B o->Clean B P (aI B) (jp o):=fun o ho=>aU (Xy ho) fun r hr=>aZ<|.sF hr;split
 ·exact aU (ok:=mZ B) (aZ trivial) jQ
 ·exact aU (ok:=mZ B) (aZ (by intro r hr;cases hr)) jQ
 ·refine aU (yC hx.mp) fun o ho=>?_;split
  ·exact aU (ok:=mZ B) (aZ (by intro r hr;cases hr;exact hx.mp)) jQ
  ·exact aU (ok:=mZ B) dM jQ
 ·exact aU (ok:=mZ B) dM jQ
def aq2{i:aA}{b:Bool}(hi:aI B i):Clean B P (aI B) (Instr.next i b t):=by
 have MG:Clean B P (aI B) (pure (dU #[.bool false]):Sem aA):=aZ<|.tuple<|cZ.one .bool;unfold Instr.next;split
 ·have hr:=hi.ptr;refine aU (yC hr) fun o ho=>?_;split
  ·refine gX (fun _=>?_) fun _=>MG;exact aU (FU hr trivial) fun _ _=>aZ<|.tuple<|cZ.three .bool .int .int
  ·exact MG
  ·have hm:=ho _ rfl;refine aU (yC hm) fun o' uO=>?_;split
   ·have he:oK B _:=uO;refine gX (fun _=>aU (ok:=fun _=>True) (jB<|by simp) fun _ _=>?_) fun _=>?_;all_goals
     refine aU BA fun n _=>?_
     split
     ·rename_i e hc
      have pW:aI B e.key/\aI B e.val:=by
       have:=Jt hc;simp only[Jv,WT,Array.mem_filter]at this;rcases this with h|⟨e',h,h2⟩
       ·exfalso;split at h<;>simp at h
       ·cases h2;rcases h with h|h<;>exact he _ h.1.1
      exact aU (FU hr (show mZ B (.mapIter _ _ _ _)from by intro r hr;cases hr;exact hm)) fun _ _=>aZ<|.tuple<|cZ.three .bool pW.1 pW.2
     ·exact MG
     ·exact dM
   ·exact dM
  ·exact dM
 ·exact dM
def aq3{i:aA}(hi:aI B i):Clean B P (aI B) (Instr.entry i):=by
 unfold Instr.entry;split
 ·have hr:=hi.ptr;refine aU (yC hr) fun o ho=>?_;split
  ·have hm:=ho _ rfl;split
   ·refine aU (yC hm) fun o' uO=>?_;split
    ·have he:oK B _:=uO;refine gX (fun _=>aU (ok:=fun _=>True) (jB<|by simp) fun _ _=>?_) fun _=>?_;all_goals
      split
      ·rename_i e hf
       have pW:=Array.mem_of_find?_eq_some hf
       exact aZ<|.tuple<|cZ.two (he _ pW).1 (he _ pW).2
      ·exact jB<|by simp
    ·exact dM
   ·exact dM
  ·exact dM
 ·exact dM
end au
end
