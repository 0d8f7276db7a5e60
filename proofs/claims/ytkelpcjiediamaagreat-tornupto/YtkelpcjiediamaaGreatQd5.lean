import Derived.Test.YtkelpcjiediamaaGreatQd4
import Derived.KernelRfl
import Derived.Test.YtkelpcjiediamaaGreatChecked
set_option maxRecDepth 100000
set_option maxHeartbeats 0
set_option linter.all false
namespace Go.Proofs.YtkelpcjiediamaaGreat
open Go renaming Goroutine→bF,Program→eF,TypeId→dw,Value→az,World→aj,stepG→bD
open Go.Value renaming string→dA
open Option renaming none→af,some→ae
open Go.Proofs.Tryz
section
namespace au
open Go Go.Proofs
def lst:List Nat:=[11,13,16,17,18,21,22,23,25,26,27,28,29,30,31,32,33,34,36,37,38,39,40,41,42,44,45,46,49,50,51,52,53,55,56,57,58,59,60,61,62,63,64,65,66,67,68,69,70,71,72,73,74,75,76,77,78,79,80,81,82,83,84,85,86,87,88,89,90,91,92,93,94,95,96,97,98,99,100,101,102,103,104,105,106,107,109,110,116,117,118,119,120,121,122,123,124,125,126,127,128,129,130,131,132,133,134,135,136,137,138,139,140,141,142,143,144,145,146,147,148,149,150,151,170,171,172,173,174,175,176,177,178,179,180,181,182,183,184,185,186,187,188,194,195,196,197,198,199,200,201,202,203,204,205,206,207,208,209,210,211,212,213]
def lF(f:FuncId):Bool:=lst.contains f
def arJ:(lst.all fun f=>RU prog lF f)=true:=by kernel_rfl
def arK:(prog.types.all fun i=>match i.zero with|some v=>RQ v|none=>true)=true:=by kernel_rfl
def arL:prog.globals.size=0:=by kernel_rfl
variable{B:cO}
def ahV{γ β:Type}{inv:β->Prop}{f:γ->β->Option (ForInStep β)}(hf:∀x b s,inv b->f x b=ae s->match s with| .yield b=>inv b| .done b=>inv b):∀(l:List γ) (b:β),inv b->∀r,forIn l b f=ae r->inv r
 |[],b,hb,r,h=>by simp at h;exact h▸hb
 |x::l,b,hb,r,h=>by
  rw[List.forIn_cons]at h;simp only[N9,AO]at h;obtain⟨s,h1,h2⟩:=h;have:=hf x b s hb h1;cases s with
  |done c=>simp at h2;exact h2▸this
  |yield c=>exact ahV hf l c this r h2
variable{i:TypeInfo}{v:az}{P:eF}{s:Nat->Prop}
def arM{info:dw->Option TypeInfo}(hi:∀t i v,info t=ae i->i.zero=ae v->aG B v){fs:Array Field}(h:Made.reckonStruct info fs=ae i)(hv:i.zero=ae v):aG B v:=by
 unfold Made.reckonStruct at h;simp only[N9,AO]at h;obtain⟨s,h1,h2⟩:=h;rw[<-Array.forIn_toList]at h1;have key:∀z,s.2.2.2.2.2.2.2.1=ae z->bT B z:=by
  refine ahV (inv:=fun s:Array Field×Nat×Nat×Nat×Nat×Bool×Bool×Option (Array az)×String=>∀z,s.2.2.2.2.2.2.2.1=ae z->bT B z) ?_ _ _ ?_ _ h1
  ·intro f b s' hb h;obtain⟨i',mP,h⟩:=AO.1 h;have hz:∀z,(if b.2.1+i'.size>Made.mostCells then af else b.2.2.2.2.2.2.2.1.bind fun x=>i'.zero.bind fun y=>pure<|x++y.cells)=ae z->bT B z:=by
    intro z hz;split at hz
    ·cases hz
    ·obtain⟨x,hx,hz⟩:=AO.1 hz;obtain⟨y,hy,hz⟩:=AO.1 hz;cases hz;exact bT.append (hb x hx) (hi _ _ _ mP hy).cells
   generalize(if b.2.1+i'.size>Made.mostCells then af else b.2.2.2.2.2.2.2.1.bind fun x=>i'.zero.bind fun y=>pure<|x++y.cells)=zz at h hz;generalize(if b.1.size+1<fs.size then ";" else "")=s1 at h;repeat' split at h
   all_goals first
    |(simp at h;done)
    |(simp only[AO,Option.pure_def,gu,exists_eq_left']at h
      first
       |(obtain⟨_,_,h⟩:=h;subst h;exact hz)
       |(subst h;exact hz))
  ·intro z hz;cases hz;exact bT.nil
 have:∃z,s.2.2.2.2.2.2.2.1=ae z/\v=.agg z:=by
  split at h2<;>
  ·simp only[Option.pure_def,gu]at h2;subst h2;obtain⟨z,h,rfl⟩:=zC.1 hv;exact⟨z,h,rfl⟩
 obtain⟨z,hz,rfl⟩:=this;exact .agg<|key z hz
def arN{info:dw->Option TypeInfo}(hi:∀t i v,info t=ae i->i.zero=ae v->aG B v){d:TypeDesc}(h:Made.reckon info d=ae i)(hv:i.zero=ae v):aG B v:=by
 unfold Made.reckon at h;split at h
 ·simp only[N9,AO]at h;obtain⟨j,_,h⟩:=h;split at h
  ·cases h
  ·split at h
   ·cases h
   ·obtain⟨_,_,h⟩:=AO.1 h;cases h;cases hv;exact .pointer<|by simp
  ·obtain⟨_,_,h⟩:=AO.1 h;cases h;cases hv;exact .pointer<|by simp
 ·simp only[N9,AO]at h;obtain⟨_,_,_,_,h⟩:=h;cases h;cases hv;exact .slice<|by simp
 ·simp only[N9,AO]at h;obtain⟨_,_,_,_,_,_,_,_,h⟩:=h;cases h;cases hv;exact .map<|by simp
 ·simp only[N9,AO]at h;obtain⟨_,_,_,_,h⟩:=h;cases h;cases hv;exact .chan<|by simp
 ·simp only[N9,AO]at h;obtain⟨_,_,h⟩:=h;cases h;cases hv;exact .nilFunc
 ·simp only[N9,AO]at h;obtain⟨j,hj,_,_,h⟩:=h;cases h;dsimp only at hv;split at hv
  ·cases hv
  ·split at hv
   ·cases hv;exact .agg bT.nil
   ·obtain⟨z,hz,rfl⟩:=zC.1 hv;refine .agg fun x hx=>?_;simp only[Array.mem_flatten,Oa]at hx;obtain⟨a,⟨_,rfl⟩,hx⟩:=hx;exact(hi _ _ _ hj hz).cells x hx
 ·exact arM hi h hv
 ·cases h
def ahW{T:Tables}(hT:∀(t:Nat) (i:TypeInfo) (v:az),T.types[t]? =ae i->i.zero=ae v->aG B v):∀(f t:Nat) (i:TypeInfo) (v:az),Made.infoAt T f t=ae i->i.zero=ae v->aG B v
 |0,_,_,_,h,_=>by cases h
 |f+1,t,i,v,h,hv=>by
  unfold Made.infoAt at h;split at h
  ·exact hT t i v h hv
  ·obtain⟨d,_,h⟩:=AO.1 h;exact arN (fun t i v=>ahW hT f t i v) h hv
def arO(hT:∀(t:Nat) (i:TypeInfo) (v:az),P.types[t]? =ae i->i.zero=ae v->aG B v)(t:dw)(i:TypeInfo)(v:az)(h:P.info? t=ae i)(hv:i.zero=ae v):aG B v:=by
 unfold Tables.info? at h;split at h
 ·exact hT t i v h hv
 ·exact ahW hT _ t i v h hv
def arP(ha:(P.types.all fun i=>match i.zero with|some v=>RQ v|none=>true)=true):∀t i v,P.info? t=ae i->i.zero=ae v->aG B v:=by
 refine arO fun t i v hi hv=>?_;rw[GL]at ha;obtain⟨ht,rfl⟩:=jk.1 hi;have:=ha t ht;rw[hv]at this;exact ahB this
def arQ{l:List Nat}{lb:FuncId->Bool}(hl:∀f,lb f=true->f∈l)(ha:(l.all fun f=>RU P lb f)=true):∀f,lb f=true->RU P lb f=true:=by
 intro f hf;rw[aam]at ha;exact ha f<|hl f hf
def LQ{w:Nat->Prop}(h:∀b,s b->1<=b):oC ⟨s,lF,w⟩ prog where
 zero:=arP arK
 globals:=by
  intro b hb;rw[arL];exact h b hb
 fns:=arQ (l:=lst) (fun f hf=>by simpa[lF]using hf) arJ
def uK(s:Nat->Prop):cO:=⟨s,lF,fun _=>False⟩
def Xq(h:∀b,s b->1<=b):oC (uK s) prog:=LQ h
def bJ(f s:Nat->Prop):cO:=⟨fun b=>s b\/f b,lF,s⟩
def lets{f:Nat->Prop}(h:∀b,s b\/f b->1<=b):oC (bJ f s) prog:=LQ h
end au
end
section
namespace au
open Go Go.Conc
def beyond(s:Nat->Prop)(n:Nat):Nat->Prop:=fun b=>s b\/n<=b
structure jB(s:Nat->Prop)(w:aj):Prop where
 obj:jX (uK<|beyond s w.heap.size) w
 low:∀b,s b->1<=b/\b<w.heap.size
 mG:5<=w.heap.size
variable{s f:Nat->Prop}{w:aj}
def jB.of{w':aj}(h:jB s w)(hz:w.heap.size<=w'.heap.size)(ho:jX (uK<|beyond s w'.heap.size) w'):jB s w':=
 ⟨ho,fun b hb=>⟨(h.low b hb).1,fK (h.low b hb).2 hz⟩,eG h.mG hz⟩
def jB.arR(h:jB s w){n:Nat}(hn:w.heap.size<=n):jX (uK<|beyond s n) w:=fun b o hb ho=>
 (h.obj b o (fun z=>z.elim (fun y=>hb<|.inl y) fun y=>absurd (jk.1 ho).1<|by omega) ho).mono (B:=uK<|beyond s n) (B':=uK<|beyond s w.heap.size) (fun _ z=>Or.imp id (fun y=>eG hn y) z) rfl
def jB.setCell(h:jB s w){a:Addr}{v:az}(hv:aG (uK<|beyond s w.heap.size) v):jB s (w.setCell a v):=h.of (by simp)<|by simpa using h.obj.setCell hv
def jB.setObj(h:jB s w){r:Nat}{o:Obj}(ho:∀B:cO,mF B o):jB s {w with heap:=w.heap.setIfInBounds r o}:=h.of (by simp)<|by simpa using h.obj.setObj (ho _)
def jB.iff{s':Nat->Prop}(h:jB s w)(hs:∀b,s b↔s' b):jB s' w:=(funext fun b=>propext (hs b):s=s')▸h
def jX.to{B B':cO}(hs:∀b,B.bZ b↔B'.bZ b)(hl:B'.let_=B.let_)(h:jX B' w):jX B w:=fun b o hb ho=>(h b o (fun z=>hb<|(hs b).2 z) ho).mono (fun b z=>(hs b).1 z) hl
def jB.okB(h:jB (fun b=>s b\/f b) w):oQ (bJ f s) w:=⟨jX.to (B:=(bJ f s).cut w.heap.size) (B':=uK<|beyond (fun b=>s b\/f b) w.heap.size) (fun _=>.rfl) rfl h.obj,h.low,h.mG⟩
def oQ.RZ(h:oQ (bJ f s) w):jB (fun b=>s b\/f b) w:=⟨jX.to (B:=uK<|beyond (fun b=>s b\/f b) w.heap.size) (B':=(bJ f s).cut w.heap.size) (fun _=>.rfl) rfl h.obj,h.low,h.mG⟩
end au
end
section
namespace Twin
open Go Go.Proofs Go.Conc
abbrev aN:=Nat->Prop
structure dD where
 ro:aN
 rd:aN
 le:∀b,rd b->ro b
structure bg(S:aN)(E:dD)(w w1:aj):Prop where
 tape:w1.tape=w.tape
 os:w1.os=w.os
 output:w1.output=w.output
 size:w.heap.size<=w1.heap.size
 own:∀b,S b->w1.heap[b]? =w.heap[b]?
 ro:∀b,E.ro b->w1.heap[b]? =w.heap[b]?
def bg.refl(S:aN)(E:dD)(w:aj):bg S E w w:=⟨rfl,rfl,rfl,dm _,fun _ _=>rfl,fun _ _=>rfl⟩
variable{a b:aj}{B:au.cO}
def bg.trans{S:aN}{E:dD}{c:aj}(h:bg S E a b)(k:bg S E b c):bg S E a c:=
 ⟨k.tape.trans h.tape,k.os.trans h.os,k.output.trans h.output,eG h.size k.size,fun x hx=>(k.own x hx).trans<|h.own x hx,fun x hx=>(k.ro x hx).trans<|h.ro x hx⟩
def bg.mono{S S':aN}{E E':dD}(h:bg S E a b)(hS:∀x,S' x->S x\/E.ro x)(hR:∀x,E'.ro x->S x\/E.ro x):bg S' E' a b:=
 ⟨h.tape,h.os,h.output,h.size,fun x hx=>(hS x hx).elim (h.own x)<|h.ro x,fun x hx=>(hR x hx).elim (h.own x)<|h.ro x⟩
def bg.at(S:aN)(E:dD)(w:aj)(d:Nat):bg S E w (w.at d):=⟨rfl,rfl,rfl,dm _,fun _ _=>rfl,fun _ _=>rfl⟩
def mM(S:aN)(E:dD)(e:Event):Prop:=
 match e.loc with
 | .cell x=>S x.block\/(E.rd x.block/\e.write=false)
 | .obj r=>e.sync=false/\(S r\/(E.rd r/\e.write=false))
 | .mark m=>m=.noRoom
 |_=>False
def grow(S:aN)(w w':aj):aN:=fun b=>S b\/(w.heap.size<=b/\b<w'.heap.size)
def sK{S:aN}{w w':aj}(h:w'.heap.size<=w.heap.size):grow S w w'=S:=by
 funext b;simp only[grow,eq_iff_iff,or_iff_left_iff_imp];omega
def Xr:az->Bool
 | .int _ _=>true
 | .bool _=>true
 | dA _=>true
 |_=>false
def aca:Obj->Bool
 | .cells c _ _=>c.toList.all Xr
 |_=>false
def ahX{v:az}(h:Xr v=true):au.aG B v:=by
 cases v<;>first|exact .int|exact .bool|exact .string|simp[Xr]at h
def Si{o:Obj}(h:aca o=true):au.mF B o:=by
 cases o with
 |cells c t f=>exact fun v hv=>ahX<|aam.1 h v<|amY.2 hv
 |_=>simp[aca]at h
structure je(S:aN)(E:dD)(w w':aj)(es:Array Event):Prop where
 tape:w'.tape=w.tape
 os:w'.os=w.os
 output:w'.output=w.output
 size:w.heap.size<=w'.heap.size
 still:∀b,b<w.heap.size->¬S b->w'.heap[b]? =w.heap[b]?
 evs:∀e∈es,mM (grow S w w') E e
 ok:∀s:Nat->Prop,(∀b,s b->1<=b)->(∀b,s b->¬S b/\(b<w.heap.size\/w'.heap.size<=b))->au.jX (au.uK s) w->au.jX (au.uK s) w'
def je.refl{S:aN}{E:dD}{w:aj}:je S E w w #[]:=⟨rfl,rfl,rfl,dm _,fun _ _ _=>rfl,by simp,fun _ _ _ h=>h⟩
def je.RZ{S:aN}{E:dD}{w w':aj}{es:Array Event}{s:Nat->Prop}(hG:je S E w w' es)(h:au.jB s w)(hS:∀b,S b->b<w.heap.size/\¬s b):au.jB s w':=by
 have hz:=hG.size;have h5:=h.mG;refine h.of hz<|hG.ok (au.beyond s w'.heap.size) (fun b hb=>?_) (fun b hb=>⟨fun hx=>?_,?_⟩)<|h.arR hz
 ·rcases hb with hb|hb
  ·exact(h.low b hb).1
  ·omega
 ·rcases hb with hb|hb
  ·exact(hS b hx).2 hb
  ·have:=(hS b hx).1;omega
 ·rcases hb with hb|hb
  ·exact .inl (h.low b hb).2
  ·exact .inr hb
inductive aA(P:eF)(main:Bool)(E:dD)(Stop:aN->bF->aj->Prop):aN->bF->aj->Prop where
 |stop {S g w} (h:∀w1,bg S E w w1->Stop S g w1):aA P main E Stop S g w
 |step {S g w} (hr:g.status=.running) (f:aj->bF×aj×Array Event)
   (hs:∀w1,bg S E w w1->bD P main g w1=.go (f w1).1 (f w1).2.1 (f w1).2.2/\je S E w1 (f w1).2.1 (f w1).2.2)
   (h:∀w1,bg S E w w1->aA P main E Stop (grow S w1 (f w1).2.1) (f w1).1 (f w1).2.1):aA P main E Stop S g w
section
variable{P:eF}{main:Bool}{E:dD}{Stop Stop':aN->bF->aj->Prop}{S:aN}{g:bF}{w:aj}
def aA.step1(hr:g.status=.running)(h:∀w1,bg S E w w1->∃g' w2 es,bD P main g w1=.go g' w2 es/\je S E w1 w2 es/\aA P main E Stop (grow S w1 w2) g' w2):aA P main E Stop S g w:=by
 have h':∀w1,∃x:bF×aj×Array Event,bg S E w w1->bD P main g w1=.go x.1 x.2.1 x.2.2/\je S E w1 x.2.1 x.2.2/\aA P main E Stop (grow S w1 x.2.1) x.1 x.2.1:=by
  intro w1;by_cases hk:bg S E w w1
  ·obtain⟨g',w2,es,h1,h2,h3⟩:=h w1 hk;exact⟨(g',w2,es),fun _=>⟨h1,h2,h3⟩⟩
  ·exact⟨(g,w,#[]),fun k=>absurd k hk⟩
 obtain⟨f,hf⟩:=QL h';exact .step hr f (fun w1 hk=>⟨(hf w1 hk).1,(hf w1 hk).2.1⟩) fun w1 hk=>(hf w1 hk).2.2
def aA.rely(h:aA P main E Stop S g w){w1:aj}(hk:bg S E w w1):aA P main E Stop S g w1:=by
 cases h with
 |stop h=>exact .stop fun w2 k=>h w2<|hk.trans k
 |step hr f hs h=>exact .step hr f (fun w2 k=>hs w2<|hk.trans k) fun w2 k=>h w2<|hk.trans k
def aA.trans(h:aA P main E Stop S g w)(h':∀S' g' w',Stop S' g' w'->aA P main E Stop' S' g' w'):aA P main E Stop' S g w:=by
 induction h with
 |stop h=>exact h' _ _ _<|h _<|bg.refl _ _ _
 |step hr f hs _ ih=>exact .step hr f hs ih
def aA.mono(h:aA P main E Stop S g w)(h':∀S' g' w',Stop S' g' w'->Stop' S' g' w'):aA P main E Stop' S g w:=by
 induction h with
 |stop h=>exact .stop fun w1 hk=>h' _ _ _<|h w1 hk
 |step hr f hs _ ih=>exact .step hr f hs ih
structure kz(S:aN)(E:dD)(w:aj)(S':aN)(w':aj):Prop where
 own:∀b,S b->S' b
 size:w.heap.size<=w'.heap.size
 new:∀b,S' b->S b\/(w.heap.size<=b/\b<w'.heap.size)
 tape:w'.tape=w.tape
 os:w'.os=w.os
 output:w'.output=w.output
 ro:∀b,E.ro b->b<w.heap.size->¬S b->w'.heap[b]? =w.heap[b]?
def aA.more(h:aA P main E Stop S g w):aA P main E (fun S' g' w'=>Stop S' g' w'/\kz S E w S' w') S g w:=by
 induction h with
 |stop h=>exact .stop fun w1 hk=>⟨h w1 hk,fun _ h=>h,hk.size,fun _ h=>.inl h,hk.tape,hk.os,hk.output,fun b hb _ _=>hk.ro b hb⟩
 | @step S g w hr f hs _ ih=>
   refine .step hr f hs fun w1 hk=>(ih w1 hk).mono ?_;obtain⟨_,hG⟩:=hs w1 hk;have hz:=hk.size;have Gl:=hG.size;rintro S' g' w' ⟨h1,h2,h3,h4,h5,h6,h7,h8⟩;refine⟨h1,fun b hb=>h2 b<|.inl hb,by omega,fun b hb=>?_,h5.trans<|hG.tape.trans hk.tape,h6.trans<|hG.os.trans hk.os,h7.trans<|hG.output.trans hk.output,fun b hb aI hS=>?_⟩
   ·rcases h4 b hb with(h|h)|h
    ·exact .inl h
    ·exact .inr ⟨by omega,by omega⟩
    ·exact .inr ⟨by omega,h.2⟩
   ·rw[h8 b hb (by omega) (fun h=>h.elim hS fun h=>by omega),hG.still b (by omega) hS,hk.ro b hb]
def aA.ctl(hr:g.status=.running){g':bF}(h:∀w1,bD P main g w1=.go g' w1 #[])(k:aA P main E Stop S g' w):aA P main E Stop S g w:=
 .step1 hr fun w1 hk=>⟨g',w1,#[],h w1,je.refl,by rw[sK<|dm _];exact k.rely hk⟩
end
variable{E:dD}
end Twin
end
end Go.Proofs.YtkelpcjiediamaaGreat
