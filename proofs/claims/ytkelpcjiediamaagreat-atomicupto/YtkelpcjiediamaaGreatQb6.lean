import Derived.Test.YtkelpcjiediamaaGreatQb4
import Derived.KernelRfl
import Derived.Test.YtkelpcjiediamaaGreatChecked
set_option maxRecDepth 100000
set_option maxHeartbeats 0
set_option linter.all false
namespace Go.Proofs.YtkelpcjiediamaaGreat
open Go renaming Goroutine→aX,Program→dO,TypeId→bW,Value→aj,World→ah,stepG→aW
open Option renaming none→af,some→ae
open Go.Proofs.Tryz
section
namespace ai
open Go Go.Proofs
def lst:List Nat:=[11,13,16,17,18,21,22,23,25,26,27,28,29,30,31,32,33,34,36,37,38,39,40,41,42,44,45,46,49,50,51,52,53,55,56,57,58,59,60,61,62,63,64,65,66,67,68,69,70,71,72,73,74,75,76,77,78,79,80,81,82,83,84,85,86,87,88,89,90,91,92,93,94,95,96,97,98,99,100,101,102,103,104,105,106,107,109,110,116,117,118,119,120,121,122,123,124,125,126,127,128,129,130,131,132,133,134,135,136,137,138,139,140,141,142,143,144,145,146,147,148,149,150,151,170,171,172,173,174,175,176,177,178,179,180,181,182,183,184,185,186,187,188,194,195,196,197,198,199,200,201,202,203,204,205,206,207,208,209,210,211,212,213]
def mZ(f:FuncId):Bool:=lst.contains f
def apZ:(lst.all fun f=>QC prog mZ f)=true:=by kernel_rfl
def ap0:(prog.types.all fun i=>match i.zero with|some v=>QA v|none=>true)=true:=by kernel_rfl
def ap1:prog.globals.size=0:=by kernel_rfl
variable{B:bP}
def agp{γ β:Type}{inv:β->Prop}{f:γ->β->Option (ForInStep β)}(hf:∀x b s,inv b->f x b=ae s->match s with| .yield b=>inv b| .done b=>inv b):∀(l:List γ) (b:β),inv b->∀r,forIn l b f=ae r->inv r
 |[],b,hb,r,h=>by simp at h;exact h▸hb
 |x::l,b,hb,r,h=>by
  rw[List.forIn_cons]at h;simp only[MP,zI]at h;obtain⟨s,h1,h2⟩:=h;have:=hf x b s hb h1;cases s with
  |done c=>simp at h2;exact h2▸this
  |yield c=>exact agp hf l c this r h2
variable{i:TypeInfo}{v:aj}{P:dO}{s:Nat->Prop}
def ap2{info:bW->Option TypeInfo}(hi:∀t i v,info t=ae i->i.zero=ae v->az B v){fs:Array Field}(h:Made.reckonStruct info fs=ae i)(hv:i.zero=ae v):az B v:=by
 unfold Made.reckonStruct at h;simp only[MP,zI]at h;obtain⟨s,h1,h2⟩:=h;rw[<-Array.forIn_toList]at h1;have key:∀z,s.2.2.2.2.2.2.2.1=ae z->bG B z:=by
  refine agp (inv:=fun s:Array Field×Nat×Nat×Nat×Nat×Bool×Bool×Option (Array aj)×String=>∀z,s.2.2.2.2.2.2.2.1=ae z->bG B z) ?_ _ _ ?_ _ h1
  ·intro f b s' hb h;obtain⟨i',lW,h⟩:=zI.1 h;have hz:∀z,(if b.2.1+i'.size>Made.mostCells then af else b.2.2.2.2.2.2.2.1.bind fun x=>i'.zero.bind fun y=>pure<|x++y.cells)=ae z->bG B z:=by
    intro z hz;split at hz
    ·cases hz
    ·obtain⟨x,hx,hz⟩:=zI.1 hz;obtain⟨y,hy,hz⟩:=zI.1 hz;cases hz;exact bG.append (hb x hx) (hi _ _ _ lW hy).cells
   generalize(if b.2.1+i'.size>Made.mostCells then af else b.2.2.2.2.2.2.2.1.bind fun x=>i'.zero.bind fun y=>pure<|x++y.cells)=zz at h hz;generalize(if b.1.size+1<fs.size then ";" else "")=s1 at h;repeat' split at h
   all_goals first
    |(simp at h;done)
    |(simp only[zI,Option.pure_def,fJ,exists_eq_left']at h
      first
       |(obtain⟨_,_,h⟩:=h;subst h;exact hz)
       |(subst h;exact hz))
  ·intro z hz;cases hz;exact bG.nil
 have:∃z,s.2.2.2.2.2.2.2.1=ae z/\v=.agg z:=by
  split at h2<;>
  ·simp only[Option.pure_def,fJ]at h2;subst h2;obtain⟨z,h,rfl⟩:=yI.1 hv;exact⟨z,h,rfl⟩
 obtain⟨z,hz,rfl⟩:=this;exact .agg<|key z hz
def ap3{info:bW->Option TypeInfo}(hi:∀t i v,info t=ae i->i.zero=ae v->az B v){d:TypeDesc}(h:Made.reckon info d=ae i)(hv:i.zero=ae v):az B v:=by
 unfold Made.reckon at h;split at h
 ·simp only[MP,zI]at h;obtain⟨j,_,h⟩:=h;split at h
  ·cases h
  ·split at h
   ·cases h
   ·obtain⟨_,_,h⟩:=zI.1 h;cases h;cases hv;exact .pointer<|by simp
  ·obtain⟨_,_,h⟩:=zI.1 h;cases h;cases hv;exact .pointer<|by simp
 ·simp only[MP,zI]at h;obtain⟨_,_,_,_,h⟩:=h;cases h;cases hv;exact .slice<|by simp
 ·simp only[MP,zI]at h;obtain⟨_,_,_,_,_,_,_,_,h⟩:=h;cases h;cases hv;exact .map<|by simp
 ·simp only[MP,zI]at h;obtain⟨_,_,_,_,h⟩:=h;cases h;cases hv;exact .chan<|by simp
 ·simp only[MP,zI]at h;obtain⟨_,_,h⟩:=h;cases h;cases hv;exact .nilFunc
 ·simp only[MP,zI]at h;obtain⟨j,hj,_,_,h⟩:=h;cases h;dsimp only at hv;split at hv
  ·cases hv
  ·split at hv
   ·cases hv;exact .agg bG.nil
   ·obtain⟨z,hz,rfl⟩:=yI.1 hv;refine .agg fun x hx=>?_;simp only[Array.mem_flatten,MQ]at hx;obtain⟨a,⟨_,rfl⟩,hx⟩:=hx;exact(hi _ _ _ hj hz).cells x hx
 ·exact ap2 hi h hv
 ·cases h
def agq{T:Tables}(hT:∀(t:Nat) (i:TypeInfo) (v:aj),T.types[t]? =ae i->i.zero=ae v->az B v):∀(f t:Nat) (i:TypeInfo) (v:aj),Made.infoAt T f t=ae i->i.zero=ae v->az B v
 |0,_,_,_,h,_=>by cases h
 |f+1,t,i,v,h,hv=>by
  unfold Made.infoAt at h;split at h
  ·exact hT t i v h hv
  ·obtain⟨d,_,h⟩:=zI.1 h;exact ap3 (fun t i v=>agq hT f t i v) h hv
def ap4(hT:∀(t:Nat) (i:TypeInfo) (v:aj),P.types[t]? =ae i->i.zero=ae v->az B v)(t:bW)(i:TypeInfo)(v:aj)(h:P.info? t=ae i)(hv:i.zero=ae v):az B v:=by
 unfold Tables.info? at h;split at h
 ·exact hT t i v h hv
 ·exact agq hT _ t i v h hv
def ap5(ha:(P.types.all fun i=>match i.zero with|some v=>QA v|none=>true)=true):∀t i v,P.info? t=ae i->i.zero=ae v->az B v:=by
 refine ap4 fun t i v hi hv=>?_;rw[Fz]at ha;obtain⟨ht,rfl⟩:=iU.1 hi;have:=ha t ht;rw[hv]at this;exact af2 this
def ap6{l:List Nat}{lb:FuncId->Bool}(hl:∀f,lb f=true->f∈l)(ha:(l.all fun f=>QC P lb f)=true):∀f,lb f=true->QC P lb f=true:=by
 intro f hf;rw[YK]at ha;exact ha f<|hl f hf
def Ky{w:Nat->Prop}(h:∀b,s b->1<=b):nI ⟨s,mZ,w⟩ prog where
 zero:=ap5 ap0
 globals:=by
  intro b hb;rw[ap1];exact h b hb
 fns:=ap6 (l:=lst) (fun f hf=>by simpa[mZ]using hf) apZ
def uh(s:Nat->Prop):bP:=⟨s,mZ,fun _=>False⟩
def VU(h:∀b,s b->1<=b):nI (uh s) prog:=Ky h
def bz(f s:Nat->Prop):bP:=⟨fun b=>s b\/f b,mZ,s⟩
def lets{f:Nat->Prop}(h:∀b,s b\/f b->1<=b):nI (bz f s) prog:=Ky h
end ai
end
section
namespace ai
open Go Go.Conc
def beyond(s:Nat->Prop)(n:Nat):Nat->Prop:=fun b=>s b\/n<=b
structure iZ(s:Nat->Prop)(w:ah):Prop where
 obj:jG (uh<|beyond s w.heap.size) w
 low:∀b,s b->1<=b/\b<w.heap.size
 lQ:5<=w.heap.size
variable{s f:Nat->Prop}{w:ah}
def iZ.of{w':ah}(h:iZ s w)(hz:w.heap.size<=w'.heap.size)(ho:jG (uh<|beyond s w'.heap.size) w'):iZ s w':=
 ⟨ho,fun b hb=>⟨(h.low b hb).1,dY (h.low b hb).2 hz⟩,dP h.lQ hz⟩
def iZ.ap7(h:iZ s w){n:Nat}(hn:w.heap.size<=n):jG (uh<|beyond s n) w:=fun b o hb ho=>
 (h.obj b o (fun z=>z.elim (fun y=>hb<|.inl y) fun y=>absurd (iU.1 ho).1<|by omega) ho).mono (B:=uh<|beyond s n) (B':=uh<|beyond s w.heap.size) (fun _ z=>Or.imp id (fun y=>dP hn y) z) rfl
def iZ.setCell(h:iZ s w){a:Addr}{v:aj}(hv:az (uh<|beyond s w.heap.size) v):iZ s (w.setCell a v):=h.of (by simp)<|by simpa using h.obj.setCell hv
def iZ.setObj(h:iZ s w){r:Nat}{o:Obj}(ho:∀B:bP,lN B o):iZ s {w with heap:=w.heap.setIfInBounds r o}:=h.of (by simp)<|by simpa using h.obj.setObj (ho _)
def iZ.iff{s':Nat->Prop}(h:iZ s w)(hs:∀b,s b↔s' b):iZ s' w:=(funext fun b=>propext (hs b):s=s')▸h
def jG.to{B B':bP}(hs:∀b,B.bK b↔B'.bK b)(hl:B'.let_=B.let_)(h:jG B' w):jG B w:=fun b o hb ho=>(h b o (fun z=>hb<|(hs b).2 z) ho).mono (fun b z=>(hs b).1 z) hl
def iZ.okB(h:iZ (fun b=>s b\/f b) w):oq (bz f s) w:=⟨jG.to (B:=(bz f s).cut w.heap.size) (B':=uh<|beyond (fun b=>s b\/f b) w.heap.size) (fun _=>.rfl) rfl h.obj,h.low,h.lQ⟩
def oq.QH(h:oq (bz f s) w):iZ (fun b=>s b\/f b) w:=⟨jG.to (B:=uh<|beyond (fun b=>s b\/f b) w.heap.size) (B':=(bz f s).cut w.heap.size) (fun _=>.rfl) rfl h.obj,h.low,h.lQ⟩
end ai
end
section
namespace Twin
open Go Go.Proofs Go.Conc
abbrev aC:=Nat->Prop
structure cO where
 ro:aC
 rd:aC
 le:∀b,rd b->ro b
structure aQ(S:aC)(E:cO)(w w1:ah):Prop where
 tape:w1.tape=w.tape
 os:w1.os=w.os
 output:w1.output=w.output
 size:w.heap.size<=w1.heap.size
 own:∀b,S b->w1.heap[b]? =w.heap[b]?
 ro:∀b,E.ro b->w1.heap[b]? =w.heap[b]?
def aQ.refl(S:aC)(E:cO)(w:ah):aQ S E w w:=⟨rfl,rfl,rfl,bV _,fun _ _=>rfl,fun _ _=>rfl⟩
variable{a b:ah}{B:ai.bP}
def aQ.trans{S:aC}{E:cO}{c:ah}(h:aQ S E a b)(k:aQ S E b c):aQ S E a c:=
 ⟨k.tape.trans h.tape,k.os.trans h.os,k.output.trans h.output,dP h.size k.size,fun x hx=>(k.own x hx).trans<|h.own x hx,fun x hx=>(k.ro x hx).trans<|h.ro x hx⟩
def aQ.mono{S S':aC}{E E':cO}(h:aQ S E a b)(hS:∀x,S' x->S x\/E.ro x)(hR:∀x,E'.ro x->S x\/E.ro x):aQ S' E' a b:=
 ⟨h.tape,h.os,h.output,h.size,fun x hx=>(hS x hx).elim (h.own x)<|h.ro x,fun x hx=>(hR x hx).elim (h.own x)<|h.ro x⟩
def aQ.at(S:aC)(E:cO)(w:ah)(d:Nat):aQ S E w (w.at d):=⟨rfl,rfl,rfl,bV _,fun _ _=>rfl,fun _ _=>rfl⟩
def lT(S:aC)(E:cO)(e:Event):Prop:=
 match e.loc with
 | .cell x=>S x.block\/(E.rd x.block/\e.write=false)
 | .obj r=>e.sync=false/\(S r\/(E.rd r/\e.write=false))
 | .mark m=>m=.noRoom
 |_=>False
def grow(S:aC)(w w':ah):aC:=fun b=>S b\/(w.heap.size<=b/\b<w'.heap.size)
def rD{S:aC}{w w':ah}(h:w'.heap.size<=w.heap.size):grow S w w'=S:=by
 funext b;simp only[grow,eq_iff_iff,or_iff_left_iff_imp];omega
def VV:aj->Bool
 | .int _ _=>true
 | .bool _=>true
 | .string _=>true
 |_=>false
def aaI:Obj->Bool
 | .cells c _ _=>c.toList.all VV
 |_=>false
def agr{v:aj}(h:VV v=true):ai.az B v:=by
 cases v<;>first|exact .int|exact .bool|exact .string|simp[VV]at h
def QI{o:Obj}(h:aaI o=true):ai.lN B o:=by
 cases o with
 |cells c t f=>exact fun v hv=>agr<|YK.1 h v<|alf.2 hv
 |_=>simp[aaI]at h
structure iO(S:aC)(E:cO)(w w':ah)(es:Array Event):Prop where
 tape:w'.tape=w.tape
 os:w'.os=w.os
 output:w'.output=w.output
 size:w.heap.size<=w'.heap.size
 still:∀b,b<w.heap.size->¬S b->w'.heap[b]? =w.heap[b]?
 evs:∀e∈es,lT (grow S w w') E e
 ok:∀s:Nat->Prop,(∀b,s b->1<=b)->(∀b,s b->¬S b/\(b<w.heap.size\/w'.heap.size<=b))->ai.jG (ai.uh s) w->ai.jG (ai.uh s) w'
def iO.refl{S:aC}{E:cO}{w:ah}:iO S E w w #[]:=⟨rfl,rfl,rfl,bV _,fun _ _ _=>rfl,by simp,fun _ _ _ h=>h⟩
def iO.QH{S:aC}{E:cO}{w w':ah}{es:Array Event}{s:Nat->Prop}(hG:iO S E w w' es)(h:ai.iZ s w)(hS:∀b,S b->b<w.heap.size/\¬s b):ai.iZ s w':=by
 have hz:=hG.size;have h5:=h.lQ;refine h.of hz<|hG.ok (ai.beyond s w'.heap.size) (fun b hb=>?_) (fun b hb=>⟨fun hx=>?_,?_⟩)<|h.ap7 hz
 ·rcases hb with hb|hb
  ·exact(h.low b hb).1
  ·omega
 ·rcases hb with hb|hb
  ·exact(hS b hx).2 hb
  ·have:=(hS b hx).1;omega
 ·rcases hb with hb|hb
  ·exact .inl (h.low b hb).2
  ·exact .inr hb
inductive au(P:dO)(main:Bool)(E:cO)(Stop:aC->aX->ah->Prop):aC->aX->ah->Prop where
 |stop {S g w} (h:∀w1,aQ S E w w1->Stop S g w1):au P main E Stop S g w
 |step {S g w} (hr:g.status=.running) (f:ah->aX×ah×Array Event)
   (hs:∀w1,aQ S E w w1->aW P main g w1=.go (f w1).1 (f w1).2.1 (f w1).2.2/\iO S E w1 (f w1).2.1 (f w1).2.2)
   (h:∀w1,aQ S E w w1->au P main E Stop (grow S w1 (f w1).2.1) (f w1).1 (f w1).2.1):au P main E Stop S g w
section
variable{P:dO}{main:Bool}{E:cO}{Stop Stop':aC->aX->ah->Prop}{S:aC}{g:aX}{w:ah}
def au.step1(hr:g.status=.running)(h:∀w1,aQ S E w w1->∃g' w2 es,aW P main g w1=.go g' w2 es/\iO S E w1 w2 es/\au P main E Stop (grow S w1 w2) g' w2):au P main E Stop S g w:=by
 have h':∀w1,∃x:aX×ah×Array Event,aQ S E w w1->aW P main g w1=.go x.1 x.2.1 x.2.2/\iO S E w1 x.2.1 x.2.2/\au P main E Stop (grow S w1 x.2.1) x.1 x.2.1:=by
  intro w1;by_cases hk:aQ S E w w1
  ·obtain⟨g',w2,es,h1,h2,h3⟩:=h w1 hk;exact⟨(g',w2,es),fun _=>⟨h1,h2,h3⟩⟩
  ·exact⟨(g,w,#[]),fun k=>absurd k hk⟩
 obtain⟨f,hf⟩:=PD h';exact .step hr f (fun w1 hk=>⟨(hf w1 hk).1,(hf w1 hk).2.1⟩) fun w1 hk=>(hf w1 hk).2.2
def au.rely(h:au P main E Stop S g w){w1:ah}(hk:aQ S E w w1):au P main E Stop S g w1:=by
 cases h with
 |stop h=>exact .stop fun w2 k=>h w2<|hk.trans k
 |step hr f hs h=>exact .step hr f (fun w2 k=>hs w2<|hk.trans k) fun w2 k=>h w2<|hk.trans k
def au.trans(h:au P main E Stop S g w)(h':∀S' g' w',Stop S' g' w'->au P main E Stop' S' g' w'):au P main E Stop' S g w:=by
 induction h with
 |stop h=>exact h' _ _ _<|h _<|aQ.refl _ _ _
 |step hr f hs _ ih=>exact .step hr f hs ih
def au.mono(h:au P main E Stop S g w)(h':∀S' g' w',Stop S' g' w'->Stop' S' g' w'):au P main E Stop' S g w:=by
 induction h with
 |stop h=>exact .stop fun w1 hk=>h' _ _ _<|h w1 hk
 |step hr f hs _ ih=>exact .step hr f hs ih
structure jL(S:aC)(E:cO)(w:ah)(S':aC)(w':ah):Prop where
 own:∀b,S b->S' b
 size:w.heap.size<=w'.heap.size
 new:∀b,S' b->S b\/(w.heap.size<=b/\b<w'.heap.size)
 tape:w'.tape=w.tape
 os:w'.os=w.os
 output:w'.output=w.output
 ro:∀b,E.ro b->b<w.heap.size->¬S b->w'.heap[b]? =w.heap[b]?
def au.more(h:au P main E Stop S g w):au P main E (fun S' g' w'=>Stop S' g' w'/\jL S E w S' w') S g w:=by
 induction h with
 |stop h=>exact .stop fun w1 hk=>⟨h w1 hk,fun _ h=>h,hk.size,fun _ h=>.inl h,hk.tape,hk.os,hk.output,fun b hb _ _=>hk.ro b hb⟩
 | @step S g w hr f hs _ ih=>
   refine .step hr f hs fun w1 hk=>(ih w1 hk).mono ?_;obtain⟨_,hG⟩:=hs w1 hk;have hz:=hk.size;have EX:=hG.size;rintro S' g' w' ⟨h1,h2,h3,h4,h5,h6,h7,h8⟩;refine⟨h1,fun b hb=>h2 b<|.inl hb,by omega,fun b hb=>?_,h5.trans<|hG.tape.trans hk.tape,h6.trans<|hG.os.trans hk.os,h7.trans<|hG.output.trans hk.output,fun b hb aB hS=>?_⟩
   ·rcases h4 b hb with(h|h)|h
    ·exact .inl h
    ·exact .inr ⟨by omega,by omega⟩
    ·exact .inr ⟨by omega,h.2⟩
   ·rw[h8 b hb (by omega) (fun h=>h.elim hS fun h=>by omega),hG.still b (by omega) hS,hk.ro b hb]
def au.ctl(hr:g.status=.running){g':aX}(h:∀w1,aW P main g w1=.go g' w1 #[])(k:au P main E Stop S g' w):au P main E Stop S g w:=
 .step1 hr fun w1 hk=>⟨g',w1,#[],h w1,iO.refl,by rw[rD<|bV _];exact k.rely hk⟩
end
variable{E:cO}
end Twin
end
end Go.Proofs.YtkelpcjiediamaaGreat
