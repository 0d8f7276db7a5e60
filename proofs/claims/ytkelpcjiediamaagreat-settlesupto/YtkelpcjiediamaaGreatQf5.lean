import Derived.Test.YtkelpcjiediamaaGreatQf4
import Derived.KernelRfl
import Derived.Test.YtkelpcjiediamaaGreatChecked
set_option maxRecDepth 100000
set_option maxHeartbeats 0
set_option linter.all false
namespace Go.Proofs.YtkelpcjiediamaaGreat
open Go renaming FuncId→ji,Goroutine→bM,Program→fJ,TypeId→dJ,Value→aA,World→ay,stepG→bK
open Go.Value renaming string→dK
open Go.World renaming setCell→aX
open Option renaming none→af,some→ae
open Go.Proofs.Tryz
section
namespace au
open Go Go.Proofs
def lst:List Nat:=[11,13,16,17,18,21,22,23,25,26,27,28,29,30,31,32,33,34,36,37,38,39,40,41,42,44,45,46,49,50,51,52,53,55,56,57,58,59,60,61,62,63,64,65,66,67,68,69,70,71,72,73,74,75,76,77,78,79,80,81,82,83,84,85,86,87,88,89,90,91,92,93,94,95,96,97,98,99,100,101,102,103,104,105,106,107,109,110,116,117,118,119,120,121,122,123,124,125,126,127,128,129,130,131,132,133,134,135,136,137,138,139,140,141,142,143,144,145,146,147,148,149,150,151,170,171,172,173,174,175,176,177,178,179,180,181,182,183,184,185,186,187,188,194,195,196,197,198,199,200,201,202,203,204,205,206,207,208,209,210,211,212,213]
def kN(f:ji):Bool:=lst.contains f
def asn:(lst.all fun f=>Tm prog kN f)=true:=by kernel_rfl
def aso:(prog.types.all fun i=>match i.zero with|some v=>Ti v|none=>true)=true:=by kernel_rfl
def asq:prog.globals.size=0:=by kernel_rfl
variable{B:dE}
def aiv{γ β:Type}{inv:β->Prop}{f:γ->β->Option (ForInStep β)}(hf:∀x b s,inv b->f x b=ae s->match s with| .yield b=>inv b| .done b=>inv b):∀(l:List γ) (b:β),inv b->∀r,forIn l b f=ae r->inv r
 |[],b,hb,r,h=>by simp at h;exact h▸hb
 |x::l,b,hb,r,h=>by
  rw[List.forIn_cons]at h;simp only[OJ,Bh]at h;obtain⟨s,h1,h2⟩:=h;have:=hf x b s hb h1;cases s with
  |done c=>simp at h2;exact h2▸this
  |yield c=>exact aiv hf l c this r h2
variable{i:TypeInfo}{v:aA}{P:fJ}{s:Nat->Prop}
def asr{info:dJ->Option TypeInfo}(hi:∀t i v,info t=ae i->i.zero=ae v->aI B v){fs:Array Field}(h:Made.reckonStruct info fs=ae i)(hv:i.zero=ae v):aI B v:=by
 unfold Made.reckonStruct at h;simp only[OJ,Bh]at h;obtain⟨s,h1,h2⟩:=h;rw[<-Array.forIn_toList]at h1;have key:∀z,s.2.2.2.2.2.2.2.1=ae z->cZ B z:=by
  refine aiv (inv:=fun s:Array Field×Nat×Nat×Nat×Nat×Bool×Bool×Option (Array aA)×String=>∀z,s.2.2.2.2.2.2.2.1=ae z->cZ B z) ?_ _ _ ?_ _ h1
  ·intro f b s' hb h;obtain⟨i',nI,h⟩:=Bh.1 h;have hz:∀z,(if b.2.1+i'.size>Made.mostCells then af else b.2.2.2.2.2.2.2.1.bind fun x=>i'.zero.bind fun y=>pure<|x++y.cells)=ae z->cZ B z:=by
    intro z hz;split at hz
    ·cases hz
    ·obtain⟨x,hx,hz⟩:=Bh.1 hz;obtain⟨y,hy,hz⟩:=Bh.1 hz;cases hz;exact cZ.append (hb x hx) (hi _ _ _ nI hy).cells
   generalize(if b.2.1+i'.size>Made.mostCells then af else b.2.2.2.2.2.2.2.1.bind fun x=>i'.zero.bind fun y=>pure<|x++y.cells)=zz at h hz;generalize(if b.1.size+1<fs.size then ";" else "")=s1 at h;repeat' split at h
   all_goals first
    |(simp at h;done)
    |(simp only[Bh,Option.pure_def,gU,exists_eq_left']at h
      first
       |(obtain⟨_,_,h⟩:=h;subst h;exact hz)
       |(subst h;exact hz))
  ·intro z hz;cases hz;exact cZ.nil
 have:∃z,s.2.2.2.2.2.2.2.1=ae z/\v=.agg z:=by
  split at h2<;>
  ·simp only[Option.pure_def,gU]at h2;subst h2;obtain⟨z,h,rfl⟩:=zY.1 hv;exact⟨z,h,rfl⟩
 obtain⟨z,hz,rfl⟩:=this;exact .agg<|key z hz
def ass{info:dJ->Option TypeInfo}(hi:∀t i v,info t=ae i->i.zero=ae v->aI B v){d:TypeDesc}(h:Made.reckon info d=ae i)(hv:i.zero=ae v):aI B v:=by
 unfold Made.reckon at h;split at h
 ·simp only[OJ,Bh]at h;obtain⟨j,_,h⟩:=h;split at h
  ·cases h
  ·split at h
   ·cases h
   ·obtain⟨_,_,h⟩:=Bh.1 h;cases h;cases hv;exact .pointer<|by simp
  ·obtain⟨_,_,h⟩:=Bh.1 h;cases h;cases hv;exact .pointer<|by simp
 ·simp only[OJ,Bh]at h;obtain⟨_,_,_,_,h⟩:=h;cases h;cases hv;exact .slice<|by simp
 ·simp only[OJ,Bh]at h;obtain⟨_,_,_,_,_,_,_,_,h⟩:=h;cases h;cases hv;exact .map<|by simp
 ·simp only[OJ,Bh]at h;obtain⟨_,_,_,_,h⟩:=h;cases h;cases hv;exact .chan<|by simp
 ·simp only[OJ,Bh]at h;obtain⟨_,_,h⟩:=h;cases h;cases hv;exact .nilFunc
 ·simp only[OJ,Bh]at h;obtain⟨j,hj,_,_,h⟩:=h;cases h;dsimp only at hv;split at hv
  ·cases hv
  ·split at hv
   ·cases hv;exact .agg cZ.nil
   ·obtain⟨z,hz,rfl⟩:=zY.1 hv;refine .agg fun x hx=>?_;simp only[Array.mem_flatten,Lu]at hx;obtain⟨a,⟨_,rfl⟩,hx⟩:=hx;exact(hi _ _ _ hj hz).cells x hx
 ·exact asr hi h hv
 ·cases h
def aiw{T:Tables}(hT:∀(t:Nat) (i:TypeInfo) (v:aA),T.types[t]? =ae i->i.zero=ae v->aI B v):∀(f t:Nat) (i:TypeInfo) (v:aA),Made.infoAt T f t=ae i->i.zero=ae v->aI B v
 |0,_,_,_,h,_=>by cases h
 |f+1,t,i,v,h,hv=>by
  unfold Made.infoAt at h;split at h
  ·exact hT t i v h hv
  ·obtain⟨d,_,h⟩:=Bh.1 h;exact ass (fun t i v=>aiw hT f t i v) h hv
def ast(hT:∀(t:Nat) (i:TypeInfo) (v:aA),P.types[t]? =ae i->i.zero=ae v->aI B v)(t:dJ)(i:TypeInfo)(v:aA)(h:P.info? t=ae i)(hv:i.zero=ae v):aI B v:=by
 unfold Tables.info? at h;split at h
 ·exact hT t i v h hv
 ·exact aiw hT _ t i v h hv
def asu(ha:(P.types.all fun i=>match i.zero with|some v=>Ti v|none=>true)=true):∀t i v,P.info? t=ae i->i.zero=ae v->aI B v:=by
 refine ast fun t i v hi hv=>?_;rw[Hm]at ha;obtain⟨ht,rfl⟩:=jF.1 hi;have:=ha t ht;rw[hv]at this;exact aib this
def asv{l:List Nat}{lb:ji->Bool}(hl:∀f,lb f=true->f∈l)(ha:(l.all fun f=>Tm P lb f)=true):∀f,lb f=true->Tm P lb f=true:=by
 intro f hf;rw[aaJ]at ha;exact ha f<|hl f hf
def ML{w:Nat->Prop}(h:∀b,s b->1<=b):oQ ⟨s,kN,w⟩ prog where
 zero:=asu aso
 globals:=by
  intro b hb;rw[asq];exact h b hb
 fns:=asv (l:=lst) (fun f hf=>by simpa[kN]using hf) asn
def vH(s:Nat->Prop):dE:=⟨s,kN,fun _=>False⟩
def X7(h:∀b,s b->1<=b):oQ (vH s) prog:=ML h
def bP(f s:Nat->Prop):dE:=⟨fun b=>s b\/f b,kN,s⟩
def lets{f:Nat->Prop}(h:∀b,s b\/f b->1<=b):oQ (bP f s) prog:=ML h
end au
end
section
namespace au
open Go Go.Conc
def beyond(s:Nat->Prop)(n:Nat):Nat->Prop:=fun b=>s b\/n<=b
structure jK(s:Nat->Prop)(w:ay):Prop where
 obj:kD (vH<|beyond s w.heap.size) w
 low:∀b,s b->1<=b/\b<w.heap.size
 ng:5<=w.heap.size
variable{s f:Nat->Prop}{w:ay}
def jK.of{w':ay}(h:jK s w)(hz:w.heap.size<=w'.heap.size)(ho:kD (vH<|beyond s w'.heap.size) w'):jK s w':=
 ⟨ho,fun b hb=>⟨(h.low b hb).1,gu (h.low b hb).2 hz⟩,fG h.ng hz⟩
def jK.asw(h:jK s w){n:Nat}(hn:w.heap.size<=n):kD (vH<|beyond s n) w:=fun b o hb ho=>
 (h.obj b o (fun z=>z.e (fun y=>hb<|.inl y) fun y=>absurd (jF.1 ho).1<|by omega) ho).z (B:=vH<|beyond s n) (B':=vH<|beyond s w.heap.size) (fun _ z=>Or.imp id (fun y=>fG hn y) z) rfl
def jK.setCell(h:jK s w){a:Addr}{v:aA}(hv:aI (vH<|beyond s w.heap.size) v):jK s (aX w a v):=h.of (by simp)<|by simpa using h.obj.setCell hv
def jK.setObj(h:jK s w){r:Nat}{o:Obj}(ho:∀B:dE,mZ B o):jK s {w with heap:=w.heap.setIfInBounds r o}:=h.of (by simp)<|by simpa using h.obj.setObj (ho _)
def jK.iff{s':Nat->Prop}(h:jK s w)(hs:∀b,s b↔s' b):jK s' w:=(funext fun b=>propext (hs b):s=s')▸h
def kD.to{B B':dE}(hs:∀b,B.dB b↔B'.dB b)(hl:B'.let_=B.let_)(h:kD B' w):kD B w:=fun b o hb ho=>(h b o (fun z=>hb<|(hs b).2 z) ho).z (fun b z=>(hs b).1 z) hl
def jK.okB(h:jK (fun b=>s b\/f b) w):pI (bP f s) w:=⟨kD.to (B:=(bP f s).cut w.heap.size) (B':=vH<|beyond (fun b=>s b\/f b) w.heap.size) (fun _=>.rfl) rfl h.obj,h.low,h.ng⟩
def pI.Tv(h:pI (bP f s) w):jK (fun b=>s b\/f b) w:=⟨kD.to (B:=vH<|beyond (fun b=>s b\/f b) w.heap.size) (B':=(bP f s).cut w.heap.size) (fun _=>.rfl) rfl h.obj,h.low,h.ng⟩
end au
end
section
namespace Twin
open Go Go.Proofs Go.Conc
abbrev aO:=Nat->Prop
structure dL where
 ro:aO
 rd:aO
 le:∀b,rd b->ro b
structure bu(S:aO)(E:dL)(w w1:ay):Prop where
 tape:w1.tape=w.tape
 os:w1.os=w.os
 output:w1.output=w.output
 size:w.heap.size<=w1.heap.size
 own:∀b,S b->w1.heap[b]? =w.heap[b]?
 ro:∀b,E.ro b->w1.heap[b]? =w.heap[b]?
def bu.refl(S:aO)(E:dL)(w:ay):bu S E w w:=⟨rfl,rfl,rfl,dI _,fun _ _=>rfl,fun _ _=>rfl⟩
variable{a b:ay}{B:au.dE}
def bu.t{S:aO}{E:dL}{c:ay}(h:bu S E a b)(k:bu S E b c):bu S E a c:=
 ⟨k.tape.t h.tape,k.os.t h.os,k.output.t h.output,fG h.size k.size,fun x hx=>(k.own x hx).t<|h.own x hx,fun x hx=>(k.ro x hx).t<|h.ro x hx⟩
def bu.z{S S':aO}{E E':dL}(h:bu S E a b)(hS:∀x,S' x->S x\/E.ro x)(hR:∀x,E'.ro x->S x\/E.ro x):bu S' E' a b:=
 ⟨h.tape,h.os,h.output,h.size,fun x hx=>(hS x hx).e (h.own x)<|h.ro x,fun x hx=>(hR x hx).e (h.own x)<|h.ro x⟩
def bu.at(S:aO)(E:dL)(w:ay)(d:Nat):bu S E w (w.at d):=⟨rfl,rfl,rfl,dI _,fun _ _=>rfl,fun _ _=>rfl⟩
def nD(S:aO)(E:dL)(e:Event):Prop:=
 match e.loc with
 | .cell x=>S x.block\/(E.rd x.block/\e.write=false)
 | .obj r=>e.sync=false/\(S r\/(E.rd r/\e.write=false))
 | .mark m=>m=.noRoom
 |_=>False
def grow(S:aO)(w w':ay):aO:=fun b=>S b\/(w.heap.size<=b/\b<w'.heap.size)
def tY{S:aO}{w w':ay}(h:w'.heap.size<=w.heap.size):grow S w w'=S:=by
 funext b;simp only[grow,eq_iff_iff,or_iff_left_iff_imp];omega
def X8:aA->Bool
 | .int _ _=>true
 | .bool _=>true
 | dK _=>true
 |_=>false
def acF:Obj->Bool
 | .cells c _ _=>c.toList.all X8
 |_=>false
def aix{v:aA}(h:X8 v=true):au.aI B v:=by
 cases v<;>first|exact .int|exact .bool|exact .string|simp[X8]at h
def Tz{o:Obj}(h:acF o=true):au.mZ B o:=by
 cases o with
 |cells c t f=>exact fun v hv=>aix<|aaJ.1 h v<|anI.2 hv
 |_=>simp[acF]at h
structure jC(S:aO)(E:dL)(w w':ay)(es:Array Event):Prop where
 tape:w'.tape=w.tape
 os:w'.os=w.os
 output:w'.output=w.output
 size:w.heap.size<=w'.heap.size
 still:∀b,b<w.heap.size->¬S b->w'.heap[b]? =w.heap[b]?
 evs:∀e∈es,nD (grow S w w') E e
 ok:∀s:Nat->Prop,(∀b,s b->1<=b)->(∀b,s b->¬S b/\(b<w.heap.size\/w'.heap.size<=b))->au.kD (au.vH s) w->au.kD (au.vH s) w'
def jC.refl{S:aO}{E:dL}{w:ay}:jC S E w w #[]:=⟨rfl,rfl,rfl,dI _,fun _ _ _=>rfl,by simp,fun _ _ _ h=>h⟩
def jC.Tv{S:aO}{E:dL}{w w':ay}{es:Array Event}{s:Nat->Prop}(hG:jC S E w w' es)(h:au.jK s w)(hS:∀b,S b->b<w.heap.size/\¬s b):au.jK s w':=by
 have hz:=hG.size;have h5:=h.ng;refine h.of hz<|hG.ok (au.beyond s w'.heap.size) (fun b hb=>?_) (fun b hb=>⟨fun hx=>?_,?_⟩)<|h.asw hz
 ·rcases hb with hb|hb
  ·exact(h.low b hb).1
  ·omega
 ·rcases hb with hb|hb
  ·exact(hS b hx).2 hb
  ·have:=(hS b hx).1;omega
 ·rcases hb with hb|hb
  ·exact .inl (h.low b hb).2
  ·exact .inr hb
inductive aC(P:fJ)(main:Bool)(E:dL)(Stop:aO->bM->ay->Prop):aO->bM->ay->Prop where
 |stop {S g w} (h:∀w1,bu S E w w1->Stop S g w1):aC P main E Stop S g w
 |step {S g w} (hr:g.status=.running) (f:ay->bM×ay×Array Event)
   (hs:∀w1,bu S E w w1->bK P main g w1=.go (f w1).1 (f w1).2.1 (f w1).2.2/\jC S E w1 (f w1).2.1 (f w1).2.2)
   (h:∀w1,bu S E w w1->aC P main E Stop (grow S w1 (f w1).2.1) (f w1).1 (f w1).2.1):aC P main E Stop S g w
section
variable{P:fJ}{main:Bool}{E:dL}{Stop Stop':aO->bM->ay->Prop}{S:aO}{g:bM}{w:ay}
def aC.step1(hr:g.status=.running)(h:∀w1,bu S E w w1->∃g' w2 es,bK P main g w1=.go g' w2 es/\jC S E w1 w2 es/\aC P main E Stop (grow S w1 w2) g' w2):aC P main E Stop S g w:=by
 have h':∀w1,∃x:bM×ay×Array Event,bu S E w w1->bK P main g w1=.go x.1 x.2.1 x.2.2/\jC S E w1 x.2.1 x.2.2/\aC P main E Stop (grow S w1 x.2.1) x.1 x.2.1:=by
  intro w1;by_cases hk:bu S E w w1
  ·obtain⟨g',w2,es,h1,h2,h3⟩:=h w1 hk;exact⟨(g',w2,es),fun _=>⟨h1,h2,h3⟩⟩
  ·exact⟨(g,w,#[]),fun k=>absurd k hk⟩
 obtain⟨f,hf⟩:=Rw h';exact .step hr f (fun w1 hk=>⟨(hf w1 hk).1,(hf w1 hk).2.1⟩) fun w1 hk=>(hf w1 hk).2.2
def aC.rely(h:aC P main E Stop S g w){w1:ay}(hk:bu S E w w1):aC P main E Stop S g w1:=by
 cases h with
 |stop h=>exact .stop fun w2 k=>h w2<|hk.t k
 |step hr f hs h=>exact .step hr f (fun w2 k=>hs w2<|hk.t k) fun w2 k=>h w2<|hk.t k
def aC.t(h:aC P main E Stop S g w)(h':∀S' g' w',Stop S' g' w'->aC P main E Stop' S' g' w'):aC P main E Stop' S g w:=by
 induction h with
 |stop h=>exact h' _ _ _<|h _<|bu.refl _ _ _
 |step hr f hs _ ih=>exact .step hr f hs ih
def aC.z(h:aC P main E Stop S g w)(h':∀S' g' w',Stop S' g' w'->Stop' S' g' w'):aC P main E Stop' S g w:=by
 induction h with
 |stop h=>exact .stop fun w1 hk=>h' _ _ _<|h w1 hk
 |step hr f hs _ ih=>exact .step hr f hs ih
structure kP(S:aO)(E:dL)(w:ay)(S':aO)(w':ay):Prop where
 own:∀b,S b->S' b
 size:w.heap.size<=w'.heap.size
 new:∀b,S' b->S b\/(w.heap.size<=b/\b<w'.heap.size)
 tape:w'.tape=w.tape
 os:w'.os=w.os
 output:w'.output=w.output
 ro:∀b,E.ro b->b<w.heap.size->¬S b->w'.heap[b]? =w.heap[b]?
def aC.more(h:aC P main E Stop S g w):aC P main E (fun S' g' w'=>Stop S' g' w'/\kP S E w S' w') S g w:=by
 induction h with
 |stop h=>exact .stop fun w1 hk=>⟨h w1 hk,fun _ h=>h,hk.size,fun _ h=>.inl h,hk.tape,hk.os,hk.output,fun b hb _ _=>hk.ro b hb⟩
 | @step S g w hr f hs _ ih=>
   refine .step hr f hs fun w1 hk=>(ih w1 hk).z ?_;obtain⟨_,hG⟩:=hs w1 hk;have hz:=hk.size;have GV:=hG.size;rintro S' g' w' ⟨h1,h2,h3,h4,h5,h6,h7,h8⟩;refine⟨h1,fun b hb=>h2 b<|.inl hb,by omega,fun b hb=>?_,h5.t<|hG.tape.t hk.tape,h6.t<|hG.os.t hk.os,h7.t<|hG.output.t hk.output,fun b hb aK hS=>?_⟩
   ·rcases h4 b hb with(h|h)|h
    ·exact .inl h
    ·exact .inr ⟨by omega,by omega⟩
    ·exact .inr ⟨by omega,h.2⟩
   ·rw[h8 b hb (by omega) (fun h=>h.e hS fun h=>by omega),hG.still b (by omega) hS,hk.ro b hb]
def aC.ctl(hr:g.status=.running){g':bM}(h:∀w1,bK P main g w1=.go g' w1 #[])(k:aC P main E Stop S g' w):aC P main E Stop S g w:=
 .step1 hr fun w1 hk=>⟨g',w1,#[],h w1,jC.refl,by rw[tY<|dI _];exact k.rely hk⟩
end
variable{E:dL}
end Twin
end
