import Derived.Test.YtkelpcjiediamaaGreatQf1
import Derived.Laws.Sem
set_option maxRecDepth 100000
set_option maxHeartbeats 0
set_option linter.all false
namespace Go.Proofs.YtkelpcjiediamaaGreat
open Go renaming FuncId→ji,Program→fJ,TypeId→dJ,Value→aA,execOp→dY
open Go.Value renaming pointer→az,slice→aN,tuple→dU
open Option renaming none→af,some→ae
section
namespace au
open Go
variable{B:dE}{P:fJ}{α β:Type}
def dN{ok:β->Prop}{s:Sem α}{f:α->Sem β}(h:Clean B P (fun _=>True) s)(hf:∀a,Clean B P ok<|f a):Clean B P ok (s>>=f):=aU h fun a _=>hf a
def ahX{γ:Type}{ok:β->Prop}{f:γ->Sem β}:∀(l:List γ),(∀x∈l,Clean B P ok<|f x)->Clean B P (fun r=>∀y∈r,ok y) (l.mapM f)
 |[],_=>by rw[List.mapM_nil];exact aZ<|by simp
 |x::l,h=>by
  rw[List.mapM_cons];refine aU (h x<|by simp) fun y hy=>aU (ahX l fun z hz=>h z<|by simp[hz]) fun r hr=>aZ ?_;intro z hz;rcases jZ.1 hz with rfl|hz
  ·exact hy
  ·exact hr z hz
def ahY{γ:Type}{ok:β->Prop}{f:γ->Sem β}(l:Array γ)(h:∀x,Clean B P ok<|f x):Clean B P (fun r=>∀y∈r,ok y) (l.mapM f):=by
 rw[Array.mapM_eq_mapM_toList];exact ahG (ahX _ fun x _=>h x) fun r hr y hy=>hr y<|by simpa using hy
def ab6{z:Array aA}(hz:cZ B z)(n:Nat):cZ B ((Array.range n).map (z[· %z.size]!)):=by
 intro v hv;obtain⟨i,hi,rfl⟩:=WT.1 hv;by_cases hs:i%z.size<z.size
 ·simp only[hs,getElem!_pos];exact hz _<|RJ _
 ·simp only[hs,not_false_eq_true,getElem!_neg];exact .bool
def ab7{z:Array aA}(hz:cZ B z)(n:Nat):cZ B (Builtin.zeroCells z n):=ab6 hz _
def ahZ{s:Array UInt8}:cZ B (s.map fun b=>Value.int .u8 b.toNat):=by
 intro v hv;obtain⟨i,_,rfl⟩:=WT.1 hv;exact .int
variable{z x y:Option aA}{v i:aA}{n c f:Nat}{a:Addr}{t:dJ}
def ah0:Clean B P (fun _=>True) (Builtin.lenOf v):=by
 unfold Builtin.lenOf;split
 ·exact aZ trivial
 ·exact aZ trivial
 ·exact dM
def ab8{s:Nat}(hv:aI B v):Clean B P (cZ B) (Builtin.firstCells s n v):=by
 unfold Builtin.firstCells;split
 ·exact abY hv.Tc _
 ·exact aZ cZ.nil
 ·exact aZ ahZ
 ·exact dM
def ah1:Clean B P (fun _=>True) (Builtin.holdsCells a n):=by
 refine dN FT fun x=>?_;split<;>exact aZ trivial
def aq4{a b:Nat}{x:Option Addr}:Clean B P (fun _=>True) (Builtin.mayShare a b c x v):=by
 unfold Builtin.mayShare;extract_lets jp
 have jQ:∀b,Clean B P (fun _=>True) (jp b):=by
  intro b;refine gX (fun _=>aZ trivial) fun _=>?_;split
  ·exact dN ah1 fun _=>aZ trivial
  ·exact aZ trivial
 split
 ·exact dN (aZ trivial) jQ
 ·exact dN ah1 fun _=>dN SV fun _=>dN (aZ trivial) jQ
def Pz(F:Fit B P){ts:Array dJ}{args:Array aA}(ha:cZ B args):Clean B P (aI B) (Builtin.append_ ts t args):=by
 unfold Builtin.append_;split
 ·rename_i aCE s x h0;have hs:aI B s:=by
   simp only[uu]at h0;exact ha.get h0.2.1
  have hx:aI B x:=by
   simp only[uu]at h0;exact ha.get h0.2.2
  refine aU kC fun u hu=>?_;split
  ·split
   ·refine dN vF fun size=>?_;extract_lets-underBinder+onlyGivenNames jz
    have QZ:∀z,Clean B P (aI B) (jz z):=by
     intro zeros;dsimp-zeta-zetaHave only[jz];extract_lets-underBinder+onlyGivenNames jn
     have Q3:∀n,Clean B P (aI B) (jn n):=by
      intro n;dsimp-zeta-zetaHave only[jn];extract_lets-underBinder+onlyGivenNames lQ need
      have amn:Clean B P (cZ B) lQ:=by
       refine gX (fun _=>ab8 hx) fun _=>gX (fun _=>aZ cZ.nil) fun _=>aU (Ih F) fun z hz=>aZ<|ab7 hz.cells _
      refine gX (fun _=>?_) fun _=>?_
      ·refine aU amn fun new AA=>?_;extract_lets-underBinder+onlyGivenNames jp
       have jQ:∀z,Clean B P (aI B) (jp z):=fun z=>aZ (by cases hs with|slice h=>exact .slice h);split
       ·exact dN (Pv (by simpa using hs.Tc) _ _ fun v hv=>AA v<|by simpa using hv) jQ
       ·exact jQ ()
      ·refine aU C9 fun _ _=>?_;extract_lets-underBinder+onlyGivenNames j1
       have sZ:∀z,Clean B P (aI B) (j1 z):=by
        intro z;refine aU C9 fun _ _=>?_;extract_lets-underBinder+onlyGivenNames j2
        have DN:∀z,Clean B P (aI B) (j2 z):=by
         intro z;refine dN BA fun c=>aU C9 fun _ _=>dN ahK fun _=>aU (ab8 hs) fun old hold=>aU amn fun new AA=>aU (Ih F) fun z hz=>aU (SX<|(hold.append AA).append<|ab7 hz.cells _) fun a ha=>aZ<|.Py ha
        refine gX (fun _=>dN ?_ DN) fun _=>DN ();refine gX (fun _=>sD F) fun _=>dN aq4 fun _=>gX (fun _=>dN ⟨rfl,trivial⟩ fun _=>jB<|by simp) fun _=>jB<|by simp
       exact gX (fun _=>dN (sD F) sZ) fun _=>sZ ()
     refine gX (fun _=>?_) fun _=>dN ah0 Q3;refine dN Px fun l=>?_;extract_lets-underBinder+onlyGivenNames l' j1
     have sZ:∀z,Clean B P (aI B) (j1 z):=by
      intro z;refine aU C9 fun _ _=>?_;extract_lets-underBinder+onlyGivenNames j2
      have DN:∀z,Clean B P (aI B) (j2 z):=fun z=>dN (aZ trivial) Q3;exact gX (fun _=>dN BA fun _=>dN (sD F) DN) fun _=>DN ()
     exact gX (fun _=>dN (sD F) sZ) fun _=>sZ ()
    split
    ·exact aU kC fun _ _=>dN (aZ trivial) QZ
    ·exact dN (aZ trivial) QZ
   ·exact dM
  ·exact dM
 ·exact dM
def aq5(F:Fit B P){l c:aA}:Clean B P (aI B) (Instr.makeSlice t l c):=by
 refine aU kC fun u hu=>?_;split
 ·refine dN Px fun l=>dN Px fun c=>aU C9 fun i hi=>?_;extract_lets-underBinder+onlyGivenNames by_ tl l' c' j1
  have sZ:∀z,Clean B P (aI B) (j1 z):=by
   intro z;refine dN ahK fun _=>dN vF fun s=>?_;extract_lets-underBinder+onlyGivenNames n j2
   have DN:∀z,cZ B z->Clean B P (aI B) (j2 z):=fun z hz=>aU (SX<|ab6 hz _) fun a ha=>aZ<|.Py ha;exact gX (fun h=>aU (aZ cZ.nil) DN) fun h=>aU (Ih F) fun z hz=>aU (aZ hz.cells) DN
  refine gX (fun _=>?_) fun _=>sZ ();exact gX (fun _=>dN (sD F) sZ) fun _=>gX (fun _=>dN (sD F) sZ) fun _=>dN BA fun _=>dN (sD F) sZ
 ·exact dM
def XE{pl:Nat->Option (Nat×Nat)}:∀(l:List (Nat×aA)) (c c':Array aA),cZ B c->(∀x∈l,aI B x.2)->Instr.fill pl c l=ae c'->cZ B c'
 |[],c,c',hc,_,h=>by simp[Instr.fill]at h;exact h▸hc
 |(i,v)::l,c,c',hc,hl,h=>by
  unfold Instr.fill at h;split at h
  ·cases h
  ·split at h
   ·cases h
   ·refine XE l _ c' ?_ (fun x hx=>hl x<|by simp[hx]) h;have hv:=(hl (i,v)<|by simp).cells;rename_i off size _ _;refine Array.foldl_induction (motive:=fun _ x=>cZ B x) hc ?_;intro k x hx;have:(v.cells.zipIdx[k]).1∈v.cells:=by simp
    exact cZ.set hx (hv _ this) _
def aq6(F:Fit B P){ps:Array (Nat×aA)}(hp:∀x∈ps,aI B x.2):Clean B P (aI B) (Instr.build t ps):=by
 refine aU (Ih F) fun z hz=>aU kC fun u _=>?_;split
 ·refine aU (ahY (ok:=fun _=>True) _ fun f=>dN vF fun _=>aZ trivial) fun ku _=>?_
  ·split
   ·exact aZ<|.agg (by have h:= ‹Instr.fill _ _ _=ae _›;exact XE _ _ _ hz.cells (fun x hx=>hp x<|by simpa using hx) h)
   ·exact dM
 ·refine dN vF fun s=>?_;split
  ·exact aZ<|.agg (by have h:= ‹Instr.fill _ _ _=ae _›;exact XE _ _ _ hz.cells (fun x hx=>hp x<|by simpa using hx) h)
  ·exact dM
 ·exact dM
def aq7(F:Fit B P){ps:Array (Nat×aA)}(hp:∀x∈ps,aI B x.2):Clean B P (aI B) (Instr.buildSlice t n ps):=by
 refine aU kC fun u _=>?_;split
 ·refine dN vF fun s=>?_;extract_lets-underBinder+onlyGivenNames j1
  have sZ:∀z,Clean B P (aI B) (j1 z):=by
   intro z;dsimp-zeta-zetaHave only[j1];extract_lets-underBinder+onlyGivenNames j2
   have DN:∀z,cZ B z->Clean B P (aI B) (j2 z):=by
    intro z hz;dsimp-zeta-zetaHave only[j2];split
    ·exact aU (SX (by have h:= ‹Instr.fill _ _ _=ae _›;exact XE _ _ _ (ab6 hz _) (fun x hx=>hp x<|by simpa using hx) h)) fun a ha=>aZ<|.Py ha
    ·exact dM
   exact gX (fun h=>aU (aZ cZ.nil) DN) fun h=>aU (Ih F) fun z hz=>aU (aZ hz.cells) DN
  exact gX (fun _=>dN (jB<|by simp) sZ) fun _=>sZ ()
 ·exact dM
def aq8(F:Fit B P):Clean B P (aI B) (Instr.alloc t true<|dU #[]):=
 aU (Ih F) fun _ hz=>aU (Xz hz) fun _ ha=>aZ<|.sF ha
def aq9(hv:aI B v):Clean B P (aI B) (Instr.box t v):=aU (Xz hv) fun _ ha=>aZ<|.sF ha
def ara(hv:aI B v):Clean B P (aI B) (Instr.loadAt t v):=aU (Td hv) fun _ ha=>ahM ha
def arb{u:aA}(hv:aI B v)(hu:aI B u):Clean B P (fun _=>True) (Instr.storeAt t v u):=aU (Td hv) fun _ ha=>aqR ha hu
def arc(hv:aI B v):Clean B P (aI B) (Instr.fieldAt t v f):=by
 refine aU kC fun u _=>?_;split
 ·split
  ·exact aU (Td hv) fun a ha=>aU (aqV ha _) fun b hb=>aZ<|.sF (by rw[hb];exact ha)
  ·exact dM
 ·exact dM
def ard(F:Fit B P)(hv:aI B v):Clean B P (aI B) (Instr.indexAt t v i):=by
 refine dN XA fun ki=>aU kC fun u _=>?_;extract_lets-underBinder+onlyGivenNames jp
 have jQ:∀z:Option Addr×Nat×dJ,(∀x,z.1=ae x->¬B.dB x.block)->Clean B P (aI B) (jp z):=by
  intro z hz;refine aU kC fun u _=>?_;dsimp only;split
  ·rename_i a h0;exact gX (fun _=>dN vF fun _=>aZ<|.sF<|by simpa using hz _ h0) fun _=>gX (fun _=>jB<|by simp) fun _=>S9 F
  ·exact S9 F
 split
 ·exact aU (Td hv) fun a ha=>aU (ok:=fun z=>∀x,z.1=ae x->¬B.dB x.block) (aZ (by rintro x hx;cases hx;exact ha)) jQ
 ·exact aU (ok:=fun z=>∀x,z.1=ae x->¬B.dB x.block) (aZ (by cases hv with|slice h=>exact h)) jQ
 ·exact aU (ok:=fun z=>∀x,z.1=ae x->¬B.dB x.block) dM jQ
def XF(F:Fit B P){x:aA}{y:Nat}{c:BoundsCode}:Clean B P (fun _=>True) (Instr.sliceBound x y c):=
 dN XA fun _=>gX (fun _=>aZ trivial) fun _=>S9 F
def Tf(F:Fit B P){b:Bool}{l:Nat}:Clean B P (fun _=>True) (Instr.sliceBounds b l c x y z):=by
 unfold Instr.sliceBounds;extract_lets-underBinder+onlyGivenNames jm
 have hjm:∀m,Clean B P (fun _=>True) (jm m):=by
  intro m;dsimp-zeta-zetaHave only[jm];extract_lets-underBinder+onlyGivenNames jh
  have Z5:∀h,Clean B P (fun _=>True) (jh h):=by
   intro h;dsimp-zeta-zetaHave only[jh];extract_lets-underBinder+onlyGivenNames jl
   have KU:∀l,Clean B P (fun _=>True) (jl l):=fun l=>aZ trivial;split
   ·exact dN (XF F) KU
   ·exact dN (aZ trivial) KU
  split
  ·exact dN (XF F) Z5
  ·exact dN (XF F) Z5
  ·exact dN (aZ trivial) Z5
  ·exact dN dM Z5
 split
 ·exact dN (XF F) hjm
 ·exact dN (aZ trivial) hjm
def ah2{c:Prop}[Decidable c](h:¬B.dB a.block):¬B.dB (if c then a else a.add n).block:=by
 split
 ·exact h
 ·simpa using h
def arf(F:Fit B P)(hv:aI B v):Clean B P (aI B) (Instr.slice t v x y z):=by
 refine aU kC fun u _=>?_;split
 ·exact gX (fun _=>dN dM fun _=>dN (Tf F) fun _=>aZ .string) fun _=>dN (Tf F) fun _=>aZ .string
 ·refine dN (Tf F) fun b=>dN vF fun s=>aZ<|.slice ?_;cases hv with|slice h=>
  intro a ha;split at ha
  ·exact h _ ha
  ·obtain⟨a',h',rfl⟩:=zY.1 ha;simpa using h _ h'
 ·refine aU (ahO F hv) fun a ha=>aU kC fun u _=>?_;split
  ·exact dN (Tf F) fun b=>dN vF fun s=>aZ<|.Py<|ah2 ha
  ·exact dM
 ·exact dM
def arh(F:Fit B P)(hv:aI B v):Clean B P (aI B) (Instr.sliceAt t v x y z):=by
 refine aU kC fun u _=>?_;split
 ·exact aU (Td hv) fun a ha=>dN (Tf F) fun b=>dN vF fun s=>aZ<|.Py<|ah2 ha
 ·exact arf F hv
def ari(F:Fit B P)(hv:aI B v):Clean B P (aI B) (Instr.arrayAt t v):=by
 refine aU kC fun u _=>?_;split
 ·split
  ·exact gX (fun _=>sD F) fun _=>aZ (by cases hv with|slice h=>exact .pointer h)
  ·exact dM
 ·exact dM
def arj(hv:aI B v):Clean B P (aI B) (Instr.field t v f):=by
 refine aU kC fun u _=>?_;split
 ·split
  ·exact aU (aqT hv) fun c hc=>Dc hc
  ·exact dM
 ·exact dM
def ark(F:Fit B P)(hv:aI B v):Clean B P (aI B) (Instr.index t v i):=by
 refine dN XA fun ki=>aU kC fun u _=>?_;split
 ·exact gX (fun _=>dN vF fun _=>Dc hv.Df) fun _=>S9 F
 ·split
  ·exact aZ .int
  ·exact S9 F
 ·exact dM
def arl{i:Nat}(hv:aI B v):Clean B P (aI B) (Instr.extract v i):=by
 unfold Instr.extract;split
 ·split
  ·exact aZ<|hv.aqS.get ‹_›
  ·exact dM
 ·exact dM
end au
end
section
namespace au
open Go
variable{B:dE}{P:fJ}{α β:Type}
variable{op:BinOp}{k:IntKind}{x y v:aA}{a b:Addr}{ts:Array dJ}{t:dJ}{args:Array aA}
def ah3{x y:Int}:Clean B P (aI B) (Op.intArith op k x y):=by
 unfold Op.intArith;split<;>first|exact aZ .int|exact dM
def ah4{x y:Int}:Clean B P (aI B) (Op.intBits op k x y):=by
 unfold Op.intBits;dsimp only;split<;>first|exact aZ .int|exact dM
def arn{x y:Int}:Clean B P (aI B) (Op.intCmp op x y):=by
 unfold Op.intCmp;split<;>first|exact aZ .bool|exact dM
def aro(F:Fit B P){x y:Int}:Clean B P (aI B) (Op.intDiv op k x y):=by
 refine gX (fun _=>sD F) fun _=>?_;split<;>first|exact aZ .int|exact dM
def arp(F:Fit B P){l:IntKind}{x y:Int}:Clean B P (aI B) (Op.shift op k x l y):=by
 refine gX (fun _=>sD F) fun _=>?_;dsimp only;split<;>first|exact aZ .int|exact dM
def ab9{x y:ByteArray}:Clean B P (aI B) (Op.stringOp op x y):=by
 unfold Op.stringOp;dsimp only;split<;>first|exact aZ .bool|exact dM|exact gX (fun _=>jB<|by simp) fun _=>aZ .string
def arq{k:FloatKind}{x y:Nat}:Clean B P (aI B) (Op.floatArith op k x y):=by
 unfold Op.floatArith;extract_lets-underBinder+onlyGivenNames jp
 have jQ:∀r,Clean B P (aI B) (jp r):=by
  intro r;dsimp only[jp];split
  ·exact aZ .float
  ·exact dN BA fun _=>aZ .float
 split<;>first|exact dN (aZ trivial) jQ|exact dN dM jQ
def ars{k:FloatKind}{x y:Nat}:Clean B P (aI B) (Op.floatCmp op k x y):=by
 unfold Op.floatCmp;dsimp only;split<;>first|exact aZ .bool|exact dM
def art{op:UnOp}(hx:aI B x):Clean B P (aI B) (Op.unary op x):=by
 unfold Op.unary;split
 ·exact ah3
 ·exact ah4
 ·exact aZ .float
 ·cases hx
 ·exact aZ .bool
 all_goals first|exact jB (by simp)|exact dM
def aru{b:Bool}(h:¬B.dB a.block):Clean B P (aI B) (asNumber a b):=aU (Xy<|show mZ B (.number a b)from h) fun _ hr=>aZ<|.sF hr
def aca(hx:aI B x):Clean B P (aI B) (Builtin.unsafeAdd_ ts t #[x,y]):=by
 cases x with
 |pointer ptr=>
  refine dN (α:=Int) Px fun n=>?_;extract_lets-underBinder+onlyGivenNames jp
  have jQ:∀z,Clean B P (aI B) (jp z):=by
   intro z;dsimp-zeta-zetaHave only[jp];extract_lets-underBinder+onlyGivenNames jq
   have N7:∀z,Clean B P (aI B) (jq z):=by
    intro z;dsimp-zeta-zetaHave only[jq];split
    ·refine dN FT fun s=>?_;split
     ·refine aU Ae fun p _=>?_;split
      ·have h:=hx.ptr;exact aZ<|.sF h
      ·exact jB<|by simp
     ·exact jB<|by simp
    ·exact jB<|by simp
   exact gX (fun _=>dN (jB<|by simp) N7) fun _=>N7 ()
  refine gX (fun _=>?_) fun _=>jQ ();split
  ·exact dN (ahP hx.ptr) fun _=>gX (fun _=>dN (jB<|by simp) fun _=>aZ hx) fun _=>aZ hx
  ·exact jB<|by simp
 |_=>exact dM
def XH(hx:aI B x):Clean B P (aI B) (movedNumber t x y):=by
 refine aU kC fun u _=>?_;extract_lets-underBinder+onlyGivenNames jp
 have jQ:∀z,Clean B P (aI B) (jp z):=by
  intro z;dsimp-zeta-zetaHave only[jp];split
  ·refine aU (Ii hx.ptr) fun a ha=>aU (aca<|.sF ha) fun v hv=>?_;split
   ·exact aru hv.ptr
   ·exact aZ hv
  ·exact aca hx
 split;all_goals first|exact dN (jB<|by simp) jQ|exact jQ ()
def ah5(hx:aI B x):Clean B P (aI B) (movedPointer t x y):=by
 unfold movedPointer;extract_lets-underBinder+onlyGivenNames jp
 have jQ:∀z,Clean B P (aI B) (jp z):=fun z=>aca hx;split
 ·exact aU (ahR hx.ptr) fun _ _=>gX (fun _=>dN (jB<|by simp) jQ) fun _=>jQ ()
 ·exact jQ ()
def ah6(ha:¬B.dB a.block)(hb:¬B.dB b.block):Clean B P (fun _=>True) (Op.twoPlaces a b):=by
 refine aU Ae fun p _=>gX (fun _=>dN (jB<|by simp) fun _=>?_) fun _=>?_;all_goals exact dN (MF ha) fun _=>dN (MF hb) fun _=>aZ trivial
def arv(ha:¬B.dB a.block)(hb:¬B.dB b.block):Clean B P (aI B) (Op.addrCmp op a b):=by
 refine dN (ah6 ha hb) fun xy=>?_;dsimp only;split<;>first|exact aZ .bool|exact jB<|by simp
def ah7{n:Int}(ha:¬B.dB a.block):Clean B P (aI B) (Op.addrMod k a n):=by
 refine dN FT fun s=>?_;split
 ·refine aU C9 fun _ _=>gX (fun _=>dN (jB<|by simp) fun _=>?_) fun _=>?_;all_goals exact dN (MF ha) fun _=>aZ .int
 ·exact jB<|by simp
def arw(F:Fit B P)(hx:aI B x)(hy:aI B y):Clean B P (aI B) (binOp op t x y):=by
 unfold binOp;split;case h_5=>cases hx
 case h_3=>
  refine gX (fun _=>dM) fun _=>?_
  split<;>first|exact ah3|exact aro F|exact ah4|exact arn
 case h_4=>
  refine gX (fun _=>dM) fun _=>?_
  split<;>first|exact arq|exact ars
 all_goals first
  |exact arp F
  |exact ab9
  |exact dN (ahS F hx hy) fun _=>aZ .bool
  |exact XH hx
  |exact XH hy
  |exact jB<|by simp
  |exact dM
  |exact aU (Ii hx.ptr) fun a ha=>aU (Ii hy.ptr) fun b hb=>dN (ah6 ha hb) fun _=>aZ .int
  |exact aU (Ii hx.ptr) fun a ha=>aU (Ii hy.ptr) fun b hb=>arv ha hb
  |exact aU (Ii hx.ptr) fun a ha=>ah7 ha
  |exact aU (Ii hy.ptr) fun a ha=>ah7 ha
  |(refine aU kC fun u _=>?_;split<;>split<;>first|exact ah5 hx|exact XH hx)
  |(refine aU kC fun u _=>?_;split<;>first|exact ah5 hx|exact XH hx)
def arx{x y:Operand}{a b:aA}(ha:aI B a)(hb:aI B b):Clean B P (fun _=>True) (eqGuard op t x y a b):=by
 unfold eqGuard;have hg:∀(u:Unsupported),(∀g,u≠.initOrder g)->Clean B P (fun _=>True) (do if<-Op.eqGuardIn Op.maxDepth t a b then unsupported u:Sem Unit):=fun u hu=>dN (ab4 _ _ _ _ ha hb) fun _=>gX (fun _=>jB hu) fun _=>aZ trivial;refine gX (fun _=>aZ trivial) fun _=>?_;split
 ·exact gX (fun _=>aZ trivial) fun _=>hg _<|by simp
 ·exact aU Ae fun _ _=>aU Ae fun _ _=>gX (fun _=>aZ trivial) fun _=>hg _<|by simp
 ·exact aZ trivial
def acb(P:fJ)(src dst:dJ):Bool:=
 match P.underlying src,P.underlying dst with
 |some (.int _),ae (.int _)=>true
 |some (.int _),ae .string=>true
 |some .string,ae .string=>true
 |some .string,ae (.slice e)=>match P.underlying e with|some (.int .u8)=>true|_=>false
 |some (.slice e),ae .string=>match P.underlying e with|some (.int .u8)=>true|_=>false
 |_,_=>false
def ary:Clean B P (fun _=>True) (markStringish a):=by
 refine dN FT fun x=>?_;split
 ·exact aqP
 ·exact aZ trivial
def arz{s:ByteArray}:Clean B P (aI B) (Conv.stringToBytes t s):=by
 refine dN BA fun c=>aU (SX<|ahZ.append ?_) fun a ha=>dN ary fun _=>aZ<|.Py ha;intro v hv;obtain⟨_,rfl⟩:=Lu.1 hv;exact .int
def arA(hx:aI B x):Clean B P (aI B) (Conv.bytesToString x):=by
 unfold Conv.bytesToString;split
 ·exact aZ .string
 ·refine aU (abY hx.Tc _) fun c _=>dN ?_ fun _=>aZ .string;refine XB _ _ fun x b=>?_;split<;>first|exact aZ trivial|exact dN dM fun _=>aZ trivial|exact dM
 ·exact dM
def arB{k:FloatKind}{b:Nat}{i:IntKind}:Clean B P (aI B) (Conv.floatToInt k b i):=by
 unfold Conv.floatToInt;dsimp only;repeat' (first|exact aZ .int|exact dN BA fun _=>aZ .int|split)
def arC{src dst:dJ}(h:acb P src dst=true)(hx:aI B x):Clean B P (aI B) (convert src dst x):=by
 refine aU kC fun su hsu=>aU kC fun du hdu=>?_;unfold acb at h;rw[hsu,hdu]at h;have hu8:∀{e:dJ} {d:TypeDesc},(match P.underlying e with|some (.int .u8)=>true|_=>false)=true->P.underlying e=ae d->d=.int .u8:=by
  intro e d he hd;rw[hd]at he;split at he
  ·rename_i h;cases h;rfl
  ·cases he
 split at h
 ·rename_i h1 h2;cases h1;cases h2;cases x;case pointer a=>cases a<;>exact jB (by simp)
  all_goals first|exact aZ .int|exact jB (by simp)|exact arB|cases hx
 ·rename_i h1 h2;cases h1;cases h2;cases x;case pointer a=>cases a<;>exact jB (by simp)
  all_goals first|exact aZ .string|exact jB (by simp)|cases hx
 ·rename_i h1 h2;cases h1;cases h2;cases x;all_goals first|exact aZ .string|exact jB (by simp)|cases hx
 ·rename_i h1 h2;cases h1;cases h2;cases x;case string s=>
   refine aU kC fun d hd=>?_
   have:=hu8 h hd
   subst this
   exact arz
  case slice a n m=>cases a<;>exact jB<|by simp
  all_goals first|exact jB (by simp)|cases hx
 ·rename_i e h1 h2;cases h1;cases h2;have hgo:∀x,aI B x->Clean B P (aI B) (do
   match<-underlying e with
   | .int .u8=>Conv.bytesToString x
   | .int .i32=>Conv.runesToString x
   |_=>stuck "Convert: a slice of what to string?" :Sem aA):=by
   intro x hx;refine aU kC fun d hd=>?_;have:=hu8 h hd;subst this;exact arA hx
  cases x;case slice a n m=>cases a<;>exact hgo _ hx
  all_goals first|exact aZ .string|exact hgo _ hx|exact jB (by simp)|cases hx
 ·cases h
def arE(ha:cZ B args):Clean B P (aI B) (Builtin.cap_ ts t args):=by
 unfold Builtin.cap_;split
 ·rename_i ty x h0;have hx:aI B x:=by simp only[uu]at h0;exact ha.get h0.2
  refine aU kC fun u _=>?_;split;case h_2=>
   refine aU kC fun u _=>?_
   split<;>first|exact aZ .int|exact dM
  case h_5=>
   cases hx with|chan hx=>
   refine aU (yC<|hx _ rfl) fun o _=>?_
   split<;>first|exact aZ .int|exact dM
  all_goals first|exact aZ .int|exact dM
 ·exact dM
def arF(ha:cZ B args):Clean B P (aI B) (Builtin.len_ ts t args):=by
 unfold Builtin.len_;split
 ·rename_i ty x h0;have hx:aI B x:=by simp only[uu]at h0;exact ha.get h0.2
  refine aU kC fun u _=>?_;split;case h_3=>
   refine aU kC fun u _=>?_
   split<;>first|exact aZ .int|exact dM
  case h_7=>
   refine aU (yC hx.mp) fun o _=>?_
   split<;>first|exact aZ .int|exact dM
  case h_8=>
   cases hx with|chan hx=>
   refine aU (yC<|hx _ rfl) fun o _=>?_
   split<;>first|exact aZ .int|exact dM
  all_goals first|exact aZ .int|exact dM
 ·exact dM
def arG(F:Fit B P)(ha:cZ B args):Clean B P (aI B) (Builtin.clear_ ts t args):=by
 unfold Builtin.clear_;split
 ·rename_i ty x h0;have hx:aI B x:=by simp only[uu]at h0;exact ha.get h0.2
  refine aU kC fun u _=>?_;extract_lets-underBinder+onlyGivenNames jp
  have jQ:∀z,Clean B P (aI B) (jp z):=fun z=>aZ<|.tuple cZ.nil;split;case h_4=>
   refine aU (yC hx.mp) fun o _=>?_
   split
   ·exact dN (FU hx.mp (show oK B #[]from by intro e h;simp at h)) jQ
   ·exact dN dM jQ
  case h_5=>exact aU (Ih F) fun z hz=>dN (Pv hx.Tc _ _ fun v hv=>ab7 hz.cells _ v<|by simpa using hv) jQ
  all_goals first|exact dN (aZ trivial) jQ|exact dN dM jQ|exact jQ ()
 ·exact dM
def arH(ha:cZ B args):Clean B P (aI B) (Builtin.copy_ ts t args):=by
 unfold Builtin.copy_;split
 ·rename_i ty x y h0;have hx:aI B x:=by simp only[uu]at h0;exact ha.get h0.2.1
  have hy:aI B y:=by simp only[uu]at h0;exact ha.get h0.2.2
  refine aU kC fun u _=>?_;split
  ·split
   ·refine dN ah0 fun n=>dN vF fun s=>aU (ab8 hy) fun c hc=>?_;split
    ·exact dN (Pv hx.Tc _ _ fun v hv=>hc v<|by simpa using hv) fun _=>aZ .int
    ·exact aZ .int
   ·exact dM
  ·exact dM
 ·exact dM
def arI(F:Fit B P)(ha:cZ B args):Clean B P (aI B) (Builtin.delete_ ts t args):=by
 unfold Builtin.delete_;split
 ·rename_i ty x y h0;have hx:aI B x:=by simp only[uu]at h0;exact ha.get h0.2.1
  have hy:aI B y:=by simp only[uu]at h0;exact ha.get h0.2.2
  refine aU kC fun u _=>?_;split
  ·extract_lets-underBinder+onlyGivenNames jp
   have jQ:∀z,Clean B P (aI B) (jp z):=fun z=>aZ<|.tuple cZ.nil;split
   ·exact dN (Ij F _ _ _ _ hy) jQ
   ·refine aU (yC hx.mp) fun o ho=>?_;split
    ·have ho:oK B _:=ho;refine dN (Ij F _ _ _ _ hy) fun _=>aU (XD F hy ho) fun r _=>?_;split
     ·refine dN (FU hx.mp<|show oK B _ from ?_) jQ;intro e he;unfold Array.eraseIdxIfInBounds at he;split at he
      ·exact ho e<|Array.mem_of_mem_eraseIdx he
      ·exact ho e he
     ·exact dN (FU hx.mp ho) jQ
    ·exact dN dM jQ
   ·exact dN dM jQ
  ·exact dM
 ·exact dM
def acd{ok:β->Prop}{γ:Type}{f:β->γ->Sem β}:∀(l:List γ) (b:β),ok b->(∀x∈l,∀b,ok b->Clean B P ok (f b x))->Clean B P ok (l.foldlM f b)
 |[],b,hb,_=>by rw[List.foldlM_nil];exact hb
 |x::l,b,hb,h=>by rw[List.foldlM_cons];exact aU (h x (by simp) b hb) fun c hc=>acd l c hc fun y hy=>h y<|by simp[hy]
def arJ:Clean B P (aI B) (Builtin.max2 x y):=by
 unfold Builtin.max2;split;case h_2=>split<;>first|exact aZ .float|exact dN BA fun _=>aZ .float
 all_goals first|exact aZ .int|exact jB (by simp)|exact dM|exact aU ab9 fun _ _=>dN abZ fun _=>aZ .string
def arK:Clean B P (aI B) (Builtin.min2 x y):=by
 unfold Builtin.min2;split;case h_2=>split<;>first|exact aZ .float|exact dN BA fun _=>aZ .float
 all_goals first|exact aZ .int|exact jB (by simp)|exact dM|exact aU ab9 fun _ _=>dN abZ fun _=>aZ .string
def arL(ha:cZ B args):Clean B P (aI B) (Builtin.max_ ts t args):=by
 unfold Builtin.max_;split
 ·exact dM
 ·rename_i x l h;exact acd _ _ (ha x (by rw[<-anI,h];simp)) fun y _ b _=>arJ
def arM(ha:cZ B args):Clean B P (aI B) (Builtin.min_ ts t args):=by
 unfold Builtin.min_;split
 ·exact dM
 ·rename_i x l h;exact acd _ _ (ha x (by rw[<-anI,h];simp)) fun y _ b _=>arK
def XI:aA->Bool
 | .bool _| .int _ _| .float _ _| .string _| .nilFunc| .nilIface| az af| aN af _ _| .map af| .chan af=>true
 |_=>false
def XJ:aA->Bool
 | .agg a=>a.all XI
 |v=>XI v
def Ti:aA->Bool
 | .tuple a=>a.all XJ
 |v=>XJ v
def ah9(h:XI v=true):aI B v:=by
 unfold XI at h;split at h;all_goals first|exact .bool|exact .int|exact .float|exact .string|exact .nilFunc|exact .nilIface|exact .pointer (by simp)|exact .slice (by simp)|exact .map (by simp)|exact .chan (by simp)|cases h
def aia(h:XJ v=true):aI B v:=by
 unfold XJ at h;split at h
 ·rw[Hm]at h;refine .agg fun x hx=>?_;obtain⟨i,hi,rfl⟩:=Hg.1 hx;exact ah9<|h i hi
 ·exact ah9 h
def aib(h:Ti v=true):aI B v:=by
 unfold Ti at h;split at h
 ·rw[Hm]at h;refine .tuple fun x hx=>?_;obtain⟨i,hi,rfl⟩:=Hg.1 hx;exact aia<|h i hi
 ·exact aia h
def MH(l:ji->Bool)(g:Nat):Operand->Bool
 | .tmp _=>true
 | .const v=>Ti v
 | .global n=>n<g
 | .func f=>l f
def ace(l:ji->Bool)(g:Nat)(c:Call):Bool:=
 c.args.all (MH l g)&&match c.callee with
  | .value f=>MH l g f
  | .builtin b=>match b with
    | .append| .cap| .clear| .copy| .delete| .len| .max| .min=>true
    |_=>false
  | .invoke _ _=>false
def tN(P:fJ)(l:ji->Bool)(o:Op):Bool:=
 let r:=MH l P.globals.size
 match o with
 | .move x| .assign x| .box _ x| .load _ x| .nilCheck x| .unOp _ _ x| .sliceToArrayPointer _ x| .fieldAddr _ x _| .field _ x _| .range _ x| .next x _| .entry x| .extract x _| .makeInterface _ x| .panic x=>r x
 | .pick a b c=>r a&&r b&&r c
 | .alloc _=>true
 | .build _ ps| .buildSlice _ _ ps=>ps.all fun x=>r x.2
 | .store _ a v| .binOp _ _ a v _| .makeSlice _ a v| .indexAddr _ a v| .index _ a v| .lookup _ a v _| .mapEntry _ a v=>r a&&r v
 | .convert s d x=>acb P s d&&r x
 | .makeFunc (.func f) a c=>l f&&a.all r&&c.all r
 | .makeMap _ _=>true
 | .slice _ x _ _ _=>r x
 | .mapUpdate _ a b c| .entryStore _ a b c| .insert _ a b c=>r a&&r b&&r c
 | .call c=>ace l P.globals.size c
 |_=>false
def FV(B:dE):Next->Prop
 | .value v=>aI B v
 | .skip=>True
 | .enter f args=>B.let_ f=true/\cZ B args
 |_=>False
structure XK(B:dE)(P:fJ):Prop where
 fn:∀f,B.let_ f=true->∃fn,P.funcs[f]? =ae fn/\(fn.name== "runtime.NumGoroutine")=false/\fn.body.isNone=false
def arN(H:XK B P){f:ji}(hf:B.let_ f=true)(ha:cZ B args):Clean B P (FV B) (callFunc f args):=by
 obtain⟨fn,h1,h2,h3⟩:=H.fn f hf;refine aU Ae fun p hp=>?_;subst hp;rw[h1];dsimp only;rw[h2,h3];exact aZ<|show FV B (.enter f args)from⟨hf,ha⟩
def aic{γ:Type}{l:Array γ}{f:γ->aA}(h:∀x∈l,aI B<|f x):cZ B (l.map f):=by
 intro v hv;obtain⟨x,hx,rfl⟩:=WT.1 hv;exact h x hx
structure Env(B:dE)(P:fJ)(ρ:Operand->aA):Prop where
 val:∀x,MH B.let_ P.globals.size x=true->aI B (ρ x)
def arO(F:Fit B P)(H:XK B P){ρ:Operand->aA}(E:Env B P ρ){c:Call}(h:ace B.let_ P.globals.size c=true):Clean B P (FV B) (do let d <-resolve ρ c t;invoke d.target d.args:Sem Next):=by
 simp only[ace,mX]at h;have ha:cZ B (c.args.map ρ):=aic fun x hx=>E.val _ (by
  obtain⟨i,hi,rfl⟩:=Hg.1 hx;exact(Hm.1 h.1) i hi)
 unfold resolve;dsimp only;split
 ·rename_i b hb;rw[hb]at h;refine aU (ok:=fun d=>d={target:=.builtin b c.argTypes t (c.args.map fun| .const _=>true|_=>false),args:=c.args.map ρ}) (aZ rfl) fun d hd=>?_;subst hd;have hv:∀{s:Sem aA},Clean B P (aI B) s->Clean B P (FV B) (do pure (.value<|<-s):Sem Next):=fun hs=>aU hs fun v hv=>aZ hv;cases b<;>first|exact hv (Pz F ha)|exact hv (arE ha)|exact hv (arG F ha)|exact hv (arH ha)|exact hv (arI F ha)|exact hv (arF ha)|exact hv (arL ha)|exact hv (arM ha)|(simp at h)
 ·rename_i r n hb;rw[hb]at h;simp at h
 ·rename_i f hb;rw[hb]at h;have hf:=E.val _ h.2;unfold Deferred.ofValue;generalize ρ f=fv at hf;cases hf with
  |func hl h1 h2=>exact arN H hl<|(cZ.append h1 ha).append h2
  |nilFunc=>
   show Clean B P (FV B) (runtimePanic .nilDeref);exact sD F
  |_=>exact dM
def acf(F:Fit B P)(H:XK B P){ρ:Operand->aA}(E:Env B P ρ){o:Oper}(h:tN P B.let_ o.op=true):Clean B P (FV B) (dY ρ o):=by
 have hv:∀{s:Sem aA},Clean B P (aI B) s->Clean B P (FV B) (do pure (.value<|<-s):Sem Next):=fun hs=>aU hs fun v hv=>aZ hv;have hu:∀{s:Sem Unit},Clean B P (fun _=>True) s->Clean B P (FV B) (do s;pure .skip:Sem Next):=fun hs=>aU hs fun v hv=>aZ trivial;have gY:∀{ps:Array (Nat×Operand)},ps.all (fun x=>MH B.let_ P.globals.size x.2)=true->∀x∈ps.map (fun(i,x)=>(i,ρ x)),aI B x.2:=by
  intro ps hp x hx;obtain⟨y,hy,rfl⟩:=WT.1 hx;obtain⟨i,hi,rfl⟩:=Hg.1 hy;exact E.val _<|(Hm.1 hp) i hi
 have has:∀{a:Array Operand},a.all (MH B.let_ P.globals.size)=true->cZ B (a.map ρ):=by
  intro a ha;refine aic fun x hx=>E.val _ ?_;obtain⟨i,hi,rfl⟩:=Hg.1 hx;exact(Hm.1 ha) i hi
 unfold dY;obtain⟨dst,op,ty,pos,after,guard⟩:=o;dsimp only at h⊢
 cases op with
 |move x=>exact aZ<|E.val _ h
 |assign x=>exact aZ<|E.val _ h
 |pick a b c=>
  simp only[tN,mX]at h;refine dN abZ fun t=>aZ ?_;show aI B _;split
  ·exact E.val _ h.1.2
  ·exact E.val _ h.2
 |alloc t=>exact hv<|aq8 F
 |box t x=>exact hv<|aq9<|E.val _ h
 |build t ps=>exact hv<|aq6 F<|gY h
 |buildSlice t n ps=>exact hv<|aq7 F<|gY h
 |load t x=>exact hv<|ara<|E.val _ h
 |store t a x=>
  simp only[tN,mX]at h;exact hu<|arb (E.val _ h.1)<|E.val _ h.2
 |nilCheck x=>
  have hx:=E.val _ h;dsimp only;generalize ρ x=fv at hx;cases hx;case pointer a h=>cases a with
   |none=>exact sD F
   |some a=>exact aZ<|show aI B _ from .pointer h
  case func h1 h2 h3=>exact aZ<|show aI B _ from .func h1 h2 h3
  case slice h=>exact aZ<|show aI B _ from .slice h
  case map h=>exact aZ<|show aI B _ from .map h
  case chan h=>exact aZ<|show aI B _ from .chan h
  case iface h=>exact aZ<|show aI B _ from .iface h
  case agg h=>exact aZ<|show aI B _ from .agg h
  case tuple h=>exact aZ<|show aI B _ from .tuple h
  case bool=>exact aZ<|show aI B _ from .bool
  case int=>exact aZ<|show aI B _ from .int
  case float=>exact aZ<|show aI B _ from .float
  case string=>exact aZ<|show aI B _ from .string
  all_goals exact sD F
 |binOp b t x y u=>
  simp only[tN,mX]at h;exact hv<|aU (arx (E.val _ h.1)<|E.val _ h.2) fun _ _=>arw F (E.val _ h.1)<|E.val _ h.2
 |unOp b t x=>exact hv<|art<|E.val _ h
 |convert s d x=>
  simp only[tN,mX]at h;exact hv<|arC h.1<|E.val _ h.2
 |sliceToArrayPointer t x=>exact hv<|ari F<|E.val _ h
 |makeFunc fn a c=>
  cases fn with
  |func f=>
   simp only[tN,mX]at h;exact aZ<|show aI B _ from .func h.1.1 (has h.1.2) (has h.2)
  |_=>simp[tN]at h
 |makeMap t r=>exact hv aq0
 |makeSlice t a b=>exact hv<|aq5 F
 |slice t x a b c=>exact hv<|arh F<|E.val _ h
 |fieldAddr t x f=>exact hv<|arc<|E.val _ h
 |field t x f=>exact hv<|arj<|E.val _ h
 |indexAddr t x i=>
  simp only[tN,mX]at h;exact hv<|ard F<|E.val _ h.1
 |index t x i=>
  simp only[tN,mX]at h;exact hv<|ark F<|E.val _ h.1
 |lookup t x i ok=>
  simp only[tN,mX]at h;exact hv<|aqX F (E.val _ h.1)<|E.val _ h.2
 |mapUpdate t m k x=>
  simp only[tN,mX]at h;exact hu<|ab5 F (E.val _ h.1.1) (E.val _ h.1.2)<|E.val _ h.2
 |insert t m k x=>
  simp only[tN,mX]at h;exact hu<|ab5 F (E.val _ h.1.1) (E.val _ h.1.2)<|E.val _ h.2
 |mapEntry t m k=>
  simp only[tN,mX]at h;exact hv<|aqY F (E.val _ h.1)<|E.val _ h.2
 |entryStore t m s x=>
  simp only[tN,mX]at h;exact hu<|aqZ (E.val _ h.1.1)<|E.val _ h.2
 |range t x=>exact hv<|aq1<|E.val _ h
 |next x s=>exact hv<|aq2<|E.val _ h
 |entry x=>exact hv<|aq3<|E.val _ h
 |extract x i=>exact hv<|arl<|E.val _ h
 |call c=>exact arO F H E h
 |makeInterface t x=>
  refine hv<|aU kC fun u _=>?_;split
  ·exact dM
  ·exact aZ<|.iface<|E.val _ h
 |panic x=>
  refine hv ?_;unfold Instr.panic;split
  ·exact SY
  ·refine dN (α:=Int) ?_ fun _=>gX (fun _=>SY) fun _=>sD F;refine dN (α:=SysRet) (s:=sys .env) ⟨rfl,fun _=>trivial⟩ fun r=>?_;split
   ·exact aU Ae fun _ _=>aZ trivial
   ·exact dM
  ·exact dM
 |_=>simp[tN]at h
end au
end
