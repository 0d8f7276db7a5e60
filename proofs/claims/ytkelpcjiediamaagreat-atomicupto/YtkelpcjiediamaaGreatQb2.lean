import Derived.Test.YtkelpcjiediamaaGreatQb1
import Derived.Laws.Sem
set_option maxRecDepth 100000
set_option maxHeartbeats 0
set_option linter.all false
namespace Go.Proofs.YtkelpcjiediamaaGreat
open Go renaming Program→dO,TypeId→bW,Value→aj,execOp→dJ
open Option renaming none→af,some→ae
section
namespace ai
open Go
variable{B:bP}{P:dO}{α β:Type}
def dh{ok:β->Prop}{s:Sem α}{f:α->Sem β}(h:Clean B P (fun _=>True) s)(hf:∀a,Clean B P ok<|f a):Clean B P ok (s>>=f):=aJ h fun a _=>hf a
def afO{γ:Type}{ok:β->Prop}{f:γ->Sem β}:∀(l:List γ),(∀x∈l,Clean B P ok<|f x)->Clean B P (fun r=>∀y∈r,ok y) (l.mapM f)
 |[],_=>by rw[List.mapM_nil];exact aO<|by simp
 |x::l,h=>by
  rw[List.mapM_cons];refine aJ (h x<|by simp) fun y hy=>aJ (afO l fun z hz=>h z<|by simp[hz]) fun r hr=>aO ?_;intro z hz;rcases jC.1 hz with rfl|hz
  ·exact hy
  ·exact hr z hz
def afP{γ:Type}{ok:β->Prop}{f:γ->Sem β}(l:Array γ)(h:∀x,Clean B P ok<|f x):Clean B P (fun r=>∀y∈r,ok y) (l.mapM f):=by
 rw[Array.mapM_eq_mapM_toList];exact afx (afO _ fun x _=>h x) fun r hr y hy=>hr y<|by simpa using hy
def aad{z:Array aj}(hz:bG B z)(n:Nat):bG B ((Array.range n).map (z[· %z.size]!)):=by
 intro v hv;obtain⟨i,hi,rfl⟩:=UH.1 hv;by_cases hs:i%z.size<z.size
 ·simp only[hs,getElem!_pos];exact hz _<|PH _
 ·simp only[hs,not_false_eq_true,getElem!_neg];exact .bool
def aae{z:Array aj}(hz:bG B z)(n:Nat):bG B (Builtin.zeroCells z n):=aad hz _
def afQ{s:Array UInt8}:bG B (s.map fun b=>Value.int .u8 b.toNat):=by
 intro v hv;obtain⟨i,_,rfl⟩:=UH.1 hv;exact .int
variable{z x y:Option aj}{v i:aj}{n c f:Nat}{a:Addr}{t:bW}
def afR:Clean B P (fun _=>True) (Builtin.lenOf v):=by
 unfold Builtin.lenOf;split
 ·exact aO trivial
 ·exact aO trivial
 ·exact cZ
def aaf{s:Nat}(hv:az B v):Clean B P (bG B) (Builtin.firstCells s n v):=by
 unfold Builtin.firstCells;split
 ·exact Z4 hv.Qx _
 ·exact aO bG.nil
 ·exact aO afQ
 ·exact cZ
def afS:Clean B P (fun _=>True) (Builtin.holdsCells a n):=by
 refine dh Ej fun x=>?_;split<;>exact aO trivial
def aoN{a b:Nat}{x:Option Addr}:Clean B P (fun _=>True) (Builtin.mayShare a b c x v):=by
 unfold Builtin.mayShare;extract_lets jp
 have jg:∀b,Clean B P (fun _=>True) (jp b):=by
  intro b;refine fG (fun _=>aO trivial) fun _=>?_;split
  ·exact dh afS fun _=>aO trivial
  ·exact aO trivial
 split
 ·exact dh (aO trivial) jg
 ·exact dh afS fun _=>dh Qs fun _=>dh (aO trivial) jg
def NJ(F:Fit B P){ts:Array bW}{args:Array aj}(ha:bG B args):Clean B P (az B) (Builtin.append_ ts t args):=by
 unfold Builtin.append_;split
 ·rename_i azE s x h0;have hs:az B s:=by
   simp only[tV]at h0;exact ha.get h0.2.1
  have hx:az B x:=by
   simp only[tV]at h0;exact ha.get h0.2.2
  refine aJ jF fun u hu=>?_;split
  ·split
   ·refine dh tZ fun size=>?_;extract_lets-underBinder+onlyGivenNames jz
    have O7:∀z,Clean B P (az B) (jz z):=by
     intro zeros;dsimp-zeta-zetaHave only[jz];extract_lets-underBinder+onlyGivenNames jn
     have O8:∀n,Clean B P (az B) (jn n):=by
      intro n;dsimp-zeta-zetaHave only[jn];extract_lets-underBinder+onlyGivenNames kH need
      have aj2:Clean B P (bG B) kH:=by
       refine fG (fun _=>aaf hx) fun _=>fG (fun _=>aO bG.nil) fun _=>aJ (F8 F) fun z hz=>aO<|aae hz.cells _
      refine fG (fun _=>?_) fun _=>?_
      ·refine aJ aj2 fun new zn=>?_;extract_lets-underBinder+onlyGivenNames jp
       have jg:∀z,Clean B P (az B) (jp z):=fun z=>aO (by cases hs with|slice h=>exact .slice h);split
       ·exact dh (NG (by simpa using hs.Qx) _ _ fun v hv=>zn v<|by simpa using hv) jg
       ·exact jg ()
      ·refine aJ Bd fun _ _=>?_;extract_lets-underBinder+onlyGivenNames j1
       have qW:∀z,Clean B P (az B) (j1 z):=by
        intro z;refine aJ Bd fun _ _=>?_;extract_lets-underBinder+onlyGivenNames j2
        have BR:∀z,Clean B P (az B) (j2 z):=by
         intro z;refine dh zU fun c=>aJ Bd fun _ _=>dh afB fun _=>aJ (aaf hs) fun old hold=>aJ aj2 fun new zn=>aJ (F8 F) fun z hz=>aJ (Qu<|(hold.append zn).append<|aae hz.cells _) fun a ha=>aO<|.NI ha
        refine fG (fun _=>dh ?_ BR) fun _=>BR ();refine fG (fun _=>qH F) fun _=>dh aoN fun _=>fG (fun _=>dh ⟨rfl,trivial⟩ fun _=>iM<|by simp) fun _=>iM<|by simp
       exact fG (fun _=>dh (qH F) qW) fun _=>qW ()
     refine fG (fun _=>?_) fun _=>dh afR O8;refine dh NH fun l=>?_;extract_lets-underBinder+onlyGivenNames l' j1
     have qW:∀z,Clean B P (az B) (j1 z):=by
      intro z;refine aJ Bd fun _ _=>?_;extract_lets-underBinder+onlyGivenNames j2
      have BR:∀z,Clean B P (az B) (j2 z):=fun z=>dh (aO trivial) O8;exact fG (fun _=>dh zU fun _=>dh (qH F) BR) fun _=>BR ()
     exact fG (fun _=>dh (qH F) qW) fun _=>qW ()
    split
    ·exact aJ jF fun _ _=>dh (aO trivial) O7
    ·exact dh (aO trivial) O7
   ·exact cZ
  ·exact cZ
 ·exact cZ
def aoO(F:Fit B P){l c:aj}:Clean B P (az B) (Instr.makeSlice t l c):=by
 refine aJ jF fun u hu=>?_;split
 ·refine dh NH fun l=>dh NH fun c=>aJ Bd fun i hi=>?_;extract_lets-underBinder+onlyGivenNames by_ tl l' c' j1
  have qW:∀z,Clean B P (az B) (j1 z):=by
   intro z;refine dh afB fun _=>dh tZ fun s=>?_;extract_lets-underBinder+onlyGivenNames n j2
   have BR:∀z,bG B z->Clean B P (az B) (j2 z):=fun z hz=>aJ (Qu<|aad hz _) fun a ha=>aO<|.NI ha;exact fG (fun h=>aJ (aO bG.nil) BR) fun h=>aJ (F8 F) fun z hz=>aJ (aO hz.cells) BR
  refine fG (fun _=>?_) fun _=>qW ();exact fG (fun _=>dh (qH F) qW) fun _=>fG (fun _=>dh (qH F) qW) fun _=>dh zU fun _=>dh (qH F) qW
 ·exact cZ
def VC{pl:Nat->Option (Nat×Nat)}:∀(l:List (Nat×aj)) (c c':Array aj),bG B c->(∀x∈l,az B x.2)->Instr.fill pl c l=ae c'->bG B c'
 |[],c,c',hc,_,h=>by simp[Instr.fill]at h;exact h▸hc
 |(i,v)::l,c,c',hc,hl,h=>by
  unfold Instr.fill at h;split at h
  ·cases h
  ·split at h
   ·cases h
   ·refine VC l _ c' ?_ (fun x hx=>hl x<|by simp[hx]) h;have hv:=(hl (i,v)<|by simp).cells;rename_i off size _ _;refine Array.foldl_induction (motive:=fun _ x=>bG B x) hc ?_;intro k x hx;have:(v.cells.zipIdx[k]).1∈v.cells:=by simp
    exact bG.set hx (hv _ this) _
def aoP(F:Fit B P){ps:Array (Nat×aj)}(hp:∀x∈ps,az B x.2):Clean B P (az B) (Instr.build t ps):=by
 refine aJ (F8 F) fun z hz=>aJ jF fun u _=>?_;split
 ·refine aJ (afP (ok:=fun _=>True) _ fun f=>dh tZ fun _=>aO trivial) fun jD _=>?_
  ·split
   ·exact aO<|.agg (by have h:= ‹Instr.fill _ _ _=ae _›;exact VC _ _ _ hz.cells (fun x hx=>hp x<|by simpa using hx) h)
   ·exact cZ
 ·refine dh tZ fun s=>?_;split
  ·exact aO<|.agg (by have h:= ‹Instr.fill _ _ _=ae _›;exact VC _ _ _ hz.cells (fun x hx=>hp x<|by simpa using hx) h)
  ·exact cZ
 ·exact cZ
def aoQ(F:Fit B P){ps:Array (Nat×aj)}(hp:∀x∈ps,az B x.2):Clean B P (az B) (Instr.buildSlice t n ps):=by
 refine aJ jF fun u _=>?_;split
 ·refine dh tZ fun s=>?_;extract_lets-underBinder+onlyGivenNames j1
  have qW:∀z,Clean B P (az B) (j1 z):=by
   intro z;dsimp-zeta-zetaHave only[j1];extract_lets-underBinder+onlyGivenNames j2
   have BR:∀z,bG B z->Clean B P (az B) (j2 z):=by
    intro z hz;dsimp-zeta-zetaHave only[j2];split
    ·exact aJ (Qu (by have h:= ‹Instr.fill _ _ _=ae _›;exact VC _ _ _ (aad hz _) (fun x hx=>hp x<|by simpa using hx) h)) fun a ha=>aO<|.NI ha
    ·exact cZ
   exact fG (fun h=>aJ (aO bG.nil) BR) fun h=>aJ (F8 F) fun z hz=>aJ (aO hz.cells) BR
  exact fG (fun _=>dh (iM<|by simp) qW) fun _=>qW ()
 ·exact cZ
def aoR(F:Fit B P):Clean B P (az B) (Instr.alloc t true<|.tuple #[]):=
 aJ (F8 F) fun _ hz=>aJ (Vu hz) fun _ ha=>aO<|.qI ha
def aoS(hv:az B v):Clean B P (az B) (Instr.box t v):=aJ (Vu hv) fun _ ha=>aO<|.qI ha
def aoT(hv:az B v):Clean B P (az B) (Instr.loadAt t v):=aJ (Qy hv) fun _ ha=>afD ha
def aoU{u:aj}(hv:az B v)(hu:az B u):Clean B P (fun _=>True) (Instr.storeAt t v u):=aJ (Qy hv) fun _ ha=>aoA ha hu
def aoV(hv:az B v):Clean B P (az B) (Instr.fieldAt t v f):=by
 refine aJ jF fun u _=>?_;split
 ·split
  ·exact aJ (Qy hv) fun a ha=>aJ (aoE ha _) fun b hb=>aO<|.qI (by rw[hb];exact ha)
  ·exact cZ
 ·exact cZ
def aoW(F:Fit B P)(hv:az B v):Clean B P (az B) (Instr.indexAt t v i):=by
 refine dh Vw fun ki=>aJ jF fun u _=>?_;extract_lets-underBinder+onlyGivenNames jp
 have jg:∀z:Option Addr×Nat×bW,(∀x,z.1=ae x->¬B.bK x.block)->Clean B P (az B) (jp z):=by
  intro z hz;refine aJ jF fun u _=>?_;dsimp only;split
  ·rename_i a h0;exact fG (fun _=>dh tZ fun _=>aO<|.qI<|by simpa using hz _ h0) fun _=>fG (fun _=>iM<|by simp) fun _=>Qw F
  ·exact Qw F
 split
 ·exact aJ (Qy hv) fun a ha=>aJ (ok:=fun z=>∀x,z.1=ae x->¬B.bK x.block) (aO (by rintro x hx;cases hx;exact ha)) jg
 ·exact aJ (ok:=fun z=>∀x,z.1=ae x->¬B.bK x.block) (aO (by cases hv with|slice h=>exact h)) jg
 ·exact aJ (ok:=fun z=>∀x,z.1=ae x->¬B.bK x.block) cZ jg
def VD(F:Fit B P){x:aj}{y:Nat}{c:BoundsCode}:Clean B P (fun _=>True) (Instr.sliceBound x y c):=
 dh Vw fun _=>fG (fun _=>aO trivial) fun _=>Qw F
def Qz(F:Fit B P){b:Bool}{l:Nat}:Clean B P (fun _=>True) (Instr.sliceBounds b l c x y z):=by
 unfold Instr.sliceBounds;extract_lets-underBinder+onlyGivenNames jm
 have hjm:∀m,Clean B P (fun _=>True) (jm m):=by
  intro m;dsimp-zeta-zetaHave only[jm];extract_lets-underBinder+onlyGivenNames jh
  have XY:∀h,Clean B P (fun _=>True) (jh h):=by
   intro h;dsimp-zeta-zetaHave only[jh];extract_lets-underBinder+onlyGivenNames jl
   have Ju:∀l,Clean B P (fun _=>True) (jl l):=fun l=>aO trivial;split
   ·exact dh (VD F) Ju
   ·exact dh (aO trivial) Ju
  split
  ·exact dh (VD F) XY
  ·exact dh (VD F) XY
  ·exact dh (aO trivial) XY
  ·exact dh cZ XY
 split
 ·exact dh (VD F) hjm
 ·exact dh (aO trivial) hjm
def afT{c:Prop}[Decidable c](h:¬B.bK a.block):¬B.bK (if c then a else a.add n).block:=by
 split
 ·exact h
 ·simpa using h
def aoX(F:Fit B P)(hv:az B v):Clean B P (az B) (Instr.slice t v x y z):=by
 refine aJ jF fun u _=>?_;split
 ·exact fG (fun _=>dh cZ fun _=>dh (Qz F) fun _=>aO .string) fun _=>dh (Qz F) fun _=>aO .string
 ·refine dh (Qz F) fun b=>dh tZ fun s=>aO<|.slice ?_;cases hv with|slice h=>
  intro a ha;split at ha
  ·exact h _ ha
  ·obtain⟨a',h',rfl⟩:=yI.1 ha;simpa using h _ h'
 ·refine aJ (afF F hv) fun a ha=>aJ jF fun u _=>?_;split
  ·exact dh (Qz F) fun b=>dh tZ fun s=>aO<|.NI<|afT ha
  ·exact cZ
 ·exact cZ
def aoY(F:Fit B P)(hv:az B v):Clean B P (az B) (Instr.sliceAt t v x y z):=by
 refine aJ jF fun u _=>?_;split
 ·exact aJ (Qy hv) fun a ha=>dh (Qz F) fun b=>dh tZ fun s=>aO<|.NI<|afT ha
 ·exact aoX F hv
def aoZ(F:Fit B P)(hv:az B v):Clean B P (az B) (Instr.arrayAt t v):=by
 refine aJ jF fun u _=>?_;split
 ·split
  ·exact fG (fun _=>qH F) fun _=>aO (by cases hv with|slice h=>exact .pointer h)
  ·exact cZ
 ·exact cZ
def ao0(hv:az B v):Clean B P (az B) (Instr.field t v f):=by
 refine aJ jF fun u _=>?_;split
 ·split
  ·exact aJ (aoC hv) fun c hc=>Be hc
  ·exact cZ
 ·exact cZ
def ao1(F:Fit B P)(hv:az B v):Clean B P (az B) (Instr.index t v i):=by
 refine dh Vw fun ki=>aJ jF fun u _=>?_;split
 ·exact fG (fun _=>dh tZ fun _=>Be hv.Bf) fun _=>Qw F
 ·split
  ·exact aO .int
  ·exact Qw F
 ·exact cZ
def ao2{i:Nat}(hv:az B v):Clean B P (az B) (Instr.extract v i):=by
 unfold Instr.extract;split
 ·split
  ·exact aO<|hv.aoB.get ‹_›
  ·exact cZ
 ·exact cZ
end ai
end
section
namespace ai
open Go
variable{B:bP}{P:dO}{α β:Type}
variable{op:BinOp}{k:IntKind}{x y v:aj}{a b:Addr}{ts:Array bW}{t:bW}{args:Array aj}
def afU{x y:Int}:Clean B P (az B) (Op.intArith op k x y):=by
 unfold Op.intArith;split<;>first|exact aO .int|exact cZ
def afV{x y:Int}:Clean B P (az B) (Op.intBits op k x y):=by
 unfold Op.intBits;dsimp only;split<;>first|exact aO .int|exact cZ
def ao3{x y:Int}:Clean B P (az B) (Op.intCmp op x y):=by
 unfold Op.intCmp;split<;>first|exact aO .bool|exact cZ
def ao4(F:Fit B P){x y:Int}:Clean B P (az B) (Op.intDiv op k x y):=by
 refine fG (fun _=>qH F) fun _=>?_;split<;>first|exact aO .int|exact cZ
def ao5(F:Fit B P){l:IntKind}{x y:Int}:Clean B P (az B) (Op.shift op k x l y):=by
 refine fG (fun _=>qH F) fun _=>?_;dsimp only;split<;>first|exact aO .int|exact cZ
def aag{x y:ByteArray}:Clean B P (az B) (Op.stringOp op x y):=by
 unfold Op.stringOp;dsimp only;split<;>first|exact aO .bool|exact cZ|exact fG (fun _=>iM<|by simp) fun _=>aO .string
def ao6{k:FloatKind}{x y:Nat}:Clean B P (az B) (Op.floatArith op k x y):=by
 unfold Op.floatArith;extract_lets-underBinder+onlyGivenNames jp
 have jg:∀r,Clean B P (az B) (jp r):=by
  intro r;dsimp only[jp];split
  ·exact aO .float
  ·exact dh zU fun _=>aO .float
 split<;>first|exact dh (aO trivial) jg|exact dh cZ jg
def ao7{k:FloatKind}{x y:Nat}:Clean B P (az B) (Op.floatCmp op k x y):=by
 unfold Op.floatCmp;dsimp only;split<;>first|exact aO .bool|exact cZ
def ao8{op:UnOp}(hx:az B x):Clean B P (az B) (Op.unary op x):=by
 unfold Op.unary;split
 ·exact afU
 ·exact afV
 ·exact aO .float
 ·cases hx
 ·exact aO .bool
 all_goals first|exact iM (by simp)|exact cZ
def ao9{b:Bool}(h:¬B.bK a.block):Clean B P (az B) (asNumber a b):=aJ (Vt<|show lN B (.number a b)from h) fun _ hr=>aO<|.qI hr
def aah(hx:az B x):Clean B P (az B) (Builtin.unsafeAdd_ ts t #[x,y]):=by
 cases x with
 |pointer ptr=>
  refine dh (α:=Int) NH fun n=>?_;extract_lets-underBinder+onlyGivenNames jp
  have jg:∀z,Clean B P (az B) (jp z):=by
   intro z;dsimp-zeta-zetaHave only[jp];extract_lets-underBinder+onlyGivenNames jq
   have LQ:∀z,Clean B P (az B) (jq z):=by
    intro z;dsimp-zeta-zetaHave only[jq];split
    ·refine dh Ej fun s=>?_;split
     ·refine aJ yR fun p _=>?_;split
      ·have h:=hx.ptr;exact aO<|.qI h
      ·exact iM<|by simp
     ·exact iM<|by simp
    ·exact iM<|by simp
   exact fG (fun _=>dh (iM<|by simp) LQ) fun _=>LQ ()
  refine fG (fun _=>?_) fun _=>jg ();split
  ·exact dh (afG hx.ptr) fun _=>fG (fun _=>dh (iM<|by simp) fun _=>aO hx) fun _=>aO hx
  ·exact iM<|by simp
 |_=>exact cZ
def VE(hx:az B x):Clean B P (az B) (movedNumber t x y):=by
 refine aJ jF fun u _=>?_;extract_lets-underBinder+onlyGivenNames jp
 have jg:∀z,Clean B P (az B) (jp z):=by
  intro z;dsimp-zeta-zetaHave only[jp];split
  ·refine aJ (F9 hx.ptr) fun a ha=>aJ (aah<|.qI ha) fun v hv=>?_;split
   ·exact ao9 hv.ptr
   ·exact aO hv
  ·exact aah hx
 split;all_goals first|exact dh (iM<|by simp) jg|exact jg ()
def afW(hx:az B x):Clean B P (az B) (movedPointer t x y):=by
 unfold movedPointer;extract_lets-underBinder+onlyGivenNames jp
 have jg:∀z,Clean B P (az B) (jp z):=fun z=>aah hx;split
 ·exact aJ (afI hx.ptr) fun _ _=>fG (fun _=>dh (iM<|by simp) jg) fun _=>jg ()
 ·exact jg ()
def afX(ha:¬B.bK a.block)(hb:¬B.bK b.block):Clean B P (fun _=>True) (Op.twoPlaces a b):=by
 refine aJ yR fun p _=>fG (fun _=>dh (iM<|by simp) fun _=>?_) fun _=>?_;all_goals exact dh (Kq ha) fun _=>dh (Kq hb) fun _=>aO trivial
def apa(ha:¬B.bK a.block)(hb:¬B.bK b.block):Clean B P (az B) (Op.addrCmp op a b):=by
 refine dh (afX ha hb) fun xy=>?_;dsimp only;split<;>first|exact aO .bool|exact iM<|by simp
def afY{n:Int}(ha:¬B.bK a.block):Clean B P (az B) (Op.addrMod k a n):=by
 refine dh Ej fun s=>?_;split
 ·refine aJ Bd fun _ _=>fG (fun _=>dh (iM<|by simp) fun _=>?_) fun _=>?_;all_goals exact dh (Kq ha) fun _=>aO .int
 ·exact iM<|by simp
def apb(F:Fit B P)(hx:az B x)(hy:az B y):Clean B P (az B) (binOp op t x y):=by
 unfold binOp;split;case h_5=>cases hx
 case h_3=>
  refine fG (fun _=>cZ) fun _=>?_
  split<;>first|exact afU|exact ao4 F|exact afV|exact ao3
 case h_4=>
  refine fG (fun _=>cZ) fun _=>?_
  split<;>first|exact ao6|exact ao7
 all_goals first
  |exact ao5 F
  |exact aag
  |exact dh (afJ F hx hy) fun _=>aO .bool
  |exact VE hx
  |exact VE hy
  |exact iM<|by simp
  |exact cZ
  |exact aJ (F9 hx.ptr) fun a ha=>aJ (F9 hy.ptr) fun b hb=>dh (afX ha hb) fun _=>aO .int
  |exact aJ (F9 hx.ptr) fun a ha=>aJ (F9 hy.ptr) fun b hb=>apa ha hb
  |exact aJ (F9 hx.ptr) fun a ha=>afY ha
  |exact aJ (F9 hy.ptr) fun a ha=>afY ha
  |(refine aJ jF fun u _=>?_;split<;>split<;>first|exact afW hx|exact VE hx)
  |(refine aJ jF fun u _=>?_;split<;>first|exact afW hx|exact VE hx)
def apc{x y:Operand}{a b:aj}(ha:az B a)(hb:az B b):Clean B P (fun _=>True) (eqGuard op t x y a b):=by
 unfold eqGuard;have hg:∀(u:Unsupported),(∀g,u≠.initOrder g)->Clean B P (fun _=>True) (do if<-Op.eqGuardIn Op.maxDepth t a b then unsupported u:Sem Unit):=fun u hu=>dh (aab _ _ _ _ ha hb) fun _=>fG (fun _=>iM hu) fun _=>aO trivial;refine fG (fun _=>aO trivial) fun _=>?_;split
 ·exact fG (fun _=>aO trivial) fun _=>hg _<|by simp
 ·exact aJ yR fun _ _=>aJ yR fun _ _=>fG (fun _=>aO trivial) fun _=>hg _<|by simp
 ·exact aO trivial
def aai(P:dO)(src dst:bW):Bool:=
 match P.underlying src,P.underlying dst with
 |some (.int _),ae (.int _)=>true
 |some (.int _),ae .string=>true
 |some .string,ae .string=>true
 |some .string,ae (.slice e)=>match P.underlying e with|some (.int .u8)=>true|_=>false
 |some (.slice e),ae .string=>match P.underlying e with|some (.int .u8)=>true|_=>false
 |_,_=>false
def apd:Clean B P (fun _=>True) (markStringish a):=by
 refine dh Ej fun x=>?_;split
 ·exact aoy
 ·exact aO trivial
def ape{s:ByteArray}:Clean B P (az B) (Conv.stringToBytes t s):=by
 refine dh zU fun c=>aJ (Qu<|afQ.append ?_) fun a ha=>dh apd fun _=>aO<|.NI ha;intro v hv;obtain⟨_,rfl⟩:=MQ.1 hv;exact .int
def apf(hx:az B x):Clean B P (az B) (Conv.bytesToString x):=by
 unfold Conv.bytesToString;split
 ·exact aO .string
 ·refine aJ (Z4 hx.Qx _) fun c _=>dh ?_ fun _=>aO .string;refine Vx _ _ fun x b=>?_;split<;>first|exact aO trivial|exact dh cZ fun _=>aO trivial|exact cZ
 ·exact cZ
def apg{k:FloatKind}{b:Nat}{i:IntKind}:Clean B P (az B) (Conv.floatToInt k b i):=by
 unfold Conv.floatToInt;dsimp only;repeat' (first|exact aO .int|exact dh zU fun _=>aO .int|split)
def aph{src dst:bW}(h:aai P src dst=true)(hx:az B x):Clean B P (az B) (convert src dst x):=by
 refine aJ jF fun su hsu=>aJ jF fun du hdu=>?_;unfold aai at h;rw[hsu,hdu]at h;have hu8:∀{e:bW} {d:TypeDesc},(match P.underlying e with|some (.int .u8)=>true|_=>false)=true->P.underlying e=ae d->d=.int .u8:=by
  intro e d he hd;rw[hd]at he;split at he
  ·rename_i h;cases h;rfl
  ·cases he
 split at h
 ·rename_i h1 h2;cases h1;cases h2;cases x;case pointer a=>cases a<;>exact iM (by simp)
  all_goals first|exact aO .int|exact iM (by simp)|exact apg|cases hx
 ·rename_i h1 h2;cases h1;cases h2;cases x;case pointer a=>cases a<;>exact iM (by simp)
  all_goals first|exact aO .string|exact iM (by simp)|cases hx
 ·rename_i h1 h2;cases h1;cases h2;cases x;all_goals first|exact aO .string|exact iM (by simp)|cases hx
 ·rename_i h1 h2;cases h1;cases h2;cases x;case string s=>
   refine aJ jF fun d hd=>?_
   have:=hu8 h hd
   subst this
   exact ape
  case slice a n m=>cases a<;>exact iM<|by simp
  all_goals first|exact iM (by simp)|cases hx
 ·rename_i e h1 h2;cases h1;cases h2;have hgo:∀x,az B x->Clean B P (az B) (do
   match<-underlying e with
   | .int .u8=>Conv.bytesToString x
   | .int .i32=>Conv.runesToString x
   |_=>stuck "Convert: a slice of what to string?" :Sem aj):=by
   intro x hx;refine aJ jF fun d hd=>?_;have:=hu8 h hd;subst this;exact apf hx
  cases x;case slice a n m=>cases a<;>exact hgo _ hx
  all_goals first|exact aO .string|exact hgo _ hx|exact iM (by simp)|cases hx
 ·cases h
def apj(ha:bG B args):Clean B P (az B) (Builtin.cap_ ts t args):=by
 unfold Builtin.cap_;split
 ·rename_i ty x h0;have hx:az B x:=by simp only[tV]at h0;exact ha.get h0.2
  refine aJ jF fun u _=>?_;split;case h_2=>
   refine aJ jF fun u _=>?_
   split<;>first|exact aO .int|exact cZ
  case h_5=>
   cases hx with|chan hx=>
   refine aJ (wO<|hx _ rfl) fun o _=>?_
   split<;>first|exact aO .int|exact cZ
  all_goals first|exact aO .int|exact cZ
 ·exact cZ
def apk(ha:bG B args):Clean B P (az B) (Builtin.len_ ts t args):=by
 unfold Builtin.len_;split
 ·rename_i ty x h0;have hx:az B x:=by simp only[tV]at h0;exact ha.get h0.2
  refine aJ jF fun u _=>?_;split;case h_3=>
   refine aJ jF fun u _=>?_
   split<;>first|exact aO .int|exact cZ
  case h_7=>
   refine aJ (wO hx.mp) fun o _=>?_
   split<;>first|exact aO .int|exact cZ
  case h_8=>
   cases hx with|chan hx=>
   refine aJ (wO<|hx _ rfl) fun o _=>?_
   split<;>first|exact aO .int|exact cZ
  all_goals first|exact aO .int|exact cZ
 ·exact cZ
def apl(F:Fit B P)(ha:bG B args):Clean B P (az B) (Builtin.clear_ ts t args):=by
 unfold Builtin.clear_;split
 ·rename_i ty x h0;have hx:az B x:=by simp only[tV]at h0;exact ha.get h0.2
  refine aJ jF fun u _=>?_;extract_lets-underBinder+onlyGivenNames jp
  have jg:∀z,Clean B P (az B) (jp z):=fun z=>aO<|.tuple bG.nil;split;case h_4=>
   refine aJ (wO hx.mp) fun o _=>?_
   split
   ·exact dh (Em hx.mp (show mY B #[]from by intro e h;simp at h)) jg
   ·exact dh cZ jg
  case h_5=>exact aJ (F8 F) fun z hz=>dh (NG hx.Qx _ _ fun v hv=>aae hz.cells _ v<|by simpa using hv) jg
  all_goals first|exact dh (aO trivial) jg|exact dh cZ jg|exact jg ()
 ·exact cZ
def apm(ha:bG B args):Clean B P (az B) (Builtin.copy_ ts t args):=by
 unfold Builtin.copy_;split
 ·rename_i ty x y h0;have hx:az B x:=by simp only[tV]at h0;exact ha.get h0.2.1
  have hy:az B y:=by simp only[tV]at h0;exact ha.get h0.2.2
  refine aJ jF fun u _=>?_;split
  ·split
   ·refine dh afR fun n=>dh tZ fun s=>aJ (aaf hy) fun c hc=>?_;split
    ·exact dh (NG hx.Qx _ _ fun v hv=>hc v<|by simpa using hv) fun _=>aO .int
    ·exact aO .int
   ·exact cZ
  ·exact cZ
 ·exact cZ
def apn(F:Fit B P)(ha:bG B args):Clean B P (az B) (Builtin.delete_ ts t args):=by
 unfold Builtin.delete_;split
 ·rename_i ty x y h0;have hx:az B x:=by simp only[tV]at h0;exact ha.get h0.2.1
  have hy:az B y:=by simp only[tV]at h0;exact ha.get h0.2.2
  refine aJ jF fun u _=>?_;split
  ·extract_lets-underBinder+onlyGivenNames jp
   have jg:∀z,Clean B P (az B) (jp z):=fun z=>aO<|.tuple bG.nil;split
   ·exact dh (Gf F _ _ _ _ hy) jg
   ·refine aJ (wO hx.mp) fun o ho=>?_;split
    ·have ho:mY B _:=ho;refine dh (Gf F _ _ _ _ hy) fun _=>aJ (Vz F hy ho) fun r _=>?_;split
     ·refine dh (Em hx.mp<|show mY B _ from ?_) jg;intro e he;unfold Array.eraseIdxIfInBounds at he;split at he
      ·exact ho e<|Array.mem_of_mem_eraseIdx he
      ·exact ho e he
     ·exact dh (Em hx.mp ho) jg
    ·exact dh cZ jg
   ·exact dh cZ jg
  ·exact cZ
 ·exact cZ
def aaj{ok:β->Prop}{γ:Type}{f:β->γ->Sem β}:∀(l:List γ) (b:β),ok b->(∀x∈l,∀b,ok b->Clean B P ok (f b x))->Clean B P ok (l.foldlM f b)
 |[],b,hb,_=>by rw[List.foldlM_nil];exact hb
 |x::l,b,hb,h=>by rw[List.foldlM_cons];exact aJ (h x (by simp) b hb) fun c hc=>aaj l c hc fun y hy=>h y<|by simp[hy]
def apo:Clean B P (az B) (Builtin.max2 x y):=by
 unfold Builtin.max2;split;case h_2=>split<;>first|exact aO .float|exact dh zU fun _=>aO .float
 all_goals first|exact aO .int|exact iM (by simp)|exact cZ|exact aJ aag fun _ _=>dh Z5 fun _=>aO .string
def apq:Clean B P (az B) (Builtin.min2 x y):=by
 unfold Builtin.min2;split;case h_2=>split<;>first|exact aO .float|exact dh zU fun _=>aO .float
 all_goals first|exact aO .int|exact iM (by simp)|exact cZ|exact aJ aag fun _ _=>dh Z5 fun _=>aO .string
def apr(ha:bG B args):Clean B P (az B) (Builtin.max_ ts t args):=by
 unfold Builtin.max_;split
 ·exact cZ
 ·rename_i x l h;exact aaj _ _ (ha x (by rw[<-alf,h];simp)) fun y _ b _=>apo
def aps(ha:bG B args):Clean B P (az B) (Builtin.min_ ts t args):=by
 unfold Builtin.min_;split
 ·exact cZ
 ·rename_i x l h;exact aaj _ _ (ha x (by rw[<-alf,h];simp)) fun y _ b _=>apq
def VF:aj->Bool
 | .bool _| .int _ _| .float _ _| .string _| .nilFunc| .nilIface| .pointer af| .slice af _ _| .map af| .chan af=>true
 |_=>false
def VG:aj->Bool
 | .agg a=>a.all VF
 |v=>VF v
def QA:aj->Bool
 | .tuple a=>a.all VG
 |v=>VG v
def af0(h:VF v=true):az B v:=by
 unfold VF at h;split at h;all_goals first|exact .bool|exact .int|exact .float|exact .string|exact .nilFunc|exact .nilIface|exact .pointer (by simp)|exact .slice (by simp)|exact .map (by simp)|exact .chan (by simp)|cases h
def af1(h:VG v=true):az B v:=by
 unfold VG at h;split at h
 ·rw[Fz]at h;refine .agg fun x hx=>?_;obtain⟨i,hi,rfl⟩:=Fp.1 hx;exact af0<|h i hi
 ·exact af0 h
def af2(h:QA v=true):az B v:=by
 unfold QA at h;split at h
 ·rw[Fz]at h;refine .tuple fun x hx=>?_;obtain⟨i,hi,rfl⟩:=Fp.1 hx;exact af1<|h i hi
 ·exact af1 h
def Kt(l:FuncId->Bool)(g:Nat):Operand->Bool
 | .tmp _=>true
 | .const v=>QA v
 | .global n=>n<g
 | .func f=>l f
def aak(l:FuncId->Bool)(g:Nat)(c:Call):Bool:=
 c.args.all (Kt l g)&&match c.callee with
  | .value f=>Kt l g f
  | .builtin b=>match b with
    | .append| .cap| .clear| .copy| .delete| .len| .max| .min=>true
    |_=>false
  | .invoke _ _=>false
def ry(P:dO)(l:FuncId->Bool)(o:Op):Bool:=
 let r:=Kt l P.globals.size
 match o with
 | .move x| .assign x| .box _ x| .load _ x| .nilCheck x| .unOp _ _ x| .sliceToArrayPointer _ x| .fieldAddr _ x _| .field _ x _| .range _ x| .next x _| .entry x| .extract x _| .makeInterface _ x| .panic x=>r x
 | .pick a b c=>r a&&r b&&r c
 | .alloc _=>true
 | .build _ ps| .buildSlice _ _ ps=>ps.all fun x=>r x.2
 | .store _ a v| .binOp _ _ a v _| .makeSlice _ a v| .indexAddr _ a v| .index _ a v| .lookup _ a v _| .mapEntry _ a v=>r a&&r v
 | .convert s d x=>aai P s d&&r x
 | .makeFunc (.func f) a c=>l f&&a.all r&&c.all r
 | .makeMap _ _=>true
 | .slice _ x _ _ _=>r x
 | .mapUpdate _ a b c| .entryStore _ a b c| .insert _ a b c=>r a&&r b&&r c
 | .call c=>aak l P.globals.size c
 |_=>false
def En(B:bP):Next->Prop
 | .value v=>az B v
 | .skip=>True
 | .enter f args=>B.let_ f=true/\bG B args
 |_=>False
structure VH(B:bP)(P:dO):Prop where
 fn:∀f,B.let_ f=true->∃fn,P.funcs[f]? =ae fn/\(fn.name== "runtime.NumGoroutine")=false/\fn.body.isNone=false
def apt(H:VH B P){f:FuncId}(hf:B.let_ f=true)(ha:bG B args):Clean B P (En B) (callFunc f args):=by
 obtain⟨fn,h1,h2,h3⟩:=H.fn f hf;refine aJ yR fun p hp=>?_;subst hp;rw[h1];dsimp only;rw[h2,h3];exact aO<|show En B (.enter f args)from⟨hf,ha⟩
def af4{γ:Type}{l:Array γ}{f:γ->aj}(h:∀x∈l,az B<|f x):bG B (l.map f):=by
 intro v hv;obtain⟨x,hx,rfl⟩:=UH.1 hv;exact h x hx
structure Env(B:bP)(P:dO)(ρ:Operand->aj):Prop where
 val:∀x,Kt B.let_ P.globals.size x=true->az B (ρ x)
def apu(F:Fit B P)(H:VH B P){ρ:Operand->aj}(E:Env B P ρ){c:Call}(h:aak B.let_ P.globals.size c=true):Clean B P (En B) (do let d <-resolve ρ c t;invoke d.target d.args:Sem Next):=by
 simp only[aak,lX]at h;have ha:bG B (c.args.map ρ):=af4 fun x hx=>E.val _ (by
  obtain⟨i,hi,rfl⟩:=Fp.1 hx;exact(Fz.1 h.1) i hi)
 unfold resolve;dsimp only;split
 ·rename_i b hb;rw[hb]at h;refine aJ (ok:=fun d=>d={target:=.builtin b c.argTypes t (c.args.map fun| .const _=>true|_=>false),args:=c.args.map ρ}) (aO rfl) fun d hd=>?_;subst hd;have hv:∀{s:Sem aj},Clean B P (az B) s->Clean B P (En B) (do pure (.value<|<-s):Sem Next):=fun hs=>aJ hs fun v hv=>aO hv;cases b<;>first|exact hv (NJ F ha)|exact hv (apj ha)|exact hv (apl F ha)|exact hv (apm ha)|exact hv (apn F ha)|exact hv (apk ha)|exact hv (apr ha)|exact hv (aps ha)|(simp at h)
 ·rename_i r n hb;rw[hb]at h;simp at h
 ·rename_i f hb;rw[hb]at h;have hf:=E.val _ h.2;unfold Deferred.ofValue;generalize ρ f=fv at hf;cases hf with
  |func hl h1 h2=>exact apt H hl<|(bG.append h1 ha).append h2
  |nilFunc=>
   show Clean B P (En B) (runtimePanic .nilDeref);exact qH F
  |_=>exact cZ
def aal(F:Fit B P)(H:VH B P){ρ:Operand->aj}(E:Env B P ρ){o:Oper}(h:ry P B.let_ o.op=true):Clean B P (En B) (dJ ρ o):=by
 have hv:∀{s:Sem aj},Clean B P (az B) s->Clean B P (En B) (do pure (.value<|<-s):Sem Next):=fun hs=>aJ hs fun v hv=>aO hv;have hu:∀{s:Sem Unit},Clean B P (fun _=>True) s->Clean B P (En B) (do s;pure .skip:Sem Next):=fun hs=>aJ hs fun v hv=>aO trivial;have fP:∀{ps:Array (Nat×Operand)},ps.all (fun x=>Kt B.let_ P.globals.size x.2)=true->∀x∈ps.map (fun(i,x)=>(i,ρ x)),az B x.2:=by
  intro ps hp x hx;obtain⟨y,hy,rfl⟩:=UH.1 hx;obtain⟨i,hi,rfl⟩:=Fp.1 hy;exact E.val _<|(Fz.1 hp) i hi
 have has:∀{a:Array Operand},a.all (Kt B.let_ P.globals.size)=true->bG B (a.map ρ):=by
  intro a ha;refine af4 fun x hx=>E.val _ ?_;obtain⟨i,hi,rfl⟩:=Fp.1 hx;exact(Fz.1 ha) i hi
 unfold dJ;obtain⟨dst,op,ty,pos,after,guard⟩:=o;dsimp only at h⊢
 cases op with
 |move x=>exact aO<|E.val _ h
 |assign x=>exact aO<|E.val _ h
 |pick a b c=>
  simp only[ry,lX]at h;refine dh Z5 fun t=>aO ?_;show az B _;split
  ·exact E.val _ h.1.2
  ·exact E.val _ h.2
 |alloc t=>exact hv<|aoR F
 |box t x=>exact hv<|aoS<|E.val _ h
 |build t ps=>exact hv<|aoP F<|fP h
 |buildSlice t n ps=>exact hv<|aoQ F<|fP h
 |load t x=>exact hv<|aoT<|E.val _ h
 |store t a x=>
  simp only[ry,lX]at h;exact hu<|aoU (E.val _ h.1)<|E.val _ h.2
 |nilCheck x=>
  have hx:=E.val _ h;dsimp only;generalize ρ x=fv at hx;cases hx;case pointer a h=>cases a with
   |none=>exact qH F
   |some a=>exact aO<|show az B _ from .pointer h
  case func h1 h2 h3=>exact aO<|show az B _ from .func h1 h2 h3
  case slice h=>exact aO<|show az B _ from .slice h
  case map h=>exact aO<|show az B _ from .map h
  case chan h=>exact aO<|show az B _ from .chan h
  case iface h=>exact aO<|show az B _ from .iface h
  case agg h=>exact aO<|show az B _ from .agg h
  case tuple h=>exact aO<|show az B _ from .tuple h
  case bool=>exact aO<|show az B _ from .bool
  case int=>exact aO<|show az B _ from .int
  case float=>exact aO<|show az B _ from .float
  case string=>exact aO<|show az B _ from .string
  all_goals exact qH F
 |binOp b t x y u=>
  simp only[ry,lX]at h;exact hv<|aJ (apc (E.val _ h.1)<|E.val _ h.2) fun _ _=>apb F (E.val _ h.1)<|E.val _ h.2
 |unOp b t x=>exact hv<|ao8<|E.val _ h
 |convert s d x=>
  simp only[ry,lX]at h;exact hv<|aph h.1<|E.val _ h.2
 |sliceToArrayPointer t x=>exact hv<|aoZ F<|E.val _ h
 |makeFunc fn a c=>
  cases fn with
  |func f=>
   simp only[ry,lX]at h;exact aO<|show az B _ from .func h.1.1 (has h.1.2) (has h.2)
  |_=>simp[ry]at h
 |makeMap t r=>exact hv aoJ
 |makeSlice t a b=>exact hv<|aoO F
 |slice t x a b c=>exact hv<|aoY F<|E.val _ h
 |fieldAddr t x f=>exact hv<|aoV<|E.val _ h
 |field t x f=>exact hv<|ao0<|E.val _ h
 |indexAddr t x i=>
  simp only[ry,lX]at h;exact hv<|aoW F<|E.val _ h.1
 |index t x i=>
  simp only[ry,lX]at h;exact hv<|ao1 F<|E.val _ h.1
 |lookup t x i ok=>
  simp only[ry,lX]at h;exact hv<|aoG F (E.val _ h.1)<|E.val _ h.2
 |mapUpdate t m k x=>
  simp only[ry,lX]at h;exact hu<|aac F (E.val _ h.1.1) (E.val _ h.1.2)<|E.val _ h.2
 |insert t m k x=>
  simp only[ry,lX]at h;exact hu<|aac F (E.val _ h.1.1) (E.val _ h.1.2)<|E.val _ h.2
 |mapEntry t m k=>
  simp only[ry,lX]at h;exact hv<|aoH F (E.val _ h.1)<|E.val _ h.2
 |entryStore t m s x=>
  simp only[ry,lX]at h;exact hu<|aoI (E.val _ h.1.1)<|E.val _ h.2
 |range t x=>exact hv<|aoK<|E.val _ h
 |next x s=>exact hv<|aoL<|E.val _ h
 |entry x=>exact hv<|aoM<|E.val _ h
 |extract x i=>exact hv<|ao2<|E.val _ h
 |call c=>exact apu F H E h
 |makeInterface t x=>
  refine hv<|aJ jF fun u _=>?_;split
  ·exact cZ
  ·exact aO<|.iface<|E.val _ h
 |panic x=>
  refine hv ?_;unfold Instr.panic;split
  ·exact Qv
  ·refine dh (α:=Int) ?_ fun _=>fG (fun _=>Qv) fun _=>qH F;refine dh (α:=SysRet) (s:=sys .env) ⟨rfl,fun _=>trivial⟩ fun r=>?_;split
   ·exact aJ yR fun _ _=>aO trivial
   ·exact cZ
  ·exact cZ
 |_=>simp[ry]at h
end ai
end
end Go.Proofs.YtkelpcjiediamaaGreat
