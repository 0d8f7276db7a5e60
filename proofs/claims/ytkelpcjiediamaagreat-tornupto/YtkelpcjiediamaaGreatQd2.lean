import Derived.Test.YtkelpcjiediamaaGreatQd1
import Derived.Laws.Sem
set_option maxRecDepth 100000
set_option maxHeartbeats 0
set_option linter.all false
namespace Go.Proofs.YtkelpcjiediamaaGreat
open Go renaming Program→eF,TypeId→dw,Value→az,execOp→dP
open Go.Value renaming pointer→ay,slice→aJ,tuple→dK
open Option renaming none→af,some→ae
section
namespace au
open Go
variable{B:cO}{P:eF}{α β:Type}
def dG{ok:β->Prop}{s:Sem α}{f:α->Sem β}(h:Clean B P (fun _=>True) s)(hf:∀a,Clean B P ok<|f a):Clean B P ok (s>>=f):=aS h fun a _=>hf a
def ahn{γ:Type}{ok:β->Prop}{f:γ->Sem β}:∀(l:List γ),(∀x∈l,Clean B P ok<|f x)->Clean B P (fun r=>∀y∈r,ok y) (l.mapM f)
 |[],_=>by rw[List.mapM_nil];exact aW<|by simp
 |x::l,h=>by
  rw[List.mapM_cons];refine aS (h x<|by simp) fun y hy=>aS (ahn l fun z hz=>h z<|by simp[hz]) fun r hr=>aW ?_;intro z hz;rcases jR.1 hz with rfl|hz
  ·exact hy
  ·exact hr z hz
def aho{γ:Type}{ok:β->Prop}{f:γ->Sem β}(l:Array γ)(h:∀x,Clean B P ok<|f x):Clean B P (fun r=>∀y∈r,ok y) (l.mapM f):=by
 rw[Array.mapM_eq_mapM_toList];exact ag6 (ahn _ fun x _=>h x) fun r hr y hy=>hr y<|by simpa using hy
def abD{z:Array az}(hz:bT B z)(n:Nat):bT B ((Array.range n).map (z[· %z.size]!)):=by
 intro v hv;obtain⟨i,hi,rfl⟩:=VY.1 hv;by_cases hs:i%z.size<z.size
 ·simp only[hs,getElem!_pos];exact hz _<|QO _
 ·simp only[hs,not_false_eq_true,getElem!_neg];exact .bool
def abE{z:Array az}(hz:bT B z)(n:Nat):bT B (Builtin.zeroCells z n):=abD hz _
def ahp{s:Array UInt8}:bT B (s.map fun b=>Value.int .u8 b.toNat):=by
 intro v hv;obtain⟨i,_,rfl⟩:=VY.1 hv;exact .int
variable{z x y:Option az}{v i:az}{n c f:Nat}{a:Addr}{t:dw}
def ahq:Clean B P (fun _=>True) (Builtin.lenOf v):=by
 unfold Builtin.lenOf;split
 ·exact aW trivial
 ·exact aW trivial
 ·exact dE
def abG{s:Nat}(hv:aG B v):Clean B P (bT B) (Builtin.firstCells s n v):=by
 unfold Builtin.firstCells;split
 ·exact abw hv.RJ _
 ·exact aW bT.nil
 ·exact aW ahp
 ·exact dE
def ahr:Clean B P (fun _=>True) (Builtin.holdsCells a n):=by
 refine dG Fh fun x=>?_;split<;>exact aW trivial
def aqu{a b:Nat}{x:Option Addr}:Clean B P (fun _=>True) (Builtin.mayShare a b c x v):=by
 unfold Builtin.mayShare;extract_lets jp
 have jE:∀b,Clean B P (fun _=>True) (jp b):=by
  intro b;refine gp (fun _=>aW trivial) fun _=>?_;split
  ·exact dG ahr fun _=>aW trivial
  ·exact aW trivial
 split
 ·exact dG (aW trivial) jE
 ·exact dG ahr fun _=>dG RD fun _=>dG (aW trivial) jE
def OT(F:Fit B P){ts:Array dw}{args:Array az}(ha:bT B args):Clean B P (aG B) (Builtin.append_ ts t args):=by
 unfold Builtin.append_;split
 ·rename_i aBv s x h0;have hs:aG B s:=by
   simp only[uD]at h0;exact ha.get h0.2.1
  have hx:aG B x:=by
   simp only[uD]at h0;exact ha.get h0.2.2
  refine aS jW fun u hu=>?_;split
  ·split
   ·refine dG uI fun size=>?_;extract_lets-underBinder+onlyGivenNames jz
    have Qw:∀z,Clean B P (aG B) (jz z):=by
     intro zeros;dsimp-zeta-zetaHave only[jz];extract_lets-underBinder+onlyGivenNames jn
     have Qx:∀n,Clean B P (aG B) (jn n):=by
      intro n;dsimp-zeta-zetaHave only[jn];extract_lets-underBinder+onlyGivenNames lC need
      have alG:Clean B P (bT B) lC:=by
       refine gp (fun _=>abG hx) fun _=>gp (fun _=>aW bT.nil) fun _=>aS (Hg F) fun z hz=>aW<|abE hz.cells _
      refine gp (fun _=>?_) fun _=>?_
      ·refine aS alG fun new Ae=>?_;extract_lets-underBinder+onlyGivenNames jp
       have jE:∀z,Clean B P (aG B) (jp z):=fun z=>aW (by cases hs with|slice h=>exact .slice h);split
       ·exact dG (OM (by simpa using hs.RJ) _ _ fun v hv=>Ae v<|by simpa using hv) jE
       ·exact jE ()
      ·refine aS Cf fun _ _=>?_;extract_lets-underBinder+onlyGivenNames j1
       have rW:∀z,Clean B P (aG B) (j1 z):=by
        intro z;refine aS Cf fun _ _=>?_;extract_lets-underBinder+onlyGivenNames j2
        have Dt:∀z,Clean B P (aG B) (j2 z):=by
         intro z;refine dG AZ fun c=>aS Cf fun _ _=>dG aha fun _=>aS (abG hs) fun old hold=>aS alG fun new Ae=>aS (Hg F) fun z hz=>aS (RF<|(hold.append Ae).append<|abE hz.cells _) fun a ha=>aW<|.OQ ha
        refine gp (fun _=>dG ?_ Dt) fun _=>Dt ();refine gp (fun _=>rD F) fun _=>dG aqu fun _=>gp (fun _=>dG ⟨rfl,trivial⟩ fun _=>jd<|by simp) fun _=>jd<|by simp
       exact gp (fun _=>dG (rD F) rW) fun _=>rW ()
     refine gp (fun _=>?_) fun _=>dG ahq Qx;refine dG OO fun l=>?_;extract_lets-underBinder+onlyGivenNames l' j1
     have rW:∀z,Clean B P (aG B) (j1 z):=by
      intro z;refine aS Cf fun _ _=>?_;extract_lets-underBinder+onlyGivenNames j2
      have Dt:∀z,Clean B P (aG B) (j2 z):=fun z=>dG (aW trivial) Qx;exact gp (fun _=>dG AZ fun _=>dG (rD F) Dt) fun _=>Dt ()
     exact gp (fun _=>dG (rD F) rW) fun _=>rW ()
    split
    ·exact aS jW fun _ _=>dG (aW trivial) Qw
    ·exact dG (aW trivial) Qw
   ·exact dE
  ·exact dE
 ·exact dE
def aqv(F:Fit B P){l c:az}:Clean B P (aG B) (Instr.makeSlice t l c):=by
 refine aS jW fun u hu=>?_;split
 ·refine dG OO fun l=>dG OO fun c=>aS Cf fun i hi=>?_;extract_lets-underBinder+onlyGivenNames by_ tl l' c' j1
  have rW:∀z,Clean B P (aG B) (j1 z):=by
   intro z;refine dG aha fun _=>dG uI fun s=>?_;extract_lets-underBinder+onlyGivenNames n j2
   have Dt:∀z,bT B z->Clean B P (aG B) (j2 z):=fun z hz=>aS (RF<|abD hz _) fun a ha=>aW<|.OQ ha;exact gp (fun h=>aS (aW bT.nil) Dt) fun h=>aS (Hg F) fun z hz=>aS (aW hz.cells) Dt
  refine gp (fun _=>?_) fun _=>rW ();exact gp (fun _=>dG (rD F) rW) fun _=>gp (fun _=>dG (rD F) rW) fun _=>dG AZ fun _=>dG (rD F) rW
 ·exact dE
def WZ{pl:Nat->Option (Nat×Nat)}:∀(l:List (Nat×az)) (c c':Array az),bT B c->(∀x∈l,aG B x.2)->Instr.fill pl c l=ae c'->bT B c'
 |[],c,c',hc,_,h=>by simp[Instr.fill]at h;exact h▸hc
 |(i,v)::l,c,c',hc,hl,h=>by
  unfold Instr.fill at h;split at h
  ·cases h
  ·split at h
   ·cases h
   ·refine WZ l _ c' ?_ (fun x hx=>hl x<|by simp[hx]) h;have hv:=(hl (i,v)<|by simp).cells;rename_i off size _ _;refine Array.foldl_induction (motive:=fun _ x=>bT B x) hc ?_;intro k x hx;have:(v.cells.zipIdx[k]).1∈v.cells:=by simp
    exact bT.set hx (hv _ this) _
def aqw(F:Fit B P){ps:Array (Nat×az)}(hp:∀x∈ps,aG B x.2):Clean B P (aG B) (Instr.build t ps):=by
 refine aS (Hg F) fun z hz=>aS jW fun u _=>?_;split
 ·refine aS (aho (ok:=fun _=>True) _ fun f=>dG uI fun _=>aW trivial) fun jU _=>?_
  ·split
   ·exact aW<|.agg (by have h:= ‹Instr.fill _ _ _=ae _›;exact WZ _ _ _ hz.cells (fun x hx=>hp x<|by simpa using hx) h)
   ·exact dE
 ·refine dG uI fun s=>?_;split
  ·exact aW<|.agg (by have h:= ‹Instr.fill _ _ _=ae _›;exact WZ _ _ _ hz.cells (fun x hx=>hp x<|by simpa using hx) h)
  ·exact dE
 ·exact dE
def aqx(F:Fit B P){ps:Array (Nat×az)}(hp:∀x∈ps,aG B x.2):Clean B P (aG B) (Instr.buildSlice t n ps):=by
 refine aS jW fun u _=>?_;split
 ·refine dG uI fun s=>?_;extract_lets-underBinder+onlyGivenNames j1
  have rW:∀z,Clean B P (aG B) (j1 z):=by
   intro z;dsimp-zeta-zetaHave only[j1];extract_lets-underBinder+onlyGivenNames j2
   have Dt:∀z,bT B z->Clean B P (aG B) (j2 z):=by
    intro z hz;dsimp-zeta-zetaHave only[j2];split
    ·exact aS (RF (by have h:= ‹Instr.fill _ _ _=ae _›;exact WZ _ _ _ (abD hz _) (fun x hx=>hp x<|by simpa using hx) h)) fun a ha=>aW<|.OQ ha
    ·exact dE
   exact gp (fun h=>aS (aW bT.nil) Dt) fun h=>aS (Hg F) fun z hz=>aS (aW hz.cells) Dt
  exact gp (fun _=>dG (jd<|by simp) rW) fun _=>rW ()
 ·exact dE
def aqy(F:Fit B P):Clean B P (aG B) (Instr.alloc t true<|dK #[]):=
 aS (Hg F) fun _ hz=>aS (WU hz) fun _ ha=>aW<|.rE ha
def aqz(hv:aG B v):Clean B P (aG B) (Instr.box t v):=aS (WU hv) fun _ ha=>aW<|.rE ha
def aqA(hv:aG B v):Clean B P (aG B) (Instr.loadAt t v):=aS (RN hv) fun _ ha=>ahc ha
def aqB{u:az}(hv:aG B v)(hu:aG B u):Clean B P (fun _=>True) (Instr.storeAt t v u):=aS (RN hv) fun _ ha=>aqg ha hu
def aqC(hv:aG B v):Clean B P (aG B) (Instr.fieldAt t v f):=by
 refine aS jW fun u _=>?_;split
 ·split
  ·exact aS (RN hv) fun a ha=>aS (aqk ha _) fun b hb=>aW<|.rE (by rw[hb];exact ha)
  ·exact dE
 ·exact dE
def aqD(F:Fit B P)(hv:aG B v):Clean B P (aG B) (Instr.indexAt t v i):=by
 refine dG WV fun ki=>aS jW fun u _=>?_;extract_lets-underBinder+onlyGivenNames jp
 have jE:∀z:Option Addr×Nat×dw,(∀x,z.1=ae x->¬B.bZ x.block)->Clean B P (aG B) (jp z):=by
  intro z hz;refine aS jW fun u _=>?_;dsimp only;split
  ·rename_i a h0;exact gp (fun _=>dG uI fun _=>aW<|.rE<|by simpa using hz _ h0) fun _=>gp (fun _=>jd<|by simp) fun _=>RH F
  ·exact RH F
 split
 ·exact aS (RN hv) fun a ha=>aS (ok:=fun z=>∀x,z.1=ae x->¬B.bZ x.block) (aW (by rintro x hx;cases hx;exact ha)) jE
 ·exact aS (ok:=fun z=>∀x,z.1=ae x->¬B.bZ x.block) (aW (by cases hv with|slice h=>exact h)) jE
 ·exact aS (ok:=fun z=>∀x,z.1=ae x->¬B.bZ x.block) dE jE
def W9(F:Fit B P){x:az}{y:Nat}{c:BoundsCode}:Clean B P (fun _=>True) (Instr.sliceBound x y c):=
 dG WV fun _=>gp (fun _=>aW trivial) fun _=>RH F
def RP(F:Fit B P){b:Bool}{l:Nat}:Clean B P (fun _=>True) (Instr.sliceBounds b l c x y z):=by
 unfold Instr.sliceBounds;extract_lets-underBinder+onlyGivenNames jm
 have hjm:∀m,Clean B P (fun _=>True) (jm m):=by
  intro m;dsimp-zeta-zetaHave only[jm];extract_lets-underBinder+onlyGivenNames jh
  have Zv:∀h,Clean B P (fun _=>True) (jh h):=by
   intro h;dsimp-zeta-zetaHave only[jh];extract_lets-underBinder+onlyGivenNames jl
   have KA:∀l,Clean B P (fun _=>True) (jl l):=fun l=>aW trivial;split
   ·exact dG (W9 F) KA
   ·exact dG (aW trivial) KA
  split
  ·exact dG (W9 F) Zv
  ·exact dG (W9 F) Zv
  ·exact dG (aW trivial) Zv
  ·exact dG dE Zv
 split
 ·exact dG (W9 F) hjm
 ·exact dG (aW trivial) hjm
def ahs{c:Prop}[Decidable c](h:¬B.bZ a.block):¬B.bZ (if c then a else a.add n).block:=by
 split
 ·exact h
 ·simpa using h
def aqE(F:Fit B P)(hv:aG B v):Clean B P (aG B) (Instr.slice t v x y z):=by
 refine aS jW fun u _=>?_;split
 ·exact gp (fun _=>dG dE fun _=>dG (RP F) fun _=>aW .string) fun _=>dG (RP F) fun _=>aW .string
 ·refine dG (RP F) fun b=>dG uI fun s=>aW<|.slice ?_;cases hv with|slice h=>
  intro a ha;split at ha
  ·exact h _ ha
  ·obtain⟨a',h',rfl⟩:=zC.1 ha;simpa using h _ h'
 ·refine aS (ahe F hv) fun a ha=>aS jW fun u _=>?_;split
  ·exact dG (RP F) fun b=>dG uI fun s=>aW<|.OQ<|ahs ha
  ·exact dE
 ·exact dE
def aqF(F:Fit B P)(hv:aG B v):Clean B P (aG B) (Instr.sliceAt t v x y z):=by
 refine aS jW fun u _=>?_;split
 ·exact aS (RN hv) fun a ha=>dG (RP F) fun b=>dG uI fun s=>aW<|.OQ<|ahs ha
 ·exact aqE F hv
def aqG(F:Fit B P)(hv:aG B v):Clean B P (aG B) (Instr.arrayAt t v):=by
 refine aS jW fun u _=>?_;split
 ·split
  ·exact gp (fun _=>rD F) fun _=>aW (by cases hv with|slice h=>exact .pointer h)
  ·exact dE
 ·exact dE
def aqH(hv:aG B v):Clean B P (aG B) (Instr.field t v f):=by
 refine aS jW fun u _=>?_;split
 ·split
  ·exact aS (aqi hv) fun c hc=>Ci hc
  ·exact dE
 ·exact dE
def aqI(F:Fit B P)(hv:aG B v):Clean B P (aG B) (Instr.index t v i):=by
 refine dG WV fun ki=>aS jW fun u _=>?_;split
 ·exact gp (fun _=>dG uI fun _=>Ci hv.Cj) fun _=>RH F
 ·split
  ·exact aW .int
  ·exact RH F
 ·exact dE
def aqJ{i:Nat}(hv:aG B v):Clean B P (aG B) (Instr.extract v i):=by
 unfold Instr.extract;split
 ·split
  ·exact aW<|hv.aqh.get ‹_›
  ·exact dE
 ·exact dE
end au
end
section
namespace au
open Go
variable{B:cO}{P:eF}{α β:Type}
variable{op:BinOp}{k:IntKind}{x y v:az}{a b:Addr}{ts:Array dw}{t:dw}{args:Array az}
def aht{x y:Int}:Clean B P (aG B) (Op.intArith op k x y):=by
 unfold Op.intArith;split<;>first|exact aW .int|exact dE
def ahu{x y:Int}:Clean B P (aG B) (Op.intBits op k x y):=by
 unfold Op.intBits;dsimp only;split<;>first|exact aW .int|exact dE
def aqK{x y:Int}:Clean B P (aG B) (Op.intCmp op x y):=by
 unfold Op.intCmp;split<;>first|exact aW .bool|exact dE
def aqL(F:Fit B P){x y:Int}:Clean B P (aG B) (Op.intDiv op k x y):=by
 refine gp (fun _=>rD F) fun _=>?_;split<;>first|exact aW .int|exact dE
def aqM(F:Fit B P){l:IntKind}{x y:Int}:Clean B P (aG B) (Op.shift op k x l y):=by
 refine gp (fun _=>rD F) fun _=>?_;dsimp only;split<;>first|exact aW .int|exact dE
def abH{x y:ByteArray}:Clean B P (aG B) (Op.stringOp op x y):=by
 unfold Op.stringOp;dsimp only;split<;>first|exact aW .bool|exact dE|exact gp (fun _=>jd<|by simp) fun _=>aW .string
def aqN{k:FloatKind}{x y:Nat}:Clean B P (aG B) (Op.floatArith op k x y):=by
 unfold Op.floatArith;extract_lets-underBinder+onlyGivenNames jp
 have jE:∀r,Clean B P (aG B) (jp r):=by
  intro r;dsimp only[jp];split
  ·exact aW .float
  ·exact dG AZ fun _=>aW .float
 split<;>first|exact dG (aW trivial) jE|exact dG dE jE
def aqO{k:FloatKind}{x y:Nat}:Clean B P (aG B) (Op.floatCmp op k x y):=by
 unfold Op.floatCmp;dsimp only;split<;>first|exact aW .bool|exact dE
def aqP{op:UnOp}(hx:aG B x):Clean B P (aG B) (Op.unary op x):=by
 unfold Op.unary;split
 ·exact aht
 ·exact ahu
 ·exact aW .float
 ·cases hx
 ·exact aW .bool
 all_goals first|exact jd (by simp)|exact dE
def aqQ{b:Bool}(h:¬B.bZ a.block):Clean B P (aG B) (asNumber a b):=aS (WT<|show mF B (.number a b)from h) fun _ hr=>aW<|.rE hr
def abI(hx:aG B x):Clean B P (aG B) (Builtin.unsafeAdd_ ts t #[x,y]):=by
 cases x with
 |pointer ptr=>
  refine dG (α:=Int) OO fun n=>?_;extract_lets-underBinder+onlyGivenNames jp
  have jE:∀z,Clean B P (aG B) (jp z):=by
   intro z;dsimp-zeta-zetaHave only[jp];extract_lets-underBinder+onlyGivenNames jq
   have Nu:∀z,Clean B P (aG B) (jq z):=by
    intro z;dsimp-zeta-zetaHave only[jq];split
    ·refine dG Fh fun s=>?_;split
     ·refine aS zL fun p _=>?_;split
      ·have h:=hx.ptr;exact aW<|.rE h
      ·exact jd<|by simp
     ·exact jd<|by simp
    ·exact jd<|by simp
   exact gp (fun _=>dG (jd<|by simp) Nu) fun _=>Nu ()
  refine gp (fun _=>?_) fun _=>jE ();split
  ·exact dG (ahf hx.ptr) fun _=>gp (fun _=>dG (jd<|by simp) fun _=>aW hx) fun _=>aW hx
  ·exact jd<|by simp
 |_=>exact dE
def Xa(hx:aG B x):Clean B P (aG B) (movedNumber t x y):=by
 refine aS jW fun u _=>?_;extract_lets-underBinder+onlyGivenNames jp
 have jE:∀z,Clean B P (aG B) (jp z):=by
  intro z;dsimp-zeta-zetaHave only[jp];split
  ·refine aS (Hl hx.ptr) fun a ha=>aS (abI<|.rE ha) fun v hv=>?_;split
   ·exact aqQ hv.ptr
   ·exact aW hv
  ·exact abI hx
 split;all_goals first|exact dG (jd<|by simp) jE|exact jE ()
def ahv(hx:aG B x):Clean B P (aG B) (movedPointer t x y):=by
 unfold movedPointer;extract_lets-underBinder+onlyGivenNames jp
 have jE:∀z,Clean B P (aG B) (jp z):=fun z=>abI hx;split
 ·exact aS (ahh hx.ptr) fun _ _=>gp (fun _=>dG (jd<|by simp) jE) fun _=>jE ()
 ·exact jE ()
def ahw(ha:¬B.bZ a.block)(hb:¬B.bZ b.block):Clean B P (fun _=>True) (Op.twoPlaces a b):=by
 refine aS zL fun p _=>gp (fun _=>dG (jd<|by simp) fun _=>?_) fun _=>?_;all_goals exact dG (LG ha) fun _=>dG (LG hb) fun _=>aW trivial
def aqR(ha:¬B.bZ a.block)(hb:¬B.bZ b.block):Clean B P (aG B) (Op.addrCmp op a b):=by
 refine dG (ahw ha hb) fun xy=>?_;dsimp only;split<;>first|exact aW .bool|exact jd<|by simp
def ahx{n:Int}(ha:¬B.bZ a.block):Clean B P (aG B) (Op.addrMod k a n):=by
 refine dG Fh fun s=>?_;split
 ·refine aS Cf fun _ _=>gp (fun _=>dG (jd<|by simp) fun _=>?_) fun _=>?_;all_goals exact dG (LG ha) fun _=>aW .int
 ·exact jd<|by simp
def aqS(F:Fit B P)(hx:aG B x)(hy:aG B y):Clean B P (aG B) (binOp op t x y):=by
 unfold binOp;split;case h_5=>cases hx
 case h_3=>
  refine gp (fun _=>dE) fun _=>?_
  split<;>first|exact aht|exact aqL F|exact ahu|exact aqK
 case h_4=>
  refine gp (fun _=>dE) fun _=>?_
  split<;>first|exact aqN|exact aqO
 all_goals first
  |exact aqM F
  |exact abH
  |exact dG (ahi F hx hy) fun _=>aW .bool
  |exact Xa hx
  |exact Xa hy
  |exact jd<|by simp
  |exact dE
  |exact aS (Hl hx.ptr) fun a ha=>aS (Hl hy.ptr) fun b hb=>dG (ahw ha hb) fun _=>aW .int
  |exact aS (Hl hx.ptr) fun a ha=>aS (Hl hy.ptr) fun b hb=>aqR ha hb
  |exact aS (Hl hx.ptr) fun a ha=>ahx ha
  |exact aS (Hl hy.ptr) fun a ha=>ahx ha
  |(refine aS jW fun u _=>?_;split<;>split<;>first|exact ahv hx|exact Xa hx)
  |(refine aS jW fun u _=>?_;split<;>first|exact ahv hx|exact Xa hx)
def aqT{x y:Operand}{a b:az}(ha:aG B a)(hb:aG B b):Clean B P (fun _=>True) (eqGuard op t x y a b):=by
 unfold eqGuard;have hg:∀(u:Unsupported),(∀g,u≠.initOrder g)->Clean B P (fun _=>True) (do if<-Op.eqGuardIn Op.maxDepth t a b then unsupported u:Sem Unit):=fun u hu=>dG (abB _ _ _ _ ha hb) fun _=>gp (fun _=>jd hu) fun _=>aW trivial;refine gp (fun _=>aW trivial) fun _=>?_;split
 ·exact gp (fun _=>aW trivial) fun _=>hg _<|by simp
 ·exact aS zL fun _ _=>aS zL fun _ _=>gp (fun _=>aW trivial) fun _=>hg _<|by simp
 ·exact aW trivial
def abJ(P:eF)(src dst:dw):Bool:=
 match P.underlying src,P.underlying dst with
 |some (.int _),ae (.int _)=>true
 |some (.int _),ae .string=>true
 |some .string,ae .string=>true
 |some .string,ae (.slice e)=>match P.underlying e with|some (.int .u8)=>true|_=>false
 |some (.slice e),ae .string=>match P.underlying e with|some (.int .u8)=>true|_=>false
 |_,_=>false
def aqU:Clean B P (fun _=>True) (markStringish a):=by
 refine dG Fh fun x=>?_;split
 ·exact aqe
 ·exact aW trivial
def aqV{s:ByteArray}:Clean B P (aG B) (Conv.stringToBytes t s):=by
 refine dG AZ fun c=>aS (RF<|ahp.append ?_) fun a ha=>dG aqU fun _=>aW<|.OQ ha;intro v hv;obtain⟨_,rfl⟩:=Oa.1 hv;exact .int
def aqW(hx:aG B x):Clean B P (aG B) (Conv.bytesToString x):=by
 unfold Conv.bytesToString;split
 ·exact aW .string
 ·refine aS (abw hx.RJ _) fun c _=>dG ?_ fun _=>aW .string;refine WW _ _ fun x b=>?_;split<;>first|exact aW trivial|exact dG dE fun _=>aW trivial|exact dE
 ·exact dE
def aqX{k:FloatKind}{b:Nat}{i:IntKind}:Clean B P (aG B) (Conv.floatToInt k b i):=by
 unfold Conv.floatToInt;dsimp only;repeat' (first|exact aW .int|exact dG AZ fun _=>aW .int|split)
def aqY{src dst:dw}(h:abJ P src dst=true)(hx:aG B x):Clean B P (aG B) (convert src dst x):=by
 refine aS jW fun su hsu=>aS jW fun du hdu=>?_;unfold abJ at h;rw[hsu,hdu]at h;have hu8:∀{e:dw} {d:TypeDesc},(match P.underlying e with|some (.int .u8)=>true|_=>false)=true->P.underlying e=ae d->d=.int .u8:=by
  intro e d he hd;rw[hd]at he;split at he
  ·rename_i h;cases h;rfl
  ·cases he
 split at h
 ·rename_i h1 h2;cases h1;cases h2;cases x;case pointer a=>cases a<;>exact jd (by simp)
  all_goals first|exact aW .int|exact jd (by simp)|exact aqX|cases hx
 ·rename_i h1 h2;cases h1;cases h2;cases x;case pointer a=>cases a<;>exact jd (by simp)
  all_goals first|exact aW .string|exact jd (by simp)|cases hx
 ·rename_i h1 h2;cases h1;cases h2;cases x;all_goals first|exact aW .string|exact jd (by simp)|cases hx
 ·rename_i h1 h2;cases h1;cases h2;cases x;case string s=>
   refine aS jW fun d hd=>?_
   have:=hu8 h hd
   subst this
   exact aqV
  case slice a n m=>cases a<;>exact jd<|by simp
  all_goals first|exact jd (by simp)|cases hx
 ·rename_i e h1 h2;cases h1;cases h2;have hgo:∀x,aG B x->Clean B P (aG B) (do
   match<-underlying e with
   | .int .u8=>Conv.bytesToString x
   | .int .i32=>Conv.runesToString x
   |_=>stuck "Convert: a slice of what to string?" :Sem az):=by
   intro x hx;refine aS jW fun d hd=>?_;have:=hu8 h hd;subst this;exact aqW hx
  cases x;case slice a n m=>cases a<;>exact hgo _ hx
  all_goals first|exact aW .string|exact hgo _ hx|exact jd (by simp)|cases hx
 ·cases h
def aq0(ha:bT B args):Clean B P (aG B) (Builtin.cap_ ts t args):=by
 unfold Builtin.cap_;split
 ·rename_i ty x h0;have hx:aG B x:=by simp only[uD]at h0;exact ha.get h0.2
  refine aS jW fun u _=>?_;split;case h_2=>
   refine aS jW fun u _=>?_
   split<;>first|exact aW .int|exact dE
  case h_5=>
   cases hx with|chan hx=>
   refine aS (xO<|hx _ rfl) fun o _=>?_
   split<;>first|exact aW .int|exact dE
  all_goals first|exact aW .int|exact dE
 ·exact dE
def aq1(ha:bT B args):Clean B P (aG B) (Builtin.len_ ts t args):=by
 unfold Builtin.len_;split
 ·rename_i ty x h0;have hx:aG B x:=by simp only[uD]at h0;exact ha.get h0.2
  refine aS jW fun u _=>?_;split;case h_3=>
   refine aS jW fun u _=>?_
   split<;>first|exact aW .int|exact dE
  case h_7=>
   refine aS (xO hx.mp) fun o _=>?_
   split<;>first|exact aW .int|exact dE
  case h_8=>
   cases hx with|chan hx=>
   refine aS (xO<|hx _ rfl) fun o _=>?_
   split<;>first|exact aW .int|exact dE
  all_goals first|exact aW .int|exact dE
 ·exact dE
def aq2(F:Fit B P)(ha:bT B args):Clean B P (aG B) (Builtin.clear_ ts t args):=by
 unfold Builtin.clear_;split
 ·rename_i ty x h0;have hx:aG B x:=by simp only[uD]at h0;exact ha.get h0.2
  refine aS jW fun u _=>?_;extract_lets-underBinder+onlyGivenNames jp
  have jE:∀z,Clean B P (aG B) (jp z):=fun z=>aW<|.tuple bT.nil;split;case h_4=>
   refine aS (xO hx.mp) fun o _=>?_
   split
   ·exact dG (Fj hx.mp (show nV B #[]from by intro e h;simp at h)) jE
   ·exact dG dE jE
  case h_5=>exact aS (Hg F) fun z hz=>dG (OM hx.RJ _ _ fun v hv=>abE hz.cells _ v<|by simpa using hv) jE
  all_goals first|exact dG (aW trivial) jE|exact dG dE jE|exact jE ()
 ·exact dE
def aq3(ha:bT B args):Clean B P (aG B) (Builtin.copy_ ts t args):=by
 unfold Builtin.copy_;split
 ·rename_i ty x y h0;have hx:aG B x:=by simp only[uD]at h0;exact ha.get h0.2.1
  have hy:aG B y:=by simp only[uD]at h0;exact ha.get h0.2.2
  refine aS jW fun u _=>?_;split
  ·split
   ·refine dG ahq fun n=>dG uI fun s=>aS (abG hy) fun c hc=>?_;split
    ·exact dG (OM hx.RJ _ _ fun v hv=>hc v<|by simpa using hv) fun _=>aW .int
    ·exact aW .int
   ·exact dE
  ·exact dE
 ·exact dE
def aq4(F:Fit B P)(ha:bT B args):Clean B P (aG B) (Builtin.delete_ ts t args):=by
 unfold Builtin.delete_;split
 ·rename_i ty x y h0;have hx:aG B x:=by simp only[uD]at h0;exact ha.get h0.2.1
  have hy:aG B y:=by simp only[uD]at h0;exact ha.get h0.2.2
  refine aS jW fun u _=>?_;split
  ·extract_lets-underBinder+onlyGivenNames jp
   have jE:∀z,Clean B P (aG B) (jp z):=fun z=>aW<|.tuple bT.nil;split
   ·exact dG (Hm F _ _ _ _ hy) jE
   ·refine aS (xO hx.mp) fun o ho=>?_;split
    ·have ho:nV B _:=ho;refine dG (Hm F _ _ _ _ hy) fun _=>aS (WY F hy ho) fun r _=>?_;split
     ·refine dG (Fj hx.mp<|show nV B _ from ?_) jE;intro e he;unfold Array.eraseIdxIfInBounds at he;split at he
      ·exact ho e<|Array.mem_of_mem_eraseIdx he
      ·exact ho e he
     ·exact dG (Fj hx.mp ho) jE
    ·exact dG dE jE
   ·exact dG dE jE
  ·exact dE
 ·exact dE
def abK{ok:β->Prop}{γ:Type}{f:β->γ->Sem β}:∀(l:List γ) (b:β),ok b->(∀x∈l,∀b,ok b->Clean B P ok (f b x))->Clean B P ok (l.foldlM f b)
 |[],b,hb,_=>by rw[List.foldlM_nil];exact hb
 |x::l,b,hb,h=>by rw[List.foldlM_cons];exact aS (h x (by simp) b hb) fun c hc=>abK l c hc fun y hy=>h y<|by simp[hy]
def aq5:Clean B P (aG B) (Builtin.max2 x y):=by
 unfold Builtin.max2;split;case h_2=>split<;>first|exact aW .float|exact dG AZ fun _=>aW .float
 all_goals first|exact aW .int|exact jd (by simp)|exact dE|exact aS abH fun _ _=>dG abx fun _=>aW .string
def aq6:Clean B P (aG B) (Builtin.min2 x y):=by
 unfold Builtin.min2;split;case h_2=>split<;>first|exact aW .float|exact dG AZ fun _=>aW .float
 all_goals first|exact aW .int|exact jd (by simp)|exact dE|exact aS abH fun _ _=>dG abx fun _=>aW .string
def aq7(ha:bT B args):Clean B P (aG B) (Builtin.max_ ts t args):=by
 unfold Builtin.max_;split
 ·exact dE
 ·rename_i x l h;exact abK _ _ (ha x (by rw[<-amY,h];simp)) fun y _ b _=>aq5
def aq8(ha:bT B args):Clean B P (aG B) (Builtin.min_ ts t args):=by
 unfold Builtin.min_;split
 ·exact dE
 ·rename_i x l h;exact abK _ _ (ha x (by rw[<-amY,h];simp)) fun y _ b _=>aq6
def Xb:az->Bool
 | .bool _| .int _ _| .float _ _| .string _| .nilFunc| .nilIface| ay af| aJ af _ _| .map af| .chan af=>true
 |_=>false
def Xc:az->Bool
 | .agg a=>a.all Xb
 |v=>Xb v
def RQ:az->Bool
 | .tuple a=>a.all Xc
 |v=>Xc v
def ahz(h:Xb v=true):aG B v:=by
 unfold Xb at h;split at h;all_goals first|exact .bool|exact .int|exact .float|exact .string|exact .nilFunc|exact .nilIface|exact .pointer (by simp)|exact .slice (by simp)|exact .map (by simp)|exact .chan (by simp)|cases h
def ahA(h:Xc v=true):aG B v:=by
 unfold Xc at h;split at h
 ·rw[GL]at h;refine .agg fun x hx=>?_;obtain⟨i,hi,rfl⟩:=GI.1 hx;exact ahz<|h i hi
 ·exact ahz h
def ahB(h:RQ v=true):aG B v:=by
 unfold RQ at h;split at h
 ·rw[GL]at h;refine .tuple fun x hx=>?_;obtain⟨i,hi,rfl⟩:=GI.1 hx;exact ahA<|h i hi
 ·exact ahA h
def LI(l:FuncId->Bool)(g:Nat):Operand->Bool
 | .tmp _=>true
 | .const v=>RQ v
 | .global n=>n<g
 | .func f=>l f
def abL(l:FuncId->Bool)(g:Nat)(c:Call):Bool:=
 c.args.all (LI l g)&&match c.callee with
  | .value f=>LI l g f
  | .builtin b=>match b with
    | .append| .cap| .clear| .copy| .delete| .len| .max| .min=>true
    |_=>false
  | .invoke _ _=>false
def sG(P:eF)(l:FuncId->Bool)(o:Op):Bool:=
 let r:=LI l P.globals.size
 match o with
 | .move x| .assign x| .box _ x| .load _ x| .nilCheck x| .unOp _ _ x| .sliceToArrayPointer _ x| .fieldAddr _ x _| .field _ x _| .range _ x| .next x _| .entry x| .extract x _| .makeInterface _ x| .panic x=>r x
 | .pick a b c=>r a&&r b&&r c
 | .alloc _=>true
 | .build _ ps| .buildSlice _ _ ps=>ps.all fun x=>r x.2
 | .store _ a v| .binOp _ _ a v _| .makeSlice _ a v| .indexAddr _ a v| .index _ a v| .lookup _ a v _| .mapEntry _ a v=>r a&&r v
 | .convert s d x=>abJ P s d&&r x
 | .makeFunc (.func f) a c=>l f&&a.all r&&c.all r
 | .makeMap _ _=>true
 | .slice _ x _ _ _=>r x
 | .mapUpdate _ a b c| .entryStore _ a b c| .insert _ a b c=>r a&&r b&&r c
 | .call c=>abL l P.globals.size c
 |_=>false
def Fp(B:cO):Next->Prop
 | .value v=>aG B v
 | .skip=>True
 | .enter f args=>B.let_ f=true/\bT B args
 |_=>False
structure Xd(B:cO)(P:eF):Prop where
 fn:∀f,B.let_ f=true->∃fn,P.funcs[f]? =ae fn/\(fn.name== "runtime.NumGoroutine")=false/\fn.body.isNone=false
def aq9(H:Xd B P){f:FuncId}(hf:B.let_ f=true)(ha:bT B args):Clean B P (Fp B) (callFunc f args):=by
 obtain⟨fn,h1,h2,h3⟩:=H.fn f hf;refine aS zL fun p hp=>?_;subst hp;rw[h1];dsimp only;rw[h2,h3];exact aW<|show Fp B (.enter f args)from⟨hf,ha⟩
def ahC{γ:Type}{l:Array γ}{f:γ->az}(h:∀x∈l,aG B<|f x):bT B (l.map f):=by
 intro v hv;obtain⟨x,hx,rfl⟩:=VY.1 hv;exact h x hx
structure Env(B:cO)(P:eF)(ρ:Operand->az):Prop where
 val:∀x,LI B.let_ P.globals.size x=true->aG B (ρ x)
def ara(F:Fit B P)(H:Xd B P){ρ:Operand->az}(E:Env B P ρ){c:Call}(h:abL B.let_ P.globals.size c=true):Clean B P (Fp B) (do let d <-resolve ρ c t;invoke d.target d.args:Sem Next):=by
 simp only[abL,mg]at h;have ha:bT B (c.args.map ρ):=ahC fun x hx=>E.val _ (by
  obtain⟨i,hi,rfl⟩:=GI.1 hx;exact(GL.1 h.1) i hi)
 unfold resolve;dsimp only;split
 ·rename_i b hb;rw[hb]at h;refine aS (ok:=fun d=>d={target:=.builtin b c.argTypes t (c.args.map fun| .const _=>true|_=>false),args:=c.args.map ρ}) (aW rfl) fun d hd=>?_;subst hd;have hv:∀{s:Sem az},Clean B P (aG B) s->Clean B P (Fp B) (do pure (.value<|<-s):Sem Next):=fun hs=>aS hs fun v hv=>aW hv;cases b<;>first|exact hv (OT F ha)|exact hv (aq0 ha)|exact hv (aq2 F ha)|exact hv (aq3 ha)|exact hv (aq4 F ha)|exact hv (aq1 ha)|exact hv (aq7 ha)|exact hv (aq8 ha)|(simp at h)
 ·rename_i r n hb;rw[hb]at h;simp at h
 ·rename_i f hb;rw[hb]at h;have hf:=E.val _ h.2;unfold Deferred.ofValue;generalize ρ f=fv at hf;cases hf with
  |func hl h1 h2=>exact aq9 H hl<|(bT.append h1 ha).append h2
  |nilFunc=>
   show Clean B P (Fp B) (runtimePanic .nilDeref);exact rD F
  |_=>exact dE
def abM(F:Fit B P)(H:Xd B P){ρ:Operand->az}(E:Env B P ρ){o:Oper}(h:sG P B.let_ o.op=true):Clean B P (Fp B) (dP ρ o):=by
 have hv:∀{s:Sem az},Clean B P (aG B) s->Clean B P (Fp B) (do pure (.value<|<-s):Sem Next):=fun hs=>aS hs fun v hv=>aW hv;have hu:∀{s:Sem Unit},Clean B P (fun _=>True) s->Clean B P (Fp B) (do s;pure .skip:Sem Next):=fun hs=>aS hs fun v hv=>aW trivial;have gI:∀{ps:Array (Nat×Operand)},ps.all (fun x=>LI B.let_ P.globals.size x.2)=true->∀x∈ps.map (fun(i,x)=>(i,ρ x)),aG B x.2:=by
  intro ps hp x hx;obtain⟨y,hy,rfl⟩:=VY.1 hx;obtain⟨i,hi,rfl⟩:=GI.1 hy;exact E.val _<|(GL.1 hp) i hi
 have has:∀{a:Array Operand},a.all (LI B.let_ P.globals.size)=true->bT B (a.map ρ):=by
  intro a ha;refine ahC fun x hx=>E.val _ ?_;obtain⟨i,hi,rfl⟩:=GI.1 hx;exact(GL.1 ha) i hi
 unfold dP;obtain⟨dst,op,ty,pos,after,guard⟩:=o;dsimp only at h⊢
 cases op with
 |move x=>exact aW<|E.val _ h
 |assign x=>exact aW<|E.val _ h
 |pick a b c=>
  simp only[sG,mg]at h;refine dG abx fun t=>aW ?_;show aG B _;split
  ·exact E.val _ h.1.2
  ·exact E.val _ h.2
 |alloc t=>exact hv<|aqy F
 |box t x=>exact hv<|aqz<|E.val _ h
 |build t ps=>exact hv<|aqw F<|gI h
 |buildSlice t n ps=>exact hv<|aqx F<|gI h
 |load t x=>exact hv<|aqA<|E.val _ h
 |store t a x=>
  simp only[sG,mg]at h;exact hu<|aqB (E.val _ h.1)<|E.val _ h.2
 |nilCheck x=>
  have hx:=E.val _ h;dsimp only;generalize ρ x=fv at hx;cases hx;case pointer a h=>cases a with
   |none=>exact rD F
   |some a=>exact aW<|show aG B _ from .pointer h
  case func h1 h2 h3=>exact aW<|show aG B _ from .func h1 h2 h3
  case slice h=>exact aW<|show aG B _ from .slice h
  case map h=>exact aW<|show aG B _ from .map h
  case chan h=>exact aW<|show aG B _ from .chan h
  case iface h=>exact aW<|show aG B _ from .iface h
  case agg h=>exact aW<|show aG B _ from .agg h
  case tuple h=>exact aW<|show aG B _ from .tuple h
  case bool=>exact aW<|show aG B _ from .bool
  case int=>exact aW<|show aG B _ from .int
  case float=>exact aW<|show aG B _ from .float
  case string=>exact aW<|show aG B _ from .string
  all_goals exact rD F
 |binOp b t x y u=>
  simp only[sG,mg]at h;exact hv<|aS (aqT (E.val _ h.1)<|E.val _ h.2) fun _ _=>aqS F (E.val _ h.1)<|E.val _ h.2
 |unOp b t x=>exact hv<|aqP<|E.val _ h
 |convert s d x=>
  simp only[sG,mg]at h;exact hv<|aqY h.1<|E.val _ h.2
 |sliceToArrayPointer t x=>exact hv<|aqG F<|E.val _ h
 |makeFunc fn a c=>
  cases fn with
  |func f=>
   simp only[sG,mg]at h;exact aW<|show aG B _ from .func h.1.1 (has h.1.2) (has h.2)
  |_=>simp[sG]at h
 |makeMap t r=>exact hv aqp
 |makeSlice t a b=>exact hv<|aqv F
 |slice t x a b c=>exact hv<|aqF F<|E.val _ h
 |fieldAddr t x f=>exact hv<|aqC<|E.val _ h
 |field t x f=>exact hv<|aqH<|E.val _ h
 |indexAddr t x i=>
  simp only[sG,mg]at h;exact hv<|aqD F<|E.val _ h.1
 |index t x i=>
  simp only[sG,mg]at h;exact hv<|aqI F<|E.val _ h.1
 |lookup t x i ok=>
  simp only[sG,mg]at h;exact hv<|aqm F (E.val _ h.1)<|E.val _ h.2
 |mapUpdate t m k x=>
  simp only[sG,mg]at h;exact hu<|abC F (E.val _ h.1.1) (E.val _ h.1.2)<|E.val _ h.2
 |insert t m k x=>
  simp only[sG,mg]at h;exact hu<|abC F (E.val _ h.1.1) (E.val _ h.1.2)<|E.val _ h.2
 |mapEntry t m k=>
  simp only[sG,mg]at h;exact hv<|aqn F (E.val _ h.1)<|E.val _ h.2
 |entryStore t m s x=>
  simp only[sG,mg]at h;exact hu<|aqo (E.val _ h.1.1)<|E.val _ h.2
 |range t x=>exact hv<|aqr<|E.val _ h
 |next x s=>exact hv<|aqs<|E.val _ h
 |entry x=>exact hv<|aqt<|E.val _ h
 |extract x i=>exact hv<|aqJ<|E.val _ h
 |call c=>exact ara F H E h
 |makeInterface t x=>
  refine hv<|aS jW fun u _=>?_;split
  ·exact dE
  ·exact aW<|.iface<|E.val _ h
 |panic x=>
  refine hv ?_;unfold Instr.panic;split
  ·exact RG
  ·refine dG (α:=Int) ?_ fun _=>gp (fun _=>RG) fun _=>rD F;refine dG (α:=SysRet) (s:=sys .env) ⟨rfl,fun _=>trivial⟩ fun r=>?_;split
   ·exact aS zL fun _ _=>aW trivial
   ·exact dE
  ·exact dE
 |_=>simp[sG]at h
end au
end
end Go.Proofs.YtkelpcjiediamaaGreat
