import Derived.Test.YtkelpcjiediamaaGreatQd0
import Derived.WalkKit
import Derived.WalkSpells
import Derived.WalkLawsBesides
import Derived.Maps.OwnSet
import Derived.Deep.AppendLies
import Derived.DeepKeys4
import Derived.Test.YtkelpcjiediamaaGreatRows
set_option maxRecDepth 100000
set_option maxHeartbeats 0
set_option linter.all false
namespace Go.Proofs.YtkelpcjiediamaaGreat
def aD1:=@Go.RowKit.Below.heap_alloc
def aD2:=@Go.World.cell?_of_block
def aD3:=@Go.RowKit.Below.heap_setCell
def aFi:=@Go.DataW.held.injEq
open Go renaming Program→eF,TypeId→dw,Value→az,World→aj,execOp→dP,maxLen→dU,undef→ai
open Go.Value renaming tuple→dK
open Option renaming none→af,some→ae
open Go.RowKit Go.Maps
structure Fr(S:Nat->Prop)(w w2:aj):Prop where
 os:w2.os=w.os
 tape:w2.tape=w.tape
 output:w2.output=w.output
 size:w.heap.size<=w2.heap.size
 block:∀k,k<w.heap.size->¬S k->w2.heap[k]? =w.heap[k]?
def Fr.refl(S:Nat->Prop)(w:aj):Fr S w w:=⟨rfl,rfl,rfl,dm _,fun _ _ _=>rfl⟩
variable{S:Nat->Prop}{a w2:aj}{p:Addr}
def Fr.trans{T:Nat->Prop}{b c:aj}(h:Fr S a b)(k:Fr T b c)(hT:∀i,T i->S i\/a.heap.size<=i):Fr S a c:=
 ⟨k.os.trans h.os,k.tape.trans h.tape,k.output.trans h.output,eG h.size k.size,
  fun i hi hn=>(k.block i (fK hi h.size) (fun ht=>by rcases hT i ht with h1|h1;exact hn h1;omega)).trans<|h.block i hi hn⟩
def Fr.mono{T:Nat->Prop}{b:aj}(h:Fr S a b)(hT:∀i,S i->T i\/a.heap.size<=i):Fr T a b:=
 ⟨h.os,h.tape,h.output,h.size,fun i hi hn=>h.block i hi (fun hs=>by rcases hT i hs with h1|h1;exact hn h1;omega)⟩
def Fr.drew{w:aj}(h:Fr S a w):Fr S a w.drew:=⟨h.os,h.tape,h.output,h.size,h.block⟩
def Fr.drewN{w:aj}(h:Fr S a w)(n:Nat):Fr S a (w.drewN n):=⟨h.os,h.tape,h.output,h.size,h.block⟩
def Fr.alloc{w:aj}(h:Fr S a w)(o:Obj):Fr S a (w.alloc o):=
 ⟨h.os,h.tape,h.output,by have:=h.size;simp<;>omega,fun i hi hn=>by
  have:=h.size;rw[aD1 w o i<|by omega];exact h.block i hi hn⟩
def Fr.setCell{w:aj}(h:Fr S a w)(hp:S p.block\/a.heap.size<=p.block)(u:az):Fr S a (w.setCell p u):=
 ⟨h.os,h.tape,h.output,by simpa using h.size,fun i hi hn=>by
  rw[aD3 w p u i (fun e=>by subst e;rcases hp with h1|h1;exact hn h1;omega)];exact h.block i hi hn⟩
def Fr.grown{w:aj}{row:Option Nat}(h:Fr S a w)(hg:w.grownBy w2 row)(hr:∀k,row=ae k->S k\/a.heap.size<=k):Fr S a w2:=
 ⟨hg.os.trans h.os,hg.tape.trans h.tape,hg.output.trans h.output,eG h.size hg.size,fun i hi hn=>by
  have:=h.size;rw[hg.block i (by omega) (fun e=>by rcases hr i e.symm with h1|h1;exact hn h1;omega)];exact h.block i hi hn⟩
def Fr.cell{w:aj}(h:Fr S w w2)(hp:p.block<w.heap.size)(hn:¬S p.block):w2.cell? p=w.cell? p:=aD2 (w:=w)<|h.block p.block hp hn
def Fr.ownsRow{w:aj}(h:Fr S w w2){base:Nat}{e:dw}{size:Nat}{v:az}{n:Nat}{xs:List az}(ho:w.ownsRow base e size v n xs)(hn:∀k,v.ownBlock=ae k->¬S k):w2.ownsRow base e size v n xs:=by
 have aI:=ho.lt;refine⟨ho.1,?_⟩;rcases ho.2 with h2|⟨g,cap,cur,rfl,hb,hg,r⟩
 ·exact .inl h2
 ·exact .inr ⟨g,cap,cur,rfl,hb,by rw[h.block g (aI g rfl).2<|hn g rfl];exact hg,r⟩
def Fr.ownsMap{H:Type}{w:aj}(h:Fr S w w2){P:eF}{k:dw}{R:az->Option (DataW H×List MemPlace)}{b n:Nat}{D:DataW H}(ho:w.ownsMap P k R b n D)(hn:¬S b):w2.ownsMap P k R b n D:=by
 have aI:=ho.lt;obtain⟨es,clock,hb,r⟩:=ho;exact⟨es,clock,(h.block b aI hn).trans hb,r⟩
def vg:az->Option (DataW az×List MemPlace):=fun v=>ae (.held v,[])
def jo(w:aj)(P:eF)(k:dw)(b n:Nat)(f:az->Option az):Prop:=
 ∃D:DataW az,w.ownsMap P k vg b n D/\∀key kl,keyOf P k key=ae kl->(∀z,D.atKey kl (.held z)=.held ((f key).getD z))/\Maps.has D kl=(f key).isSome
section
variable{P:eF}{k:dw}{w:aj}{b n:Nat}{f:az->Option az}
def jo.lt(h:jo w P k b n f):b<w.heap.size:=by obtain⟨D,h1,_⟩:=h;exact h1.lt
def jo.mono(h:jo w P k b n f){m:Nat}(hm:n<=m):jo w P k b m f:=by obtain⟨D,h1,h2⟩:=h;exact⟨D,h1.mono hm,h2⟩
def jo.congr(h:jo w P k b n f){g:az->Option az}(hg:∀key kl,keyOf P k key=ae kl->g key=f key):jo w P k b n g:=by
 obtain⟨D,h1,h2⟩:=h;exact⟨D,h1,fun key kl hk=>by rw[hg key kl hk];exact h2 key kl hk⟩
def Fr.AU{S:Nat->Prop}{w2:aj}(h:Fr S w w2)(ho:jo w P k b n f)(hn:¬S b):jo w2 P k b n f:=by
 obtain⟨D,h1,h2⟩:=ho;exact⟨D,h.ownsMap h1 hn,h2⟩
def jo.made(w:aj)(P:eF)(k:dw):jo (w.alloc<|.map #[] 0) P k w.heap.size 0 (fun _=>af):=by
 refine⟨.map [],World.ownsMap_made w P k vg,fun key kl _=>⟨fun z=>?_,?_⟩⟩
 ·exact WideAt.atKey_none _<|by simp
 ·exact Maps.has_false_of_atKey fun z=>WideAt.atKey_none _<|by simp
variable{t e:dw}{z key:az}{kl:Lit}
def jo.look(h:jo w P k b n f)(K:Keyed P k)(ht:P.underlying t=ae (.map k e))(hz:(zeroValue e).run P w=.ok z w)(lT:keyOf P k key=ae kl):
 (Instr.lookup t (.map<|ae b) key false).run P w=.ok ((f key).getD z) w:=by
 obtain⟨D,h1,h2⟩:=h;obtain⟨v,ps,hr,hv⟩:=h1.lookup K ht hz (zd:=.held z) (zp:=[]) rfl lT;rw[(h2 key kl lT).1 z]at hv;simp only[vg,gu,uD,aFi]at hv;rw[hr,hv.1]
def jo.look_ok(h:jo w P k b n f)(K:Keyed P k)(ht:P.underlying t=ae (.map k e))(hz:(zeroValue e).run P w=.ok z w)(lT:keyOf P k key=ae kl):
 (Instr.lookup t (.map<|ae b) key true).run P w=.ok (dK #[(f key).getD z,.bool (f key).isSome]) w:=by
 obtain⟨D,h1,h2⟩:=h;obtain⟨v,ps,hr,hv⟩:=h1.look_ok K ht hz (zd:=.held z) (zp:=[]) rfl lT;rw[(h2 key kl lT).1 z]at hv;simp only[vg,gu,uD,aFi]at hv;rw[hr,hv.1,(h2 key kl lT).2]
def jo.store(h:jo w P k b n f)(K:Keyed P k)(ht:P.underlying t=ae (.map k e))(hn:n<dU){val:az}(lT:keyOf P k key=ae kl){g:az->Option az}
 (vS:g key=ae val)(FY:∀x,x≠key->g x=f x):
 ∃w2,(Instr.mapUpdate t (.map<|ae b) key val).run P w=.ok () w2/\jo w2 P k b (n+1) g/\w.mapTurned w2 b:=by
 obtain⟨D,h1,h2⟩:=h;obtain⟨w2,hr,ho,Nh⟩:=h1.store K ht hn lT (val:=val) (d:=.held val) (ps:=[]) rfl;have hD:=h1.isMap;refine⟨w2,hr,⟨_,ho,fun x xl hx=>?_⟩,Nh⟩;by_cases e:xl=kl
 ·subst e;obtain rfl:=K.inj hx lT;rw[vS];exact⟨fun z=>Maps.atKey_put_same hD (K.key lT) _ _,Maps.has_put_same hD (K.key lT) _⟩
 ·have dh:x≠key:=fun e2=>e (by subst e2;rw[hx]at lT;exact qX lT);rw[FY x dh];exact⟨fun z=>by rw[Maps.atKey_put_other e];exact(h2 x xl hx).1 z,by rw[Maps.has_put_other e];exact(h2 x xl hx).2⟩
end
def QP{P:eF}(w:aj){ops:Array Oper}{rest:List Oper}{o:Oper}{a:Act}{Q:Exit->Act->aj->Prop}
 (hg:o.guard=af)(m x v:Operand)(t:dw)(aO:o.op=Op.mapUpdate t m x v)
 (k e:dw)(K:Keyed P k)(ht:P.underlying t=ae (.map k e))(b n:Nat)(f:az->Option az)
 (hm:a.eval m=.map (ae b))(iO:jo w P k b n f)(hn:n<dU)(key val:az)(kl:Lit)(hx:a.eval x=key)(hv:a.eval v=val)(lT:keyOf P k key=ae kl)
 (g:az->Option az)(vS:g key=ae val)(FY:∀x,x≠key->g x=f x)
 (hK:∀w2,jo w2 P k b (n+1) g->w.mapTurned w2 b->wpList P ops Q rest (a.put o.dst ai) w2):
 wpList P ops Q (o::rest) a w:=by
 refine wpList_plain hg fun K2 hK2=>?_;obtain⟨w2,gU,r1,r2⟩:=iO.store K ht hn lT vS FY;unfold Oper.wp;simp[dP,aO,hm,hx,hv,gU,Result.andThen];exact hK2 _ _<|hK w2 r1 r2
variable{cs:Array az}{t:dw}
def aK{w:aj}{b:Nat}{fr:Nat×Nat}(h:w.heap[b]? =ae (.cells cs t fr))(o:Nat):w.cell? ⟨b,o,af⟩=cs[o]? :=by
 simp[World.cell?,h]
def jS{w:aj}{b:Nat}(h:w.heap[b]? =ae (.cells cs t (0,0)))(o:Nat):w.frozen? ⟨b,o,af⟩=false:=by
 simp[World.frozen?,h]
def jT{w:aj}{b:Nat}{fr:Nat×Nat}(h:w.heap[b]? =ae (.cells cs t fr))(o:Nat)(u:az):(w.setCell ⟨b,o,af⟩ u).heap[b]? =ae (.cells (cs.setIfInBounds o u) t fr):=by
 simp[World.setCell,amX,h]
def aX{w:aj}{b:Nat}{o:Obj}(h:w.heap[b]? =ae o):b<w.heap.size:=(jk.1 h).1
end Go.Proofs.YtkelpcjiediamaaGreat
