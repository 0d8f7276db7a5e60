import Derived.Test.YtkelpcjiediamaaGreatQf0
import Derived.WalkKit
import Derived.WalkSpells
import Derived.WalkLawsBesides
import Derived.Maps.OwnSet
import Derived.Deep.AppendLies
import Derived.DeepKeys4
import Derived.Test.YtkelpcjiediamaaGreatRows
set_option maxRecDepth 100000
set_option maxHeartbeats 0
set_option linter.all false
namespace Go.Proofs.YtkelpcjiediamaaGreat
def aFe:=@Go.RowKit.Below.heap_alloc
def aFf:=@Go.World.cell?_of_block
def aFg:=@Go.RowKit.Below.heap_setCell
def aGv:=@Go.DataW.held.injEq
open Go renaming Program→fJ,TypeId→dJ,Value→aA,World→ay,execOp→dY,maxLen→eP,undef→ai
open Go.Value renaming ownBlock→bY,tuple→dU
open Go.World renaming alloc→bz,cell?→aB,ownsRow→bD,setCell→aX
open Option renaming none→af,some→ae
open Go.RowKit Go.Maps
structure Fr(S:Nat->Prop)(w w2:ay):Prop where
 os:w2.os=w.os
 tape:w2.tape=w.tape
 output:w2.output=w.output
 size:w.heap.size<=w2.heap.size
 block:∀k,k<w.heap.size->¬S k->w2.heap[k]? =w.heap[k]?
def Fr.refl(S:Nat->Prop)(w:ay):Fr S w w:=⟨rfl,rfl,rfl,dI _,fun _ _ _=>rfl⟩
variable{S:Nat->Prop}{a w2:ay}{p:Addr}
def Fr.t{T:Nat->Prop}{b c:ay}(h:Fr S a b)(k:Fr T b c)(hT:∀i,T i->S i\/a.heap.size<=i):Fr S a c:=
 ⟨k.os.t h.os,k.tape.t h.tape,k.output.t h.output,fG h.size k.size,
  fun i hi hn=>(k.block i (gu hi h.size) (fun ht=>by rcases hT i ht with h1|h1;exact hn h1;omega)).t<|h.block i hi hn⟩
def Fr.z{T:Nat->Prop}{b:ay}(h:Fr S a b)(hT:∀i,S i->T i\/a.heap.size<=i):Fr T a b:=
 ⟨h.os,h.tape,h.output,h.size,fun i hi hn=>h.block i hi (fun hs=>by rcases hT i hs with h1|h1;exact hn h1;omega)⟩
def Fr.drew{w:ay}(h:Fr S a w):Fr S a w.drew:=⟨h.os,h.tape,h.output,h.size,h.block⟩
def Fr.drewN{w:ay}(h:Fr S a w)(n:Nat):Fr S a (w.drewN n):=⟨h.os,h.tape,h.output,h.size,h.block⟩
def Fr.alloc{w:ay}(h:Fr S a w)(o:Obj):Fr S a (bz w o):=
 ⟨h.os,h.tape,h.output,by have:=h.size;simp<;>omega,fun i hi hn=>by
  have:=h.size;rw[aFe w o i<|by omega];exact h.block i hi hn⟩
def Fr.setCell{w:ay}(h:Fr S a w)(hp:S p.block\/a.heap.size<=p.block)(u:aA):Fr S a (aX w p u):=
 ⟨h.os,h.tape,h.output,by simpa using h.size,fun i hi hn=>by
  rw[aFg w p u i (fun e=>by subst e;rcases hp with h1|h1;exact hn h1;omega)];exact h.block i hi hn⟩
def Fr.grown{w:ay}{row:Option Nat}(h:Fr S a w)(hg:w.grownBy w2 row)(hr:∀k,row=ae k->S k\/a.heap.size<=k):Fr S a w2:=
 ⟨hg.os.t h.os,hg.tape.t h.tape,hg.output.t h.output,fG h.size hg.size,fun i hi hn=>by
  have:=h.size;rw[hg.block i (by omega) (fun e=>by rcases hr i e.s with h1|h1;exact hn h1;omega)];exact h.block i hi hn⟩
def Fr.cell{w:ay}(h:Fr S w w2)(hp:p.block<w.heap.size)(hn:¬S p.block):aB w2 p=aB w p:=aFf (w:=w)<|h.block p.block hp hn
def Fr.ownsRow{w:ay}(h:Fr S w w2){base:Nat}{e:dJ}{size:Nat}{v:aA}{n:Nat}{xs:List aA}(ho:bD w base e size v n xs)(hn:∀k,bY v=ae k->¬S k):bD w2 base e size v n xs:=by
 have aK:=ho.lt;refine⟨ho.1,?_⟩;rcases ho.2 with h2|⟨g,cap,cur,rfl,hb,hg,r⟩
 ·exact .inl h2
 ·exact .inr ⟨g,cap,cur,rfl,hb,by rw[h.block g (aK g rfl).2<|hn g rfl];exact hg,r⟩
def Fr.ownsMap{H:Type}{w:ay}(h:Fr S w w2){P:fJ}{k:dJ}{R:aA->Option (DataW H×List MemPlace)}{b n:Nat}{D:DataW H}(ho:w.ownsMap P k R b n D)(hn:¬S b):w2.ownsMap P k R b n D:=by
 have aK:=ho.lt;obtain⟨es,clock,hb,r⟩:=ho;exact⟨es,clock,(h.block b aK hn).t hb,r⟩
def wz:aA->Option (DataW aA×List MemPlace):=fun v=>ae (.held v,[])
def jG(w:ay)(P:fJ)(k:dJ)(b n:Nat)(f:aA->Option aA):Prop:=
 ∃D:DataW aA,w.ownsMap P k wz b n D/\∀key kl,keyOf P k key=ae kl->(∀z,D.atKey kl (.held z)=.held ((f key).getD z))/\Maps.has D kl=(f key).isSome
section
variable{P:fJ}{k:dJ}{w:ay}{b n:Nat}{f:aA->Option aA}
def jG.lt(h:jG w P k b n f):b<w.heap.size:=by obtain⟨D,h1,_⟩:=h;exact h1.lt
def jG.z(h:jG w P k b n f){m:Nat}(hm:n<=m):jG w P k b m f:=by obtain⟨D,h1,h2⟩:=h;exact⟨D,h1.mono hm,h2⟩
def jG.congr(h:jG w P k b n f){g:aA->Option aA}(hg:∀key kl,keyOf P k key=ae kl->g key=f key):jG w P k b n g:=by
 obtain⟨D,h1,h2⟩:=h;exact⟨D,h1,fun key kl hk=>by rw[hg key kl hk];exact h2 key kl hk⟩
def Fr.Bj{S:Nat->Prop}{w2:ay}(h:Fr S w w2)(ho:jG w P k b n f)(hn:¬S b):jG w2 P k b n f:=by
 obtain⟨D,h1,h2⟩:=ho;exact⟨D,h.ownsMap h1 hn,h2⟩
def jG.made(w:ay)(P:fJ)(k:dJ):jG (w.alloc<|.map #[] 0) P k w.heap.size 0 (fun _=>af):=by
 refine⟨.map [],World.ownsMap_made w P k wz,fun key kl _=>⟨fun z=>?_,?_⟩⟩
 ·exact WideAt.atKey_none _<|by simp
 ·exact Maps.has_false_of_atKey fun z=>WideAt.atKey_none _<|by simp
variable{t e:dJ}{z key:aA}{kl:Lit}
def jG.look(h:jG w P k b n f)(K:Keyed P k)(ht:P.underlying t=ae (.map k e))(hz:(zeroValue e).run P w=.ok z w)(mG:keyOf P k key=ae kl):
 (Instr.lookup t (.map<|ae b) key false).run P w=.ok ((f key).getD z) w:=by
 obtain⟨D,h1,h2⟩:=h;obtain⟨v,ps,hr,hv⟩:=h1.lookup K ht hz (zd:=.held z) (zp:=[]) rfl mG;rw[(h2 key kl mG).1 z]at hv;simp only[wz,gU,uu,aGv]at hv;rw[hr,hv.1]
def jG.look_ok(h:jG w P k b n f)(K:Keyed P k)(ht:P.underlying t=ae (.map k e))(hz:(zeroValue e).run P w=.ok z w)(mG:keyOf P k key=ae kl):
 (Instr.lookup t (.map<|ae b) key true).run P w=.ok (dU #[(f key).getD z,.bool (f key).isSome]) w:=by
 obtain⟨D,h1,h2⟩:=h;obtain⟨v,ps,hr,hv⟩:=h1.look_ok K ht hz (zd:=.held z) (zp:=[]) rfl mG;rw[(h2 key kl mG).1 z]at hv;simp only[wz,gU,uu,aGv]at hv;rw[hr,hv.1,(h2 key kl mG).2]
def jG.store(h:jG w P k b n f)(K:Keyed P k)(ht:P.underlying t=ae (.map k e))(hn:n<eP){val:aA}(mG:keyOf P k key=ae kl){g:aA->Option aA}
 (wR:g key=ae val)(GH:∀x,x≠key->g x=f x):
 ∃w2,(Instr.mapUpdate t (.map<|ae b) key val).run P w=.ok () w2/\jG w2 P k b (n+1) g/\w.mapTurned w2 b:=by
 obtain⟨D,h1,h2⟩:=h;obtain⟨w2,hr,ho,NQ⟩:=h1.store K ht hn mG (val:=val) (d:=.held val) (ps:=[]) rfl;have hD:=h1.isMap;refine⟨w2,hr,⟨_,ho,fun x xl hx=>?_⟩,NQ⟩;by_cases e:xl=kl
 ·subst e;obtain rfl:=K.inj hx mG;rw[wR];exact⟨fun z=>Maps.atKey_put_same hD (K.key mG) _ _,Maps.has_put_same hD (K.key mG) _⟩
 ·have dD:x≠key:=fun e2=>e (by subst e2;rw[hx]at mG;exact rP mG);rw[GH x dD];exact⟨fun z=>by rw[Maps.atKey_put_other e];exact(h2 x xl hx).1 z,by rw[Maps.has_put_other e];exact(h2 x xl hx).2⟩
end
def RN{P:fJ}(w:ay){ops:Array Oper}{rest:List Oper}{o:Oper}{a:Act}{Q:Exit->Act->ay->Prop}
 (hg:o.guard=af)(m x v:Operand)(t:dJ)(aP:o.op=Op.mapUpdate t m x v)
 (k e:dJ)(K:Keyed P k)(ht:P.underlying t=ae (.map k e))(b n:Nat)(f:aA->Option aA)
 (hm:a.eval m=.map (ae b))(jf:jG w P k b n f)(hn:n<eP)(key val:aA)(kl:Lit)(hx:a.eval x=key)(hv:a.eval v=val)(mG:keyOf P k key=ae kl)
 (g:aA->Option aA)(wR:g key=ae val)(GH:∀x,x≠key->g x=f x)
 (hK:∀w2,jG w2 P k b (n+1) g->w.mapTurned w2 b->wpList P ops Q rest (a.put o.dst ai) w2):
 wpList P ops Q (o::rest) a w:=by
 refine wpList_plain hg fun K2 hK2=>?_;obtain⟨w2,iy,r1,r2⟩:=jf.store K ht hn mG wR GH;unfold Oper.wp;simp[dY,aP,hm,hx,hv,iy,Result.andThen];exact hK2 _ _<|hK w2 r1 r2
variable{cs:Array aA}{t:dJ}
def aQ{w:ay}{b:Nat}{fr:Nat×Nat}(h:w.heap[b]? =ae (.cells cs t fr))(o:Nat):aB w ⟨b,o,af⟩=cs[o]? :=by
 simp[World.cell?,h]
def kK{w:ay}{b:Nat}(h:w.heap[b]? =ae (.cells cs t (0,0)))(o:Nat):w.frozen? ⟨b,o,af⟩=false:=by
 simp[World.frozen?,h]
def kU{w:ay}{b:Nat}{fr:Nat×Nat}(h:w.heap[b]? =ae (.cells cs t fr))(o:Nat)(u:aA):(aX w ⟨b,o,af⟩ u).heap[b]? =ae (.cells (cs.setIfInBounds o u) t fr):=by
 simp[World.setCell,anG,h]
def bn{w:ay}{b:Nat}{o:Obj}(h:w.heap[b]? =ae o):b<w.heap.size:=(jF.1 h).1
def dR{S:Nat->Prop}{w:ay}:Fr S w w:=Fr.refl S w
