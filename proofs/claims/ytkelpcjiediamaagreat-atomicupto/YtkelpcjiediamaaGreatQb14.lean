import Derived.Test.YtkelpcjiediamaaGreatQb0
import Derived.WalkKit
import Derived.WalkSpells
import Derived.WalkLawsBesides
import Derived.Maps.OwnSet
import Derived.Deep.AppendLies
import Derived.DeepKeys4
import Derived.Test.YtkelpcjiediamaaGreatRows
set_option maxRecDepth 100000
set_option maxHeartbeats 0
set_option linter.all false
namespace Go.Proofs.YtkelpcjiediamaaGreat
def aB3:=@Go.RowKit.Below.heap_alloc
def aB4:=@Go.World.cell?_of_block
def aB5:=@Go.RowKit.Below.heap_setCell
def aDi:=@Go.DataW.held.injEq
open Go renaming Program→dO,TypeId→bW,Value→aj,World→ah,execOp→dJ,maxLen→dH,undef→ag
open Option renaming none→af,some→ae
open Go.RowKit Go.Maps
structure Fr(S:Nat->Prop)(w w2:ah):Prop where
 os:w2.os=w.os
 tape:w2.tape=w.tape
 output:w2.output=w.output
 size:w.heap.size<=w2.heap.size
 block:∀k,k<w.heap.size->¬S k->w2.heap[k]? =w.heap[k]?
def Fr.refl(S:Nat->Prop)(w:ah):Fr S w w:=⟨rfl,rfl,rfl,bV _,fun _ _ _=>rfl⟩
variable{S:Nat->Prop}{a w2:ah}{p:Addr}
def Fr.trans{T:Nat->Prop}{b c:ah}(h:Fr S a b)(k:Fr T b c)(hT:∀i,T i->S i\/a.heap.size<=i):Fr S a c:=
 ⟨k.os.trans h.os,k.tape.trans h.tape,k.output.trans h.output,dP h.size k.size,
  fun i hi hn=>(k.block i (dY hi h.size) (fun ht=>by rcases hT i ht with h1|h1;exact hn h1;omega)).trans<|h.block i hi hn⟩
def Fr.mono{T:Nat->Prop}{b:ah}(h:Fr S a b)(hT:∀i,S i->T i\/a.heap.size<=i):Fr T a b:=
 ⟨h.os,h.tape,h.output,h.size,fun i hi hn=>h.block i hi (fun hs=>by rcases hT i hs with h1|h1;exact hn h1;omega)⟩
def Fr.drew{w:ah}(h:Fr S a w):Fr S a w.drew:=⟨h.os,h.tape,h.output,h.size,h.block⟩
def Fr.drewN{w:ah}(h:Fr S a w)(n:Nat):Fr S a (w.drewN n):=⟨h.os,h.tape,h.output,h.size,h.block⟩
def Fr.alloc{w:ah}(h:Fr S a w)(o:Obj):Fr S a (w.alloc o):=
 ⟨h.os,h.tape,h.output,by have:=h.size;simp<;>omega,fun i hi hn=>by
  have:=h.size;rw[aB3 w o i<|by omega];exact h.block i hi hn⟩
def Fr.setCell{w:ah}(h:Fr S a w)(hp:S p.block\/a.heap.size<=p.block)(u:aj):Fr S a (w.setCell p u):=
 ⟨h.os,h.tape,h.output,by simpa using h.size,fun i hi hn=>by
  rw[aB5 w p u i (fun e=>by subst e;rcases hp with h1|h1;exact hn h1;omega)];exact h.block i hi hn⟩
def Fr.grown{w:ah}{row:Option Nat}(h:Fr S a w)(hg:w.grownBy w2 row)(hr:∀k,row=ae k->S k\/a.heap.size<=k):Fr S a w2:=
 ⟨hg.os.trans h.os,hg.tape.trans h.tape,hg.output.trans h.output,dP h.size hg.size,fun i hi hn=>by
  have:=h.size;rw[hg.block i (by omega) (fun e=>by rcases hr i e.symm with h1|h1;exact hn h1;omega)];exact h.block i hi hn⟩
def Fr.cell{w:ah}(h:Fr S w w2)(hp:p.block<w.heap.size)(hn:¬S p.block):w2.cell? p=w.cell? p:=aB4 (w:=w)<|h.block p.block hp hn
def Fr.ownsRow{w:ah}(h:Fr S w w2){base:Nat}{e:bW}{size:Nat}{v:aj}{n:Nat}{xs:List aj}(ho:w.ownsRow base e size v n xs)(hn:∀k,v.ownBlock=ae k->¬S k):w2.ownsRow base e size v n xs:=by
 have aB:=ho.lt;refine⟨ho.1,?_⟩;rcases ho.2 with h2|⟨g,cap,cur,rfl,hb,hg,r⟩
 ·exact .inl h2
 ·exact .inr ⟨g,cap,cur,rfl,hb,by rw[h.block g (aB g rfl).2<|hn g rfl];exact hg,r⟩
def Fr.ownsMap{H:Type}{w:ah}(h:Fr S w w2){P:dO}{k:bW}{R:aj->Option (DataW H×List MemPlace)}{b n:Nat}{D:DataW H}(ho:w.ownsMap P k R b n D)(hn:¬S b):w2.ownsMap P k R b n D:=by
 have aB:=ho.lt;obtain⟨es,clock,hb,r⟩:=ho;exact⟨es,clock,(h.block b aB hn).trans hb,r⟩
def uD:aj->Option (DataW aj×List MemPlace):=fun v=>ae (.held v,[])
def iV(w:ah)(P:dO)(k:bW)(b n:Nat)(f:aj->Option aj):Prop:=
 ∃D:DataW aj,w.ownsMap P k uD b n D/\∀key kl,keyOf P k key=ae kl->(∀z,D.atKey kl (.held z)=.held ((f key).getD z))/\Maps.has D kl=(f key).isSome
section
variable{P:dO}{k:bW}{w:ah}{b n:Nat}{f:aj->Option aj}
def iV.lt(h:iV w P k b n f):b<w.heap.size:=by obtain⟨D,h1,_⟩:=h;exact h1.lt
def iV.mono(h:iV w P k b n f){m:Nat}(hm:n<=m):iV w P k b m f:=by obtain⟨D,h1,h2⟩:=h;exact⟨D,h1.mono hm,h2⟩
def iV.congr(h:iV w P k b n f){g:aj->Option aj}(hg:∀key kl,keyOf P k key=ae kl->g key=f key):iV w P k b n g:=by
 obtain⟨D,h1,h2⟩:=h;exact⟨D,h1,fun key kl hk=>by rw[hg key kl hk];exact h2 key kl hk⟩
def Fr.zM{S:Nat->Prop}{w2:ah}(h:Fr S w w2)(ho:iV w P k b n f)(hn:¬S b):iV w2 P k b n f:=by
 obtain⟨D,h1,h2⟩:=ho;exact⟨D,h.ownsMap h1 hn,h2⟩
def iV.made(w:ah)(P:dO)(k:bW):iV (w.alloc<|.map #[] 0) P k w.heap.size 0 (fun _=>af):=by
 refine⟨.map [],World.ownsMap_made w P k uD,fun key kl _=>⟨fun z=>?_,?_⟩⟩
 ·exact WideAt.atKey_none _<|by simp
 ·exact Maps.has_false_of_atKey fun z=>WideAt.atKey_none _<|by simp
variable{t e:bW}{z key:aj}{kl:Lit}
def iV.look(h:iV w P k b n f)(K:Keyed P k)(ht:P.underlying t=ae (.map k e))(hz:(zeroValue e).run P w=.ok z w)(kY:keyOf P k key=ae kl):
 (Instr.lookup t (.map<|ae b) key false).run P w=.ok ((f key).getD z) w:=by
 obtain⟨D,h1,h2⟩:=h;obtain⟨v,ps,hr,hv⟩:=h1.lookup K ht hz (zd:=.held z) (zp:=[]) rfl kY;rw[(h2 key kl kY).1 z]at hv;simp only[uD,fJ,tV,aDi]at hv;rw[hr,hv.1]
def iV.look_ok(h:iV w P k b n f)(K:Keyed P k)(ht:P.underlying t=ae (.map k e))(hz:(zeroValue e).run P w=.ok z w)(kY:keyOf P k key=ae kl):
 (Instr.lookup t (.map<|ae b) key true).run P w=.ok (.tuple #[(f key).getD z,.bool (f key).isSome]) w:=by
 obtain⟨D,h1,h2⟩:=h;obtain⟨v,ps,hr,hv⟩:=h1.look_ok K ht hz (zd:=.held z) (zp:=[]) rfl kY;rw[(h2 key kl kY).1 z]at hv;simp only[uD,fJ,tV,aDi]at hv;rw[hr,hv.1,(h2 key kl kY).2]
def iV.store(h:iV w P k b n f)(K:Keyed P k)(ht:P.underlying t=ae (.map k e))(hn:n<dH){val:aj}(kY:keyOf P k key=ae kl){g:aj->Option aj}
 (uS:g key=ae val)(EO:∀x,x≠key->g x=f x):
 ∃w2,(Instr.mapUpdate t (.map<|ae b) key val).run P w=.ok () w2/\iV w2 P k b (n+1) g/\w.mapTurned w2 b:=by
 obtain⟨D,h1,h2⟩:=h;obtain⟨w2,hr,ho,LC⟩:=h1.store K ht hn kY (val:=val) (d:=.held val) (ps:=[]) rfl;have hD:=h1.isMap;refine⟨w2,hr,⟨_,ho,fun x xl hx=>?_⟩,LC⟩;by_cases e:xl=kl
 ·subst e;obtain rfl:=K.inj hx kY;rw[uS];exact⟨fun z=>Maps.atKey_put_same hD (K.key kY) _ _,Maps.has_put_same hD (K.key kY) _⟩
 ·have bM:x≠key:=fun e2=>e (by subst e2;rw[hx]at kY;exact qE kY);rw[EO x bM];exact⟨fun z=>by rw[Maps.atKey_put_other e];exact(h2 x xl hx).1 z,by rw[Maps.has_put_other e];exact(h2 x xl hx).2⟩
end
def PM{P:dO}(w:ah){ops:Array Oper}{rest:List Oper}{o:Oper}{a:Act}{Q:Exit->Act->ah->Prop}
 (hg:o.guard=af)(m x v:Operand)(t:bW)(aF:o.op=Op.mapUpdate t m x v)
 (k e:bW)(K:Keyed P k)(ht:P.underlying t=ae (.map k e))(b n:Nat)(f:aj->Option aj)
 (hm:a.eval m=.map (ae b))(iy:iV w P k b n f)(hn:n<dH)(key val:aj)(kl:Lit)(hx:a.eval x=key)(hv:a.eval v=val)(kY:keyOf P k key=ae kl)
 (g:aj->Option aj)(uS:g key=ae val)(EO:∀x,x≠key->g x=f x)
 (hK:∀w2,iV w2 P k b (n+1) g->w.mapTurned w2 b->wpList P ops Q rest (a.put o.dst ag) w2):
 wpList P ops Q (o::rest) a w:=by
 refine wpList_plain hg fun K2 hK2=>?_;obtain⟨w2,fU,r1,r2⟩:=iy.store K ht hn kY uS EO;unfold Oper.wp;simp[dJ,aF,hm,hx,hv,fU,Result.andThen];exact hK2 _ _<|hK w2 r1 r2
variable{cs:Array aj}{t:bW}
def aG{w:ah}{b:Nat}{fr:Nat×Nat}(h:w.heap[b]? =ae (.cells cs t fr))(o:Nat):w.cell? ⟨b,o,af⟩=cs[o]? :=by
 simp[World.cell?,h]
def jP{w:ah}{b:Nat}(h:w.heap[b]? =ae (.cells cs t (0,0)))(o:Nat):w.frozen? ⟨b,o,af⟩=false:=by
 simp[World.frozen?,h]
def jQ{w:ah}{b:Nat}{fr:Nat×Nat}(h:w.heap[b]? =ae (.cells cs t fr))(o:Nat)(u:aj):(w.setCell ⟨b,o,af⟩ u).heap[b]? =ae (.cells (cs.setIfInBounds o u) t fr):=by
 simp[World.setCell,ale,h]
def aS{w:ah}{b:Nat}{o:Obj}(h:w.heap[b]? =ae o):b<w.heap.size:=(iU.1 h).1
end Go.Proofs.YtkelpcjiediamaaGreat
