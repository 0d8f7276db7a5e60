import Derived.Test.YtkelpcjiediamaaGreatQb7
set_option maxRecDepth 100000
set_option maxHeartbeats 0
set_option linter.all false
namespace Go.Proofs.YtkelpcjiediamaaGreat
def aCc:=@Go.Conc.offersAt_of_not_blocked
def aC1:=@Go.Conc.offersAt_parked_send
def aC8:=@Go.Conc.getElem?_stand
def aC9:=@Go.Conc.ways_recv_none
open Go renaming Goroutine→aX,Program→dO,Value→aj,World→ah,stepG→aW,undef→ag
open Option renaming none→af,some→ae
section
namespace eX
open Go Go.Conc Twin
open Go.ConcN (upd upd_same upd_ne)
open Go.ConcR (stA smA)
section
variable{K:Type}{X:bn K}{t0:Trace}{ks:List K}{gs gs':Array aX}{w w':ah}{t:Trace}{d:Nat}{dW:Nat->Nat}{E:cO}{S0 G:aC}{Sw:Nat->aC}{q:Nat->Nat}
def bn.Mem.size(h:X.Mem ks E S0 G Sw w)(hs:w'.heap.size=w.heap.size):X.Mem ks E S0 G Sw w':=
 ⟨fun b hb=>hs▸h.qL b hb,fun i hi b hb=>hs▸h.kU i hi b hb,h.apart,fun b hb=>hs▸h.sH b hb,h.KC,h.Gm,h.xJ,fun b hb=>hs▸h.low b hb,fun b hb=>hs▸h.bK b hb,h.KD⟩
def bn.Base.at(h:X.Base t0 ks gs w t d dW E S0 G Sw q)(n:Nat):X.Base t0 ks gs (w.at n) t d dW E S0 G Sw q:=
 ⟨h.size,h.pos,h.old,h.above,h.deaf0,h.deafW,h.mem.size rfl,h.ti,h.seen,h.base,h.norel,h.gz,h.oV.obj,h.oV.low,h.oV.lQ⟩
variable{es:Array Event}{fn:FuncId}{pos:String}{g':aX}
def bn.Base.step0(h:X.Base t0 ks gs w t d dW E S0 G Sw q)(hG:iO S0 E w w' es)(dS:gs'.size=gs.size)(hold:∀i,0<i->i<X.m0->gs'[i]? =gs[i]?):
 X.Base t0 ks gs' w' (t++MemOp.ofEvents 0 fn pos es) d dW E (grow S0 w w') G Sw q:=by
 have hS:∀b,grow S0 w w' b->b<w'.heap.size/\¬G b/\¬X.Sp ks b/\¬X.yX b:=by
  rintro b (hb|⟨h1,h2⟩)
  ·obtain⟨a,b⟩:=h.mem.qL b hb;exact⟨dY a hG.size,b⟩
  ·exact⟨h2,fun x=>absurd (h.mem.sH b x).1<|by omega,fun x=>absurd (h.mem.low b x)<|by omega,fun x=>absurd (h.mem.bK b x)<|by omega⟩
 have hW:∀i,i<ks.length->∀b,Sw i b->¬grow S0 w w' b:=by
  rintro i hi b hb (hx|⟨hx,_⟩)
  ·exact(h.mem.kU i hi b hb).2.2.2.2 hx
  ·exact absurd (h.mem.kU i hi b hb).1<|by omega
 have wE:∀b,E.rd b->b<w'.heap.size:=fun b hb=>dY (h.mem.sH b<|h.mem.Gm b hb).1 hG.size;obtain⟨m1,m2,m3,m4,m5⟩:=h.more (w':=w') (u:=MemOp.ofEvents 0 fn pos es) (.inl rfl) ofEvents_g hG.size (fun op aF=>by obtain⟨e,he,rfl⟩:=aB1 aF;exact agw (hG.evs e he) (fun b hb=>(hS b hb).1) wE)
  (fun op aF e=>by obtain⟨x,hx,rfl⟩:=aB1 aF;exact(NS<|hG.evs x hx).2.2 _<|aCR e)
 have hm:X.Mem ks E (grow S0 w w') G Sw w':=by
  refine⟨hS,fun i hi b hb=>?_,h.mem.apart,fun b hb=>?_,h.mem.KC,h.mem.Gm,h.mem.xJ,fun b hb=>dY (h.mem.low b hb) hG.size,fun b hb=>dY (h.mem.bK b hb) hG.size,h.mem.KD⟩
  ·obtain⟨x,y,z,u,_⟩:=h.mem.kU i hi b hb;exact⟨dY x hG.size,y,z,u,hW i hi b hb⟩
  ·obtain⟨x,y⟩:=h.mem.sH b hb;exact⟨dY x hG.size,y⟩
 refine⟨dS.trans h.size,h.pos,fun a g h0 ha hg=>?_,fun a ha=>m4 a<|dS▸ha,?_,fun a ha=>?_,hm,?_,m1,m2,m3,h.gz,hG.QH h.oV fun b z=>⟨(h.mem.qL b z).1,fun hb=>hb.elim (h.mem.qL b z).2.2.2 fun e=>(h.mem.qL b z).2.2.1<|.inl e⟩⟩
 ·rw[m5 a<|by omega];exact h.old a g h0 ha (by rw[<-hold a h0 ha];exact hg)
 ·rw[aCM,h.deaf0];exact deafBehind_still (fun e he=>⟨(NS<|hG.evs e he).1,(NS<|hG.evs e he).2.1⟩) _
 ·rw[m5 _ (by have:=h.pos;omega)];exact h.deafW a ha
 ·refine h.ti.app0 (h.mem.cls ⟨h.gz.1,h.gz.2.1,h.gz.2.2.1⟩) ofEvents_g fun op aF x hx=>?_;obtain⟨e,he,rfl⟩:=aB1 aF;have IM:∀{S:aC},(∀b,S b->¬X.Sp ks b)->kD S x.loc->¬X.Sh x.loc/\∀i,x.loc≠.cell ⟨X.C,i,af⟩:=by
   intro S hS hl;refine⟨?_,?_⟩
   ·rintro(⟨a,e,ha⟩|e)
    ·rw[e]at hl;exact hS _ hl<|.inl ha
    ·rw[e]at hl;exact hS _ hl<|.inr<|.inr<|.inl rfl
   ·intro i e;rw[e]at hl;exact hS _ hl<|.inr<|.inl rfl
  have two:∀{S T:aC},(∀b,S b->¬T b)->kD S x.loc->¬kD T x.loc:=by
   intro S T hST h1 h2;generalize x.loc=l at h1 h2;cases l<;>first|exact hST _ h1 h2|exact h1.elim
  right;rcases agv (hG.evs e he) hx with y|⟨y,z⟩
  ·refine⟨(IM (fun b hb=>(hS b hb).2.2.1) y).1,two (fun b hb z=>(hS b hb).2.2.2<|.inl z) y,?_,?_⟩
   ·rintro k hk ⟨i,hi,rfl,hl⟩;rcases hl with hl|hl
    ·exact two (fun b hb=>hW i hi b hb) hl y
    ·exact(IM (fun b hb=>(hS b hb).2.2.1) y).2 i hl
   ·rintro _ k hk ⟨i,κ,jd,rfl,hl⟩;exact two (fun b hb=>(hS b hb).2.1) y<|kD.mono (fun b hb=>h.mem.xJ i κ jd b<|(X.side κ).le b hb) hl
  ·have yG:kD G x.loc:=kD.mono h.mem.Gm y;refine⟨(IM (fun b hb=>(h.mem.sH b hb).2.1) yG).1,two (fun b hb=>(h.mem.sH b hb).2.2) yG,?_,fun hw=>by rw[z]at hw;cases hw⟩;rintro k hk ⟨i,hi,rfl,hl⟩;rcases hl with hl|hl
   ·exact two (fun b hb=>(h.mem.kU i hi b hb).2.1) hl yG
   ·exact(IM (fun b hb=>(h.mem.sH b hb).2.1) yG).2 i hl
def aaM(h:ai.iZ X.bK w)(hA:Aside X.Wg w w'):ai.iZ X.bK w':=
 ⟨by rw[hA.size];exact fun b o hb ho=>h.obj b o hb (by rw[<-hA.block b fun e=>hb<|.inl<|.inr e];exact ho),fun b hb=>by rw[hA.size];exact h.low b hb,by rw[hA.size];exact h.lQ⟩
def bn.NT(X:bn K)(e:Event):Prop:=
 e.loc=.mark .disable\/e.loc=.mark .enable\/(∃a,e.loc=.mark (.read a)/\a.block=X.Wg)\/(∃a,e.loc=.mark (.write a)/\a.block=X.Wg)\/(∃a wr,e=⟨.cell a,wr,true⟩/\a.block=X.Wg)\/(∃a,e.loc=.mark (.acquire a)/\a.block=X.Wg)
def bn.NT.low{e:Event}(h:X.NT e){B:Nat}(hB:X.Wg<B):(MemAct.ofEvent e).low B/\MemAct.ofEvent e≠.mark (.release<|stA X.Wg)/\∀x,(MemAct.ofEvent e).touch?=ae x->X.Sh x.loc/\x.kind≠.plain:=by
 obtain⟨loc,wr,sy⟩:=e;rcases h with h|h|⟨a,h,ha⟩|⟨a,h,ha⟩|⟨a,wr',h,ha⟩|⟨a,h,ha⟩
 ·simp only at h;subst h;exact⟨trivial,by simp[MemAct.ofEvent],by simp[MemAct.ofEvent,MemAct.touch?]⟩
 ·simp only at h;subst h;exact⟨trivial,by simp[MemAct.ofEvent],by simp[MemAct.ofEvent,MemAct.touch?]⟩
 ·simp only at h;subst h;refine⟨show a.block<B by omega,by simp[MemAct.ofEvent],fun x hx=>?_⟩;simp only[MemAct.ofEvent,MemAct.touch?,fJ]at hx;subst hx;exact⟨.inl ⟨a,rfl,ha⟩,by simp⟩
 ·simp only at h;subst h;refine⟨show a.block<B by omega,by simp[MemAct.ofEvent],fun x hx=>?_⟩;simp only[MemAct.ofEvent,MemAct.touch?,fJ]at hx;subst hx;exact⟨.inl ⟨a,rfl,ha⟩,by simp⟩
 ·cases h;refine⟨show a.block<B by omega,by simp[MemAct.ofEvent],fun x hx=>?_⟩;simp only[MemAct.ofEvent,MemAct.touch?,fJ]at hx;subst hx;exact⟨.inl ⟨a,rfl,ha⟩,by simp⟩
 ·simp only at h;subst h;exact⟨show a.block<B by omega,by simp[MemAct.ofEvent],by simp[MemAct.ofEvent,MemAct.touch?]⟩
def bn.Base.fQ(h:X.Base t0 ks gs w t d dW E S0 G Sw q){es:Array Event}{fn:FuncId}{pos:String}(bD:ai.iZ X.bK w')(hs:w'.heap.size=w.heap.size)(pF:∀e∈es,X.NT e)(dS:gs'.size=gs.size)(hold:∀i,0<i->i<X.m0->gs'[i]? =gs[i]?):
 X.Base t0 ks gs' w' (t++MemOp.ofEvents 0 fn pos es) (deafBehind d es) dW E S0 G Sw q:=by
 have hWg:X.Wg<w'.heap.size:=hs▸h.mem.low _ (.inl rfl);obtain⟨m1,m2,m3,m4,m5⟩:=h.more (w':=w') (u:=MemOp.ofEvents 0 fn pos es) (.inl rfl) ofEvents_g (AU hs.symm) (fun op aF=>by obtain⟨e,he,rfl⟩:=aB1 aF;exact((pF e he).low hWg).1)
  (fun op aF=>by obtain⟨x,hx,rfl⟩:=aB1 aF;exact((pF x hx).low hWg).2.1)
 refine⟨dS.trans h.size,h.pos,fun a g h0 ha hg=>?_,fun a ha=>m4 a<|dS▸ha,by rw[aCM,h.deaf0],fun a ha=>?_,h.mem.size hs,?_,m1,m2,m3,h.gz,bD⟩
 ·rw[m5 a<|by omega];exact h.old a g h0 ha (by rw[<-hold a h0 ha];exact hg)
 ·rw[m5 _ (by have:=h.pos;omega)];exact h.deafW a ha
 ·refine h.ti.app0 (h.mem.cls ⟨h.gz.1,h.gz.2.1,h.gz.2.2.1⟩) ofEvents_g fun op aF x hx=>?_;obtain⟨e,he,rfl⟩:=aB1 aF;exact .inl<|((pF e he).low hWg).2.2 x hx
def bn.Base.quiet(h:X.Base t0 ks gs w t d dW E S0 G Sw q){u:Trace}(bD:ai.iZ X.bK w')(hs:w'.heap.size=w.heap.size)(hu:∀op∈u,op.act.touch?=af/\op.act.low w.heap.size/\op.act≠.mark .disable/\op.act≠.mark .enable/\op.act≠.mark (.release<|stA X.Wg))(dS:gs'.size=gs.size)(hold:∀i,0<i->i<X.m0->gs'[i]? =gs[i]?):
 X.Base t0 ks gs' w' (t++u) d dW E S0 G Sw q:=by
 have hd:∀g,Deaf (t++u) g=Deaf t g:=agx fun op aF=>⟨(hu op aF).2.2.1,(hu op aF).2.2.2.1⟩;refine⟨dS.trans h.size,h.pos,fun a g h0 ha hg=>?_,fun a ha=>by rw[hd];exact h.above a<|dS▸ha,by rw[hd];exact h.deaf0,fun a ha=>by rw[hd];exact h.deafW a ha,h.mem.size hs,h.ti.vI fun op aF=>(hu op aF).1,?_,?_,h.norel.app fun op aF=>(hu op aF).2.2.2.2,h.gz,bD⟩
 ·rw[hd];exact h.old a g h0 ha (by rw[<-hold a h0 ha];exact hg)
 ·rw[hs];exact seen_app h.seen fun op aF=>(hu op aF).2.1
 ·obtain⟨v,rfl,hv⟩:=h.base;refine⟨v++u,by simp[YG],fun op aF ht=>?_⟩;rcases Ia.1 aF with aF|aF
  ·exact hv op aF ht
  ·exact absurd (hu op aF).1 ht
def bn.Base.leave(h:X.Base t0 ks gs w t d dW E S0 G Sw q){i n:Nat}(h0:0<i)(hi:i<X.m0)(hm:∀e∈es,e.mute=true)(hq:QuitsD X.P n (deafBehind (Deaf t i) es) g')(a a':aX)(w1:ah):
 X.Base t0 ks ((gs.map<|woken X.P a a' w1).setIfInBounds i g') w (t++MemOp.ofEvents i fn pos es) d dW E S0 G Sw (upd q i n):=by
 have KE:∀g,g≠i->Deaf (t++MemOp.ofEvents i fn pos es) g=Deaf t g:=fun g hg=>aCr t (iI hg) _ ofEvents_g;have aB:i<gs.size:=by rw[h.size];omega
 have dS:((gs.map<|woken X.P a a' w1).setIfInBounds i g').size=gs.size:=by simp
 refine⟨dS.trans h.size,h.pos,fun a2 g2 h02 Yd EO=>?_,fun k hk=>?_,?_,fun k hk=>?_,h.mem,?_,?_,?_,?_,h.gz,h.oV⟩
 ·by_cases e:a2=i
  ·subst e;rw[rO<|by simpa using aB]at EO;cases EO;rw[aCM,aB8];exact hq
  ·rw[gu<|iI e,wH]at EO;obtain⟨y,hy,rfl⟩:=yI.1 EO;have:=h.old a2 y h02 Yd hy;rw[aCC this,aCa q n e,KE a2 e];exact this
 ·have:=h.size;rw[KE k (by rw[dS]at hk;omega)];exact h.above k<|dS▸hk
 ·rw[KE 0<|by omega];exact h.deaf0
 ·rw[KE _<|by omega];exact h.deafW k hk
 ·exact h.ti.vI fun op aF=>by obtain⟨e,he,rfl⟩:=aB1 aF;exact touch_mute<|hm e he
 ·exact seen_app h.seen fun op aF=>by obtain⟨e,he,rfl⟩:=aB1 aF;exact low_mute (hm e he) _
 ·obtain⟨v,rfl,hv⟩:=h.base;refine⟨v++MemOp.ofEvents i fn pos es,by simp[YG],fun op aF ht=>?_⟩;rcases Ia.1 aF with aF|aF
  ·exact hv op aF ht
  ·obtain⟨e,he,rfl⟩:=aB1 aF;exact absurd (touch_mute<|hm e he) ht
 ·refine h.norel.app fun op aF e=>?_;obtain⟨x,hx,rfl⟩:=aB1 aF;have:=hm x hx;have hl:=aCR e;obtain⟨loc,wr,sy⟩:=x;simp only at hl;subst hl;simp[Event.mute]at this
def bn.Base.spawn(h:X.Base t0 ks gs w t 0 dW E S0 G Sw q){k:K}{Sk S1:aC}{E1:cO}{child:aX}{fn':FuncId}{pos':String}
 (aI:∀b,Sk b->S0 b)(hc:S0 (X.ch k))(oH:¬Sk (X.ch k))(kM:¬(X.side k).ro (X.ch k))(hr:∀b,(X.side k).ro b->S0 b\/E.rd b)(hx:∀b,Sk b->¬(X.side k).ro b)
 (uX:∀b,S1 b->S0 b/\¬Sk b/\¬(X.side k).ro b/\b≠X.ch k)(Hl:∀b,E1.ro b->E.ro b\/(X.side k).ro b)(TB:∀b,E1.rd b->E.rd b\/(X.side k).ro b):
 X.Base t0 (ks++[k]) ((gs.setIfInBounds 0 g').push child) w (t++ #[{g:=0,fn,pos,act:=.go gs.size},{g:=gs.size,fn:=fn',pos:=pos',act:=.start}]) 0 (upd dW ks.length 0) E1 S1 (fun b=>G b\/(X.side k).ro b) (upd Sw ks.length Sk) q:=by
 have TC:=(h.mem.qL _ hc).2.2.1;have O6:∀b,(X.side k).ro b->b<w.heap.size/\¬X.Sp ks b/\¬X.gJ b/\∀i,i<ks.length->¬Sw i b:=by
  intro b hb;rcases hr b hb with x|x
  ·obtain⟨a1,a2,a3,a4⟩:=h.mem.qL b x;exact⟨a1,a3,fun z=>a4<|.inl z,fun i hi y=>(h.mem.kU i hi b y).2.2.2.2 x⟩
  ·obtain⟨a1,a2,a3⟩:=h.mem.sH b<|h.mem.Gm b x;exact⟨a1,a2,a3,fun i hi y=>(h.mem.kU i hi b y).2.1<|h.mem.Gm b x⟩
 have L9:∀b,X.Sp (ks++[k]) b->X.Sp ks b\/b=X.ch k:=by
  rintro b (x|x|x|⟨y,hy,x⟩)
  ·exact .inl<|.inl x
  ·exact .inl<|.inr<|.inl x
  ·exact .inl<|.inr<|.inr<|.inl x
  ·rcases og.1 hy with hy|hy
   ·exact .inl<|.inr<|.inr<|.inr ⟨y,hy,x⟩
   ·simp at hy;subst hy;exact .inr x
 have get:∀(i:Nat) (x:K),(ks++[k])[i]? =ae x->ks[i]? =ae x\/(i=ks.length/\x=k):=by
  intro i x hi;rw[List.getElem?_append]at hi;split at hi
  ·exact .inl hi
  ·rename_i DF;right;have dF:i-ks.length=0:=by
    cases e:i-ks.length with
    |zero=>rfl
    |succ n=>rw[e]at hi;simp at hi
   rw[dF]at hi;simp at hi;exact⟨by omega,hi.symm⟩
 have NU:∀i,i<ks.length->upd Sw ks.length Sk i=Sw i:=fun i hi=>aCa _ _ (by omega);have hd:∀g,Deaf (t++ #[({g:=0,fn,pos,act:=.go gs.size}:MemOp),{g:=gs.size,fn:=fn',pos:=pos',act:=.start}]) g=Deaf t g:=agx fun op aF=>by
  simp only[rP,jC,oN,oO]at aF;rcases aF with rfl|rfl<;>simp
 have hm:X.Mem (ks++[k]) E1 S1 (fun b=>G b\/(X.side k).ro b) (upd Sw ks.length Sk) w:=by
  refine⟨fun b hb=>?_,fun i hi b hb=>?_,fun i i' hi lW b hb iG=>?_,fun b hb=>?_,fun b hb=>?_,fun b hb=>?_,fun i x hx b hb=>?_,fun b hb=>?_,h.mem.bK,fun b hb=>?_⟩
  ·obtain⟨a,b1,c,e⟩:=uX b hb;obtain⟨a1,a2,a3,a4⟩:=h.mem.qL b a;exact⟨a1,fun z=>z.elim a2 c,fun z=>(L9 b z).elim a3 e,a4⟩
  ·by_cases e:i=ks.length
   ·subst e;rw[aB8]at hb;obtain⟨a1,a2,a3,a4⟩:=h.mem.qL b<|aI b hb;exact⟨a1,fun z=>z.elim a2<|hx b hb,fun z=>(L9 b z).elim a3 fun z=>oH<|z▸hb,a4,fun z=>(uX b z).2.1 hb⟩
   ·have lW:i<ks.length:=by simp at hi;omega
    rw[NU i lW]at hb;obtain⟨a1,a2,a3,a4,a5⟩:=h.mem.kU i lW b hb;exact⟨a1,fun z=>z.elim a2 fun z=>(O6 b z).2.2.2 i lW hb,fun z=>(L9 b z).elim a3 fun z=>a5<|z▸hc,a4,fun z=>a5 (uX b z).1⟩
  ·have one:∀i,i<ks.length->∀b,Sw i b->¬Sk b:=fun i hi b hb z=>(h.mem.kU i hi b hb).2.2.2.2<|aI b z;simp only[iQ,ny,vC,Cm]at hi lW;by_cases e:i=ks.length
   ·by_cases e':i'=ks.length
    ·rw[e,e']
    ·rw[e,aB8]at hb;rw[NU i'<|by omega]at iG;exact absurd hb<|one i' (by omega) b iG
   ·rw[NU i<|by omega]at hb;by_cases e':i'=ks.length
    ·rw[e',aB8]at iG;exact absurd iG<|one i (by omega) b hb
    ·rw[NU i'<|by omega]at iG;exact h.mem.apart i i' (by omega) (by omega) b hb iG
  ·rcases hb with hb|hb
   ·obtain⟨a1,a2,a3⟩:=h.mem.sH b hb;exact⟨a1,fun z=>(L9 b z).elim a2 fun z=>(h.mem.qL _ hc).2.1<|z▸hb,a3⟩
   ·obtain⟨a1,a2,a3,_⟩:=O6 b hb;exact⟨a1,fun z=>(L9 b z).elim a2 fun z=>kM<|z▸hb,a3⟩
  ·rcases Hl b hb with z|z
   ·exact(h.mem.KC b z).imp .inl id
   ·exact .inl<|.inr z
  ·rcases TB b hb with z|z
   ·exact .inl<|h.mem.Gm b z
   ·exact .inr z
  ·rcases get i x hx with z|⟨_,rfl⟩
   ·exact .inl<|h.mem.xJ i x z b hb
   ·exact .inr hb
  ·rcases L9 b hb with z|rfl
   ·exact h.mem.low b z
   ·exact(h.mem.qL _ hc).1
  ·rcases L9 b hb with z|rfl
   ·exact h.mem.KD b z
   ·exact(h.mem.qL _ hc).2.2.2
 have zy:∀op∈#[({g:=0,fn,pos,act:=.go gs.size}:MemOp),{g:=gs.size,fn:=fn',pos:=pos',act:=.start}],op.act.touch?=af/\op.act.low w.heap.size/\op.act≠.mark (.release<|stA X.Wg):=by
  intro op aF;simp only[rP,jC,oN,oO]at aF;rcases aF with rfl|rfl<;>exact⟨rfl,trivial,by simp⟩
 have oJ:=h.pos;have aAC:=h.size;refine⟨by simp[h.size]<;>omega,h.pos,fun a g h0 ha hg=>?_,fun a ha=>?_,by rw[hd];exact h.deaf0,fun a ha=>?_,hm,?_,seen_app h.seen fun op aF=>(zy op aF).2.1,?_,h.norel.app fun op aF=>(zy op aF).2.2,⟨h.gz.1,h.gz.2.1,h.gz.2.2.1,fun x hx=>?_,fun i i' x x' h1 h2 e=>?_⟩,h.oV⟩
 ·rw[hd];refine h.old a g h0 ha ?_;rw[PE,if_neg (by simp<;>omega),gu<|by omega]at hg;exact hg
 ·rw[hd];exact h.above a (by simp at ha;omega)
 ·rw[hd];by_cases e:a=ks.length
  ·rw[e,aB8];exact h.above _<|by omega
  ·rw[aCa _ _ e];exact h.deafW a (by simp at ha;omega)
 ·refine h.ti.fork (k:=gs.size) ⟨rfl,rfl⟩ ⟨rfl,rfl⟩ h.deaf0 (h.above _<|bV _) ?_ ?_ ?_ ?_
  ·rintro k' l ⟨i,hi,rfl,hl⟩;simp only[iQ,ny,vC,Cm]at hi;by_cases e:i=ks.length
   ·right;subst e;rw[aB8]at hl;refine⟨by omega,?_⟩;have nO:∀{b:Nat},(l=.obj b\/∃a,l=.cell a/\a.block=b)->(∀i,i<ks.length->¬Sw i b)->(∀i,i<ks.length->l≠.cell ⟨X.C,i,af⟩)->¬G b->∀uB,uB≠0->¬X.O Sw ks.length uB l/\¬X.Rd ks uB l:=by
     intro b hb h1 h2 h3 uB _;refine⟨?_,?_⟩
     ·rintro⟨i,hi,rfl,hl|hl⟩
      ·rcases hb with rfl|⟨a,rfl,rfl⟩<;>exact h1 i hi hl
      ·exact h2 i hi hl
     ·rintro⟨i,x,hx,rfl,hl⟩;have:=h.mem.xJ i x hx;rcases hb with rfl|⟨a,rfl,rfl⟩<;>exact h3<|this _<|(X.side x).le _ hl
    rcases hl with hl|rfl
    ·have key:∀b,Sk b->(l=.obj b\/∃a,l=.cell a/\a.block=b)->¬X.Sh l/\¬kD X.gJ l/\∀uB,uB≠0->¬X.O Sw ks.length uB l/\¬X.Rd ks uB l:=by
      intro b hb gI;obtain⟨a1,a2,a3,a4⟩:=h.mem.qL b<|aI b hb;refine⟨?_,?_,nO gI (fun i hi z=>(h.mem.kU i hi b z).2.2.2.2<|aI b hb) (fun i hi e=>?_) a2⟩
      ·rintro(⟨a,e,ha⟩|e)
       ·rcases gI with gI|⟨a',gI,rfl⟩
        ·rw[e]at gI;cases gI
        ·rw[e]at gI;cases gI;exact a3<|.inl ha
       ·rcases gI with gI|⟨a',gI,rfl⟩
        ·rw[e]at gI;cases gI;exact a3<|.inr<|.inr<|.inl rfl
        ·rw[e]at gI;cases gI
      ·rcases gI with rfl|⟨a',rfl,rfl⟩<;>exact fun z=>a4<|.inl z
      ·rcases gI with gI|⟨a',gI,rfl⟩
       ·rw[e]at gI;cases gI
       ·rw[e]at gI;cases gI;exact a3<|.inr<|.inl rfl
     refine⟨hl.mem,?_⟩;cases l with
     |cell a=>exact key a.block hl<|.inr ⟨a,rfl,rfl⟩
     |obj r=>exact key r hl<|.inl rfl
     |_=>exact hl.elim
    ·refine⟨rfl,?_,fun z=>h.mem.KD _ (.inr<|.inl rfl)<|.inl z,nO (b:=X.C) (.inr ⟨_,rfl,rfl⟩) (fun i hi z=>(h.mem.kU i hi _ z).2.2.1<|.inr<|.inl rfl) (fun i hi e=>?_) fun z=>(h.mem.sH _ z).2.1<|.inr<|.inl rfl⟩
     ·rintro(⟨a,e,ha⟩|e)
      ·cases e;exact h.gz.1 ha.symm
      ·cases e
     ·simp at e;omega
   ·rw[NU i<|by omega]at hl;exact .inl ⟨i,by omega,rfl,hl⟩
  ·rintro k' l ⟨i,x,hx,rfl,hl⟩;rcases get i x hx with z|⟨rfl,rfl⟩
   ·exact .inl ⟨i,x,z,rfl,hl⟩
   ·right;have key:∀b,(X.side x).rd b->(l=.obj b\/∃a,l=.cell a/\a.block=b)->¬X.Sh l/\¬kD X.gJ l/\∀uB,uB≠0->¬X.O Sw ks.length uB l:=by
     intro b hb gI;obtain⟨a1,a2,a3,a4⟩:=O6 b<|(X.side x).le b hb;refine⟨?_,?_,?_⟩
     ·rintro(⟨a,e,ha⟩|e)
      ·rcases gI with gI|⟨a',gI,rfl⟩
       ·rw[e]at gI;cases gI
       ·rw[e]at gI;cases gI;exact a2<|.inl ha
      ·rcases gI with gI|⟨a',gI,rfl⟩
       ·rw[e]at gI;cases gI;exact a2<|.inr<|.inr<|.inl rfl
       ·rw[e]at gI;cases gI
     ·rcases gI with rfl|⟨a',rfl,rfl⟩<;>exact a3
     ·rintro uB _ ⟨i,hi,rfl,Ye|Ye⟩
      ·rcases gI with rfl|⟨a',rfl,rfl⟩<;>exact a4 i hi Ye
      ·rcases gI with gI|⟨a',gI,rfl⟩
       ·rw[Ye]at gI;cases gI
       ·rw[Ye]at gI;cases gI;exact a2<|.inr<|.inl rfl
    refine⟨by omega,hl.mem,?_⟩;cases l with
    |cell a=>exact key a.block hl<|.inr ⟨a,rfl,rfl⟩
    |obj r=>exact key r hl<|.inl rfl
    |_=>exact hl.elim
  ·rintro k' l ⟨i,hi,rfl,hl⟩;exact⟨i,by simp<;>omega,rfl,by rw[NU i hi];exact hl⟩
  ·rintro k' l ⟨i,x,hx,rfl,hl⟩;exact⟨i,x,by rw[tJ (dD.1 hx).1];exact hx,rfl,hl⟩
 ·obtain⟨v,rfl,hv⟩:=h.base;refine⟨v++ #[{g:=0,fn,pos,act:=.go gs.size},{g:=gs.size,fn:=fn',pos:=pos',act:=.start}],by simp[YG],fun op aF ht=>?_⟩;rcases Ia.1 aF with aF|aF
  ·exact(hv op aF ht).imp id fun⟨i,hi,e⟩=>⟨i,by simp<;>omega,e⟩
  ·exact absurd (zy op aF).1 ht
 ·rcases og.1 hx with z|z
  ·exact h.gz.2.2.2.1 x z
  ·simp at z;subst z;exact⟨fun e=>TC<|.inl e,fun e=>TC<|.inr<|.inl e,fun e=>TC<|.inr<|.inr<|.inl e⟩
 ·rcases get i x h1 with z|⟨rfl,rfl⟩
  ·rcases get i' x' h2 with z'|⟨rfl,rfl⟩
   ·exact h.gz.2.2.2.2 i i' x x' z z' e
   ·exact absurd (.inr<|.inr<|.inr ⟨x,fD z,e.symm⟩) TC
  ·rcases get i' x' h2 with z'|⟨rfl,rfl⟩
   ·exact absurd (.inr<|.inr<|.inr ⟨x',fD z',e⟩) TC
   ·rfl
end
end eX
end
section
namespace eX
open Go Go.Conc Twin
open Go.ConcN (upd upd_same upd_ne)
open Go.ConcR (stA smA)
inductive qw where
 |fQ
 |go
 |send (i:Nat) (v:aj)
def msgs:List qw->Nat->List aj
 |[],_=>[]
 | .send i v::ts,j=>if j=i then v::msgs ts j else msgs ts j
 |_::ts,j=>msgs ts j
section
variable{K:Type}(X:bn K)
def bn.cs(k:K)(z0 z1:aj):Array CommCase:=#[rcase (X.ch k) z0,rcase X.ov z1]
structure bn.rC(k:K)(l:List aj)(S:aC)(g:aX)(z0 z1:aj)(sh:CommShape)(w:ah):Prop where
 run:g.status=.running
 step:∀w1,aQ S (X.side k) w w1->aW X.P false g w1=.comm g (X.cs k z0 z1) true sh w1 #[]
 told:∀v r,l++v::r=X.wQ k->au X.P false (X.side k) (X.Gl k<|l++[v]) S (g.finishComm X.P (X.cs k z0 z1) sh 0 v true) w
 over:au X.P false (X.side k) (X.Fin k l) S (g.finishComm X.P (X.cs k z0 z1) sh 1 z1 false) w
def bn.Fit:Prop:=∀k l S g w,X.Gl k l S g w->∃z0 z1 sh,X.rC k l S g z0 z1 sh w
inductive bn.Gn(k:K)(l:List aj):T->aC->aX->ah->Prop where
 |run {τ S g w} (h:Bi X.P false (X.side k) (X.Gl k l) τ S g w):Gn k l τ.more S g w
 |parked {S g z0 z1 sh w} (h:X.rC k l S g z0 z1 sh w):Gn k l .stop S (Go.Conc.parked g (X.cs k z0 z1) sh) w
def bn.jH(End:List K->cO->aC->aX->ah->Prop):List qw->List K->Nat->cO->aC->aX->ah->Prop
 |[],ks,d,E=>fun S g w=>d=0/\g.status=.running/\End ks E S g w
 | .fQ::ts,ks,d,E=>fun S g w=>g.status=.running/\∃g' w' es,aW X.P true g w=.go g' w' es/\Aside X.Wg w w'/\(∀e∈es,X.NT e)/\au X.P true E (bn.jH End ts ks (deafBehind d es) E) S g' w'
 | .go::ts,ks,d,E=>fun S g w=>d=0/\g.status=.running/\∃g' child k Sk E1 S1,aW X.P true g w=.spawn g' child w #[]/\
    au X.P false (X.side k) (X.Gl k []) Sk child w/\(∀b,Sk b->S b)/\S (X.ch k)/\¬Sk (X.ch k)/\¬(X.side k).ro (X.ch k)/\(∀b,(X.side k).ro b->S b\/E.rd b)/\(∀b,Sk b->¬(X.side k).ro b)/\
    (∀b,S1 b->S b/\¬Sk b/\¬(X.side k).ro b/\b≠X.ch k)/\(∀b,E1.ro b->E.ro b\/(X.side k).ro b)/\(∀b,E1.rd b->E.rd b\/(X.side k).ro b)/\(∃s r,w.heap[X.ch k]? =ae (.chan 0 #[] false s r false))/\
    msgs ts ks.length=X.wQ k/\au X.P true E1 (bn.jH End ts (ks++[k]) 0 E1) S1 g' w
 | .send i v::ts,ks,d,E=>fun S g w=>d=0/\g.status=.running/\∃k z sh,ks[i]? =ae k/\aW X.P true g w=.comm g #[scase (X.ch k) v z] true sh w #[]/\
    au X.P true E (bn.jH End ts ks 0 E) S (g.finishComm X.P #[scase (X.ch k) v z] sh 0 ag false) w
inductive bn.Gp(End:List K->cO->aC->aX->ah->Prop)(ts:List qw)(ks:List K)(d:Nat)(E:cO):T->aC->aX->ah->Prop where
 |run {τ S g w} (h:Bi X.P true E (X.jH End ts ks d E) τ S g w):Gp End ts ks d E τ.more S g w
 |parked {i v k z sh S g w bs} (has:ts=.send i v::bs) (hd:d=0) (hk:ks[i]? =ae k)
   (hn:au X.P true E (X.jH End bs ks 0 E) S (g.finishComm X.P #[scase (X.ch k) v z] sh 0 ag false) w):Gp End ts ks d E .stop S (Go.Conc.parked g #[scase (X.ch k) v z] sh) w
structure bn.Inv1(End:List K->cO->aC->aX->ah->Prop)(o:Option Obj)(t0:Trace)(ts:List qw)(ks:List K)(gs:Array aX)(w:ah)(t:Trace)(d:Nat)(E:cO)(S0 G:aC)(Sw:Nat->aC)(q:Nat->Nat)(aU:Nat->List aj)(D:Nat->T)(τ:T):Prop where
 base:X.Base t0 ks gs w t d (fun _=>0) E S0 G Sw q
 main:∃a,gs[0]? =ae a/\X.Gp End ts ks d E τ S0 a w
 work:∀(i:Nat) (k:K),ks[i]? =ae k->∃g,gs[X.m0+i]? =ae g/\X.Gn k (aU i) (D<|X.m0+i) (Sw i) g w
 old:∀i,0<i->i<X.m0->D i=T.nat (q i)
 qM:∀k∈ks,∃s r,w.heap[X.ch k]? =ae (.chan 0 #[] false s r false)
 over:∃cap s r,w.heap[X.ov]? =ae (.chan cap #[] false s r false)
 pair:∀a i v bs,gs[0]? =ae a->a.status=.blocked->ts=.send i v::bs->∃g,gs[X.m0+i]? =ae g/\g.status=.running
 pay:w.heap[X.C]? =o
 none:∀i,ks.length<=i->aU i=[]
 wQ:∀(i:Nat) (k:K),ks[i]? =ae k->aU i++msgs ts i=X.wQ k
end
section
variable{K:Type}{X:bn K}{End:List K->cO->aC->aX->ah->Prop}{k:K}{l:List aj}{τ:T}{S:aC}{g:aX}{w w1:ah}{ts:List qw}{ks:List K}{d:Nat}{E:cO}
theorem bn.rC.rely{z0 z1:aj}{sh:CommShape}(h:X.rC k l S g z0 z1 sh w)(hk:aQ S (X.side k) w w1):X.rC k l S g z0 z1 sh w1:=
 ⟨h.run,fun w2 k2=>h.step w2<|hk.trans k2,fun v r hv=>(h.told v r hv).rely hk,h.over.rely hk⟩
theorem bn.Gn.rely(h:X.Gn k l τ S g w)(hk:aQ S (X.side k) w w1):X.Gn k l τ S g w1:=by
 cases h with
 |run h=>exact .run<|h.rely hk
 |parked h=>exact .parked<|h.rely hk
theorem bn.Gp.rely(h:X.Gp End ts ks d E τ S g w)(hk:aQ S E w w1):X.Gp End ts ks d E τ S g w1:=by
 cases h with
 |run h=>exact .run<|h.rely hk
 |parked h1 h2 h3 h4=>exact .parked h1 h2 h3<|h4.rely hk
theorem bn.jH.running(h:X.jH End ts ks d E S g w):g.status=.running:=by
 cases ts with
 |nil=>exact h.2.1
 |cons a ts=>
  cases a with
  |fQ=>exact h.1
  |go=>exact h.2.1
  |send i v=>exact h.2.1
theorem CY{P:dO}{main:Bool}{Stop:aC->aX->ah->Prop}(h:Bi P main E Stop τ S g w)(hs:∀S g w,Stop S g w->g.status=.running):g.status=.running:=by
 cases τ with
 |stop=>exact hs _ _ _<|h w<|aQ.refl _ _ _
 |step f=>exact h.1
theorem bn.Gn.status(F:X.Fit)(h:X.Gn k l τ S g w):g.status=.running\/∃g0 z0 z1 sh,g=Go.Conc.parked g0 (X.cs k z0 z1) sh/\X.rC k l S g0 z0 z1 sh w:=by
 cases h with
 |run h=>exact .inl (CY h fun S g w x=>let ⟨_,_,_,y⟩:=F _ _ _ _ _ x;y.run)
 |parked h=>exact .inr ⟨_,_,_,_,rfl,h⟩
theorem bn.Gp.status(h:X.Gp End ts ks d E τ S g w):g.status=.running\/∃i v k z sh g0 bs,g=Go.Conc.parked g0 #[scase (X.ch k) v z] sh/\ts=.send i v::bs/\ks[i]? =ae k:=by
 cases h with
 |run h=>exact .inl<|CY h fun S g w x=>x.running
 |parked h1 h2 h3 h4=>exact .inr ⟨_,_,_,_,_,_,_,rfl,h1,h3⟩
end
end eX
end
section
namespace eX
open Go Go.Conc Twin
open Go.ConcN (upd upd_same upd_ne)
open Go.ConcR (stA smA)
section
variable{K:Type}{X:bn K}{End:List K->cO->aC->aX->ah->Prop}{o:Option Obj}{t0:Trace}{ts:List qw}{ks:List K}{gs:Array aX}{w w':ah}{t:Trace}{d:Nat}{E:cO}{S0 G:aC}{Sw:Nat->aC}{q:Nat->Nat}{aU:Nat->List aj}{D:Nat->T}{τ:T}
 {sl:Option (Nat×Nat)}
def bn.Inv1.at(h:X.Inv1 End o t0 ts ks gs w t d E S0 G Sw q aU D τ)(n:Nat):X.Inv1 End o t0 ts ks gs (w.at n) t d E S0 G Sw q aU D τ:=
 ⟨h.base.at n,let ⟨a,ha,hm⟩:=h.main;⟨a,ha,hm.rely<|aQ.at _ _ _ _⟩,fun i k hk=>let ⟨g,hg,hs⟩:=h.work i k hk;⟨g,hg,hs.rely<|aQ.at _ _ _ _⟩,h.old,h.qM,h.over,h.pair,h.pay,h.none,h.wQ⟩
variable{dW:Nat->Nat}{g:aX}{i c cap s r b:Nat}{k:K}{es:Array Event}{buf:Array aj}{cl tm:Bool}
def bn.Base.Eo(h:X.Base t0 ks gs w t d dW E S0 G Sw q){j:Nat}(hj:gs[j]? =ae g):j=0\/(0<j/\j<X.m0)\/∃i k,j=X.m0+i/\ks[i]? =ae k:=by
 have aB:j<gs.size:=(iU.1 hj).1;rw[h.size]at aB;rcases H9 j with h0|h0
 ·exact .inl h0
 ·rcases Eb j X.m0 with h1|h1
  ·exact .inr<|.inl ⟨h0,h1⟩
  ·exact .inr<|.inr ⟨j-X.m0,ks[j-X.m0]'(by omega),by omega,dR _⟩
def bn.Inv1.still(F:X.Fit)(h:X.Inv1 End o t0 ts ks gs w t d E S0 G Sw q aU D τ)(hc:∀k∈ks,∃s r,w'.heap[X.ch k]? =ae (.chan 0 #[] false s r false))(ho:∃cap s r,w'.heap[X.ov]? =ae (.chan cap #[] false s r false))(a a':aX):gs.map (woken X.P a a' w')=gs:=by
 apply Array.ext_getElem?;intro j;rw[wH];cases hj:gs[j]? with
 |none=>rfl
 |some g=>
  simp only[FB,fJ];rcases h.base.Eo hj with rfl|⟨h0,h1⟩|⟨i,k,rfl,hk⟩
  ·obtain⟨x,hx,hm⟩:=h.main;rw[hj]at hx;cases hx;rcases hm.status with hs|⟨i,v,k,z,sh,g0,bs,rfl,_,hk⟩
   ·exact aDj hs
   ·obtain⟨s,r,hc⟩:=hc k<|fD hk;exact woken_send_open a a' hc
  ·exact aCC<|h.base.old j g h0 h1 hj
  ·obtain⟨x,hx,hs⟩:=h.work i k hk;rw[hj]at hx;cases hx;rcases hs.status F with hs|⟨g0,z0,z1,sh,rfl,_⟩
   ·exact aDj hs
   ·unfold woken;split
    ·obtain⟨s,r,hc⟩:=hc k<|fD hk;obtain⟨cap,s',r',ho⟩:=ho;refine again_all_open fun cc pI=>?_;simp only[bn.cs,rP,jC,oN,oO]at pI;rcases pI with rfl|rfl
     ·exact⟨_,_,_,_,_,_,_,rfl,hc⟩
     ·exact⟨_,_,_,_,_,_,_,rfl,ho⟩
    ·rfl
def bn.Base.aaO(h:X.Base t0 ks gs w t d dW E S0 G Sw q)(hk:ks[i]? =ae k)(hG:iO (Sw i) (X.side k) w w' es):
 aQ S0 E w w'/\(∀i' k',i'≠i->ks[i']? =ae k'->aQ (Sw i') (X.side k') w w')/\∀b,X.Sp ks b->w'.heap[b]? =w.heap[b]? :=by
 have hi:i<ks.length:=(dD.1 hk).1;have nG:∀b,G b->b<w.heap.size/\¬Sw i b:=fun b hb=>⟨(h.mem.sH b hb).1,fun z=>(h.mem.kU i hi b z).2.1 hb⟩;have IM:∀b,X.Sp ks b->b<w.heap.size/\¬Sw i b:=fun b hb=>⟨h.mem.low b hb,fun z=>(h.mem.kU i hi b z).2.2.1 hb⟩;refine⟨aaL hG (fun b hb=>⟨(h.mem.qL b hb).1,fun z=>(h.mem.kU i hi b z).2.2.2.2 hb⟩) fun b hb=>(h.mem.KC b hb).elim (nG b) fun e=>IM b<|.inl e,fun i' k' bM dC=>?_,fun b hb=>hG.still b (IM b hb).1 (IM b hb).2⟩;have lW:i'<ks.length:=(dD.1 dC).1;exact aaL hG (fun b hb=>⟨(h.mem.kU i' lW b hb).1,fun z=>bM<|h.mem.apart i' i lW hi b hb z⟩) fun b hb=>nG b<|h.mem.xJ i' k' dC b hb
def bn.Inv1.stepW(h:X.Inv1 End o t0 ts ks gs w t d E S0 G Sw q aU D τ)(hk:ks[i]? =ae k){fn:FuncId}{pos:String}(hG:iO (Sw i) (X.side k) w w' es){g':aX}{σ:T}(hs:X.Gn k (aU i) σ (grow (Sw i) w w') g' w')(fU:g'.status=.running):
 X.Inv1 End o t0 ts ks (gs.setIfInBounds (X.m0+i) g') w' (t++MemOp.ofEvents (X.m0+i) fn pos es) d E S0 G (upd Sw i<|grow (Sw i) w w') q aU (upd D (X.m0+i) σ) τ:=by
 have hi:i<ks.length:=(dD.1 hk).1;obtain⟨k0,kW,kS⟩:=h.base.aaO hk hG;have oJ:=h.base.pos;have aB:X.m0+i<gs.size:=by rw[h.base.size];omega
 refine⟨h.base.stepW hk hG (by simp) fun j h0 h1=>by rw[gu<|by omega],?_,fun i' k' dC=>?_,fun j h0 h1=>by rw[aCa _ _<|by omega];exact h.old j h0 h1,fun κ jd=>?_,?_,fun a i0 v bs ha hb he=>?_,?_,h.none,h.wQ⟩
 ·obtain⟨a,ha,hm⟩:=h.main;exact⟨a,by rw[gu<|by omega];exact ha,hm.rely k0⟩
 ·by_cases e:i'=i
  ·subst e;rw[hk]at dC;cases dC;exact⟨g',by rw[rO aB],by rw[aB8,aB8];exact hs⟩
  ·obtain⟨x,hx,Ph⟩:=h.work i' k' dC;exact⟨x,by rw[gu<|by omega];exact hx,by rw[aCa _ _<|by omega,aCa _ _ e];exact Ph.rely<|kW i' k' e dC⟩
 ·obtain⟨s,r,hc⟩:=h.qM κ jd;exact⟨s,r,by rw[kS _<|.inr<|.inr<|.inr ⟨κ,jd,rfl⟩];exact hc⟩
 ·obtain⟨cap,s,r,hc⟩:=h.over;exact⟨cap,s,r,by rw[kS _<|.inr<|.inr<|.inl rfl];exact hc⟩
 ·rw[gu<|by omega]at ha;obtain⟨x,hx,hr⟩:=h.pair a i0 v bs ha hb he;by_cases e:i0=i
  ·subst e;exact⟨g',by rw[rO aB],fU⟩
  ·exact⟨x,by rw[gu<|by omega];exact hx,hr⟩
 ·rw[kS _<|.inr<|.inl rfl];exact h.pay
def bn.QM(X:bn K)(End:List K->cO->aC->aX->ah->Prop)(o:Option Obj)(t0:Trace)(ts:List qw)(gs:Array aX)(w:ah)(sl:Option (Nat×Nat))(t:Trace)(aU:Nat->List aj)(D:Nat->T)(τ:T)(x:Nat):Prop:=
 ∃gs1 w1 ops CZ xK d1 E1 S1 G1 uJ q1 yY D1 ik,runT X.P (crowd gs w sl) x=(.next<|crowd gs1 w1 sl,ops)/\X.Inv1 End o t0 CZ xK gs1 w1 (t++ops) d1 E1 S1 G1 uJ q1 yY D1 ik/\
  (CZ.length<ts.length\/(CZ.length=ts.length/\gs1.size=gs.size/\(CX gs.size D1 D\/(D1=D/\T.Lt ik τ))))/\∀i,yY i++msgs CZ i=aU i++msgs ts i
def bn.Inv1.agy(F:X.Fit)(h:X.Inv1 End o t0 ts ks gs w t d E S0 G Sw q aU D τ){x:Nat}(h0:∀a,gs[0]? =ae a->offersAt a c true=[]):partners (gs.setIfInBounds x ph) c true=[]:=by
 refine partners_nil fun j g hj=>?_;rcases aC8 gs x j g hj with⟨_,rfl⟩|⟨_,hj⟩
 ·rfl
 ·rcases h.base.Eo hj with rfl|⟨h1,h2⟩|⟨i,k,rfl,hk⟩
  ·exact h0 g hj
  ·rcases(h.base.old j g h1 h2 hj).status with hs|hs<;>exact aCc (by rw[hs];simp) _ _
  ·obtain⟨y,hy,hs⟩:=h.work i k hk;rw[hj]at hy;cases hy;rcases hs.status F with hs|⟨g0,z0,z1,sh,rfl,_⟩
   ·exact aCc (by rw[hs];simp) _ _
   ·refine offersAt_parked_sends (fun cc pI=>?_) _;simp only[bn.cs,rP,jC,oN,oO]at pI;rcases pI with rfl|rfl<;>rfl
def QN{w:ah}(hb:b≠c):(w.setChan c cap buf cl s r tm).heap[b]? =w.heap[b]? :=by
 unfold World.setChan;exact gu<|iI hb
def aqd{w:ah}(hc:c<w.heap.size):(w.setChan c cap buf cl s r tm).heap[c]? =ae (.chan cap buf cl s r tm):=by
 unfold World.setChan;exact rO hc
def agz{w:ah}:(w.setChan c cap buf cl s r tm).heap.size=w.heap.size:=by
 unfold World.setChan;simp
def aaP{S:aC}{E:cO}{w:ah}(h1:¬S c)(h2:¬E.ro c):aQ S E w (w.setChan c cap buf cl s r tm):=
 ⟨rfl,rfl,rfl,AU agz.symm,fun _ hb=>QN fun e=>h1<|e▸hb,fun _ hb=>QN fun e=>h2<|e▸hb⟩
def aqe{q:Nat->Prop}{w:ah}(h:ai.iZ q w):ai.iZ q (w.setChan c cap #[] cl s r tm):=h.setObj fun _ v hv=>by simp at hv
def bn.Base.QO(h:X.Base t0 ks gs w t d dW E S0 G Sw q)(hb:X.Sp ks b):¬S0 b/\(b≠X.Wg->¬E.ro b)/\(∀i,i<ks.length->¬Sw i b)/\∀(i:Nat) (k:K),ks[i]? =ae k->¬(X.side k).ro b:=
 ⟨fun z=>(h.mem.qL b z).2.2.1 hb,fun bM z=>(h.mem.KC b z).elim (fun g=>(h.mem.sH b g).2.1 hb) bM,fun i hi z=>(h.mem.kU i hi b z).2.2.1 hb,fun i k hk z=>(h.mem.sH b<|h.mem.xJ i k hk b z).2.1 hb⟩
def aaQ(Wg B:Nat)(u:Trace):Prop:=∀op∈u,op.act.touch?=af/\op.act.low B/\op.act≠.mark .disable/\op.act≠.mark .enable/\op.act≠.mark (.release<|stA Wg)
def bn.Inv1.met{v:aj}{bs:List qw}(h:X.Inv1 End o t0 (.send i v::bs) ks gs w t 0 E S0 G Sw q aU D τ)(hk:ks[i]? =ae k){ga gw:aX}{z z0 z1:aj}{sh VW:CommShape}
 (hW:X.rC k (aU i) (Sw i) gw z0 z1 sh w)(hn:au X.P true E (X.jH End bs ks 0 E) S0 (ga.finishComm X.P #[scase (X.ch k) v z] VW 0 ag false) w){gs1:Array aX}(dS:gs1.size=gs.size)(Yf:gs1[0]? =ae (ga.finishComm X.P #[scase (X.ch k) v z] VW 0 ag false))
 (h1i:gs1[X.m0+i]? =ae (gw.finishComm X.P (X.cs k z0 z1) sh 0 v true))(yC:∀j,j≠0->j≠X.m0+i->gs1[j]? =gs[j]?){u:Trace}(hu:aaQ X.Wg w.heap.size u)(s r:Nat):
 ∃D1 ik,X.Inv1 End o t0 bs ks gs1 (w.setChan (X.ch k) 0 #[] false s r false) (t++u) 0 E S0 G Sw q (upd aU i<|aU i++[v]) D1 ik:=by
 have oI:=fD hk;have hi:i<ks.length:=(dD.1 hk).1;obtain⟨n0,nE,nW,nR⟩:=h.base.QO (b:=X.ch k)<|.inr<|.inr<|.inr ⟨k,oI,rfl⟩;have oJ:=h.base.pos;obtain⟨hcW,hcC,hco⟩:=h.base.gz.2.2.2.1 k oI;obtain⟨σ,hσ⟩:=IJ ((hW.told v (msgs bs i) (by rw[<-h.wQ i k hk];simp[msgs])).rely<|aaP (cap:=0) (buf:=#[]) (cl:=false) (s:=s) (r:=r) (tm:=false) (nW i hi)<|nR i k hk);obtain⟨ik,zW⟩:=IJ<|hn.rely<|aaP (cap:=0) (buf:=#[]) (cl:=false) (s:=s) (r:=r) (tm:=false) n0<|nE hcW;refine⟨upd D (X.m0+i) σ.more,ik.more,h.base.quiet (aqe h.base.oV) agz hu dS fun j h0 h1=>yC j (by omega)<|by omega,⟨_,Yf,.run zW⟩,fun i' k' dC=>?_,fun j h0 h1=>by rw[aCa _ _<|by omega];exact h.old j h0 h1,fun κ jd=>?_,?_,fun a i0 v0 bs0 ha hb he=>?_,?_,fun i' lW=>?_,fun i' k' dC=>?_⟩
 ·by_cases e:i'=i
  ·subst e;rw[hk]at dC;cases dC;exact⟨_,h1i,by rw[aB8,aB8];exact .run hσ⟩
  ·obtain⟨x,hx,hs⟩:=h.work i' k' dC;exact⟨x,by rw[yC _ (by omega)<|by omega];exact hx,by rw[aCa aU _ e,aCa D _<|by omega];exact hs.rely<|aaP (nW i' (dD.1 dC).1)<|nR i' k' dC⟩
 ·by_cases e:X.ch κ=X.ch k
  ·exact⟨s,r,by rw[e];exact aqd<|h.base.mem.low _<|.inr<|.inr<|.inr ⟨k,oI,rfl⟩⟩
  ·obtain⟨s',r',hc⟩:=h.qM κ jd;exact⟨s',r',by rw[QN e];exact hc⟩
 ·obtain⟨cap,s',r',hc⟩:=h.over;exact⟨cap,s',r',by rw[QN<|iI hco];exact hc⟩
 ·rw[Yf]at ha;cases ha;simp[Goroutine.finishComm]at hb
 ·rw[QN<|iI hcC];exact h.pay
 ·rw[aCa _ _<|by omega];exact h.none i' lW
 ·rw[<-h.wQ i' k' dC];by_cases e:i'=i
  ·subst e;rw[aB8];simp[msgs]
  ·rw[aCa _ _ e];simp[msgs,e]
def QP(Wg B x:Nat)(fn:FuncId)(pos:String):aaQ Wg B (MemOp.ofEvents x fn pos #[]):=fun op aF=>by
 obtain⟨e,he,rfl⟩:=aB1 aF;simp at he
def bn.Inv1.aqf(F:X.Fit)(h:X.Inv1 End o t0 ts ks gs w t d E S0 G Sw q aU D τ)(hk:ks[i]? =ae k)(hg:gs[X.m0+i]? =ae g)(fU:g.status=.running):X.QM End o t0 ts gs w sl t aU D τ (X.m0+i):=by
 have hi:i<ks.length:=(dD.1 hk).1;have oJ:=h.base.pos;have aB:X.m0+i<gs.size:=by rw[h.base.size];omega
 have pq:(X.m0+i==0)=false:=by simp<;>omega
 have oI:=fD hk;obtain⟨x,hx,hs⟩:=h.work i k hk;rw[hg]at hx;cases hx;generalize hD:D (X.m0+i)=σ at hs;cases hs with
 |parked hW=>simp[Go.Conc.parked]at fU
 | @run σ _ _ _ hT=>
   cases σ with
   |step f=>
    obtain⟨g',w2,es,hgo,hG,Au⟩:=hT.2 w<|aQ.refl _ _ _;obtain⟨k0,kW,kS⟩:=h.base.aaO hk hG;have bU:=h.still (w':=w2) F (fun κ jd=>let ⟨s,r,hc⟩:=h.qM κ jd;⟨s,r,by rw[kS _<|.inr<|.inr<|.inr ⟨κ,jd,rfl⟩];exact hc⟩) (let ⟨cap,s,r,hc⟩:=h.over;⟨cap,s,r,by rw[kS _<|.inr<|.inr<|.inl rfl];exact hc⟩) g g';have hr:=aCn (P:=X.P) (sl:=sl) (i:=X.m0+i) hg (by rw[pq];exact hgo);rw[bU]at hr;have TD:g'.status=.running:=CY Au fun S g w x=>let ⟨_,_,_,y⟩:=F _ _ _ _ _ x;y.run;refine⟨_,w2,_,ts,ks,d,E,S0,G,_,q,aU,_,τ,hr,h.stepW hk hG (.run Au) TD,.inr ⟨rfl,by simp,.inl ⟨X.m0+i,aB,?_,fun j hj=>aCa _ _ hj⟩⟩,fun _=>rfl⟩;rw[aB8,hD];exact T.QJ<|.mk f w
   |stop=>
    obtain⟨z0,z1,sh,hW⟩:=F _ _ _ _ _<|hT w<|aQ.refl _ _ _;have jk:=hW.step w<|aQ.refl _ _ _;obtain⟨s,r,hc⟩:=h.qM k oI;obtain⟨cap,s',r',ho⟩:=h.over;obtain⟨a,ha,hm⟩:=h.main;have hco:=(h.base.gz.2.2.2.1 k oI).2.2;have zA:partners (gs.setIfInBounds (X.m0+i) ph) X.ov true=[]:=h.agy F fun a' ha'=>by
     rw[ha]at ha';cases ha';rcases hm.status with hs|⟨i0,v,k',z,sh',g0,bs,rfl,_,dC⟩
     ·exact aCc (by rw[hs];simp) _ _
     ·rw[aC1,if_neg (h.base.gz.2.2.2.1 k'<|fD dC).2.2]
    have agA:(∀a,gs[0]? =ae a->offersAt a (X.ch k) true=[])->(∀a v bs,gs[0]? =ae a->a.status=.blocked->ts≠.send i v::bs)->X.QM End o t0 ts gs w sl t aU D τ (X.m0+i):=by
     intro qc C9;have hr:=crowd_waits (P:=X.P) (sl:=sl) (i:=X.m0+i) (w:=w) (w₁:=w) hg (by rw[pq];exact jk) (by
      intro cc pI;simp only[bn.cs,rP,jC,oN,oO]at pI;rcases pI with rfl|rfl
      ·exact aC9 hc<|h.agy F qc
      ·exact aC9 ho zA)
     refine⟨_,w,_,ts,ks,d,E,S0,G,Sw,q,aU,upd D (X.m0+i) .stop,τ,hr,⟨h.base.quiet h.base.oV rfl (QP _ _ _ _ _) (by simp) fun j h0 h1=>by rw[gu<|by omega],⟨a,by rw[gu<|by omega];exact ha,hm⟩,fun i' k' dC=>?_,fun j h0 h1=>by rw[aCa _ _<|by omega];exact h.old j h0 h1,h.qM,h.over,fun a' i0 v bs ha' hb he=>?_,h.pay,h.none,h.wQ⟩,.inr ⟨rfl,by simp,.inl ⟨X.m0+i,aB,?_,fun j hj=>aCa _ _ hj⟩⟩,fun _=>rfl⟩
     ·by_cases e:i'=i
      ·subst e;rw[hk]at dC;cases dC;exact⟨_,by rw[rO aB],by rw[aB8];exact .parked hW⟩
      ·obtain⟨y,hy,hs⟩:=h.work i' k' dC;exact⟨y,by rw[gu<|by omega];exact hy,by rw[aCa _ _<|by omega];exact hs⟩
     ·rw[gu<|by omega]at ha';obtain⟨y,hy,hr⟩:=h.pair a' i0 v bs ha' hb he;have e:i0≠i:=fun e=>C9 a' v bs ha' hb<|e▸he;exact⟨y,by rw[gu<|by omega];exact hy,hr⟩
     ·rw[aB8,hD];exact T.agt
    cases hm with
    |run hM=>
     have hs:=CY hM fun S g w x=>x.running;exact agA (fun a' ha'=>by rw[ha]at ha';cases ha';exact aCc (by rw[hs];simp) _ _) (fun a' v bs ha' hb=>by rw[ha]at ha';cases ha';rw[hs]at hb;cases hb)
    | @parked i0 v k' z sh' _ ga _ bs has hd dC hn=>
      by_cases e:i0=i
      ·subst e;rw[hk]at dC;cases dC;subst has hd;have hp:partners (gs.setIfInBounds (X.m0+i0) ph) (X.ch k) true=[(0,0)]:=by
        have:=partners_one (gs:=gs.setIfInBounds (X.m0+i0) ph) (r:=X.ch k) (send:=true) (j:=0) (g:=Go.Conc.parked ga #[scase (X.ch k) v z] sh') (by rw[gu<|by omega];exact ha) (fun j y hj hy=>by
         rcases aC8 gs _ j y hy with⟨_,rfl⟩|⟨_,hy⟩
         ·rfl
         ·rcases h.base.Eo hy with rfl|⟨h1,h2⟩|⟨i',k',rfl,dC⟩
          ·exact absurd rfl hj
          ·rcases(h.base.old j y h1 h2 hy).status with hs|hs<;>exact aCc (by rw[hs];simp) _ _
          ·obtain⟨y',Jz,hs⟩:=h.work i' k' dC;rw[hy]at Jz;cases Jz;rcases hs.status F with hs|⟨g0,z0,z1,sh,rfl,_⟩
           ·exact aCc (by rw[hs];simp) _ _
           ·refine offersAt_parked_sends (fun cc pI=>?_) _;simp only[bn.cs,rP,jC,oN,oO]at pI;rcases pI with rfl|rfl<;>rfl)
        rw[this,aC1,if_pos rfl];rfl
       have hr:=crowd_sel_recv_meets (P:=X.P) (sl:=sl) (i:=X.m0+i0) (j:=0) (w:=w) (w₁:=w) (k:=0) (c:=X.ch k) (z:=z0) hg (by rw[pq];exact jk) (by simp[bn.cs]) (fun m c' hm yu=>by
        match m,hm,yu with
        |0,hm,_=>exact absurd rfl hm
        |1,_,yu=>simp[bn.cs]at yu;subst yu;exact aC9 ho zA
        |m+2,_,yu=>simp[bn.cs]at yu) hc (by omega) ha hp
       have mP:X.ch k<w.heap.size:=h.base.mem.low _<|.inr<|.inr<|.inr ⟨k,oI,rfl⟩;obtain⟨D1,ik,hI⟩:=h.met hk hW hn (gs1:=(gs.setIfInBounds 0<|ga.finishComm X.P #[scase (X.ch k) v z] sh' 0 ag false).setIfInBounds (X.m0+i0)<|g.finishComm X.P (X.cs k z0 z1) sh 0 v true) (by simp)
        (by rw[gu<|by omega,rO<|by omega]) (by rw[rO<|by simpa using aB]) (fun j h0 h1=>by rw[gu<|iI h1,gu<|iI h0])
        (u:=MemOp.ofEvents (X.m0+i0) g.frame.fn g.frame.place #[]++ #[{g:=0,fn:=ga.frame.fn,pos:=ga.frame.place,act:=.send (X.ch k) s},{g:=X.m0+i0,fn:=g.frame.fn,pos:=g.frame.place,act:=.recv (X.ch k) r 0},
          {g:=0,fn:=ga.frame.fn,pos:=ga.frame.place,act:=.sendDone (X.ch k) s},{g:=X.m0+i0,fn:=g.frame.fn,pos:=g.frame.place,act:=.recvDone (X.ch k) r}]) (by
          intro op aF;rcases Ia.1 aF with aF|aF
          ·exact QP _ _ _ _ _ op aF
          ·simp only[rP,jC,oN,oO]at aF;rcases aF with rfl|rfl|rfl|rfl<;>exact⟨rfl,mP,by simp,by simp,by simp⟩) (s+1) (r+1)
       refine⟨_,_,_,bs,ks,0,E,S0,G,Sw,q,_,D1,ik,hr,hI,.inl<|by simp,fun j=>?_⟩;by_cases e:j=i0
       ·subst e;rw[aB8];simp[msgs]
       ·rw[aCa _ _ e];simp[msgs,e]
      ·refine agA (fun a' ha'=>?_) (fun a' v' bs' ha' hb he=>?_)
       ·rw[ha]at ha';cases ha';rw[aC1,if_neg fun e'=>e<|h.base.gz.2.2.2.2 i0 i k' k dC hk e']
       ·rw[has]at he;simp at he;exact e he.1.1
end
end eX
end
end Go.Proofs.YtkelpcjiediamaaGreat
