import Derived.Test.YtkelpcjiediamaaGreatQb6
import Derived.Conc.CrowdRun
import Derived.Conc.CrowdSel
set_option maxRecDepth 100000
set_option maxHeartbeats 0
set_option linter.all false
namespace Go.Proofs.YtkelpcjiediamaaGreat
def aCh:=@Go.Conc.getElem?_append_cases
def aCH:=@Go.Conc.touch_of
def aCR:=@Go.ConcR.loc_of_ofEvent
def aC0:=@Go.Conc.touchAt_of
open Go renaming Goroutine→aX,Program→dO,Value→aj,World→ah,stepG→aW
open Option renaming none→af,some→ae
section
namespace eX
open Go Go.Conc
open Go.ConcN (PermW fork_knows RelBy)
structure TI(Sh gJ:Loc->Prop)(O Rd:Nat->Loc->Prop)(t:Trace):Prop where
 clean:∀said,¬Race said t
 plain:∀i a,touchAt t i=ae a->Sh a.loc->a.kind=.plain->Knows t 0 i/\∀k,k≠0->(∃l,O k l)->Knows t k i
 said:∀i a,touchAt t i=ae a->Sh a.loc->a.kind=.said->Knows t 0 i
 own:∀k l,k≠0->O k l->Perm t k l
 rd:∀k l,k≠0->Rd k l->PermW t k l
 free:∀l,l.isMemory=true->¬Sh l->¬gJ l->(∀k,k≠0->¬O k l/\¬Rd k l)->Perm t 0 l
 mine:∀l,l.isMemory=true->¬Sh l->¬gJ l->(∀k,k≠0->¬O k l)->PermW t 0 l
structure Cls(Sh:Loc->Prop)(O Rd:Nat->Loc->Prop):Prop where
 own:∀k k' l,O k l->O k' l->k=k'
 ownRd:∀k k' l,O k l->¬Rd k' l
 ownSh:∀k l,O k l->¬Sh l
 rdSh:∀k l,Rd k l->¬Sh l
section
variable{Sh gJ:Loc->Prop}{O Rd O' Rd':Nat->Loc->Prop}{t u:Trace}
def ags(Sh gJ:Loc->Prop)(O Rd:Nat->Loc->Prop)(x:Touch):Prop:=
 (Sh x.loc/\x.kind≠.plain)\/(¬Sh x.loc/\¬gJ x.loc/\(∀k,k≠0->¬O k x.loc)/\(x.write=true->∀k,k≠0->¬Rd k x.loc))
def aaK(Sh:Loc->Prop)(O Rd:Nat->Loc->Prop)(k:Nat)(x:Touch):Prop:=
 (Sh x.loc/\x.kind≠.plain/\x.kind≠.said)\/O k x.loc\/(Rd k x.loc/\x.write=false)
def TI.app0(A:Cls Sh O Rd)(h:TI Sh gJ O Rd t)(hg:∀op∈u,op.g=0)(hu:∀op∈u,∀x,op.act.touch?=ae x->ags Sh gJ O Rd x):TI Sh gJ O Rd (t++u):=by
 refine⟨fun said=>?_,fun i a ha hs hp=>?_,fun i a ha hs hp=>?_,fun k l hk hl=>(h.own k l hk hl).app fun op aF b hb e=>?_,fun k l hk hl=>(h.rd k l hk hl).app fun op aF b hb e hw=>?_,fun l hl h1 h2 h3=>(h.free l hl h1 h2 h3).app fun op aF _ _ _=>hg op aF,fun l hl h1 h2 h3=>(h.mine l hl h1 h2 h3).app fun op aF _ _ _ _=>hg op aF⟩
 ·refine noRace_append (h.clean said) hg fun i a ha op aF b hb hc=>?_;rcases hu op aF b hb with⟨hs,hk⟩|⟨hs,DY,qc,TA⟩
  ·rcases hc.2.2.2 with e|e|⟨_,e,_⟩
   ·exact(h.plain i a ha (hc.1▸hs) e).1
   ·exact absurd e hk
   ·exact h.said i a ha (hc.1▸hs) e
  ·cases Ya:b.write with
   |true=>exact h.free b.loc (hc.1▸hc.2.1) hs DY (fun k hk=>⟨qc k hk,TA Ya k hk⟩) i a ha hc.1
   |false=>exact h.mine b.loc (hc.1▸hc.2.1) hs DY qc i a ha hc.1<|hc.2.2.1.resolve_right<|by simp[Ya]
 ·obtain⟨x,hx,EY⟩:=aCH ha;rcases aCh hx with⟨_,xq⟩|⟨_,L6⟩
  ·obtain⟨p,q⟩:=h.plain i a (by rw[aC0 xq];exact EY) hs hp;exact⟨p.app u,fun k hk hl=>(q k hk hl).app u⟩
  ·rcases hu x L6 a EY with⟨_,hk⟩|⟨hn,_⟩
   ·exact absurd hp hk
   ·exact absurd hs hn
 ·obtain⟨x,hx,EY⟩:=aCH ha;rcases aCh hx with⟨_,xq⟩|⟨_,L6⟩
  ·exact(h.said i a (by rw[aC0 xq];exact EY) hs hp).app u
  ·have:=knows_own hx;rwa[hg x L6]at this
 ·rcases hu op aF b hb with⟨hs,_⟩|⟨_,_,hn,_⟩
  ·exact absurd (e▸hs)<|A.ownSh k l hl
  ·exact absurd (e▸hl)<|hn k hk
 ·rcases hu op aF b hb with⟨hs,_⟩|⟨_,_,_,hn⟩
  ·exact absurd (e▸hs)<|A.rdSh k l hl
  ·exact absurd (e▸hl)<|hn hw k hk
def TI.appW(A:Cls Sh O Rd)(h:TI Sh gJ O Rd t){k:Nat}(hk:k≠0)(bU:∃l,O k l)(hg:∀op∈u,op.g=k)(hu:∀op∈u,∀x,op.act.touch?=ae x->aaK Sh O Rd k x):TI Sh gJ O Rd (t++u):=by
 refine⟨fun said=>?_,fun i a ha hs hp=>?_,fun i a ha hs hp=>?_,fun k' l dC hl=>(h.own k' l dC hl).app fun op aF b hb e=>?_,fun k' l dC hl=>(h.rd k' l dC hl).app fun op aF b hb e hw=>?_,fun l hl h1 h2 h3=>(h.free l hl h1 h2 h3).app fun op aF b hb e=>?_,fun l hl h1 h2 h3=>(h.mine l hl h1 h2 h3).app fun op aF b hb e hw=>?_⟩
 ·refine noRace_append (h.clean said) hg fun i a ha op aF b hb hc=>?_;rcases hu op aF b hb with⟨hs,h1,h2⟩|ho|⟨hr,Ya⟩
  ·rcases hc.2.2.2 with e|e|⟨_,_,e⟩
   ·exact(h.plain i a ha (hc.1▸hs) e).2 k hk bU
   ·exact absurd e h1
   ·exact absurd e h2
  ·exact h.own k b.loc hk ho i a ha hc.1
  ·exact h.rd k b.loc hk hr i a ha hc.1<|hc.2.2.1.resolve_right<|by simp[Ya]
 ·obtain⟨x,hx,EY⟩:=aCH ha;rcases aCh hx with⟨_,xq⟩|⟨_,L6⟩
  ·obtain⟨p,q⟩:=h.plain i a (by rw[aC0 xq];exact EY) hs hp;exact⟨p.app u,fun k hk hl=>(q k hk hl).app u⟩
  ·rcases hu x L6 a EY with⟨_,h1,_⟩|ho|⟨hr,_⟩
   ·exact absurd hp h1
   ·exact absurd hs<|A.ownSh k _ ho
   ·exact absurd hs<|A.rdSh k _ hr
 ·obtain⟨x,hx,EY⟩:=aCH ha;rcases aCh hx with⟨_,xq⟩|⟨_,L6⟩
  ·exact(h.said i a (by rw[aC0 xq];exact EY) hs hp).app u
  ·rcases hu x L6 a EY with⟨_,_,h2⟩|ho|⟨hr,_⟩
   ·exact absurd hp h2
   ·exact absurd hs<|A.ownSh k _ ho
   ·exact absurd hs<|A.rdSh k _ hr
 ·rcases hu op aF b hb with⟨hs,_⟩|ho|⟨hr,_⟩
  ·exact absurd (e▸hs)<|A.ownSh k' l hl
  ·rw[hg op aF];exact A.own k k' l (e▸ho) hl
  ·exact absurd (e▸hr)<|A.ownRd k' k l hl
 ·rcases hu op aF b hb with⟨hs,_⟩|ho|⟨_,hr⟩
  ·exact absurd (e▸hs)<|A.rdSh k' l hl
  ·exact absurd hl<|A.ownRd k k' l<|e▸ho
  ·rw[hr]at hw;cases hw
 ·rcases hu op aF b hb with⟨sZ,_⟩|ho|⟨hr,_⟩
  ·exact absurd (e▸sZ) h1
  ·exact absurd (e▸ho) (h3 k hk).1
  ·exact absurd (e▸hr) (h3 k hk).2
 ·rcases hu op aF b hb with⟨sZ,_⟩|ho|⟨_,hr⟩
  ·exact absurd (e▸sZ) h1
  ·exact absurd (e▸ho)<|h3 k hk
  ·rw[hr]at hw;cases hw
def Gj(hu:∀op∈u,op.act.touch?=af){i:Nat}{a:Touch}(ha:touchAt (t++u) i=ae a):touchAt t i=ae a:=by
 obtain⟨z,hz,hza⟩:=aCH ha;rcases aCh hz with⟨_,EX⟩|⟨_,hzu⟩
 ·rw[aC0 EX];exact hza
 ·rw[hu z hzu]at hza;cases hza
def ap8{said:Bool}(h:¬Race said t)(hu:∀op∈u,op.act.touch?=af):¬Race said (t++u):=by
 rintro⟨i,j,yj,⟨a,b,ha,hb,hc⟩,n1,n2⟩;exact h ⟨i,j,yj,⟨a,b,Gj hu ha,Gj hu hb,hc⟩,fun e=>n1<|hb_app u e,fun e=>n2<|hb_app u e⟩
def TI.vI(h:TI Sh gJ O Rd t)(hu:∀op∈u,op.act.touch?=af):TI Sh gJ O Rd (t++u):=by
 have no:∀op∈u,∀b,op.act.touch?=ae b->False:=fun op aF b hb=>by rw[hu op aF]at hb;cases hb
 exact⟨fun said=>ap8 (h.clean said) hu,fun i a ha hs hp=>let ⟨p,q⟩:=h.plain i a (Gj hu ha) hs hp;⟨p.app u,fun k hk hl=>(q k hk hl).app u⟩,fun i a ha hs hp=>(h.said i a (Gj hu ha) hs hp).app u,fun k l hk hl=>(h.own k l hk hl).app fun op aF b hb _=>(no op aF b hb).elim,fun k l hk hl=>(h.rd k l hk hl).app fun op aF b hb _ _=>(no op aF b hb).elim,
  fun l hl h1 h2 h3=>(h.free l hl h1 h2 h3).app fun op aF b hb _=>(no op aF b hb).elim,fun l hl h1 h2 h3=>(h.mine l hl h1 h2 h3).app fun op aF b hb _ _=>(no op aF b hb).elim⟩
def TI.grow(h:TI Sh gJ O Rd t)(O9:∀k l,O k l->O' k l)(zn:∀k l,O' k l->O k l\/∀i a,touchAt t i=ae a->a.loc≠l)(bU:∀k,(∃l,O' k l)->∃l,O k l):TI Sh gJ O' Rd t:=
 ⟨h.clean,fun i a ha hs hp=>let ⟨p,q⟩:=h.plain i a ha hs hp;⟨p,fun k hk hl=>q k hk<|bU k hl⟩,h.said,fun k l hk hl=>(zn k l hl).elim (h.own k l hk) fun hn i a ha e=>absurd e<|hn i a ha,h.rd,fun l hm h1 h2 h3=>h.free l hm h1 h2 fun k hk=>⟨fun x=>(h3 k hk).1<|O9 k l x,(h3 k hk).2⟩,fun l hm h1 h2 h3=>h.mine l hm h1 h2 fun k hk x=>h3 k hk<|O9 k l x⟩
def TI.fork(h:TI Sh gJ O Rd t){k:Nat}{x y:MemOp}(hx:x.g=0/\x.act=.go k)(hy:y.g=k/\y.act=.start)(h0:Deaf t 0=0)(hk:Deaf t k=0)
 (hO:∀k' l,O' k' l->O k' l\/(k'=k/\l.isMemory=true/\¬Sh l/\¬gJ l/\∀uB,uB≠0->¬O uB l/\¬Rd uB l))(hR:∀k' l,Rd' k' l->Rd k' l\/(k'=k/\l.isMemory=true/\¬Sh l/\¬gJ l/\∀uB,uB≠0->¬O uB l))
 (sO:∀k' l,O k' l->O' k' l)(sR:∀k' l,Rd k' l->Rd' k' l):TI Sh gJ O' Rd' (t++ #[x,y]):=by
 have L8:∀op∈#[x,y],op.act.touch?=none:=by
  intro op aF;simp only[rP,jC,oN,oO]at aF;rcases aF with rfl|rfl
  ·rw[hx.2];rfl
  ·rw[hy.2];rfl
 have h1:=h.vI L8;refine⟨h1.clean,fun i a ha hs hp=>⟨(h1.plain i a ha hs hp).1,fun k' dC hl=>?_⟩,h1.said,fun k' l dC hl=>?_,fun k' l dC hl=>?_,fun l hm a b c=>h1.free l hm a b fun k' dC=>⟨fun z=>(c k' dC).1<|sO k' l z,fun z=>(c k' dC).2<|sR k' l z⟩,fun l hm a b c=>h1.mine l hm a b fun k' dC z=>c k' dC<|sO k' l z⟩
 ·obtain⟨l,hl⟩:=hl;rcases hO k' l hl with z|⟨rfl,_⟩
  ·exact(h1.plain i a ha hs hp).2 k' dC ⟨l,z⟩
  ·exact fork_knows hx hy h0 hk (h.plain i a (Gj L8 ha) hs hp).1
 ·rcases hO k' l hl with z|⟨rfl,hm,a,b,c⟩
  ·exact h1.own k' l dC z
  ·exact fun i e he hl=>fork_knows hx hy h0 hk<|h.free l hm a b c i e (Gj L8 he) hl
 ·rcases hR k' l hl with z|⟨rfl,hm,a,b,c⟩
  ·exact h1.rd k' l dC z
  ·exact fun i e he hl hw=>fork_knows hx hy h0 hk<|h.mine l hm a b c i e (Gj L8 he) hl hw
def TI.begin{B:Nat}(h:Past gJ B t)(Yb:∀l,Sh l->l.isMemory=true/\¬gJ l):TI Sh gJ (fun _ _=>False) (fun _ _=>False) t:=by
 have key:∀l,l.isMemory=true->¬gJ l->Perm t 0 l:=by
  intro l hl h2 i a ha e;rcases h.known i a ha (by rw[e];exact hl)with k|k
  ·exact k
  ·exact absurd (e▸k.1) h2
 exact⟨h.clean,fun i a ha hs _=>⟨key a.loc (Yb _ hs).1 (Yb _ hs).2 i a ha rfl,fun _ _ hl=>hl.choose_spec.elim⟩,fun i a ha hs _=>key a.loc (Yb _ hs).1 (Yb _ hs).2 i a ha rfl,fun _ _ _ h=>h.elim,fun _ _ _ h=>h.elim,fun l hl _ h2 _=>key l hl h2,fun l hl _ h2 _=>.of<|key l hl h2⟩
end
end eX
end
section
namespace eX
open Go Go.Conc Twin
inductive T where
 |stop
 |step (f:ah->T)
inductive T.Lt:T->T->Prop where
 |mk (f:ah->T) (w:ah):T.Lt (f w) (.step f)
def T.acc:∀a:T,Acc T.Lt a
 | .stop=>⟨_,fun _ h=>nomatch h⟩
 | .step f=>⟨_,fun b h=>by
   generalize he:T.step f=c at h;cases h with
   |mk f' w=>
    cases he;exact T.acc<|f w⟩
def T.more:T->T
 | .stop=>.step fun _=>.stop
 | .step f=>.step fun w=>(f w).more
def T.QJ{a b:T}(h:T.Lt a b):T.Lt a.more b.more:=by
 cases h with
 |mk f w=>exact .mk (fun w=>(f w).more) w
def T.agt:T.Lt .stop T.stop.more:=.mk (fun _=>.stop) (default:ah)
def T.nat:Nat->T
 |0=>.stop
 |n+1=>.step fun _=>T.nat n
def T.II(n:Nat):T.Lt (T.nat n) (T.nat<|n+1):=.mk (fun _=>T.nat n) (default:ah)
def Bi(P:dO)(main:Bool)(E:cO)(Stop:aC->aX->ah->Prop):T->aC->aX->ah->Prop
 | .stop,S,g,w=>∀w1,aQ S E w w1->Stop S g w1
 | .step f,S,g,w=>g.status=.running/\∀w1,aQ S E w w1->∃g' w2 es,aW P main g w1=.go g' w2 es/\iO S E w1 w2 es/\Bi P main E Stop (f w1) (grow S w1 w2) g' w2
section
variable{P:dO}{main:Bool}{E:cO}{Stop:aC->aX->ah->Prop}{S:aC}{g:aX}{w:ah}
def IJ(h:au P main E Stop S g w):∃τ,Bi P main E Stop τ S g w:=by
 induction h with
 |stop h=>exact⟨.stop,h⟩
 | @step S g w hr f hs _ ih=>
   have h':∀w1,∃τ,aQ S E w w1->Bi P main E Stop τ (grow S w1 (f w1).2.1) (f w1).1 (f w1).2.1:=by
    intro w1;by_cases hk:aQ S E w w1
    ·obtain⟨τ,zW⟩:=ih w1 hk;exact⟨τ,fun _=>zW⟩
    ·exact⟨.stop,fun k=>absurd k hk⟩
   obtain⟨F,hF⟩:=PD h';exact⟨.step F,hr,fun w1 hk=>⟨_,_,_,(hs w1 hk).1,(hs w1 hk).2,hF w1 hk⟩⟩
def Bi.rely{τ:T}(h:Bi P main E Stop τ S g w){w1:ah}(hk:aQ S E w w1):Bi P main E Stop τ S g w1:=by
 cases τ with
 |stop=>exact fun w2 k=>h w2<|hk.trans k
 |step f=>exact⟨h.1,fun w2 k=>h.2 w2<|hk.trans k⟩
end
def CX(N:Nat)(D' D:Nat->T):Prop:=∃i,i<N/\T.Lt (D' i) (D i)/\∀k,k≠i->D' k=D k
def CX.wf:∀N,WellFounded (CX N)
 |0=>⟨fun D=>⟨_,fun D' h=>absurd h.choose_spec.1<|Nat.not_lt_zero _⟩⟩
 |N+1=>by
  have ihN:=CX.wf N;have key:∀a:T,Acc T.Lt a->∀D:Nat->T,D N=a->Acc (CX<|N+1) D:=by
   intro a ha;induction ha with
   |intro a _ ih=>
    intro D;refine ihN.induction (C:=fun D=>D N=a->Acc (CX<|N+1) D) D ?_;intro D QK hD;refine⟨_,fun D' h=>?_⟩;obtain⟨i,hi,aB,yC⟩:=h;rcases Eb i N with h|h
    ·exact QK D' ⟨i,h,aB,yC⟩<|by rw[yC N<|by omega,hD]
    ·obtain rfl:i=N:=by omega
     exact ih (D' i) (hD▸aB) D' rfl
  exact⟨fun D=>key (D N) (T.acc _) D rfl⟩
def aqa{motive:Nat->Nat->(Nat->T)->T->Prop}
 (h:∀A N D τ,(∀A' N' D' nJ,A'<A->motive A' N' D' nJ)->(∀D' nJ,CX N D' D->motive A N D' nJ)->(∀nJ,T.Lt nJ τ->motive A N D nJ)->motive A N D τ):∀A N D τ,motive A N D τ:=by
 intro A;induction A using Nat.strongRecOn with
 |ind A Kz=>
  intro N D;refine(CX.wf N).induction (C:=fun D=>∀τ,motive A N D τ) D ?_;intro D QK τ
  have:=T.acc τ
  induction this with
  |intro τ _ KA=>exact h A N D τ (fun A' N' D' nJ aB=>Kz A' aB N' D' nJ) (fun D' nJ hv=>QK D' hv nJ) KA
end eX
end
section
namespace eX
open Go Go.Conc Twin
open Go.ConcN (upd upd_same upd_ne)
open Go.ConcR (stA smA)
def kD(S:aC):Loc->Prop
 | .cell a=>S a.block
 | .obj r=>S r
 |_=>False
theorem kD.mem{S:aC}{l:Loc}(h:kD S l):l.isMemory=true:=by cases l<;>first|rfl|exact h.elim
theorem kD.mono{S S':aC}(h:∀b,S b->S' b){l:Loc}(hl:kD S l):kD S' l:=by cases l<;>first|exact h _ hl|exact hl.elim
def QL(n:Nat)(a:Addr)(t:Trace):Prop:=∀i,n<=i->t.act? i≠ae (.mark<|.release a)
theorem QL.app{n:Nat}{a:Addr}{t u:Trace}(h:QL n a t)(hu:∀op∈u,op.act≠.mark (.release a)):QL n a (t++u):=by
 intro i hi e;obtain⟨op,aF,Jy⟩:=yI.1 e;rcases aCh aF with⟨_,Yc⟩|⟨_,yz⟩
 ·exact h i hi<|by rw[act?_of Yc,Jy]
 ·exact hu op yz Jy
structure bn(K:Type)where
 P:dO
 Wg:Nat
 C:Nat
 ov:Nat
 m0:Nat
 gJ:aC
 yV:aC
 ch:K->Nat
 side:K->cO
 Gl:K->List aj->aC->aX->ah->Prop
 Fin:K->List aj->aC->aX->ah->Prop
 wQ:K->List aj
section
variable{K:Type}(X:bn K)
def bn.yX:Nat->Prop:=fun b=>X.gJ b\/X.yV b
def bn.bK:Nat->Prop:=fun b=>X.yX b\/b=X.Wg
def bn.Sp(ks:List K):aC:=fun b=>b=X.Wg\/b=X.C\/b=X.ov\/∃k∈ks,b=X.ch k
def bn.Sh:Loc->Prop:=fun l=>(∃a,l=.cell a/\a.block=X.Wg)\/l=.obj X.ov
def bn.O(Sw:Nat->aC)(n:Nat):Nat->Loc->Prop:=fun k l=>∃i,i<n/\k=X.m0+i/\(kD (Sw i) l\/l=.cell ⟨X.C,i,af⟩)
def bn.Rd(ks:List K):Nat->Loc->Prop:=fun k l=>∃i x,ks[i]? =ae x/\k=X.m0+i/\kD (X.side x).rd l
structure bn.Mem(ks:List K)(E:cO)(S0 G:aC)(Sw:Nat->aC)(w:ah):Prop where
 qL:∀b,S0 b->b<w.heap.size/\¬G b/\¬X.Sp ks b/\¬X.yX b
 kU:∀i,i<ks.length->∀b,Sw i b->b<w.heap.size/\¬G b/\¬X.Sp ks b/\¬X.yX b/\¬S0 b
 apart:∀i i',i<ks.length->i'<ks.length->∀b,Sw i b->Sw i' b->i=i'
 sH:∀b,G b->b<w.heap.size/\¬X.Sp ks b/\¬X.gJ b
 KC:∀b,E.ro b->G b\/b=X.Wg
 Gm:∀b,E.rd b->G b
 xJ:∀(i:Nat) (k:K),ks[i]? =ae k->∀b,(X.side k).ro b->G b
 low:∀b,X.Sp ks b->b<w.heap.size
 bK:∀b,X.yX b->b<w.heap.size
 KD:∀b,X.Sp ks b->¬X.yX b
structure bn.Base(t0:Trace)(ks:List K)(gs:Array aX)(w:ah)(t:Trace)(d:Nat)(dW:Nat->Nat)(E:cO)(S0 G:aC)(Sw:Nat->aC)(q:Nat->Nat):Prop where
 size:gs.size=X.m0+ks.length
 pos:0<X.m0
 old:∀i g,0<i->i<X.m0->gs[i]? =ae g->QuitsD X.P (q i) (Deaf t i) g
 above:∀k,gs.size<=k->Deaf t k=0
 deaf0:Deaf t 0=d
 deafW:∀i,i<ks.length->Deaf t (X.m0+i)=dW i
 mem:X.Mem ks E S0 G Sw w
 ti:TI X.Sh (kD X.gJ) (X.O Sw ks.length) (X.Rd ks) t
 seen:∀op∈t,op.act.low w.heap.size
 base:∃u,t=t0++u/\∀op∈u,op.act.touch?≠af->op.g=0\/∃i,i<ks.length/\op.g=X.m0+i
 norel:QL t0.size (stA X.Wg) t
 gz:X.Wg≠X.C/\X.Wg≠X.ov/\X.C≠X.ov/\(∀k∈ks,X.ch k≠X.Wg/\X.ch k≠X.C/\X.ch k≠X.ov)/\∀(i i':Nat) (k k':K),ks[i]? =ae k->ks[i']? =ae k'->X.ch k=X.ch k'->i=i'
 oV:ai.iZ X.bK w
end
section
variable{K:Type}{X:bn K}{t0:Trace}{ks:List K}{gs gs':Array aX}{w w':ah}{t:Trace}{d:Nat}{dW:Nat->Nat}{E:cO}{S0 G:aC}{Sw:Nat->aC}{q:Nat->Nat}
theorem bn.Mem.cls(h:X.Mem ks E S0 G Sw w)(hd:X.Wg≠X.C/\X.Wg≠X.ov/\X.C≠X.ov):Cls X.Sh (X.O Sw ks.length) (X.Rd ks):=by
 have spC:X.Sp ks X.C:=.inr<|.inl rfl;have spW:X.Sp ks X.Wg:=.inl rfl;have spO:X.Sp ks X.ov:=.inr<|.inr<|.inl rfl;have nS:∀{S:aC} {l:Loc},(∀b,S b->¬X.Sp ks b)->kD S l->¬X.Sh l/\∀i,l≠.cell ⟨X.C,i,af⟩:=by
  intro S l hS hl;refine⟨?_,?_⟩
  ·rintro(⟨a,rfl,ha⟩|rfl)
   ·exact hS _ hl<|ha▸spW
   ·exact hS _ hl spO
  ·rintro i rfl;exact hS _ hl spC
 refine⟨?_,?_,?_,?_⟩
 ·rintro k k' l ⟨i,hi,rfl,h1⟩ ⟨i',lW,rfl,h2⟩;have e:i=i':=by
   rcases h1 with h1|rfl
   ·rcases h2 with h2|rfl
    ·cases l<;>first|exact h.apart i i' hi lW _ h1 h2|exact h1.elim
    ·exact absurd rfl<|(nS (fun b hb=>(h.kU i hi b hb).2.2.1) h1).2 i'
   ·rcases h2 with h2|h2
    ·exact absurd rfl<|(nS (fun b hb=>(h.kU i' lW b hb).2.2.1) h2).2 i
    ·simpa using h2
  rw[e]
 ·rintro k k' l ⟨i,hi,rfl,h1⟩ ⟨i',x,hx,rfl,h2⟩;have hG:kD G l:=kD.mono (fun b hb=>h.xJ i' x hx b<|(X.side x).le b hb) h2;rcases h1 with h1|rfl
  ·cases l<;>first|exact(h.kU i hi _ h1).2.1 hG|exact h1.elim
  ·exact(h.sH _ hG).2.1 spC
 ·rintro k l ⟨i,hi,rfl,h1⟩;rcases h1 with h1|rfl
  ·exact(nS (fun b hb=>(h.kU i hi b hb).2.2.1) h1).1
  ·rintro(⟨a,ha,hb⟩|ha)
   ·cases ha;exact hd.1 hb.symm
   ·cases ha
 ·rintro k l ⟨i,x,hx,rfl,h1⟩;have hG:kD G l:=kD.mono (fun b hb=>h.xJ i x hx b<|(X.side x).le b hb) h1;exact(nS (fun b hb=>(h.sH b hb).2.1) hG).1
variable{S:aC}{es:Array Event}{e:Event}{x:Nat}{u:Trace}{fn:FuncId}{pos:String}
theorem aaL{S':aC}{E E':cO}{w w2:ah}(h:iO S E w w2 es)(h1:∀b,S' b->b<w.heap.size/\¬S b)(h2:∀b,E'.ro b->b<w.heap.size/\¬S b):aQ S' E' w w2:=
 ⟨h.tape,h.os,h.output,h.size,fun b hb=>h.still b (h1 b hb).1 (h1 b hb).2,fun b hb=>h.still b (h2 b hb).1 (h2 b hb).2⟩
theorem agv{E:cO}(h:lT S E e){x:Touch}(hx:(MemAct.ofEvent e).touch?=ae x):kD S x.loc\/(kD E.rd x.loc/\x.write=false):=by
 obtain⟨loc,wr,sy⟩:=e;cases loc with
 |cell a=>
  simp only[MemAct.ofEvent,MemAct.touch?,fJ]at hx;subst hx;exact h
 |obj r=>
  obtain⟨hs,h⟩:=h;simp only at hs;subst hs;cases wr<;>simp only[MemAct.ofEvent,MemAct.touch?,fJ]at hx<;>(subst hx;exact h)
 |mark m=>
  obtain rfl:m=.noRoom:=h;simp[MemAct.ofEvent,MemAct.touch?]at hx
 |_=>exact h.elim
theorem agw{E:cO}{B:Nat}(h:lT S E e)(h1:∀b,S b->b<B)(h2:∀b,E.rd b->b<B):(MemAct.ofEvent e).low B:=by
 obtain⟨loc,wr,sy⟩:=e;cases loc with
 |cell a=>exact h.elim (h1 _) fun x=>h2 _ x.1
 |obj r=>
  obtain⟨hs,h⟩:=h;simp only at hs;subst hs;cases wr<;>exact h.elim (h1 _) fun x=>h2 _ x.1
 |mark m=>
  obtain rfl:m=.noRoom:=h;trivial
 |_=>exact h.elim
theorem NS{E:cO}(h:lT S E e):e.loc≠.mark .disable/\e.loc≠.mark .enable/\∀a,e.loc≠.mark (.release a):=by
 obtain⟨loc,wr,sy⟩:=e;cases loc with
 |mark m=>
  obtain rfl:m=.noRoom:=h;simp
 |_=>simp
theorem agx{t:Trace}(hu:∀op∈u,op.act≠.mark .disable/\op.act≠.mark .enable)(g:Nat):Deaf (t++u) g=Deaf t g:=by
 obtain⟨l⟩:=u;rw[Deaf_append];have key:∀(l:List MemOp) (d:Nat),(∀op∈l,op.act≠.mark .disable/\op.act≠.mark .enable)->l.foldl (deafStep g) d=d:=by
  intro l;induction l with
  |nil=>intro d _;rfl
  |cons y l ih=>
   intro d hl;have hy:deafStep g d y=d:=by
    have:=hl y (by simp);unfold deafStep;split
    ·exact absurd ‹_› this.1
    ·exact absurd ‹_› this.2
    ·rfl
   rw[List.foldl_cons,hy];exact ih d fun op aF=>hl op<|by simp[aF]
 exact key l _ fun op aF=>hu op<|by simpa using aF
theorem ofEvents_g{g:Nat}:∀op∈MemOp.ofEvents g fn pos es,op.g=g:=fun op aF=>by obtain⟨e,_,rfl⟩:=aB1 aF;rfl
theorem bn.Base.more(h:X.Base t0 ks gs w t d dW E S0 G Sw q)(hx:x=0\/∃i,i<ks.length/\x=X.m0+i)(hu:∀op∈u,op.g=x)(dS:w.heap.size<=w'.heap.size)(zy:∀op∈u,op.act.low w'.heap.size)(hrel:∀op∈u,op.act≠.mark (.release<|stA X.Wg)):
 (∀op∈t++u,op.act.low w'.heap.size)/\(∃v,t++u=t0++v/\∀op∈v,op.act.touch?≠af->op.g=0\/∃i,i<ks.length/\op.g=X.m0+i)/\QL t0.size (stA X.Wg) (t++u)/\(∀k,gs.size<=k->Deaf (t++u) k=0)/\∀g,g≠x->Deaf (t++u) g=Deaf t g:=by
 have KE:∀g,g≠x->Deaf (t++u) g=Deaf t g:=fun g hg=>aCr t (iI hg) u hu;refine⟨seen_app (fun op aF=>MemAct.low_mono dS<|h.seen op aF) zy,?_,h.norel.app hrel,fun k hk=>?_,KE⟩
 ·obtain⟨v,rfl,hv⟩:=h.base;refine⟨v++u,by simp[YG],fun op aF ht=>?_⟩;rcases Ia.1 aF with aF|aF
  ·exact hv op aF ht
  ·rw[hu op aF];exact hx
 ·rw[KE k ?_,h.above k hk];have:=h.size;have:=h.pos;rcases hx with rfl|⟨i,hi,rfl⟩<;>omega
theorem bn.Base.IK(h:X.Base t0 ks gs w t d dW E S0 G Sw q)(a a':aX)(w1:ah)(y:aX)(hx:x=0\/X.m0<=x):∀i,0<i->i<X.m0->((gs.map<|woken X.P a a' w1).setIfInBounds x y)[i]? =gs[i]? :=by
 intro i h0 hi;rw[gu<|by omega,wH];cases hg:gs[i]? with
 |none=>rfl
 |some g=>rw[FB,aCC<|h.old i g h0 hi hg]
theorem bn.Base.stepW(h:X.Base t0 ks gs w t d dW E S0 G Sw q){i:Nat}{k:K}(hk:ks[i]? =ae k)(hG:iO (Sw i) (X.side k) w w' es)(dS:gs'.size=gs.size)(hold:∀i,0<i->i<X.m0->gs'[i]? =gs[i]?):
 X.Base t0 ks gs' w' (t++MemOp.ofEvents (X.m0+i) fn pos es) d dW E S0 G (upd Sw i<|grow (Sw i) w w') q:=by
 have hi:i<ks.length:=(dD.1 hk).1;have hS:∀b,grow (Sw i) w w' b->b<w'.heap.size/\¬G b/\¬X.Sp ks b/\¬X.yX b/\¬S0 b:=by
  rintro b (hb|⟨h1,h2⟩)
  ·obtain⟨a,b⟩:=h.mem.kU i hi b hb;exact⟨dY a hG.size,b⟩
  ·exact⟨h2,fun x=>absurd (h.mem.sH b x).1<|by omega,fun x=>absurd (h.mem.low b x)<|by omega,fun x=>absurd (h.mem.bK b x)<|by omega,fun x=>absurd (h.mem.qL b x).1<|by omega⟩
 have wE:∀b,(X.side k).rd b->b<w'.heap.size:=fun b hb=>dY (h.mem.sH b<|h.mem.xJ i k hk b<|(X.side k).le b hb).1 hG.size;obtain⟨m1,m2,m3,m4,m5⟩:=h.more (w':=w') (u:=MemOp.ofEvents (X.m0+i) fn pos es) (.inr ⟨i,hi,rfl⟩) ofEvents_g hG.size (fun op aF=>by obtain⟨e,he,rfl⟩:=aB1 aF;exact agw (hG.evs e he) (fun b hb=>(hS b hb).1) wE)
  (fun op aF e=>by obtain⟨x,hx,rfl⟩:=aB1 aF;exact(NS<|hG.evs x hx).2.2 _<|aCR e)
 have hm:X.Mem ks E S0 G (upd Sw i<|grow (Sw i) w w') w':=by
  refine⟨fun b hb=>?_,fun i' lW b hb=>?_,fun a a' ha ha' b hb iG=>?_,fun b hb=>?_,h.mem.KC,h.mem.Gm,h.mem.xJ,fun b hb=>dY (h.mem.low b hb) hG.size,fun b hb=>dY (h.mem.bK b hb) hG.size,h.mem.KD⟩
  ·obtain⟨x,y⟩:=h.mem.qL b hb;exact⟨dY x hG.size,y⟩
  ·by_cases e:i'=i
   ·subst e;rw[aB8]at hb;exact hS b hb
   ·rw[aCa _ _ e]at hb;obtain⟨x,y⟩:=h.mem.kU i' lW b hb;exact⟨dY x hG.size,y⟩
  ·have one:∀c,c<ks.length->c≠i->∀b,Sw c b->grow (Sw i) w w' b->False:=by
    rintro c hc bM b h1 (h2|⟨h2,_⟩)
    ·exact bM<|h.mem.apart c i hc hi b h1 h2
    ·exact absurd (h.mem.kU c hc b h1).1<|by omega
   by_cases e:a=i
   ·by_cases e':a'=i
    ·rw[e,e']
    ·subst e;rw[aB8]at hb;rw[aCa _ _ e']at iG;exact(one a' ha' e' b iG hb).elim
   ·by_cases e':a'=i
    ·subst e';rw[aB8]at iG;rw[aCa _ _ e]at hb;exact(one a ha e b hb iG).elim
    ·rw[aCa _ _ e]at hb;rw[aCa _ _ e']at iG;exact h.mem.apart a a' ha ha' b hb iG
  ·obtain⟨x,y⟩:=h.mem.sH b hb;exact⟨dY x hG.size,y⟩
 refine⟨dS.trans h.size,h.pos,fun a g h0 ha hg=>?_,fun a ha=>m4 a<|dS▸ha,by rw[m5 0 (by have:=h.pos;omega)];exact h.deaf0,fun a ha=>?_,hm,?_,m1,m2,m3,h.gz,hG.QH h.oV fun b z=>⟨(h.mem.kU i hi b z).1,fun hb=>hb.elim (h.mem.kU i hi b z).2.2.2.1 fun e=>(h.mem.kU i hi b z).2.2.1<|.inl e⟩⟩
 ·rw[m5 a<|by omega];exact h.old a g h0 ha (by rw[<-hold a h0 ha];exact hg)
 ·by_cases e:a=i
  ·subst e;rw[aCM,h.deafW a ha];exact deafBehind_still (fun e he=>⟨(NS<|hG.evs e he).1,(NS<|hG.evs e he).2.1⟩) _
  ·rw[m5 _<|by omega];exact h.deafW a ha
 ·have o8:TI X.Sh (kD X.gJ) (X.O (upd Sw i<|grow (Sw i) w w') ks.length) (X.Rd ks) t:=by
   refine h.ti.grow ?_ ?_ ?_
   ·rintro c l ⟨a,ha,rfl,hl⟩;refine⟨a,ha,rfl,hl.imp (fun hl=>?_) id⟩;by_cases e:a=i
    ·subst e;rw[aB8];exact kD.mono (fun b hb=>.inl hb) hl
    ·rw[aCa _ _ e];exact hl
   ·rintro c l ⟨a,ha,rfl,hl⟩;rcases hl with hl|hl
    ·by_cases e:a=i
     ·subst e;rw[aB8]at hl;by_cases eF:kD (Sw a) l
      ·exact .inl ⟨a,ha,rfl,.inl eF⟩
      ·right;intro n x hx e;obtain⟨op,aF,uZ⟩:=aCH hx;have zy:=h.seen op<|JJ aF;have acR:∀b,kD (grow (Sw a) w w') l->(l=.obj b\/∃x,l=.cell x/\x.block=b)->w.heap.size<=b:=by
        rintro b h1 (rfl|⟨x,rfl,rfl⟩)
        ·rcases h1 with h1|h1
         ·exact absurd h1 eF
         ·exact h1.1
        ·rcases h1 with h1|h1
         ·exact absurd h1 eF
         ·exact h1.1
       have zu:x.loc.low w.heap.size:=by
        obtain⟨g0,fn0,azG,act⟩:=op;simp only at zy uZ;cases act with
        |access e=>simp only[MemAct.touch?,fJ]at uZ;subst uZ;exact zy
        |mark m=>cases m<;>simp[MemAct.touch?]at uZ<;>(subst uZ;exact zy)
        |_=>simp[MemAct.touch?]at uZ
       rw[e]at zu;cases l with
       |cell a=>exact absurd zu<|Nat.not_lt.2<|acR a.block hl<|.inr ⟨a,rfl,rfl⟩
       |obj r=>exact absurd zu<|Nat.not_lt.2<|acR r hl<|.inl rfl
       |_=>exact hl.elim
     ·rw[aCa _ _ e]at hl;exact .inl ⟨a,ha,rfl,.inl hl⟩
    ·exact .inl ⟨a,ha,rfl,.inr hl⟩
   ·rintro c ⟨l,a,ha,rfl,_⟩;exact⟨.cell ⟨X.C,a,af⟩,a,ha,rfl,.inr rfl⟩
  refine o8.appW (hm.cls ⟨h.gz.1,h.gz.2.1,h.gz.2.2.1⟩) (by have:=h.pos;omega) ⟨.cell ⟨X.C,i,af⟩,i,hi,rfl,.inr rfl⟩ ofEvents_g fun op aF x hx=>?_;obtain⟨e,he,rfl⟩:=aB1 aF;rcases agv (hG.evs e he) hx with y|⟨y,z⟩
  ·exact .inr<|.inl ⟨i,hi,rfl,.inl (by rw[aB8];exact y)⟩
  ·exact .inr<|.inr ⟨⟨i,k,hk,rfl,y⟩,z⟩
end
end eX
end
end Go.Proofs.YtkelpcjiediamaaGreat
