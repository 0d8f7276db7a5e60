import Derived.Test.YtkelpcjiediamaaGreatQf5
import Derived.Conc.CrowdRun
import Derived.Conc.CrowdSel
set_option maxRecDepth 100000
set_option maxHeartbeats 0
set_option linter.all false
namespace Go.Proofs.YtkelpcjiediamaaGreat
def aFn:=@Go.Conc.offersAt_of_not_blocked
def aFt:=@Go.Conc.getElem?_append_cases
def aFy:=@Go.Conc.Goes.cases
def aFC:=@Go.ConcN.RW.refl
def aFD:=@Go.Conc.aside_setCell
def aFI:=@Go.Conc.Goes.running
def aFK:=@Go.Conc.Goes.rely
def aFT:=@Go.Conc.touch_of
def aFZ:=@Go.Conc.lt_size_of_getElem?
def aF6:=@Go.ConcR.loc_of_ofEvent
def aF8:=@Go.Conc.again_running
def aGd:=@Go.Conc.touchAt_of
def aGe:=@Go.Conc.offersAt_parked_send
def aGk:=@Go.Conc.getElem?_stand
def aGl:=@Go.Conc.ways_recv_none
def aGt:=@Go.ConcR.ofEvent_loc_mark
def aGz:=@Go.Conc.ofEvents_eq
def aGC:=@Go.Conc.g?_old
open Go renaming Frame→bH,FuncId→ji,Goroutine→bM,Program→fJ,TypeId→dJ,Value→aA,World→ay,stepG→bK,undef→ai
open Go.World renaming cell?→aB,setCell→aX
open Option renaming none→af,some→ae
section
namespace fU
open Go Go.Conc
open Go.ConcN (PermW fork_knows RelBy)
structure TI(Sh iQ:Loc->Prop)(O Rd:Nat->Loc->Prop)(t:Trace):Prop where
 clean:∀said,¬Race said t
 plain:∀i a,touchAt t i=ae a->Sh a.loc->a.kind=.plain->Knows t 0 i/\∀k,k≠0->(∃l,O k l)->Knows t k i
 said:∀i a,touchAt t i=ae a->Sh a.loc->a.kind=.said->Knows t 0 i
 own:∀k l,k≠0->O k l->Perm t k l
 rd:∀k l,k≠0->Rd k l->PermW t k l
 free:∀l,l.isMemory=true->¬Sh l->¬iQ l->(∀k,k≠0->¬O k l/\¬Rd k l)->Perm t 0 l
 mine:∀l,l.isMemory=true->¬Sh l->¬iQ l->(∀k,k≠0->¬O k l)->PermW t 0 l
structure Cls(Sh:Loc->Prop)(O Rd:Nat->Loc->Prop):Prop where
 own:∀k k' l,O k l->O k' l->k=k'
 ownRd:∀k k' l,O k l->¬Rd k' l
 ownSh:∀k l,O k l->¬Sh l
 rdSh:∀k l,Rd k l->¬Sh l
section
variable{Sh iQ:Loc->Prop}{O Rd O' Rd':Nat->Loc->Prop}{t u:Trace}
def aiy(Sh iQ:Loc->Prop)(O Rd:Nat->Loc->Prop)(x:Touch):Prop:=
 (Sh x.loc/\x.kind≠.plain)\/(¬Sh x.loc/\¬iQ x.loc/\(∀k,k≠0->¬O k x.loc)/\(x.write=true->∀k,k≠0->¬Rd k x.loc))
def acH(Sh:Loc->Prop)(O Rd:Nat->Loc->Prop)(k:Nat)(x:Touch):Prop:=
 (Sh x.loc/\x.kind≠.plain/\x.kind≠.said)\/O k x.loc\/(Rd k x.loc/\x.write=false)
def TI.app0(A:Cls Sh O Rd)(h:TI Sh iQ O Rd t)(hg:∀op∈u,op.g=0)(hu:∀op∈u,∀x,op.act.touch?=ae x->aiy Sh iQ O Rd x):TI Sh iQ O Rd (t++u):=by
 refine⟨fun said=>?_,fun i a ha hs hp=>?_,fun i a ha hs hp=>?_,fun k l hk hl=>(h.own k l hk hl).app fun op aP b hb e=>?_,fun k l hk hl=>(h.rd k l hk hl).app fun op aP b hb e hw=>?_,fun l hl h1 h2 h3=>(h.free l hl h1 h2 h3).app fun op aP _ _ _=>hg op aP,fun l hl h1 h2 h3=>(h.mine l hl h1 h2 h3).app fun op aP _ _ _ _=>hg op aP⟩
 ·refine noRace_append (h.clean said) hg fun i a ha op aP b hb hc=>?_;rcases hu op aP b hb with⟨hs,hk⟩|⟨hs,Ff,oL,VK⟩
  ·rcases hc.2.2.2 with e|e|⟨_,e,_⟩
   ·exact(h.plain i a ha (hc.1▸hs) e).1
   ·exact absurd e hk
   ·exact h.said i a ha (hc.1▸hs) e
  ·cases hbw:b.write with
   |true=>exact h.free b.loc (hc.1▸hc.2.1) hs Ff (fun k hk=>⟨oL k hk,VK hbw k hk⟩) i a ha hc.1
   |false=>exact h.mine b.loc (hc.1▸hc.2.1) hs Ff oL i a ha hc.1<|hc.2.2.1.resolve_right<|by simp[hbw]
 ·obtain⟨x,hx,GX⟩:=aFT ha;rcases aFt hx with⟨_,vV⟩|⟨_,Og⟩
  ·obtain⟨p,q⟩:=h.plain i a (by rw[aGd vV];exact GX) hs hp;exact⟨p.app u,fun k hk hl=>(q k hk hl).app u⟩
  ·rcases hu x Og a GX with⟨_,hk⟩|⟨hn,_⟩
   ·exact absurd hp hk
   ·exact absurd hs hn
 ·obtain⟨x,hx,GX⟩:=aFT ha;rcases aFt hx with⟨_,vV⟩|⟨_,Og⟩
  ·exact(h.said i a (by rw[aGd vV];exact GX) hs hp).app u
  ·have:=knows_own hx;rwa[hg x Og]at this
 ·rcases hu op aP b hb with⟨hs,_⟩|⟨_,_,hn,_⟩
  ·exact absurd (e▸hs)<|A.ownSh k l hl
  ·exact absurd (e▸hl)<|hn k hk
 ·rcases hu op aP b hb with⟨hs,_⟩|⟨_,_,_,hn⟩
  ·exact absurd (e▸hs)<|A.rdSh k l hl
  ·exact absurd (e▸hl)<|hn hw k hk
def TI.appW(A:Cls Sh O Rd)(h:TI Sh iQ O Rd t){k:Nat}(hk:k≠0)(dF:∃l,O k l)(hg:∀op∈u,op.g=k)(hu:∀op∈u,∀x,op.act.touch?=ae x->acH Sh O Rd k x):TI Sh iQ O Rd (t++u):=by
 refine⟨fun said=>?_,fun i a ha hs hp=>?_,fun i a ha hs hp=>?_,fun k' l dV hl=>(h.own k' l dV hl).app fun op aP b hb e=>?_,fun k' l dV hl=>(h.rd k' l dV hl).app fun op aP b hb e hw=>?_,fun l hl h1 h2 h3=>(h.free l hl h1 h2 h3).app fun op aP b hb e=>?_,fun l hl h1 h2 h3=>(h.mine l hl h1 h2 h3).app fun op aP b hb e hw=>?_⟩
 ·refine noRace_append (h.clean said) hg fun i a ha op aP b hb hc=>?_;rcases hu op aP b hb with⟨hs,h1,h2⟩|ho|⟨hr,hbw⟩
  ·rcases hc.2.2.2 with e|e|⟨_,_,e⟩
   ·exact(h.plain i a ha (hc.1▸hs) e).2 k hk dF
   ·exact absurd e h1
   ·exact absurd e h2
  ·exact h.own k b.loc hk ho i a ha hc.1
  ·exact h.rd k b.loc hk hr i a ha hc.1<|hc.2.2.1.resolve_right<|by simp[hbw]
 ·obtain⟨x,hx,GX⟩:=aFT ha;rcases aFt hx with⟨_,vV⟩|⟨_,Og⟩
  ·obtain⟨p,q⟩:=h.plain i a (by rw[aGd vV];exact GX) hs hp;exact⟨p.app u,fun k hk hl=>(q k hk hl).app u⟩
  ·rcases hu x Og a GX with⟨_,h1,_⟩|ho|⟨hr,_⟩
   ·exact absurd hp h1
   ·exact absurd hs<|A.ownSh k _ ho
   ·exact absurd hs<|A.rdSh k _ hr
 ·obtain⟨x,hx,GX⟩:=aFT ha;rcases aFt hx with⟨_,vV⟩|⟨_,Og⟩
  ·exact(h.said i a (by rw[aGd vV];exact GX) hs hp).app u
  ·rcases hu x Og a GX with⟨_,_,h2⟩|ho|⟨hr,_⟩
   ·exact absurd hp h2
   ·exact absurd hs<|A.ownSh k _ ho
   ·exact absurd hs<|A.rdSh k _ hr
 ·rcases hu op aP b hb with⟨hs,_⟩|ho|⟨hr,_⟩
  ·exact absurd (e▸hs)<|A.ownSh k' l hl
  ·rw[hg op aP];exact A.own k k' l (e▸ho) hl
  ·exact absurd (e▸hr)<|A.ownRd k' k l hl
 ·rcases hu op aP b hb with⟨hs,_⟩|ho|⟨_,hr⟩
  ·exact absurd (e▸hs)<|A.rdSh k' l hl
  ·exact absurd hl<|A.ownRd k k' l<|e▸ho
  ·rw[hr]at hw;cases hw
 ·rcases hu op aP b hb with⟨uU,_⟩|ho|⟨hr,_⟩
  ·exact absurd (e▸uU) h1
  ·exact absurd (e▸ho) (h3 k hk).1
  ·exact absurd (e▸hr) (h3 k hk).2
 ·rcases hu op aP b hb with⟨uU,_⟩|ho|⟨_,hr⟩
  ·exact absurd (e▸uU) h1
  ·exact absurd (e▸ho)<|h3 k hk
  ·rw[hr]at hw;cases hw
def Ip(hu:∀op∈u,op.act.touch?=af){i:Nat}{a:Touch}(ha:touchAt (t++u) i=ae a):touchAt t i=ae a:=by
 obtain⟨z,hz,hza⟩:=aFT ha;rcases aFt hz with⟨_,GV⟩|⟨_,hzu⟩
 ·rw[aGd GV];exact hza
 ·rw[hu z hzu]at hza;cases hza
def asx{said:Bool}(h:¬Race said t)(hu:∀op∈u,op.act.touch?=af):¬Race said (t++u):=by
 rintro⟨i,j,zI,⟨a,b,ha,hb,hc⟩,n1,n2⟩;exact h ⟨i,j,zI,⟨a,b,Ip hu ha,Ip hu hb,hc⟩,fun e=>n1<|hb_app u e,fun e=>n2<|hb_app u e⟩
def TI.xu(h:TI Sh iQ O Rd t)(hu:∀op∈u,op.act.touch?=af):TI Sh iQ O Rd (t++u):=by
 have no:∀op∈u,∀b,op.act.touch?=ae b->False:=fun op aP b hb=>by rw[hu op aP]at hb;cases hb
 exact⟨fun said=>asx (h.clean said) hu,fun i a ha hs hp=>let ⟨p,q⟩:=h.plain i a (Ip hu ha) hs hp;⟨p.app u,fun k hk hl=>(q k hk hl).app u⟩,fun i a ha hs hp=>(h.said i a (Ip hu ha) hs hp).app u,fun k l hk hl=>(h.own k l hk hl).app fun op aP b hb _=>(no op aP b hb).e,fun k l hk hl=>(h.rd k l hk hl).app fun op aP b hb _ _=>(no op aP b hb).e,
  fun l hl h1 h2 h3=>(h.free l hl h1 h2 h3).app fun op aP b hb _=>(no op aP b hb).e,fun l hl h1 h2 h3=>(h.mine l hl h1 h2 h3).app fun op aP b hb _ _=>(no op aP b hb).e⟩
def TI.grow(h:TI Sh iQ O Rd t)(DU:∀k l,O k l->O' k l)(AA:∀k l,O' k l->O k l\/∀i a,touchAt t i=ae a->a.loc≠l)(dF:∀k,(∃l,O' k l)->∃l,O k l):TI Sh iQ O' Rd t:=
 ⟨h.clean,fun i a ha hs hp=>let ⟨p,q⟩:=h.plain i a ha hs hp;⟨p,fun k hk hl=>q k hk<|dF k hl⟩,h.said,fun k l hk hl=>(AA k l hl).e (h.own k l hk) fun hn i a ha e=>absurd e<|hn i a ha,h.rd,fun l hm h1 h2 h3=>h.free l hm h1 h2 fun k hk=>⟨fun x=>(h3 k hk).1<|DU k l x,(h3 k hk).2⟩,fun l hm h1 h2 h3=>h.mine l hm h1 h2 fun k hk x=>h3 k hk<|DU k l x⟩
def TI.fork(h:TI Sh iQ O Rd t){k:Nat}{x y:MemOp}(hx:x.g=0/\x.act=.go k)(hy:y.g=k/\y.act=.start)(h0:Deaf t 0=0)(hk:Deaf t k=0)
 (hO:∀k' l,O' k' l->O k' l\/(k'=k/\l.isMemory=true/\¬Sh l/\¬iQ l/\∀vW,vW≠0->¬O vW l/\¬Rd vW l))(hR:∀k' l,Rd' k' l->Rd k' l\/(k'=k/\l.isMemory=true/\¬Sh l/\¬iQ l/\∀vW,vW≠0->¬O vW l))
 (sO:∀k' l,O k' l->O' k' l)(sR:∀k' l,Rd k' l->Rd' k' l):TI Sh iQ O' Rd' (t++ #[x,y]):=by
 have Oh:∀op∈#[x,y],op.act.touch?=none:=by
  intro op aP;simp only[uo,jZ,qh,qi]at aP;rcases aP with rfl|rfl
  ·rw[hx.2];rfl
  ·rw[hy.2];rfl
 have h1:=h.xu Oh;refine⟨h1.clean,fun i a ha hs hp=>⟨(h1.plain i a ha hs hp).1,fun k' dV hl=>?_⟩,h1.said,fun k' l dV hl=>?_,fun k' l dV hl=>?_,fun l hm a b c=>h1.free l hm a b fun k' dV=>⟨fun z=>(c k' dV).1<|sO k' l z,fun z=>(c k' dV).2<|sR k' l z⟩,fun l hm a b c=>h1.mine l hm a b fun k' dV z=>c k' dV<|sO k' l z⟩
 ·obtain⟨l,hl⟩:=hl;rcases hO k' l hl with z|⟨rfl,_⟩
  ·exact(h1.plain i a ha hs hp).2 k' dV ⟨l,z⟩
  ·exact fork_knows hx hy h0 hk (h.plain i a (Ip Oh ha) hs hp).1
 ·rcases hO k' l hl with z|⟨rfl,hm,a,b,c⟩
  ·exact h1.own k' l dV z
  ·exact fun i e he hl=>fork_knows hx hy h0 hk<|h.free l hm a b c i e (Ip Oh he) hl
 ·rcases hR k' l hl with z|⟨rfl,hm,a,b,c⟩
  ·exact h1.rd k' l dV z
  ·exact fun i e he hl hw=>fork_knows hx hy h0 hk<|h.mine l hm a b c i e (Ip Oh he) hl hw
def TI.begin{B:Nat}(h:Past iQ B t)(hSh:∀l,Sh l->l.isMemory=true/\¬iQ l):TI Sh iQ (fun _ _=>False) (fun _ _=>False) t:=by
 have key:∀l,l.isMemory=true->¬iQ l->Perm t 0 l:=by
  intro l hl h2 i a ha e;rcases h.known i a ha (by rw[e];exact hl)with k|k
  ·exact k
  ·exact absurd (e▸k.1) h2
 exact⟨h.clean,fun i a ha hs _=>⟨key a.loc (hSh _ hs).1 (hSh _ hs).2 i a ha rfl,fun _ _ hl=>hl.choose_spec.e⟩,fun i a ha hs _=>key a.loc (hSh _ hs).1 (hSh _ hs).2 i a ha rfl,fun _ _ _ h=>h.e,fun _ _ _ h=>h.e,fun l hl _ h2 _=>key l hl h2,fun l hl _ h2 _=>.of<|key l hl h2⟩
end
end fU
end
section
namespace fU
open Go Go.Conc Twin
inductive T where
 |stop
 |step (f:ay->T)
inductive T.Lt:T->T->Prop where
 |mk (f:ay->T) (w:ay):T.Lt (f w) (.step f)
def T.acc:∀a:T,Acc T.Lt a
 | .stop=>⟨_,fun _ h=>nomatch h⟩
 | .step f=>⟨_,fun b h=>by
   generalize he:T.step f=c at h;cases h with
   |mk f' w=>
    cases he;exact T.acc<|f w⟩
def T.more:T->T
 | .stop=>.step fun _=>.stop
 | .step f=>.step fun w=>(f w).more
def T.TA{a b:T}(h:T.Lt a b):T.Lt a.more b.more:=by
 cases h with
 |mk f w=>exact .mk (fun w=>(f w).more) w
def T.aiz:T.Lt .stop T.stop.more:=.mk (fun _=>.stop) (default:ay)
def T.nat:Nat->T
 |0=>.stop
 |n+1=>.step fun _=>T.nat n
def T.JS(n:Nat):T.Lt (T.nat n) (T.nat<|n+1):=.mk (fun _=>T.nat n) (default:ay)
def Dj(P:fJ)(main:Bool)(E:dL)(Stop:aO->bM->ay->Prop):T->aO->bM->ay->Prop
 | .stop,S,g,w=>∀w1,bu S E w w1->Stop S g w1
 | .step f,S,g,w=>g.status=.running/\∀w1,bu S E w w1->∃g' w2 es,bK P main g w1=.go g' w2 es/\jC S E w1 w2 es/\Dj P main E Stop (f w1) (grow S w1 w2) g' w2
section
variable{P:fJ}{main:Bool}{E:dL}{Stop:aO->bM->ay->Prop}{S:aO}{g:bM}{w:ay}
def JU(h:aC P main E Stop S g w):∃τ,Dj P main E Stop τ S g w:=by
 induction h with
 |stop h=>exact⟨.stop,h⟩
 | @step S g w hr f hs _ ih=>
   have h':∀w1,∃τ,bu S E w w1->Dj P main E Stop τ (grow S w1 (f w1).2.1) (f w1).1 (f w1).2.1:=by
    intro w1;by_cases hk:bu S E w w1
    ·obtain⟨τ,BC⟩:=ih w1 hk;exact⟨τ,fun _=>BC⟩
    ·exact⟨.stop,fun k=>absurd k hk⟩
   obtain⟨F,hF⟩:=Rw h';exact⟨.step F,hr,fun w1 hk=>⟨_,_,_,(hs w1 hk).1,(hs w1 hk).2,hF w1 hk⟩⟩
def Dj.rely{τ:T}(h:Dj P main E Stop τ S g w){w1:ay}(hk:bu S E w w1):Dj P main E Stop τ S g w1:=by
 cases τ with
 |stop=>exact fun w2 k=>h w2<|hk.t k
 |step f=>exact⟨h.1,fun w2 k=>h.2 w2<|hk.t k⟩
end
def Eo(N:Nat)(D' D:Nat->T):Prop:=∃i,i<N/\T.Lt (D' i) (D i)/\∀k,k≠i->D' k=D k
def Eo.wf:∀N,WellFounded (Eo N)
 |0=>⟨fun D=>⟨_,fun D' h=>absurd h.choose_spec.1<|Nat.not_lt_zero _⟩⟩
 |N+1=>by
  have ihN:=Eo.wf N;have key:∀a:T,Acc T.Lt a->∀D:Nat->T,D N=a->Acc (Eo<|N+1) D:=by
   intro a ha;induction ha with
   |intro a _ ih=>
    intro D;refine ihN.induction (C:=fun D=>D N=a->Acc (Eo<|N+1) D) D ?_;intro D TB hD;refine⟨_,fun D' h=>?_⟩;obtain⟨i,hi,aK,zT⟩:=h;rcases FB i N with h|h
    ·exact TB D' ⟨i,h,aK,zT⟩<|by rw[zT N<|by omega,hD]
    ·obtain rfl:i=N:=by omega
     exact ih (D' i) (hD▸aK) D' rfl
  exact⟨fun D=>key (D N) (T.acc _) D rfl⟩
def asz{motive:Nat->Nat->(Nat->T)->T->Prop}
 (h:∀A N D τ,(∀A' N' D' oV,A'<A->motive A' N' D' oV)->(∀D' oV,Eo N D' D->motive A N D' oV)->(∀oV,T.Lt oV τ->motive A N D oV)->motive A N D τ):∀A N D τ,motive A N D τ:=by
 intro A;induction A using Nat.strongRecOn with
 |ind A MM=>
  intro N D;refine(Eo.wf N).induction (C:=fun D=>∀τ,motive A N D τ) D ?_;intro D TB τ
  have:=T.acc τ
  induction this with
  |intro τ _ MN=>exact h A N D τ (fun A' N' D' oV aK=>MM A' aK N' D' oV) (fun D' oV hv=>TB D' hv oV) MN
end fU
end
section
namespace fU
open Go Go.Conc Twin
open Go.ConcN (upd upd_same upd_ne)
open Go.ConcR (stA smA)
def lK(S:aO):Loc->Prop
 | .cell a=>S a.block
 | .obj r=>S r
 |_=>False
theorem lK.mem{S:aO}{l:Loc}(h:lK S l):l.isMemory=true:=by cases l<;>first|rfl|exact h.e
theorem lK.z{S S':aO}(h:∀b,S b->S' b){l:Loc}(hl:lK S l):lK S' l:=by cases l<;>first|exact h _ hl|exact hl.e
def TC(n:Nat)(a:Addr)(t:Trace):Prop:=∀i,n<=i->t.act? i≠ae (.mark<|.release a)
theorem TC.app{n:Nat}{a:Addr}{t u:Trace}(h:TC n a t)(hu:∀op∈u,op.act≠.mark (.release a)):TC n a (t++u):=by
 intro i hi e;obtain⟨op,aP,KY⟩:=zY.1 e;rcases aFt aP with⟨_,aae⟩|⟨_,zO⟩
 ·exact h i hi<|by rw[act?_of aae,KY]
 ·exact hu op zO KY
structure bV(K:Type)where
 P:fJ
 Wg:Nat
 C:Nat
 ov:Nat
 m0:Nat
 iQ:aO
 Ah:aO
 ch:K->Nat
 side:K->dL
 Iq:K->List aA->aO->bM->ay->Prop
 Fin:K->List aA->aO->bM->ay->Prop
 yE:K->List aA
section
variable{K:Type}(X:bV K)
def bV.Ai:Nat->Prop:=fun b=>X.iQ b\/X.Ah b
def bV.dB:Nat->Prop:=fun b=>X.Ai b\/b=X.Wg
def bV.Sp(ks:List K):aO:=fun b=>b=X.Wg\/b=X.C\/b=X.ov\/∃k∈ks,b=X.ch k
def bV.Sh:Loc->Prop:=fun l=>(∃a,l=.cell a/\a.block=X.Wg)\/l=.obj X.ov
def bV.O(Sw:Nat->aO)(n:Nat):Nat->Loc->Prop:=fun k l=>∃i,i<n/\k=X.m0+i/\(lK (Sw i) l\/l=.cell ⟨X.C,i,af⟩)
def bV.Rd(ks:List K):Nat->Loc->Prop:=fun k l=>∃i x,ks[i]? =ae x/\k=X.m0+i/\lK (X.side x).rd l
structure bV.Mem(ks:List K)(E:dL)(S0 G:aO)(Sw:Nat->aO)(w:ay):Prop where
 sJ:∀b,S0 b->b<w.heap.size/\¬G b/\¬X.Sp ks b/\¬X.Ai b
 mi:∀i,i<ks.length->∀b,Sw i b->b<w.heap.size/\¬G b/\¬X.Sp ks b/\¬X.Ai b/\¬S0 b
 apart:∀i i',i<ks.length->i'<ks.length->∀b,Sw i b->Sw i' b->i=i'
 uG:∀b,G b->b<w.heap.size/\¬X.Sp ks b/\¬X.iQ b
 MO:∀b,E.ro b->G b\/b=X.Wg
 Ir:∀b,E.rd b->G b
 zh:∀(i:Nat) (k:K),ks[i]? =ae k->∀b,(X.side k).ro b->G b
 low:∀b,X.Sp ks b->b<w.heap.size
 dB:∀b,X.Ai b->b<w.heap.size
 MP:∀b,X.Sp ks b->¬X.Ai b
structure bV.Base(t0:Trace)(ks:List K)(gs:Array bM)(w:ay)(t:Trace)(d:Nat)(dW:Nat->Nat)(E:dL)(S0 G:aO)(Sw:Nat->aO)(q:Nat->Nat):Prop where
 size:gs.size=X.m0+ks.length
 pos:0<X.m0
 old:∀i g,0<i->i<X.m0->gs[i]? =ae g->QuitsD X.P (q i) (Deaf t i) g
 above:∀k,gs.size<=k->Deaf t k=0
 deaf0:Deaf t 0=d
 deafW:∀i,i<ks.length->Deaf t (X.m0+i)=dW i
 mem:X.Mem ks E S0 G Sw w
 ti:TI X.Sh (lK X.iQ) (X.O Sw ks.length) (X.Rd ks) t
 seen:∀op∈t,op.act.low w.heap.size
 base:∃u,t=t0++u/\∀op∈u,op.act.touch?≠af->op.g=0\/∃i,i<ks.length/\op.g=X.m0+i
 norel:TC t0.size (stA X.Wg) t
 iM:X.Wg≠X.C/\X.Wg≠X.ov/\X.C≠X.ov/\(∀k∈ks,X.ch k≠X.Wg/\X.ch k≠X.C/\X.ch k≠X.ov)/\∀(i i':Nat) (k k':K),ks[i]? =ae k->ks[i']? =ae k'->X.ch k=X.ch k'->i=i'
 qw:au.jK X.dB w
end
section
variable{K:Type}{X:bV K}{t0:Trace}{ks:List K}{gs gs':Array bM}{w w':ay}{t:Trace}{d:Nat}{dW:Nat->Nat}{E:dL}{S0 G:aO}{Sw:Nat->aO}{q:Nat->Nat}
theorem bV.Mem.cls(h:X.Mem ks E S0 G Sw w)(hd:X.Wg≠X.C/\X.Wg≠X.ov/\X.C≠X.ov):Cls X.Sh (X.O Sw ks.length) (X.Rd ks):=by
 have spC:X.Sp ks X.C:=.inr<|.inl rfl;have spW:X.Sp ks X.Wg:=.inl rfl;have spO:X.Sp ks X.ov:=.inr<|.inr<|.inl rfl;have nS:∀{S:aO} {l:Loc},(∀b,S b->¬X.Sp ks b)->lK S l->¬X.Sh l/\∀i,l≠.cell ⟨X.C,i,af⟩:=by
  intro S l hS hl;refine⟨?_,?_⟩
  ·rintro(⟨a,rfl,ha⟩|rfl)
   ·exact hS _ hl<|ha▸spW
   ·exact hS _ hl spO
  ·rintro i rfl;exact hS _ hl spC
 refine⟨?_,?_,?_,?_⟩
 ·rintro k k' l ⟨i,hi,rfl,h1⟩ ⟨i',nI,rfl,h2⟩;have e:i=i':=by
   rcases h1 with h1|rfl
   ·rcases h2 with h2|rfl
    ·cases l<;>first|exact h.apart i i' hi nI _ h1 h2|exact h1.e
    ·exact absurd rfl<|(nS (fun b hb=>(h.mi i hi b hb).2.2.1) h1).2 i'
   ·rcases h2 with h2|h2
    ·exact absurd rfl<|(nS (fun b hb=>(h.mi i' nI b hb).2.2.1) h2).2 i
    ·simpa using h2
  rw[e]
 ·rintro k k' l ⟨i,hi,rfl,h1⟩ ⟨i',x,hx,rfl,h2⟩;have hG:lK G l:=lK.z (fun b hb=>h.zh i' x hx b<|(X.side x).le b hb) h2;rcases h1 with h1|rfl
  ·cases l<;>first|exact(h.mi i hi _ h1).2.1 hG|exact h1.e
  ·exact(h.uG _ hG).2.1 spC
 ·rintro k l ⟨i,hi,rfl,h1⟩;rcases h1 with h1|rfl
  ·exact(nS (fun b hb=>(h.mi i hi b hb).2.2.1) h1).1
  ·rintro(⟨a,ha,hb⟩|ha)
   ·cases ha;exact hd.1 hb.s
   ·cases ha
 ·rintro k l ⟨i,x,hx,rfl,h1⟩;have hG:lK G l:=lK.z (fun b hb=>h.zh i x hx b<|(X.side x).le b hb) h1;exact(nS (fun b hb=>(h.uG b hb).2.1) hG).1
variable{S:aO}{es:Array Event}{e:Event}{x:Nat}{u:Trace}{fn:ji}{pos:String}
theorem acI{S':aO}{E E':dL}{w w2:ay}(h:jC S E w w2 es)(h1:∀b,S' b->b<w.heap.size/\¬S b)(h2:∀b,E'.ro b->b<w.heap.size/\¬S b):bu S' E' w w2:=
 ⟨h.tape,h.os,h.output,h.size,fun b hb=>h.still b (h1 b hb).1 (h1 b hb).2,fun b hb=>h.still b (h2 b hb).1 (h2 b hb).2⟩
theorem aiB{E:dL}(h:nD S E e){x:Touch}(hx:(MemAct.ofEvent e).touch?=ae x):lK S x.loc\/(lK E.rd x.loc/\x.write=false):=by
 obtain⟨loc,wr,sy⟩:=e;cases loc with
 |cell a=>
  simp only[MemAct.ofEvent,MemAct.touch?,gU]at hx;subst hx;exact h
 |obj r=>
  obtain⟨hs,h⟩:=h;simp only at hs;subst hs;cases wr<;>simp only[MemAct.ofEvent,MemAct.touch?,gU]at hx<;>(subst hx;exact h)
 |mark m=>
  obtain rfl:m=.noRoom:=h;simp[MemAct.ofEvent,MemAct.touch?]at hx
 |_=>exact h.e
theorem aiC{E:dL}{B:Nat}(h:nD S E e)(h1:∀b,S b->b<B)(h2:∀b,E.rd b->b<B):(MemAct.ofEvent e).low B:=by
 obtain⟨loc,wr,sy⟩:=e;cases loc with
 |cell a=>exact h.e (h1 _) fun x=>h2 _ x.1
 |obj r=>
  obtain⟨hs,h⟩:=h;simp only at hs;subst hs;cases wr<;>exact h.e (h1 _) fun x=>h2 _ x.1
 |mark m=>
  obtain rfl:m=.noRoom:=h;trivial
 |_=>exact h.e
theorem PO{E:dL}(h:nD S E e):e.loc≠.mark .disable/\e.loc≠.mark .enable/\∀a,e.loc≠.mark (.release a):=by
 obtain⟨loc,wr,sy⟩:=e;cases loc with
 |mark m=>
  obtain rfl:m=.noRoom:=h;simp
 |_=>simp
theorem aiD{t:Trace}(hu:∀op∈u,op.act≠.mark .disable/\op.act≠.mark .enable)(g:Nat):Deaf (t++u) g=Deaf t g:=by
 obtain⟨l⟩:=u;rw[Deaf_append];have key:∀(l:List MemOp) (d:Nat),(∀op∈l,op.act≠.mark .disable/\op.act≠.mark .enable)->l.foldl (deafStep g) d=d:=by
  intro l;induction l with
  |nil=>intro d _;rfl
  |cons y l ih=>
   intro d hl;have hy:deafStep g d y=d:=by
    have:=hl y (by simp);unfold deafStep;split
    ·exact absurd ‹_› this.1
    ·exact absurd ‹_› this.2
    ·rfl
   rw[List.foldl_cons,hy];exact ih d fun op aP=>hl op<|by simp[aP]
 exact key l _ fun op aP=>hu op<|by simpa using aP
theorem ofEvents_g{g:Nat}:∀op∈MemOp.ofEvents g fn pos es,op.g=g:=fun op aP=>by obtain⟨e,_,rfl⟩:=aFc aP;rfl
theorem bV.Base.more(h:X.Base t0 ks gs w t d dW E S0 G Sw q)(hx:x=0\/∃i,i<ks.length/\x=X.m0+i)(hu:∀op∈u,op.g=x)(fP:w.heap.size<=w'.heap.size)(AX:∀op∈u,op.act.low w'.heap.size)(hrel:∀op∈u,op.act≠.mark (.release<|stA X.Wg)):
 (∀op∈t++u,op.act.low w'.heap.size)/\(∃v,t++u=t0++v/\∀op∈v,op.act.touch?≠af->op.g=0\/∃i,i<ks.length/\op.g=X.m0+i)/\TC t0.size (stA X.Wg) (t++u)/\(∀k,gs.size<=k->Deaf (t++u) k=0)/\∀g,g≠x->Deaf (t++u) g=Deaf t g:=by
 have MQ:∀g,g≠x->Deaf (t++u) g=Deaf t g:=fun g hg=>aFF t (Ne.s hg) u hu;refine⟨seen_app (fun op aP=>MemAct.low_mono fP<|h.seen op aP) AX,?_,h.norel.app hrel,fun k hk=>?_,MQ⟩
 ·obtain⟨v,rfl,hv⟩:=h.base;refine⟨v++u,by simp[aaF],fun op aP ht=>?_⟩;rcases Jv.1 aP with aP|aP
  ·exact hv op aP ht
  ·rw[hu op aP];exact hx
 ·rw[MQ k ?_,h.above k hk];have:=h.size;have:=h.pos;rcases hx with rfl|⟨i,hi,rfl⟩<;>omega
theorem bV.Base.JV(h:X.Base t0 ks gs w t d dW E S0 G Sw q)(a a':bM)(w1:ay)(y:bM)(hx:x=0\/X.m0<=x):∀i,0<i->i<X.m0->((gs.map<|woken X.P a a' w1).setIfInBounds x y)[i]? =gs[i]? :=by
 intro i h0 hi;rw[iK<|by omega,yl];cases hg:gs[i]? with
 |none=>rfl
 |some g=>rw[Ho,aFP<|h.old i g h0 hi hg]
theorem bV.Base.stepW(h:X.Base t0 ks gs w t d dW E S0 G Sw q){i:Nat}{k:K}(hk:ks[i]? =ae k)(hG:jC (Sw i) (X.side k) w w' es)(fP:gs'.size=gs.size)(hold:∀i,0<i->i<X.m0->gs'[i]? =gs[i]?):
 X.Base t0 ks gs' w' (t++MemOp.ofEvents (X.m0+i) fn pos es) d dW E S0 G (upd Sw i<|grow (Sw i) w w') q:=by
 have hi:i<ks.length:=(dS.1 hk).1;have hS:∀b,grow (Sw i) w w' b->b<w'.heap.size/\¬G b/\¬X.Sp ks b/\¬X.Ai b/\¬S0 b:=by
  rintro b (hb|⟨h1,h2⟩)
  ·obtain⟨a,b⟩:=h.mem.mi i hi b hb;exact⟨gu a hG.size,b⟩
  ·exact⟨h2,fun x=>absurd (h.mem.uG b x).1<|by omega,fun x=>absurd (h.mem.low b x)<|by omega,fun x=>absurd (h.mem.dB b x)<|by omega,fun x=>absurd (h.mem.sJ b x).1<|by omega⟩
 have xZ:∀b,(X.side k).rd b->b<w'.heap.size:=fun b hb=>gu (h.mem.uG b<|h.mem.zh i k hk b<|(X.side k).le b hb).1 hG.size;obtain⟨m1,m2,m3,m4,m5⟩:=h.more (w':=w') (u:=MemOp.ofEvents (X.m0+i) fn pos es) (.inr ⟨i,hi,rfl⟩) ofEvents_g hG.size (fun op aP=>by obtain⟨e,he,rfl⟩:=aFc aP;exact aiC (hG.evs e he) (fun b hb=>(hS b hb).1) xZ)
  (fun op aP e=>by obtain⟨x,hx,rfl⟩:=aFc aP;exact(PO<|hG.evs x hx).2.2 _<|aF6 e)
 have hm:X.Mem ks E S0 G (upd Sw i<|grow (Sw i) w w') w':=by
  refine⟨fun b hb=>?_,fun i' nI b hb=>?_,fun a a' ha ha' b hb jw=>?_,fun b hb=>?_,h.mem.MO,h.mem.Ir,h.mem.zh,fun b hb=>gu (h.mem.low b hb) hG.size,fun b hb=>gu (h.mem.dB b hb) hG.size,h.mem.MP⟩
  ·obtain⟨x,y⟩:=h.mem.sJ b hb;exact⟨gu x hG.size,y⟩
  ·by_cases e:i'=i
   ·subst e;rw[aFj]at hb;exact hS b hb
   ·rw[aFl _ _ e]at hb;obtain⟨x,y⟩:=h.mem.mi i' nI b hb;exact⟨gu x hG.size,y⟩
  ·have one:∀c,c<ks.length->c≠i->∀b,Sw c b->grow (Sw i) w w' b->False:=by
    rintro c hc dD b h1 (h2|⟨h2,_⟩)
    ·exact dD<|h.mem.apart c i hc hi b h1 h2
    ·exact absurd (h.mem.mi c hc b h1).1<|by omega
   by_cases e:a=i
   ·by_cases e':a'=i
    ·rw[e,e']
    ·subst e;rw[aFj]at hb;rw[aFl _ _ e']at jw;exact(one a' ha' e' b jw hb).e
   ·by_cases e':a'=i
    ·subst e';rw[aFj]at jw;rw[aFl _ _ e]at hb;exact(one a ha e b hb jw).e
    ·rw[aFl _ _ e]at hb;rw[aFl _ _ e']at jw;exact h.mem.apart a a' ha ha' b hb jw
  ·obtain⟨x,y⟩:=h.mem.uG b hb;exact⟨gu x hG.size,y⟩
 refine⟨fP.t h.size,h.pos,fun a g h0 ha hg=>?_,fun a ha=>m4 a<|fP▸ha,by rw[m5 0 (by have:=h.pos;omega)];exact h.deaf0,fun a ha=>?_,hm,?_,m1,m2,m3,h.iM,hG.Tv h.qw fun b z=>⟨(h.mem.mi i hi b z).1,fun hb=>hb.e (h.mem.mi i hi b z).2.2.2.1 fun e=>(h.mem.mi i hi b z).2.2.1<|.inl e⟩⟩
 ·rw[m5 a<|by omega];exact h.old a g h0 ha (by rw[<-hold a h0 ha];exact hg)
 ·by_cases e:a=i
  ·subst e;rw[aF1,h.deafW a ha];exact deafBehind_still (fun e he=>⟨(PO<|hG.evs e he).1,(PO<|hG.evs e he).2.1⟩) _
  ·rw[m5 _<|by omega];exact h.deafW a ha
 ·have qG:TI X.Sh (lK X.iQ) (X.O (upd Sw i<|grow (Sw i) w w') ks.length) (X.Rd ks) t:=by
   refine h.ti.grow ?_ ?_ ?_
   ·rintro c l ⟨a,ha,rfl,hl⟩;refine⟨a,ha,rfl,hl.imp (fun hl=>?_) id⟩;by_cases e:a=i
    ·subst e;rw[aFj];exact lK.z (fun b hb=>.inl hb) hl
    ·rw[aFl _ _ e];exact hl
   ·rintro c l ⟨a,ha,rfl,hl⟩;rcases hl with hl|hl
    ·by_cases e:a=i
     ·subst e;rw[aFj]at hl;by_cases fZ:lK (Sw a) l
      ·exact .inl ⟨a,ha,rfl,.inl fZ⟩
      ·right;intro n x hx e;obtain⟨op,aP,wW⟩:=aFT hx;have AX:=h.seen op<|Jt aP;have ae4:∀b,lK (grow (Sw a) w w') l->(l=.obj b\/∃x,l=.cell x/\x.block=b)->w.heap.size<=b:=by
        rintro b h1 (rfl|⟨x,rfl,rfl⟩)
        ·rcases h1 with h1|h1
         ·exact absurd h1 fZ
         ·exact h1.1
        ·rcases h1 with h1|h1
         ·exact absurd h1 fZ
         ·exact h1.1
       have AU:x.loc.low w.heap.size:=by
        obtain⟨g0,fn0,aCG,act⟩:=op;simp only at AX wW;cases act with
        |access e=>simp only[MemAct.touch?,gU]at wW;subst wW;exact AX
        |mark m=>cases m<;>simp[MemAct.touch?]at wW<;>(subst wW;exact AX)
        |_=>simp[MemAct.touch?]at wW
       rw[e]at AU;cases l with
       |cell a=>exact absurd AU<|Nat.not_lt.2<|ae4 a.block hl<|.inr ⟨a,rfl,rfl⟩
       |obj r=>exact absurd AU<|Nat.not_lt.2<|ae4 r hl<|.inl rfl
       |_=>exact hl.e
     ·rw[aFl _ _ e]at hl;exact .inl ⟨a,ha,rfl,.inl hl⟩
    ·exact .inl ⟨a,ha,rfl,.inr hl⟩
   ·rintro c ⟨l,a,ha,rfl,_⟩;exact⟨.cell ⟨X.C,a,af⟩,a,ha,rfl,.inr rfl⟩
  refine qG.appW (hm.cls ⟨h.iM.1,h.iM.2.1,h.iM.2.2.1⟩) (by have:=h.pos;omega) ⟨.cell ⟨X.C,i,af⟩,i,hi,rfl,.inr rfl⟩ ofEvents_g fun op aP x hx=>?_;obtain⟨e,he,rfl⟩:=aFc aP;rcases aiB (hG.evs e he) hx with y|⟨y,z⟩
  ·exact .inr<|.inl ⟨i,hi,rfl,.inl (by rw[aFj];exact y)⟩
  ·exact .inr<|.inr ⟨⟨i,k,hk,rfl,y⟩,z⟩
end
end fU
end
section
namespace fU
open Go Go.Conc Twin
open Go.ConcN (upd upd_same upd_ne)
open Go.ConcR (stA smA)
section
variable{K:Type}{X:bV K}{t0:Trace}{ks:List K}{gs gs':Array bM}{w w':ay}{t:Trace}{d:Nat}{dW:Nat->Nat}{E:dL}{S0 G:aO}{Sw:Nat->aO}{q:Nat->Nat}
def bV.Mem.size(h:X.Mem ks E S0 G Sw w)(hs:w'.heap.size=w.heap.size):X.Mem ks E S0 G Sw w':=
 ⟨fun b hb=>hs▸h.sJ b hb,fun i hi b hb=>hs▸h.mi i hi b hb,h.apart,fun b hb=>hs▸h.uG b hb,h.MO,h.Ir,h.zh,fun b hb=>hs▸h.low b hb,fun b hb=>hs▸h.dB b hb,h.MP⟩
def bV.Base.at(h:X.Base t0 ks gs w t d dW E S0 G Sw q)(n:Nat):X.Base t0 ks gs (w.at n) t d dW E S0 G Sw q:=
 ⟨h.size,h.pos,h.old,h.above,h.deaf0,h.deafW,h.mem.size rfl,h.ti,h.seen,h.base,h.norel,h.iM,h.qw.obj,h.qw.low,h.qw.ng⟩
variable{es:Array Event}{fn:ji}{pos:String}{g':bM}
def bV.Base.step0(h:X.Base t0 ks gs w t d dW E S0 G Sw q)(hG:jC S0 E w w' es)(fP:gs'.size=gs.size)(hold:∀i,0<i->i<X.m0->gs'[i]? =gs[i]?):
 X.Base t0 ks gs' w' (t++MemOp.ofEvents 0 fn pos es) d dW E (grow S0 w w') G Sw q:=by
 have hS:∀b,grow S0 w w' b->b<w'.heap.size/\¬G b/\¬X.Sp ks b/\¬X.Ai b:=by
  rintro b (hb|⟨h1,h2⟩)
  ·obtain⟨a,b⟩:=h.mem.sJ b hb;exact⟨gu a hG.size,b⟩
  ·exact⟨h2,fun x=>absurd (h.mem.uG b x).1<|by omega,fun x=>absurd (h.mem.low b x)<|by omega,fun x=>absurd (h.mem.dB b x)<|by omega⟩
 have hW:∀i,i<ks.length->∀b,Sw i b->¬grow S0 w w' b:=by
  rintro i hi b hb (hx|⟨hx,_⟩)
  ·exact(h.mem.mi i hi b hb).2.2.2.2 hx
  ·exact absurd (h.mem.mi i hi b hb).1<|by omega
 have xZ:∀b,E.rd b->b<w'.heap.size:=fun b hb=>gu (h.mem.uG b<|h.mem.Ir b hb).1 hG.size;obtain⟨m1,m2,m3,m4,m5⟩:=h.more (w':=w') (u:=MemOp.ofEvents 0 fn pos es) (.inl rfl) ofEvents_g hG.size (fun op aP=>by obtain⟨e,he,rfl⟩:=aFc aP;exact aiC (hG.evs e he) (fun b hb=>(hS b hb).1) xZ)
  (fun op aP e=>by obtain⟨x,hx,rfl⟩:=aFc aP;exact(PO<|hG.evs x hx).2.2 _<|aF6 e)
 have hm:X.Mem ks E (grow S0 w w') G Sw w':=by
  refine⟨hS,fun i hi b hb=>?_,h.mem.apart,fun b hb=>?_,h.mem.MO,h.mem.Ir,h.mem.zh,fun b hb=>gu (h.mem.low b hb) hG.size,fun b hb=>gu (h.mem.dB b hb) hG.size,h.mem.MP⟩
  ·obtain⟨x,y,z,u,_⟩:=h.mem.mi i hi b hb;exact⟨gu x hG.size,y,z,u,hW i hi b hb⟩
  ·obtain⟨x,y⟩:=h.mem.uG b hb;exact⟨gu x hG.size,y⟩
 refine⟨fP.t h.size,h.pos,fun a g h0 ha hg=>?_,fun a ha=>m4 a<|fP▸ha,?_,fun a ha=>?_,hm,?_,m1,m2,m3,h.iM,hG.Tv h.qw fun b z=>⟨(h.mem.sJ b z).1,fun hb=>hb.e (h.mem.sJ b z).2.2.2 fun e=>(h.mem.sJ b z).2.2.1<|.inl e⟩⟩
 ·rw[m5 a<|by omega];exact h.old a g h0 ha (by rw[<-hold a h0 ha];exact hg)
 ·rw[aF1,h.deaf0];exact deafBehind_still (fun e he=>⟨(PO<|hG.evs e he).1,(PO<|hG.evs e he).2.1⟩) _
 ·rw[m5 _ (by have:=h.pos;omega)];exact h.deafW a ha
 ·refine h.ti.app0 (h.mem.cls ⟨h.iM.1,h.iM.2.1,h.iM.2.2.1⟩) ofEvents_g fun op aP x hx=>?_;obtain⟨e,he,rfl⟩:=aFc aP;have JW:∀{S:aO},(∀b,S b->¬X.Sp ks b)->lK S x.loc->¬X.Sh x.loc/\∀i,x.loc≠.cell ⟨X.C,i,af⟩:=by
   intro S hS hl;refine⟨?_,?_⟩
   ·rintro(⟨a,e,ha⟩|e)
    ·rw[e]at hl;exact hS _ hl<|.inl ha
    ·rw[e]at hl;exact hS _ hl<|.inr<|.inr<|.inl rfl
   ·intro i e;rw[e]at hl;exact hS _ hl<|.inr<|.inl rfl
  have two:∀{S T:aO},(∀b,S b->¬T b)->lK S x.loc->¬lK T x.loc:=by
   intro S T hST h1 h2;generalize x.loc=l at h1 h2;cases l<;>first|exact hST _ h1 h2|exact h1.e
  right;rcases aiB (hG.evs e he) hx with y|⟨y,z⟩
  ·refine⟨(JW (fun b hb=>(hS b hb).2.2.1) y).1,two (fun b hb z=>(hS b hb).2.2.2<|.inl z) y,?_,?_⟩
   ·rintro k hk ⟨i,hi,rfl,hl⟩;rcases hl with hl|hl
    ·exact two (fun b hb=>hW i hi b hb) hl y
    ·exact(JW (fun b hb=>(hS b hb).2.2.1) y).2 i hl
   ·rintro _ k hk ⟨i,κ,jL,rfl,hl⟩;exact two (fun b hb=>(hS b hb).2.1) y<|lK.z (fun b hb=>h.mem.zh i κ jL b<|(X.side κ).le b hb) hl
  ·have yG:lK G x.loc:=lK.z h.mem.Ir y;refine⟨(JW (fun b hb=>(h.mem.uG b hb).2.1) yG).1,two (fun b hb=>(h.mem.uG b hb).2.2) yG,?_,fun hw=>by rw[z]at hw;cases hw⟩;rintro k hk ⟨i,hi,rfl,hl⟩;rcases hl with hl|hl
   ·exact two (fun b hb=>(h.mem.mi i hi b hb).2.1) hl yG
   ·exact(JW (fun b hb=>(h.mem.uG b hb).2.1) yG).2 i hl
def acJ(h:au.jK X.dB w)(hA:Aside X.Wg w w'):au.jK X.dB w':=
 ⟨by rw[hA.size];exact fun b o hb ho=>h.obj b o hb (by rw[<-hA.block b fun e=>hb<|.inl<|.inr e];exact ho),fun b hb=>by rw[hA.size];exact h.low b hb,by rw[hA.size];exact h.ng⟩
def bV.PQ(X:bV K)(e:Event):Prop:=
 e.loc=.mark .disable\/e.loc=.mark .enable\/(∃a,e.loc=.mark (.read a)/\a.block=X.Wg)\/(∃a,e.loc=.mark (.write a)/\a.block=X.Wg)\/(∃a wr,e=⟨.cell a,wr,true⟩/\a.block=X.Wg)\/(∃a,e.loc=.mark (.acquire a)/\a.block=X.Wg)
def bV.PQ.low{e:Event}(h:X.PQ e){B:Nat}(hB:X.Wg<B):(MemAct.ofEvent e).low B/\MemAct.ofEvent e≠.mark (.release<|stA X.Wg)/\∀x,(MemAct.ofEvent e).touch?=ae x->X.Sh x.loc/\x.kind≠.plain:=by
 obtain⟨loc,wr,sy⟩:=e;rcases h with h|h|⟨a,h,ha⟩|⟨a,h,ha⟩|⟨a,wr',h,ha⟩|⟨a,h,ha⟩
 ·simp only at h;subst h;exact⟨trivial,by simp[MemAct.ofEvent],by simp[MemAct.ofEvent,MemAct.touch?]⟩
 ·simp only at h;subst h;exact⟨trivial,by simp[MemAct.ofEvent],by simp[MemAct.ofEvent,MemAct.touch?]⟩
 ·simp only at h;subst h;refine⟨show a.block<B by omega,by simp[MemAct.ofEvent],fun x hx=>?_⟩;simp only[MemAct.ofEvent,MemAct.touch?,gU]at hx;subst hx;exact⟨.inl ⟨a,rfl,ha⟩,by simp⟩
 ·simp only at h;subst h;refine⟨show a.block<B by omega,by simp[MemAct.ofEvent],fun x hx=>?_⟩;simp only[MemAct.ofEvent,MemAct.touch?,gU]at hx;subst hx;exact⟨.inl ⟨a,rfl,ha⟩,by simp⟩
 ·cases h;refine⟨show a.block<B by omega,by simp[MemAct.ofEvent],fun x hx=>?_⟩;simp only[MemAct.ofEvent,MemAct.touch?,gU]at hx;subst hx;exact⟨.inl ⟨a,rfl,ha⟩,by simp⟩
 ·simp only at h;subst h;exact⟨show a.block<B by omega,by simp[MemAct.ofEvent],by simp[MemAct.ofEvent,MemAct.touch?]⟩
def bV.Base.iw(h:X.Base t0 ks gs w t d dW E S0 G Sw q){es:Array Event}{fn:ji}{pos:String}(bT:au.jK X.dB w')(hs:w'.heap.size=w.heap.size)(qJ:∀e∈es,X.PQ e)(fP:gs'.size=gs.size)(hold:∀i,0<i->i<X.m0->gs'[i]? =gs[i]?):
 X.Base t0 ks gs' w' (t++MemOp.ofEvents 0 fn pos es) (deafBehind d es) dW E S0 G Sw q:=by
 have hWg:X.Wg<w'.heap.size:=hs▸h.mem.low _ (.inl rfl);obtain⟨m1,m2,m3,m4,m5⟩:=h.more (w':=w') (u:=MemOp.ofEvents 0 fn pos es) (.inl rfl) ofEvents_g (CQ hs.s) (fun op aP=>by obtain⟨e,he,rfl⟩:=aFc aP;exact((qJ e he).low hWg).1)
  (fun op aP=>by obtain⟨x,hx,rfl⟩:=aFc aP;exact((qJ x hx).low hWg).2.1)
 refine⟨fP.t h.size,h.pos,fun a g h0 ha hg=>?_,fun a ha=>m4 a<|fP▸ha,by rw[aF1,h.deaf0],fun a ha=>?_,h.mem.size hs,?_,m1,m2,m3,h.iM,bT⟩
 ·rw[m5 a<|by omega];exact h.old a g h0 ha (by rw[<-hold a h0 ha];exact hg)
 ·rw[m5 _ (by have:=h.pos;omega)];exact h.deafW a ha
 ·refine h.ti.app0 (h.mem.cls ⟨h.iM.1,h.iM.2.1,h.iM.2.2.1⟩) ofEvents_g fun op aP x hx=>?_;obtain⟨e,he,rfl⟩:=aFc aP;exact .inl<|((qJ e he).low hWg).2.2 x hx
def bV.Base.quiet(h:X.Base t0 ks gs w t d dW E S0 G Sw q){u:Trace}(bT:au.jK X.dB w')(hs:w'.heap.size=w.heap.size)(hu:∀op∈u,op.act.touch?=af/\op.act.low w.heap.size/\op.act≠.mark .disable/\op.act≠.mark .enable/\op.act≠.mark (.release<|stA X.Wg))(fP:gs'.size=gs.size)(hold:∀i,0<i->i<X.m0->gs'[i]? =gs[i]?):
 X.Base t0 ks gs' w' (t++u) d dW E S0 G Sw q:=by
 have hd:∀g,Deaf (t++u) g=Deaf t g:=aiD fun op aP=>⟨(hu op aP).2.2.1,(hu op aP).2.2.2.1⟩;refine⟨fP.t h.size,h.pos,fun a g h0 ha hg=>?_,fun a ha=>by rw[hd];exact h.above a<|fP▸ha,by rw[hd];exact h.deaf0,fun a ha=>by rw[hd];exact h.deafW a ha,h.mem.size hs,h.ti.xu fun op aP=>(hu op aP).1,?_,?_,h.norel.app fun op aP=>(hu op aP).2.2.2.2,h.iM,bT⟩
 ·rw[hd];exact h.old a g h0 ha (by rw[<-hold a h0 ha];exact hg)
 ·rw[hs];exact seen_app h.seen fun op aP=>(hu op aP).2.1
 ·obtain⟨v,rfl,hv⟩:=h.base;refine⟨v++u,by simp[aaF],fun op aP ht=>?_⟩;rcases Jv.1 aP with aP|aP
  ·exact hv op aP ht
  ·exact absurd (hu op aP).1 ht
def bV.Base.leave(h:X.Base t0 ks gs w t d dW E S0 G Sw q){i n:Nat}(h0:0<i)(hi:i<X.m0)(hm:∀e∈es,e.mute=true)(hq:QuitsD X.P n (deafBehind (Deaf t i) es) g')(a a':bM)(w1:ay):
 X.Base t0 ks ((gs.map<|woken X.P a a' w1).setIfInBounds i g') w (t++MemOp.ofEvents i fn pos es) d dW E S0 G Sw (upd q i n):=by
 have MQ:∀g,g≠i->Deaf (t++MemOp.ofEvents i fn pos es) g=Deaf t g:=fun g hg=>aFF t (Ne.s hg) _ ofEvents_g;have aK:i<gs.size:=by rw[h.size];omega
 have fP:((gs.map<|woken X.P a a' w1).setIfInBounds i g').size=gs.size:=by simp
 refine⟨fP.t h.size,h.pos,fun a2 g2 h02 ha2 GH=>?_,fun k hk=>?_,?_,fun k hk=>?_,h.mem,?_,?_,?_,?_,h.iM,h.qw⟩
 ·by_cases e:a2=i
  ·subst e;rw[um<|by simpa using aK]at GH;cases GH;rw[aF1,aFj];exact hq
  ·rw[iK<|Ne.s e,yl]at GH;obtain⟨y,hy,rfl⟩:=zY.1 GH;have:=h.old a2 y h02 ha2 hy;rw[aFP this,aFl q n e,MQ a2 e];exact this
 ·have:=h.size;rw[MQ k (by rw[fP]at hk;omega)];exact h.above k<|fP▸hk
 ·rw[MQ 0<|by omega];exact h.deaf0
 ·rw[MQ _<|by omega];exact h.deafW k hk
 ·exact h.ti.xu fun op aP=>by obtain⟨e,he,rfl⟩:=aFc aP;exact touch_mute<|hm e he
 ·exact seen_app h.seen fun op aP=>by obtain⟨e,he,rfl⟩:=aFc aP;exact low_mute (hm e he) _
 ·obtain⟨v,rfl,hv⟩:=h.base;refine⟨v++MemOp.ofEvents i fn pos es,by simp[aaF],fun op aP ht=>?_⟩;rcases Jv.1 aP with aP|aP
  ·exact hv op aP ht
  ·obtain⟨e,he,rfl⟩:=aFc aP;exact absurd (touch_mute<|hm e he) ht
 ·refine h.norel.app fun op aP e=>?_;obtain⟨x,hx,rfl⟩:=aFc aP;have:=hm x hx;have hl:=aF6 e;obtain⟨loc,wr,sy⟩:=x;simp only at hl;subst hl;simp[Event.mute]at this
def bV.Base.spawn(h:X.Base t0 ks gs w t 0 dW E S0 G Sw q){k:K}{Sk S1:aO}{E1:dL}{child:bM}{fn':ji}{pos':String}
 (aT:∀b,Sk b->S0 b)(hc:S0 (X.ch k))(pV:¬Sk (X.ch k))(lY:¬(X.side k).ro (X.ch k))(hr:∀b,(X.side k).ro b->S0 b\/E.rd b)(hx:∀b,Sk b->¬(X.side k).ro b)
 (wU:∀b,S1 b->S0 b/\¬Sk b/\¬(X.side k).ro b/\b≠X.ch k)(Jh:∀b,E1.ro b->E.ro b\/(X.side k).ro b)(VL:∀b,E1.rd b->E.rd b\/(X.side k).ro b):
 X.Base t0 (ks++[k]) ((gs.setIfInBounds 0 g').push child) w (t++ #[{g:=0,fn,pos,act:=.go gs.size},{g:=gs.size,fn:=fn',pos:=pos',act:=.start}]) 0 (upd dW ks.length 0) E1 S1 (fun b=>G b\/(X.side k).ro b) (upd Sw ks.length Sk) q:=by
 have VM:=(h.mem.sJ _ hc).2.2.1;have QY:∀b,(X.side k).ro b->b<w.heap.size/\¬X.Sp ks b/\¬X.iQ b/\∀i,i<ks.length->¬Sw i b:=by
  intro b hb;rcases hr b hb with x|x
  ·obtain⟨a1,a2,a3,a4⟩:=h.mem.sJ b x;exact⟨a1,a3,fun z=>a4<|.inl z,fun i hi y=>(h.mem.mi i hi b y).2.2.2.2 x⟩
  ·obtain⟨a1,a2,a3⟩:=h.mem.uG b<|h.mem.Ir b x;exact⟨a1,a2,a3,fun i hi y=>(h.mem.mi i hi b y).2.1<|h.mem.Ir b x⟩
 have Oi:∀b,X.Sp (ks++[k]) b->X.Sp ks b\/b=X.ch k:=by
  rintro b (x|x|x|⟨y,hy,x⟩)
  ·exact .inl<|.inl x
  ·exact .inl<|.inr<|.inl x
  ·exact .inl<|.inr<|.inr<|.inl x
  ·rcases oN.1 hy with hy|hy
   ·exact .inl<|.inr<|.inr<|.inr ⟨y,hy,x⟩
   ·simp at hy;subst hy;exact .inr x
 have get:∀(i:Nat) (x:K),(ks++[k])[i]? =ae x->ks[i]? =ae x\/(i=ks.length/\x=k):=by
  intro i x hi;rw[List.getElem?_append]at hi;split at hi
  ·exact .inl hi
  ·rename_i ET;right;have ed:i-ks.length=0:=by
    cases e:i-ks.length with
    |zero=>rfl
    |succ n=>rw[e]at hi;simp at hi
   rw[ed]at hi;simp at hi;exact⟨by omega,hi.s⟩
 have PT:∀i,i<ks.length->upd Sw ks.length Sk i=Sw i:=fun i hi=>aFl _ _ (by omega);have hd:∀g,Deaf (t++ #[({g:=0,fn,pos,act:=.go gs.size}:MemOp),{g:=gs.size,fn:=fn',pos:=pos',act:=.start}]) g=Deaf t g:=aiD fun op aP=>by
  simp only[uo,jZ,qh,qi]at aP;rcases aP with rfl|rfl<;>simp
 have hm:X.Mem (ks++[k]) E1 S1 (fun b=>G b\/(X.side k).ro b) (upd Sw ks.length Sk) w:=by
  refine⟨fun b hb=>?_,fun i hi b hb=>?_,fun i i' hi nI b hb jw=>?_,fun b hb=>?_,fun b hb=>?_,fun b hb=>?_,fun i x hx b hb=>?_,fun b hb=>?_,h.mem.dB,fun b hb=>?_⟩
  ·obtain⟨a,b1,c,e⟩:=wU b hb;obtain⟨a1,a2,a3,a4⟩:=h.mem.sJ b a;exact⟨a1,fun z=>z.e a2 c,fun z=>(Oi b z).e a3 e,a4⟩
  ·by_cases e:i=ks.length
   ·subst e;rw[aFj]at hb;obtain⟨a1,a2,a3,a4⟩:=h.mem.sJ b<|aT b hb;exact⟨a1,fun z=>z.e a2<|hx b hb,fun z=>(Oi b z).e a3 fun z=>pV<|z▸hb,a4,fun z=>(wU b z).2.1 hb⟩
   ·have nI:i<ks.length:=by simp at hi;omega
    rw[PT i nI]at hb;obtain⟨a1,a2,a3,a4,a5⟩:=h.mem.mi i nI b hb;exact⟨a1,fun z=>z.e a2 fun z=>(QY b z).2.2.2 i nI hb,fun z=>(Oi b z).e a3 fun z=>a5<|z▸hc,a4,fun z=>a5 (wU b z).1⟩
  ·have one:∀i,i<ks.length->∀b,Sw i b->¬Sk b:=fun i hi b hb z=>(h.mem.mi i hi b hb).2.2.2.2<|aT b z;simp only[iW,oH,wu,D9]at hi nI;by_cases e:i=ks.length
   ·by_cases e':i'=ks.length
    ·rw[e,e']
    ·rw[e,aFj]at hb;rw[PT i'<|by omega]at jw;exact absurd hb<|one i' (by omega) b jw
   ·rw[PT i<|by omega]at hb;by_cases e':i'=ks.length
    ·rw[e',aFj]at jw;exact absurd jw<|one i (by omega) b hb
    ·rw[PT i'<|by omega]at jw;exact h.mem.apart i i' (by omega) (by omega) b hb jw
  ·rcases hb with hb|hb
   ·obtain⟨a1,a2,a3⟩:=h.mem.uG b hb;exact⟨a1,fun z=>(Oi b z).e a2 fun z=>(h.mem.sJ _ hc).2.1<|z▸hb,a3⟩
   ·obtain⟨a1,a2,a3,_⟩:=QY b hb;exact⟨a1,fun z=>(Oi b z).e a2 fun z=>lY<|z▸hb,a3⟩
  ·rcases Jh b hb with z|z
   ·exact(h.mem.MO b z).imp .inl id
   ·exact .inl<|.inr z
  ·rcases VL b hb with z|z
   ·exact .inl<|h.mem.Ir b z
   ·exact .inr z
  ·rcases get i x hx with z|⟨_,rfl⟩
   ·exact .inl<|h.mem.zh i x z b hb
   ·exact .inr hb
  ·rcases Oi b hb with z|rfl
   ·exact h.mem.low b z
   ·exact(h.mem.sJ _ hc).1
  ·rcases Oi b hb with z|rfl
   ·exact h.mem.MP b z
   ·exact(h.mem.sJ _ hc).2.2.2
 have AX:∀op∈#[({g:=0,fn,pos,act:=.go gs.size}:MemOp),{g:=gs.size,fn:=fn',pos:=pos',act:=.start}],op.act.touch?=af/\op.act.low w.heap.size/\op.act≠.mark (.release<|stA X.Wg):=by
  intro op aP;simp only[uo,jZ,qh,qi]at aP;rcases aP with rfl|rfl<;>exact⟨rfl,trivial,by simp⟩
 have pX:=h.pos;have aDG:=h.size;refine⟨by simp[h.size]<;>omega,h.pos,fun a g h0 ha hg=>?_,fun a ha=>?_,by rw[hd];exact h.deaf0,fun a ha=>?_,hm,?_,seen_app h.seen fun op aP=>(AX op aP).2.1,?_,h.norel.app fun op aP=>(AX op aP).2.2,⟨h.iM.1,h.iM.2.1,h.iM.2.2.1,fun x hx=>?_,fun i i' x x' h1 h2 e=>?_⟩,h.qw⟩
 ·rw[hd];refine h.old a g h0 ha ?_;rw[RG,if_neg (by simp<;>omega),iK<|by omega]at hg;exact hg
 ·rw[hd];exact h.above a (by simp at ha;omega)
 ·rw[hd];by_cases e:a=ks.length
  ·rw[e,aFj];exact h.above _<|by omega
  ·rw[aFl _ _ e];exact h.deafW a (by simp at ha;omega)
 ·refine h.ti.fork (k:=gs.size) ⟨rfl,rfl⟩ ⟨rfl,rfl⟩ h.deaf0 (h.above _<|dI _) ?_ ?_ ?_ ?_
  ·rintro k' l ⟨i,hi,rfl,hl⟩;simp only[iW,oH,wu,D9]at hi;by_cases e:i=ks.length
   ·right;subst e;rw[aFj]at hl;refine⟨by omega,?_⟩;have nO:∀{b:Nat},(l=.obj b\/∃a,l=.cell a/\a.block=b)->(∀i,i<ks.length->¬Sw i b)->(∀i,i<ks.length->l≠.cell ⟨X.C,i,af⟩)->¬G b->∀vW,vW≠0->¬X.O Sw ks.length vW l/\¬X.Rd ks vW l:=by
     intro b hb h1 h2 h3 vW _;refine⟨?_,?_⟩
     ·rintro⟨i,hi,rfl,hl|hl⟩
      ·rcases hb with rfl|⟨a,rfl,rfl⟩<;>exact h1 i hi hl
      ·exact h2 i hi hl
     ·rintro⟨i,x,hx,rfl,hl⟩;have:=h.mem.zh i x hx;rcases hb with rfl|⟨a,rfl,rfl⟩<;>exact h3<|this _<|(X.side x).le _ hl
    rcases hl with hl|rfl
    ·have key:∀b,Sk b->(l=.obj b\/∃a,l=.cell a/\a.block=b)->¬X.Sh l/\¬lK X.iQ l/\∀vW,vW≠0->¬X.O Sw ks.length vW l/\¬X.Rd ks vW l:=by
      intro b hb iP;obtain⟨a1,a2,a3,a4⟩:=h.mem.sJ b<|aT b hb;refine⟨?_,?_,nO iP (fun i hi z=>(h.mem.mi i hi b z).2.2.2.2<|aT b hb) (fun i hi e=>?_) a2⟩
      ·rintro(⟨a,e,ha⟩|e)
       ·rcases iP with iP|⟨a',iP,rfl⟩
        ·rw[e]at iP;cases iP
        ·rw[e]at iP;cases iP;exact a3<|.inl ha
       ·rcases iP with iP|⟨a',iP,rfl⟩
        ·rw[e]at iP;cases iP;exact a3<|.inr<|.inr<|.inl rfl
        ·rw[e]at iP;cases iP
      ·rcases iP with rfl|⟨a',rfl,rfl⟩<;>exact fun z=>a4<|.inl z
      ·rcases iP with iP|⟨a',iP,rfl⟩
       ·rw[e]at iP;cases iP
       ·rw[e]at iP;cases iP;exact a3<|.inr<|.inl rfl
     refine⟨hl.mem,?_⟩;cases l with
     |cell a=>exact key a.block hl<|.inr ⟨a,rfl,rfl⟩
     |obj r=>exact key r hl<|.inl rfl
     |_=>exact hl.e
    ·refine⟨rfl,?_,fun z=>h.mem.MP _ (.inr<|.inl rfl)<|.inl z,nO (b:=X.C) (.inr ⟨_,rfl,rfl⟩) (fun i hi z=>(h.mem.mi i hi _ z).2.2.1<|.inr<|.inl rfl) (fun i hi e=>?_) fun z=>(h.mem.uG _ z).2.1<|.inr<|.inl rfl⟩
     ·rintro(⟨a,e,ha⟩|e)
      ·cases e;exact h.iM.1 ha.s
      ·cases e
     ·simp at e;omega
   ·rw[PT i<|by omega]at hl;exact .inl ⟨i,by omega,rfl,hl⟩
  ·rintro k' l ⟨i,x,hx,rfl,hl⟩;rcases get i x hx with z|⟨rfl,rfl⟩
   ·exact .inl ⟨i,x,z,rfl,hl⟩
   ·right;have key:∀b,(X.side x).rd b->(l=.obj b\/∃a,l=.cell a/\a.block=b)->¬X.Sh l/\¬lK X.iQ l/\∀vW,vW≠0->¬X.O Sw ks.length vW l:=by
     intro b hb iP;obtain⟨a1,a2,a3,a4⟩:=QY b<|(X.side x).le b hb;refine⟨?_,?_,?_⟩
     ·rintro(⟨a,e,ha⟩|e)
      ·rcases iP with iP|⟨a',iP,rfl⟩
       ·rw[e]at iP;cases iP
       ·rw[e]at iP;cases iP;exact a2<|.inl ha
      ·rcases iP with iP|⟨a',iP,rfl⟩
       ·rw[e]at iP;cases iP;exact a2<|.inr<|.inr<|.inl rfl
       ·rw[e]at iP;cases iP
     ·rcases iP with rfl|⟨a',rfl,rfl⟩<;>exact a3
     ·rintro vW _ ⟨i,hi,rfl,VN|VN⟩
      ·rcases iP with rfl|⟨a',rfl,rfl⟩<;>exact a4 i hi VN
      ·rcases iP with iP|⟨a',iP,rfl⟩
       ·rw[VN]at iP;cases iP
       ·rw[VN]at iP;cases iP;exact a2<|.inr<|.inl rfl
    refine⟨by omega,hl.mem,?_⟩;cases l with
    |cell a=>exact key a.block hl<|.inr ⟨a,rfl,rfl⟩
    |obj r=>exact key r hl<|.inl rfl
    |_=>exact hl.e
  ·rintro k' l ⟨i,hi,rfl,hl⟩;exact⟨i,by simp<;>omega,rfl,by rw[PT i hi];exact hl⟩
  ·rintro k' l ⟨i,x,hx,rfl,hl⟩;exact⟨i,x,by rw[vg (dS.1 hx).1];exact hx,rfl,hl⟩
 ·obtain⟨v,rfl,hv⟩:=h.base;refine⟨v++ #[{g:=0,fn,pos,act:=.go gs.size},{g:=gs.size,fn:=fn',pos:=pos',act:=.start}],by simp[aaF],fun op aP ht=>?_⟩;rcases Jv.1 aP with aP|aP
  ·exact(hv op aP ht).imp id fun⟨i,hi,e⟩=>⟨i,by simp<;>omega,e⟩
  ·exact absurd (AX op aP).1 ht
 ·rcases oN.1 hx with z|z
  ·exact h.iM.2.2.2.1 x z
  ·simp at z;subst z;exact⟨fun e=>VM<|.inl e,fun e=>VM<|.inr<|.inl e,fun e=>VM<|.inr<|.inr<|.inl e⟩
 ·rcases get i x h1 with z|⟨rfl,rfl⟩
  ·rcases get i' x' h2 with z'|⟨rfl,rfl⟩
   ·exact h.iM.2.2.2.2 i i' x x' z z' e
   ·exact absurd (.inr<|.inr<|.inr ⟨x,gZ z,e.s⟩) VM
  ·rcases get i' x' h2 with z'|⟨rfl,rfl⟩
   ·exact absurd (.inr<|.inr<|.inr ⟨x',gZ z',e⟩) VM
   ·rfl
end
end fU
end
section
namespace fU
open Go Go.Conc Twin
open Go.ConcN (upd upd_same upd_ne)
open Go.ConcR (stA smA)
inductive rD where
 |iw
 |go
 |send (i:Nat) (v:aA)
def msgs:List rD->Nat->List aA
 |[],_=>[]
 | .send i v::ts,j=>if j=i then v::msgs ts j else msgs ts j
 |_::ts,j=>msgs ts j
section
variable{K:Type}(X:bV K)
def bV.cs(k:K)(z0 z1:aA):Array CommCase:=#[rcase (X.ch k) z0,rcase X.ov z1]
structure bV.tV(k:K)(l:List aA)(S:aO)(g:bM)(z0 z1:aA)(sh:CommShape)(w:ay):Prop where
 run:g.status=.running
 step:∀w1,bu S (X.side k) w w1->bK X.P false g w1=.comm g (X.cs k z0 z1) true sh w1 #[]
 told:∀v r,l++v::r=X.yE k->aC X.P false (X.side k) (X.Iq k<|l++[v]) S (g.finishComm X.P (X.cs k z0 z1) sh 0 v true) w
 over:aC X.P false (X.side k) (X.Fin k l) S (g.finishComm X.P (X.cs k z0 z1) sh 1 z1 false) w
def bV.Fit:Prop:=∀k l S g w,X.Iq k l S g w->∃z0 z1 sh,X.tV k l S g z0 z1 sh w
inductive bV.Iu(k:K)(l:List aA):T->aO->bM->ay->Prop where
 |run {τ S g w} (h:Dj X.P false (X.side k) (X.Iq k l) τ S g w):Iu k l τ.more S g w
 |parked {S g z0 z1 sh w} (h:X.tV k l S g z0 z1 sh w):Iu k l .stop S (Go.Conc.parked g (X.cs k z0 z1) sh) w
def bV.kE(End:List K->dL->aO->bM->ay->Prop):List rD->List K->Nat->dL->aO->bM->ay->Prop
 |[],ks,d,E=>fun S g w=>d=0/\g.status=.running/\End ks E S g w
 | .iw::ts,ks,d,E=>fun S g w=>g.status=.running/\∃g' w' es,bK X.P true g w=.go g' w' es/\Aside X.Wg w w'/\(∀e∈es,X.PQ e)/\aC X.P true E (bV.kE End ts ks (deafBehind d es) E) S g' w'
 | .go::ts,ks,d,E=>fun S g w=>d=0/\g.status=.running/\∃g' child k Sk E1 S1,bK X.P true g w=.spawn g' child w #[]/\
    aC X.P false (X.side k) (X.Iq k []) Sk child w/\(∀b,Sk b->S b)/\S (X.ch k)/\¬Sk (X.ch k)/\¬(X.side k).ro (X.ch k)/\(∀b,(X.side k).ro b->S b\/E.rd b)/\(∀b,Sk b->¬(X.side k).ro b)/\
    (∀b,S1 b->S b/\¬Sk b/\¬(X.side k).ro b/\b≠X.ch k)/\(∀b,E1.ro b->E.ro b\/(X.side k).ro b)/\(∀b,E1.rd b->E.rd b\/(X.side k).ro b)/\(∃s r,w.heap[X.ch k]? =ae (.chan 0 #[] false s r false))/\
    msgs ts ks.length=X.yE k/\aC X.P true E1 (bV.kE End ts (ks++[k]) 0 E1) S1 g' w
 | .send i v::ts,ks,d,E=>fun S g w=>d=0/\g.status=.running/\∃k z sh,ks[i]? =ae k/\bK X.P true g w=.comm g #[scase (X.ch k) v z] true sh w #[]/\
    aC X.P true E (bV.kE End ts ks 0 E) S (g.finishComm X.P #[scase (X.ch k) v z] sh 0 ai false) w
inductive bV.Iw(End:List K->dL->aO->bM->ay->Prop)(ts:List rD)(ks:List K)(d:Nat)(E:dL):T->aO->bM->ay->Prop where
 |run {τ S g w} (h:Dj X.P true E (X.kE End ts ks d E) τ S g w):Iw End ts ks d E τ.more S g w
 |parked {i v k z sh S g w bs} (has:ts=.send i v::bs) (hd:d=0) (hk:ks[i]? =ae k)
   (hn:aC X.P true E (X.kE End bs ks 0 E) S (g.finishComm X.P #[scase (X.ch k) v z] sh 0 ai false) w):Iw End ts ks d E .stop S (Go.Conc.parked g #[scase (X.ch k) v z] sh) w
structure bV.Inv1(End:List K->dL->aO->bM->ay->Prop)(o:Option Obj)(t0:Trace)(ts:List rD)(ks:List K)(gs:Array bM)(w:ay)(t:Trace)(d:Nat)(E:dL)(S0 G:aO)(Sw:Nat->aO)(q:Nat->Nat)(bF:Nat->List aA)(D:Nat->T)(τ:T):Prop where
 base:X.Base t0 ks gs w t d (fun _=>0) E S0 G Sw q
 main:∃a,gs[0]? =ae a/\X.Iw End ts ks d E τ S0 a w
 work:∀(i:Nat) (k:K),ks[i]? =ae k->∃g,gs[X.m0+i]? =ae g/\X.Iu k (bF i) (D<|X.m0+i) (Sw i) g w
 old:∀i,0<i->i<X.m0->D i=T.nat (q i)
 sK:∀k∈ks,∃s r,w.heap[X.ch k]? =ae (.chan 0 #[] false s r false)
 over:∃cap s r,w.heap[X.ov]? =ae (.chan cap #[] false s r false)
 pair:∀a i v bs,gs[0]? =ae a->a.status=.blocked->ts=.send i v::bs->∃g,gs[X.m0+i]? =ae g/\g.status=.running
 pay:w.heap[X.C]? =o
 none:∀i,ks.length<=i->bF i=[]
 yE:∀(i:Nat) (k:K),ks[i]? =ae k->bF i++msgs ts i=X.yE k
end
section
variable{K:Type}{X:bV K}{End:List K->dL->aO->bM->ay->Prop}{k:K}{l:List aA}{τ:T}{S:aO}{g:bM}{w w1:ay}{ts:List rD}{ks:List K}{d:Nat}{E:dL}
theorem bV.tV.rely{z0 z1:aA}{sh:CommShape}(h:X.tV k l S g z0 z1 sh w)(hk:bu S (X.side k) w w1):X.tV k l S g z0 z1 sh w1:=
 ⟨h.run,fun w2 k2=>h.step w2<|hk.t k2,fun v r hv=>(h.told v r hv).rely hk,h.over.rely hk⟩
theorem bV.Iu.rely(h:X.Iu k l τ S g w)(hk:bu S (X.side k) w w1):X.Iu k l τ S g w1:=by
 cases h with
 |run h=>exact .run<|h.rely hk
 |parked h=>exact .parked<|h.rely hk
theorem bV.Iw.rely(h:X.Iw End ts ks d E τ S g w)(hk:bu S E w w1):X.Iw End ts ks d E τ S g w1:=by
 cases h with
 |run h=>exact .run<|h.rely hk
 |parked h1 h2 h3 h4=>exact .parked h1 h2 h3<|h4.rely hk
theorem bV.kE.running(h:X.kE End ts ks d E S g w):g.status=.running:=by
 cases ts with
 |nil=>exact h.2.1
 |cons a ts=>
  cases a with
  |iw=>exact h.1
  |go=>exact h.2.1
  |send i v=>exact h.2.1
theorem Ep{P:fJ}{main:Bool}{Stop:aO->bM->ay->Prop}(h:Dj P main E Stop τ S g w)(hs:∀S g w,Stop S g w->g.status=.running):g.status=.running:=by
 cases τ with
 |stop=>exact hs _ _ _<|h w<|bu.refl _ _ _
 |step f=>exact h.1
theorem bV.Iu.status(F:X.Fit)(h:X.Iu k l τ S g w):g.status=.running\/∃g0 z0 z1 sh,g=Go.Conc.parked g0 (X.cs k z0 z1) sh/\X.tV k l S g0 z0 z1 sh w:=by
 cases h with
 |run h=>exact .inl (Ep h fun S g w x=>let ⟨_,_,_,y⟩:=F _ _ _ _ _ x;y.run)
 |parked h=>exact .inr ⟨_,_,_,_,rfl,h⟩
theorem bV.Iw.status(h:X.Iw End ts ks d E τ S g w):g.status=.running\/∃i v k z sh g0 bs,g=Go.Conc.parked g0 #[scase (X.ch k) v z] sh/\ts=.send i v::bs/\ks[i]? =ae k:=by
 cases h with
 |run h=>exact .inl<|Ep h fun S g w x=>x.running
 |parked h1 h2 h3 h4=>exact .inr ⟨_,_,_,_,_,_,_,rfl,h1,h3⟩
end
end fU
end
section
namespace fU
open Go Go.Conc Twin
open Go.ConcN (upd upd_same upd_ne)
open Go.ConcR (stA smA)
section
variable{K:Type}{X:bV K}{End:List K->dL->aO->bM->ay->Prop}{o:Option Obj}{t0:Trace}{ts:List rD}{ks:List K}{gs:Array bM}{w w':ay}{t:Trace}{d:Nat}{E:dL}{S0 G:aO}{Sw:Nat->aO}{q:Nat->Nat}{bF:Nat->List aA}{D:Nat->T}{τ:T}
 {sl:Option (Nat×Nat)}
def bV.Inv1.at(h:X.Inv1 End o t0 ts ks gs w t d E S0 G Sw q bF D τ)(n:Nat):X.Inv1 End o t0 ts ks gs (w.at n) t d E S0 G Sw q bF D τ:=
 ⟨h.base.at n,let ⟨a,ha,hm⟩:=h.main;⟨a,ha,hm.rely<|bu.at _ _ _ _⟩,fun i k hk=>let ⟨g,hg,hs⟩:=h.work i k hk;⟨g,hg,hs.rely<|bu.at _ _ _ _⟩,h.old,h.sK,h.over,h.pair,h.pay,h.none,h.yE⟩
variable{dW:Nat->Nat}{g:bM}{i c cap s r b:Nat}{k:K}{es:Array Event}{buf:Array aA}{cl tm:Bool}
def bV.Base.FX(h:X.Base t0 ks gs w t d dW E S0 G Sw q){j:Nat}(hj:gs[j]? =ae g):j=0\/(0<j/\j<X.m0)\/∃i k,j=X.m0+i/\ks[i]? =ae k:=by
 have aK:j<gs.size:=(jF.1 hj).1;rw[h.size]at aK;rcases Ju j with h0|h0
 ·exact .inl h0
 ·rcases FB j X.m0 with h1|h1
  ·exact .inr<|.inl ⟨h0,h1⟩
  ·exact .inr<|.inr ⟨j-X.m0,ks[j-X.m0]'(by omega),by omega,eY _⟩
def bV.Inv1.still(F:X.Fit)(h:X.Inv1 End o t0 ts ks gs w t d E S0 G Sw q bF D τ)(hc:∀k∈ks,∃s r,w'.heap[X.ch k]? =ae (.chan 0 #[] false s r false))(ho:∃cap s r,w'.heap[X.ov]? =ae (.chan cap #[] false s r false))(a a':bM):gs.map (woken X.P a a' w')=gs:=by
 apply Array.ext_getElem?;intro j;rw[yl];cases hj:gs[j]? with
 |none=>rfl
 |some g=>
  simp only[Ho,gU];rcases h.base.FX hj with rfl|⟨h0,h1⟩|⟨i,k,rfl,hk⟩
  ·obtain⟨x,hx,hm⟩:=h.main;rw[hj]at hx;cases hx;rcases hm.status with hs|⟨i,v,k,z,sh,g0,bs,rfl,_,hk⟩
   ·exact aGw hs
   ·obtain⟨s,r,hc⟩:=hc k<|gZ hk;exact woken_send_open a a' hc
  ·exact aFP<|h.base.old j g h0 h1 hj
  ·obtain⟨x,hx,hs⟩:=h.work i k hk;rw[hj]at hx;cases hx;rcases hs.status F with hs|⟨g0,z0,z1,sh,rfl,_⟩
   ·exact aGw hs
   ·unfold woken;split
    ·obtain⟨s,r,hc⟩:=hc k<|gZ hk;obtain⟨cap,s',r',ho⟩:=ho;refine again_all_open fun cc qK=>?_;simp only[bV.cs,uo,jZ,qh,qi]at qK;rcases qK with rfl|rfl
     ·exact⟨_,_,_,_,_,_,_,rfl,hc⟩
     ·exact⟨_,_,_,_,_,_,_,rfl,ho⟩
    ·rfl
def bV.Base.acL(h:X.Base t0 ks gs w t d dW E S0 G Sw q)(hk:ks[i]? =ae k)(hG:jC (Sw i) (X.side k) w w' es):
 bu S0 E w w'/\(∀i' k',i'≠i->ks[i']? =ae k'->bu (Sw i') (X.side k') w w')/\∀b,X.Sp ks b->w'.heap[b]? =w.heap[b]? :=by
 have hi:i<ks.length:=(dS.1 hk).1;have nG:∀b,G b->b<w.heap.size/\¬Sw i b:=fun b hb=>⟨(h.mem.uG b hb).1,fun z=>(h.mem.mi i hi b z).2.1 hb⟩;have JW:∀b,X.Sp ks b->b<w.heap.size/\¬Sw i b:=fun b hb=>⟨h.mem.low b hb,fun z=>(h.mem.mi i hi b z).2.2.1 hb⟩;refine⟨acI hG (fun b hb=>⟨(h.mem.sJ b hb).1,fun z=>(h.mem.mi i hi b z).2.2.2.2 hb⟩) fun b hb=>(h.mem.MO b hb).e (nG b) fun e=>JW b<|.inl e,fun i' k' dD dV=>?_,fun b hb=>hG.still b (JW b hb).1 (JW b hb).2⟩;have nI:i'<ks.length:=(dS.1 dV).1;exact acI hG (fun b hb=>⟨(h.mem.mi i' nI b hb).1,fun z=>dD<|h.mem.apart i' i nI hi b hb z⟩) fun b hb=>nG b<|h.mem.zh i' k' dV b hb
def bV.Inv1.stepW(h:X.Inv1 End o t0 ts ks gs w t d E S0 G Sw q bF D τ)(hk:ks[i]? =ae k){fn:ji}{pos:String}(hG:jC (Sw i) (X.side k) w w' es){g':bM}{σ:T}(hs:X.Iu k (bF i) σ (grow (Sw i) w w') g' w')(iy:g'.status=.running):
 X.Inv1 End o t0 ts ks (gs.setIfInBounds (X.m0+i) g') w' (t++MemOp.ofEvents (X.m0+i) fn pos es) d E S0 G (upd Sw i<|grow (Sw i) w w') q bF (upd D (X.m0+i) σ) τ:=by
 have hi:i<ks.length:=(dS.1 hk).1;obtain⟨k0,kW,kS⟩:=h.base.acL hk hG;have pX:=h.base.pos;have aK:X.m0+i<gs.size:=by rw[h.base.size];omega
 refine⟨h.base.stepW hk hG (by simp) fun j h0 h1=>by rw[iK<|by omega],?_,fun i' k' dV=>?_,fun j h0 h1=>by rw[aFl _ _<|by omega];exact h.old j h0 h1,fun κ jL=>?_,?_,fun a i0 v bs ha hb he=>?_,?_,h.none,h.yE⟩
 ·obtain⟨a,ha,hm⟩:=h.main;exact⟨a,by rw[iK<|by omega];exact ha,hm.rely k0⟩
 ·by_cases e:i'=i
  ·subst e;rw[hk]at dV;cases dV;exact⟨g',by rw[um aK],by rw[aFj,aFj];exact hs⟩
  ·obtain⟨x,hx,Q5⟩:=h.work i' k' dV;exact⟨x,by rw[iK<|by omega];exact hx,by rw[aFl _ _<|by omega,aFl _ _ e];exact Q5.rely<|kW i' k' e dV⟩
 ·obtain⟨s,r,hc⟩:=h.sK κ jL;exact⟨s,r,by rw[kS _<|.inr<|.inr<|.inr ⟨κ,jL,rfl⟩];exact hc⟩
 ·obtain⟨cap,s,r,hc⟩:=h.over;exact⟨cap,s,r,by rw[kS _<|.inr<|.inr<|.inl rfl];exact hc⟩
 ·rw[iK<|by omega]at ha;obtain⟨x,hx,hr⟩:=h.pair a i0 v bs ha hb he;by_cases e:i0=i
  ·subst e;exact⟨g',by rw[um aK],iy⟩
  ·exact⟨x,by rw[iK<|by omega];exact hx,hr⟩
 ·rw[kS _<|.inr<|.inl rfl];exact h.pay
def bV.TD(X:bV K)(End:List K->dL->aO->bM->ay->Prop)(o:Option Obj)(t0:Trace)(ts:List rD)(gs:Array bM)(w:ay)(sl:Option (Nat×Nat))(t:Trace)(bF:Nat->List aA)(D:Nat->T)(τ:T)(x:Nat):Prop:=
 ∃gs1 w1 ops Es zi d1 E1 S1 G1 wG q1 Aj D1 iZ,runT X.P (crowd gs w sl) x=(.next<|crowd gs1 w1 sl,ops)/\X.Inv1 End o t0 Es zi gs1 w1 (t++ops) d1 E1 S1 G1 wG q1 Aj D1 iZ/\
  (Es.length<ts.length\/(Es.length=ts.length/\gs1.size=gs.size/\(Eo gs.size D1 D\/(D1=D/\T.Lt iZ τ))))/\∀i,Aj i++msgs Es i=bF i++msgs ts i
def bV.Inv1.aiE(F:X.Fit)(h:X.Inv1 End o t0 ts ks gs w t d E S0 G Sw q bF D τ){x:Nat}(h0:∀a,gs[0]? =ae a->offersAt a c true=[]):partners (gs.setIfInBounds x ph) c true=[]:=by
 refine partners_nil fun j g hj=>?_;rcases aGk gs x j g hj with⟨_,rfl⟩|⟨_,hj⟩
 ·rfl
 ·rcases h.base.FX hj with rfl|⟨h1,h2⟩|⟨i,k,rfl,hk⟩
  ·exact h0 g hj
  ·rcases(h.base.old j g h1 h2 hj).status with hs|hs<;>exact aFn (by rw[hs];simp) _ _
  ·obtain⟨y,hy,hs⟩:=h.work i k hk;rw[hj]at hy;cases hy;rcases hs.status F with hs|⟨g0,z0,z1,sh,rfl,_⟩
   ·exact aFn (by rw[hs];simp) _ _
   ·refine offersAt_parked_sends (fun cc qK=>?_) _;simp only[bV.cs,uo,jZ,qh,qi]at qK;rcases qK with rfl|rfl<;>rfl
def TF{w:ay}(hb:b≠c):(w.setChan c cap buf cl s r tm).heap[b]? =w.heap[b]? :=by
 unfold World.setChan;exact iK<|Ne.s hb
def asC{w:ay}(hc:c<w.heap.size):(w.setChan c cap buf cl s r tm).heap[c]? =ae (.chan cap buf cl s r tm):=by
 unfold World.setChan;exact um hc
def aiF{w:ay}:(w.setChan c cap buf cl s r tm).heap.size=w.heap.size:=by
 unfold World.setChan;simp
def acM{S:aO}{E:dL}{w:ay}(h1:¬S c)(h2:¬E.ro c):bu S E w (w.setChan c cap buf cl s r tm):=
 ⟨rfl,rfl,rfl,CQ aiF.s,fun _ hb=>TF fun e=>h1<|e▸hb,fun _ hb=>TF fun e=>h2<|e▸hb⟩
def asD{q:Nat->Prop}{w:ay}(h:au.jK q w):au.jK q (w.setChan c cap #[] cl s r tm):=h.setObj fun _ v hv=>by simp at hv
def bV.Base.TG(h:X.Base t0 ks gs w t d dW E S0 G Sw q)(hb:X.Sp ks b):¬S0 b/\(b≠X.Wg->¬E.ro b)/\(∀i,i<ks.length->¬Sw i b)/\∀(i:Nat) (k:K),ks[i]? =ae k->¬(X.side k).ro b:=
 ⟨fun z=>(h.mem.sJ b z).2.2.1 hb,fun dD z=>(h.mem.MO b z).e (fun g=>(h.mem.uG b g).2.1 hb) dD,fun i hi z=>(h.mem.mi i hi b z).2.2.1 hb,fun i k hk z=>(h.mem.uG b<|h.mem.zh i k hk b z).2.1 hb⟩
def acN(Wg B:Nat)(u:Trace):Prop:=∀op∈u,op.act.touch?=af/\op.act.low B/\op.act≠.mark .disable/\op.act≠.mark .enable/\op.act≠.mark (.release<|stA Wg)
def bV.Inv1.met{v:aA}{bs:List rD}(h:X.Inv1 End o t0 (.send i v::bs) ks gs w t 0 E S0 G Sw q bF D τ)(hk:ks[i]? =ae k){ga gw:bM}{z z0 z1:aA}{sh X9:CommShape}
 (hW:X.tV k (bF i) (Sw i) gw z0 z1 sh w)(hn:aC X.P true E (X.kE End bs ks 0 E) S0 (ga.finishComm X.P #[scase (X.ch k) v z] X9 0 ai false) w){gs1:Array bM}(fP:gs1.size=gs.size)(h10:gs1[0]? =ae (ga.finishComm X.P #[scase (X.ch k) v z] X9 0 ai false))
 (h1i:gs1[X.m0+i]? =ae (gw.finishComm X.P (X.cs k z0 z1) sh 0 v true))(zT:∀j,j≠0->j≠X.m0+i->gs1[j]? =gs[j]?){u:Trace}(hu:acN X.Wg w.heap.size u)(s r:Nat):
 ∃D1 iZ,X.Inv1 End o t0 bs ks gs1 (w.setChan (X.ch k) 0 #[] false s r false) (t++u) 0 E S0 G Sw q (upd bF i<|bF i++[v]) D1 iZ:=by
 have pW:=gZ hk;have hi:i<ks.length:=(dS.1 hk).1;obtain⟨n0,nE,nW,nR⟩:=h.base.TG (b:=X.ch k)<|.inr<|.inr<|.inr ⟨k,pW,rfl⟩;have pX:=h.base.pos;obtain⟨hcW,hcC,hco⟩:=h.base.iM.2.2.2.1 k pW;obtain⟨σ,hσ⟩:=JU ((hW.told v (msgs bs i) (by rw[<-h.yE i k hk];simp[msgs])).rely<|acM (cap:=0) (buf:=#[]) (cl:=false) (s:=s) (r:=r) (tm:=false) (nW i hi)<|nR i k hk);obtain⟨iZ,BC⟩:=JU<|hn.rely<|acM (cap:=0) (buf:=#[]) (cl:=false) (s:=s) (r:=r) (tm:=false) n0<|nE hcW;refine⟨upd D (X.m0+i) σ.more,iZ.more,h.base.quiet (asD h.base.qw) aiF hu fP fun j h0 h1=>zT j (by omega)<|by omega,⟨_,h10,.run BC⟩,fun i' k' dV=>?_,fun j h0 h1=>by rw[aFl _ _<|by omega];exact h.old j h0 h1,fun κ jL=>?_,?_,fun a i0 v0 bs0 ha hb he=>?_,?_,fun i' nI=>?_,fun i' k' dV=>?_⟩
 ·by_cases e:i'=i
  ·subst e;rw[hk]at dV;cases dV;exact⟨_,h1i,by rw[aFj,aFj];exact .run hσ⟩
  ·obtain⟨x,hx,hs⟩:=h.work i' k' dV;exact⟨x,by rw[zT _ (by omega)<|by omega];exact hx,by rw[aFl bF _ e,aFl D _<|by omega];exact hs.rely<|acM (nW i' (dS.1 dV).1)<|nR i' k' dV⟩
 ·by_cases e:X.ch κ=X.ch k
  ·exact⟨s,r,by rw[e];exact asC<|h.base.mem.low _<|.inr<|.inr<|.inr ⟨k,pW,rfl⟩⟩
  ·obtain⟨s',r',hc⟩:=h.sK κ jL;exact⟨s',r',by rw[TF e];exact hc⟩
 ·obtain⟨cap,s',r',hc⟩:=h.over;exact⟨cap,s',r',by rw[TF<|Ne.s hco];exact hc⟩
 ·rw[h10]at ha;cases ha;simp[Goroutine.finishComm]at hb
 ·rw[TF<|Ne.s hcC];exact h.pay
 ·rw[aFl _ _<|by omega];exact h.none i' nI
 ·rw[<-h.yE i' k' dV];by_cases e:i'=i
  ·subst e;rw[aFj];simp[msgs]
  ·rw[aFl _ _ e];simp[msgs,e]
def TJ(Wg B x:Nat)(fn:ji)(pos:String):acN Wg B (MemOp.ofEvents x fn pos #[]):=fun op aP=>by
 obtain⟨e,he,rfl⟩:=aFc aP;simp at he
def bV.Inv1.asE(F:X.Fit)(h:X.Inv1 End o t0 ts ks gs w t d E S0 G Sw q bF D τ)(hk:ks[i]? =ae k)(hg:gs[X.m0+i]? =ae g)(iy:g.status=.running):X.TD End o t0 ts gs w sl t bF D τ (X.m0+i):=by
 have hi:i<ks.length:=(dS.1 hk).1;have pX:=h.base.pos;have aK:X.m0+i<gs.size:=by rw[h.base.size];omega
 have o9:(X.m0+i==0)=false:=by simp<;>omega
 have pW:=gZ hk;obtain⟨x,hx,hs⟩:=h.work i k hk;rw[hg]at hx;cases hx;generalize hD:D (X.m0+i)=σ at hs;cases hs with
 |parked hW=>simp[Go.Conc.parked]at iy
 | @run σ _ _ _ hT=>
   cases σ with
   |step f=>
    obtain⟨g',w2,es,hgo,hG,Ce⟩:=hT.2 w<|bu.refl _ _ _;obtain⟨k0,kW,kS⟩:=h.base.acL hk hG;have dF:=h.still (w':=w2) F (fun κ jL=>let ⟨s,r,hc⟩:=h.sK κ jL;⟨s,r,by rw[kS _<|.inr<|.inr<|.inr ⟨κ,jL,rfl⟩];exact hc⟩) (let ⟨cap,s,r,hc⟩:=h.over;⟨cap,s,r,by rw[kS _<|.inr<|.inr<|.inl rfl];exact hc⟩) g g';have hr:=aFz (P:=X.P) (sl:=sl) (i:=X.m0+i) hg (by rw[o9];exact hgo);rw[dF]at hr;have VO:g'.status=.running:=Ep Ce fun S g w x=>let ⟨_,_,_,y⟩:=F _ _ _ _ _ x;y.run;refine⟨_,w2,_,ts,ks,d,E,S0,G,_,q,bF,_,τ,hr,h.stepW hk hG (.run Ce) VO,.inr ⟨rfl,by simp,.inl ⟨X.m0+i,aK,?_,fun j hj=>aFl _ _ hj⟩⟩,fun _=>rfl⟩;rw[aFj,hD];exact T.TA<|.mk f w
   |stop=>
    obtain⟨z0,z1,sh,hW⟩:=F _ _ _ _ _<|hT w<|bu.refl _ _ _;have jT:=hW.step w<|bu.refl _ _ _;obtain⟨s,r,hc⟩:=h.sK k pW;obtain⟨cap,s',r',ho⟩:=h.over;obtain⟨a,ha,hm⟩:=h.main;have hco:=(h.base.iM.2.2.2.1 k pW).2.2;have AY:partners (gs.setIfInBounds (X.m0+i) ph) X.ov true=[]:=h.aiE F fun a' ha'=>by
     rw[ha]at ha';cases ha';rcases hm.status with hs|⟨i0,v,k',z,sh',g0,bs,rfl,_,dV⟩
     ·exact aFn (by rw[hs];simp) _ _
     ·rw[aGe,if_neg (h.base.iM.2.2.2.1 k'<|gZ dV).2.2]
    have aiG:(∀a,gs[0]? =ae a->offersAt a (X.ch k) true=[])->(∀a v bs,gs[0]? =ae a->a.status=.blocked->ts≠.send i v::bs)->X.TD End o t0 ts gs w sl t bF D τ (X.m0+i):=by
     intro oL Et;have hr:=crowd_waits (P:=X.P) (sl:=sl) (i:=X.m0+i) (w:=w) (w₁:=w) hg (by rw[o9];exact jT) (by
      intro cc qK;simp only[bV.cs,uo,jZ,qh,qi]at qK;rcases qK with rfl|rfl
      ·exact aGl hc<|h.aiE F oL
      ·exact aGl ho AY)
     refine⟨_,w,_,ts,ks,d,E,S0,G,Sw,q,bF,upd D (X.m0+i) .stop,τ,hr,⟨h.base.quiet h.base.qw rfl (TJ _ _ _ _ _) (by simp) fun j h0 h1=>by rw[iK<|by omega],⟨a,by rw[iK<|by omega];exact ha,hm⟩,fun i' k' dV=>?_,fun j h0 h1=>by rw[aFl _ _<|by omega];exact h.old j h0 h1,h.sK,h.over,fun a' i0 v bs ha' hb he=>?_,h.pay,h.none,h.yE⟩,.inr ⟨rfl,by simp,.inl ⟨X.m0+i,aK,?_,fun j hj=>aFl _ _ hj⟩⟩,fun _=>rfl⟩
     ·by_cases e:i'=i
      ·subst e;rw[hk]at dV;cases dV;exact⟨_,by rw[um aK],by rw[aFj];exact .parked hW⟩
      ·obtain⟨y,hy,hs⟩:=h.work i' k' dV;exact⟨y,by rw[iK<|by omega];exact hy,by rw[aFl _ _<|by omega];exact hs⟩
     ·rw[iK<|by omega]at ha';obtain⟨y,hy,hr⟩:=h.pair a' i0 v bs ha' hb he;have e:i0≠i:=fun e=>Et a' v bs ha' hb<|e▸he;exact⟨y,by rw[iK<|by omega];exact hy,hr⟩
     ·rw[aFj,hD];exact T.aiz
    cases hm with
    |run hM=>
     have hs:=Ep hM fun S g w x=>x.running;exact aiG (fun a' ha'=>by rw[ha]at ha';cases ha';exact aFn (by rw[hs];simp) _ _) (fun a' v bs ha' hb=>by rw[ha]at ha';cases ha';rw[hs]at hb;cases hb)
    | @parked i0 v k' z sh' _ ga _ bs has hd dV hn=>
      by_cases e:i0=i
      ·subst e;rw[hk]at dV;cases dV;subst has hd;have hp:partners (gs.setIfInBounds (X.m0+i0) ph) (X.ch k) true=[(0,0)]:=by
        have:=partners_one (gs:=gs.setIfInBounds (X.m0+i0) ph) (r:=X.ch k) (send:=true) (j:=0) (g:=Go.Conc.parked ga #[scase (X.ch k) v z] sh') (by rw[iK<|by omega];exact ha) (fun j y hj hy=>by
         rcases aGk gs _ j y hy with⟨_,rfl⟩|⟨_,hy⟩
         ·rfl
         ·rcases h.base.FX hy with rfl|⟨h1,h2⟩|⟨i',k',rfl,dV⟩
          ·exact absurd rfl hj
          ·rcases(h.base.old j y h1 h2 hy).status with hs|hs<;>exact aFn (by rw[hs];simp) _ _
          ·obtain⟨y',KZ,hs⟩:=h.work i' k' dV;rw[hy]at KZ;cases KZ;rcases hs.status F with hs|⟨g0,z0,z1,sh,rfl,_⟩
           ·exact aFn (by rw[hs];simp) _ _
           ·refine offersAt_parked_sends (fun cc qK=>?_) _;simp only[bV.cs,uo,jZ,qh,qi]at qK;rcases qK with rfl|rfl<;>rfl)
        rw[this,aGe,if_pos rfl];rfl
       have hr:=crowd_sel_recv_meets (P:=X.P) (sl:=sl) (i:=X.m0+i0) (j:=0) (w:=w) (w₁:=w) (k:=0) (c:=X.ch k) (z:=z0) hg (by rw[o9];exact jT) (by simp[bV.cs]) (fun m c' hm zK=>by
        match m,hm,zK with
        |0,hm,_=>exact absurd rfl hm
        |1,_,zK=>simp[bV.cs]at zK;subst zK;exact aGl ho AY
        |m+2,_,zK=>simp[bV.cs]at zK) hc (by omega) ha hp
       have oz:X.ch k<w.heap.size:=h.base.mem.low _<|.inr<|.inr<|.inr ⟨k,pW,rfl⟩;obtain⟨D1,iZ,hI⟩:=h.met hk hW hn (gs1:=(gs.setIfInBounds 0<|ga.finishComm X.P #[scase (X.ch k) v z] sh' 0 ai false).setIfInBounds (X.m0+i0)<|g.finishComm X.P (X.cs k z0 z1) sh 0 v true) (by simp)
        (by rw[iK<|by omega,um<|by omega]) (by rw[um<|by simpa using aK]) (fun j h0 h1=>by rw[iK<|Ne.s h1,iK<|Ne.s h0])
        (u:=MemOp.ofEvents (X.m0+i0) g.frame.fn g.frame.place #[]++ #[{g:=0,fn:=ga.frame.fn,pos:=ga.frame.place,act:=.send (X.ch k) s},{g:=X.m0+i0,fn:=g.frame.fn,pos:=g.frame.place,act:=.recv (X.ch k) r 0},
          {g:=0,fn:=ga.frame.fn,pos:=ga.frame.place,act:=.sendDone (X.ch k) s},{g:=X.m0+i0,fn:=g.frame.fn,pos:=g.frame.place,act:=.recvDone (X.ch k) r}]) (by
          intro op aP;rcases Jv.1 aP with aP|aP
          ·exact TJ _ _ _ _ _ op aP
          ·simp only[uo,jZ,qh,qi]at aP;rcases aP with rfl|rfl|rfl|rfl<;>exact⟨rfl,oz,by simp,by simp,by simp⟩) (s+1) (r+1)
       refine⟨_,_,_,bs,ks,0,E,S0,G,Sw,q,_,D1,iZ,hr,hI,.inl<|by simp,fun j=>?_⟩;by_cases e:j=i0
       ·subst e;rw[aFj];simp[msgs]
       ·rw[aFl _ _ e];simp[msgs,e]
      ·refine aiG (fun a' ha'=>?_) (fun a' v' bs' ha' hb he=>?_)
       ·rw[ha]at ha';cases ha';rw[aGe,if_neg fun e'=>e<|h.base.iM.2.2.2.2 i0 i k' k dV hk e']
       ·rw[has]at he;simp at he;exact e he.1.1
end
end fU
end
section
namespace fU
open Go Go.Conc Twin
open Go.ConcN (upd upd_same upd_ne)
open Go.ConcR (stA smA)
section
variable{K:Type}{X:bV K}{End:List K->dL->aO->bM->ay->Prop}{o:Option Obj}{t0:Trace}{ts:List rD}{ks:List K}{gs:Array bM}{w w':ay}{t:Trace}{d:Nat}{E:dL}{S0 G:aO}{Sw:Nat->aO}{q:Nat->Nat}{bF:Nat->List aA}{D:Nat->T}{τ:T}
 {sl:Option (Nat×Nat)}
def bV.Base.aiH{dW:Nat->Nat}(h:X.Base t0 ks gs w t d dW E S0 G Sw q){es:Array Event}(hG:jC S0 E w w' es):
 (∀i k,ks[i]? =ae k->bu (Sw i) (X.side k) w w')/\∀b,X.Sp ks b->w'.heap[b]? =w.heap[b]? :=by
 refine⟨fun i k hk=>?_,fun b hb=>hG.still b (h.mem.low b hb) fun z=>(h.mem.sJ b z).2.2.1 hb⟩;have hi:i<ks.length:=(dS.1 hk).1;exact acI hG (fun b hb=>⟨(h.mem.mi i hi b hb).1,(h.mem.mi i hi b hb).2.2.2.2⟩) fun b hb=>⟨(h.mem.uG b<|h.mem.zh i k hk b hb).1,fun z=>(h.mem.sJ b z).2.1<|h.mem.zh i k hk b hb⟩
variable{a:bM}
def bV.Inv1.kQ{Es:List rD}(h:X.Inv1 End o t0 ts ks gs w t d E S0 G Sw q bF D τ){d1:Nat}{E1:dL}{S1 G1:aO}{t1:Trace}{iZ:T}(hb:X.Base t0 ks (gs.setIfInBounds 0 a) w' t1 d1 (fun _=>0) E1 S1 G1 Sw q)
 (xX:∀i,msgs Es i=msgs ts i)(hm:X.Iw End Es ks d1 E1 iZ S1 a w')(hr:a.status=.running)(hK:∀i k,ks[i]? =ae k->bu (Sw i) (X.side k) w w')(hS:∀b,X.Sp ks b->b≠X.Wg->w'.heap[b]? =w.heap[b]?):
 X.Inv1 End o t0 Es ks (gs.setIfInBounds 0 a) w' t1 d1 E1 S1 G1 Sw q bF D iZ:=by
 have pX:=h.base.pos;have aK:0<gs.size:=by rw[h.base.size];omega
 refine⟨hb,⟨a,by rw[um aK],hm⟩,fun i k hk=>?_,h.old,fun κ jL=>?_,?_,fun a' i v bs ha E5 _=>?_,?_,h.none,fun i k hk=>by rw[xX];exact h.yE i k hk⟩
 ·obtain⟨x,hx,hs⟩:=h.work i k hk;exact⟨x,by rw[iK<|by omega];exact hx,hs.rely<|hK i k hk⟩
 ·obtain⟨s,r,hc⟩:=h.sK κ jL;exact⟨s,r,by rw[hS _ (.inr<|.inr<|.inr ⟨κ,jL,rfl⟩) (h.base.iM.2.2.2.1 κ jL).1];exact hc⟩
 ·obtain⟨cap,s,r,hc⟩:=h.over;exact⟨cap,s,r,by rw[hS _ (.inr<|.inr<|.inl rfl)<|Ne.s h.base.iM.2.1];exact hc⟩
 ·rw[um aK]at ha;cases ha;rw[hr]at E5;cases E5
 ·rw[hS _ (.inr<|.inl rfl)<|Ne.s h.base.iM.1];exact h.pay
def bV.Inv1.acO(F:X.Fit)(h:X.Inv1 End o t0 ts ks gs w t d E S0 G Sw q bF D τ)(ha:gs[0]? =ae a)(iy:a.status=.running):
 X.TD End o t0 ts gs w sl t bF D τ 0\/(ts=[]/\d=0/\∀w1,bu S0 E w w1->End ks E S0 a w1):=by
 have pX:=h.base.pos;have aK:0<gs.size:=by rw[h.base.size];omega
 obtain⟨a',ha',hm⟩:=h.main;rw[ha]at ha';cases ha';generalize BC:τ=σ at hm;cases hm with
 |parked _ _ _ _=>simp[Go.Conc.parked]at iy
 | @run σ _ _ _ hT=>
   cases σ with
   |step f=>
    left;obtain⟨a',w2,es,hgo,hG,Ce⟩:=hT.2 w<|bu.refl _ _ _;obtain⟨kW,kS⟩:=h.base.aiH hG;have dF:=h.still (w':=w2) F (fun κ jL=>let ⟨s,r,hc⟩:=h.sK κ jL;⟨s,r,by rw[kS _<|.inr<|.inr<|.inr ⟨κ,jL,rfl⟩];exact hc⟩) (let ⟨cap,s,r,hc⟩:=h.over;⟨cap,s,r,by rw[kS _<|.inr<|.inr<|.inl rfl];exact hc⟩) a a';have hr:=aFz (P:=X.P) (sl:=sl) (i:=0) ha hgo;rw[dF]at hr;have VO:a'.status=.running:=Ep Ce fun S g w x=>x.running;refine⟨_,w2,_,ts,ks,d,E,_,G,Sw,q,bF,D,(f w).more,hr,h.kQ (h.base.step0 hG (by simp) fun j h0 h1=>by rw[iK<|by omega]) (fun _=>rfl) (.run Ce) VO kW fun b hb _=>kS b hb,.inr ⟨rfl,by simp,.inr ⟨rfl,?_⟩⟩,fun _=>rfl⟩;exact T.TA<|.mk f w
   |stop=>
    have hS:=hT w<|bu.refl _ _ _;cases ts with
    |nil=>exact .inr ⟨rfl,hS.1,fun w1 k=>(hT w1 k).2.2⟩
    |cons td bs=>
     left;cases td with
     |iw=>
      obtain⟨_,a',w2,es,hgo,hA,eX,hR⟩:=hS;have kW:∀i k,ks[i]? =ae k->bu (Sw i) (X.side k) w w2:=fun i k hk=>by
       obtain⟨_,_,n1,n2⟩:=h.base.TG (b:=X.Wg)<|.inl rfl;exact⟨hA.tape,hA.os,hA.output,CQ hA.size.s,fun b hb=>hA.block b fun e=>n1 i (dS.1 hk).1<|e▸hb,fun b hb=>hA.block b fun e=>n2 i k hk<|e▸hb⟩
      have kS:∀b,X.Sp ks b->b≠X.Wg->w2.heap[b]? =w.heap[b]? :=fun b _ hb=>hA.block b hb;obtain⟨iZ,TK⟩:=JU hR;have dF:=h.still (w':=w2) F (fun κ jL=>let ⟨s,r,hc⟩:=h.sK κ jL;⟨s,r,by rw[kS _ (.inr<|.inr<|.inr ⟨κ,jL,rfl⟩) (h.base.iM.2.2.2.1 κ jL).1];exact hc⟩) (let ⟨cap,s,r,hc⟩:=h.over;⟨cap,s,r,by rw[kS _ (.inr<|.inr<|.inl rfl)<|Ne.s h.base.iM.2.1];exact hc⟩) a a';have hr:=aFz (P:=X.P) (sl:=sl) (i:=0) ha hgo;rw[dF]at hr;exact⟨_,w2,_,bs,ks,_,E,S0,G,Sw,q,bF,D,iZ.more,hr,h.kQ (h.base.iw (acJ h.base.qw hA) hA.size eX (by simp) fun j h0 h1=>by rw[iK<|by omega]) (fun _=>rfl) (.run TK) (Ep TK fun S g w x=>x.running) kW kS,.inl<|by simp,fun _=>rfl⟩
     |go=>
      obtain⟨rfl,_,a',child,k,Sk,E1,S1,hgo,hC,p1,p2,p3,p4,p5,p6,p7,p8,p9,Oj,Ol,hR⟩:=hS;obtain⟨σ,hσ⟩:=JU hC;obtain⟨iZ,TK⟩:=JU hR;have hr:=runT_crowd_spawn (P:=X.P) (sl:=sl) (i:=0) ha hgo;have aAF:(((MemOp.ofEvents 0 a.frame.fn a.frame.place #[]).push {g:=0,fn:=a.frame.fn,pos:=a.frame.place,act:=.go gs.size}).push {g:=gs.size,fn:=child.frame.fn,pos:=a.frame.place,act:=.start})=#[({g:=0,fn:=a.frame.fn,pos:=a.frame.place,act:=.go gs.size}:MemOp),{g:=gs.size,fn:=child.frame.fn,pos:=a.frame.place,act:=.start}]:=by
       rw[aGz];simp
      rw[aAF]at hr;have Dk:upd (fun _=>0) ks.length 0=(fun _=>0:Nat->Nat):=by funext x;unfold upd;split<;>rfl
      have Ji:=h.base.spawn (child:=child) (g':=a') (fn:=a.frame.fn) (fn':=child.frame.fn) (pos:=a.frame.place) (pos':=a.frame.place) p1 p2 p3 p4 p5 p6 p7 p8 p9;rw[Dk]at Ji;have fP:=h.base.size;have N8:∀j x,(ks++[k])[j]? =ae x->ks[j]? =ae x\/(j=ks.length/\x=k):=by
       intro j x hj;rcases FB j ks.length with hl|hl
       ·rw[vg hl]at hj;exact .inl hj
       ·rw[yj hl]at hj;cases e:j-ks.length with
        |zero=>rw[e]at hj;simp at hj;exact .inr ⟨by omega,hj.s⟩
        |succ n=>rw[e]at hj;simp at hj
      refine⟨_,w,_,bs,ks++[k],0,E1,S1,_,_,q,bF,upd D gs.size σ.more,iZ.more,hr,⟨Ji,⟨a',by rw[RG,if_neg (by simp<;>omega),um aK],.run TK⟩,fun i x hi=>?_,fun j h0 h1=>by rw[aFl _ _<|by omega];exact h.old j h0 h1,fun κ jL=>?_,h.over,fun a2 i v bs2 ha2 sV _=>?_,h.pay,fun i hi=>h.none i (by simp at hi;omega),fun i x hi=>?_⟩,.inl<|by simp,fun _=>rfl⟩
      ·rcases N8 i x hi with hi|⟨rfl,rfl⟩
       ·have l9:=(dS.1 hi).1;obtain⟨y,hy,hs⟩:=h.work i x hi;refine⟨y,by rw[RG,if_neg (by simp<;>omega),iK<|by omega];exact hy,?_⟩;rw[aFl Sw _<|by omega,aFl D _<|by omega];exact hs
       ·refine⟨child,by rw[RG,if_pos (by simp<;>omega)],?_⟩;rw[aFj,<-fP,aFj,h.none ks.length<|dI _];exact .run hσ
      ·rcases oN.1 jL with jL|jL
       ·exact h.sK κ jL
       ·simp at jL;subst jL;exact Oj
      ·rw[RG,if_neg (by simp<;>omega),um aK]at ha2;cases ha2;have:=Ep TK fun S g w x=>x.running;rw[this]at sV;cases sV
      ·rcases N8 i x hi with hi|⟨rfl,rfl⟩
       ·exact h.yE i x hi
       ·rw[h.none ks.length<|dI _];exact Ol
     |send i v=>
      obtain⟨rfl,_,k,z,X9,hk,hgo,hR⟩:=hS;have pW:=gZ hk;have hi:i<ks.length:=(dS.1 hk).1;obtain⟨s,r,hc⟩:=h.sK k pW;obtain⟨x,hx,hs⟩:=h.work i k hk;have VP:∀j y,j≠X.m0+i->(gs.setIfInBounds 0 ph)[j]? =ae y->offersAt y (X.ch k) false=[]:=by
       intro j y hj hy;rcases aGk gs _ j y hy with⟨_,rfl⟩|⟨dD,hy⟩
       ·rfl
       ·rcases h.base.FX hy with rfl|⟨h1,h2⟩|⟨i',k',rfl,dV⟩
        ·exact absurd rfl dD
        ·rcases(h.base.old j y h1 h2 hy).status with hs|hs<;>exact aFn (by rw[hs];simp) _ _
        ·obtain⟨y',KZ,hs⟩:=h.work i' k' dV;rw[hy]at KZ;cases KZ;rcases hs.status F with hs|⟨g0,z0,z1,sh,rfl,_⟩
         ·exact aFn (by rw[hs];simp) _ _
         ·refine offersAt_parked_off (fun cc qK=>?_) _;simp only[bV.cs,uo,jZ,qh,qi]at qK;rcases qK with rfl|rfl
          ·intro e;simp[rcase]at e;have:=h.base.iM.2.2.2.2 i' i k' k dV hk e;exact hj<|by rw[this]
          ·intro e;simp[rcase]at e;exact(h.base.iM.2.2.2.1 k pW).2.2 e.s
      rcases hs.status F with FO|⟨gw,z0,z1,sh,rfl,hW⟩
      ·
       have hr:=crowd_waits (P:=X.P) (sl:=sl) (i:=0) (w:=w) (w₁:=w) ha hgo (by
        intro cc qK;simp only[uo,jZ,qh,qi]at qK;subst qK;refine ways_send_none hc (by simp)<|partners_nil fun j y hy=>?_;by_cases e:j=X.m0+i
        ·subst e;rw[iK<|by omega,hx]at hy;cases hy;exact aFn (by rw[FO];simp) _ _
        ·exact VP j y e hy)
       refine⟨_,w,_,.send i v::bs,ks,0,E,S0,G,Sw,q,bF,D,.stop,hr,⟨h.base.quiet h.base.qw rfl (TJ _ _ _ _ _) (by simp) fun j h0 h1=>by rw[iK<|by omega],⟨_,by rw[um aK],.parked rfl rfl hk hR⟩,fun i' k' dV=>?_,h.old,h.sK,h.over,fun a2 i2 v2 bs2 _ _ he=>?_,h.pay,h.none,h.yE⟩,.inr ⟨rfl,by simp,.inr ⟨rfl,T.aiz⟩⟩,fun _=>rfl⟩
       ·obtain⟨y,hy,hs⟩:=h.work i' k' dV;exact⟨y,by rw[iK<|by omega];exact hy,hs⟩
       ·simp at he;obtain⟨⟨rfl,_⟩,_⟩:=he;exact⟨x,by rw[iK<|by omega];exact hx,FO⟩
      ·
       have hp:partners (gs.setIfInBounds 0 ph) (X.ch k) false=[(X.m0+i,0)]:=by
        have:=partners_one (gs:=gs.setIfInBounds 0 ph) (r:=X.ch k) (send:=false) (j:=X.m0+i) (by rw[iK<|by omega];exact hx) fun j y hj hy=>VP j y hj hy;rw[this,offersAt_parked_at (k:=0) (z:=z0) (by simp[bV.cs]) (fun m cc hm qK=>by
         match m,hm,qK with
         |0,hm,_=>exact absurd rfl hm
         |1,_,qK=>
          simp[bV.cs]at qK;subst qK;intro e;simp[rcase]at e;exact(h.base.iM.2.2.2.1 k pW).2.2 e.s
         |m+2,_,qK=>simp[bV.cs]at qK)]
        rfl
       have hr:=crowd_send_meets_sel (P:=X.P) (sl:=sl) (i:=0) (j:=X.m0+i) (w:=w) (w₁:=w) (k:=0) (zj:=z0) ha hgo hc (by omega) hx (by simp[bV.cs]) hp;have oz:X.ch k<w.heap.size:=h.base.mem.low _<|.inr<|.inr<|.inr ⟨k,pW,rfl⟩;have l9:X.m0+i<gs.size:=by rw[h.base.size];omega
       obtain⟨D1,iZ,hI⟩:=h.met hk hW hR (gs1:=(gs.setIfInBounds (X.m0+i)<|gw.finishComm X.P (X.cs k z0 z1) sh 0 v true).setIfInBounds 0<|a.finishComm X.P #[scase (X.ch k) v z] X9 0 ai false) (by simp)
        (by rw[um<|by simpa using aK]) (by rw[iK<|by omega,um l9]) (fun j h0 h1=>by rw[iK<|Ne.s h0,iK<|Ne.s h1])
        (u:=MemOp.ofEvents 0 a.frame.fn a.frame.place #[]++ #[{g:=0,fn:=a.frame.fn,pos:=a.frame.place,act:=.send (X.ch k) s},{g:=X.m0+i,fn:=gw.frame.fn,pos:=gw.frame.place,act:=.recv (X.ch k) r 0},
          {g:=0,fn:=a.frame.fn,pos:=a.frame.place,act:=.sendDone (X.ch k) s},{g:=X.m0+i,fn:=gw.frame.fn,pos:=gw.frame.place,act:=.recvDone (X.ch k) r}]) (by
          intro op aP;rcases Jv.1 aP with aP|aP
          ·exact TJ _ _ _ _ _ op aP
          ·simp only[uo,jZ,qh,qi]at aP;rcases aP with rfl|rfl|rfl|rfl<;>exact⟨rfl,oz,by simp,by simp,by simp⟩) (s+1) (r+1)
       refine⟨_,_,_,bs,ks,0,E,S0,G,Sw,q,_,D1,iZ,hr,hI,.inl<|by simp,fun j=>?_⟩;by_cases e:j=i
       ·subst e;rw[aFj];simp[msgs]
       ·rw[aFl _ _ e];simp[msgs,e]
def bV.Inv1.acP(F:X.Fit)(h:X.Inv1 End o t0 ts ks gs w t d E S0 G Sw q bF D τ){i:Nat}{g:bM}(h0:0<i)(hi:i<X.m0)(hg:gs[i]? =ae g)(iy:g.status=.running):X.TD End o t0 ts gs w sl t bF D τ i:=by
 have hq:=h.base.old i g h0 hi hg;have aK:i<gs.size:=(jF.1 hg).1;have o9:(i==0)=false:=by simp<;>omega
 cases vU:q i with
 |zero=>rw[vU]at hq;rw[hq.1]at iy;cases iy
 |succ n=>
  rw[vU]at hq;rcases hq with⟨hf,_⟩|⟨_,g',es,hm,dF,qH⟩
  ·rw[hf]at iy;cases iy
  have hr:=aFz (P:=X.P) (sl:=sl) (i:=i) hg (by rw[o9];exact dF w);have hb:=h.base.leave (fn:=g.frame.fn) (pos:=g.frame.place) h0 hi hm qH g g' w;have dF:=h.still (w':=w) F h.sK h.over g g';rw[dF]at hr hb;refine⟨_,w,_,ts,ks,d,E,S0,G,Sw,upd q i n,bF,upd D i<|T.nat n,τ,hr,⟨hb,?_,fun i' k' dV=>?_,fun j j0 j1=>?_,h.sK,h.over,fun a i' v bs ha' jw he=>?_,h.pay,h.none,h.yE⟩,.inr ⟨rfl,by simp,.inl ⟨i,aK,?_,fun j hj=>aFl _ _ hj⟩⟩,fun _=>rfl⟩
  ·obtain⟨a,ha,hm⟩:=h.main;exact⟨a,by rw[iK<|by omega];exact ha,hm⟩
  ·obtain⟨y,hy,hs⟩:=h.work i' k' dV;exact⟨y,by rw[iK<|by omega];exact hy,by rw[aFl D _<|by omega];exact hs⟩
  ·by_cases e:j=i
   ·subst e;rw[aFj,aFj]
   ·rw[aFl D _ e,aFl q _ e];exact h.old j j0 j1
  ·rw[iK<|by omega]at ha';obtain⟨y,hy,hr⟩:=h.pair a i' v bs ha' jw he;exact⟨y,by rw[iK<|by omega];exact hy,hr⟩
  ·rw[aFj,h.old i h0 hi,vU];exact T.JS n
def bV.Inv1.awake(F:X.Fit)(h:X.Inv1 End o t0 ts ks gs w t d E S0 G Sw q bF D τ):∀g∈gs,awake g:=by
 intro g hg;obtain⟨j,hj⟩:=anD.1 hg;rcases h.base.FX hj with rfl|⟨h1,h2⟩|⟨i,k,rfl,hk⟩
 ·obtain⟨a,ha,hm⟩:=h.main;rw[hj]at ha;cases ha;rcases hm.status with hs|⟨_,_,_,_,_,_,_,rfl,_⟩
  ·exact aFG<|.inl hs
  ·exact aFG<|.inr<|.inl rfl
 ·exact aFG<|(h.base.old j g h1 h2 hj).status.e .inl fun x=>.inr<|.inr x
 ·obtain⟨y,hy,hs⟩:=h.work i k hk;rw[hj]at hy;cases hy;rcases hs.status F with hs|⟨_,_,_,_,rfl,_⟩
  ·exact aFG<|.inl hs
  ·exact aFG<|.inr<|.inl rfl
def bV.Inv1.acQ(h:X.Inv1 End o t0 ts ks gs w t d E S0 G Sw q bF D τ):∃(i:Nat) (g:bM),gs[i]? =ae g/\g.status=.running:=by
 obtain⟨a,ha,hm⟩:=h.main;rcases hm.status with hs|⟨i,v,k,z,sh,g0,bs,rfl,he,hk⟩
 ·exact⟨0,a,ha,hs⟩
 ·obtain⟨g,hg,hr⟩:=h.pair _ i v bs ha rfl he;exact⟨_,g,hg,hr⟩
def bV.asG(F:X.Fit):∀(A N:Nat) (D:Nat->T) (τ:T) {ts:List rD} {ks:List K} {gs:Array bM} {w:ay} {sl:Option (Nat×Nat)} {t:Trace} {d:Nat} {E:dL} {S0 G:aO} {Sw:Nat->aO} {q:Nat->Nat} {bF:Nat->List aA},ts.length=A->gs.size=N->X.Inv1 End o t0 ts ks gs w t d E S0 G Sw q bF D τ->
 ∃M gs1 w1 lu t1 dd mV zi E1 S1 G1 wG q1 Aj D1 iZ a,runNT X.P M (crowd gs w sl) t=(.next<|crowd gs1 w1 lu,t1)/\stepT X.P (crowd gs1 w1 lu)=runT X.P (crowd gs1 (w1.at dd) mV) 0/\X.Inv1 End o t0 [] zi gs1 (w1.at dd) t1 0 E1 S1 G1 wG q1 Aj D1 iZ/\gs1[0]? =ae a/\a.status=.running/\End zi E1 S1 a (w1.at dd)/\∀i,Aj i=bF i++msgs ts i:=by
 refine asz ?_;intro A N D τ MM ihV MN ts ks gs w sl t d E S0 G Sw q bF hA hN h;obtain⟨i,g,dd,sl',hi,hg,dF⟩:=aGs (P:=X.P) (w:=w) (sl:=sl) (h.awake F) h.acQ;have h':=h.at dd;have key:X.TD End o t0 ts gs (w.at dd) sl' t bF D τ i->∃M gs1 w1 lu t1 dd mV zi E1 S1 G1 wG q1 Aj D1 iZ a,runNT X.P M (crowd gs w sl) t=(.next<|crowd gs1 w1 lu,t1)/\stepT X.P (crowd gs1 w1 lu)=runT X.P (crowd gs1 (w1.at dd) mV) 0/\X.Inv1 End o t0 [] zi gs1 (w1.at dd) t1 0 E1 S1 G1 wG q1 Aj D1 iZ/\gs1[0]? =ae a/\a.status=.running/\End zi E1 S1 a (w1.at dd)/\∀i,Aj i=bF i++msgs ts i:=by
  rintro⟨gs1,w1,ops,Es,zi,d1,E1,S1,G1,wG,q1,Aj,D1,iZ,hr,hI,aK,aaW⟩;have fin:(∃M nV w2 mV t2 TL VQ Ya E2 S2 G2 MR q2 Yb D2 Eu a,runNT X.P M (crowd gs1 w1 sl') (t++ops)=(.next<|crowd nV w2 mV,t2)/\stepT X.P (crowd nV w2 mV)=runT X.P (crowd nV (w2.at TL) VQ) 0/\X.Inv1 End o t0 [] Ya nV (w2.at TL) t2 0 E2 S2 G2 MR q2 Yb D2 Eu/\nV[0]? =ae a/\a.status=.running/\End Ya E2 S2 a (w2.at TL)/\∀i,Yb i=Aj i++msgs Es i)->
   ∃M gs1 w1 lu t1 dd mV zi E1 S1 G1 wG q1 Aj D1 iZ a,runNT X.P M (crowd gs w sl) t=(.next<|crowd gs1 w1 lu,t1)/\stepT X.P (crowd gs1 w1 lu)=runT X.P (crowd gs1 (w1.at dd) mV) 0/\X.Inv1 End o t0 [] zi gs1 (w1.at dd) t1 0 E1 S1 G1 wG q1 Aj D1 iZ/\gs1[0]? =ae a/\a.status=.running/\End zi E1 S1 a (w1.at dd)/\∀i,Aj i=bF i++msgs ts i:=by
   rintro⟨M,nV,w2,mV,t2,TL,VQ,Ya,E2,S2,G2,MR,q2,Yb,D2,Eu,a,r1,r0,r2,r3,r4,r5,r6⟩;refine⟨M+1,nV,w2,mV,t2,TL,VQ,Ya,E2,S2,G2,MR,q2,Yb,D2,Eu,a,?_,r0,r2,r3,r4,r5,fun i=>by rw[r6,aaW]⟩;simp only[runNT,dF,hr];exact r1
  rcases aK with hl|⟨hl,hs,hv|⟨rfl,BC⟩⟩
  ·exact fin<|MM Es.length gs1.size D1 iZ (by omega) (sl:=sl') rfl rfl hI
  ·exact fin<|ihV D1 iZ (hN▸hv) (sl:=sl') (by omega) (by omega) hI
  ·exact fin<|MN iZ BC (sl:=sl') (by omega) (by omega) hI
 rcases h'.base.FX hi with rfl|⟨h1,h2⟩|⟨i,k,rfl,hk⟩
 ·rcases h'.acO (sl:=sl') F hi hg with hn|⟨rfl,rfl,hE⟩
  ·exact key hn
  ·exact⟨0,gs,w,sl,t,dd,sl',ks,E,S0,G,Sw,q,bF,D,τ,g,rfl,dF,h',hi,hg,hE _<|bu.refl _ _ _,fun i=>by simp[msgs]⟩
 ·exact key<|h'.acP F h1 h2 hi hg
 ·exact key<|h'.asE F hk hi hg
end
end fU
end
section
namespace fU
open Go Go.Conc Twin
open Go.ConcN (upd upd_same upd_ne WgLive PayAt Has RW DWs AtR0 AtK1 WSit WD CTag Vc cnt sumTo RelBy)
open Go.ConcR (stA smA rd wr KK WgAt DC0 Payload)
section
variable [Payload]
def Dl:Nat->Loc->Prop:=fun _ _=>False
variable{K:Type}(X:bV K)(ty:dJ)(n:Nat)
structure bV.BD(i:Nat)(v:aA)(g:bM)(w:ay):Prop where
 run:g.status=.running
 st:WgLive ty X.Wg w->PayAt X.C n w->∃g',bK X.P false g w=.go g' (aX w ⟨X.C,i,af⟩ v) #[⟨.cell ⟨X.C,i,af⟩,true,false⟩]/\
  ∃m,Goes X.P false (RW ty X.Wg X.C n 0 i) DC0 (AtR0 X.P ty X.Wg X.C n 0 (i+1) v) m g'<|w.setCell ⟨X.C,i,af⟩ v
def RL(ty:dJ)(Wg:Nat)(w w1:ay):Prop:=WgLive ty Wg w->WgLive ty Wg w1
variable(dO:bM)(Anch:bM->ay->Prop)
def bV.AtRet(g:bM)(_w:ay):Prop:=g=dO
def bV.AtAcq(g:bM)(w:ay):Prop:=
 g.status=.running/\∃g',bK X.P true g w=.go g' w #[Go.ConcR.mk<|.acquire<|stA X.Wg]/\∃m,Goes X.P true (RL ty X.Wg) DC0 (bV.AtRet dO) m g' w
def bV.AtKe(g:bM)(w:ay):Prop:=
 g.status=.running/\∃g',bK X.P true g w=.go g' w #[Go.ConcR.mk .enable]/\∃m,Goes X.P true (RL ty X.Wg) DC0 (X.AtAcq ty dO) m g' w
def bV.AtW4(g:bM)(w:ay):Prop:=
 g.status=.running/\(WgAt ty X.Wg w 0 0->∃g',bK X.P true g w=.go g' w #[rd<|stA X.Wg]/\∃m,Goes X.P true (RL ty X.Wg) DC0 (X.AtKe ty dO) m g' w)
def bV.AtW3(g:bM)(w:ay):Prop:=
 g.status=.running/\g.offers=af/\((∃st,WgAt ty X.Wg w st 0)->bK X.P true g w=.go {g with status:=.blocked} w #[])/\
  (WgAt ty X.Wg w 0 1->∃g',bK X.P true g w=.go g' (aX w (smA X.Wg)<|.int .u32 0) (semEvents<|smA X.Wg)/\∃m,Goes X.P true (RL ty X.Wg) DC0 (X.AtW4 ty dO) m g'<|w.setCell (smA X.Wg)<|.int .u32 0)
def bV.aiI(g:bM)(w:ay):Prop:=
 g.status=.running/\∃g',bK X.P true g w=.go g' w #[⟨.mark<|.write<|smA X.Wg,false,true⟩]/\∃m,Goes X.P true (RL ty X.Wg) DC0 (X.AtW3 ty dO) m g' w
def bV.AtW2(vs:Nat)(g:bM)(w:ay):Prop:=
 g.status=.running/\∀v:Nat,v<2147483648->WgAt ty X.Wg w (v*KK) 0->
  (v=vs->∃g',bK X.P true g w=.go g' (aX w (stA X.Wg)<|.int .u64<|v*KK+1) #[rd<|stA X.Wg,wr<|stA X.Wg]/\∃m,Goes X.P true (RL ty X.Wg) DC0 (X.aiI ty dO) m g'<|w.setCell (stA X.Wg)<|.int .u64<|v*KK+1)/\
  (v≠vs->∃g',bK X.P true g w=.go g' w #[rd<|stA X.Wg]/\∃m,Goes X.P true (RL ty X.Wg) DC0 Anch m g' w)
def bV.AtW1(g:bM)(w:ay):Prop:=
 g.status=.running/\∀v:Nat,v<2147483648->WgAt ty X.Wg w (v*KK) 0->∃g',bK X.P true g w=.go g' w #[rd<|stA X.Wg]/\
  (v=0->∃m,Goes X.P true (RL ty X.Wg) DC0 (X.AtKe ty dO) m g' w)/\(v≠0->∃m,Goes X.P true (RL ty X.Wg) DC0 (X.AtW2 ty dO Anch v) m g' w)
def bV.AtKd(g:bM)(w:ay):Prop:=
 g.status=.running/\(WgLive ty X.Wg w->∃g',bK X.P true g w=.go g' w #[Go.ConcR.mk .disable]/\∃m,Goes X.P true (RL ty X.Wg) DC0 Anch m g' w)
inductive jE where
 |pre|anch|w1|w2 (vs:Nat)|wr|w3|blk|w4|ke|acq|ret
def jE.c:jE->CTag
 | .pre=>.kd
 | .anch=>.anch
 | .w1=>.w1
 | .w2 vs=>.w2 vs
 | .wr=>.w3
 | .w3=>.w3
 | .blk=>.blk
 | .w4=>.w4
 | .ke=>.ke
 | .acq=>.acq
 | .ret=>.ret
def jE.phi(n v:Nat):jE->Nat
 | .pre=>8*n+7
 | .anch=>8*v+6
 | .w1=>8*v+5
 | .w2 vs=>8*vs+4
 | .wr=>6
 | .w3=>5
 | .blk=>5
 | .w4=>4
 | .ke=>3
 | .acq=>2
 | .ret=>1
def jE.deaf:jE->Nat
 | .pre| .acq| .ret=>0
 |_=>1
inductive bV.wH:jE->Nat->bM->ay->Prop where
 |anch {m g w} (h:Goes X.P true (RL ty X.Wg) DC0 Anch m g w):wH .anch m g w
 |w1 {m g w} (h:Goes X.P true (RL ty X.Wg) DC0 (X.AtW1 ty dO Anch) m g w):wH .w1 m g w
 |w2 {m g w vs} (h:Goes X.P true (RL ty X.Wg) DC0 (X.AtW2 ty dO Anch vs) m g w):wH (.w2 vs) m g w
 |wr {m g w} (h:Goes X.P true (RL ty X.Wg) DC0 (X.aiI ty dO) m g w):wH .wr m g w
 |w3 {m g w} (h:Goes X.P true (RL ty X.Wg) DC0 (X.AtW3 ty dO) m g w):wH .w3 (m+1) g w
 |blk {g w} (h:∀w1,RL ty X.Wg w w1->X.AtW3 ty dO g w1):wH .blk 0 {g with status:=.blocked} w
 |w4 {m g w} (h:Goes X.P true (RL ty X.Wg) DC0 (X.AtW4 ty dO) m g w):wH .w4 m g w
 |ke {m g w} (h:Goes X.P true (RL ty X.Wg) DC0 (X.AtKe ty dO) m g w):wH .ke m g w
 |acq {m g w} (h:Goes X.P true (RL ty X.Wg) DC0 (X.AtAcq ty dO) m g w):wH .acq m g w
 |ret {m g w} (h:Goes X.P true (RL ty X.Wg) DC0 (bV.AtRet dO) m g w):wH .ret m g w
variable(Mid:aO->ay->Prop)
inductive bV.Dn(E:dL)(S0:aO):jE->T->bM->ay->Prop where
 |pre {τ g w} (h:Dj X.P true E (fun S g w=>X.AtKd ty Anch g w/\Mid S w) τ S0 g w):Dn E S0 .pre τ.more g w
 |iw {tag f g w} (h:X.wH ty dO Anch tag f g w) (hm:∀w1,bu S0 E w w1->Mid S0 w1):Dn E S0 tag (T.nat f) g w
variable(dH:K->List aA->aA->aO->ay->Prop)
inductive bV.zk(i:Nat)(k:K)(l:List aA)(S:aO):Nat->T->Nat->bM->ay->Prop where
 |run {τ g w} (h:Dj X.P false (X.side k) (X.Iq k l) τ S g w):zk i k l S 9 τ.more 0 g w
 |MS {g z0 z1 sh w} (h:X.tV k l S g z0 z1 sh w):zk i k l S 9 T.stop.more 0 {Go.Conc.parked g (X.cs k z0 z1) sh with status:=.running} w
 |fin {τ g w} (h:Dj X.P false (X.side k) (X.Fin k l) τ S g w):zk i k l S 8 τ.more 0 g w
 |done {v m g w} (h:Goes X.P false (RW ty X.Wg X.C n 0 i) DC0 (AtR0 X.P ty X.Wg X.C n 0 (i+1) v) m g w) (hr:dH k l v S w):zk i k l S 7 (T.nat m) 0 g w
 |iw {v s m dd g w} (h:WSit X.P ty X.Wg X.C n Dl Dl 0 (i+1) v s m dd g w) (h6:s<=6) (hr:dH k l v S w) (hh:Has X.C i v w):zk i k l S s (T.nat m) dd g w
structure wI(Wg:Nat)(t:Trace)(k r:Nat):Prop where
 rel:RelBy (stA Wg) t k r
 a:∀i,r<i->t.g? i=ae k->∀a,touchAt t i=ae a->(∃ad,a.loc=.cell ad/\ad.block=Wg)/\a.kind=.atomic
def FY(B Wg m0 n:Nat)(t:Trace):Prop:=
 ∃q,t.act? q=ae (.mark<|.acquire<|stA Wg)/\t.g? q=ae 0/\t.heard q/\∀i,i<n->∃r,wI Wg t (m0+i) r/\r<q/\B<=r
def gJ(st:Nat->Nat):Nat->WD:=fun i=>⟨min (st i) 7,0,0⟩
structure bV.Inv2(t0:Trace)(ks:List K)(gs:Array bM)(w:ay)(t:Trace)(tag:jE)(dW:Nat->Nat)(E:dL)(S0 G:aO)(Sw:Nat->aO)(q:Nat->Nat)(bF:Nat->List aA)(st:Nat->Nat)(D:Nat->T)(τ:T):Prop where
 base:X.Base t0 ks gs w t tag.deaf dW E S0 G Sw q
 len:ks.length=n
 MW:¬E.ro X.Wg
 main:∃a,gs[0]? =ae a/\X.Dn ty dO Anch Mid E S0 tag τ a w
 work:∀(i:Nat) (k:K),ks[i]? =ae k->∃g,gs[X.m0+i]? =ae g/\X.zk ty n dH i k (bF i) (Sw i) (st i) (D<|X.m0+i) (dW i) g w
 old:∀i,0<i->i<X.m0->D i=T.nat (q i)
 sK:∀k∈ks,∃s r,w.heap[X.ch k]? =ae (.chan 0 #[] false s r false)
 over:∃cap s r,w.heap[X.ov]? =ae (.chan cap #[] true s r false)
 wg:∃a b,WgAt ty X.Wg w a b/\Go.ConcN.Mode n (gJ st) tag.c a b
 pay:PayAt X.C n w
 rel:∀i,i<n->st i<=6->∃r,wI X.Wg t (X.m0+i) r/\t0.size<=r
 acq:tag=.ret->FY t0.size X.Wg X.m0 n t
end
section
variable{K:Type}{X:bV K}{ty:dJ}{n:Nat}{dO:bM}{Anch:bM->ay->Prop}{Mid:aO->ay->Prop}{dH:K->List aA->aA->aO->ay->Prop}{E:dL}{S0 S:aO}{tag:jE}{τ:T}{g a a':bM}{w w1:ay}{f:Nat}
theorem RL.t{w2:ay}{Wg:Nat}(h:RL ty Wg w w1)(k:RL ty Wg w1 w2):RL ty Wg w w2:=k∘h
theorem Iy(Wg:Nat):∀a b c:ay,RL ty Wg a b->RL ty Wg b c->RL ty Wg a c:=fun _ _ _ h k=>k∘h
theorem bV.wH.rely(h:X.wH ty dO Anch tag f g w)(hr:RL ty X.Wg w w1):X.wH ty dO Anch tag f g w1:=by
 cases h with
 |anch h=>exact .anch<|aFK (Iy X.Wg) h hr
 |w1 h=>exact .w1<|aFK (Iy X.Wg) h hr
 |w2 h=>exact .w2<|aFK (Iy X.Wg) h hr
 |wr h=>exact .wr<|aFK (Iy X.Wg) h hr
 |w3 h=>exact .w3<|aFK (Iy X.Wg) h hr
 |blk h=>exact .blk fun w2 k=>h w2<|hr.t k
 |w4 h=>exact .w4<|aFK (Iy X.Wg) h hr
 |ke h=>exact .ke<|aFK (Iy X.Wg) h hr
 |acq h=>exact .acq<|aFK (Iy X.Wg) h hr
 |ret h=>exact .ret<|aFK (Iy X.Wg) h hr
theorem bV.wH.status(hA:∀g w,Anch g w->g.status=.running)(hE:dO.status=.running)(h:X.wH ty dO Anch tag f g w):(g.status=.running/\tag≠.blk)\/(tag=.blk/\∃g0:bM,g={g0 with status:=.blocked}/\g0.status=.running/\g0.offers=af):=by
 have refl:RL ty X.Wg w w:=id;cases h with
 |anch h=>exact .inl ⟨aFI hA w refl h,by simp⟩
 |w1 h=>exact .inl ⟨aFI (fun _ _ x=>x.1) w refl h,by simp⟩
 |w2 h=>exact .inl ⟨aFI (fun _ _ x=>x.1) w refl h,by simp⟩
 |wr h=>exact .inl ⟨aFI (fun _ _ x=>x.1) w refl h,by simp⟩
 |w3 h=>exact .inl ⟨aFI (fun _ _ x=>x.1) w refl h,by simp⟩
 |blk h=>exact .inr ⟨rfl,_,rfl,(h w refl).1,(h w refl).2.1⟩
 |w4 h=>exact .inl ⟨aFI (fun _ _ x=>x.1) w refl h,by simp⟩
 |ke h=>exact .inl ⟨aFI (fun _ _ x=>x.1) w refl h,by simp⟩
 |acq h=>exact .inl ⟨aFI (fun _ _ x=>x.1) w refl h,by simp⟩
 |ret h=>exact .inl ⟨aFI (fun _ _ x=>by rw[show _=dO from x];exact hE) w refl h,by simp⟩
theorem bV.Dn.rely(h:X.Dn ty dO Anch Mid E S0 tag τ g w)(hk:bu S0 E w w1)(hr:RL ty X.Wg w w1):X.Dn ty dO Anch Mid E S0 tag τ g w1:=by
 cases h with
 |pre h=>exact .pre<|h.rely hk
 |iw h hm=>exact .iw (h.rely hr) fun w2 k=>hm w2<|hk.t k
theorem bV.Dn.status(hA:∀g w,Anch g w->g.status=.running)(hE:dO.status=.running)(h:X.Dn ty dO Anch Mid E S0 tag τ g w):(g.status=.running/\tag≠.blk)\/(tag=.blk/\∃g0:bM,g={g0 with status:=.blocked}/\g0.status=.running/\g0.offers=af):=by
 cases h with
 |pre h=>exact .inl ⟨Ep h fun S g w x=>x.1.1,by simp⟩
 |iw h hm=>exact h.status hA hE
theorem bV.Dn.woken(hA:∀g w,Anch g w->g.status=.running)(hE:dO.status=.running)(h:X.Dn ty dO Anch Mid E S0 tag τ g w)(hk:bu S0 E w w1)(hr:RL ty X.Wg w w1)(a a':bM):
 ∃jD oV,X.Dn ty dO Anch Mid E S0 jD oV (Go.Conc.woken X.P a a' w1 g) w1/\((jD=tag/\oV=τ)\/(tag=.blk/\jD=.w3))/\(mayWake X.P a=true->a'.status=.running->jD≠.blk):=by
 rcases h.status hA hE with⟨hs,dD⟩|⟨rfl,g0,rfl,zG,ho⟩
 ·exact⟨tag,τ,by rw[aGw hs];exact h.rely hk hr,.inl ⟨rfl,rfl⟩,fun _ _=>dD⟩
 ·cases h with
  | @iw _ f _ _ h hm=>
    generalize hg:({g0 with status:=.blocked}:bM)=g1 at h;cases h with
    | @blk g2 _ hb=>
      have hag:(({g2 with status:=.blocked}:bM)).again w1=g2:=by
       have VR:=(hb w id).2.1;have DV:=(hb w id).1;obtain⟨fr,cs,stt,dy,off⟩:=g2;simp only at VR DV;subst VR DV;simp[Goroutine.again]
      by_cases hw:(mayWake X.P a&&a'.status != .blocked&&a'.status != .waiting)=true
      ·refine⟨.w3,T.nat 1,?_,.inr ⟨rfl,rfl⟩,fun _ _=>by simp⟩;have:Go.Conc.woken X.P a a' w1 {g2 with status:=.blocked}=g2:=by
        unfold Go.Conc.woken;rw[if_pos hw];exact hag
       rw[this];exact .iw (.w3 (m:=0) fun w2 k=>hb w2<|hr.t k) fun w2 k=>hm w2<|hk.t k
      ·refine⟨.blk,T.nat 0,?_,.inl ⟨rfl,rfl⟩,fun h1 h2=>?_⟩
       ·have:Go.Conc.woken X.P a a' w1 {g2 with status:=.blocked}={g2 with status:=.blocked}:=by
         unfold Go.Conc.woken;rw[if_neg hw]
        rw[this];exact .iw (.blk fun w2 k=>hb w2<|hr.t k) fun w2 k=>hm w2<|hk.t k
       ·simp[h1,h2]at hw
variable [Payload]
variable{i st dd:Nat}{k:K}{l:List aA}
theorem bV.zk.rely(hR:∀k l v S w w1,dH k l v S w->bu S (X.side k) w w1->dH k l v S w1)(h:X.zk ty n dH i k l S st τ dd g w)(hk:bu S (X.side k) w w1)(hw:RW ty X.Wg X.C n 0 i w w1):X.zk ty n dH i k l S st τ dd g w1:=by
 cases h with
 |run h=>exact .run<|h.rely hk
 |MS h=>exact .MS<|h.rely hk
 |fin h=>exact .fin<|h.rely hk
 |done h hr=>exact .done (aFK (fun _ _ _ h1 h2=>h1.trans h2) h hw)<|hR _ _ _ _ _ _ hr hk
 |iw h h6 hr hh=>exact .iw (h.rely<|by simpa using hw) h6 (hR _ _ _ _ _ _ hr hk)<|hw.cell.t hh
theorem bV.zk.status(F:X.Fit)(hF:∀S g w,X.Fin k l S g w->g.status=.running)(h:X.zk ty n dH i k l S st τ dd g w):g.status=.running\/(g.status=.finished/\st=1):=by
 cases h with
 |run h=>exact .inl (Ep h fun S g w x=>let ⟨_,_,_,y⟩:=F _ _ _ _ _ x;y.run)
 |MS h=>exact .inl rfl
 |fin h=>exact .inl<|Ep h fun S g w x=>hF S g w x
 |done h hr=>exact .inl<|aFI (fun _ _ x=>x.1) w (aFC w) h
 |iw h h6 hr hh=>
  by_cases e:st=1
  ·exact h.status.imp id fun x=>⟨x,e⟩
  ·exact .inl<|h.running_of e
end
end fU
end
section
namespace fU
open Go Go.Conc Twin
open Go.ConcN (upd upd_same upd_ne WgLive PayAt Has RW DWs AtR0 AtK1 WSit WD CTag Vc cnt sumTo RelBy sumTo_upd sumTo_congr cell_of_block AsideCell)
open Go.ConcR (stA smA rd wr KK WgAt DC0 Payload)
section
variable{K:Type}{X:bV K}{t0:Trace}{ks:List K}{gs gs':Array bM}{w w':ay}{t:Trace}{d:Nat}{dW:Nat->Nat}{E:dL}{S0 G:aO}{Sw:Nat->aO}{q:Nat->Nat}
variable{es:Array Event}{fn:ji}{pos:String}{Wg k r:Nat}{u:Trace}
theorem bV.Base.ev0(h:X.Base t0 ks gs w t d dW E S0 G Sw q)(bT:au.jK X.dB w')(hs:w'.heap.size=w.heap.size)(qJ:∀e∈es,(MemAct.ofEvent e).low w.heap.size/\MemAct.ofEvent e≠.mark (.release<|stA X.Wg)/\∀x,(MemAct.ofEvent e).touch?=ae x->aiy X.Sh (lK X.iQ) (X.O Sw ks.length) (X.Rd ks) x)(fP:gs'.size=gs.size)(hold:∀i,0<i->i<X.m0->gs'[i]? =gs[i]?):
 X.Base t0 ks gs' w' (t++MemOp.ofEvents 0 fn pos es) (deafBehind d es) dW E S0 G Sw q:=by
 obtain⟨m1,m2,m3,m4,m5⟩:=h.more (w':=w') (u:=MemOp.ofEvents 0 fn pos es) (.inl rfl) ofEvents_g (CQ hs.s) (fun op aP=>by obtain⟨e,he,rfl⟩:=aFc aP;rw[hs];exact(qJ e he).1)
  (fun op aP=>by obtain⟨x,hx,rfl⟩:=aFc aP;exact(qJ x hx).2.1)
 refine⟨fP.t h.size,h.pos,fun a g h0 ha hg=>?_,fun a ha=>m4 a<|fP▸ha,by rw[aF1,h.deaf0],fun a ha=>?_,h.mem.size hs,?_,m1,m2,m3,h.iM,bT⟩
 ·rw[m5 a<|by omega];exact h.old a g h0 ha (by rw[<-hold a h0 ha];exact hg)
 ·rw[m5 _ (by have:=h.pos;omega)];exact h.deafW a ha
 ·refine h.ti.app0 (h.mem.cls ⟨h.iM.1,h.iM.2.1,h.iM.2.2.1⟩) ofEvents_g fun op aP x hx=>?_;obtain⟨e,he,rfl⟩:=aFc aP;exact(qJ e he).2.2 x hx
theorem bV.Base.Yc(h:X.Base t0 ks gs w t d dW E S0 G Sw q){i:Nat}(hi:i<ks.length)(bT:au.jK X.dB w')(hs:w'.heap.size=w.heap.size)(qJ:∀e∈es,(MemAct.ofEvent e).low w.heap.size/\MemAct.ofEvent e≠.mark (.release<|stA X.Wg)/\∀x,(MemAct.ofEvent e).touch?=ae x->acH X.Sh (X.O Sw ks.length) (X.Rd ks) (X.m0+i) x)(fP:gs'.size=gs.size)(hold:∀i,0<i->i<X.m0->gs'[i]? =gs[i]?):
 X.Base t0 ks gs' w' (t++MemOp.ofEvents (X.m0+i) fn pos es) d (upd dW i<|deafBehind (dW i) es) E S0 G Sw q:=by
 have pX:=h.pos;obtain⟨m1,m2,m3,m4,m5⟩:=h.more (w':=w') (u:=MemOp.ofEvents (X.m0+i) fn pos es) (.inr ⟨i,hi,rfl⟩) ofEvents_g (CQ hs.s) (fun op aP=>by obtain⟨e,he,rfl⟩:=aFc aP;rw[hs];exact(qJ e he).1)
  (fun op aP=>by obtain⟨x,hx,rfl⟩:=aFc aP;exact(qJ x hx).2.1)
 refine⟨fP.t h.size,h.pos,fun a g h0 ha hg=>?_,fun a ha=>m4 a<|fP▸ha,by rw[m5 0<|by omega];exact h.deaf0,fun a ha=>?_,h.mem.size hs,?_,m1,m2,m3,h.iM,bT⟩
 ·rw[m5 a<|by omega];exact h.old a g h0 ha (by rw[<-hold a h0 ha];exact hg)
 ·by_cases e:a=i
  ·subst e;rw[aF1,h.deafW a ha,aFj]
  ·rw[m5 _<|by omega,aFl _ _ e];exact h.deafW a ha
 ·refine h.ti.appW (h.mem.cls ⟨h.iM.1,h.iM.2.1,h.iM.2.2.1⟩) (by omega) ⟨.cell ⟨X.C,i,af⟩,i,hi,rfl,.inr rfl⟩ ofEvents_g fun op aP x hx=>?_;obtain⟨e,he,rfl⟩:=aFc aP;exact(qJ e he).2.2 x hx
theorem wI.appOther{x:Nat}(h:wI Wg t k r)(hu:∀op∈u,op.g=x)(hx:x≠k):wI Wg (t++u) k r:=by
 refine⟨h.rel.appOther hu hx,fun i hi hg a ha=>?_⟩;obtain⟨op,aP,hog⟩:=zY.1 hg;rcases aFt aP with⟨aK,_⟩|⟨_,zO⟩
 ·exact h.a i hi (by rw[<-g?_old (u:=u) aK];exact hg) a (by rw[<-touchAt_old (u:=u) aK];exact ha)
 ·rw[hu op zO]at hog;exact absurd hog hx
theorem RelBy.xu{a:Addr}(h:RelBy a t k r)(hu:∀op∈u,op.act.touch?=af):RelBy a (t++u) k r:=by
 refine h.app fun i hi _ hc=>?_;obtain⟨x,hx,_⟩:=hc;have:=Ip hu hx;obtain⟨op,aP,_⟩:=aFT this;exact absurd (aFZ aP)<|by omega
theorem wI.xu(h:wI Wg t k r)(hu:∀op∈u,op.act.touch?=af):wI Wg (t++u) k r:=by
 refine⟨RelBy.xu h.rel hu,fun i hi hg a ha=>?_⟩;have ha':=Ip hu ha;obtain⟨op,aP,_⟩:=aFT ha';have aK:=aFZ aP;exact h.a i hi (by rw[<-g?_old (u:=u) aK];exact hg) a ha'
theorem wI.book{dd:Nat}(h:wI Wg t k r)(VS:Deaf t k=dd)(fn:ji)(pos:String)(qJ:∀e∈es,Go.ConcR.Bk Wg e)
 (hd:∀j e,es[j]? =ae e->(MemAct.ofEvent e).touch?=af\/0<deafBehind dd (es.extract 0 j)):wI Wg (t++MemOp.ofEvents k fn pos es) k r:=by
 refine⟨h.rel.book VS fn pos qJ hd,fun i hi hg a ha=>?_⟩;obtain⟨op,aP,wW⟩:=aFT ha;rcases aFt aP with⟨aK,_⟩|⟨_,zO⟩
 ·exact h.a i hi (by rw[<-g?_old (u:=MemOp.ofEvents k fn pos es) aK];exact hg) a (by rw[<-touchAt_old (u:=MemOp.ofEvents k fn pos es) aK];exact ha)
 ·obtain⟨e,he,rfl⟩:=aFc zO;rcases qJ e he with h1|h1|⟨ad,wr,rfl,Iz⟩
  ·simp only[aGt h1]at wW;cases wW
  ·simp only[aGt h1]at wW;cases wW
  ·simp only[MemAct.ofEvent,MemAct.touch?,gU]at wW;subst wW;exact⟨⟨ad,rfl,Iz⟩,by simp⟩
theorem wI.new(hd:Deaf t k=0)(fn:ji)(pos:String):wI Wg (t++MemOp.ofEvents k fn pos #[Go.ConcR.mk<|.releaseMerge<|stA Wg]) k t.size:=by
 refine⟨RelBy.new hd fn pos,fun i hi _ a ha=>?_⟩;obtain⟨op,aP,_⟩:=aFT ha;have:=aFZ aP;rw[aGz]at this;simp at this;omega
theorem FY.app{B m0 n:Nat}(h:FY B Wg m0 n t)(hu:∀i r,i<n->wI Wg t (m0+i) r->wI Wg (t++u) (m0+i) r):FY B Wg m0 n (t++u):=by
 obtain⟨q,h1,h2,h3,h4⟩:=h;have hq:=lt_of_act? h1;exact⟨q,by rw[act?_old hq];exact h1,by rw[aGC hq];exact h2,(heard_old hq).2 h3,fun i hi=>let ⟨r,hr,Om,hb⟩:=h4 i hi;⟨r,hu i r hi hr,Om,hb⟩⟩
end
section
variable [Payload]{K:Type}{X:bV K}{ty:dJ}{n:Nat}{dO:bM}{Anch:bM->ay->Prop}{Mid:aO->ay->Prop}{dH:K->List aA->aA->aO->ay->Prop}
 {t0:Trace}{ks:List K}{gs gs':Array bM}{w w':ay}{t:Trace}{tag:jE}{dW:Nat->Nat}{E:dL}{S0 G:aO}{Sw:Nat->aO}{q:Nat->Nat}{bF:Nat->List aA}{st:Nat->Nat}{D:Nat->T}{τ:T}{sl:Option (Nat×Nat)}
inductive T.xB:T->T->Prop where
 |one {a b} (h:T.Lt a b):T.xB a b
 |more {a b c} (h:T.Lt a b) (k:T.xB b c):T.xB a c
theorem T.asI{a b:T}(h:T.xB b a):∃c,T.Lt c a/\(b=c\/T.xB b c):=by
 induction h with
 |one h=>exact⟨_,h,.inl rfl⟩
 |more h _ ih=>
  obtain⟨c,hc,VT⟩:=ih;refine⟨c,hc,.inr ?_⟩;rcases VT with rfl|VT
  ·exact .one h
  ·exact .more h VT
theorem T.asJ{x y z:T}(h:T.xB x y)(k:T.Lt y z):T.xB x z:=by
 induction h with
 |one h=>exact .more h<|.one k
 |more h _ ih=>exact .more h<|ih k
theorem T.asK(a:T):Acc T.xB a:=by
 have key:∀a,Acc T.Lt a->∀b,(b=a\/T.xB b a)->Acc T.xB b:=by
  intro a ha;induction ha with
  |intro a _ ih=>
   have below:∀b,T.xB b a->Acc T.xB b:=by
    intro b hb;have:=T.asI hb;obtain⟨c,hc,VT⟩:=this;exact ih c hc b VT
   rintro b (rfl|hb)
   ·exact⟨_,below⟩
   ·exact below b hb
 exact key a (T.acc a) a<|.inl rfl
theorem T.aiJ:∀n,T.xB (T.nat 0) (T.nat<|n+1)
 |0=>.one<|T.JS 0
 |n+1=>T.asJ (T.aiJ n)<|T.JS<|n+1
theorem asL{motive:Nat->(Nat->T)->T->Prop}(N:Nat)
 (h:∀A D τ,(∀A' D' oV,A'<A->motive A' D' oV)->(∀D' oV,Eo N D' D->motive A D' oV)->(∀oV,T.xB oV τ->motive A D oV)->motive A D τ):∀A D τ,motive A D τ:=by
 intro A;induction A using Nat.strongRecOn with
 |ind A MM=>
  intro D;refine(Eo.wf N).induction (C:=fun D=>∀τ,motive A D τ) D ?_;intro D TB τ
  have:=T.asK τ
  induction this with
  |intro τ _ MN=>exact h A D τ (fun A' D' oV aK=>MM A' aK D' oV) (fun D' oV hv=>TB D' hv oV) MN
def vI(n:Nat)(tag:jE)(st:Nat->Nat):Nat:=tag.phi n (Vc n<|gJ st)+sumTo n st
variable(X ty n dO Anch Mid dH t0 ks bF)in
def bV.yF(gs:Array bM)(w:ay)(sl:Option (Nat×Nat))(t:Trace)(tag:jE)(st:Nat->Nat)(D:Nat->T)(τ:T)(x:Nat):Prop:=
 ∃gs1 w1 ops lL JX E1 S1 G1 wG q1 AZ D1 iZ,runT X.P (crowd gs w sl) x=(.next<|crowd gs1 w1 sl,ops)/\X.Inv2 ty n dO Anch Mid dH t0 ks gs1 w1 (t++ops) lL JX E1 S1 G1 wG q1 bF AZ D1 iZ/\
  (vI n lL AZ<vI n tag st\/(vI n lL AZ<=vI n tag st/\(Eo gs.size D1 D\/(D1=D/\T.xB iZ τ))))
theorem aiK(st:Nat->Nat)(i s:Nat):gJ (upd st i s)=upd (gJ st) i ⟨min s 7,0,0⟩:=by
 funext a;unfold gJ upd;split<;>simp_all
theorem cnt_mono{x y:WD}(h:x.stage<=y.stage):cnt x<=cnt y:=by
 unfold cnt;by_cases h5:5<=x.stage
 ·rw[if_pos h5,if_pos<|by omega];exact dI _
 ·rw[if_neg h5];exact kH _
variable{i s:Nat}{jD:jE}
theorem aiL(hi:i<n)(hs:s<st i)(ht:jD=tag\/(tag=.blk/\jD=.w3)):vI n jD (upd st i s)<vI n tag st:=by
 have h1:=sumTo_upd st s id hi;have h2:=Go.ConcN.Vc_upd (gJ st) (⟨min s 7,0,0⟩:WD) hi;have h3:cnt (⟨min s 7,0,0⟩:WD)<=cnt (gJ st i):=
  cnt_mono (show min s 7<=min (st i) 7 by omega)
 rw[<-aiK]at h2;have h4:jD.phi n (Vc n<|gJ<|upd st i s)<=tag.phi n (Vc n<|gJ st):=by
  rcases ht with rfl|⟨rfl,rfl⟩
  ·cases jD<;>simp only[jE.phi]<;>omega
  ·exact dI _
 simp only[id]at h1;unfold vI;have e:sumTo n (fun a=>upd st i s a)=sumTo n (upd st i s):=rfl;have e':sumTo n (fun a=>st a)=sumTo n st:=rfl;omega
theorem asM(ht:jD=tag\/(tag=.blk/\jD=.w3)):vI n jD (upd st i<|st i)<=vI n tag st:=by
 have e:upd st i (st i)=st:=by funext a;unfold upd;split<;>simp_all
 rw[e];rcases ht with rfl|⟨rfl,rfl⟩<;>exact dI _
theorem bV.Inv2.workerStep(F:X.Fit)(hA:∀g w,Anch g w->g.status=.running)(hE:dO.status=.running)(oW:∀(i:Nat) (k:K),ks[i]? =ae k->∀l S g w,X.Fin k l S g w->∃v,X.BD ty n i v g w/\dH k l v S w)(qP:∀k l v S w w1,dH k l v S w->bu S (X.side k) w w1->dH k l v S w1)
 (h:X.Inv2 ty n dO Anch Mid dH t0 ks gs w t tag dW E S0 G Sw q bF st D τ){k:K}(hk:ks[i]? =ae k){g g':bM}{es:Array Event}(hg:gs[X.m0+i]? =ae g)(hgo:bK X.P false g w=.go g' w' es){dd:Nat}{S1:aO}{σ:T}
 (hb:X.Base t0 ks ((gs.map<|woken X.P g g' w').setIfInBounds (X.m0+i) g') w' (t++MemOp.ofEvents (X.m0+i) g.frame.fn g.frame.place es) tag.deaf (upd dW i dd) E S0 G (upd Sw i S1) q)
 (k0:bu S0 E w w')(rl:RL ty X.Wg w w')(kW:∀i' k',i'≠i->ks[i']? =ae k'->bu (Sw i') (X.side k') w w')(rw_:∀i',i'≠i->RW ty X.Wg X.C n 0 i' w w')(TM:∀b,(b=X.ov\/∃k∈ks,b=X.ch k)->w'.heap[b]? =w.heap[b]?)
 (hs:X.zk ty n dH i k (bF i) S1 s σ dd g' w')(pay:PayAt X.C n w')(dh:∀jD,(jD=tag\/(tag=.blk/\jD=.w3))->(mayWake X.P g=true->g'.status=.running->jD≠.blk)->∃a b,WgAt ty X.Wg w' a b/\Go.ConcN.Mode n (gJ<|upd st i s) jD.c a b)
 (rel:s<=6->∃r,wI X.Wg (t++MemOp.ofEvents (X.m0+i) g.frame.fn g.frame.place es) (X.m0+i) r/\t0.size<=r)(acq:tag=.ret->FY t0.size X.Wg X.m0 n (t++MemOp.ofEvents (X.m0+i) g.frame.fn g.frame.place es))
 (lt:s<st i\/(s=st i/\T.Lt σ (D<|X.m0+i))):X.yF ty n dO Anch Mid dH t0 ks bF gs w sl t tag st D τ (X.m0+i):=by
 have hi:i<ks.length:=(dS.1 hk).1;have pX:=h.base.pos;have aK:X.m0+i<gs.size:=by rw[h.base.size];omega
 have o9:(X.m0+i==0)=false:=by simp<;>omega
 obtain⟨a,ha,hm⟩:=h.main;obtain⟨jD,oV,DR,ae7,hwk⟩:=hm.woken hA hE k0 rl g g';have hr:=aFz (P:=X.P) (sl:=sl) (i:=X.m0+i) hg (by rw[o9];exact hgo);have F6:jD=tag\/(tag=.blk/\jD=.w3):=ae7.imp (·.1) id;have ae9:jD.deaf=tag.deaf:=by rcases F6 with rfl|⟨rfl,rfl⟩<;>rfl
 obtain⟨wa,wb,wX,vS⟩:=dh jD F6 hwk;refine⟨_,w',_,jD,upd dW i dd,E,S0,G,upd Sw i S1,q,upd st i s,upd D (X.m0+i) σ,oV,hr,⟨ae9.s▸hb,h.len,h.MW,⟨_,by rw[iK<|by omega,yl,ha];rfl,DR⟩,fun i' k' dV=>?_,fun j h0 h1=>by rw[aFl _ _<|by omega];exact h.old j h0 h1,fun κ jL=>?_,?_,⟨wa,wb,wX,vS⟩,pay,fun i' nI dF=>?_,fun e=>?_⟩,?_⟩
 ·by_cases e:i'=i
  ·subst e;rw[hk]at dV;cases dV;exact⟨g',by rw[um<|by simpa using aK],by rw[aFj,aFj,aFj,aFj];exact hs⟩
  ·obtain⟨x,hx,Q5⟩:=h.work i' k' dV;have dF:=Q5.status F fun S g w y=>let ⟨_,z,_⟩:=oW i' k' dV _ S g w y;z.run;refine⟨x,?_,?_⟩
   ·rw[iK<|by omega,yl,hx];simp only[Ho,gU];unfold Go.Conc.woken;split
    ·exact aF8 _ (dF.imp id (·.1))
    ·rfl
   ·rw[aFl Sw _ e,aFl st _ e,aFl dW _ e,aFl D _<|by omega];exact Q5.rely qP (kW i' k' e dV)<|rw_ i' e
 ·obtain⟨s',r',hc⟩:=h.sK κ jL;exact⟨s',r',by rw[TM _<|.inr ⟨κ,jL,rfl⟩];exact hc⟩
 ·obtain⟨cap,s',r',hc⟩:=h.over;exact⟨cap,s',r',by rw[TM _<|.inl rfl];exact hc⟩
 ·by_cases e:i'=i
  ·subst e;rw[aFj]at dF;exact rel dF
  ·rw[aFl _ _ e]at dF;obtain⟨r,hr,hb⟩:=h.rel i' nI dF;exact⟨r,hr.appOther ofEvents_g<|by omega,hb⟩
 ·rcases F6 with rfl|⟨_,rfl⟩
  ·exact acq e
  ·cases e
 ·have fZ:i<n:=h.len▸hi;rcases lt with hl|⟨rfl,hl⟩
  ·exact .inl<|aiL fZ hl F6
  ·exact .inr ⟨asM F6,.inl ⟨X.m0+i,aK,by rw[aFj];exact hl,fun j hj=>aFl _ _ hj⟩⟩
end
end fU
end
section
namespace fU
open Go Go.Conc Twin
open Go.ConcN (upd upd_same upd_ne WgLive PayAt Has RW DWs AtR0 AtK1 WSit WD CTag Vc cnt sumTo RelBy sumTo_upd sumTo_congr cell_of_block AsideCell)
open Go.ConcR (stA smA rd wr KK WgAt DC0 Payload)
section
variable [Payload]{K:Type}{X:bV K}{ty:dJ}{n:Nat}{dO:bM}{Anch:bM->ay->Prop}{Mid:aO->ay->Prop}{dH:K->List aA->aA->aO->ay->Prop}
 {t0:Trace}{ks:List K}{gs:Array bM}{w w':ay}{t:Trace}{tag:jE}{dW:Nat->Nat}{E:dL}{S0 G:aO}{Sw:Nat->aO}{q:Nat->Nat}{bF:Nat->List aA}{st:Nat->Nat}{D:Nat->T}{τ:T}{sl:Option (Nat×Nat)}
theorem TN{α:Type}(f:Nat->α)(i:Nat):upd f i (f i)=f:=by funext a;unfold upd;split<;>simp_all
variable{i:Nat}{a b:Int}
theorem PU{s:Nat}{c:CTag}(hs:min s 7=min (st i) 7)(h:Go.ConcN.Mode n (gJ st) c a b):Go.ConcN.Mode n (gJ<|upd st i s) c a b:=by
 refine h.congr fun x _=>?_;show min (upd st i s x) 7=min (st x) 7;by_cases e:x=i
 ·subst e;rw[aFj];exact hs
 ·rw[aFl _ _ e]
theorem PW{jD:jE}{D:Nat->WD}(h:Go.ConcN.Mode n D tag.c a b)(ht:jD=tag\/(tag=.blk/\jD=.w3)):Go.ConcN.Mode n D jD.c a b:=by
 refine h.retag ?_;rcases ht with rfl|⟨rfl,rfl⟩
 ·exact .inl rfl
 ·exact .inr ⟨rfl,rfl⟩
theorem aiM(h:tag=.ret):tag.c=.ret:=by rw[h];rfl
theorem aiN(hW:w'.heap[X.Wg]? =w.heap[X.Wg]?)(hC:w'.heap[X.C]? =w.heap[X.C]?)(i:Nat):RW ty X.Wg X.C n 0 i w w':=
 ⟨fun _ hb=>absurd hb<|Nat.not_lt_zero _,fun⟨a,b,h⟩=>⟨a,b,h.of_block hW⟩,fun⟨c,h1,h2⟩=>⟨c,hC.t h1,h2⟩,cell_of_block hC i⟩
theorem aiO(hW:w'.heap[X.Wg]? =w.heap[X.Wg]?):RL ty X.Wg w w':=fun⟨a,b,h⟩=>⟨a,b,h.of_block hW⟩
theorem Yd(hC:w'.heap[X.C]? =w.heap[X.C]?)(h:PayAt X.C n w):PayAt X.C n w':=let ⟨c,h1,h2⟩:=h;⟨c,hC.t h1,h2⟩
theorem bV.Base.aside{d:Nat}(h:X.Base t0 ks gs w t d dW E S0 G Sw q){b:Nat}(hb:X.Sp ks b)(hE:¬E.ro b)(hA:Aside b w w'):bu S0 E w w'/\∀i k,ks[i]? =ae k->bu (Sw i) (X.side k) w w':=by
 obtain⟨n0,_,nW,nR⟩:=h.TG hb;exact⟨⟨hA.tape,hA.os,hA.output,CQ hA.size.s,fun x hx=>hA.block x fun e=>n0<|e▸hx,fun x hx=>hA.block x fun e=>hE<|e▸hx⟩,
  fun i k hk=>⟨hA.tape,hA.os,hA.output,CQ hA.size.s,fun x hx=>hA.block x fun e=>nW i (dS.1 hk).1<|e▸hx,fun x hx=>hA.block x fun e=>nR i k hk<|e▸hx⟩⟩
theorem bV.Inv2.at(h:X.Inv2 ty n dO Anch Mid dH t0 ks gs w t tag dW E S0 G Sw q bF st D τ)(qP:∀k l v S w w1,dH k l v S w->bu S (X.side k) w w1->dH k l v S w1)(d:Nat):X.Inv2 ty n dO Anch Mid dH t0 ks gs (w.at d) t tag dW E S0 G Sw q bF st D τ:=
 ⟨h.base.at d,h.len,h.MW,let ⟨a,ha,hm⟩:=h.main;⟨a,ha,hm.rely (bu.at _ _ _ _) id⟩,fun i k hk=>let ⟨g,hg,hs⟩:=h.work i k hk;⟨g,hg,hs.rely qP (bu.at _ _ _ _)<|RW.at w d⟩,h.old,h.sK,h.over,h.wg,h.pay,h.rel,h.acq⟩
theorem asN{Wg:Nat}(hW:X.Wg=Wg){e:Event}(h:Go.ConcR.Bk Wg e){B:Nat}(hB:Wg<B)(n' k:Nat):(MemAct.ofEvent e).low B/\MemAct.ofEvent e≠.mark (.release<|stA X.Wg)/\∀x,(MemAct.ofEvent e).touch?=ae x->acH X.Sh (X.O Sw n') (X.Rd ks) k x:=by
 subst hW;obtain⟨loc,wr,sy⟩:=e;rcases h with h|h|⟨a,wr',h,ha⟩
 ·simp only at h;subst h;exact⟨trivial,by simp[MemAct.ofEvent],by simp[MemAct.ofEvent,MemAct.touch?]⟩
 ·simp only at h;subst h;exact⟨trivial,by simp[MemAct.ofEvent],by simp[MemAct.ofEvent,MemAct.touch?]⟩
 ·cases h;refine⟨show a.block<B by omega,by simp[MemAct.ofEvent],fun x hx=>?_⟩;simp only[MemAct.ofEvent,MemAct.touch?,gU]at hx;subst hx;exact .inl ⟨.inl ⟨a,rfl,ha⟩,by simp,by simp⟩
theorem bV.Inv2.asO(F:X.Fit)(TP:∀k l v S w,dH k l v S w->∀B:au.dE,(∀b,B.dB b->¬S b)->au.aI B v)(hA:∀g w,Anch g w->g.status=.running)(hE:dO.status=.running)(oW:∀(i:Nat) (k:K),ks[i]? =ae k->∀l S g w,X.Fin k l S g w->∃v,X.BD ty n i v g w/\dH k l v S w)(qP:∀k l v S w w1,dH k l v S w->bu S (X.side k) w w1->dH k l v S w1)
 (h:X.Inv2 ty n dO Anch Mid dH t0 ks gs w t tag dW E S0 G Sw q bF st D τ){k:K}(hk:ks[i]? =ae k){g:bM}(hg:gs[X.m0+i]? =ae g)(dF:8<=st i):X.yF ty n dO Anch Mid dH t0 ks bF gs w sl t tag st D τ (X.m0+i):=by
 have hi:i<ks.length:=(dS.1 hk).1;have fZ:i<n:=h.len▸hi;have pX:=h.base.pos;have aK:X.m0+i<gs.size:=by rw[h.base.size];omega
 have o9:(X.m0+i==0)=false:=by simp<;>omega
 have pW:=gZ hk;obtain⟨wa,wb,dh,kR⟩:=h.wg;have VK:tag≠.ret:=fun e=>by
  have h7:(gJ st i).stage=7:=Nat.min_eq_right (by omega);exact kR.not_ret fZ (by rw[h7];omega)<|aiM e
 obtain⟨x,hx,hs⟩:=h.work i k hk;rw[hg]at hx;cases hx;have own:∀{g':bM} {w2:ay} {es:Array Event} {σ:T},bK X.P false g w=.go g' w2 es->jC (Sw i) (X.side k) w w2 es->X.zk ty n dH i k (bF i) (grow (Sw i) w w2) (st i) σ (dW i) g' w2->T.Lt σ (D<|X.m0+i)->X.yF ty n dO Anch Mid dH t0 ks bF gs w sl t tag st D τ (X.m0+i):=by
  intro g' w2 es σ hgo hG aAG hl;obtain⟨k0,kW,kS⟩:=h.base.acL hk hG;have DW:=kS X.Wg<|.inl rfl;have GY:=kS X.C<|.inr<|.inl rfl;refine h.workerStep F hA hE oW qP hk hg hgo (dd:=dW i) (s:=st i) (S1:=grow (Sw i) w w2) (σ:=σ) ?_ k0 (aiO DW) kW (fun i' _=>aiN DW GY i') (fun b hb=>kS b<|hb.e (fun e=>.inr<|.inr<|.inl e) fun e=>.inr<|.inr<|.inr e) aAG (Yd GY h.pay) (fun jD ht _=>⟨wa,wb,dh.of_block DW,PW (PU rfl kR) ht⟩) (fun h6=>by omega) (fun e=>absurd e VK)<|.inr ⟨rfl,hl⟩;rw[TN];exact h.base.stepW hk hG (by simp)<|h.base.JV g g' w2 g'<|.inr<|by omega
 have told:∀{g0:bM} {z0 z1:aA} {sh:CommShape},X.tV k (bF i) (Sw i) g0 z0 z1 sh w->bK X.P false g w=.comm g0 (X.cs k z0 z1) true sh w #[]->st i=9->dW i=0->X.yF ty n dO Anch Mid dH t0 ks bF gs w sl t tag st D τ (X.m0+i):=by
  intro g0 z0 z1 sh hW jT h9 hd0;obtain⟨s,r,hc⟩:=h.sK k pW;obtain⟨cap,s',r',ho⟩:=h.over;have oL:∀c,partners (gs.setIfInBounds (X.m0+i) ph) c true=[]:=fun c=>partners_nil fun j y hy=>by
   rcases aGk gs _ j y hy with⟨_,rfl⟩|⟨_,hy⟩
   ·rfl
   ·rcases h.base.FX hy with rfl|⟨h1,h2⟩|⟨i',k',rfl,dV⟩
    ·obtain⟨a,ha,hm⟩:=h.main;rw[hy]at ha;cases ha;rcases hm.status hA hE with⟨hs,_⟩|⟨_,g1,rfl,_,ho⟩
     ·exact aFn (by rw[hs];simp) _ _
     ·unfold offersAt;simp only[ho]
    ·rcases(h.base.old j y h1 h2 hy).status with hs|hs<;>exact aFn (by rw[hs];simp) _ _
    ·obtain⟨y',KZ,hs⟩:=h.work i' k' dV;rw[hy]at KZ;cases KZ;rcases hs.status F (fun S g w z=>let ⟨_,u,_⟩:=oW i' k' dV _ S g w z;u.run)with hs|⟨hs,_⟩<;>exact aFn (by rw[hs];simp) _ _
  have hr:=crowd_sel_recv_closed (P:=X.P) (sl:=sl) (i:=X.m0+i) (w:=w) (w₁:=w) (k:=1) (c:=X.ov) (z:=z1) hg (by rw[o9];exact jT) (by simp[bV.cs]) (fun m c' hm zK=>by
   match m,hm,zK with
   |0,_,zK=>simp[bV.cs]at zK;subst zK;exact aGl hc<|oL _
   |1,hm,_=>exact absurd rfl hm
   |m+2,_,zK=>simp[bV.cs]at zK) ho (oL _)
  obtain⟨σ,hσ⟩:=JU hW.over;have AY:X.ov<w.heap.size:=h.base.mem.low _<|.inr<|.inr<|.inl rfl;have hq:acN X.Wg w.heap.size (MemOp.ofEvents (X.m0+i) g.frame.fn g.frame.place #[]++ #[{g:=X.m0+i,fn:=g0.frame.fn,pos:=g0.frame.place,act:=.recvClosed X.ov}]):=by
   intro op aP;rcases Jv.1 aP with aP|aP
   ·exact TJ _ _ _ _ _ op aP
   ·simp only[uo,jZ,qh,qi]at aP;subst aP;exact⟨rfl,AY,by simp,by simp,by simp⟩
  refine⟨_,w,_,tag,dW,E,S0,G,Sw,q,upd st i 8,upd D (X.m0+i) σ.more,τ,hr,⟨h.base.quiet h.base.qw rfl hq (by simp) fun j h0 h1=>by rw[iK<|by omega],h.len,h.MW,?_,fun i' k' dV=>?_,fun j h0 h1=>by rw[aFl _ _<|by omega];exact h.old j h0 h1,h.sK,h.over,⟨wa,wb,dh,PU (by omega) kR⟩,h.pay,fun i' nI h6=>?_,fun e=>absurd e VK⟩,.inl<|aiL fZ (by omega)<|.inl rfl⟩
  ·obtain⟨a,ha,hm⟩:=h.main;exact⟨a,by rw[iK<|by omega];exact ha,hm⟩
  ·by_cases e:i'=i
   ·subst e;rw[hk]at dV;cases dV;refine⟨_,by rw[um aK],?_⟩;rw[aFj,aFj,hd0];exact .fin hσ
   ·obtain⟨y,hy,hs⟩:=h.work i' k' dV;exact⟨y,by rw[iK<|by omega];exact hy,by rw[aFl st _ e,aFl D _<|by omega];exact hs⟩
  ·by_cases e:i'=i
   ·subst e;rw[aFj]at h6;omega
   ·rw[aFl _ _ e]at h6;obtain⟨r,hr,hb⟩:=h.rel i' nI h6;exact⟨r,hr.xu fun op aP=>(hq op aP).1,hb⟩
 generalize hD:D (X.m0+i)=σ at hs;generalize GU:st i=s at hs;generalize Dk:dW i=dd at hs;cases hs with
 | @run σ _ _ hT=>
   cases σ with
   |step f=>
    obtain⟨g',w2,es,hgo,hG,Ce⟩:=hT.2 w<|bu.refl _ _ _;exact own hgo hG (by rw[GU,Dk];exact .run Ce) (by rw[hD];exact T.TA<|.mk f w)
   |stop=>
    obtain⟨z0,z1,sh,hW⟩:=F _ _ _ _ _<|hT w<|bu.refl _ _ _;exact told hW (hW.step w<|bu.refl _ _ _) GU Dk
 | @MS g0 z0 z1 sh _ hW=>
   refine told hW ?_ GU Dk;rw[stepG_tries];have:({g0 with status:=.running}:bM)=g0:=by
    have:=hW.run;obtain⟨fr,cs,sx,dy,of⟩:=g0;simp only at this;subst this;rfl
   rw[this];exact hW.step w<|bu.refl _ _ _
 | @fin σ _ _ hT=>
   cases σ with
   |step f=>
    obtain⟨g',w2,es,hgo,hG,Ce⟩:=hT.2 w<|bu.refl _ _ _;exact own hgo hG (by rw[GU,Dk];exact .fin Ce) (by rw[hD];exact T.TA<|.mk f w)
   |stop=>
    obtain⟨v,fC,uV⟩:=oW i k hk _ _ _ _<|hT w<|bu.refl _ _ _;obtain⟨g',hgo,m,aAI⟩:=fC.st ⟨_,_,dh⟩ h.pay;have Ye:Aside X.C w (aX w ⟨X.C,i,af⟩ v):=aFD w ⟨X.C,i,af⟩ v;have hCE:¬E.ro X.C:=(h.base.TG (b:=X.C)<|.inr<|.inl rfl).2.1<|Ne.s h.base.iM.1;obtain⟨k0,kW⟩:=h.base.aside (.inr<|.inl rfl) hCE Ye;have DW:=Ye.block X.Wg h.base.iM.1;obtain⟨c,pV,lY⟩:=h.pay;have hC':(aX w ⟨X.C,i,af⟩ v).heap[X.C]? =ae (.cells (c.setIfInBounds i v) Payload.ety):=by
     unfold World.setCell;simp[anG,pV]
    have hcell:∀i',i'≠i->(aX w ⟨X.C,i,af⟩ v).cell? ⟨X.C,i',af⟩=aB w ⟨X.C,i',af⟩:=fun i' e=>by
     unfold World.cell?;simp only[hC',pV];simp[iK<|Ne.s e]
    have GZ:PayAt X.C n (aX w ⟨X.C,i,af⟩ v):=⟨_,hC',by simpa using lY⟩;refine h.workerStep F hA hE oW qP hk hg hgo (dd:=0) (s:=7) (S1:=Sw i) (σ:=T.nat m) ?_ k0 (aiO DW) (fun i' k' _ dV=>kW i' k' dV) (fun i' e=>⟨fun b hb=>absurd hb<|Nat.not_lt_zero _,fun⟨a,b,h⟩=>⟨a,b,h.of_block DW⟩,fun _=>GZ,hcell i' e⟩) (fun b hb=>Ye.block b ?_) (.done aAI<|qP _ _ _ _ _ _ uV<|kW i k hk) GZ (fun jD ht _=>⟨wa,wb,dh.of_block DW,PW (PU (by omega) kR) ht⟩) (by omega) (fun e=>absurd e VK)<|.inl<|by omega
    ·have Ji:=h.base.Yc (w':=aX w ⟨X.C,i,af⟩ v) (gs':=(gs.map<|woken X.P g g'<|w.setCell ⟨X.C,i,af⟩ v).setIfInBounds (X.m0+i) g') (i:=i) (es:=#[⟨.cell ⟨X.C,i,af⟩,true,false⟩]) (fn:=g.frame.fn) (pos:=g.frame.place) hi (h.base.qw.setCell<|TP _ _ _ _ _ uV _ fun b hb z=>hb.e (fun y=>y.e (h.base.mem.mi i hi b z).2.2.2.1 fun e=>(h.base.mem.mi i hi b z).2.2.1<|.inl e) fun y=>Nat.not_lt.2 y (h.base.mem.mi i hi b z).1) Ye.size (by
      intro e he;simp only[uo,jZ,qh,qi]at he;subst he;refine⟨h.base.mem.low _<|.inr<|.inl rfl,by simp[MemAct.ofEvent],fun x hx=>?_⟩;simp only[MemAct.ofEvent,MemAct.touch?,gU]at hx;subst hx;exact .inr<|.inl ⟨i,hi,rfl,.inr rfl⟩) (by simp) (h.base.JV g g' _ g'<|.inr<|by omega)
     rw[TN];have e0:deafBehind (dW i) #[⟨.cell ⟨X.C,i,af⟩,true,false⟩]=0:=by rw[Dk];rfl
     rw[e0]at Ji;exact Ji
    ·rcases hb with rfl|⟨κ,jL,rfl⟩
     ·exact Ne.s h.base.iM.2.2.1
     ·exact(h.base.iM.2.2.2.1 κ jL).2.1
 |done _ _=>omega
 |iw hl h6 _ _=>omega
end
end fU
end
section
namespace fU
open Go Go.Conc Twin
open Go.ConcN (upd upd_same upd_ne WgLive PayAt Has RW DWs AtR0 AtK1 WSit WD CTag Vc cnt sumTo RelBy sumTo_upd sumTo_congr cell_of_block AsideCell le_sumTo bk_cell Vc_upd Vc_le others_uncounted)
open Go.ConcR (stA smA rd wr KK WgAt DC0 Payload Bk)
section
variable [Payload]{K:Type}{X:bV K}{ty:dJ}{n:Nat}{dO:bM}{Anch:bM->ay->Prop}{Mid:aO->ay->Prop}{dH:K->List aA->aA->aO->ay->Prop}
 {t0:Trace}{ks:List K}{gs:Array bM}{w w':ay}{t:Trace}{tag:jE}{dW:Nat->Nat}{E:dL}{S0 G:aO}{Sw:Nat->aO}{q:Nat->Nat}{bF:Nat->List aA}{st:Nat->Nat}{D:Nat->T}{τ:T}{sl:Option (Nat×Nat)}
theorem asQ{i:Nat}(h:st i<=7):(gJ st i).stage=st i:=afR h
theorem TQ{i s:Nat}(h:s<=7):gJ (upd st i s)=upd (gJ st) i ⟨s,0,0⟩:=by rw[aiK,afR h]
theorem bV.Inv2.asR(F:X.Fit)(hA:∀g w,Anch g w->g.status=.running)(hE:dO.status=.running)(oW:∀(i:Nat) (k:K),ks[i]? =ae k->∀l S g w,X.Fin k l S g w->∃v,X.BD ty n i v g w/\dH k l v S w)(qP:∀k l v S w w1,dH k l v S w->bu S (X.side k) w w1->dH k l v S w1)(hn:n<2147483648)
 (h:X.Inv2 ty n dO Anch Mid dH t0 ks gs w t tag dW E S0 G Sw q bF st D τ){i:Nat}{k:K}(hk:ks[i]? =ae k){g:bM}(hg:gs[X.m0+i]? =ae g)(dF:st i<=7)(iy:g.status=.running):X.yF ty n dO Anch Mid dH t0 ks bF gs w sl t tag st D τ (X.m0+i):=by
 have hi:i<ks.length:=(dS.1 hk).1;have fZ:i<n:=h.len▸hi;have pX:=h.base.pos;have aiP:X.Wg<w.heap.size:=h.base.mem.low _<|.inl rfl;have hCW:X.C≠X.Wg:=Ne.s h.base.iM.1;obtain⟨wa,wb,dh,kR⟩:=h.wg;obtain⟨x,hx,hs⟩:=h.work i k hk;rw[hg]at hx;cases hx;have Fg:=asQ dF;generalize hD:D (X.m0+i)=σ at hs;generalize zG:st i=s at hs Fg dF;generalize Dk:dW i=dd at hs;have VS:Deaf t (X.m0+i)=dd:=by rw[h.base.deafW i hi,Dk]
 have nr:s≠1->tag≠.ret:=fun h1 e=>kR.not_ret fZ (by rw[Fg];exact h1)<|aiM e;have amD:∀{v:aA} {m:Nat},dH k (bF i) v (Sw i) w->Has X.C i v w->σ=T.nat m->s<=6->∀{g':bM} {w2:ay} {es:Array Event} {s' m' Oo:Nat} {a b:Int},bK X.P false g w=.go g' w2 es->Aside X.Wg w w2->WgAt ty X.Wg w2 a b->(∀e∈es,Bk X.Wg e)->
  (∀jx e,es[jx]? =ae e->(MemAct.ofEvent e).touch?=af\/0<deafBehind dd (es.extract 0 jx))->WSit X.P ty X.Wg X.C n Dl Dl 0 (i+1) v s' m' Oo g' w2->deafBehind dd es=Oo->s'<=6->
  (∀jD,(jD=tag\/(tag=.blk/\jD=.w3))->(mayWake X.P g=true->g'.status=.running->jD≠.blk)->Go.ConcN.Mode n (gJ<|upd st i s') jD.c a b)->(tag=.ret->FY t0.size X.Wg X.m0 n (t++MemOp.ofEvents (X.m0+i) g.frame.fn g.frame.place es))->(s'<s\/(s'=s/\m'+1=m))->
  X.yF ty n dO Anch Mid dH t0 ks bF gs w sl t tag st D τ (X.m0+i):=by
  intro v m uV Q7 hσ h6 g' w2 es s' m' Oo a b hgo La A7 Oq hd uU hdd h6' VU afc aK;obtain⟨k0,kW⟩:=h.base.aside (.inl rfl) h.MW La;have GY:=La.block X.C hCW;refine h.workerStep F hA hE oW qP hk hg hgo (dd:=Oo) (s:=s') (S1:=Sw i) (σ:=T.nat m') ?_ k0 (fun _=>⟨_,_,A7⟩) (fun i' k' _ dV=>kW i' k' dV) (fun i' _=>RW.of_wg La ⟨_,_,A7⟩ hCW) (fun b hb=>La.block b ?_) (.iw uU h6' (qP _ _ _ _ _ _ uV<|kW i k hk)<|(cell_of_block GY i).t Q7) (Yd GY h.pay) (fun jD h1 h2=>⟨a,b,A7,VU jD h1 h2⟩) (fun _=>?_) afc ?_
  ·have hb:=h.base.Yc (w':=w2) (gs':=(gs.map<|woken X.P g g' w2).setIfInBounds (X.m0+i) g') (i:=i) (es:=es) (fn:=g.frame.fn) (pos:=g.frame.place) hi (acJ h.base.qw La) La.size (fun e he=>asN rfl (Oq e he) aiP _ _) (by simp) (h.base.JV g g' _ g'<|.inr<|by omega);rw[TN];rw[Dk,hdd]at hb;exact hb
  ·rcases hb with rfl|⟨κ,jL,rfl⟩
   ·exact Ne.s h.base.iM.2.1
   ·exact(h.base.iM.2.2.2.1 κ jL).1
  ·obtain⟨r,hr,hb⟩:=h.rel i fZ (by omega);exact⟨r,hr.book VS _ _ Oq hd,hb⟩
  ·rcases aK with aK|⟨rfl,rfl⟩
   ·exact .inl<|by omega
   ·exact .inr ⟨zG.s,by rw[hD,hσ];exact T.JS m'⟩
 cases hs with
 |run=>omega
 |MS=>omega
 |fin=>omega
 | @done v m _ _ uX uV=>
   rcases aFy uX with oD|⟨m',rfl,jT⟩
   ·obtain⟨_,asT,g',hgo,m₂,aT⟩:=oD w<|aFC w;refine h.workerStep F hA hE oW qP hk hg hgo (dd:=0) (s:=6) (S1:=Sw i) (σ:=T.nat m₂) ?_ (bu.refl _ _ _) id (fun _ _ _ _=>bu.refl _ _ _) (fun _ _=>aFC w) (fun _ _=>rfl) (.iw (.k1 aT) (by omega) uV<|by simpa using asT) h.pay (fun jD ht _=>⟨wa,wb,dh,?_⟩) (fun _=>⟨t.size,wI.new VS _ _,let ⟨u,hu,_⟩:=h.base.base;by rw[hu];simp⟩) (fun e=>absurd e<|nr<|by omega) (.inl<|by omega)
    ·have hb:=h.base.Yc (w':=w) (gs':=(gs.map<|woken X.P g g' w).setIfInBounds (X.m0+i) g') (i:=i) (es:=#[Go.ConcR.mk<|.releaseMerge<|stA X.Wg]) (fn:=g.frame.fn) (pos:=g.frame.place) hi h.base.qw rfl (by
      intro e he;simp only[uo,jZ,qh,qi]at he;subst he;exact⟨aiP,by simp[MemAct.ofEvent,Go.ConcR.mk],by simp[MemAct.ofEvent,MemAct.touch?,Go.ConcR.mk]⟩) (by simp) (h.base.JV g g' _ g'<|.inr<|by omega)
     rw[TN];rw[Dk]at hb;exact hb
    ·rw[TQ<|by omega];exact PW (kR.counted fZ (by rw[Fg];omega) (.inl rfl) 0 0) ht
   ·obtain⟨g',w2,es,hgo,⟨rfl,rfl⟩,mJ⟩:=jT w<|aFC w;refine h.workerStep F hA hE oW qP hk hg hgo (dd:=0) (s:=7) (S1:=Sw i) (σ:=T.nat m') ?_ (bu.refl _ _ _) id (fun _ _ _ _=>bu.refl _ _ _) (fun _ _=>aFC _) (fun _ _=>rfl) (.done mJ uV) h.pay (fun jD ht _=>⟨wa,wb,dh,PW (PU (by rw[zG]) kR) ht⟩) (by omega) (fun e=>absurd e<|nr<|by omega) (.inr ⟨zG.s,by rw[hD];exact T.JS m'⟩);have hb:=h.base.Yc (w':=w2) (gs':=(gs.map<|woken X.P g g' w2).setIfInBounds (X.m0+i) g') (i:=i) (es:=#[]) (fn:=g.frame.fn) (pos:=g.frame.place) hi h.base.qw rfl (by simp) (by simp) (h.base.JV g g' _ g'<|.inr<|by omega);rw[TN];rw[Dk]at hb;exact hb
 | @iw v _ m _ _ _ hl h6 uV Q7=>
 have book:∀{g':bM} {w2:ay} {es:Array Event} {s' m' Oo:Nat} {a b:Int},bK X.P false g w=.go g' w2 es->Aside X.Wg w w2->WgAt ty X.Wg w2 a b->(∀e∈es,Bk X.Wg e)->
  (∀jx e,es[jx]? =ae e->(MemAct.ofEvent e).touch?=af\/0<deafBehind dd (es.extract 0 jx))->WSit X.P ty X.Wg X.C n Dl Dl 0 (i+1) v s' m' Oo g' w2->deafBehind dd es=Oo->s'<=6->
  Go.ConcN.Mode n (gJ<|upd st i s') tag.c a b->(tag=.ret->FY t0.size X.Wg X.m0 n (t++MemOp.ofEvents (X.m0+i) g.frame.fn g.frame.place es))->(s'<s\/(s'=s/\m'+1=m))->
  X.yF ty n dO Anch Mid dH t0 ks bF gs w sl t tag st D τ (X.m0+i):=
  fun hgo La A7 Oq hd uU hdd h6' VU afc aK=>amD uV Q7 rfl h6 hgo La A7 Oq hd uU hdd h6' (fun _ ht _=>PW VU ht) afc aK
 have idle:∀{g':bM} {m':Nat},bK X.P false g w=.go g' w #[]->WSit X.P ty X.Wg X.C n Dl Dl 0 (i+1) v s m' dd g' w->m'+1=m->s≠1->X.yF ty n dO Anch Mid dH t0 ks bF gs w sl t tag st D τ (X.m0+i):=by
  intro g' m' hgo uU hm h1;exact book hgo (.refl X.Wg w) dh (by simp) (by simp) uU rfl h6 (PU (by rw[zG]) kR) (fun e=>absurd e<|nr h1)<|.inr ⟨rfl,hm⟩
 have one:∀{s':Nat},s'<=7->Go.ConcN.isW3 tag.c->(∀a,a<n->a≠i->(gJ st a).stage=1)->(s'=4\/s'=3\/s'=2)->Go.ConcN.Mode n (gJ<|upd st i s') tag.c (if s'=2 then 0 else 1) 0:=by
  intro s' h7 Ot zT uU;rw[TQ h7];have:=Go.ConcN.Mode.last (j:=n) (D:=upd (gJ st) i ⟨s',0,0⟩) (tag:=tag.c) i Ot fZ (by rw[aFj];exact uU) (fun a ha e=>by rw[aFl _ _ e];exact zT a ha e);rw[aFj]at this;exact this
 cases hl with
 |r0 _=>omega
 |k1 uX=>
  rcases aFy uX with oD|⟨m',rfl,jT⟩
  ·obtain⟨_,g',hgo,m₂,hk⟩:=oD w<|aFC w;exact book hgo (.refl X.Wg w) dh (by intro e he;simp at he;subst he;exact .inl rfl) (by intro jx e he;exact .inl (by have:=Jt he;simp at this;subst this;rfl)) (.d1 hk) rfl (by omega)
    (by rw[TQ<|by omega];exact kR.counted fZ (by rw[Fg];omega) (.inr rfl) 0 0) (fun e=>absurd e<|nr<|by omega) (.inl<|by omega)
  ·obtain⟨g',w',es,hgo,⟨rfl,rfl⟩,mJ⟩:=jT w<|aFC w;exact idle hgo (.k1 mJ) rfl<|by omega
 |d1 uX=>
  rcases aFy uX with oD|⟨m',rfl,jT⟩
  ·obtain⟨_,jR⟩:=oD w<|aFC w;have pV:cnt (gJ st i)=1:=by unfold cnt;rw[if_pos (by rw[Fg];omega)]
   have hV1:1<=Vc n (gJ st):=by have:=le_sumTo (f:=fun x=>cnt<|gJ st x) fZ;simp only[Vc];omega
   have hVn:=Vc_le n<|gJ st;have bk2:∀e∈#[rd<|stA X.Wg,wr<|stA X.Wg],Bk X.Wg e:=by intro e he;simp at he;rcases he with rfl|rfl<;>exact bk_cell _ _ rfl
   have Ou:∀jx e,(#[rd<|stA X.Wg,wr<|stA X.Wg]:Array Event)[jx]? =ae e->(MemAct.ofEvent e).touch?=af\/0<deafBehind 1 ((#[rd<|stA X.Wg,wr<|stA X.Wg]:Array Event).extract 0 jx):=by
    intro jx e he;match jx,he with
    |0,_=>exact .inr<|by simp[deafBehind]
    |1,_=>exact .inr<|by simp[deafBehind,rd]
    |jx+2,he=>simp at he
   have hup:=Vc_upd (gJ st) (⟨1,0,0⟩:WD) fZ;have sW:cnt (⟨1,0,0⟩:WD)=0:=rfl;have hwd:gJ (upd st i 1)=upd (gJ st) i ⟨1,0,0⟩:=TQ (by omega);have opq:Go.ConcN.OpenSt n (gJ st)->Go.ConcN.OpenSt n (gJ<|upd st i 1):=fun h a ha=>by
    rw[hwd];by_cases e:a=i
    ·subst e;rw[aFj];simp
    ·rw[aFl _ _ e];exact h a ha
   generalize Fh:tag.c=ct at kR;cases kR with
   |opn h1 h2 h3=>
    obtain⟨vv,hv⟩:∃vv,Vc n (gJ st)+Go.ConcN.pend ct=vv+1:=⟨Vc n (gJ st)+Go.ConcN.pend ct-1,by omega⟩;have hpd:Go.ConcN.pend ct=0:=by rw[<-Fh];cases tag<;>rfl
    rw[hv]at dh;have wX:WgAt ty X.Wg w (((vv:Nat)+1)*KK+((0:Nat):Int)) 0:=by simpa using dh
    obtain⟨g',hgo,_,hq⟩:=jR vv 0 (by omega) (by omega) wX;obtain⟨qq,hq⟩:=hq (by omega);have hv':Vc n (gJ<|upd st i 1)+Go.ConcN.pend ct=vv:=by rw[hwd];omega
    refine book hgo (aFD w (stA X.Wg) _) (dh.setSt _) bk2 Ou (.quit hq) rfl (by omega) ?_ (fun e=>absurd e<|nr<|by omega) (.inl<|by omega);have e:((vv:Nat):Int)*KK+((0:Nat):Int)=((Vc n (gJ<|upd st i 1)+Go.ConcN.pend ct:Nat):Int)*KK:=by rw[hv'];simp
    rw[e,Fh];exact .opn h1 (opq h2) (fun vs ev=>by have:=h3 vs ev;rw[hwd];omega)
   |reg h1 h2 h3=>
    obtain⟨vv,hv⟩:∃vv,Vc n (gJ st)=vv+1:=⟨Vc n (gJ st)-1,by omega⟩;rw[hv]at dh;have wX:WgAt ty X.Wg w (((vv:Nat)+1)*KK+((1:Nat):Int)) 0:=by simpa using dh
    obtain⟨g',hgo,hl,hq⟩:=jR vv 1 (by omega) (by omega) wX;by_cases hv0:vv=0
    ·subst hv0;obtain⟨m₂,hk⟩:=hl ⟨rfl,rfl⟩;have zT:∀a,a<n->a≠i->(gJ st a).stage=1:=fun a ha e=>by
      have c0:=others_uncounted fZ hv pV a ha e;have:=h2 a ha;unfold cnt at c0;by_cases h5:5<=(gJ st a).stage
      ·rw[if_pos h5]at c0;omega
      ·omega
     have:=one (s':=4) (by omega) (by rw[Fh];exact h1) zT<|.inl rfl;refine book hgo (aFD w (stA X.Wg) _) (dh.setSt _) bk2 Ou (.d2 hk) rfl (by omega) ?_ (fun e=>absurd e<|nr<|by omega) (.inl<|by omega);simpa using this
    ·obtain⟨qq,hq⟩:=hq (by omega);have hv':Vc n (gJ<|upd st i 1)=vv:=by rw[hwd];omega
     refine book hgo (aFD w (stA X.Wg) _) (dh.setSt _) bk2 Ou (.quit hq) rfl (by omega) ?_ (fun e=>absurd e<|nr<|by omega) (.inl<|by omega);have e:((vv:Nat):Int)*KK+((1:Nat):Int)=((Vc n (gJ<|upd st i 1):Nat):Int)*KK+1:=by rw[hv'];simp
     rw[e,Fh];exact .reg h1 (opq h2)<|by omega
   |last L _ h2 h3 h4=>
    by_cases e:i=L
    ·subst e;omega
    ·have:=h4 i fZ e;omega
   |sema h2=>have:=h2 i fZ;omega
   |fin _ h2=>have:=h2 i fZ;omega
  ·obtain⟨g',w',es,hgo,⟨rfl,rfl⟩,mJ⟩:=jT w<|aFC w;exact idle hgo (.d1 mJ) rfl<|by omega
 |d2 uX=>
  rcases aFy uX with oD|⟨m',rfl,jT⟩
  ·obtain⟨_,hx⟩:=oD w<|aFC w;obtain⟨Ot,zT,rfl,rfl⟩:=kR.isLast fZ (by rw[Fg];omega);have e1:(if(gJ st i).stage=2 then(0:Int)else 1)=1:=if_neg (by rw[Fg];omega);rw[e1]at dh;obtain⟨g',hgo,m₂,hk⟩:=hx dh;have:=one (s':=3) (by omega) Ot zT<|.inr<|.inl rfl;exact book hgo (.refl X.Wg w) dh (by intro e he;simp at he;subst he;exact bk_cell _ _ rfl) (by intro jx e he;match jx,he with|0,_=>exact .inr (by simp[deafBehind])|jx+1,he=>simp at he) (.d3 hk) rfl (by omega) (by simpa using this) (fun e=>absurd e<|nr<|by omega)<|.inl<|by omega
  ·obtain⟨g',w',es,hgo,⟨rfl,rfl⟩,mJ⟩:=jT w<|aFC w;exact idle hgo (.d2 mJ) rfl<|by omega
 |d3 uX=>
  rcases aFy uX with oD|⟨m',rfl,jT⟩
  ·obtain⟨_,hx⟩:=oD w<|aFC w;obtain⟨Ot,zT,rfl,rfl⟩:=kR.isLast fZ (by rw[Fg];omega);have e1:(if(gJ st i).stage=2 then(0:Int)else 1)=1:=if_neg (by rw[Fg];omega);rw[e1]at dh;obtain⟨g',hgo,m₂,hk⟩:=hx dh;have:=one (s':=2) (by omega) Ot zT<|.inr<|.inr rfl;exact book hgo (aFD w (stA X.Wg) _) (dh.setSt 0) (by intro e he;simp at he;subst he;exact bk_cell _ _ rfl) (by intro jx e he;match jx,he with|0,_=>exact .inr (by simp[deafBehind])|jx+1,he=>simp at he) (.d4 hk) rfl (by omega) (by simpa using this) (fun e=>absurd e<|nr<|by omega)<|.inl<|by omega
  ·obtain⟨g',w',es,hgo,⟨rfl,rfl⟩,mJ⟩:=jT w<|aFC w;exact idle hgo (.d3 mJ) rfl<|by omega
 |d4 uX=>
  rcases aFy uX with oD|⟨m',rfl,jT⟩
  ·obtain⟨_,hmw,hx⟩:=oD w<|aFC w;obtain⟨Ot,zT,rfl,rfl⟩:=kR.isLast fZ (by rw[Fg];omega);have e1:(if(gJ st i).stage=2 then(0:Int)else 1)=0:=if_pos Fg;rw[e1]at dh;obtain⟨g',hgo,qq,hq⟩:=hx dh;have VO:g'.status=.running:=by
    cases qq with
    |zero=>exact absurd hq.2<|by decide
    |succ qq=>exact hq.e (fun x=>absurd x.2<|by decide) fun x=>x.1
   refine amD uV Q7 rfl h6 hgo (aFD w (smA X.Wg) _) (dh.setSm 1) (es:=semEvents<|smA X.Wg) ?_ ?_ (.quit hq) (by simp[deafBehind,semEvents]) (by omega) ?_ (fun e=>absurd e<|nr<|by omega)<|.inl<|by omega
   ·intro e he;simp[semEvents]at he;rcases he with rfl|rfl|rfl|rfl
    ·exact .inl rfl
    ·exact bk_cell _ _ rfl
    ·exact bk_cell _ _ rfl
    ·exact .inr<|.inl rfl
   ·intro jx e he;match jx,he with
    |0,he=>simp[semEvents]at he;subst he;exact .inl rfl
    |1,_=>exact .inr<|by simp[deafBehind,semEvents]
    |2,_=>exact .inr<|by simp[deafBehind,semEvents]
    |3,he=>simp[semEvents]at he;subst he;exact .inl rfl
    |jx+4,he=>simp[semEvents]at he
   ·intro jD ht hw;have hnb:=hw hmw VO;have e3:jD.c=.w3:=by
     rcases ht with rfl|⟨_,rfl⟩
     ·cases jD<;>first|rfl|exact Ot.e|exact absurd rfl hnb
     ·rfl
    rw[e3];refine .sema fun a ha=>?_;rw[TQ<|by omega];by_cases e:a=i
    ·subst e;rw[aFj]
    ·rw[aFl _ _ e];exact zT a ha e
  ·obtain⟨g',w',es,hgo,⟨rfl,rfl⟩,mJ⟩:=jT w<|aFC w;exact idle hgo (.d4 mJ) rfl<|by omega
 |quit hq=>
  cases m with
  |zero=>rw[hq.1]at iy;cases iy
  |succ qq=>
   rcases hq with⟨hf,_⟩|⟨_,g',es,amF,jT,hq⟩
   ·rw[hf]at iy;cases iy
   ·have Oq:∀e∈es,Bk X.Wg e:=fun e he=>Go.ConcR.bk_of_mute<|amF e he;have oL:∀jx e,es[jx]? =ae e->(MemAct.ofEvent e).touch?=af\/0<deafBehind dd (es.extract 0 jx):=fun jx e he=>.inl<|touch_mute<|amF e<|Jt he;refine book (jT w) (.refl X.Wg w) dh Oq oL (.quit hq) rfl (by omega) (PU (by rw[zG]) kR) (fun e=>(h.acq e).app fun i' r nI hr=>?_)<|.inr ⟨rfl,rfl⟩;by_cases e':i'=i
    ·subst e';exact hr.book VS _ _ Oq oL
    ·exact hr.appOther ofEvents_g<|by omega
end
end fU
end
section
namespace fU
open Go Go.Conc Twin
open Go.ConcN (upd upd_same upd_ne WgLive PayAt Has RW WSit WD CTag Vc cnt sumTo RelBy cell_of_block bk_cell Vc_le allQuit_of)
open Go.ConcR (stA smA rd wr KK WgAt DC0 Payload Bk)
section
variable [Payload]{K:Type}{X:bV K}{ty:dJ}{n:Nat}{dO:bM}{Anch:bM->ay->Prop}{Mid:aO->ay->Prop}{dH:K->List aA->aA->aO->ay->Prop}
 {t0:Trace}{ks:List K}{gs:Array bM}{w w':ay}{t:Trace}{tag:jE}{dW:Nat->Nat}{E:dL}{S0 G:aO}{Sw:Nat->aO}{q:Nat->Nat}{bF:Nat->List aA}{st:Nat->Nat}{D:Nat->T}{τ:T}{sl:Option (Nat×Nat)}
variable{a:bM}{lL:jE}
theorem bV.Inv2.aiQ(F:X.Fit)(oW:∀(i:Nat) (k:K),ks[i]? =ae k->∀l S g w,X.Fin k l S g w->∃v,X.BD ty n i v g w/\dH k l v S w)(qP:∀k l v S w w1,dH k l v S w->bu S (X.side k) w w1->dH k l v S w1)
 (h:X.Inv2 ty n dO Anch Mid dH t0 ks gs w t tag dW E S0 G Sw q bF st D τ){a':bM}(ha:gs[0]? =ae a){es:Array Event}(hgo:bK X.P true a w=.go a' w' es){S1:aO}{iZ:T}
 (hb:X.Base t0 ks ((gs.map<|woken X.P a a' w').setIfInBounds 0 a') w' (t++MemOp.ofEvents 0 a.frame.fn a.frame.place es) lL.deaf dW E S1 G Sw q)(hm:X.Dn ty dO Anch Mid E S1 lL iZ a' w')
 (kW:∀i k,ks[i]? =ae k->bu (Sw i) (X.side k) w w')(rw_:∀i,RW ty X.Wg X.C n 0 i w w')(TM:∀b,(b=X.ov\/∃k∈ks,b=X.ch k)->w'.heap[b]? =w.heap[b]?)(pay:PayAt X.C n w')(dh:∃x y,WgAt ty X.Wg w' x y/\Go.ConcN.Mode n (gJ st) lL.c x y)
 (acq:lL=.ret->FY t0.size X.Wg X.m0 n (t++MemOp.ofEvents 0 a.frame.fn a.frame.place es))(lt:vI n lL st<vI n tag st\/(vI n lL st<=vI n tag st/\T.xB iZ τ)):X.yF ty n dO Anch Mid dH t0 ks bF gs w sl t tag st D τ 0:=by
 have pX:=h.base.pos;have aK:0<gs.size:=by rw[h.base.size];omega
 have hr:=aFz (P:=X.P) (sl:=sl) (i:=0) ha hgo;refine⟨_,w',_,lL,dW,E,S1,G,Sw,q,st,D,iZ,hr,⟨hb,h.len,h.MW,⟨a',by rw[um<|by simpa using aK],hm⟩,fun i k hk=>?_,h.old,fun κ jL=>?_,?_,dh,pay,fun i hi dF=>?_,acq⟩,lt.imp id fun x=>⟨x.1,.inr ⟨rfl,x.2⟩⟩⟩
 ·obtain⟨x,hx,hs⟩:=h.work i k hk;have dF:=hs.status F fun S g w y=>let ⟨_,z,_⟩:=oW i k hk _ S g w y;z.run;refine⟨x,?_,hs.rely qP (kW i k hk)<|rw_ i⟩;rw[iK<|by omega,yl,hx];simp only[Ho,gU];unfold Go.Conc.woken;split
  ·exact aF8 _ (dF.imp id (·.1))
  ·rfl
 ·obtain⟨s',r',hc⟩:=h.sK κ jL;exact⟨s',r',by rw[TM _<|.inr ⟨κ,jL,rfl⟩];exact hc⟩
 ·obtain⟨cap,s',r',hc⟩:=h.over;exact⟨cap,s',r',by rw[TM _<|.inl rfl];exact hc⟩
 ·obtain⟨r,hr,hb⟩:=h.rel i hi dF;exact⟨r,hr.appOther ofEvents_g<|by omega,hb⟩
theorem asV(h:lL.phi n (Vc n<|gJ st)<tag.phi n (Vc n<|gJ st)):vI n lL st<vI n tag st:=by unfold vI;omega
theorem IA(a:Addr)(h:a.block=X.Wg)(wr:Bool):X.PQ ⟨.cell a,wr,true⟩:=.inr<|.inr<|.inr<|.inr<|.inl ⟨a,wr,rfl,h⟩
theorem bV.Inv2.acO(F:X.Fit)(oW:∀(i:Nat) (k:K),ks[i]? =ae k->∀l S g w,X.Fin k l S g w->∃v,X.BD ty n i v g w/\dH k l v S w)(qP:∀k l v S w w1,dH k l v S w->bu S (X.side k) w w1->dH k l v S w1)(hn:n<2147483648)
 (Lc:∀g w,Anch g w->WgLive ty X.Wg w->∃m,Goes X.P true (RL ty X.Wg) DC0 (X.AtW1 ty dO Anch) m g w)
 (h:X.Inv2 ty n dO Anch Mid dH t0 ks gs w t tag dW E S0 G Sw q bF st D τ)(ha:gs[0]? =ae a)(iy:a.status=.running):X.yF ty n dO Anch Mid dH t0 ks bF gs w sl t tag st D τ 0\/(tag=.ret/\a=dO/\∀w1,bu S0 E w w1->Mid S0 w1):=by
 have pX:=h.base.pos;obtain⟨wa,wb,dh,kR⟩:=h.wg;have amG:WgLive ty X.Wg w:=⟨_,_,dh⟩;have hVn:=Vc_le n<|gJ st;obtain⟨a',ha',hm⟩:=h.main;rw[ha]at ha';cases ha';have hCW:X.C≠X.Wg:=Ne.s h.base.iM.1;have refl:RL ty X.Wg w w:=id;have iw:∀{a':bM} {w2:ay} {es:Array Event} {lL:jE} {f:Nat} {x y:Int},bK X.P true a w=.go a' w2 es->Aside X.Wg w w2->WgAt ty X.Wg w2 x y->(∀e∈es,X.PQ e)->deafBehind tag.deaf es=lL.deaf->X.wH ty dO Anch lL f a' w2->(∀w1,bu S0 E w w1->Mid S0 w1)->
  Go.ConcN.Mode n (gJ st) lL.c x y->(lL=.ret->FY t0.size X.Wg X.m0 n (t++MemOp.ofEvents 0 a.frame.fn a.frame.place es))->(lL.phi n (Vc n<|gJ st)<tag.phi n (Vc n<|gJ st)\/(lL.phi n (Vc n<|gJ st)<=tag.phi n (Vc n<|gJ st)/\T.xB (T.nat f) τ))->X.yF ty n dO Anch Mid dH t0 ks bF gs w sl t tag st D τ 0:=by
  intro a' w2 es lL f x y hgo hA A7 eX hd hcs yh VU afd aK;obtain⟨k0,kW⟩:=h.base.aside (.inl rfl) h.MW hA;refine h.aiQ F oW qP ha hgo (S1:=S0) (iZ:=T.nat f) ?_ (.iw hcs fun w1 k=>yh w1<|k0.t k) kW (fun i=>RW.of_wg hA ⟨_,_,A7⟩ hCW) (fun b hb=>hA.block b ?_) (Yd (hA.block X.C hCW) h.pay) ⟨x,y,A7,VU⟩ afd<|aK.imp asV fun z=>⟨by unfold vI;omega,z.2⟩
  ·have:=h.base.iw (gs':=(gs.map<|woken X.P a a' w2).setIfInBounds 0 a') (fn:=a.frame.fn) (pos:=a.frame.place) (acJ h.base.qw hA) hA.size eX (by simp)<|h.base.JV a a' w2 a'<|.inl rfl;rw[hd]at this;exact this
  ·rcases hb with rfl|⟨κ,jL,rfl⟩
   ·exact Ne.s h.base.iM.2.1
   ·exact(h.base.iM.2.2.2.1 κ jL).1
 cases hm with
 | @pre σ _ _ hT=>
   left;cases σ with
   |step f=>
    obtain⟨a',w2,es,hgo,hG,Ce⟩:=hT.2 w<|bu.refl _ _ _;obtain⟨kW,kS⟩:=h.base.aiH hG;have DW:=kS X.Wg<|.inl rfl;have GY:=kS X.C<|.inr<|.inl rfl;exact h.aiQ F oW qP ha hgo (lL:=.pre) (S1:=grow S0 w w2) (iZ:=(f w).more) (h.base.step0 hG (by simp)<|h.base.JV a a' w2 a'<|.inl rfl) (.pre Ce) kW (fun i=>aiN DW GY i) (fun b hb=>kS b<|hb.e (fun e=>.inr<|.inr<|.inl e) fun e=>.inr<|.inr<|.inr e) (Yd GY h.pay) ⟨wa,wb,dh.of_block DW,kR⟩ (by simp)<|.inr ⟨dI _,.one<|T.TA<|.mk f w⟩
   |stop=>
    obtain⟨⟨_,hkd⟩,_⟩:=hT w<|bu.refl _ _ _;obtain⟨a',hgo,m,hg⟩:=hkd amG;exact iw hgo (.refl X.Wg w) dh (by intro e he;simp at he;subst he;exact .inl rfl) (lL:=.anch) rfl (.anch hg) (fun w1 k=>(hT w1 k).2) (kR.reopen trivial trivial rfl<|by simp[jE.c]) (by simp)<|.inl (by simp only[jE.phi];omega)
 | @iw _ f _ _ hcs yh=>
   have idle:∀{a':bM} {f':Nat},bK X.P true a w=.go a' w #[]->X.wH ty dO Anch tag f' a' w->f=f'+1->(tag=.ret->FY t0.size X.Wg X.m0 n t)->X.yF ty n dO Anch Mid dH t0 ks bF gs w sl t tag st D (T.nat f) 0:=by
    intro a' f' hgo aAM hf afd;subst hf;exact iw hgo (.refl X.Wg w) dh (by simp) rfl aAM yh kR (fun e=>by rw[aGz];simpa using afd e)<|.inr ⟨dI _,.one<|T.JS f'⟩
   have w1s:∀{m:Nat} {aiS:jE},aiS=.w1->Goes X.P true (RL ty X.Wg) DC0 (X.AtW1 ty dO Anch) m a w->Go.ConcN.Mode n (gJ st) .w1 wa wb->tag.deaf=1->(jE.phi n (Vc n<|gJ st) .w1<tag.phi n (Vc n<|gJ st)\/(tag=.w1/\f=m))->X.yF ty n dO Anch Mid dH t0 ks bF gs w sl t tag st D (T.nat f) 0:=by
    intro m aiS _ hg VI VV hph;obtain⟨ho,rfl,rfl,_⟩:=VI.open_inv trivial;rcases aFy hg with oD|⟨m',rfl,jT⟩
    ·obtain⟨_,jR⟩:=oD w refl;obtain⟨a',hgo,h0,dD⟩:=jR (Vc n<|gJ st) (by omega) (by simpa[Go.ConcN.pend]using dh);have hp:jE.phi n (Vc n<|gJ st) .w1<=tag.phi n (Vc n<|gJ st):=by rcases hph with h|⟨rfl,_⟩<;>omega
     by_cases hv:Vc n (gJ st)=0
     ·obtain⟨m₂,hk⟩:=h0 hv;have e:((Vc n (gJ st)+Go.ConcN.pend .w1:Nat):Int)*KK=0:=by rw[hv];simp[Go.ConcN.pend]
      refine iw hgo (.refl X.Wg w) dh (by intro e he;simp at he;subst he;exact IA _ rfl _) (lL:=.ke) (by rw[VV];rfl) (.ke hk) yh ?_ (by simp) (.inl (by simp only[jE.phi]at hp⊢;omega));rw[e];exact .fin trivial<|allQuit_of ho hv
     ·obtain⟨m₂,hk⟩:=dD hv;exact iw hgo (.refl X.Wg w) dh (by intro e he;simp at he;subst he;exact IA _ rfl _) (lL:=.w2<|Vc n<|gJ st) (by rw[VV];rfl) (.w2 hk) yh (VI.reopen trivial trivial rfl (fun vs e=>by cases e;omega)) (by simp)<|.inl (by simp only[jE.phi]at hp⊢;omega)
    ·obtain⟨a',w2,es,hgo,⟨rfl,rfl⟩,mJ⟩:=jT w refl;refine iw hgo (.refl X.Wg w2) dh (by simp) (lL:=.w1) (by rw[VV];rfl) (.w1 mJ) yh VI (by simp) ?_;rcases hph with h|⟨rfl,rfl⟩
     ·exact .inl h
     ·exact .inr ⟨dI _,.one<|T.JS m'⟩
   cases hcs with
   |anch hg=>
    left;rcases aFy hg with oD|⟨m',rfl,jT⟩
    ·obtain⟨m,wR⟩:=Lc a w (oD w refl) amG;exact w1s rfl wR (kR.reopen trivial trivial rfl<|by simp) rfl<|.inl (by simp only[jE.phi];omega)
    ·obtain⟨a',w2,es,hgo,⟨rfl,rfl⟩,mJ⟩:=jT w refl;exact idle hgo (.anch mJ) rfl<|by simp
   |w1 hg=>exact .inl<|w1s rfl hg kR rfl<|.inr ⟨rfl,rfl⟩
   | @w2 _ _ _ vs hg=>
     left;rcases aFy hg with oD|⟨m',rfl,jT⟩
     ·obtain⟨_,jR⟩:=oD w refl;obtain⟨ho,rfl,rfl,Z8⟩:=kR.open_inv trivial;obtain⟨jP,AB⟩:=Z8 vs rfl;have wX:WgAt ty X.Wg w ((Vc n (gJ st):Nat)*KK) 0:=by simpa[Go.ConcN.pend,jE.c]using dh
      obtain⟨aAN,aAO⟩:=jR (Vc n<|gJ st) (by omega) wX;by_cases e:Vc n (gJ st)=vs
      ·obtain⟨a',hgo,m₂,hk⟩:=aAN e;refine iw hgo (aFD w (stA X.Wg) _) (wX.setSt _) (by intro e he;simp at he;rcases he with rfl|rfl<;>exact IA _ rfl _) (lL:=.wr) rfl (.wr hk) yh ?_ (by simp) (.inl (by simp only[jE.phi];omega));exact .reg trivial ho<|by omega
      ·obtain⟨a',hgo,m₂,hk⟩:=aAO e;exact iw hgo (.refl X.Wg w) dh (by intro e he;simp at he;subst he;exact IA _ rfl _) (lL:=.anch) rfl (.anch hk) yh (kR.reopen trivial trivial rfl<|by simp[jE.c]) (by simp)<|.inl (by simp only[jE.phi];omega)
     ·obtain⟨a',w2,es,hgo,⟨rfl,rfl⟩,mJ⟩:=jT w refl;exact idle hgo (.w2 mJ) rfl<|by simp
   |wr hg=>
    left;rcases aFy hg with oD|⟨m',rfl,jT⟩
    ·obtain⟨_,a',hgo,m₂,hk⟩:=oD w refl;exact iw hgo (.refl X.Wg w) dh (by intro e he;simp at he;subst he;exact .inr<|.inr<|.inr<|.inl ⟨_,rfl,rfl⟩) (lL:=.w3) rfl (.w3 hk) yh kR (by simp)<|.inl (by simp only[jE.phi];omega)
    ·obtain⟨a',w2,es,hgo,⟨rfl,rfl⟩,mJ⟩:=jT w refl;exact idle hgo (.wr mJ) rfl<|by simp
   | @w3 m _ _ hg=>
     left;rcases aFy hg with oD|⟨m',rfl,jT⟩
     ·obtain⟨_,VP,asW,aAP⟩:=oD w refl;have blk:wb=0->Go.ConcN.Mode n (gJ st) .blk wa wb->X.yF ty n dO Anch Mid dH t0 ks bF gs w sl t .w3 st D (T.nat<|m+1) 0:=by
       intro h0 Cf;subst h0;exact iw (asW ⟨_,dh⟩) (.refl X.Wg w) dh (by simp) (lL:=.blk) rfl (.blk oD) yh Cf (by simp)<|.inr ⟨dI _,T.aiJ m⟩
      generalize Fh:jE.c .w3=ct at kR;cases kR with
      |opn h1 _ _=>rw[<-Fh]at h1;exact h1.e
      |reg h1 h2 h3=>exact blk rfl<|.reg trivial h2 h3
      |last L h1 h2 h3 h4=>exact blk rfl<|.last L trivial h2 h3 h4
      |sema h2=>
       obtain⟨a',hgo,m₂,hk⟩:=aAP dh;refine iw hgo (aFD w (smA X.Wg) _) (dh.setSm 0) (es:=semEvents<|smA X.Wg) ?_ (lL:=.w4) (by simp[jE.deaf,deafBehind,semEvents]) (.w4 hk) yh (.fin trivial h2) (by simp) (.inl (by simp only[jE.phi];omega));intro e he;simp[semEvents]at he;rcases he with rfl|rfl|rfl|rfl
       ·exact .inl rfl
       ·exact IA _ rfl _
       ·exact IA _ rfl _
       ·exact .inr<|.inl rfl
      |fin h1 _=>rw[<-Fh]at h1;exact h1.e
     ·obtain⟨a',w2,es,hgo,⟨rfl,rfl⟩,mJ⟩:=jT w refl;exact idle hgo (.w3 mJ) rfl<|by simp
   |blk _=>simp at iy
   |w4 hg=>
    left;obtain⟨hq,rfl,rfl⟩:=kR.fin_inv trivial;rcases aFy hg with oD|⟨m',rfl,jT⟩
    ·obtain⟨_,hx⟩:=oD w refl;obtain⟨a',hgo,m₂,hk⟩:=hx dh;exact iw hgo (.refl X.Wg w) dh (by intro e he;simp at he;subst he;exact IA _ rfl _) (lL:=.ke) rfl (.ke hk) yh (.fin trivial hq) (by simp)<|.inl (by simp only[jE.phi];omega)
    ·obtain⟨a',w2,es,hgo,⟨rfl,rfl⟩,mJ⟩:=jT w refl;exact idle hgo (.w4 mJ) rfl<|by simp
   |ke hg=>
    left;obtain⟨hq,rfl,rfl⟩:=kR.fin_inv trivial;rcases aFy hg with oD|⟨m',rfl,jT⟩
    ·obtain⟨_,a',hgo,m₂,hk⟩:=oD w refl;exact iw hgo (.refl X.Wg w) dh (by intro e he;simp at he;subst he;exact .inr<|.inl rfl) (lL:=.acq) rfl (.acq hk) yh (.fin trivial hq) (by simp)<|.inl (by simp only[jE.phi];omega)
    ·obtain⟨a',w2,es,hgo,⟨rfl,rfl⟩,mJ⟩:=jT w refl;exact idle hgo (.ke mJ) rfl<|by simp
   |acq hg=>
    left;obtain⟨hq,rfl,rfl⟩:=kR.fin_inv trivial;rcases aFy hg with oD|⟨m',rfl,jT⟩
    ·obtain⟨_,a',hgo,m₂,hk⟩:=oD w refl;refine iw hgo (.refl X.Wg w) dh (by intro e he;simp at he;subst he;exact .inr<|.inr<|.inr<|.inr<|.inr ⟨_,rfl,rfl⟩) (lL:=.ret) rfl (.ret hk) yh (.fin trivial hq) (fun _=>?_) (.inl (by simp only[jE.phi];omega));have e1:MemOp.ofEvents 0 a.frame.fn a.frame.place #[Go.ConcR.mk<|.acquire<|stA X.Wg]=#[{g:=0,fn:=a.frame.fn,pos:=a.frame.place,act:=.mark<|.acquire<|stA X.Wg}]:=by rw[aGz];simp[Go.ConcR.ofEvent_mk]
     rw[e1];have hy:(t++ #[({g:=0,fn:=a.frame.fn,pos:=a.frame.place,act:=.mark<|.acquire<|stA X.Wg}:MemOp)])[t.size]? =ae {g:=0,fn:=a.frame.fn,pos:=a.frame.place,act:=.mark<|.acquire<|stA X.Wg}:=by simp
     refine⟨t.size,by rw[act?_of hy],by simp[Trace.g?],⟨0,by simp[Trace.g?],by rw[deaf_old<|dI _];exact h.base.deaf0⟩,fun i hi=>?_⟩;have h1:=hq i hi;have EW:st i<=6:=by
      have:min (st i) 7=1:=h1;omega
     obtain⟨r,hr,hb⟩:=h.rel i hi EW;exact⟨r,hr.appOther (x:=0) (by intro op aP;simp at aP;rw[aP])<|by omega,lt_of_act? hr.rel.act,hb⟩
    ·obtain⟨a',w2,es,hgo,⟨rfl,rfl⟩,mJ⟩:=jT w refl;exact idle hgo (.acq mJ) rfl<|by simp
   |ret hg=>
    rcases aFy hg with oD|⟨m',rfl,jT⟩
    ·exact .inr ⟨rfl,oD w refl,yh⟩
    ·left;obtain⟨a',w2,es,hgo,⟨rfl,rfl⟩,mJ⟩:=jT w refl;exact idle hgo (.ret mJ) rfl h.acq
end
end fU
end
section
namespace fU
open Go Go.Conc Twin
open Go.ConcN (upd upd_same upd_ne WgLive PayAt Has RW WSit WD CTag Vc cnt sumTo RelBy exists_counted)
open Go.ConcR (stA smA rd wr KK WgAt DC0 Payload Bk)
section
variable [Payload]{K:Type}{X:bV K}{ty:dJ}{n:Nat}{dO:bM}{Anch:bM->ay->Prop}{Mid:aO->ay->Prop}{dH:K->List aA->aA->aO->ay->Prop}
 {t0:Trace}{ks:List K}{gs:Array bM}{w:ay}{t:Trace}{tag:jE}{dW:Nat->Nat}{E:dL}{S0 G:aO}{Sw:Nat->aO}{q:Nat->Nat}{bF:Nat->List aA}{st:Nat->Nat}{D:Nat->T}{τ:T}{sl:Option (Nat×Nat)}
theorem bV.Inv2.acP(F:X.Fit)(hA:∀g w,Anch g w->g.status=.running)(hE:dO.status=.running)(oW:∀(i:Nat) (k:K),ks[i]? =ae k->∀l S g w,X.Fin k l S g w->∃v,X.BD ty n i v g w/\dH k l v S w)
 (h:X.Inv2 ty n dO Anch Mid dH t0 ks gs w t tag dW E S0 G Sw q bF st D τ){i:Nat}{g:bM}(h0:0<i)(hi:i<X.m0)(hg:gs[i]? =ae g)(iy:g.status=.running):X.yF ty n dO Anch Mid dH t0 ks bF gs w sl t tag st D τ i:=by
 have hq:=h.base.old i g h0 hi hg;have aK:i<gs.size:=(jF.1 hg).1;have o9:(i==0)=false:=by simp<;>omega
 cases vU:q i with
 |zero=>rw[vU]at hq;rw[hq.1]at iy;cases iy
 |succ m=>
  rw[vU]at hq;rcases hq with⟨hf,_⟩|⟨_,g',es,hm,dF,qH⟩
  ·rw[hf]at iy;cases iy
  have hr:=aFz (P:=X.P) (sl:=sl) (i:=i) hg (by rw[o9];exact dF w);have hb:=h.base.leave (fn:=g.frame.fn) (pos:=g.frame.place) h0 hi hm qH g g' w;obtain⟨a,ha,hmn⟩:=h.main;obtain⟨jD,oV,DR,ae7,_⟩:=hmn.woken hA hE (bu.refl S0 E w) id g g';have F6:jD=tag\/(tag=.blk/\jD=.w3):=ae7.imp (·.1) id;have ae9:jD.deaf=tag.deaf:=by rcases F6 with rfl|⟨rfl,rfl⟩<;>rfl
  have sil:∀op∈MemOp.ofEvents i g.frame.fn g.frame.place es,op.act.touch?=none:=fun op aP=>by obtain⟨e,he,rfl⟩:=aFc aP;exact touch_mute<|hm e he
  obtain⟨wa,wb,dh,kR⟩:=h.wg;refine⟨_,w,_,jD,dW,E,S0,G,Sw,upd q i m,st,upd D i<|T.nat m,oV,hr,⟨ae9.s▸hb,h.len,h.MW,⟨_,by rw[iK<|by omega,yl,ha];rfl,DR⟩,fun i' k' dV=>?_,fun j j0 j1=>?_,h.sK,h.over,⟨wa,wb,dh,PW kR F6⟩,h.pay,fun i' nI h6=>let ⟨r,hr,hb⟩:=h.rel i' nI h6;⟨r,hr.xu sil,hb⟩,fun e=>?_⟩,.inr ⟨?_,.inl ⟨i,aK,?_,fun j hj=>aFl _ _ hj⟩⟩⟩
  ·obtain⟨x,hx,hs⟩:=h.work i' k' dV;have dF:=hs.status F fun S g w y=>let ⟨_,z,_⟩:=oW i' k' dV _ S g w y;z.run;refine⟨x,?_,by rw[aFl D _<|by omega];exact hs⟩;rw[iK<|by omega,yl,hx];simp only[Ho,gU];unfold Go.Conc.woken;split
   ·exact aF8 _ (dF.imp id (·.1))
   ·rfl
  ·by_cases e:j=i
   ·subst e;rw[aFj,aFj]
   ·rw[aFl D _ e,aFl q _ e];exact h.old j j0 j1
  ·rcases F6 with rfl|⟨_,rfl⟩
   ·exact(h.acq e).app fun i' r _ hr=>hr.xu sil
   ·cases e
  ·rcases F6 with rfl|⟨rfl,rfl⟩<;>exact dI _
  ·rw[aFj,h.old i h0 hi,vU];exact T.JS m
theorem bV.Inv2.awake(F:X.Fit)(hA:∀g w,Anch g w->g.status=.running)(hE:dO.status=.running)(oW:∀(i:Nat) (k:K),ks[i]? =ae k->∀l S g w,X.Fin k l S g w->∃v,X.BD ty n i v g w/\dH k l v S w)
 (h:X.Inv2 ty n dO Anch Mid dH t0 ks gs w t tag dW E S0 G Sw q bF st D τ):∀g∈gs,awake g:=by
 intro g hg;obtain⟨j,hj⟩:=anD.1 hg;rcases h.base.FX hj with rfl|⟨h1,h2⟩|⟨i,k,rfl,hk⟩
 ·obtain⟨a,ha,hm⟩:=h.main;rw[hj]at ha;cases ha;rcases hm.status hA hE with⟨hs,_⟩|⟨_,g0,rfl,_⟩
  ·exact aFG<|.inl hs
  ·exact aFG<|.inr<|.inl rfl
 ·exact aFG<|(h.base.old j g h1 h2 hj).status.e .inl fun x=>.inr<|.inr x
 ·obtain⟨y,hy,hs⟩:=h.work i k hk;rw[hj]at hy;cases hy;rcases hs.status F fun S g w y=>let ⟨_,z,_⟩:=oW i k hk _ S g w y;z.run with hs|hs
  ·exact aFG<|.inl hs
  ·exact aFG<|.inr<|.inr hs.1
theorem bV.Inv2.acQ(F:X.Fit)(hA:∀g w,Anch g w->g.status=.running)(hE:dO.status=.running)(oW:∀(i:Nat) (k:K),ks[i]? =ae k->∀l S g w,X.Fin k l S g w->∃v,X.BD ty n i v g w/\dH k l v S w)
 (h:X.Inv2 ty n dO Anch Mid dH t0 ks gs w t tag dW E S0 G Sw q bF st D τ):∃(i:Nat) (g:bM),gs[i]? =ae g/\g.status=.running:=by
 obtain⟨a,ha,hm⟩:=h.main;have wk:∀i,i<n->st i≠1->∃(i:Nat) (g:bM),gs[i]? =ae g/\g.status=.running:=by
  intro i hi dD;have hk:ks[i]? =ae (ks[i]'(h.len.s▸hi)):=eY _;obtain⟨y,hy,hs⟩:=h.work i _ hk;rcases hs.status F fun S g w y=>let ⟨_,z,_⟩:=oW i _ hk _ S g w y;z.run with hs|⟨_,hs⟩
  ·exact⟨_,y,hy,hs⟩
  ·exact absurd hs dD
 rcases hm.status hA hE with⟨hs,_⟩|⟨rfl,_⟩
 ·exact⟨0,a,ha,hs⟩
 ·obtain⟨wa,wb,_,kR⟩:=h.wg;generalize Fh:jE.c .blk=ct at kR;cases kR with
  |opn h1 _ _=>rw[<-Fh]at h1;exact h1.e
  |reg _ _ h3=>
   obtain⟨i,hi,h5⟩:=exists_counted h3;exact wk i hi (by have:5<=min (st i) 7:=h5;omega)
  |last L _ h2 h3 _=>
   exact wk L h2 (by
    have:min (st L) 7=4\/min (st L) 7=3\/min (st L) 7=2:=h3;omega)
  |sema _=>cases Fh
  |fin h1 _=>rw[<-Fh]at h1;exact h1.e
theorem bV.asX(F:X.Fit)(TP:∀k l v S w,dH k l v S w->∀B:au.dE,(∀b,B.dB b->¬S b)->au.aI B v)(hA:∀g w,Anch g w->g.status=.running)(hE:dO.status=.running)(oW:∀(i:Nat) (k:K),ks[i]? =ae k->∀l S g w,X.Fin k l S g w->∃v,X.BD ty n i v g w/\dH k l v S w)(qP:∀k l v S w w1,dH k l v S w->bu S (X.side k) w w1->dH k l v S w1)(hn:n<2147483648)
 (Lc:∀g w,Anch g w->WgLive ty X.Wg w->∃m,Goes X.P true (RL ty X.Wg) DC0 (X.AtW1 ty dO Anch) m g w)(N:Nat):∀(A:Nat) (D:Nat->T) (τ:T) {gs:Array bM} {w:ay} {sl:Option (Nat×Nat)} {t:Trace} {tag:jE} {dW:Nat->Nat} {E:dL} {S0 G:aO} {Sw:Nat->aO} {q:Nat->Nat} {st:Nat->Nat},vI n tag st<=A->gs.size=N->
   X.Inv2 ty n dO Anch Mid dH t0 ks gs w t tag dW E S0 G Sw q bF st D τ->
 ∃M gs1 w1 lu t1 JX E1 S1 G1 wG q1 AZ D1 iZ,runNT X.P M (crowd gs w sl) t=(.next<|crowd gs1 w1 lu,t1)/\X.Inv2 ty n dO Anch Mid dH t0 ks gs1 w1 t1 .ret JX E1 S1 G1 wG q1 bF AZ D1 iZ/\gs1[0]? =ae dO/\Mid S1 w1:=by
 refine asL N ?_;intro A D τ MM ihV MN gs w sl t tag dW E S0 G Sw q st hAr hN h;obtain⟨i,g,dd,sl',hi,hg,dF⟩:=aGs (P:=X.P) (w:=w) (sl:=sl) (h.awake F hA hE oW)<|h.acQ F hA hE oW;have h':=h.at qP dd;have key:X.yF ty n dO Anch Mid dH t0 ks bF gs (w.at dd) sl' t tag st D τ i->∃M gs1 w1 lu t1 JX E1 S1 G1 wG q1 AZ D1 iZ,runNT X.P M (crowd gs w sl) t=(.next<|crowd gs1 w1 lu,t1)/\X.Inv2 ty n dO Anch Mid dH t0 ks gs1 w1 t1 .ret JX E1 S1 G1 wG q1 bF AZ D1 iZ/\gs1[0]? =ae dO/\Mid S1 w1:=by
  rintro⟨gs1,w1,ops,lL,JX,E1,S1,G1,wG,q1,AZ,D1,iZ,hr,hI,aK⟩;have fP:gs1.size=N:=by rw[hI.base.size,<-hN,h.base.size]
  have fin:(∃M nV w2 mV t2 dW2 E2 S2 G2 MR q2 Q8 D2 Eu,runNT X.P M (crowd gs1 w1 sl') (t++ops)=(.next<|crowd nV w2 mV,t2)/\X.Inv2 ty n dO Anch Mid dH t0 ks nV w2 t2 .ret dW2 E2 S2 G2 MR q2 bF Q8 D2 Eu/\nV[0]? =ae dO/\Mid S2 w2)->
   ∃M gs1 w1 lu t1 JX E1 S1 G1 wG q1 AZ D1 iZ,runNT X.P M (crowd gs w sl) t=(.next<|crowd gs1 w1 lu,t1)/\X.Inv2 ty n dO Anch Mid dH t0 ks gs1 w1 t1 .ret JX E1 S1 G1 wG q1 bF AZ D1 iZ/\gs1[0]? =ae dO/\Mid S1 w1:=by
   rintro⟨M,nV,w2,mV,t2,dW2,E2,S2,G2,MR,q2,Q8,D2,Eu,r1,r2,r3,r4⟩;refine⟨M+1,nV,w2,mV,t2,dW2,E2,S2,G2,MR,q2,Q8,D2,Eu,?_,r2,r3,r4⟩;simp only[runNT,dF,hr];exact r1
  rcases aK with hl|⟨hl,hv|⟨rfl,BC⟩⟩
  ·exact fin<|MM (vI n lL AZ) D1 iZ (by omega) (sl:=sl') (dI _) fP hI
  ·exact fin<|ihV D1 iZ (hN▸hv) (sl:=sl') (by omega) fP hI
  ·exact fin<|MN iZ BC (sl:=sl') (by omega) fP hI
 rcases h'.base.FX hi with rfl|⟨h1,h2⟩|⟨i,k,rfl,hk⟩
 ·rcases h'.acO (sl:=sl') F oW qP hn Lc hi hg with hx|⟨rfl,rfl,hM⟩
  ·exact key hx
  ·exact⟨0,gs,w,sl,t,dW,E,S0,G,Sw,q,st,D,τ,rfl,h,hi,hM w<|bu.at S0 E (w.at dd) w.drawn⟩
 ·exact key<|h'.acP F hA hE oW h1 h2 hi hg
 ·by_cases h8:8<=st i
  ·exact key<|h'.asO F TP hA hE oW qP hk hi h8
  ·exact key<|h'.asR F hA hE oW qP hn hk hi (by omega) hg
theorem bV.Inv2.done{B0:Nat}(hP:Past (lK X.iQ) B0 t0)(h:X.Inv2 ty n dO Anch Mid dH t0 ks gs w t .ret dW E S0 G Sw q bF st D τ):
 (∃q',Leavers X.P t gs q')/\Past (lK fun b=>X.iQ b\/b=X.Wg) w.heap.size t/\∀(i:Nat) (k:K),ks[i]? =ae k->∃v,dH k (bF i) v (Sw i) w/\Has X.C i v w:=by
 obtain⟨wa,wb,dh,kR⟩:=h.wg;obtain⟨hq,rfl,rfl⟩:=kR.fin_inv trivial;have dF:∀i,i<n->st i=1:=fun i hi=>by
  have:min (st i) 7=1:=hq i hi;omega
 have hw:∀(i:Nat) (k:K),ks[i]? =ae k->∃g,gs[X.m0+i]? =ae g/\∃v m,QuitsD X.P m (dW i) g/\dH k (bF i) v (Sw i) w/\Has X.C i v w:=by
  intro i k hk;have hi:i<n:=h.len▸(dS.1 hk).1;obtain⟨g,hg,hs⟩:=h.work i k hk;refine⟨g,hg,?_⟩;rw[dF i hi]at hs;generalize hd:dW i=dd at hs;generalize hDi:D (X.m0+i)=σ at hs;generalize h1:(1:Nat)=s1 at hs;cases hs with
  |run=>omega
  |MS=>omega
  |fin=>omega
  |done=>omega
  | @iw v _ m _ _ _ hl h6 hr hh=>
    cases hl with
    |quit hq=>exact⟨v,m,hq,hr,hh⟩
    |_=>omega
 refine⟨?_,?_,fun i k hk=>let ⟨g,_,v,m,_,h1,h2⟩:=hw i k hk;⟨v,h1,h2⟩⟩
 ·have:∀i,∃m,∀g,0<i->gs[i]? =ae g->QuitsD X.P m (Deaf t i) g:=by
   intro i;by_cases h0:0<i
   ·cases hg:gs[i]? with
    |none=>exact⟨0,fun g _ e=>by cases e⟩
    |some g=>
     rcases h.base.FX hg with rfl|⟨h1,h2⟩|⟨j,k,rfl,hk⟩
     ·omega
     ·exact⟨q i,fun g' _ e=>by cases e;exact h.base.old i g h1 h2 hg⟩
     ·obtain⟨g',mJ,v,m,hq,_⟩:=hw j k hk;rw[hg]at mJ;cases mJ;exact⟨m,fun g' _ e=>by cases e;rw[h.base.deafW j (dS.1 hk).1];exact hq⟩
   ·exact⟨0,fun g e=>absurd e h0⟩
  obtain⟨q',qH⟩:=Rw this;exact⟨q',fun i g h0 hg=>qH i g h0 hg,h.base.above⟩
 ·obtain⟨qq,ha,BV,hh,jR⟩:=h.acq rfl;obtain⟨u,hu,amH⟩:=h.base.base;have DU:∀l,lK X.iQ l->lK (fun b=>X.iQ b\/b=X.Wg) l:=fun l hl=>lK.z (fun b hb=>.inl hb) hl;have before:∀i k r,wI X.Wg t k r->r<qq->t0.size<=r->i<=r->t.g? i=ae k->HappensBefore t i qq:=by
   intro i k r hr Om qI hir DX;have edge:HappensBefore t r qq:=.single (.inr ⟨.marked Om (.inr hr.rel.act) ha (fun k h1 _=>h.base.norel k<|by omega),hr.rel.heard,hh⟩);rcases FB i r with aK|ET
   ·exact .trans (.single<|.inl ⟨aK,k,DX,hr.rel.g⟩) edge
   ·obtain rfl:i=r:=by omega
    exact edge
  obtain⟨z,hz,hzg⟩:=zY.1 BV;refine⟨h.base.ti.clean,fun i a hta pW=>?_,fun i g DX dD hc=>?_,h.base.deaf0,h.base.seen⟩
  ·obtain⟨op,aP,wW⟩:=aFT hta;rw[hu]at aP;rcases aFt aP with⟨aK,aae⟩|⟨_,zO⟩
   ·rcases hP.known i a (by rw[aGd aae];exact wW) pW with hk|⟨hs,hk⟩
    ·left;rw[hu];exact hk.app u
    ·exact .inr ⟨DU _ hs,hk⟩
   ·rw[<-hu]at aP;rcases amH op zO (by rw[wW];simp)with h0|⟨j,hj,hgj⟩
    ·left;have:=knows_own aP;rwa[h0]at this
    ·obtain⟨r,hr,Om,qI⟩:=jR j<|h.len▸hj;have DX:t.g? i=ae (X.m0+j):=by simp[Trace.g?,aP,hgj]
     rcases FB r i with aK|ET
     ·obtain⟨⟨ad,h1,h2⟩,h3⟩:=hr.a i aK DX a hta;right;rw[h1];exact⟨.inr h2,h3⟩
     ·exact .inl ⟨qq,z,hz,hzg,.inr<|before i _ r hr Om qI ET DX⟩
  ·obtain⟨x,hx,mW⟩:=hc;have hta:touchAt t i=ae x:=hx;obtain⟨op,aP,wW⟩:=aFT hta;have amI:=aP;rw[hu]at aP;rcases aFt aP with⟨aK,aae⟩|⟨_,zO⟩
   ·obtain⟨j,hj,hb⟩:=hP.over i g (by rw[hu,aGC aK]at DX;exact DX) dD ((counts_old (u:=u) aK).1 (by rw[<-hu];exact⟨x,hx,mW⟩));have KU:j<t0.size:=by
     obtain⟨y,hy,_⟩:=zY.1 hj;exact aFZ hy
    exact⟨j,by rw[hu,aGC KU];exact hj,by rw[hu];exact hb_app u hb⟩
   ·have asY:op.g=g:=by simpa[Trace.g?,amI]using DX
    rcases amH op zO (by rw[wW];simp)with h0|⟨j,hj,hgj⟩
    ·rw[asY]at h0;exact absurd h0 dD
    ·obtain⟨r,hr,Om,qI⟩:=jR j<|h.len▸hj;have amJ:t.g? i=ae (X.m0+j):=by simp[Trace.g?,amI,hgj]
     have hle:i<=r:=Nat.le_of_not_lt fun aK=>hr.rel.after i aK amJ ⟨x,hx,mW⟩;exact⟨qq,BV,before i _ r hr Om qI hle amJ⟩
end
end fU
end
section
namespace fU
open Go Go.Conc Twin
open Go.ConcN (upd upd_same upd_ne WgLive PayAt Has RW WSit WD CTag Vc cnt sumTo)
open Go.ConcR (stA smA rd wr KK WgAt DC0 Payload Bk)
section
variable [Payload]{K:Type}(X:bV K)(ty:dJ)(n:Nat)(Anch:bM->ay->Prop)(Mid:aO->ay->Prop)(dH:K->List aA->aA->aO->ay->Prop)(Good:List K->Prop)
structure bV.AtClose(ks:List K)(E:dL)(S:aO)(g:bM)(w:ay):Prop where
 len:ks.length=n
 BB:Good ks
 wg:WgAt ty X.Wg w (n*KK) 0
 asZ:mayWake X.P g=true
 fin:∀(i:Nat) (k:K),ks[i]? =ae k->∀l S g w,X.Fin k l S g w->∃v,X.BD ty n i v g w/\dH k l v S w
 close:∃(g':bM) (E2:dL),g'.status=.running/\(∀b,E2.ro b->E.ro b/\b≠X.Wg)/\(∀b,E2.rd b->E.rd b)/\∀cap s r,w.heap[X.ov]? =ae (.chan cap #[] false s r false)->
  bK X.P true g w=.go g' {w with heap:=w.heap.setIfInBounds X.ov<|.chan cap #[] true s r false} #[⟨.obj X.ov,false,true⟩,⟨.obj X.ov,true,true⟩]/\
  aC X.P true E2 (fun S g w=>X.AtKd ty Anch g w/\Mid S w) S g' {w with heap:=w.heap.setIfInBounds X.ov<|.chan cap #[] true s r false}
end
section
variable [Payload]{K:Type}{X:bV K}{ty:dJ}{n:Nat}{dO:bM}{Anch:bM->ay->Prop}{Mid:aO->ay->Prop}{dH:K->List aA->aA->aO->ay->Prop}{Good:List K->Prop}
 {t0:Trace}{ks:List K}{gs:Array bM}{w:ay}{t:Trace}{E:dL}{S0 G:aO}{Sw:Nat->aO}{q:Nat->Nat}{bF:Nat->List aA}{D:Nat->T}{τ:T}{sl:Option (Nat×Nat)}{o:Option Obj}
theorem aiV:∀n,Vc n (gJ fun _=>9)=n
 |0=>rfl
 |n+1=>by
  have:=aiV n;unfold Vc at*
  simp only[sumTo,this];rfl
theorem bV.Inv1.close{End:List K->dL->aO->bM->ay->Prop}(F:X.Fit)(h:X.Inv1 End o t0 [] ks gs w t 0 E S0 G Sw q bF D τ)(GZ:∃cs:Array aA,o=ae (.cells cs Payload.ety)/\cs.size=n){a:bM}(ha:gs[0]? =ae a)(hc:X.AtClose ty n Anch Mid dH Good ks E S0 a w):
 ∃gs1 w1 ops E1 D1 iZ,runT X.P (crowd gs w sl) 0=(.next<|crowd gs1 w1 sl,ops)/\gs1.size=gs.size/\X.Inv2 ty n dO Anch Mid dH t0 ks gs1 w1 (t++ops) .pre (fun _=>0) E1 S0 G Sw q bF (fun _=>9) D1 iZ:=by
 have pX:=h.base.pos;have aK:0<gs.size:=by rw[h.base.size];omega
 obtain⟨cap,s,r,ho⟩:=h.over;obtain⟨a',E2,iy,Jh,VL,jT⟩:=hc.close;obtain⟨hgo,hR⟩:=jT cap s r ho;have AY:X.ov<w.heap.size:=h.base.mem.low _<|.inr<|.inr<|.inl rfl;have hr:=aFz (P:=X.P) (sl:=sl) (i:=0) ha hgo;have fP:({w with heap:=w.heap.setIfInBounds X.ov<|.chan cap #[] true s r false}:ay).heap.size=w.heap.size:=by simp
 have NT:∀b,b≠X.ov->({w with heap:=w.heap.setIfInBounds X.ov<|.chan cap #[] true s r false}:ay).heap[b]? =w.heap[b]? :=fun b hb=>iK<|Ne.s hb;have amK:({w with heap:=w.heap.setIfInBounds X.ov<|.chan cap #[] true s r false}:ay).heap[X.ov]? =ae (.chan cap #[] true s r false):=um AY;have as3:au.jK X.dB ({w with heap:=w.heap.setIfInBounds X.ov<|.chan cap #[] true s r false}:ay):=h.base.qw.setObj fun _ v hv=>by simp at hv
 have htp:({w with heap:=w.heap.setIfInBounds X.ov<|.chan cap #[] true s r false}:ay).tape=w.tape/\({w with heap:=w.heap.setIfInBounds X.ov<|.chan cap #[] true s r false}:ay).os=w.os/\({w with heap:=w.heap.setIfInBounds X.ov<|.chan cap #[] true s r false}:ay).output=w.output:=⟨rfl,rfl,rfl⟩;generalize({w with heap:=w.heap.setIfInBounds X.ov<|.chan cap #[] true s r false}:ay)=w' at*
 obtain⟨_,_,nW,nR⟩:=h.base.TG (b:=X.ov)<|.inr<|.inr<|.inl rfl;have kW:∀i k,ks[i]? =ae k->bu (Sw i) (X.side k) w w':=fun i k hk=>⟨htp.1,htp.2.1,htp.2.2,CQ fP.s,fun b hb=>NT b fun e=>nW i (dS.1 hk).1<|e▸hb,fun b hb=>NT b fun e=>nR i k hk<|e▸hb⟩;have hwk:∀g,woken X.P a a' w' g=g.again w':=fun g=>by
  unfold woken;rw[if_pos];rw[hc.asZ,iy];rfl
 have hb:=h.base.ev0 (w':=w') (gs':=(gs.map<|woken X.P a a' w').setIfInBounds 0 a') (fn:=a.frame.fn) (pos:=a.frame.place) (es:=#[⟨.obj X.ov,false,true⟩,⟨.obj X.ov,true,true⟩]) as3 fP (by
  intro e he;simp only[uo,jZ,qh,qi]at he;rcases he with rfl|rfl
  ·refine⟨AY,by simp[MemAct.ofEvent],fun x hx=>?_⟩;simp only[MemAct.ofEvent,MemAct.touch?,gU]at hx;subst hx;exact .inl ⟨.inr rfl,by simp⟩
  ·refine⟨AY,by simp[MemAct.ofEvent],fun x hx=>?_⟩;simp[MemAct.ofEvent,MemAct.touch?]at hx) (by simp) (h.base.JV a a' w' a'<|.inl rfl)
 obtain⟨iZ,BC⟩:=JU hR;have hD:∃D1:Nat->T,(∀i,0<i->i<X.m0->D1 i=T.nat (q i))/\∀(i:Nat) (k:K),ks[i]? =ae k->∃g,((gs.map<|woken X.P a a' w').setIfInBounds 0 a')[X.m0+i]? =ae g/\X.zk ty n dH i k (bF i) (Sw i) 9 (D1<|X.m0+i) 0 g w':=by
  have aAT:∀i,∃σ:T,(0<i->i<X.m0->σ=T.nat (q i))/\∀(j:Nat) (k:K),i=X.m0+j->ks[j]? =ae k->∃g,((gs.map<|woken X.P a a' w').setIfInBounds 0 a')[i]? =ae g/\X.zk ty n dH j k (bF j) (Sw j) 9 σ 0 g w':=by
   intro i;by_cases hi:i<X.m0
   ·exact⟨T.nat<|q i,fun _ _=>rfl,fun j k e=>by omega⟩
   ·cases hk:ks[i-X.m0]? with
    |none=>exact⟨.stop,fun _ h=>absurd h hi,fun j k e dV=>by rw[e,Nat.add_sub_cancel_left,dV]at hk;cases hk⟩
    |some k=>
     obtain⟨g,hg,hs⟩:=h.work (i-X.m0) k hk;have ei:X.m0+(i-X.m0)=i:=by omega
     rw[ei]at hg hs;have wR:((gs.map<|woken X.P a a' w').setIfInBounds 0 a')[i]? =ae (g.again w'):=by rw[iK<|by omega,yl,hg,Ho,hwk]
     have uU:=hs.rely<|kW (i-X.m0) k hk;rcases uU.status F with hrn|⟨g0,z0,z1,sh,rfl,hW⟩
     ·have hag:g.again w'=g:=aF8 _<|.inl hrn;rw[hag]at wR;generalize hDi:D i=σ at uU;cases uU with
      | @run Eu _ _ _ hT=>
        refine⟨Eu.more,fun _ h=>absurd h hi,fun j k' e dV=>⟨g,wR,?_⟩⟩;have ej:i-X.m0=j:=by omega
        rw[ej]at hk hT;rw[hk]at dV;cases dV;exact .run hT
      |parked hW=>simp[Go.Conc.parked]at hrn
     ·refine⟨T.stop.more,fun _ h=>absurd h hi,fun j k' e dV=>⟨_,wR,?_⟩⟩;have ej:i-X.m0=j:=by omega
      rw[ej]at hk hW;rw[hk]at dV;cases dV;rw[again_some_closed (k:=1) (c:=X.ov) (z:=z1) (by simp[bV.cs]) amK];exact .MS hW
  obtain⟨D1,hD1⟩:=Rw aAT;exact⟨D1,fun i h0 h1=>(hD1 i).1 h0 h1,fun i k hk=>(hD1<|X.m0+i).2 i k rfl hk⟩
 obtain⟨D1,hold,as4⟩:=hD;have DW:w'.heap[X.Wg]? =w.heap[X.Wg]? :=NT _ h.base.iM.2.1;have GY:w'.heap[X.C]? =w.heap[X.C]? :=NT _ h.base.iM.2.2.1;refine⟨_,w',_,E2,D1,iZ.more,hr,by simp,⟨⟨hb.size,hb.pos,hb.old,hb.above,hb.deaf0,hb.deafW,⟨hb.mem.sJ,hb.mem.mi,hb.mem.apart,hb.mem.uG,fun b jw=>hb.mem.MO b (Jh b jw).1,fun b jw=>hb.mem.Ir b<|VL b jw,hb.mem.zh,hb.mem.low,hb.mem.dB,hb.mem.MP⟩,hb.ti,hb.seen,hb.base,hb.norel,hb.iM,hb.qw⟩,hc.len,fun hW=>(Jh _ hW).2 rfl,⟨a',by rw[um<|by simpa using aK],.pre BC⟩,as4,hold,fun κ jL=>?_,⟨cap,s,r,amK⟩,⟨_,_,hc.wg.of_block DW,?_⟩,?_,fun i hi h6=>by omega,by simp⟩⟩
 ·obtain⟨s',r',hch⟩:=h.sK κ jL;exact⟨s',r',by rw[NT _ (h.base.iM.2.2.2.1 κ jL).2.2];exact hch⟩
 ·have:=Go.ConcN.Mode.opn (j:=n) (D:=gJ fun _=>9) (tag:=jE.c .pre) trivial (fun i hi=>.inl rfl) (by simp[jE.c]);rw[aiV]at this;simpa[Go.ConcN.pend,jE.c]using this
 ·obtain⟨cs,rfl,hcs⟩:=GZ;exact⟨cs,by rw[GY];exact h.pay,hcs⟩
structure bV.Start(X:bV K)(n:Nat)(E:dL)(S0:aO)(gs:Array bM)(w:ay)(t:Trace)(q:Nat->Nat):Prop where
 size:X.m0=gs.size
 PE:Leavers X.P t gs q
 JO:Past (lK X.iQ) w.heap.size t
 dB:∀b,X.Ai b->b<w.heap.size
 own:∀b,S0 b->b<w.heap.size/\¬E.rd b/\b≠X.Wg/\b≠X.C/\b≠X.ov/\¬X.Ai b
 rd:∀b,E.rd b->b<w.heap.size/\b≠X.Wg/\b≠X.C/\b≠X.ov/\¬X.iQ b
 ro:∀b,E.ro b->E.rd b\/b=X.Wg
 sp:X.Wg<w.heap.size/\X.C<w.heap.size/\X.ov<w.heap.size/\¬X.Ai X.Wg/\¬X.Ai X.C/\¬X.Ai X.ov/\X.Wg≠X.C/\X.Wg≠X.ov/\X.C≠X.ov
 over:∃cap s r,w.heap[X.ov]? =ae (.chan cap #[] false s r false)
 pay:∃cs:Array aA,w.heap[X.C]? =ae (.cells cs Payload.ety)/\cs.size=n
 qw:au.jK X.dB w
theorem bV.Start.inv{End:List K->dL->aO->bM->ay->Prop}(h:X.Start n E S0 gs w t q){a:bM}(ha:gs[0]? =ae a){ts:List rD}(hR:aC X.P true E (X.kE End ts [] 0 E) S0 a w):
 ∃D τ,X.Inv1 End (w.heap[X.C]?) t ts [] gs w t 0 E S0 E.rd (fun _ _=>False) q (fun _=>[]) D τ:=by
 have aK:0<gs.size:=(jF.1 ha).1;obtain⟨τ,BC⟩:=JU hR;have sp:∀b,X.Sp [] b->b=X.Wg\/b=X.C\/b=X.ov:=by
  rintro b (h|h|h|⟨k,hk,_⟩)
  ·exact .inl h
  ·exact .inr<|.inl h
  ·exact .inr<|.inr h
  ·simp at hk
 refine⟨fun i=>T.nat<|q i,τ.more,⟨by simp[h.size],by rw[h.size];exact aK,fun i g h0 _ hg=>h.PE.old i g h0 hg,h.PE.above,h.JO.hears,fun i hi=>by simp at hi,⟨fun b hb=>?_,fun i hi=>by simp at hi,fun i i' hi=>by simp at hi,fun b hb=>?_,h.ro,fun b hb=>hb,fun i k hk=>by simp at hk,fun b hb=>?_,h.dB,fun b hb=>?_⟩,?_,h.JO.seen,⟨#[],by simp,by simp⟩,fun i hi e=>?_,⟨h.sp.2.2.2.2.2.2.1,h.sp.2.2.2.2.2.2.2.1,h.sp.2.2.2.2.2.2.2.2,by simp,by simp⟩,h.qw⟩,⟨a,ha,.run BC⟩,fun i k hk=>by simp at hk,fun i _ _=>rfl,by simp,h.over,fun a' i v bs ha' hb he=>?_,rfl,fun _ _=>rfl,by simp⟩
 ·obtain⟨h1,h2,h3,h4,h5,h6⟩:=h.own b hb;exact⟨h1,h2,fun z=>by rcases sp b z with e|e|e<;>contradiction,h6⟩
 ·obtain⟨h1,h3,h4,h5,h6⟩:=h.rd b hb;exact⟨h1,fun z=>by rcases sp b z with e|e|e<;>contradiction,h6⟩
 ·rcases sp b hb with rfl|rfl|rfl
  ·exact h.sp.1
  ·exact h.sp.2.1
  ·exact h.sp.2.2.1
 ·rcases sp b hb with rfl|rfl|rfl
  ·exact h.sp.2.2.2.1
  ·exact h.sp.2.2.2.2.1
  ·exact h.sp.2.2.2.2.2.1
 ·have hb:=TI.begin (Sh:=X.Sh) h.JO (by
   rintro l (⟨a,rfl,ha⟩|rfl)
   ·exact⟨rfl,fun z=>h.sp.2.2.2.1<|.inl<|ha▸z⟩
   ·exact⟨rfl,fun z=>h.sp.2.2.2.2.2.1<|.inl z⟩)
  have e1:X.O (fun _ _=>False) ([]:List K).length=fun _ _=>False:=by
   funext k l;simp[bV.O]
  have e2:X.Rd ([]:List K)=fun _ _=>False:=by
   funext k l;simp[bV.Rd]
  rw[e1,e2];exact hb
 ·have:=lt_of_act? e;omega
 ·have:=Ep BC fun S g w x=>x.running;rw[ha]at ha';cases ha';rw[this]at hb;cases hb
end
end fU
end
section
namespace fU
open Go Go.Conc Twin
open Go.ConcN (sumTo upd sumTo_upd upd_ne upd_same)
variable{B:au.dE}{S:aO}{E:dL}{n:Nat}{e:Event}{P:fJ}{fo s:Nat->Prop}{Stop:aO->bM->ay->Prop}{w:ay}
def atT(h:nD S E e)(hS:∀b,S b->b<n/\¬B.dB b)(hE:∀b,E.rd b->b<n/\¬B.dB b):au.FQ B n e:=by
 obtain⟨loc,wr,sy⟩:=e;cases loc with
 |cell a=>exact h.e (fun x=>⟨(hS _ x).2,(hS _ x).1⟩) fun x=>⟨(hE _ x.1).2,(hE _ x.1).1⟩
 |obj r=>exact h.2.e (fun x=>⟨(hS _ x).2,(hS _ x).1⟩) fun x=>⟨(hE _ x.1).2,(hE _ x.1).1⟩
 |mark m=>exact h
 |_=>exact h.e
def aju(h:nD S E e)(hS:∀b,S b->b<n/\¬B.wg b)(hE:∀b,E.rd b->b<n/\¬B.wg b):EvL (au.uF B) n e:=
 have h:=au.MJ<|atT (B:=⟨B.wg,B.let_,B.wg⟩) h hS hE
 ⟨fun x hx hs=>h.1 x hx (by generalize x.loc=l at hs⊢;cases l<;>first|exact⟨hs.1,hs.1⟩|exact hs),h.2⟩
def atU{g:bM}(h:aC P true E Stop S g w):
 (∀b,S b->b<w.heap.size/\¬(s b\/fo b))->(∀b,E.rd b->b<w.heap.size/\¬s b)->
 ∀(gs:Array bM) (sl:Option (Nat×Nat)) (t:Trace) (q:Nat->Nat),gs[0]? =ae g->Leavers P t gs q->Past (au.uF<|au.bP fo s) w.heap.size t->au.jK (fun b=>s b\/fo b) w->
 ∃N S' g' w' gs' sl' t' q',runNT P N (crowd gs w sl) t=(.next<|crowd gs' w' sl',t')/\gs'[0]? =ae g'/\Leavers P t' gs' q'/\Past (au.uF<|au.bP fo s) w'.heap.size t'/\au.jK (fun b=>s b\/fo b) w'/\Stop S' g' w':=by
 induction h with
 | @stop S g w h=>exact fun _ _ gs sl t q h0 hL hP bT=>⟨0,S,g,w,gs,sl,t,q,rfl,h0,hL,hP,bT,h w<|bu.refl _ _ _⟩
 | @step S g w hr f hs DL ih=>
   intro hS hEr;have one:∀(M:Nat),(∀(d1:Nat) gs sl t q,sumTo gs.size q<M->gs[0]? =ae g->Leavers P t gs q->Past (au.uF<|au.bP fo s) w.heap.size t->au.jK (fun b=>s b\/fo b) w->∃N S' g' w' gs' sl' t' q',runNT P N (crowd gs (w.at d1) sl) t=(.next<|crowd gs' w' sl',t')/\gs'[0]? =ae g'/\Leavers P t' gs' q'/\Past (au.uF<|au.bP fo s) w'.heap.size t'/\au.jK (fun b=>s b\/fo b) w'/\Stop S' g' w')->
    ∀(d0:Nat) gs sl t q,sumTo gs.size q<=M->gs[0]? =ae g->Leavers P t gs q->Past (au.uF<|au.bP fo s) w.heap.size t->au.jK (fun b=>s b\/fo b) w->∃N S' g' w' gs' sl' t' q',runNT P N (crowd gs (w.at d0) sl) t=(.next<|crowd gs' w' sl',t')/\gs'[0]? =ae g'/\Leavers P t' gs' q'/\Past (au.uF<|au.bP fo s) w'.heap.size t'/\au.jK (fun b=>s b\/fo b) w'/\Stop S' g' w':=by
    intro M VF d0 gs sl t q hM h0 hL hP bT;have VG:∀y∈gs,awake y:=by
     intro y hy;obtain⟨i,hi,rfl⟩:=Hg.1 hy;rcases Ju i with rfl|pX
     ·have:gs[0]=g:=by simpa[Hf hi]using h0
      rw[this];exact aFG<|.inl hr
     ·exact aFG<|(hL.old i _ pX<|Hf hi).status.e .inl fun x=>.inr<|.inr x
    obtain⟨i,y,d,sl',hi,hg,afr⟩:=aGs (P:=P) (w:=w.at d0) (sl:=sl) VG ⟨0,_,h0,hr⟩;have xA:(w.at d0).at d=w.at d:=rfl;rw[xA]at afr;rcases Ju i with rfl|pX
    ·obtain rfl:y=g:=by rw[h0]at hi;exact(rP hi).s
     obtain⟨hgo,hG⟩:=hs (w.at d)<|bu.at _ _ _ _;have hrn:=DL (w.at d)<|bu.at _ _ _ _;have Fe:=aFz (P:=P) (sl:=sl') (i:=0) hi<|show bK P (0==0) _ (w.at d)=_ from hgo;have aK:0<gs.size:=(jF.1 h0).1;have aA5:au.jK (fun b=>s b\/fo b) (f<|w.at d).2.1:=hG.Tv (w:=w.at d) ⟨bT.obj,bT.low,bT.ng⟩ hS;have hz:=hG.size;have GV:w.heap.size<=(f<|w.at d).2.1.heap.size:=hz;have wU:∀b,grow S (w.at d) (f<|w.at d).2.1 b->b<(f<|w.at d).2.1.heap.size/\¬(s b\/fo b):=by
      rintro b (hb|⟨h1,h2⟩)
      ·exact⟨gu (hS b hb).1 GV,(hS b hb).2⟩
      ·exact⟨h2,fun z=>absurd (bT.low b z).2<|Nat.not_lt.2 h1⟩
     have Jh:∀b,E.rd b->b<(f<|w.at d).2.1.heap.size/\¬s b:=fun b hb=>⟨gu (hEr b hb).1 GV,(hEr b hb).2⟩;obtain⟨N,S2,g2,w2,nV,mV,t2,q2,pq,k1,k2,k3,k4,k5⟩:=ih (w.at d) (bu.at _ _ _ _) wU Jh ((gs.map<|woken P y (f<|w.at d).1 (f<|w.at d).2.1).setIfInBounds 0 (f<|w.at d).1) sl' (t++MemOp.ofEvents 0 y.frame.fn y.frame.place (f<|w.at d).2.2) q
      (by simp[aK]) ⟨fun j x hj hx=>by
          have dD:0≠j:=by omega
          rw[iK dD,yl]at hx;obtain⟨z,hz,rfl⟩:=zY.1 hx;have hq:=hL.old j z hj hz;rw[aFP hq,aFF t (by omega) _ (fun op aP=>by obtain⟨e,_,rfl⟩:=aFc aP;rfl)];exact hq,fun j hj=>by
          rw[aFF t (g':=0) (by simp at hj;omega) _ (fun op aP=>by obtain⟨e,_,rfl⟩:=aFc aP;rfl)];exact hL.above j<|by simpa using hj⟩
      ((hP.mono (B':=(f<|w.at d).2.1.heap.size) GV).own fun e he=>aju (B:=au.bP fo s) (hG.evs e he) (fun b hb=>⟨(wU b hb).1,fun z=>(wU b hb).2<|.inl z⟩) Jh) aA5
     refine⟨N+1,S2,g2,w2,nV,mV,t2,q2,?_,k1,k2,k3,k4,k5⟩;simp only[runNT,afr,Fe];exact pq
    ·have hq:=hL.old i y pX hi;have ed:(i==0)=false:=by simp<;>omega
     have aK:i<gs.size:=(jF.1 hi).1;cases vU:q i with
     |zero=>rw[vU]at hq;rw[hq.1]at hg;cases hg
     |succ k=>
      rw[vU]at hq;rcases hq with⟨E8,_⟩|⟨_,g',VH,hm,N9,qH⟩
      ·rw[E8]at hg;cases hg
      have Fe:=aFz (P:=P) (sl:=sl') (i:=i) hi (by rw[ed];exact N9<|w.at d);have fP:((gs.map<|woken P y g'<|w.at d).setIfInBounds i g').size=gs.size:=by simp
      have ams:sumTo gs.size (upd q i k)+(k+1)=sumTo gs.size q+k:=by
       have:=sumTo_upd q k id aK;simpa[vU]using this
      obtain⟨N,S2,g2,w2,nV,mV,t2,q2,pq,atW⟩:=VF d ((gs.map<|woken P y g'<|w.at d).setIfInBounds i g') sl' (t++MemOp.ofEvents i y.frame.fn y.frame.place VH) (upd q i k) (by rw[fP];omega)
       (by
         have dD:i≠0:=by omega
         rw[iK dD,yl,h0];simp only[Ho,gU];unfold Go.Conc.woken;split
         ·exact aF8 _<|.inl hr
         ·rfl) ⟨fun j x hj hx=>by
         by_cases mM:i=j
         ·subst mM;rw[um<|by simpa using aK]at hx;obtain rfl:=rP hx;rw[aFj,aF1];exact qH
         ·rw[iK mM,yl]at hx;obtain⟨z,hz,rfl⟩:=zY.1 hx;have KX:=hL.old j z hj hz;rw[aFP KX,aFl q k<|Ne.s mM,aFF t mM _ (fun op aP=>by obtain⟨e,_,rfl⟩:=aFc aP;rfl)];exact KX,fun j hj=>by
         rw[aFF t (g':=i) (by simp at hj;omega) _ (fun op aP=>by obtain⟨e,_,rfl⟩:=aFc aP;rfl)];exact hL.above j<|by simpa using hj⟩ (hP.mute (by omega) hm) bT
      refine⟨N+1,S2,g2,w2,nV,mV,t2,q2,?_,atW⟩;simp only[runNT,afr,Fe];exact pq
   have main:∀(M d0:Nat) gs sl t q,sumTo gs.size q<=M->gs[0]? =ae g->Leavers P t gs q->Past (au.uF<|au.bP fo s) w.heap.size t->au.jK (fun b=>s b\/fo b) w->∃N S' g' w' gs' sl' t' q',runNT P N (crowd gs (w.at d0) sl) t=(.next<|crowd gs' w' sl',t')/\gs'[0]? =ae g'/\Leavers P t' gs' q'/\Past (au.uF<|au.bP fo s) w'.heap.size t'/\au.jK (fun b=>s b\/fo b) w'/\Stop S' g' w':=by
    intro M;induction M with
    |zero=>exact fun d0 gs sl t q hM=>one 0 (fun d1 gs1 lu t1 q1 aK=>absurd aK<|by omega) d0 gs sl t q hM
    |succ M Tq=>exact fun d0 gs sl t q hM=>one (M+1) (fun d1 gs1 lu t1 q1 aK=>Tq d1 gs1 lu t1 q1<|by omega) d0 gs sl t q hM
   exact fun gs sl t q=>main _ w.drawn gs sl t q<|dI _
def ajv{fr:bH}{cs cs2:List bH}{Q:au.dE->bH->ay->Prop}(h:aC P true E Stop S {frame:=fr,callers:=cs,status:=.running,dying:=af} w)
 (hS:∀b,S b->b<w.heap.size/\¬(s b\/fo b))(hE:∀b,E.rd b->b<w.heap.size/\¬s b)
 (hn:∀S' g' w',Stop S' g' w'->∃fr' cs',g'={frame:=fr',callers:=cs',status:=.running,dying:=af}/\au.Reach (au.bP fo s) P fr' cs' w' Q cs2):au.Reach (au.bP fo s) P fr cs w Q cs2:=by
 intro gs sl t q hh;obtain⟨N,S1,g1,w1,gs1,lu,t1,q1,hr,k1,k2,k3,k4,k5⟩:=atU h hS hE gs sl t q hh.own hh.PE hh.JO hh.ok.Tv;obtain⟨fr',cs',rfl,hR⟩:=hn _ _ _ k5;obtain⟨K,B2,nV,lS,w2,mV,t2,q2,hr2,Cc,EY⟩:=hR gs1 lu t1 q1 ⟨k1,k2,k3,k4.okB⟩;exact⟨N+K,B2,nV,lS,w2,mV,t2,q2,au.XM hr hr2,Cc,EY⟩
end fU
end
