import Derived.Test.YtkelpcjiediamaaGreatQd5
import Derived.Conc.CrowdRun
import Derived.Conc.CrowdSel
set_option maxRecDepth 100000
set_option maxHeartbeats 0
set_option linter.all false
namespace Go.Proofs.YtkelpcjiediamaaGreat
def aEa:=@Go.Conc.offersAt_of_not_blocked
def aEf:=@Go.Conc.getElem?_append_cases
def aEG:=@Go.Conc.touch_of
def aER:=@Go.ConcR.loc_of_ofEvent
def aE0:=@Go.Conc.touchAt_of
def aE1:=@Go.Conc.offersAt_parked_send
def aE7:=@Go.Conc.getElem?_stand
def aE8:=@Go.Conc.ways_recv_none
open Go renaming Goroutine→bF,Program→eF,Value→az,World→aj,stepG→bD,undef→ai
open Option renaming none→af,some→ae
section
namespace fJ
open Go Go.Conc
open Go.ConcN (PermW fork_knows RelBy)
structure TI(Sh iG:Loc->Prop)(O Rd:Nat->Loc->Prop)(t:Trace):Prop where
 clean:∀said,¬Race said t
 plain:∀i a,touchAt t i=ae a->Sh a.loc->a.kind=.plain->Knows t 0 i/\∀k,k≠0->(∃l,O k l)->Knows t k i
 said:∀i a,touchAt t i=ae a->Sh a.loc->a.kind=.said->Knows t 0 i
 own:∀k l,k≠0->O k l->Perm t k l
 rd:∀k l,k≠0->Rd k l->PermW t k l
 free:∀l,l.isMemory=true->¬Sh l->¬iG l->(∀k,k≠0->¬O k l/\¬Rd k l)->Perm t 0 l
 mine:∀l,l.isMemory=true->¬Sh l->¬iG l->(∀k,k≠0->¬O k l)->PermW t 0 l
structure Cls(Sh:Loc->Prop)(O Rd:Nat->Loc->Prop):Prop where
 own:∀k k' l,O k l->O k' l->k=k'
 ownRd:∀k k' l,O k l->¬Rd k' l
 ownSh:∀k l,O k l->¬Sh l
 rdSh:∀k l,Rd k l->¬Sh l
section
variable{Sh iG:Loc->Prop}{O Rd O' Rd':Nat->Loc->Prop}{t u:Trace}
def ahY(Sh iG:Loc->Prop)(O Rd:Nat->Loc->Prop)(x:Touch):Prop:=
 (Sh x.loc/\x.kind≠.plain)\/(¬Sh x.loc/\¬iG x.loc/\(∀k,k≠0->¬O k x.loc)/\(x.write=true->∀k,k≠0->¬Rd k x.loc))
def acd(Sh:Loc->Prop)(O Rd:Nat->Loc->Prop)(k:Nat)(x:Touch):Prop:=
 (Sh x.loc/\x.kind≠.plain/\x.kind≠.said)\/O k x.loc\/(Rd k x.loc/\x.write=false)
def TI.app0(A:Cls Sh O Rd)(h:TI Sh iG O Rd t)(hg:∀op∈u,op.g=0)(hu:∀op∈u,∀x,op.act.touch?=ae x->ahY Sh iG O Rd x):TI Sh iG O Rd (t++u):=by
 refine⟨fun said=>?_,fun i a ha hs hp=>?_,fun i a ha hs hp=>?_,fun k l hk hl=>(h.own k l hk hl).app fun op aO b hb e=>?_,fun k l hk hl=>(h.rd k l hk hl).app fun op aO b hb e hw=>?_,fun l hl h1 h2 h3=>(h.free l hl h1 h2 h3).app fun op aO _ _ _=>hg op aO,fun l hl h1 h2 h3=>(h.mine l hl h1 h2 h3).app fun op aO _ _ _ _=>hg op aO⟩
 ·refine noRace_append (h.clean said) hg fun i a ha op aO b hb hc=>?_;rcases hu op aO b hb with⟨hs,hk⟩|⟨hs,EO,qI,Va⟩
  ·rcases hc.2.2.2 with e|e|⟨_,e,_⟩
   ·exact(h.plain i a ha (hc.1▸hs) e).1
   ·exact absurd e hk
   ·exact h.said i a ha (hc.1▸hs) e
  ·cases ZB:b.write with
   |true=>exact h.free b.loc (hc.1▸hc.2.1) hs EO (fun k hk=>⟨qI k hk,Va ZB k hk⟩) i a ha hc.1
   |false=>exact h.mine b.loc (hc.1▸hc.2.1) hs EO qI i a ha hc.1<|hc.2.2.1.resolve_right<|by simp[ZB]
 ·obtain⟨x,hx,Gm⟩:=aEG ha;rcases aEf hx with⟨_,yx⟩|⟨_,NF⟩
  ·obtain⟨p,q⟩:=h.plain i a (by rw[aE0 yx];exact Gm) hs hp;exact⟨p.app u,fun k hk hl=>(q k hk hl).app u⟩
  ·rcases hu x NF a Gm with⟨_,hk⟩|⟨hn,_⟩
   ·exact absurd hp hk
   ·exact absurd hs hn
 ·obtain⟨x,hx,Gm⟩:=aEG ha;rcases aEf hx with⟨_,yx⟩|⟨_,NF⟩
  ·exact(h.said i a (by rw[aE0 yx];exact Gm) hs hp).app u
  ·have:=knows_own hx;rwa[hg x NF]at this
 ·rcases hu op aO b hb with⟨hs,_⟩|⟨_,_,hn,_⟩
  ·exact absurd (e▸hs)<|A.ownSh k l hl
  ·exact absurd (e▸hl)<|hn k hk
 ·rcases hu op aO b hb with⟨hs,_⟩|⟨_,_,_,hn⟩
  ·exact absurd (e▸hs)<|A.rdSh k l hl
  ·exact absurd (e▸hl)<|hn hw k hk
def TI.appW(A:Cls Sh O Rd)(h:TI Sh iG O Rd t){k:Nat}(hk:k≠0)(di:∃l,O k l)(hg:∀op∈u,op.g=k)(hu:∀op∈u,∀x,op.act.touch?=ae x->acd Sh O Rd k x):TI Sh iG O Rd (t++u):=by
 refine⟨fun said=>?_,fun i a ha hs hp=>?_,fun i a ha hs hp=>?_,fun k' l dN hl=>(h.own k' l dN hl).app fun op aO b hb e=>?_,fun k' l dN hl=>(h.rd k' l dN hl).app fun op aO b hb e hw=>?_,fun l hl h1 h2 h3=>(h.free l hl h1 h2 h3).app fun op aO b hb e=>?_,fun l hl h1 h2 h3=>(h.mine l hl h1 h2 h3).app fun op aO b hb e hw=>?_⟩
 ·refine noRace_append (h.clean said) hg fun i a ha op aO b hb hc=>?_;rcases hu op aO b hb with⟨hs,h1,h2⟩|ho|⟨hr,ZB⟩
  ·rcases hc.2.2.2 with e|e|⟨_,_,e⟩
   ·exact(h.plain i a ha (hc.1▸hs) e).2 k hk di
   ·exact absurd e h1
   ·exact absurd e h2
  ·exact h.own k b.loc hk ho i a ha hc.1
  ·exact h.rd k b.loc hk hr i a ha hc.1<|hc.2.2.1.resolve_right<|by simp[ZB]
 ·obtain⟨x,hx,Gm⟩:=aEG ha;rcases aEf hx with⟨_,yx⟩|⟨_,NF⟩
  ·obtain⟨p,q⟩:=h.plain i a (by rw[aE0 yx];exact Gm) hs hp;exact⟨p.app u,fun k hk hl=>(q k hk hl).app u⟩
  ·rcases hu x NF a Gm with⟨_,h1,_⟩|ho|⟨hr,_⟩
   ·exact absurd hp h1
   ·exact absurd hs<|A.ownSh k _ ho
   ·exact absurd hs<|A.rdSh k _ hr
 ·obtain⟨x,hx,Gm⟩:=aEG ha;rcases aEf hx with⟨_,yx⟩|⟨_,NF⟩
  ·exact(h.said i a (by rw[aE0 yx];exact Gm) hs hp).app u
  ·rcases hu x NF a Gm with⟨_,_,h2⟩|ho|⟨hr,_⟩
   ·exact absurd hp h2
   ·exact absurd hs<|A.ownSh k _ ho
   ·exact absurd hs<|A.rdSh k _ hr
 ·rcases hu op aO b hb with⟨hs,_⟩|ho|⟨hr,_⟩
  ·exact absurd (e▸hs)<|A.ownSh k' l hl
  ·rw[hg op aO];exact A.own k k' l (e▸ho) hl
  ·exact absurd (e▸hr)<|A.ownRd k' k l hl
 ·rcases hu op aO b hb with⟨hs,_⟩|ho|⟨_,hr⟩
  ·exact absurd (e▸hs)<|A.rdSh k' l hl
  ·exact absurd hl<|A.ownRd k k' l<|e▸ho
  ·rw[hr]at hw;cases hw
 ·rcases hu op aO b hb with⟨um,_⟩|ho|⟨hr,_⟩
  ·exact absurd (e▸um) h1
  ·exact absurd (e▸ho) (h3 k hk).1
  ·exact absurd (e▸hr) (h3 k hk).2
 ·rcases hu op aO b hb with⟨um,_⟩|ho|⟨_,hr⟩
  ·exact absurd (e▸um) h1
  ·exact absurd (e▸ho)<|h3 k hk
  ·rw[hr]at hw;cases hw
def Ht(hu:∀op∈u,op.act.touch?=af){i:Nat}{a:Touch}(ha:touchAt (t++u) i=ae a):touchAt t i=ae a:=by
 obtain⟨z,hz,hza⟩:=aEG ha;rcases aEf hz with⟨_,Gl⟩|⟨_,hzu⟩
 ·rw[aE0 Gl];exact hza
 ·rw[hu z hzu]at hza;cases hza
def arS{said:Bool}(h:¬Race said t)(hu:∀op∈u,op.act.touch?=af):¬Race said (t++u):=by
 rintro⟨i,j,zi,⟨a,b,ha,hb,hc⟩,n1,n2⟩;exact h ⟨i,j,zi,⟨a,b,Ht hu ha,Ht hu hb,hc⟩,fun e=>n1<|hb_app u e,fun e=>n2<|hb_app u e⟩
def TI.wH(h:TI Sh iG O Rd t)(hu:∀op∈u,op.act.touch?=af):TI Sh iG O Rd (t++u):=by
 have no:∀op∈u,∀b,op.act.touch?=ae b->False:=fun op aO b hb=>by rw[hu op aO]at hb;cases hb
 exact⟨fun said=>arS (h.clean said) hu,fun i a ha hs hp=>let ⟨p,q⟩:=h.plain i a (Ht hu ha) hs hp;⟨p.app u,fun k hk hl=>(q k hk hl).app u⟩,fun i a ha hs hp=>(h.said i a (Ht hu ha) hs hp).app u,fun k l hk hl=>(h.own k l hk hl).app fun op aO b hb _=>(no op aO b hb).elim,fun k l hk hl=>(h.rd k l hk hl).app fun op aO b hb _ _=>(no op aO b hb).elim,
  fun l hl h1 h2 h3=>(h.free l hl h1 h2 h3).app fun op aO b hb _=>(no op aO b hb).elim,fun l hl h1 h2 h3=>(h.mine l hl h1 h2 h3).app fun op aO b hb _ _=>(no op aO b hb).elim⟩
def TI.grow(h:TI Sh iG O Rd t)(Qy:∀k l,O k l->O' k l)(Ae:∀k l,O' k l->O k l\/∀i a,touchAt t i=ae a->a.loc≠l)(di:∀k,(∃l,O' k l)->∃l,O k l):TI Sh iG O' Rd t:=
 ⟨h.clean,fun i a ha hs hp=>let ⟨p,q⟩:=h.plain i a ha hs hp;⟨p,fun k hk hl=>q k hk<|di k hl⟩,h.said,fun k l hk hl=>(Ae k l hl).elim (h.own k l hk) fun hn i a ha e=>absurd e<|hn i a ha,h.rd,fun l hm h1 h2 h3=>h.free l hm h1 h2 fun k hk=>⟨fun x=>(h3 k hk).1<|Qy k l x,(h3 k hk).2⟩,fun l hm h1 h2 h3=>h.mine l hm h1 h2 fun k hk x=>h3 k hk<|Qy k l x⟩
def TI.fork(h:TI Sh iG O Rd t){k:Nat}{x y:MemOp}(hx:x.g=0/\x.act=.go k)(hy:y.g=k/\y.act=.start)(h0:Deaf t 0=0)(hk:Deaf t k=0)
 (hO:∀k' l,O' k' l->O k' l\/(k'=k/\l.isMemory=true/\¬Sh l/\¬iG l/\∀uX,uX≠0->¬O uX l/\¬Rd uX l))(hR:∀k' l,Rd' k' l->Rd k' l\/(k'=k/\l.isMemory=true/\¬Sh l/\¬iG l/\∀uX,uX≠0->¬O uX l))
 (sO:∀k' l,O k' l->O' k' l)(sR:∀k' l,Rd k' l->Rd' k' l):TI Sh iG O' Rd' (t++ #[x,y]):=by
 have NG:∀op∈#[x,y],op.act.touch?=none:=by
  intro op aO;simp only[tu,jR,pF,pG]at aO;rcases aO with rfl|rfl
  ·rw[hx.2];rfl
  ·rw[hy.2];rfl
 have h1:=h.wH NG;refine⟨h1.clean,fun i a ha hs hp=>⟨(h1.plain i a ha hs hp).1,fun k' dN hl=>?_⟩,h1.said,fun k' l dN hl=>?_,fun k' l dN hl=>?_,fun l hm a b c=>h1.free l hm a b fun k' dN=>⟨fun z=>(c k' dN).1<|sO k' l z,fun z=>(c k' dN).2<|sR k' l z⟩,fun l hm a b c=>h1.mine l hm a b fun k' dN z=>c k' dN<|sO k' l z⟩
 ·obtain⟨l,hl⟩:=hl;rcases hO k' l hl with z|⟨rfl,_⟩
  ·exact(h1.plain i a ha hs hp).2 k' dN ⟨l,z⟩
  ·exact fork_knows hx hy h0 hk (h.plain i a (Ht NG ha) hs hp).1
 ·rcases hO k' l hl with z|⟨rfl,hm,a,b,c⟩
  ·exact h1.own k' l dN z
  ·exact fun i e he hl=>fork_knows hx hy h0 hk<|h.free l hm a b c i e (Ht NG he) hl
 ·rcases hR k' l hl with z|⟨rfl,hm,a,b,c⟩
  ·exact h1.rd k' l dN z
  ·exact fun i e he hl hw=>fork_knows hx hy h0 hk<|h.mine l hm a b c i e (Ht NG he) hl hw
def TI.begin{B:Nat}(h:Past iG B t)(ZC:∀l,Sh l->l.isMemory=true/\¬iG l):TI Sh iG (fun _ _=>False) (fun _ _=>False) t:=by
 have key:∀l,l.isMemory=true->¬iG l->Perm t 0 l:=by
  intro l hl h2 i a ha e;rcases h.known i a ha (by rw[e];exact hl)with k|k
  ·exact k
  ·exact absurd (e▸k.1) h2
 exact⟨h.clean,fun i a ha hs _=>⟨key a.loc (ZC _ hs).1 (ZC _ hs).2 i a ha rfl,fun _ _ hl=>hl.choose_spec.elim⟩,fun i a ha hs _=>key a.loc (ZC _ hs).1 (ZC _ hs).2 i a ha rfl,fun _ _ _ h=>h.elim,fun _ _ _ h=>h.elim,fun l hl _ h2 _=>key l hl h2,fun l hl _ h2 _=>.of<|key l hl h2⟩
end
end fJ
end
section
namespace fJ
open Go Go.Conc Twin
inductive T where
 |stop
 |step (f:aj->T)
inductive T.Lt:T->T->Prop where
 |mk (f:aj->T) (w:aj):T.Lt (f w) (.step f)
def T.acc:∀a:T,Acc T.Lt a
 | .stop=>⟨_,fun _ h=>nomatch h⟩
 | .step f=>⟨_,fun b h=>by
   generalize he:T.step f=c at h;cases h with
   |mk f' w=>
    cases he;exact T.acc<|f w⟩
def T.more:T->T
 | .stop=>.step fun _=>.stop
 | .step f=>.step fun w=>(f w).more
def T.Sj{a b:T}(h:T.Lt a b):T.Lt a.more b.more:=by
 cases h with
 |mk f w=>exact .mk (fun w=>(f w).more) w
def T.ahZ:T.Lt .stop T.stop.more:=.mk (fun _=>.stop) (default:aj)
def T.nat:Nat->T
 |0=>.stop
 |n+1=>.step fun _=>T.nat n
def T.Jy(n:Nat):T.Lt (T.nat n) (T.nat<|n+1):=.mk (fun _=>T.nat n) (default:aj)
def CE(P:eF)(main:Bool)(E:dD)(Stop:aN->bF->aj->Prop):T->aN->bF->aj->Prop
 | .stop,S,g,w=>∀w1,bg S E w w1->Stop S g w1
 | .step f,S,g,w=>g.status=.running/\∀w1,bg S E w w1->∃g' w2 es,bD P main g w1=.go g' w2 es/\je S E w1 w2 es/\CE P main E Stop (f w1) (grow S w1 w2) g' w2
section
variable{P:eF}{main:Bool}{E:dD}{Stop:aN->bF->aj->Prop}{S:aN}{g:bF}{w:aj}
def Jz(h:aA P main E Stop S g w):∃τ,CE P main E Stop τ S g w:=by
 induction h with
 |stop h=>exact⟨.stop,h⟩
 | @step S g w hr f hs _ ih=>
   have h':∀w1,∃τ,bg S E w w1->CE P main E Stop τ (grow S w1 (f w1).2.1) (f w1).1 (f w1).2.1:=by
    intro w1;by_cases hk:bg S E w w1
    ·obtain⟨τ,A8⟩:=ih w1 hk;exact⟨τ,fun _=>A8⟩
    ·exact⟨.stop,fun k=>absurd k hk⟩
   obtain⟨F,hF⟩:=QL h';exact⟨.step F,hr,fun w1 hk=>⟨_,_,_,(hs w1 hk).1,(hs w1 hk).2,hF w1 hk⟩⟩
def CE.rely{τ:T}(h:CE P main E Stop τ S g w){w1:aj}(hk:bg S E w w1):CE P main E Stop τ S g w1:=by
 cases τ with
 |stop=>exact fun w2 k=>h w2<|hk.trans k
 |step f=>exact⟨h.1,fun w2 k=>h.2 w2<|hk.trans k⟩
end
def D5(N:Nat)(D' D:Nat->T):Prop:=∃i,i<N/\T.Lt (D' i) (D i)/\∀k,k≠i->D' k=D k
def D5.wf:∀N,WellFounded (D5 N)
 |0=>⟨fun D=>⟨_,fun D' h=>absurd h.choose_spec.1<|Nat.not_lt_zero _⟩⟩
 |N+1=>by
  have ihN:=D5.wf N;have key:∀a:T,Acc T.Lt a->∀D:Nat->T,D N=a->Acc (D5<|N+1) D:=by
   intro a ha;induction ha with
   |intro a _ ih=>
    intro D;refine ihN.induction (C:=fun D=>D N=a->Acc (D5<|N+1) D) D ?_;intro D Sl hD;refine⟨_,fun D' h=>?_⟩;obtain⟨i,hi,aI,zu⟩:=h;rcases E5 i N with h|h
    ·exact Sl D' ⟨i,h,aI,zu⟩<|by rw[zu N<|by omega,hD]
    ·obtain rfl:i=N:=by omega
     exact ih (D' i) (hD▸aI) D' rfl
  exact⟨fun D=>key (D N) (T.acc _) D rfl⟩
def arU{motive:Nat->Nat->(Nat->T)->T->Prop}
 (h:∀A N D τ,(∀A' N' D' oD,A'<A->motive A' N' D' oD)->(∀D' oD,D5 N D' D->motive A N D' oD)->(∀oD,T.Lt oD τ->motive A N D oD)->motive A N D τ):∀A N D τ,motive A N D τ:=by
 intro A;induction A using Nat.strongRecOn with
 |ind A LU=>
  intro N D;refine(D5.wf N).induction (C:=fun D=>∀τ,motive A N D τ) D ?_;intro D Sl τ
  have:=T.acc τ
  induction this with
  |intro τ _ LV=>exact h A N D τ (fun A' N' D' oD aI=>LU A' aI N' D' oD) (fun D' oD hv=>Sl D' hv oD) LV
end fJ
end
section
namespace fJ
open Go Go.Conc Twin
open Go.ConcN (upd upd_same upd_ne)
open Go.ConcR (stA smA)
def lh(S:aN):Loc->Prop
 | .cell a=>S a.block
 | .obj r=>S r
 |_=>False
theorem lh.mem{S:aN}{l:Loc}(h:lh S l):l.isMemory=true:=by cases l<;>first|rfl|exact h.elim
theorem lh.mono{S S':aN}(h:∀b,S b->S' b){l:Loc}(hl:lh S l):lh S' l:=by cases l<;>first|exact h _ hl|exact hl.elim
def Sm(n:Nat)(a:Addr)(t:Trace):Prop:=∀i,n<=i->t.act? i≠ae (.mark<|.release a)
theorem Sm.app{n:Nat}{a:Addr}{t u:Trace}(h:Sm n a t)(hu:∀op∈u,op.act≠.mark (.release a)):Sm n a (t++u):=by
 intro i hi e;obtain⟨op,aO,KE⟩:=zC.1 e;rcases aEf aO with⟨_,ZE⟩|⟨_,zo⟩
 ·exact h i hi<|by rw[act?_of ZE,KE]
 ·exact hu op zo KE
structure bK(K:Type)where
 P:eF
 Wg:Nat
 C:Nat
 ov:Nat
 m0:Nat
 iG:aN
 zO:aN
 ch:K->Nat
 side:K->dD
 Hu:K->List az->aN->bF->aj->Prop
 Fin:K->List az->aN->bF->aj->Prop
 xQ:K->List az
section
variable{K:Type}(X:bK K)
def bK.zQ:Nat->Prop:=fun b=>X.iG b\/X.zO b
def bK.bZ:Nat->Prop:=fun b=>X.zQ b\/b=X.Wg
def bK.Sp(ks:List K):aN:=fun b=>b=X.Wg\/b=X.C\/b=X.ov\/∃k∈ks,b=X.ch k
def bK.Sh:Loc->Prop:=fun l=>(∃a,l=.cell a/\a.block=X.Wg)\/l=.obj X.ov
def bK.O(Sw:Nat->aN)(n:Nat):Nat->Loc->Prop:=fun k l=>∃i,i<n/\k=X.m0+i/\(lh (Sw i) l\/l=.cell ⟨X.C,i,af⟩)
def bK.Rd(ks:List K):Nat->Loc->Prop:=fun k l=>∃i x,ks[i]? =ae x/\k=X.m0+i/\lh (X.side x).rd l
structure bK.Mem(ks:List K)(E:dD)(S0 G:aN)(Sw:Nat->aN)(w:aj):Prop where
 rG:∀b,S0 b->b<w.heap.size/\¬G b/\¬X.Sp ks b/\¬X.zQ b
 lN:∀i,i<ks.length->∀b,Sw i b->b<w.heap.size/\¬G b/\¬X.Sp ks b/\¬X.zQ b/\¬S0 b
 apart:∀i i',i<ks.length->i'<ks.length->∀b,Sw i b->Sw i' b->i=i'
 tY:∀b,G b->b<w.heap.size/\¬X.Sp ks b/\¬X.iG b
 LW:∀b,E.ro b->G b\/b=X.Wg
 Hw:∀b,E.rd b->G b
 yO:∀(i:Nat) (k:K),ks[i]? =ae k->∀b,(X.side k).ro b->G b
 low:∀b,X.Sp ks b->b<w.heap.size
 bZ:∀b,X.zQ b->b<w.heap.size
 LX:∀b,X.Sp ks b->¬X.zQ b
structure bK.Base(t0:Trace)(ks:List K)(gs:Array bF)(w:aj)(t:Trace)(d:Nat)(dW:Nat->Nat)(E:dD)(S0 G:aN)(Sw:Nat->aN)(q:Nat->Nat):Prop where
 size:gs.size=X.m0+ks.length
 pos:0<X.m0
 old:∀i g,0<i->i<X.m0->gs[i]? =ae g->QuitsD X.P (q i) (Deaf t i) g
 above:∀k,gs.size<=k->Deaf t k=0
 deaf0:Deaf t 0=d
 deafW:∀i,i<ks.length->Deaf t (X.m0+i)=dW i
 mem:X.Mem ks E S0 G Sw w
 ti:TI X.Sh (lh X.iG) (X.O Sw ks.length) (X.Rd ks) t
 seen:∀op∈t,op.act.low w.heap.size
 base:∃u,t=t0++u/\∀op∈u,op.act.touch?≠af->op.g=0\/∃i,i<ks.length/\op.g=X.m0+i
 norel:Sm t0.size (stA X.Wg) t
 iC:X.Wg≠X.C/\X.Wg≠X.ov/\X.C≠X.ov/\(∀k∈ks,X.ch k≠X.Wg/\X.ch k≠X.C/\X.ch k≠X.ov)/\∀(i i':Nat) (k k':K),ks[i]? =ae k->ks[i']? =ae k'->X.ch k=X.ch k'->i=i'
 pM:au.jB X.bZ w
end
section
variable{K:Type}{X:bK K}{t0:Trace}{ks:List K}{gs gs':Array bF}{w w':aj}{t:Trace}{d:Nat}{dW:Nat->Nat}{E:dD}{S0 G:aN}{Sw:Nat->aN}{q:Nat->Nat}
theorem bK.Mem.cls(h:X.Mem ks E S0 G Sw w)(hd:X.Wg≠X.C/\X.Wg≠X.ov/\X.C≠X.ov):Cls X.Sh (X.O Sw ks.length) (X.Rd ks):=by
 have spC:X.Sp ks X.C:=.inr<|.inl rfl;have spW:X.Sp ks X.Wg:=.inl rfl;have spO:X.Sp ks X.ov:=.inr<|.inr<|.inl rfl;have nS:∀{S:aN} {l:Loc},(∀b,S b->¬X.Sp ks b)->lh S l->¬X.Sh l/\∀i,l≠.cell ⟨X.C,i,af⟩:=by
  intro S l hS hl;refine⟨?_,?_⟩
  ·rintro(⟨a,rfl,ha⟩|rfl)
   ·exact hS _ hl<|ha▸spW
   ·exact hS _ hl spO
  ·rintro i rfl;exact hS _ hl spC
 refine⟨?_,?_,?_,?_⟩
 ·rintro k k' l ⟨i,hi,rfl,h1⟩ ⟨i',mP,rfl,h2⟩;have e:i=i':=by
   rcases h1 with h1|rfl
   ·rcases h2 with h2|rfl
    ·cases l<;>first|exact h.apart i i' hi mP _ h1 h2|exact h1.elim
    ·exact absurd rfl<|(nS (fun b hb=>(h.lN i hi b hb).2.2.1) h1).2 i'
   ·rcases h2 with h2|h2
    ·exact absurd rfl<|(nS (fun b hb=>(h.lN i' mP b hb).2.2.1) h2).2 i
    ·simpa using h2
  rw[e]
 ·rintro k k' l ⟨i,hi,rfl,h1⟩ ⟨i',x,hx,rfl,h2⟩;have hG:lh G l:=lh.mono (fun b hb=>h.yO i' x hx b<|(X.side x).le b hb) h2;rcases h1 with h1|rfl
  ·cases l<;>first|exact(h.lN i hi _ h1).2.1 hG|exact h1.elim
  ·exact(h.tY _ hG).2.1 spC
 ·rintro k l ⟨i,hi,rfl,h1⟩;rcases h1 with h1|rfl
  ·exact(nS (fun b hb=>(h.lN i hi b hb).2.2.1) h1).1
  ·rintro(⟨a,ha,hb⟩|ha)
   ·cases ha;exact hd.1 hb.symm
   ·cases ha
 ·rintro k l ⟨i,x,hx,rfl,h1⟩;have hG:lh G l:=lh.mono (fun b hb=>h.yO i x hx b<|(X.side x).le b hb) h1;exact(nS (fun b hb=>(h.tY b hb).2.1) hG).1
variable{S:aN}{es:Array Event}{e:Event}{x:Nat}{u:Trace}{fn:FuncId}{pos:String}
theorem ace{S':aN}{E E':dD}{w w2:aj}(h:je S E w w2 es)(h1:∀b,S' b->b<w.heap.size/\¬S b)(h2:∀b,E'.ro b->b<w.heap.size/\¬S b):bg S' E' w w2:=
 ⟨h.tape,h.os,h.output,h.size,fun b hb=>h.still b (h1 b hb).1 (h1 b hb).2,fun b hb=>h.still b (h2 b hb).1 (h2 b hb).2⟩
theorem ah1{E:dD}(h:mM S E e){x:Touch}(hx:(MemAct.ofEvent e).touch?=ae x):lh S x.loc\/(lh E.rd x.loc/\x.write=false):=by
 obtain⟨loc,wr,sy⟩:=e;cases loc with
 |cell a=>
  simp only[MemAct.ofEvent,MemAct.touch?,gu]at hx;subst hx;exact h
 |obj r=>
  obtain⟨hs,h⟩:=h;simp only at hs;subst hs;cases wr<;>simp only[MemAct.ofEvent,MemAct.touch?,gu]at hx<;>(subst hx;exact h)
 |mark m=>
  obtain rfl:m=.noRoom:=h;simp[MemAct.ofEvent,MemAct.touch?]at hx
 |_=>exact h.elim
theorem ah2{E:dD}{B:Nat}(h:mM S E e)(h1:∀b,S b->b<B)(h2:∀b,E.rd b->b<B):(MemAct.ofEvent e).low B:=by
 obtain⟨loc,wr,sy⟩:=e;cases loc with
 |cell a=>exact h.elim (h1 _) fun x=>h2 _ x.1
 |obj r=>
  obtain⟨hs,h⟩:=h;simp only at hs;subst hs;cases wr<;>exact h.elim (h1 _) fun x=>h2 _ x.1
 |mark m=>
  obtain rfl:m=.noRoom:=h;trivial
 |_=>exact h.elim
theorem O0{E:dD}(h:mM S E e):e.loc≠.mark .disable/\e.loc≠.mark .enable/\∀a,e.loc≠.mark (.release a):=by
 obtain⟨loc,wr,sy⟩:=e;cases loc with
 |mark m=>
  obtain rfl:m=.noRoom:=h;simp
 |_=>simp
theorem ah3{t:Trace}(hu:∀op∈u,op.act≠.mark .disable/\op.act≠.mark .enable)(g:Nat):Deaf (t++u) g=Deaf t g:=by
 obtain⟨l⟩:=u;rw[Deaf_append];have key:∀(l:List MemOp) (d:Nat),(∀op∈l,op.act≠.mark .disable/\op.act≠.mark .enable)->l.foldl (deafStep g) d=d:=by
  intro l;induction l with
  |nil=>intro d _;rfl
  |cons y l ih=>
   intro d hl;have hy:deafStep g d y=d:=by
    have:=hl y (by simp);unfold deafStep;split
    ·exact absurd ‹_› this.1
    ·exact absurd ‹_› this.2
    ·rfl
   rw[afj,hy];exact ih d fun op aO=>hl op<|by simp[aO]
 exact key l _ fun op aO=>hu op<|by simpa using aO
theorem ofEvents_g{g:Nat}:∀op∈MemOp.ofEvents g fn pos es,op.g=g:=fun op aO=>by obtain⟨e,_,rfl⟩:=aDZ aO;rfl
theorem bK.Base.more(h:X.Base t0 ks gs w t d dW E S0 G Sw q)(hx:x=0\/∃i,i<ks.length/\x=X.m0+i)(hu:∀op∈u,op.g=x)(eH:w.heap.size<=w'.heap.size)(Aj:∀op∈u,op.act.low w'.heap.size)(hrel:∀op∈u,op.act≠.mark (.release<|stA X.Wg)):
 (∀op∈t++u,op.act.low w'.heap.size)/\(∃v,t++u=t0++v/\∀op∈v,op.act.touch?≠af->op.g=0\/∃i,i<ks.length/\op.g=X.m0+i)/\Sm t0.size (stA X.Wg) (t++u)/\(∀k,gs.size<=k->Deaf (t++u) k=0)/\∀g,g≠x->Deaf (t++u) g=Deaf t g:=by
 have LY:∀g,g≠x->Deaf (t++u) g=Deaf t g:=fun g hg=>aEr t (iW hg) u hu;refine⟨seen_app (fun op aO=>MemAct.low_mono eH<|h.seen op aO) Aj,?_,h.norel.app hrel,fun k hk=>?_,LY⟩
 ·obtain⟨v,rfl,hv⟩:=h.base;refine⟨v++u,by simp[aaj],fun op aO ht=>?_⟩;rcases Jd.1 aO with aO|aO
  ·exact hv op aO ht
  ·rw[hu op aO];exact hx
 ·rw[LY k ?_,h.above k hk];have:=h.size;have:=h.pos;rcases hx with rfl|⟨i,hi,rfl⟩<;>omega
theorem bK.Base.JA(h:X.Base t0 ks gs w t d dW E S0 G Sw q)(a a':bF)(w1:aj)(y:bF)(hx:x=0\/X.m0<=x):∀i,0<i->i<X.m0->((gs.map<|woken X.P a a' w1).setIfInBounds x y)[i]? =gs[i]? :=by
 intro i h0 hi;rw[iw<|by omega,xG];cases hg:gs[i]? with
 |none=>rfl
 |some g=>rw[GM,aEC<|h.old i g h0 hi hg]
theorem bK.Base.stepW(h:X.Base t0 ks gs w t d dW E S0 G Sw q){i:Nat}{k:K}(hk:ks[i]? =ae k)(hG:je (Sw i) (X.side k) w w' es)(eH:gs'.size=gs.size)(hold:∀i,0<i->i<X.m0->gs'[i]? =gs[i]?):
 X.Base t0 ks gs' w' (t++MemOp.ofEvents (X.m0+i) fn pos es) d dW E S0 G (upd Sw i<|grow (Sw i) w w') q:=by
 have hi:i<ks.length:=(dM.1 hk).1;have hS:∀b,grow (Sw i) w w' b->b<w'.heap.size/\¬G b/\¬X.Sp ks b/\¬X.zQ b/\¬S0 b:=by
  rintro b (hb|⟨h1,h2⟩)
  ·obtain⟨a,b⟩:=h.mem.lN i hi b hb;exact⟨fK a hG.size,b⟩
  ·exact⟨h2,fun x=>absurd (h.mem.tY b x).1<|by omega,fun x=>absurd (h.mem.low b x)<|by omega,fun x=>absurd (h.mem.bZ b x)<|by omega,fun x=>absurd (h.mem.rG b x).1<|by omega⟩
 have xA:∀b,(X.side k).rd b->b<w'.heap.size:=fun b hb=>fK (h.mem.tY b<|h.mem.yO i k hk b<|(X.side k).le b hb).1 hG.size;obtain⟨m1,m2,m3,m4,m5⟩:=h.more (w':=w') (u:=MemOp.ofEvents (X.m0+i) fn pos es) (.inr ⟨i,hi,rfl⟩) ofEvents_g hG.size (fun op aO=>by obtain⟨e,he,rfl⟩:=aDZ aO;exact ah2 (hG.evs e he) (fun b hb=>(hS b hb).1) xA)
  (fun op aO e=>by obtain⟨x,hx,rfl⟩:=aDZ aO;exact(O0<|hG.evs x hx).2.2 _<|aER e)
 have hm:X.Mem ks E S0 G (upd Sw i<|grow (Sw i) w w') w':=by
  refine⟨fun b hb=>?_,fun i' mP b hb=>?_,fun a a' ha ha' b hb iT=>?_,fun b hb=>?_,h.mem.LW,h.mem.Hw,h.mem.yO,fun b hb=>fK (h.mem.low b hb) hG.size,fun b hb=>fK (h.mem.bZ b hb) hG.size,h.mem.LX⟩
  ·obtain⟨x,y⟩:=h.mem.rG b hb;exact⟨fK x hG.size,y⟩
  ·by_cases e:i'=i
   ·subst e;rw[aD5]at hb;exact hS b hb
   ·rw[aD8 _ _ e]at hb;obtain⟨x,y⟩:=h.mem.lN i' mP b hb;exact⟨fK x hG.size,y⟩
  ·have one:∀c,c<ks.length->c≠i->∀b,Sw c b->grow (Sw i) w w' b->False:=by
    rintro c hc dh b h1 (h2|⟨h2,_⟩)
    ·exact dh<|h.mem.apart c i hc hi b h1 h2
    ·exact absurd (h.mem.lN c hc b h1).1<|by omega
   by_cases e:a=i
   ·by_cases e':a'=i
    ·rw[e,e']
    ·subst e;rw[aD5]at hb;rw[aD8 _ _ e']at iT;exact(one a' ha' e' b iT hb).elim
   ·by_cases e':a'=i
    ·subst e';rw[aD5]at iT;rw[aD8 _ _ e]at hb;exact(one a ha e b hb iT).elim
    ·rw[aD8 _ _ e]at hb;rw[aD8 _ _ e']at iT;exact h.mem.apart a a' ha ha' b hb iT
  ·obtain⟨x,y⟩:=h.mem.tY b hb;exact⟨fK x hG.size,y⟩
 refine⟨eH.trans h.size,h.pos,fun a g h0 ha hg=>?_,fun a ha=>m4 a<|eH▸ha,by rw[m5 0 (by have:=h.pos;omega)];exact h.deaf0,fun a ha=>?_,hm,?_,m1,m2,m3,h.iC,hG.RZ h.pM fun b z=>⟨(h.mem.lN i hi b z).1,fun hb=>hb.elim (h.mem.lN i hi b z).2.2.2.1 fun e=>(h.mem.lN i hi b z).2.2.1<|.inl e⟩⟩
 ·rw[m5 a<|by omega];exact h.old a g h0 ha (by rw[<-hold a h0 ha];exact hg)
 ·by_cases e:a=i
  ·subst e;rw[aEM,h.deafW a ha];exact deafBehind_still (fun e he=>⟨(O0<|hG.evs e he).1,(O0<|hG.evs e he).2.1⟩) _
  ·rw[m5 _<|by omega];exact h.deafW a ha
 ·have pX:TI X.Sh (lh X.iG) (X.O (upd Sw i<|grow (Sw i) w w') ks.length) (X.Rd ks) t:=by
   refine h.ti.grow ?_ ?_ ?_
   ·rintro c l ⟨a,ha,rfl,hl⟩;refine⟨a,ha,rfl,hl.imp (fun hl=>?_) id⟩;by_cases e:a=i
    ·subst e;rw[aD5];exact lh.mono (fun b hb=>.inl hb) hl
    ·rw[aD8 _ _ e];exact hl
   ·rintro c l ⟨a,ha,rfl,hl⟩;rcases hl with hl|hl
    ·by_cases e:a=i
     ·subst e;rw[aD5]at hl;by_cases fE:lh (Sw a) l
      ·exact .inl ⟨a,ha,rfl,.inl fE⟩
      ·right;intro n x hx e;obtain⟨op,aO,vZ⟩:=aEG hx;have Aj:=h.seen op<|KR aO;have ZF:∀b,lh (grow (Sw a) w w') l->(l=.obj b\/∃x,l=.cell x/\x.block=b)->w.heap.size<=b:=by
        rintro b h1 (rfl|⟨x,rfl,rfl⟩)
        ·rcases h1 with h1|h1
         ·exact absurd h1 fE
         ·exact h1.1
        ·rcases h1 with h1|h1
         ·exact absurd h1 fE
         ·exact h1.1
       have Ah:x.loc.low w.heap.size:=by
        obtain⟨g0,fn0,aBx,act⟩:=op;simp only at Aj vZ;cases act with
        |access e=>simp only[MemAct.touch?,gu]at vZ;subst vZ;exact Aj
        |mark m=>cases m<;>simp[MemAct.touch?]at vZ<;>(subst vZ;exact Aj)
        |_=>simp[MemAct.touch?]at vZ
       rw[e]at Ah;cases l with
       |cell a=>exact absurd Ah<|Nat.not_lt.2<|ZF a.block hl<|.inr ⟨a,rfl,rfl⟩
       |obj r=>exact absurd Ah<|Nat.not_lt.2<|ZF r hl<|.inl rfl
       |_=>exact hl.elim
     ·rw[aD8 _ _ e]at hl;exact .inl ⟨a,ha,rfl,.inl hl⟩
    ·exact .inl ⟨a,ha,rfl,.inr hl⟩
   ·rintro c ⟨l,a,ha,rfl,_⟩;exact⟨.cell ⟨X.C,a,af⟩,a,ha,rfl,.inr rfl⟩
  refine pX.appW (hm.cls ⟨h.iC.1,h.iC.2.1,h.iC.2.2.1⟩) (by have:=h.pos;omega) ⟨.cell ⟨X.C,i,af⟩,i,hi,rfl,.inr rfl⟩ ofEvents_g fun op aO x hx=>?_;obtain⟨e,he,rfl⟩:=aDZ aO;rcases ah1 (hG.evs e he) hx with y|⟨y,z⟩
  ·exact .inr<|.inl ⟨i,hi,rfl,.inl (by rw[aD5];exact y)⟩
  ·exact .inr<|.inr ⟨⟨i,k,hk,rfl,y⟩,z⟩
end
end fJ
end
section
namespace fJ
open Go Go.Conc Twin
open Go.ConcN (upd upd_same upd_ne)
open Go.ConcR (stA smA)
section
variable{K:Type}{X:bK K}{t0:Trace}{ks:List K}{gs gs':Array bF}{w w':aj}{t:Trace}{d:Nat}{dW:Nat->Nat}{E:dD}{S0 G:aN}{Sw:Nat->aN}{q:Nat->Nat}
def bK.Mem.size(h:X.Mem ks E S0 G Sw w)(hs:w'.heap.size=w.heap.size):X.Mem ks E S0 G Sw w':=
 ⟨fun b hb=>hs▸h.rG b hb,fun i hi b hb=>hs▸h.lN i hi b hb,h.apart,fun b hb=>hs▸h.tY b hb,h.LW,h.Hw,h.yO,fun b hb=>hs▸h.low b hb,fun b hb=>hs▸h.bZ b hb,h.LX⟩
def bK.Base.at(h:X.Base t0 ks gs w t d dW E S0 G Sw q)(n:Nat):X.Base t0 ks gs (w.at n) t d dW E S0 G Sw q:=
 ⟨h.size,h.pos,h.old,h.above,h.deaf0,h.deafW,h.mem.size rfl,h.ti,h.seen,h.base,h.norel,h.iC,h.pM.obj,h.pM.low,h.pM.mG⟩
variable{es:Array Event}{fn:FuncId}{pos:String}{g':bF}
def bK.Base.step0(h:X.Base t0 ks gs w t d dW E S0 G Sw q)(hG:je S0 E w w' es)(eH:gs'.size=gs.size)(hold:∀i,0<i->i<X.m0->gs'[i]? =gs[i]?):
 X.Base t0 ks gs' w' (t++MemOp.ofEvents 0 fn pos es) d dW E (grow S0 w w') G Sw q:=by
 have hS:∀b,grow S0 w w' b->b<w'.heap.size/\¬G b/\¬X.Sp ks b/\¬X.zQ b:=by
  rintro b (hb|⟨h1,h2⟩)
  ·obtain⟨a,b⟩:=h.mem.rG b hb;exact⟨fK a hG.size,b⟩
  ·exact⟨h2,fun x=>absurd (h.mem.tY b x).1<|by omega,fun x=>absurd (h.mem.low b x)<|by omega,fun x=>absurd (h.mem.bZ b x)<|by omega⟩
 have hW:∀i,i<ks.length->∀b,Sw i b->¬grow S0 w w' b:=by
  rintro i hi b hb (hx|⟨hx,_⟩)
  ·exact(h.mem.lN i hi b hb).2.2.2.2 hx
  ·exact absurd (h.mem.lN i hi b hb).1<|by omega
 have xA:∀b,E.rd b->b<w'.heap.size:=fun b hb=>fK (h.mem.tY b<|h.mem.Hw b hb).1 hG.size;obtain⟨m1,m2,m3,m4,m5⟩:=h.more (w':=w') (u:=MemOp.ofEvents 0 fn pos es) (.inl rfl) ofEvents_g hG.size (fun op aO=>by obtain⟨e,he,rfl⟩:=aDZ aO;exact ah2 (hG.evs e he) (fun b hb=>(hS b hb).1) xA)
  (fun op aO e=>by obtain⟨x,hx,rfl⟩:=aDZ aO;exact(O0<|hG.evs x hx).2.2 _<|aER e)
 have hm:X.Mem ks E (grow S0 w w') G Sw w':=by
  refine⟨hS,fun i hi b hb=>?_,h.mem.apart,fun b hb=>?_,h.mem.LW,h.mem.Hw,h.mem.yO,fun b hb=>fK (h.mem.low b hb) hG.size,fun b hb=>fK (h.mem.bZ b hb) hG.size,h.mem.LX⟩
  ·obtain⟨x,y,z,u,_⟩:=h.mem.lN i hi b hb;exact⟨fK x hG.size,y,z,u,hW i hi b hb⟩
  ·obtain⟨x,y⟩:=h.mem.tY b hb;exact⟨fK x hG.size,y⟩
 refine⟨eH.trans h.size,h.pos,fun a g h0 ha hg=>?_,fun a ha=>m4 a<|eH▸ha,?_,fun a ha=>?_,hm,?_,m1,m2,m3,h.iC,hG.RZ h.pM fun b z=>⟨(h.mem.rG b z).1,fun hb=>hb.elim (h.mem.rG b z).2.2.2 fun e=>(h.mem.rG b z).2.2.1<|.inl e⟩⟩
 ·rw[m5 a<|by omega];exact h.old a g h0 ha (by rw[<-hold a h0 ha];exact hg)
 ·rw[aEM,h.deaf0];exact deafBehind_still (fun e he=>⟨(O0<|hG.evs e he).1,(O0<|hG.evs e he).2.1⟩) _
 ·rw[m5 _ (by have:=h.pos;omega)];exact h.deafW a ha
 ·refine h.ti.app0 (h.mem.cls ⟨h.iC.1,h.iC.2.1,h.iC.2.2.1⟩) ofEvents_g fun op aO x hx=>?_;obtain⟨e,he,rfl⟩:=aDZ aO;have JB:∀{S:aN},(∀b,S b->¬X.Sp ks b)->lh S x.loc->¬X.Sh x.loc/\∀i,x.loc≠.cell ⟨X.C,i,af⟩:=by
   intro S hS hl;refine⟨?_,?_⟩
   ·rintro(⟨a,e,ha⟩|e)
    ·rw[e]at hl;exact hS _ hl<|.inl ha
    ·rw[e]at hl;exact hS _ hl<|.inr<|.inr<|.inl rfl
   ·intro i e;rw[e]at hl;exact hS _ hl<|.inr<|.inl rfl
  have two:∀{S T:aN},(∀b,S b->¬T b)->lh S x.loc->¬lh T x.loc:=by
   intro S T hST h1 h2;generalize x.loc=l at h1 h2;cases l<;>first|exact hST _ h1 h2|exact h1.elim
  right;rcases ah1 (hG.evs e he) hx with y|⟨y,z⟩
  ·refine⟨(JB (fun b hb=>(hS b hb).2.2.1) y).1,two (fun b hb z=>(hS b hb).2.2.2<|.inl z) y,?_,?_⟩
   ·rintro k hk ⟨i,hi,rfl,hl⟩;rcases hl with hl|hl
    ·exact two (fun b hb=>hW i hi b hb) hl y
    ·exact(JB (fun b hb=>(hS b hb).2.2.1) y).2 i hl
   ·rintro _ k hk ⟨i,κ,jC,rfl,hl⟩;exact two (fun b hb=>(hS b hb).2.1) y<|lh.mono (fun b hb=>h.mem.yO i κ jC b<|(X.side κ).le b hb) hl
  ·have yG:lh G x.loc:=lh.mono h.mem.Hw y;refine⟨(JB (fun b hb=>(h.mem.tY b hb).2.1) yG).1,two (fun b hb=>(h.mem.tY b hb).2.2) yG,?_,fun hw=>by rw[z]at hw;cases hw⟩;rintro k hk ⟨i,hi,rfl,hl⟩;rcases hl with hl|hl
   ·exact two (fun b hb=>(h.mem.lN i hi b hb).2.1) hl yG
   ·exact(JB (fun b hb=>(h.mem.tY b hb).2.1) yG).2 i hl
def acf(h:au.jB X.bZ w)(hA:Aside X.Wg w w'):au.jB X.bZ w':=
 ⟨by rw[hA.size];exact fun b o hb ho=>h.obj b o hb (by rw[<-hA.block b fun e=>hb<|.inl<|.inr e];exact ho),fun b hb=>by rw[hA.size];exact h.low b hb,by rw[hA.size];exact h.mG⟩
def bK.O1(X:bK K)(e:Event):Prop:=
 e.loc=.mark .disable\/e.loc=.mark .enable\/(∃a,e.loc=.mark (.read a)/\a.block=X.Wg)\/(∃a,e.loc=.mark (.write a)/\a.block=X.Wg)\/(∃a wr,e=⟨.cell a,wr,true⟩/\a.block=X.Wg)\/(∃a,e.loc=.mark (.acquire a)/\a.block=X.Wg)
def bK.O1.low{e:Event}(h:X.O1 e){B:Nat}(hB:X.Wg<B):(MemAct.ofEvent e).low B/\MemAct.ofEvent e≠.mark (.release<|stA X.Wg)/\∀x,(MemAct.ofEvent e).touch?=ae x->X.Sh x.loc/\x.kind≠.plain:=by
 obtain⟨loc,wr,sy⟩:=e;rcases h with h|h|⟨a,h,ha⟩|⟨a,h,ha⟩|⟨a,wr',h,ha⟩|⟨a,h,ha⟩
 ·simp only at h;subst h;exact⟨trivial,by simp[MemAct.ofEvent],by simp[MemAct.ofEvent,MemAct.touch?]⟩
 ·simp only at h;subst h;exact⟨trivial,by simp[MemAct.ofEvent],by simp[MemAct.ofEvent,MemAct.touch?]⟩
 ·simp only at h;subst h;refine⟨show a.block<B by omega,by simp[MemAct.ofEvent],fun x hx=>?_⟩;simp only[MemAct.ofEvent,MemAct.touch?,gu]at hx;subst hx;exact⟨.inl ⟨a,rfl,ha⟩,by simp⟩
 ·simp only at h;subst h;refine⟨show a.block<B by omega,by simp[MemAct.ofEvent],fun x hx=>?_⟩;simp only[MemAct.ofEvent,MemAct.touch?,gu]at hx;subst hx;exact⟨.inl ⟨a,rfl,ha⟩,by simp⟩
 ·cases h;refine⟨show a.block<B by omega,by simp[MemAct.ofEvent],fun x hx=>?_⟩;simp only[MemAct.ofEvent,MemAct.touch?,gu]at hx;subst hx;exact⟨.inl ⟨a,rfl,ha⟩,by simp⟩
 ·simp only at h;subst h;exact⟨show a.block<B by omega,by simp[MemAct.ofEvent],by simp[MemAct.ofEvent,MemAct.touch?]⟩
def bK.Base.gK(h:X.Base t0 ks gs w t d dW E S0 G Sw q){es:Array Event}{fn:FuncId}{pos:String}(bP:au.jB X.bZ w')(hs:w'.heap.size=w.heap.size)(qg:∀e∈es,X.O1 e)(eH:gs'.size=gs.size)(hold:∀i,0<i->i<X.m0->gs'[i]? =gs[i]?):
 X.Base t0 ks gs' w' (t++MemOp.ofEvents 0 fn pos es) (deafBehind d es) dW E S0 G Sw q:=by
 have hWg:X.Wg<w'.heap.size:=hs▸h.mem.low _ (.inl rfl);obtain⟨m1,m2,m3,m4,m5⟩:=h.more (w':=w') (u:=MemOp.ofEvents 0 fn pos es) (.inl rfl) ofEvents_g (BM hs.symm) (fun op aO=>by obtain⟨e,he,rfl⟩:=aDZ aO;exact((qg e he).low hWg).1)
  (fun op aO=>by obtain⟨x,hx,rfl⟩:=aDZ aO;exact((qg x hx).low hWg).2.1)
 refine⟨eH.trans h.size,h.pos,fun a g h0 ha hg=>?_,fun a ha=>m4 a<|eH▸ha,by rw[aEM,h.deaf0],fun a ha=>?_,h.mem.size hs,?_,m1,m2,m3,h.iC,bP⟩
 ·rw[m5 a<|by omega];exact h.old a g h0 ha (by rw[<-hold a h0 ha];exact hg)
 ·rw[m5 _ (by have:=h.pos;omega)];exact h.deafW a ha
 ·refine h.ti.app0 (h.mem.cls ⟨h.iC.1,h.iC.2.1,h.iC.2.2.1⟩) ofEvents_g fun op aO x hx=>?_;obtain⟨e,he,rfl⟩:=aDZ aO;exact .inl<|((qg e he).low hWg).2.2 x hx
def bK.Base.quiet(h:X.Base t0 ks gs w t d dW E S0 G Sw q){u:Trace}(bP:au.jB X.bZ w')(hs:w'.heap.size=w.heap.size)(hu:∀op∈u,op.act.touch?=af/\op.act.low w.heap.size/\op.act≠.mark .disable/\op.act≠.mark .enable/\op.act≠.mark (.release<|stA X.Wg))(eH:gs'.size=gs.size)(hold:∀i,0<i->i<X.m0->gs'[i]? =gs[i]?):
 X.Base t0 ks gs' w' (t++u) d dW E S0 G Sw q:=by
 have hd:∀g,Deaf (t++u) g=Deaf t g:=ah3 fun op aO=>⟨(hu op aO).2.2.1,(hu op aO).2.2.2.1⟩;refine⟨eH.trans h.size,h.pos,fun a g h0 ha hg=>?_,fun a ha=>by rw[hd];exact h.above a<|eH▸ha,by rw[hd];exact h.deaf0,fun a ha=>by rw[hd];exact h.deafW a ha,h.mem.size hs,h.ti.wH fun op aO=>(hu op aO).1,?_,?_,h.norel.app fun op aO=>(hu op aO).2.2.2.2,h.iC,bP⟩
 ·rw[hd];exact h.old a g h0 ha (by rw[<-hold a h0 ha];exact hg)
 ·rw[hs];exact seen_app h.seen fun op aO=>(hu op aO).2.1
 ·obtain⟨v,rfl,hv⟩:=h.base;refine⟨v++u,by simp[aaj],fun op aO ht=>?_⟩;rcases Jd.1 aO with aO|aO
  ·exact hv op aO ht
  ·exact absurd (hu op aO).1 ht
def bK.Base.leave(h:X.Base t0 ks gs w t d dW E S0 G Sw q){i n:Nat}(h0:0<i)(hi:i<X.m0)(hm:∀e∈es,e.mute=true)(hq:QuitsD X.P n (deafBehind (Deaf t i) es) g')(a a':bF)(w1:aj):
 X.Base t0 ks ((gs.map<|woken X.P a a' w1).setIfInBounds i g') w (t++MemOp.ofEvents i fn pos es) d dW E S0 G Sw (upd q i n):=by
 have LY:∀g,g≠i->Deaf (t++MemOp.ofEvents i fn pos es) g=Deaf t g:=fun g hg=>aEr t (iW hg) _ ofEvents_g;have aI:i<gs.size:=by rw[h.size];omega
 have eH:((gs.map<|woken X.P a a' w1).setIfInBounds i g').size=gs.size:=by simp
 refine⟨eH.trans h.size,h.pos,fun a2 g2 h02 ZG FY=>?_,fun k hk=>?_,?_,fun k hk=>?_,h.mem,?_,?_,?_,?_,h.iC,h.pM⟩
 ·by_cases e:a2=i
  ·subst e;rw[tq<|by simpa using aI]at FY;cases FY;rw[aEM,aD5];exact hq
  ·rw[iw<|iW e,xG]at FY;obtain⟨y,hy,rfl⟩:=zC.1 FY;have:=h.old a2 y h02 ZG hy;rw[aEC this,aD8 q n e,LY a2 e];exact this
 ·have:=h.size;rw[LY k (by rw[eH]at hk;omega)];exact h.above k<|eH▸hk
 ·rw[LY 0<|by omega];exact h.deaf0
 ·rw[LY _<|by omega];exact h.deafW k hk
 ·exact h.ti.wH fun op aO=>by obtain⟨e,he,rfl⟩:=aDZ aO;exact touch_mute<|hm e he
 ·exact seen_app h.seen fun op aO=>by obtain⟨e,he,rfl⟩:=aDZ aO;exact low_mute (hm e he) _
 ·obtain⟨v,rfl,hv⟩:=h.base;refine⟨v++MemOp.ofEvents i fn pos es,by simp[aaj],fun op aO ht=>?_⟩;rcases Jd.1 aO with aO|aO
  ·exact hv op aO ht
  ·obtain⟨e,he,rfl⟩:=aDZ aO;exact absurd (touch_mute<|hm e he) ht
 ·refine h.norel.app fun op aO e=>?_;obtain⟨x,hx,rfl⟩:=aDZ aO;have:=hm x hx;have hl:=aER e;obtain⟨loc,wr,sy⟩:=x;simp only at hl;subst hl;simp[Event.mute]at this
def bK.Base.spawn(h:X.Base t0 ks gs w t 0 dW E S0 G Sw q){k:K}{Sk S1:aN}{E1:dD}{child:bF}{fn':FuncId}{pos':String}
 (aQ:∀b,Sk b->S0 b)(hc:S0 (X.ch k))(o6:¬Sk (X.ch k))(lI:¬(X.side k).ro (X.ch k))(hr:∀b,(X.side k).ro b->S0 b\/E.rd b)(hx:∀b,Sk b->¬(X.side k).ro b)
 (vX:∀b,S1 b->S0 b/\¬Sk b/\¬(X.side k).ro b/\b≠X.ch k)(IQ:∀b,E1.ro b->E.ro b\/(X.side k).ro b)(Vb:∀b,E1.rd b->E.rd b\/(X.side k).ro b):
 X.Base t0 (ks++[k]) ((gs.setIfInBounds 0 g').push child) w (t++ #[{g:=0,fn,pos,act:=.go gs.size},{g:=gs.size,fn:=fn',pos:=pos',act:=.start}]) 0 (upd dW ks.length 0) E1 S1 (fun b=>G b\/(X.side k).ro b) (upd Sw ks.length Sk) q:=by
 have Vd:=(h.mem.rG _ hc).2.2.1;have Qv:∀b,(X.side k).ro b->b<w.heap.size/\¬X.Sp ks b/\¬X.iG b/\∀i,i<ks.length->¬Sw i b:=by
  intro b hb;rcases hr b hb with x|x
  ·obtain⟨a1,a2,a3,a4⟩:=h.mem.rG b x;exact⟨a1,a3,fun z=>a4<|.inl z,fun i hi y=>(h.mem.lN i hi b y).2.2.2.2 x⟩
  ·obtain⟨a1,a2,a3⟩:=h.mem.tY b<|h.mem.Hw b x;exact⟨a1,a2,a3,fun i hi y=>(h.mem.lN i hi b y).2.1<|h.mem.Hw b x⟩
 have NH:∀b,X.Sp (ks++[k]) b->X.Sp ks b\/b=X.ch k:=by
  rintro b (x|x|x|⟨y,hy,x⟩)
  ·exact .inl<|.inl x
  ·exact .inl<|.inr<|.inl x
  ·exact .inl<|.inr<|.inr<|.inl x
  ·rcases oP.1 hy with hy|hy
   ·exact .inl<|.inr<|.inr<|.inr ⟨y,hy,x⟩
   ·simp at hy;subst hy;exact .inr x
 have get:∀(i:Nat) (x:K),(ks++[k])[i]? =ae x->ks[i]? =ae x\/(i=ks.length/\x=k):=by
  intro i x hi;rw[List.getElem?_append]at hi;split at hi
  ·exact .inl hi
  ·rename_i Ey;right;have dR:i-ks.length=0:=by
    cases e:i-ks.length with
    |zero=>rfl
    |succ n=>rw[e]at hi;simp at hi
   rw[dR]at hi;simp at hi;exact⟨by omega,hi.symm⟩
 have O3:∀i,i<ks.length->upd Sw ks.length Sk i=Sw i:=fun i hi=>aD8 _ _ (by omega);have hd:∀g,Deaf (t++ #[({g:=0,fn,pos,act:=.go gs.size}:MemOp),{g:=gs.size,fn:=fn',pos:=pos',act:=.start}]) g=Deaf t g:=ah3 fun op aO=>by
  simp only[tu,jR,pF,pG]at aO;rcases aO with rfl|rfl<;>simp
 have hm:X.Mem (ks++[k]) E1 S1 (fun b=>G b\/(X.side k).ro b) (upd Sw ks.length Sk) w:=by
  refine⟨fun b hb=>?_,fun i hi b hb=>?_,fun i i' hi mP b hb iT=>?_,fun b hb=>?_,fun b hb=>?_,fun b hb=>?_,fun i x hx b hb=>?_,fun b hb=>?_,h.mem.bZ,fun b hb=>?_⟩
  ·obtain⟨a,b1,c,e⟩:=vX b hb;obtain⟨a1,a2,a3,a4⟩:=h.mem.rG b a;exact⟨a1,fun z=>z.elim a2 c,fun z=>(NH b z).elim a3 e,a4⟩
  ·by_cases e:i=ks.length
   ·subst e;rw[aD5]at hb;obtain⟨a1,a2,a3,a4⟩:=h.mem.rG b<|aQ b hb;exact⟨a1,fun z=>z.elim a2<|hx b hb,fun z=>(NH b z).elim a3 fun z=>o6<|z▸hb,a4,fun z=>(vX b z).2.1 hb⟩
   ·have mP:i<ks.length:=by simp at hi;omega
    rw[O3 i mP]at hb;obtain⟨a1,a2,a3,a4,a5⟩:=h.mem.lN i mP b hb;exact⟨a1,fun z=>z.elim a2 fun z=>(Qv b z).2.2.2 i mP hb,fun z=>(NH b z).elim a3 fun z=>a5<|z▸hc,a4,fun z=>a5 (vX b z).1⟩
  ·have one:∀i,i<ks.length->∀b,Sw i b->¬Sk b:=fun i hi b hb z=>(h.mem.lN i hi b hb).2.2.2.2<|aQ b z;simp only[iV,oq,wB,DK]at hi mP;by_cases e:i=ks.length
   ·by_cases e':i'=ks.length
    ·rw[e,e']
    ·rw[e,aD5]at hb;rw[O3 i'<|by omega]at iT;exact absurd hb<|one i' (by omega) b iT
   ·rw[O3 i<|by omega]at hb;by_cases e':i'=ks.length
    ·rw[e',aD5]at iT;exact absurd iT<|one i (by omega) b hb
    ·rw[O3 i'<|by omega]at iT;exact h.mem.apart i i' (by omega) (by omega) b hb iT
  ·rcases hb with hb|hb
   ·obtain⟨a1,a2,a3⟩:=h.mem.tY b hb;exact⟨a1,fun z=>(NH b z).elim a2 fun z=>(h.mem.rG _ hc).2.1<|z▸hb,a3⟩
   ·obtain⟨a1,a2,a3,_⟩:=Qv b hb;exact⟨a1,fun z=>(NH b z).elim a2 fun z=>lI<|z▸hb,a3⟩
  ·rcases IQ b hb with z|z
   ·exact(h.mem.LW b z).imp .inl id
   ·exact .inl<|.inr z
  ·rcases Vb b hb with z|z
   ·exact .inl<|h.mem.Hw b z
   ·exact .inr z
  ·rcases get i x hx with z|⟨_,rfl⟩
   ·exact .inl<|h.mem.yO i x z b hb
   ·exact .inr hb
  ·rcases NH b hb with z|rfl
   ·exact h.mem.low b z
   ·exact(h.mem.rG _ hc).1
  ·rcases NH b hb with z|rfl
   ·exact h.mem.LX b z
   ·exact(h.mem.rG _ hc).2.2.2
 have Aj:∀op∈#[({g:=0,fn,pos,act:=.go gs.size}:MemOp),{g:=gs.size,fn:=fn',pos:=pos',act:=.start}],op.act.touch?=af/\op.act.low w.heap.size/\op.act≠.mark (.release<|stA X.Wg):=by
  intro op aO;simp only[tu,jR,pF,pG]at aO;rcases aO with rfl|rfl<;>exact⟨rfl,trivial,by simp⟩
 have o8:=h.pos;have aCz:=h.size;refine⟨by simp[h.size]<;>omega,h.pos,fun a g h0 ha hg=>?_,fun a ha=>?_,by rw[hd];exact h.deaf0,fun a ha=>?_,hm,?_,seen_app h.seen fun op aO=>(Aj op aO).2.1,?_,h.norel.app fun op aO=>(Aj op aO).2.2,⟨h.iC.1,h.iC.2.1,h.iC.2.2.1,fun x hx=>?_,fun i i' x x' h1 h2 e=>?_⟩,h.pM⟩
 ·rw[hd];refine h.old a g h0 ha ?_;rw[QM,if_neg (by simp<;>omega),iw<|by omega]at hg;exact hg
 ·rw[hd];exact h.above a (by simp at ha;omega)
 ·rw[hd];by_cases e:a=ks.length
  ·rw[e,aD5];exact h.above _<|by omega
  ·rw[aD8 _ _ e];exact h.deafW a (by simp at ha;omega)
 ·refine h.ti.fork (k:=gs.size) ⟨rfl,rfl⟩ ⟨rfl,rfl⟩ h.deaf0 (h.above _<|dm _) ?_ ?_ ?_ ?_
  ·rintro k' l ⟨i,hi,rfl,hl⟩;simp only[iV,oq,wB,DK]at hi;by_cases e:i=ks.length
   ·right;subst e;rw[aD5]at hl;refine⟨by omega,?_⟩;have nO:∀{b:Nat},(l=.obj b\/∃a,l=.cell a/\a.block=b)->(∀i,i<ks.length->¬Sw i b)->(∀i,i<ks.length->l≠.cell ⟨X.C,i,af⟩)->¬G b->∀uX,uX≠0->¬X.O Sw ks.length uX l/\¬X.Rd ks uX l:=by
     intro b hb h1 h2 h3 uX _;refine⟨?_,?_⟩
     ·rintro⟨i,hi,rfl,hl|hl⟩
      ·rcases hb with rfl|⟨a,rfl,rfl⟩<;>exact h1 i hi hl
      ·exact h2 i hi hl
     ·rintro⟨i,x,hx,rfl,hl⟩;have:=h.mem.yO i x hx;rcases hb with rfl|⟨a,rfl,rfl⟩<;>exact h3<|this _<|(X.side x).le _ hl
    rcases hl with hl|rfl
    ·have key:∀b,Sk b->(l=.obj b\/∃a,l=.cell a/\a.block=b)->¬X.Sh l/\¬lh X.iG l/\∀uX,uX≠0->¬X.O Sw ks.length uX l/\¬X.Rd ks uX l:=by
      intro b hb iF;obtain⟨a1,a2,a3,a4⟩:=h.mem.rG b<|aQ b hb;refine⟨?_,?_,nO iF (fun i hi z=>(h.mem.lN i hi b z).2.2.2.2<|aQ b hb) (fun i hi e=>?_) a2⟩
      ·rintro(⟨a,e,ha⟩|e)
       ·rcases iF with iF|⟨a',iF,rfl⟩
        ·rw[e]at iF;cases iF
        ·rw[e]at iF;cases iF;exact a3<|.inl ha
       ·rcases iF with iF|⟨a',iF,rfl⟩
        ·rw[e]at iF;cases iF;exact a3<|.inr<|.inr<|.inl rfl
        ·rw[e]at iF;cases iF
      ·rcases iF with rfl|⟨a',rfl,rfl⟩<;>exact fun z=>a4<|.inl z
      ·rcases iF with iF|⟨a',iF,rfl⟩
       ·rw[e]at iF;cases iF
       ·rw[e]at iF;cases iF;exact a3<|.inr<|.inl rfl
     refine⟨hl.mem,?_⟩;cases l with
     |cell a=>exact key a.block hl<|.inr ⟨a,rfl,rfl⟩
     |obj r=>exact key r hl<|.inl rfl
     |_=>exact hl.elim
    ·refine⟨rfl,?_,fun z=>h.mem.LX _ (.inr<|.inl rfl)<|.inl z,nO (b:=X.C) (.inr ⟨_,rfl,rfl⟩) (fun i hi z=>(h.mem.lN i hi _ z).2.2.1<|.inr<|.inl rfl) (fun i hi e=>?_) fun z=>(h.mem.tY _ z).2.1<|.inr<|.inl rfl⟩
     ·rintro(⟨a,e,ha⟩|e)
      ·cases e;exact h.iC.1 ha.symm
      ·cases e
     ·simp at e;omega
   ·rw[O3 i<|by omega]at hl;exact .inl ⟨i,by omega,rfl,hl⟩
  ·rintro k' l ⟨i,x,hx,rfl,hl⟩;rcases get i x hx with z|⟨rfl,rfl⟩
   ·exact .inl ⟨i,x,z,rfl,hl⟩
   ·right;have key:∀b,(X.side x).rd b->(l=.obj b\/∃a,l=.cell a/\a.block=b)->¬X.Sh l/\¬lh X.iG l/\∀uX,uX≠0->¬X.O Sw ks.length uX l:=by
     intro b hb iF;obtain⟨a1,a2,a3,a4⟩:=Qv b<|(X.side x).le b hb;refine⟨?_,?_,?_⟩
     ·rintro(⟨a,e,ha⟩|e)
      ·rcases iF with iF|⟨a',iF,rfl⟩
       ·rw[e]at iF;cases iF
       ·rw[e]at iF;cases iF;exact a2<|.inl ha
      ·rcases iF with iF|⟨a',iF,rfl⟩
       ·rw[e]at iF;cases iF;exact a2<|.inr<|.inr<|.inl rfl
       ·rw[e]at iF;cases iF
     ·rcases iF with rfl|⟨a',rfl,rfl⟩<;>exact a3
     ·rintro uX _ ⟨i,hi,rfl,ZH|ZH⟩
      ·rcases iF with rfl|⟨a',rfl,rfl⟩<;>exact a4 i hi ZH
      ·rcases iF with iF|⟨a',iF,rfl⟩
       ·rw[ZH]at iF;cases iF
       ·rw[ZH]at iF;cases iF;exact a2<|.inr<|.inl rfl
    refine⟨by omega,hl.mem,?_⟩;cases l with
    |cell a=>exact key a.block hl<|.inr ⟨a,rfl,rfl⟩
    |obj r=>exact key r hl<|.inl rfl
    |_=>exact hl.elim
  ·rintro k' l ⟨i,hi,rfl,hl⟩;exact⟨i,by simp<;>omega,rfl,by rw[O3 i hi];exact hl⟩
  ·rintro k' l ⟨i,x,hx,rfl,hl⟩;exact⟨i,x,by rw[uz (dM.1 hx).1];exact hx,rfl,hl⟩
 ·obtain⟨v,rfl,hv⟩:=h.base;refine⟨v++ #[{g:=0,fn,pos,act:=.go gs.size},{g:=gs.size,fn:=fn',pos:=pos',act:=.start}],by simp[aaj],fun op aO ht=>?_⟩;rcases Jd.1 aO with aO|aO
  ·exact(hv op aO ht).imp id fun⟨i,hi,e⟩=>⟨i,by simp<;>omega,e⟩
  ·exact absurd (Aj op aO).1 ht
 ·rcases oP.1 hx with z|z
  ·exact h.iC.2.2.2.1 x z
  ·simp at z;subst z;exact⟨fun e=>Vd<|.inl e,fun e=>Vd<|.inr<|.inl e,fun e=>Vd<|.inr<|.inr<|.inl e⟩
 ·rcases get i x h1 with z|⟨rfl,rfl⟩
  ·rcases get i' x' h2 with z'|⟨rfl,rfl⟩
   ·exact h.iC.2.2.2.2 i i' x x' z z' e
   ·exact absurd (.inr<|.inr<|.inr ⟨x,gz z,e.symm⟩) Vd
  ·rcases get i' x' h2 with z'|⟨rfl,rfl⟩
   ·exact absurd (.inr<|.inr<|.inr ⟨x',gz z',e⟩) Vd
   ·rfl
end
end fJ
end
section
namespace fJ
open Go Go.Conc Twin
open Go.ConcN (upd upd_same upd_ne)
open Go.ConcR (stA smA)
inductive qP where
 |gK
 |go
 |send (i:Nat) (v:az)
def msgs:List qP->Nat->List az
 |[],_=>[]
 | .send i v::ts,j=>if j=i then v::msgs ts j else msgs ts j
 |_::ts,j=>msgs ts j
section
variable{K:Type}(X:bK K)
def bK.cs(k:K)(z0 z1:az):Array CommCase:=#[rcase (X.ch k) z0,rcase X.ov z1]
structure bK.sH(k:K)(l:List az)(S:aN)(g:bF)(z0 z1:az)(sh:CommShape)(w:aj):Prop where
 run:g.status=.running
 step:∀w1,bg S (X.side k) w w1->bD X.P false g w1=.comm g (X.cs k z0 z1) true sh w1 #[]
 told:∀v r,l++v::r=X.xQ k->aA X.P false (X.side k) (X.Hu k<|l++[v]) S (g.finishComm X.P (X.cs k z0 z1) sh 0 v true) w
 over:aA X.P false (X.side k) (X.Fin k l) S (g.finishComm X.P (X.cs k z0 z1) sh 1 z1 false) w
def bK.Fit:Prop:=∀k l S g w,X.Hu k l S g w->∃z0 z1 sh,X.sH k l S g z0 z1 sh w
inductive bK.Hy(k:K)(l:List az):T->aN->bF->aj->Prop where
 |run {τ S g w} (h:CE X.P false (X.side k) (X.Hu k l) τ S g w):Hy k l τ.more S g w
 |parked {S g z0 z1 sh w} (h:X.sH k l S g z0 z1 sh w):Hy k l .stop S (Go.Conc.parked g (X.cs k z0 z1) sh) w
def bK.jY(End:List K->dD->aN->bF->aj->Prop):List qP->List K->Nat->dD->aN->bF->aj->Prop
 |[],ks,d,E=>fun S g w=>d=0/\g.status=.running/\End ks E S g w
 | .gK::ts,ks,d,E=>fun S g w=>g.status=.running/\∃g' w' es,bD X.P true g w=.go g' w' es/\Aside X.Wg w w'/\(∀e∈es,X.O1 e)/\aA X.P true E (bK.jY End ts ks (deafBehind d es) E) S g' w'
 | .go::ts,ks,d,E=>fun S g w=>d=0/\g.status=.running/\∃g' child k Sk E1 S1,bD X.P true g w=.spawn g' child w #[]/\
    aA X.P false (X.side k) (X.Hu k []) Sk child w/\(∀b,Sk b->S b)/\S (X.ch k)/\¬Sk (X.ch k)/\¬(X.side k).ro (X.ch k)/\(∀b,(X.side k).ro b->S b\/E.rd b)/\(∀b,Sk b->¬(X.side k).ro b)/\
    (∀b,S1 b->S b/\¬Sk b/\¬(X.side k).ro b/\b≠X.ch k)/\(∀b,E1.ro b->E.ro b\/(X.side k).ro b)/\(∀b,E1.rd b->E.rd b\/(X.side k).ro b)/\(∃s r,w.heap[X.ch k]? =ae (.chan 0 #[] false s r false))/\
    msgs ts ks.length=X.xQ k/\aA X.P true E1 (bK.jY End ts (ks++[k]) 0 E1) S1 g' w
 | .send i v::ts,ks,d,E=>fun S g w=>d=0/\g.status=.running/\∃k z sh,ks[i]? =ae k/\bD X.P true g w=.comm g #[scase (X.ch k) v z] true sh w #[]/\
    aA X.P true E (bK.jY End ts ks 0 E) S (g.finishComm X.P #[scase (X.ch k) v z] sh 0 ai false) w
inductive bK.Hz(End:List K->dD->aN->bF->aj->Prop)(ts:List qP)(ks:List K)(d:Nat)(E:dD):T->aN->bF->aj->Prop where
 |run {τ S g w} (h:CE X.P true E (X.jY End ts ks d E) τ S g w):Hz End ts ks d E τ.more S g w
 |parked {i v k z sh S g w bs} (has:ts=.send i v::bs) (hd:d=0) (hk:ks[i]? =ae k)
   (hn:aA X.P true E (X.jY End bs ks 0 E) S (g.finishComm X.P #[scase (X.ch k) v z] sh 0 ai false) w):Hz End ts ks d E .stop S (Go.Conc.parked g #[scase (X.ch k) v z] sh) w
structure bK.Inv1(End:List K->dD->aN->bF->aj->Prop)(o:Option Obj)(t0:Trace)(ts:List qP)(ks:List K)(gs:Array bF)(w:aj)(t:Trace)(d:Nat)(E:dD)(S0 G:aN)(Sw:Nat->aN)(q:Nat->Nat)(bn:Nat->List az)(D:Nat->T)(τ:T):Prop where
 base:X.Base t0 ks gs w t d (fun _=>0) E S0 G Sw q
 main:∃a,gs[0]? =ae a/\X.Hz End ts ks d E τ S0 a w
 work:∀(i:Nat) (k:K),ks[i]? =ae k->∃g,gs[X.m0+i]? =ae g/\X.Hy k (bn i) (D<|X.m0+i) (Sw i) g w
 old:∀i,0<i->i<X.m0->D i=T.nat (q i)
 rH:∀k∈ks,∃s r,w.heap[X.ch k]? =ae (.chan 0 #[] false s r false)
 over:∃cap s r,w.heap[X.ov]? =ae (.chan cap #[] false s r false)
 pair:∀a i v bs,gs[0]? =ae a->a.status=.blocked->ts=.send i v::bs->∃g,gs[X.m0+i]? =ae g/\g.status=.running
 pay:w.heap[X.C]? =o
 none:∀i,ks.length<=i->bn i=[]
 xQ:∀(i:Nat) (k:K),ks[i]? =ae k->bn i++msgs ts i=X.xQ k
end
section
variable{K:Type}{X:bK K}{End:List K->dD->aN->bF->aj->Prop}{k:K}{l:List az}{τ:T}{S:aN}{g:bF}{w w1:aj}{ts:List qP}{ks:List K}{d:Nat}{E:dD}
theorem bK.sH.rely{z0 z1:az}{sh:CommShape}(h:X.sH k l S g z0 z1 sh w)(hk:bg S (X.side k) w w1):X.sH k l S g z0 z1 sh w1:=
 ⟨h.run,fun w2 k2=>h.step w2<|hk.trans k2,fun v r hv=>(h.told v r hv).rely hk,h.over.rely hk⟩
theorem bK.Hy.rely(h:X.Hy k l τ S g w)(hk:bg S (X.side k) w w1):X.Hy k l τ S g w1:=by
 cases h with
 |run h=>exact .run<|h.rely hk
 |parked h=>exact .parked<|h.rely hk
theorem bK.Hz.rely(h:X.Hz End ts ks d E τ S g w)(hk:bg S E w w1):X.Hz End ts ks d E τ S g w1:=by
 cases h with
 |run h=>exact .run<|h.rely hk
 |parked h1 h2 h3 h4=>exact .parked h1 h2 h3<|h4.rely hk
theorem bK.jY.running(h:X.jY End ts ks d E S g w):g.status=.running:=by
 cases ts with
 |nil=>exact h.2.1
 |cons a ts=>
  cases a with
  |gK=>exact h.1
  |go=>exact h.2.1
  |send i v=>exact h.2.1
theorem D6{P:eF}{main:Bool}{Stop:aN->bF->aj->Prop}(h:CE P main E Stop τ S g w)(hs:∀S g w,Stop S g w->g.status=.running):g.status=.running:=by
 cases τ with
 |stop=>exact hs _ _ _<|h w<|bg.refl _ _ _
 |step f=>exact h.1
theorem bK.Hy.status(F:X.Fit)(h:X.Hy k l τ S g w):g.status=.running\/∃g0 z0 z1 sh,g=Go.Conc.parked g0 (X.cs k z0 z1) sh/\X.sH k l S g0 z0 z1 sh w:=by
 cases h with
 |run h=>exact .inl (D6 h fun S g w x=>let ⟨_,_,_,y⟩:=F _ _ _ _ _ x;y.run)
 |parked h=>exact .inr ⟨_,_,_,_,rfl,h⟩
theorem bK.Hz.status(h:X.Hz End ts ks d E τ S g w):g.status=.running\/∃i v k z sh g0 bs,g=Go.Conc.parked g0 #[scase (X.ch k) v z] sh/\ts=.send i v::bs/\ks[i]? =ae k:=by
 cases h with
 |run h=>exact .inl<|D6 h fun S g w x=>x.running
 |parked h1 h2 h3 h4=>exact .inr ⟨_,_,_,_,_,_,_,rfl,h1,h3⟩
end
end fJ
end
section
namespace fJ
open Go Go.Conc Twin
open Go.ConcN (upd upd_same upd_ne)
open Go.ConcR (stA smA)
section
variable{K:Type}{X:bK K}{End:List K->dD->aN->bF->aj->Prop}{o:Option Obj}{t0:Trace}{ts:List qP}{ks:List K}{gs:Array bF}{w w':aj}{t:Trace}{d:Nat}{E:dD}{S0 G:aN}{Sw:Nat->aN}{q:Nat->Nat}{bn:Nat->List az}{D:Nat->T}{τ:T}
 {sl:Option (Nat×Nat)}
def bK.Inv1.at(h:X.Inv1 End o t0 ts ks gs w t d E S0 G Sw q bn D τ)(n:Nat):X.Inv1 End o t0 ts ks gs (w.at n) t d E S0 G Sw q bn D τ:=
 ⟨h.base.at n,let ⟨a,ha,hm⟩:=h.main;⟨a,ha,hm.rely<|bg.at _ _ _ _⟩,fun i k hk=>let ⟨g,hg,hs⟩:=h.work i k hk;⟨g,hg,hs.rely<|bg.at _ _ _ _⟩,h.old,h.rH,h.over,h.pair,h.pay,h.none,h.xQ⟩
variable{dW:Nat->Nat}{g:bF}{i c cap s r b:Nat}{k:K}{es:Array Event}{buf:Array az}{cl tm:Bool}
def bK.Base.Fq(h:X.Base t0 ks gs w t d dW E S0 G Sw q){j:Nat}(hj:gs[j]? =ae g):j=0\/(0<j/\j<X.m0)\/∃i k,j=X.m0+i/\ks[i]? =ae k:=by
 have aI:j<gs.size:=(jk.1 hj).1;rw[h.size]at aI;rcases Jc j with h0|h0
 ·exact .inl h0
 ·rcases E5 j X.m0 with h1|h1
  ·exact .inr<|.inl ⟨h0,h1⟩
  ·exact .inr<|.inr ⟨j-X.m0,ks[j-X.m0]'(by omega),by omega,eY _⟩
def bK.Inv1.still(F:X.Fit)(h:X.Inv1 End o t0 ts ks gs w t d E S0 G Sw q bn D τ)(hc:∀k∈ks,∃s r,w'.heap[X.ch k]? =ae (.chan 0 #[] false s r false))(ho:∃cap s r,w'.heap[X.ov]? =ae (.chan cap #[] false s r false))(a a':bF):gs.map (woken X.P a a' w')=gs:=by
 apply Array.ext_getElem?;intro j;rw[xG];cases hj:gs[j]? with
 |none=>rfl
 |some g=>
  simp only[GM,gu];rcases h.base.Fq hj with rfl|⟨h0,h1⟩|⟨i,k,rfl,hk⟩
  ·obtain⟨x,hx,hm⟩:=h.main;rw[hj]at hx;cases hx;rcases hm.status with hs|⟨i,v,k,z,sh,g0,bs,rfl,_,hk⟩
   ·exact aFj hs
   ·obtain⟨s,r,hc⟩:=hc k<|gz hk;exact woken_send_open a a' hc
  ·exact aEC<|h.base.old j g h0 h1 hj
  ·obtain⟨x,hx,hs⟩:=h.work i k hk;rw[hj]at hx;cases hx;rcases hs.status F with hs|⟨g0,z0,z1,sh,rfl,_⟩
   ·exact aFj hs
   ·unfold woken;split
    ·obtain⟨s,r,hc⟩:=hc k<|gz hk;obtain⟨cap,s',r',ho⟩:=ho;refine again_all_open fun cc qi=>?_;simp only[bK.cs,tu,jR,pF,pG]at qi;rcases qi with rfl|rfl
     ·exact⟨_,_,_,_,_,_,_,rfl,hc⟩
     ·exact⟨_,_,_,_,_,_,_,rfl,ho⟩
    ·rfl
def bK.Base.ach(h:X.Base t0 ks gs w t d dW E S0 G Sw q)(hk:ks[i]? =ae k)(hG:je (Sw i) (X.side k) w w' es):
 bg S0 E w w'/\(∀i' k',i'≠i->ks[i']? =ae k'->bg (Sw i') (X.side k') w w')/\∀b,X.Sp ks b->w'.heap[b]? =w.heap[b]? :=by
 have hi:i<ks.length:=(dM.1 hk).1;have nG:∀b,G b->b<w.heap.size/\¬Sw i b:=fun b hb=>⟨(h.mem.tY b hb).1,fun z=>(h.mem.lN i hi b z).2.1 hb⟩;have JB:∀b,X.Sp ks b->b<w.heap.size/\¬Sw i b:=fun b hb=>⟨h.mem.low b hb,fun z=>(h.mem.lN i hi b z).2.2.1 hb⟩;refine⟨ace hG (fun b hb=>⟨(h.mem.rG b hb).1,fun z=>(h.mem.lN i hi b z).2.2.2.2 hb⟩) fun b hb=>(h.mem.LW b hb).elim (nG b) fun e=>JB b<|.inl e,fun i' k' dh dN=>?_,fun b hb=>hG.still b (JB b hb).1 (JB b hb).2⟩;have mP:i'<ks.length:=(dM.1 dN).1;exact ace hG (fun b hb=>⟨(h.mem.lN i' mP b hb).1,fun z=>dh<|h.mem.apart i' i mP hi b hb z⟩) fun b hb=>nG b<|h.mem.yO i' k' dN b hb
def bK.Inv1.stepW(h:X.Inv1 End o t0 ts ks gs w t d E S0 G Sw q bn D τ)(hk:ks[i]? =ae k){fn:FuncId}{pos:String}(hG:je (Sw i) (X.side k) w w' es){g':bF}{σ:T}(hs:X.Hy k (bn i) σ (grow (Sw i) w w') g' w')(gU:g'.status=.running):
 X.Inv1 End o t0 ts ks (gs.setIfInBounds (X.m0+i) g') w' (t++MemOp.ofEvents (X.m0+i) fn pos es) d E S0 G (upd Sw i<|grow (Sw i) w w') q bn (upd D (X.m0+i) σ) τ:=by
 have hi:i<ks.length:=(dM.1 hk).1;obtain⟨k0,kW,kS⟩:=h.base.ach hk hG;have o8:=h.base.pos;have aI:X.m0+i<gs.size:=by rw[h.base.size];omega
 refine⟨h.base.stepW hk hG (by simp) fun j h0 h1=>by rw[iw<|by omega],?_,fun i' k' dN=>?_,fun j h0 h1=>by rw[aD8 _ _<|by omega];exact h.old j h0 h1,fun κ jC=>?_,?_,fun a i0 v bs ha hb he=>?_,?_,h.none,h.xQ⟩
 ·obtain⟨a,ha,hm⟩:=h.main;exact⟨a,by rw[iw<|by omega];exact ha,hm.rely k0⟩
 ·by_cases e:i'=i
  ·subst e;rw[hk]at dN;cases dN;exact⟨g',by rw[tq aI],by rw[aD5,aD5];exact hs⟩
  ·obtain⟨x,hx,Qz⟩:=h.work i' k' dN;exact⟨x,by rw[iw<|by omega];exact hx,by rw[aD8 _ _<|by omega,aD8 _ _ e];exact Qz.rely<|kW i' k' e dN⟩
 ·obtain⟨s,r,hc⟩:=h.rH κ jC;exact⟨s,r,by rw[kS _<|.inr<|.inr<|.inr ⟨κ,jC,rfl⟩];exact hc⟩
 ·obtain⟨cap,s,r,hc⟩:=h.over;exact⟨cap,s,r,by rw[kS _<|.inr<|.inr<|.inl rfl];exact hc⟩
 ·rw[iw<|by omega]at ha;obtain⟨x,hx,hr⟩:=h.pair a i0 v bs ha hb he;by_cases e:i0=i
  ·subst e;exact⟨g',by rw[tq aI],gU⟩
  ·exact⟨x,by rw[iw<|by omega];exact hx,hr⟩
 ·rw[kS _<|.inr<|.inl rfl];exact h.pay
def bK.Sr(X:bK K)(End:List K->dD->aN->bF->aj->Prop)(o:Option Obj)(t0:Trace)(ts:List qP)(gs:Array bF)(w:aj)(sl:Option (Nat×Nat))(t:Trace)(bn:Nat->List az)(D:Nat->T)(τ:T)(x:Nat):Prop:=
 ∃gs1 w1 ops D7 yP d1 E1 S1 G1 vG q1 zS D1 iL,runT X.P (crowd gs w sl) x=(.next<|crowd gs1 w1 sl,ops)/\X.Inv1 End o t0 D7 yP gs1 w1 (t++ops) d1 E1 S1 G1 vG q1 zS D1 iL/\
  (D7.length<ts.length\/(D7.length=ts.length/\gs1.size=gs.size/\(D5 gs.size D1 D\/(D1=D/\T.Lt iL τ))))/\∀i,zS i++msgs D7 i=bn i++msgs ts i
def bK.Inv1.ah4(F:X.Fit)(h:X.Inv1 End o t0 ts ks gs w t d E S0 G Sw q bn D τ){x:Nat}(h0:∀a,gs[0]? =ae a->offersAt a c true=[]):partners (gs.setIfInBounds x ph) c true=[]:=by
 refine partners_nil fun j g hj=>?_;rcases aE7 gs x j g hj with⟨_,rfl⟩|⟨_,hj⟩
 ·rfl
 ·rcases h.base.Fq hj with rfl|⟨h1,h2⟩|⟨i,k,rfl,hk⟩
  ·exact h0 g hj
  ·rcases(h.base.old j g h1 h2 hj).status with hs|hs<;>exact aEa (by rw[hs];simp) _ _
  ·obtain⟨y,hy,hs⟩:=h.work i k hk;rw[hj]at hy;cases hy;rcases hs.status F with hs|⟨g0,z0,z1,sh,rfl,_⟩
   ·exact aEa (by rw[hs];simp) _ _
   ·refine offersAt_parked_sends (fun cc qi=>?_) _;simp only[bK.cs,tu,jR,pF,pG]at qi;rcases qi with rfl|rfl<;>rfl
def Su{w:aj}(hb:b≠c):(w.setChan c cap buf cl s r tm).heap[b]? =w.heap[b]? :=by
 unfold World.setChan;exact iw<|iW hb
def arX{w:aj}(hc:c<w.heap.size):(w.setChan c cap buf cl s r tm).heap[c]? =ae (.chan cap buf cl s r tm):=by
 unfold World.setChan;exact tq hc
def ah5{w:aj}:(w.setChan c cap buf cl s r tm).heap.size=w.heap.size:=by
 unfold World.setChan;simp
def aci{S:aN}{E:dD}{w:aj}(h1:¬S c)(h2:¬E.ro c):bg S E w (w.setChan c cap buf cl s r tm):=
 ⟨rfl,rfl,rfl,BM ah5.symm,fun _ hb=>Su fun e=>h1<|e▸hb,fun _ hb=>Su fun e=>h2<|e▸hb⟩
def arY{q:Nat->Prop}{w:aj}(h:au.jB q w):au.jB q (w.setChan c cap #[] cl s r tm):=h.setObj fun _ v hv=>by simp at hv
def bK.Base.Sv(h:X.Base t0 ks gs w t d dW E S0 G Sw q)(hb:X.Sp ks b):¬S0 b/\(b≠X.Wg->¬E.ro b)/\(∀i,i<ks.length->¬Sw i b)/\∀(i:Nat) (k:K),ks[i]? =ae k->¬(X.side k).ro b:=
 ⟨fun z=>(h.mem.rG b z).2.2.1 hb,fun dh z=>(h.mem.LW b z).elim (fun g=>(h.mem.tY b g).2.1 hb) dh,fun i hi z=>(h.mem.lN i hi b z).2.2.1 hb,fun i k hk z=>(h.mem.tY b<|h.mem.yO i k hk b z).2.1 hb⟩
def acj(Wg B:Nat)(u:Trace):Prop:=∀op∈u,op.act.touch?=af/\op.act.low B/\op.act≠.mark .disable/\op.act≠.mark .enable/\op.act≠.mark (.release<|stA Wg)
def bK.Inv1.met{v:az}{bs:List qP}(h:X.Inv1 End o t0 (.send i v::bs) ks gs w t 0 E S0 G Sw q bn D τ)(hk:ks[i]? =ae k){ga gw:bF}{z z0 z1:az}{sh Xt:CommShape}
 (hW:X.sH k (bn i) (Sw i) gw z0 z1 sh w)(hn:aA X.P true E (X.jY End bs ks 0 E) S0 (ga.finishComm X.P #[scase (X.ch k) v z] Xt 0 ai false) w){gs1:Array bF}(eH:gs1.size=gs.size)(ZI:gs1[0]? =ae (ga.finishComm X.P #[scase (X.ch k) v z] Xt 0 ai false))
 (h1i:gs1[X.m0+i]? =ae (gw.finishComm X.P (X.cs k z0 z1) sh 0 v true))(zu:∀j,j≠0->j≠X.m0+i->gs1[j]? =gs[j]?){u:Trace}(hu:acj X.Wg w.heap.size u)(s r:Nat):
 ∃D1 iL,X.Inv1 End o t0 bs ks gs1 (w.setChan (X.ch k) 0 #[] false s r false) (t++u) 0 E S0 G Sw q (upd bn i<|bn i++[v]) D1 iL:=by
 have o7:=gz hk;have hi:i<ks.length:=(dM.1 hk).1;obtain⟨n0,nE,nW,nR⟩:=h.base.Sv (b:=X.ch k)<|.inr<|.inr<|.inr ⟨k,o7,rfl⟩;have o8:=h.base.pos;obtain⟨hcW,hcC,hco⟩:=h.base.iC.2.2.2.1 k o7;obtain⟨σ,hσ⟩:=Jz ((hW.told v (msgs bs i) (by rw[<-h.xQ i k hk];simp[msgs])).rely<|aci (cap:=0) (buf:=#[]) (cl:=false) (s:=s) (r:=r) (tm:=false) (nW i hi)<|nR i k hk);obtain⟨iL,A8⟩:=Jz<|hn.rely<|aci (cap:=0) (buf:=#[]) (cl:=false) (s:=s) (r:=r) (tm:=false) n0<|nE hcW;refine⟨upd D (X.m0+i) σ.more,iL.more,h.base.quiet (arY h.base.pM) ah5 hu eH fun j h0 h1=>zu j (by omega)<|by omega,⟨_,ZI,.run A8⟩,fun i' k' dN=>?_,fun j h0 h1=>by rw[aD8 _ _<|by omega];exact h.old j h0 h1,fun κ jC=>?_,?_,fun a i0 v0 bs0 ha hb he=>?_,?_,fun i' mP=>?_,fun i' k' dN=>?_⟩
 ·by_cases e:i'=i
  ·subst e;rw[hk]at dN;cases dN;exact⟨_,h1i,by rw[aD5,aD5];exact .run hσ⟩
  ·obtain⟨x,hx,hs⟩:=h.work i' k' dN;exact⟨x,by rw[zu _ (by omega)<|by omega];exact hx,by rw[aD8 bn _ e,aD8 D _<|by omega];exact hs.rely<|aci (nW i' (dM.1 dN).1)<|nR i' k' dN⟩
 ·by_cases e:X.ch κ=X.ch k
  ·exact⟨s,r,by rw[e];exact arX<|h.base.mem.low _<|.inr<|.inr<|.inr ⟨k,o7,rfl⟩⟩
  ·obtain⟨s',r',hc⟩:=h.rH κ jC;exact⟨s',r',by rw[Su e];exact hc⟩
 ·obtain⟨cap,s',r',hc⟩:=h.over;exact⟨cap,s',r',by rw[Su<|iW hco];exact hc⟩
 ·rw[ZI]at ha;cases ha;simp[Goroutine.finishComm]at hb
 ·rw[Su<|iW hcC];exact h.pay
 ·rw[aD8 _ _<|by omega];exact h.none i' mP
 ·rw[<-h.xQ i' k' dN];by_cases e:i'=i
  ·subst e;rw[aD5];simp[msgs]
  ·rw[aD8 _ _ e];simp[msgs,e]
def Sz(Wg B x:Nat)(fn:FuncId)(pos:String):acj Wg B (MemOp.ofEvents x fn pos #[]):=fun op aO=>by
 obtain⟨e,he,rfl⟩:=aDZ aO;simp at he
def bK.Inv1.arZ(F:X.Fit)(h:X.Inv1 End o t0 ts ks gs w t d E S0 G Sw q bn D τ)(hk:ks[i]? =ae k)(hg:gs[X.m0+i]? =ae g)(gU:g.status=.running):X.Sr End o t0 ts gs w sl t bn D τ (X.m0+i):=by
 have hi:i<ks.length:=(dM.1 hk).1;have o8:=h.base.pos;have aI:X.m0+i<gs.size:=by rw[h.base.size];omega
 have og:(X.m0+i==0)=false:=by simp<;>omega
 have o7:=gz hk;obtain⟨x,hx,hs⟩:=h.work i k hk;rw[hg]at hx;cases hx;generalize hD:D (X.m0+i)=σ at hs;cases hs with
 |parked hW=>simp[Go.Conc.parked]at gU
 | @run σ _ _ _ hT=>
   cases σ with
   |step f=>
    obtain⟨g',w2,es,hgo,hG,BG⟩:=hT.2 w<|bg.refl _ _ _;obtain⟨k0,kW,kS⟩:=h.base.ach hk hG;have di:=h.still (w':=w2) F (fun κ jC=>let ⟨s,r,hc⟩:=h.rH κ jC;⟨s,r,by rw[kS _<|.inr<|.inr<|.inr ⟨κ,jC,rfl⟩];exact hc⟩) (let ⟨cap,s,r,hc⟩:=h.over;⟨cap,s,r,by rw[kS _<|.inr<|.inr<|.inl rfl];exact hc⟩) g g';have hr:=aEm (P:=X.P) (sl:=sl) (i:=X.m0+i) hg (by rw[og];exact hgo);rw[di]at hr;have Ve:g'.status=.running:=D6 BG fun S g w x=>let ⟨_,_,_,y⟩:=F _ _ _ _ _ x;y.run;refine⟨_,w2,_,ts,ks,d,E,S0,G,_,q,bn,_,τ,hr,h.stepW hk hG (.run BG) Ve,.inr ⟨rfl,by simp,.inl ⟨X.m0+i,aI,?_,fun j hj=>aD8 _ _ hj⟩⟩,fun _=>rfl⟩;rw[aD5,hD];exact T.Sj<|.mk f w
   |stop=>
    obtain⟨z0,z1,sh,hW⟩:=F _ _ _ _ _<|hT w<|bg.refl _ _ _;have jG:=hW.step w<|bg.refl _ _ _;obtain⟨s,r,hc⟩:=h.rH k o7;obtain⟨cap,s',r',ho⟩:=h.over;obtain⟨a,ha,hm⟩:=h.main;have hco:=(h.base.iC.2.2.2.1 k o7).2.2;have Ak:partners (gs.setIfInBounds (X.m0+i) ph) X.ov true=[]:=h.ah4 F fun a' ha'=>by
     rw[ha]at ha';cases ha';rcases hm.status with hs|⟨i0,v,k',z,sh',g0,bs,rfl,_,dN⟩
     ·exact aEa (by rw[hs];simp) _ _
     ·rw[aE1,if_neg (h.base.iC.2.2.2.1 k'<|gz dN).2.2]
    have ah6:(∀a,gs[0]? =ae a->offersAt a (X.ch k) true=[])->(∀a v bs,gs[0]? =ae a->a.status=.blocked->ts≠.send i v::bs)->X.Sr End o t0 ts gs w sl t bn D τ (X.m0+i):=by
     intro qI D8;have hr:=crowd_waits (P:=X.P) (sl:=sl) (i:=X.m0+i) (w:=w) (w₁:=w) hg (by rw[og];exact jG) (by
      intro cc qi;simp only[bK.cs,tu,jR,pF,pG]at qi;rcases qi with rfl|rfl
      ·exact aE8 hc<|h.ah4 F qI
      ·exact aE8 ho Ak)
     refine⟨_,w,_,ts,ks,d,E,S0,G,Sw,q,bn,upd D (X.m0+i) .stop,τ,hr,⟨h.base.quiet h.base.pM rfl (Sz _ _ _ _ _) (by simp) fun j h0 h1=>by rw[iw<|by omega],⟨a,by rw[iw<|by omega];exact ha,hm⟩,fun i' k' dN=>?_,fun j h0 h1=>by rw[aD8 _ _<|by omega];exact h.old j h0 h1,h.rH,h.over,fun a' i0 v bs ha' hb he=>?_,h.pay,h.none,h.xQ⟩,.inr ⟨rfl,by simp,.inl ⟨X.m0+i,aI,?_,fun j hj=>aD8 _ _ hj⟩⟩,fun _=>rfl⟩
     ·by_cases e:i'=i
      ·subst e;rw[hk]at dN;cases dN;exact⟨_,by rw[tq aI],by rw[aD5];exact .parked hW⟩
      ·obtain⟨y,hy,hs⟩:=h.work i' k' dN;exact⟨y,by rw[iw<|by omega];exact hy,by rw[aD8 _ _<|by omega];exact hs⟩
     ·rw[iw<|by omega]at ha';obtain⟨y,hy,hr⟩:=h.pair a' i0 v bs ha' hb he;have e:i0≠i:=fun e=>D8 a' v bs ha' hb<|e▸he;exact⟨y,by rw[iw<|by omega];exact hy,hr⟩
     ·rw[aD5,hD];exact T.ahZ
    cases hm with
    |run hM=>
     have hs:=D6 hM fun S g w x=>x.running;exact ah6 (fun a' ha'=>by rw[ha]at ha';cases ha';exact aEa (by rw[hs];simp) _ _) (fun a' v bs ha' hb=>by rw[ha]at ha';cases ha';rw[hs]at hb;cases hb)
    | @parked i0 v k' z sh' _ ga _ bs has hd dN hn=>
      by_cases e:i0=i
      ·subst e;rw[hk]at dN;cases dN;subst has hd;have hp:partners (gs.setIfInBounds (X.m0+i0) ph) (X.ch k) true=[(0,0)]:=by
        have:=partners_one (gs:=gs.setIfInBounds (X.m0+i0) ph) (r:=X.ch k) (send:=true) (j:=0) (g:=Go.Conc.parked ga #[scase (X.ch k) v z] sh') (by rw[iw<|by omega];exact ha) (fun j y hj hy=>by
         rcases aE7 gs _ j y hy with⟨_,rfl⟩|⟨_,hy⟩
         ·rfl
         ·rcases h.base.Fq hy with rfl|⟨h1,h2⟩|⟨i',k',rfl,dN⟩
          ·exact absurd rfl hj
          ·rcases(h.base.old j y h1 h2 hy).status with hs|hs<;>exact aEa (by rw[hs];simp) _ _
          ·obtain⟨y',KF,hs⟩:=h.work i' k' dN;rw[hy]at KF;cases KF;rcases hs.status F with hs|⟨g0,z0,z1,sh,rfl,_⟩
           ·exact aEa (by rw[hs];simp) _ _
           ·refine offersAt_parked_sends (fun cc qi=>?_) _;simp only[bK.cs,tu,jR,pF,pG]at qi;rcases qi with rfl|rfl<;>rfl)
        rw[this,aE1,if_pos rfl];rfl
       have hr:=crowd_sel_recv_meets (P:=X.P) (sl:=sl) (i:=X.m0+i0) (j:=0) (w:=w) (w₁:=w) (k:=0) (c:=X.ch k) (z:=z0) hg (by rw[og];exact jG) (by simp[bK.cs]) (fun m c' hm zl=>by
        match m,hm,zl with
        |0,hm,_=>exact absurd rfl hm
        |1,_,zl=>simp[bK.cs]at zl;subst zl;exact aE8 ho Ak
        |m+2,_,zl=>simp[bK.cs]at zl) hc (by omega) ha hp
       have nK:X.ch k<w.heap.size:=h.base.mem.low _<|.inr<|.inr<|.inr ⟨k,o7,rfl⟩;obtain⟨D1,iL,hI⟩:=h.met hk hW hn (gs1:=(gs.setIfInBounds 0<|ga.finishComm X.P #[scase (X.ch k) v z] sh' 0 ai false).setIfInBounds (X.m0+i0)<|g.finishComm X.P (X.cs k z0 z1) sh 0 v true) (by simp)
        (by rw[iw<|by omega,tq<|by omega]) (by rw[tq<|by simpa using aI]) (fun j h0 h1=>by rw[iw<|iW h1,iw<|iW h0])
        (u:=MemOp.ofEvents (X.m0+i0) g.frame.fn g.frame.place #[]++ #[{g:=0,fn:=ga.frame.fn,pos:=ga.frame.place,act:=.send (X.ch k) s},{g:=X.m0+i0,fn:=g.frame.fn,pos:=g.frame.place,act:=.recv (X.ch k) r 0},
          {g:=0,fn:=ga.frame.fn,pos:=ga.frame.place,act:=.sendDone (X.ch k) s},{g:=X.m0+i0,fn:=g.frame.fn,pos:=g.frame.place,act:=.recvDone (X.ch k) r}]) (by
          intro op aO;rcases Jd.1 aO with aO|aO
          ·exact Sz _ _ _ _ _ op aO
          ·simp only[tu,jR,pF,pG]at aO;rcases aO with rfl|rfl|rfl|rfl<;>exact⟨rfl,nK,by simp,by simp,by simp⟩) (s+1) (r+1)
       refine⟨_,_,_,bs,ks,0,E,S0,G,Sw,q,_,D1,iL,hr,hI,.inl<|by simp,fun j=>?_⟩;by_cases e:j=i0
       ·subst e;rw[aD5];simp[msgs]
       ·rw[aD8 _ _ e];simp[msgs,e]
      ·refine ah6 (fun a' ha'=>?_) (fun a' v' bs' ha' hb he=>?_)
       ·rw[ha]at ha';cases ha';rw[aE1,if_neg fun e'=>e<|h.base.iC.2.2.2.2 i0 i k' k dN hk e']
       ·rw[has]at he;simp at he;exact e he.1.1
end
end fJ
end
end Go.Proofs.YtkelpcjiediamaaGreat
