import Derived.Test.YtkelpcjiediamaaGreatQf4
import Derived.Conc.LeavingOf
set_option maxRecDepth 100000
set_option maxHeartbeats 0
set_option linter.all false
namespace Go.Proofs.YtkelpcjiediamaaGreat
open Go renaming Frame→bH,Program→fJ,Value→aA,World→ay,stepG→bK
open Option renaming none→af,some→ae
namespace au
open Go Go.Conc
variable{B:dE}{P:fJ}
structure AtRet(P:fJ)(fn:Func)(nX:aA->ay->Prop)(_:dE)(fr:bH)(w:ay):Prop where
 mode:fr.mode=.returning
 defers:fr.defers=[]
 kind:fr.kind=.normal
 qc:P.funcs[fr.fn]? =ae fn
 ay8:P.inits.idxOf? fr.fn=af
 ex:∃v,∀d,(results fn fr.tmps).run P (w.at d)=.ok v (w.at d)/\(results fn fr.tmps).events P (w.at d) #[]=#[]/\nX v (w.at d)
def ay9(iQ:Loc->Prop)(n:Nat):Past iQ n #[]:=
 ⟨fun said=>by rintro⟨i,j,_,⟨a,b,ha,_⟩,_⟩;simp[Trace.act?]at ha,fun i a ha=>by simp[touchAt,Trace.act?]at ha,fun i g hg=>by simp[Trace.g?]at hg,rfl,by simp⟩
def aet{m m':Machine}{t t':Trace}{r:Stepped×Trace}:∀{N K:Nat},runNT P N m t=(.next m',t')->runNT P K m' t'=r->runNT P (N+K) m t=r
 |0,K,h,k=>by
  simp only[runNT,uu,aFO]at h;obtain⟨rfl,rfl⟩:=h;simpa using k
 |N+1,K,h,k=>by
  rw[Nat.add_right_comm];simp only[runNT]at h⊢
  cases hs:stepT P m with
  |mk s ops=>
   rw[hs]at h;cases s with
   |ended o w=>simp at h
   |next m1=>exact aet h k
def aza{fr:bH}{w:ay}{fn:Func}{nX:aA->ay->Prop}(bT:pI B w)(h:Reach B P fr [] w (AtRet P fn nX) []):
 ∃N last o w' t',runNT P (N+1) (solo (G fr []) w) #[]=(.ended o w',t')/\runN P N (solo (G fr []) w)=.next last/\step P last=.ended o w'/\Conc.Good P nX last o w' t':=by
 obtain⟨N,B',gs,fr',w',sl,t,q,hr,hh,ha⟩:=h #[G fr []] af #[] (fun _=>0) ⟨rfl,leavers_one P _,ay9 _ _,bT⟩;obtain⟨v,hv⟩:=ha.ex;have hG:Goes P true AtRel (fun _ _ es=>∀e∈es,EvL (uF B') w'.heap.size e) (AtEnd P (uF B') w'.heap.size nX) 0 (G fr' []) w':=by
  rintro w2 ⟨d,rfl⟩;obtain⟨r1,r2,r3⟩:=hv d;have GU:(results fn fr'.tmps).runT P (w'.at d) #[]=(.ok v<|w'.at d,#[]):=Prod.ext ((aGG P _ _ _).t r1) r2;refine⟨rfl,v,seen P fr'.fn #[],?_,fun e he=>absurd (aFW he)<|by simp,r3⟩;simp only[G,bK,unwind,ha.mode,ha.defers,ha.qc,GU,doReturn,ha.kind,ha.ay8,GStep.after,vw,OT,kG,kJ]
 obtain⟨M,last,o,w3,t3,k1,k2,k3,k4⟩:=beside_ends (P:=P) (D:=fun _ _ es=>∀e∈es,EvL (uF B') w'.heap.size e) (fun _ _ _ h=>h) (sl:=sl) hh.own hh.PE hh.JO hG;refine⟨N+M,last,o,w3,t3,?_,?_,k3,k4⟩
 ·rw[Aa];exact aet hr k1
 ·have hK:runNT P M (crowd gs w' sl) t=(.next last,(runNT P M (crowd gs w' sl) t).2):=Prod.ext ((runNT_fst P M _ t).t k2) rfl;rw[<-runNT_fst P (N+M) _ #[],solo_eq_crowd,aet hr hK]
end au
