import Derived.Test.YtkelpcjiediamaaGreatQd4
import Derived.Conc.LeavingOf
set_option maxRecDepth 100000
set_option maxHeartbeats 0
set_option linter.all false
namespace Go.Proofs.YtkelpcjiediamaaGreat
open Go renaming Frame→bu,Program→eF,Value→az,World→aj,stepG→bD
open Option renaming none→af,some→ae
namespace au
open Go Go.Conc
variable{B:cO}{P:eF}
structure AtRet(P:eF)(fn:Func)(ny:az->aj->Prop)(_:cO)(fr:bu)(w:aj):Prop where
 mode:fr.mode=.returning
 defers:fr.defers=[]
 kind:fr.kind=.normal
 qy:P.funcs[fr.fn]? =ae fn
 ays:P.inits.idxOf? fr.fn=af
 ex:∃v,∀d,(results fn fr.tmps).run P (w.at d)=.ok v (w.at d)/\(results fn fr.tmps).events P (w.at d) #[]=#[]/\ny v (w.at d)
def ayt(iG:Loc->Prop)(n:Nat):Past iG n #[]:=
 ⟨fun said=>by rintro⟨i,j,_,⟨a,b,ha,_⟩,_⟩;simp[Trace.act?]at ha,fun i a ha=>by simp[touchAt,Trace.act?]at ha,fun i g hg=>by simp[Trace.g?]at hg,rfl,by simp⟩
def adZ{m m':Machine}{t t':Trace}{r:Stepped×Trace}:∀{N K:Nat},runNT P N m t=(.next m',t')->runNT P K m' t'=r->runNT P (N+K) m t=r
 |0,K,h,k=>by
  simp only[runNT,uD,aEB]at h;obtain⟨rfl,rfl⟩:=h;simpa using k
 |N+1,K,h,k=>by
  rw[Nat.add_right_comm];simp only[runNT]at h⊢
  cases hs:stepT P m with
  |mk s ops=>
   rw[hs]at h;cases s with
   |ended o w=>simp at h
   |next m1=>exact adZ h k
def ayu{fr:bu}{w:aj}{fn:Func}{ny:az->aj->Prop}(bP:oQ B w)(h:Reach B P fr [] w (AtRet P fn ny) []):
 ∃N last o w' t',runNT P (N+1) (solo (G fr []) w) #[]=(.ended o w',t')/\runN P N (solo (G fr []) w)=.next last/\step P last=.ended o w'/\Conc.Good P ny last o w' t':=by
 obtain⟨N,B',gs,fr',w',sl,t,q,hr,hh,ha⟩:=h #[G fr []] af #[] (fun _=>0) ⟨rfl,leavers_one P _,ayt _ _,bP⟩;obtain⟨v,hv⟩:=ha.ex;have hG:Goes P true AtRel (fun _ _ es=>∀e∈es,EvL (tV B') w'.heap.size e) (AtEnd P (tV B') w'.heap.size ny) 0 (G fr' []) w':=by
  rintro w2 ⟨d,rfl⟩;obtain⟨r1,r2,r3⟩:=hv d;have Gj:(results fn fr'.tmps).runT P (w'.at d) #[]=(.ok v<|w'.at d,#[]):=Prod.ext ((aFs P _ _ _).trans r1) r2;refine⟨rfl,v,seen P fr'.fn #[],?_,fun e he=>absurd (aEJ he)<|by simp,r3⟩;simp only[G,bD,unwind,ha.mode,ha.defers,ha.qy,Gj,doReturn,ha.kind,ha.ays,GStep.after,uC,Oh,kP,kQ]
 obtain⟨M,last,o,w3,t3,k1,k2,k3,k4⟩:=beside_ends (P:=P) (D:=fun _ _ es=>∀e∈es,EvL (tV B') w'.heap.size e) (fun _ _ _ h=>h) (sl:=sl) hh.own hh.OV hh.Jt hG;refine⟨N+M,last,o,w3,t3,?_,?_,k3,k4⟩
 ·rw[zG];exact adZ hr k1
 ·have hK:runNT P M (crowd gs w' sl) t=(.next last,(runNT P M (crowd gs w' sl) t).2):=Prod.ext ((runNT_fst P M _ t).trans k2) rfl;rw[<-runNT_fst P (N+M) _ #[],solo_eq_crowd,adZ hr hK]
end au
end Go.Proofs.YtkelpcjiediamaaGreat
