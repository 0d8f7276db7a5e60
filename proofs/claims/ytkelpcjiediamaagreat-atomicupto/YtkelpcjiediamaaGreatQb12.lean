import Derived.Test.YtkelpcjiediamaaGreatQb5
import Derived.Conc.LeavingOf
set_option maxRecDepth 100000
set_option maxHeartbeats 0
set_option linter.all false
namespace Go.Proofs.YtkelpcjiediamaaGreat
open Go renaming Frame→aV,Program→dO,Value→aj,World→ah,stepG→aW
open Option renaming none→af,some→ae
namespace ai
open Go Go.Conc
variable{B:bP}{P:dO}
structure AtRet(P:dO)(fn:Func)(mi:aj->ah->Prop)(_:bP)(fr:aV)(w:ah):Prop where
 mode:fr.mode=.returning
 defers:fr.defers=[]
 kind:fr.kind=.normal
 pO:P.funcs[fr.fn]? =ae fn
 awC:P.inits.idxOf? fr.fn=af
 ex:∃v,∀d,(results fn fr.tmps).run P (w.at d)=.ok v (w.at d)/\(results fn fr.tmps).events P (w.at d) #[]=#[]/\mi v (w.at d)
def awD(gJ:Loc->Prop)(n:Nat):Past gJ n #[]:=
 ⟨fun said=>by rintro⟨i,j,_,⟨a,b,ha,_⟩,_⟩;simp[Trace.act?]at ha,fun i a ha=>by simp[touchAt,Trace.act?]at ha,fun i g hg=>by simp[Trace.g?]at hg,rfl,by simp⟩
def acm{m m':Machine}{t t':Trace}{r:Stepped×Trace}:∀{N K:Nat},runNT P N m t=(.next m',t')->runNT P K m' t'=r->runNT P (N+K) m t=r
 |0,K,h,k=>by
  simp only[runNT,tV,aCB]at h;obtain⟨rfl,rfl⟩:=h;simpa using k
 |N+1,K,h,k=>by
  rw[Nat.add_right_comm];simp only[runNT]at h⊢
  cases hs:stepT P m with
  |mk s ops=>
   rw[hs]at h;cases s with
   |ended o w=>simp at h
   |next m1=>exact acm h k
def awE{fr:aV}{w:ah}{fn:Func}{mi:aj->ah->Prop}(bD:oq B w)(h:Reach B P fr [] w (AtRet P fn mi) []):
 ∃N last o w' t',runNT P (N+1) (solo (G fr []) w) #[]=(.ended o w',t')/\runN P N (solo (G fr []) w)=.next last/\step P last=.ended o w'/\Conc.Good P mi last o w' t':=by
 obtain⟨N,B',gs,fr',w',sl,t,q,hr,hh,ha⟩:=h #[G fr []] af #[] (fun _=>0) ⟨rfl,leavers_one P _,awD _ _,bD⟩;obtain⟨v,hv⟩:=ha.ex;have hG:Goes P true AtRel (fun _ _ es=>∀e∈es,EvL (sG B') w'.heap.size e) (AtEnd P (sG B') w'.heap.size mi) 0 (G fr' []) w':=by
  rintro w2 ⟨d,rfl⟩;obtain⟨r1,r2,r3⟩:=hv d;have EW:(results fn fr'.tmps).runT P (w'.at d) #[]=(.ok v<|w'.at d,#[]):=Prod.ext ((aDs P _ _ _).trans r1) r2;refine⟨rfl,v,seen P fr'.fn #[],?_,fun e he=>absurd (aCJ he)<|by simp,r3⟩;simp only[G,aW,unwind,ha.mode,ha.defers,ha.pO,EW,doReturn,ha.kind,ha.awC,GStep.after,tN,MW,lq,lu]
 obtain⟨M,last,o,w3,t3,k1,k2,k3,k4⟩:=beside_ends (P:=P) (D:=fun _ _ es=>∀e∈es,EvL (sG B') w'.heap.size e) (fun _ _ _ h=>h) (sl:=sl) hh.own hh.NL hh.IB hG;refine⟨N+M,last,o,w3,t3,?_,?_,k3,k4⟩
 ·rw[yL];exact acm hr k1
 ·have hK:runNT P M (crowd gs w' sl) t=(.next last,(runNT P M (crowd gs w' sl) t).2):=Prod.ext ((runNT_fst P M _ t).trans k2) rfl;rw[<-runNT_fst P (N+M) _ #[],solo_eq_crowd,acm hr hK]
end ai
end Go.Proofs.YtkelpcjiediamaaGreat
