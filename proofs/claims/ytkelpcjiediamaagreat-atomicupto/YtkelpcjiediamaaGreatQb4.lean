import Derived.Test.YtkelpcjiediamaaGreatQb3
import Derived.Calls
set_option maxRecDepth 100000
set_option maxHeartbeats 0
set_option linter.all false
namespace Go.Proofs.YtkelpcjiediamaaGreat
def aB1:=@Go.Conc.mem_ofEvents
def aB8:=@Go.ConcN.upd_same
def aCa:=@Go.ConcN.upd_ne
def aCd:=@Go.Goroutine.mk.injEq
def aCn:=@Go.Conc.runT_crowd_go
def aCr:=@Go.Conc.Deaf_other
def aCt:=@Go.Conc.awake_of
def aCB:=@Go.Stepped.next.injEq
def aCC:=@Go.Conc.woken_quitsD
def aCM:=@Go.Conc.Deaf_own
def aCV:=@Go.Machine.mk.injEq
def aCY:=@Go.step_lone_ended
def aCZ:=@Go.step_lone_go
def aDg:=@Go.Conc.crowd_pick
def aDj:=@Go.Conc.woken_run
open Go renaming Calls→aK,Frame→aV,Goroutine→aX,Program→dO,Value→aj,World→ah,stepG→aW
open Option renaming none→af,some→ae
section
namespace ai
open Go Go.Conc
variable{B:bP}{P:dO}
inductive Ends(B:bP)(P:dO)(Q:aV->ah->Prop):aV->List aV->ah->Prop where
 |stop {fr:aV} {w:ah} (hq:Q fr w):Ends B P Q fr [] w
 |step {fr:aV} {fs:List aV} {w:ah} (hb:Gg fr fs) (n:Nat->Nat) (fr':Nat->aV) (kN:Nat->List aV) (w':Nat->ah) (es:Nat->Array Event)
   (hs:∀d,xI B P fr fs (re w w.tape d) (n d)<|.next (fr' d) (kN d) (w' d)<|es d) (h:∀d,Ends B P Q (fr' d) (kN d)<|re (w' d) w.tape<|d+n d):Ends B P Q fr fs w
def wall(P:dO):Frame:={fn:=P.funcs.size,tmps:=#[],todo:=[.call {target:=.nil,args:=#[]} false "fmt's door, shut" #[]],defers:=[],mode:=.run,kind:=.normal}
def apA(chain:List PanicEntry):((wall P).raise chain).catches P=true:=by
 simp[Frame.catches,wall,Frame.raise]
variable{w:ah}{fr:aV}{i j:Nat}
def apB{chain:List PanicEntry}:∃o,step P (lone ((wall P).raise chain) [] w)=.ended o w:=by
 refine⟨_,aCY (o:=.unsupported (.noEntry "a panic or Goexit out of a method that fmt calls behind a cut's door")<|((wall P).raise chain).pos P) ?_⟩;have h:=apA (P:=P) chain;simp only[aW,Frame.raise,wall]at h⊢
 simp[unwind,h,GStep.bare]
def apC{v:aj}:∃o,step P (lone ((wall P).finish v) [] w)=.ended o w:=by
 have h:Extern.next "fmt's door, shut" =none:=by
  have:(Extern.next "fmt's door, shut").isNone=true:=by decide
  simpa using this
 refine⟨_,aCY (o:=.stuck ("no extern row " ++ "fmt's door, shut")<|((wall P).finish v).pos P) ?_⟩;simp[aW,stepG.exec,wall,Frame.finish,h,GStep.bare]
def runN_ended{m:Machine}{o:Outcome}(h:step P m=.ended o w)(n:Nat)(m':Machine):runN P (n+1) m≠.next m':=by
 simp[runN,h]
def eU.raise(h:eU B P fr)(chain:List PanicEntry):fr.raise chain={fr with mode:=.panicking chain}:=by
 rcases h.mode with hm|hm<;>simp[Frame.raise,hm]
def af9(L:nI B P):∀(n:Nat) {fr:aV} {chain:List PanicEntry} {fs:List aV} {w:ah} {fr':aV} {w':ah},(∃fn,P.funcs[fr.fn]? =ae fn)->fr.mode=.panicking chain->fr.defers=[]->(∀f∈fs,eU B P f)->(∀ch,fr'.mode≠.panicking ch)->runN P n (lone fr (fs++[wall P]) w)≠.next (lone fr' [wall P] w')
 |0,fr,chain,fs,w,fr',w',_,hm,_,_,hr=>by
  intro h;simp only[runN,aCB,lone,aCV,adO,UG,aCd]at h;exact hr chain<|by rw[<-h.2.1.1.1,hm]
 |n+1,fr,chain,fs,w,fr',w',hf,hm,hd,hs,hr=>by
  obtain⟨fn,h1⟩:=hf;have hc:fr.catches P=false:=by simp[Frame.catches,h1]
  intro h;cases fs with
  |cons c fs=>
   have bU:step P (lone fr (c::fs++[wall P]) w)=.next (lone (c.raise chain) (fs++[wall P]) w):=aCZ (by simp[aW,unwind,hm,hd,hc,GStep.bare]);simp only[runN,bU]at h;have aas:=hs c (by simp);rw[aas.raise]at h;exact af9 L n (fr:={c with mode:=.panicking chain}) (fs:=fs) (chain:=chain) aas.fn rfl aas.defers (fun f hf=>hs f<|Uw _ hf) hr h
  |nil=>
   have bU:step P (lone fr ([]++[wall P]) w)=.next (lone ((wall P).raise chain) [] w):=aCZ (by simp[aW,unwind,hm,hd,hc,GStep.bare]);simp only[runN,bU]at h;cases n with
   |zero=>
    simp only[runN,aCB,lone,aCV,adO,UG,aCd]at h;exact absurd h.2.1.1.2.1<|by simp
   |succ n=>
    obtain⟨o,ho⟩:=apB (P:=P) (chain:=chain) (w:=w);exact runN_ended ho n _ h
def passed(L:nI B P)(h:eU B P fr)(hm:fr.mode=.returning)(hw:OkW B w)(n:Nat){fr':aV}{w':ah}:runN P (n+1) (lone fr [wall P] w)≠.next (lone fr' [wall P] w'):=by
 obtain⟨fn,h1⟩:=h.fn;obtain⟨k,r,gs,h5,h6⟩:=(IA L.toFit (fn:=fn) h.tmps).Iz hw;have xm:=h5 w.tape w.drawn (fun i _=>rfl) #[];rw[afu]at xm;intro hr;cases r with
 |ok v w1=>
  have bU:step P (lone fr [wall P] w)=.next (lone ((wall P).finish v) []<|re w1 w.tape<|w.drawn+k):=aCZ (by simp only[aW,unwind,hm,h.defers,h1,xm,Result.re,doReturn,h.kind,GStep.after,GStep.bare]);simp only[runN,bU]at hr;cases n with
  |zero=>
   simp only[runN,aCB,lone,aCV,adO,UG,aCd]at hr;exact absurd hr.2.1.1.2.1<|by simp
  |succ n=>
   obtain⟨o,ho⟩:=apC (P:=P) (v:=v) (w:=re w1 w.tape<|w.drawn+k);exact runN_ended ho n _ hr
 |halt x w1=>
  have bU:∃o w2,step P (lone fr [wall P] w)=.ended o w2:=by
   cases x<;>exact⟨_,_,aCY (by simp only[aW,unwind,hm,h.defers,h1,xm,Result.re,GStep.after,GStep.bare];rfl)⟩
  obtain⟨o,w2,ho⟩:=bU;exact runN_ended ho n _ hr
def from_(n:Nat->Nat):Nat->Nat
 |0=>0
 |k+1=>from_ n k+n k
def aga(n:Nat->Nat)(h:i<=j):from_ n i<=from_ n j:=by
 induction h with
 |refl=>exact bV _
 |step _ ih=>exact dP ih<|UF _ _
def apD{n:Nat->Nat}{x:Nat}(hi:from_ n i<=x/\x<from_ n i+n i)(hj:from_ n j<=x/\x<from_ n j+n j):i=j:=by
 rcases Nat.lt_trichotomy i j with h|h|h
 ·have:=aga n<|show i+1<=j from h;simp only[from_]at this;omega
 ·exact h
 ·have:=aga n<|show j+1<=i from h;simp only[from_]at this;omega
open Classical in
noncomputable def aat(t:Nat->Question->Nat)(n d:Nat->Nat)(x:Nat):Question->Nat:=
 if h:∃k,from_ n k<=x/\x<from_ n k+n k then t (d h.choose+(x-from_ n h.choose))else fun _=>0
def apE{t:Nat->Question->Nat}{n d:Nat->Nat}{k i:Nat}(hi:i<n k):aat t n d (from_ n k+i)=t (d k+i):=by
 have h:∃k',from_ n k'<=from_ n k+i/\from_ n k+i<from_ n k'+n k':=⟨k,by omega,by omega⟩;have hk:h.choose=k:=apD h.choose_spec ⟨by omega,by omega⟩;unfold aat;rw[dif_pos h,hk];congr 1;omega
structure St where
 fr:aV
 fs:List aV
 w:ah
structure Ku(B:bP)(P:dO)(Q:aV->ah->Prop)(t:Nat->Question->Nat)(x:St):Prop where
 fr:eU B P x.fr
 fs:∀f∈x.fs,eU B P f
 w:OkW B x.w
 tape:x.w.tape=t
 not:¬Ends B P Q x.fr x.fs x.w
variable{Q:aV->ah->Prop}
def Ku.next(L:nI B P){t:Nat->Question->Nat}{x:St}(h:Ku B P Q t x)(hb:Gg x.fr x.fs):
 ∃d n T,xI B P x.fr x.fs (re x.w t d) n T/\∀fr' kN w' es,T=.next fr' kN w' es->Ku B P Q t ⟨fr',kN,re w' t<|d+n⟩:=by
 apply Fg;intro qc;refine h.not ?_;have ji:∀d,∃n fr' kN w' es,xI B P x.fr x.fs (re x.w x.w.tape d) n (.next fr' kN w' es)/\Ends B P Q fr' kN (re w' x.w.tape<|d+n):=by
  intro d;obtain⟨n,T,hT⟩:=stp L h.fr h.fs (h.w.re t d) hb;apply Fg;intro hd;refine qc ⟨d,n,T,hT,?_⟩;rintro fr' kN w' es rfl;obtain⟨g1,g2,g3,_⟩:=hT.zV;refine⟨g1,g2,g3.re _ _,rfl,fun he=>hd ⟨n,fr',kN,w',es,?_,?_⟩⟩
  ·rw[h.tape];exact hT
  ·rw[h.tape];exact he
 have axu:∀d,∃p:Nat×aV×List aV×ah×Array Event,xI B P x.fr x.fs (re x.w x.w.tape d) p.1 (.next p.2.1 p.2.2.1 p.2.2.2.1 p.2.2.2.2)/\Ends B P Q p.2.1 p.2.2.1 (re p.2.2.2.1 x.w.tape<|d+p.1):=by
  intro d;obtain⟨n,fr',kN,w',es,h1,h2⟩:=ji d;exact⟨(n,fr',kN,w',es),h1,h2⟩
 obtain⟨f,hf⟩:=PD axu;exact .step hb (fun d=>(f d).1) (fun d=>(f d).2.1) (fun d=>(f d).2.2.1) (fun d=>(f d).2.2.2.1) (fun d=>(f d).2.2.2.2) (fun d=>(hf d).1) fun d=>(hf d).2
def agb(L:nI B P)(hQ:∀fr w t d,Q fr w->Q fr (re w t d)){fr:aV}{fs:List aV}{w:ah}(hf:eU B P fr)(Tm:∀f∈fs,eU B P f)(hw:OkW B w)
 (hl:∀t d,∃k fr' w',runN P k (lone fr (fs++[wall P])<|re w t d)=.next (lone fr' [wall P] w')/\(∀ch,fr'.mode≠.panicking ch)/\Q fr' w'):Ends B P Q fr fs w:=by
 apply Fg;intro bM;have pq:Ku B P Q w.tape ⟨fr,fs,w⟩:=⟨hf,Tm,hw,rfl,bM⟩;have hch:∀x:{x:St//Ku B P Q w.tape x},∃p:Nat×Nat×TS×{x:St//Ku B P Q w.tape x},Gg x.1.fr x.1.fs->xI B P x.1.fr x.1.fs (re x.1.w w.tape p.1) p.2.1 p.2.2.1/\∀fr' kN w' es,p.2.2.1=.next fr' kN w' es->p.2.2.2.1=⟨fr',kN,re w' w.tape<|p.1+p.2.1⟩:=by
  intro x;by_cases hb:Gg x.1.fr x.1.fs
  ·obtain⟨d,n,T,hT,hn⟩:=x.2.next L hb;cases T with
   |next fr' kN w' es=>exact⟨(d,n,.next fr' kN w' es,⟨⟨fr',kN,re w' w.tape<|d+n⟩,hn _ _ _ _ rfl⟩),fun _=>⟨hT,fun _ _ _ _ he=>by cases he;rfl⟩⟩
   |panic a b c e g=>exact⟨(d,n,.panic a b c e g,x),fun _=>⟨hT,fun _ _ _ _ he=>by cases he⟩⟩
   |ended a b c=>exact⟨(d,n,.ended a b c,x),fun _=>⟨hT,fun _ _ _ _ he=>by cases he⟩⟩
  ·exact⟨(0,0,.ended (.stuck "" "") w #[],x),fun h=>absurd h hb⟩
 obtain⟨f,Tn⟩:=PD hch;let x:Nat->{x:St//Ku B P Q w.tape x}:=fun k=>Nat.rec ⟨_,pq⟩ (fun _ y=>(f y).2.2.2) k
 have Ap:∀k,x (k+1)=(f<|x k).2.2.2:=fun k=>rfl;let n:Nat->Nat:=fun k=>(f<|x k).2.1
 let d:Nat->Nat:=fun k=>(f<|x k).1
 let t0:=aat w.tape n d
 let Jv:Nat->Prop:=fun j=>Gg (x j).1.fr (x j).1.fs/\∃a b c e,(f<|x j).2.2.1=.next a b c e
 have bU:∀k,Gg (x k).1.fr (x k).1.fs->∀cs,aW P true {frame:=(x k).1.fr,callers:=(x k).1.fs++cs,status:=.running,dying:=af} (re (x k).1.w t0<|from_ n k)=(f<|x k).2.2.1.mF t0 (from_ n<|k+1) cs:=by
  intro k hb cs;exact((Tn<|x k) hb).1.eq t0 (from_ n k) (fun i hi=>apE hi) cs
 have fU:∀k,(∀j,j<k->Jv j)->runN P k (lone fr (fs++[wall P])<|re w t0 0)=.next (lone (x k).1.fr ((x k).1.fs++[wall P])<|re (x k).1.w t0<|from_ n k):=by
  intro k;induction k with
  |zero=>intro _;rfl
  |succ k ih=>
   intro hk;obtain⟨hb,a,b,c,e,hT⟩:=hk k (by omega);have h1:=ih fun j hj=>hk j (by omega);have h2:=bU k hb [wall P];rw[hT]at h2;have h3:=((Tn<|x k) hb).2 a b c e hT;rw[runN_add,h1];have h4:step P (lone (x k).1.fr ((x k).1.fs++[wall P])<|re (x k).1.w t0<|from_ n k)=.next (lone a (b++[wall P])<|re c t0<|from_ n<|k+1):=aCZ (by rw[h2];rfl);simp only[runN,h4];rw[Ap,h3];rfl
 obtain⟨K,fr',w',hK,hm,hq⟩:=hl t0 0;by_cases ji:∀j,j<K->Jv j
 ·rw[fU K ji]at hK;simp only[aCB,lone,aCV,adO,UG,aCd]at hK;obtain⟨h1,⟨⟨h2,h3,_⟩,_⟩,_⟩:=hK;have h3':(x K).1.fs=[]:=by simpa using h3
  have aj7:=(x K).2.not;rw[h3']at aj7;refine aj7<|.stop ?_;rw[h2];have:=hQ _ _ (x K).1.w.tape (x K).1.w.drawn<|h1▸hq;exact this
 ·have hex:∃j,j<K/\¬Jv j/\∀i,i<j->Jv i:=by
   have:∀m,(∃j,j<m/\¬Jv j)->∃j,j<m/\¬Jv j/\∀i,i<j->Jv i:=by
    intro m;induction m with
    |zero=>rintro⟨j,hj,_⟩;omega
    |succ m ih=>
     intro⟨j,hj,hn⟩;by_cases h:∃j,j<m/\¬Jv j
     ·obtain⟨i,hi,h'⟩:=ih h;exact⟨i,by omega,h'⟩
     ·have BM:j=m:=by
       apply Fg;intro bM;exact h ⟨j,by omega,hn⟩
      subst BM;exact⟨j,by omega,hn,fun i hi=>Fg fun hni=>h ⟨i,hi,hni⟩⟩
   refine this K ?_;apply Fg;intro qc;exact ji fun j hj=>Fg fun hna=>qc ⟨j,hj,hna⟩
  obtain⟨j,hj,hna,axw⟩:=hex;have qW:=fU j axw;obtain⟨m,rfl⟩:∃m,K=j+(m+1):=⟨K-j-1,by omega⟩;rw[runN_add,qW]at hK;simp only at hK;have zq:=(x j).2;by_cases hb:Gg (x j).1.fr (x j).1.fs
  ·have h2:=bU j hb [wall P];cases hT:(f<|x j).2.2.1 with
   |next a b c e=>exact hna ⟨hb,a,b,c,e,hT⟩
   |ended o w1 es=>
    rw[hT]at h2;exact runN_ended (aCY (by rw[h2];rfl)) m _ hK
   |panic a ch b w1 es=>
    rw[hT]at h2;have hg:=((Tn<|x j) hb).1.zV;rw[hT]at hg;have h4:step P (lone (x j).1.fr ((x j).1.fs++[wall P])<|re (x j).1.w t0<|from_ n j)=.next (lone (a.raise ch) (b++[wall P])<|re w1 t0<|from_ n<|j+1):=aCZ (by rw[h2];rfl);simp only[runN,h4]at hK;rw[hg.1.raise]at hK;exact af9 L m (fr:={a with mode:=.panicking ch}) hg.1.fn rfl hg.1.defers hg.2 hm hK
  ·have iG:(x j).1.fs=[]/\(x j).1.fr.mode=.returning:=by
    refine⟨Fg fun h=>hb<|.inr h,?_⟩;rcases zq.fr.mode with h|h
    ·exact absurd (.inl h) hb
    ·exact h
   rw[iG.1]at hK;exact passed L zq.fr iG.2 (zq.w.re _ _) m hK
end ai
end
section
namespace ai
open Go Go.Conc
open Go.ConcN (sumTo upd sumTo_upd upd_ne upd_same)
variable{B:bP}{P:dO}
def sG(B:bP):Loc->Prop
 | .cell a=>B.wg a.block/\B.bK a.block
 | .obj r=>B.wg r/\B.bK r
 |_=>False
def Kv{n:Nat}{e:Event}(h:Ei B n e):EvL (sG B) n e:=by
 obtain⟨loc,wr,sy⟩:=e;cases loc with
 |cell a=>
  refine⟨fun x hx hs=>?_,by simp,by simp,h.2⟩;have:x.loc=.cell a:=by
   simp only[MemAct.ofEvent,MemAct.touch?]at hx;cases hx;rfl
  rw[this]at hs;exact absurd hs.2 h.1
 |obj r=>
  cases wr<;>cases sy;case true.true=>exact⟨fun x hx=>by simp[MemAct.ofEvent,MemAct.touch?]at hx,by simp,by simp,h.2⟩
  all_goals
   refine⟨fun x hx hs=>?_,by simp,by simp,h.2⟩
   have:x.loc=.obj r:=by
    simp only[MemAct.ofEvent,MemAct.touch?]at hx;cases hx;rfl
   rw[this]at hs
   exact absurd hs.2 h.1
 |mark m=>
  obtain rfl:m=.noRoom:=h;exact⟨fun x hx=>by simp[MemAct.ofEvent,MemAct.touch?]at hx,by simp,by simp,trivial⟩
 |output=>
  refine⟨fun x hx hs=>?_,by simp,by simp,?_⟩
  ·have:x.loc=.output:=by
    simp only[MemAct.ofEvent,MemAct.touch?]at hx;cases hx;rfl
   rw[this]at hs;exact hs.elim
  ·cases wr<;>cases sy<;>trivial
 |_=>exact h.elim
def eU.mono{B B':bP}(hs:∀b,B.bK b->B'.bK b)(hl:B'.let_=B.let_){fr:aV}(h:eU B' P fr):eU B P fr:=
 ⟨h.fn,fun v hv=>(h.tmps v hv).mono hs hl,hl▸h.todo,h.defers,h.mode,h.kind,h.round⟩
abbrev Bg(B:bP)(P:dO):Prop:=∀n,5<=n->nI (B.cut n) P
structure yS(B:bP)(P:dO)(gs:Array aX)(w:ah)(t:Trace)(q:Nat->Nat)(fr:aV)(cs:List aV):Prop where
 own:gs[0]? =ae {frame:=fr,callers:=cs,status:=.running,dying:=af}
 NL:Leavers P t gs q
 IB:Past (sG B) w.heap.size t
 ok:oq B w
def Reach(B:bP)(P:dO)(fr:aV)(cs:List aV)(w:ah)(Q:bP->aV->ah->Prop)(cs':List aV):Prop:=
 ∀gs sl t q,yS B P gs w t q fr cs->∃N B' gs' fr' w' sl' t' q',runNT P N (crowd gs w sl) t=(.next<|crowd gs' w' sl',t')/\yS B' P gs' w' t' q' fr' cs'/\Q B' fr' w'
structure On(w w':ah):Prop where
 tape:w'.tape=w.tape
 size:w.heap.size<=w'.heap.size
 os:w'.os=w.os
 output:w'.output=w.output
def On.refl(w:ah):On w w:=⟨rfl,bV _,rfl,rfl⟩
def On.trans{a b c:ah}(h:On a b)(k:On b c):On a c:=⟨k.tape.trans h.tape,dP h.size k.size,k.os.trans h.os,k.output.trans h.output⟩
def apF(C:Bg B P){Q:aV->ah->Prop}{fr:aV}{fs:List aV}{w:ah}(h:Ends B P Q fr fs w)(cs:List aV)(hf:eU (B.cut w.heap.size) P fr)(Tm:∀f∈fs,eU (B.cut w.heap.size) P f):
 Reach B P fr (fs++cs) w (fun B' fr' w'=>B'=B/\eU (B.cut w'.heap.size) P fr'/\Q fr' w'/\On w w') cs:=by
 induction h with
 |stop hq=>exact fun gs sl t q hh=>⟨0,B,gs,_,_,sl,t,q,rfl,hh,rfl,hf,hq,On.refl _⟩
 |step hb n fr' kN w' es hs h ih=>
  rename_i fr fs w;have one:∀(M:Nat),(∀(d1:Nat) gs sl t q,sumTo gs.size q<M->yS B P gs (w.at d1) t q fr (fs++cs)->∃N B' gs' fr' w' sl' t' q',runNT P N (crowd gs (w.at d1) sl) t=(.next<|crowd gs' w' sl',t')/\yS B' P gs' w' t' q' fr' cs/\B'=B/\eU (B.cut w'.heap.size) P fr'/\Q fr' w'/\On w w')->
   ∀(d0:Nat) gs sl t q,sumTo gs.size q<=M->yS B P gs (w.at d0) t q fr (fs++cs)->∃N B' gs' fr' w' sl' t' q',runNT P N (crowd gs (w.at d0) sl) t=(.next<|crowd gs' w' sl',t')/\yS B' P gs' w' t' q' fr' cs/\B'=B/\eU (B.cut w'.heap.size) P fr'/\Q fr' w'/\On w w':=by
   intro M Tq d0 gs sl t q hM hh;obtain⟨h0,hL,hP,bD⟩:=hh;have Tt:∀g∈gs,awake g:=by
    intro g hg;obtain⟨i,hi,rfl⟩:=Fp.1 hg;rcases H9 i with rfl|oJ
    ·have:gs[0]=({frame:=fr,callers:=fs++cs,status:=.running,dying:=af}:aX):=by simpa[Fh hi]using h0
     rw[this];exact aCt<|.inl rfl
    ·exact aCt<|(hL.old i _ oJ<|Fh hi).status.elim .inl fun x=>.inr<|.inr x
   obtain⟨i,g,d,sl',hi,hg,bU⟩:=aDg (P:=P) (w:=w.at d0) (sl:=sl) Tt ⟨0,_,h0,rfl⟩;have vK:(w.at d0).at d=w.at d:=rfl;rw[vK]at bU;rcases H9 i with rfl|oJ
   ·have wz:g=({frame:=fr,callers:=fs++cs,status:=.running,dying:=af}:aX):=by rw[h0]at hi;exact(qE hi).symm
    subst wz;have jk:=(hs d).eq w.tape d (fun i _=>rfl) cs;have hgo:aW P true {frame:=fr,callers:=fs++cs,status:=.running,dying:=af} (w.at d)=.go {frame:=fr' d,callers:=kN d++cs,status:=.running,dying:=af} (re (w' d) w.tape<|d+n d) (es d):=jk;obtain⟨g1,g2,g3,g4,g5,g6,g7⟩:=(hs d).zV;have DW:w.heap.size<=(w' d).heap.size:=g4;have xm:5<=(w' d).heap.size:=dP bD.lQ DW;obtain⟨k1,k2,k3⟩:=(hs d).tight (B.cut (w' d).heap.size) (C _ xm) rfl (hf.mono (NK DW) rfl) (fun f hx=>(Tm f hx).mono (NK DW) rfl) (QB (w:=w) bD.obj DW) fun b hb=>Or.imp (fun z=>(bD.low b z).2) id hb;have DX:=aCn (P:=P) (sl:=sl') (i:=0) hi<|show aW P (0==0) _ (w.at d)=_ from hgo;have aB:0<gs.size:=(iU.1 h0).1;obtain⟨N,B2,mg,kJ,w2,lJ,t2,q2,hr,Ar,k0,m1,m3,m4⟩:=ih d k1 k2 ((gs.map<|woken P {frame:=fr,callers:=fs++cs,status:=.running,dying:=af} {frame:=fr' d,callers:=kN d++cs,status:=.running,dying:=af}<|re (w' d) w.tape<|d+n d).setIfInBounds 0 {frame:=fr' d,callers:=kN d++cs,status:=.running,dying:=af}) sl' (t++MemOp.ofEvents 0 fr.fn fr.place (es d)) q
     ⟨by simp[aB],⟨fun j x hj hx=>by
         have bM:0≠j:=by omega
         rw[gu bM,wH]at hx;obtain⟨y,hy,rfl⟩:=yI.1 hx;have hq:=hL.old j y hj hy;rw[aCC hq,aCr t (by omega) _ (fun op aF=>by obtain⟨e,_,rfl⟩:=aB1 aF;rfl)];exact hq,fun j hj=>by
         rw[aCr t (g':=0) (by simp at hj;omega) _ (fun op aF=>by obtain⟨e,_,rfl⟩:=aB1 aF;rfl)];exact hL.above j<|by simpa using hj⟩,
      (hP.mono (B':=(w' d).heap.size) g4).own (fun e he=>Kv<|g7 e he),(oq.of (w:=w) ⟨bD.obj,bD.low,bD.lQ⟩ DW k3).re _ _⟩
    refine⟨N+1,B2,mg,kJ,w2,lJ,t2,q2,?_,Ar,k0,m1,m3,On.trans (b:=re (w' d) w.tape<|d+n d) ⟨rfl,g4,g5,g6⟩ m4⟩;simp only[runNT,bU,DX];exact hr
   ·have hq:=hL.old i g oJ hi;have dF:(i==0)=false:=by simp<;>omega
    have aB:i<gs.size:=(iU.1 hi).1;cases uA:q i with
    |zero=>rw[uA]at hq;rw[hq.1]at hg;cases hg
    |succ k=>
     rw[uA]at hq;rcases hq with⟨DV,_⟩|⟨_,g',Tu,hm,LV,rF⟩
     ·rw[DV]at hg;cases hg
     have DX:=aCn (P:=P) (sl:=sl') (i:=i) hi (by rw[dF];exact LV<|w.at d);have dS:((gs.map<|woken P g g'<|w.at d).setIfInBounds i g').size=gs.size:=by simp
     have aj8:sumTo gs.size (upd q i k)+(k+1)=sumTo gs.size q+k:=by
      have:=sumTo_upd q k id aB;simpa[uA]using this
     obtain⟨N,B2,mg,kJ,w2,lJ,t2,q2,hr,Ar,BP⟩:=Tq d ((gs.map<|woken P g g'<|w.at d).setIfInBounds i g') sl' (t++MemOp.ofEvents i g.frame.fn g.frame.place Tu) (upd q i k) (by rw[dS];omega)
      ⟨by
       have bM:i≠0:=by omega
       rw[gu bM,wH,h0];simp[aDj],⟨fun j x hj hx=>by
       by_cases lh:i=j
       ·subst lh;rw[rO<|by simpa using aB]at hx;obtain rfl:=qE hx;rw[aB8,aCM];exact rF
       ·rw[gu lh,wH]at hx;obtain⟨y,hy,rfl⟩:=yI.1 hx;have Jw:=hL.old j y hj hy;rw[aCC Jw,aCa q k<|iI lh,aCr t lh _ (fun op aF=>by obtain⟨e,_,rfl⟩:=aB1 aF;rfl)];exact Jw,fun j hj=>by
       rw[aCr t (g':=i) (by simp at hj;omega) _ (fun op aF=>by obtain⟨e,_,rfl⟩:=aB1 aF;rfl)];exact hL.above j<|by simpa using hj⟩,hP.mute (by omega) hm,⟨bD.obj,bD.low,bD.lQ⟩⟩
     refine⟨N+1,B2,mg,kJ,w2,lJ,t2,q2,?_,Ar,BP⟩;simp only[runNT,bU,DX];exact hr
  have main:∀(M d0:Nat) gs sl t q,sumTo gs.size q<=M->yS B P gs (w.at d0) t q fr (fs++cs)->∃N B' gs' fr' w' sl' t' q',runNT P N (crowd gs (w.at d0) sl) t=(.next<|crowd gs' w' sl',t')/\yS B' P gs' w' t' q' fr' cs/\B'=B/\eU (B.cut w'.heap.size) P fr'/\Q fr' w'/\On w w':=by
   intro M;induction M with
   |zero=>
    intro d0 gs sl t q hM hh;exact one 0 (fun d1 gs1 jV t1 q1 aB _=>absurd aB<|by omega) d0 gs sl t q hM hh
   |succ M QD=>
    intro d0 gs sl t q hM hh;exact one (M+1) (fun d1 gs1 jV t1 q1 aB h1=>QD d1 gs1 jV t1 q1 (by omega) h1) d0 gs sl t q hM hh
  exact fun gs sl t q hh=>main _ w.drawn gs sl t q (bV _) hh
end ai
end
section
namespace ai
open Go Go.Conc
open Go.ConcN (sumTo upd sumTo_upd upd_ne upd_same)
variable{B:bP}{P:dO}
def VJ{m m' m'':Machine}{t t' t'':Trace}:∀{N K:Nat},runNT P N m t=(.next m',t')->runNT P K m' t'=(.next m'',t'')->runNT P (N+K) m t=(.next m'',t'')
 |0,K,h,k=>by
  simp only[runNT,tV,aCB]at h;obtain⟨rfl,rfl⟩:=h;simpa using k
 |N+1,K,h,k=>by
  rw[show N+1+K=(N+K)+1 by omega];simp only[runNT]at h⊢
  split
  ·rename_i m1 ops hs;rw[hs]at h;exact VJ h k
  ·rename_i e ops bM hs;rw[hs]at h;cases e with
   |next m1=>exact absurd rfl<|bM m1
   |ended o w=>simp at h
variable{fr:aV}{cs LW:List aV}{w:ah}{Q Q':bP->aV->ah->Prop}{f:FuncId}{args:Array aj}
def Reach.trans{cs2:List aV}(h:Reach B P fr cs w Q LW)(h':∀B' fr' w',Q B' fr' w'->Reach B' P fr' LW w' Q' cs2):Reach B P fr cs w Q' cs2:=by
 intro gs sl t q hh;obtain⟨N,B1,gs1,uf,w1,jV,t1,q1,hr,Ti,hq⟩:=h gs sl t q hh;obtain⟨K,B2,mg,kJ,w2,lJ,t2,q2,hr2,Ar,DN⟩:=h' B1 uf w1 hq gs1 jV t1 q1 Ti;exact⟨N+K,B2,mg,kJ,w2,lJ,t2,q2,VJ hr hr2,Ar,DN⟩
def Reach.mono(h:Reach B P fr cs w Q LW)(h':∀B' fr' w',Q B' fr' w'->Q' B' fr' w'):Reach B P fr cs w Q' LW:=by
 intro gs sl t q hh;obtain⟨N,B1,gs1,uf,w1,jV,t1,q1,hr,Ti,hq⟩:=h gs sl t q hh;exact⟨N,B1,gs1,uf,w1,jV,t1,q1,hr,Ti,h' _ _ _ hq⟩
def Reach.here(h:oq B w->Q B fr w):Reach B P fr cs w Q cs:=
 fun gs sl t q hh=>⟨0,B,gs,fr,w,sl,t,q,rfl,hh,h hh.ok⟩
def Reach.ok{fr:aV}{cs LW:List aV}{w:ah}{Q:bP->aV->ah->Prop}(h:oq B w->Reach B P fr cs w Q LW):Reach B P fr cs w Q LW:=fun gs sl t q hh=>h hh.ok gs sl t q hh
def Reach.step{fr:aV}{cs cs2:List aV}{w:ah}{Q:bP->aV->ah->Prop}
 (h:∀d,∃fr' cs' w' es,aW P true {frame:=fr,callers:=cs,status:=.running,dying:=af} (w.at d)=.go {frame:=fr',callers:=cs',status:=.running,dying:=af} w' es/\oq B w'/\w.heap.size<=w'.heap.size/\(∀e∈es,EvL (sG B) w'.heap.size e)/\Reach B P fr' cs' w' Q cs2):Reach B P fr cs w Q cs2:=by
 have one:∀(M:Nat),(∀(d1:Nat) gs sl t q,sumTo gs.size q<M->yS B P gs (w.at d1) t q fr cs->∃N B' gs' fr' w' sl' t' q',runNT P N (crowd gs (w.at d1) sl) t=(.next<|crowd gs' w' sl',t')/\yS B' P gs' w' t' q' fr' cs2/\Q B' fr' w')->
  ∀(d0:Nat) gs sl t q,sumTo gs.size q<=M->yS B P gs (w.at d0) t q fr cs->∃N B' gs' fr' w' sl' t' q',runNT P N (crowd gs (w.at d0) sl) t=(.next<|crowd gs' w' sl',t')/\yS B' P gs' w' t' q' fr' cs2/\Q B' fr' w':=by
  intro M Tq d0 gs sl t q hM hh;obtain⟨h0,hL,hP,bD⟩:=hh;have Tt:∀g∈gs,awake g:=by
   intro g hg;obtain⟨i,hi,rfl⟩:=Fp.1 hg;rcases H9 i with rfl|oJ
   ·have:gs[0]=({frame:=fr,callers:=cs,status:=.running,dying:=af}:aX):=by simpa[Fh hi]using h0
    rw[this];exact aCt<|.inl rfl
   ·exact aCt<|(hL.old i _ oJ<|Fh hi).status.elim .inl fun x=>.inr<|.inr x
  obtain⟨i,g,d,sl',hi,hg,bU⟩:=aDg (P:=P) (w:=w.at d0) (sl:=sl) Tt ⟨0,_,h0,rfl⟩;have vK:(w.at d0).at d=w.at d:=rfl;rw[vK]at bU;rcases H9 i with rfl|oJ
  ·have wz:g=({frame:=fr,callers:=cs,status:=.running,dying:=af}:aX):=by rw[h0]at hi;exact(qE hi).symm
   subst wz;obtain⟨fr',cs',w',es,hgo,g3,g4,g7,ih⟩:=h d;have DX:=aCn (P:=P) (sl:=sl') (i:=0) hi<|show aW P (0==0) _ (w.at d)=_ from hgo;have aB:0<gs.size:=(iU.1 h0).1;obtain⟨N,B2,mg,kJ,w2,lJ,t2,q2,hr,Ar,k0⟩:=ih ((gs.map<|woken P {frame:=fr,callers:=cs,status:=.running,dying:=af} {frame:=fr',callers:=cs',status:=.running,dying:=af} w').setIfInBounds 0 {frame:=fr',callers:=cs',status:=.running,dying:=af}) sl' (t++MemOp.ofEvents 0 fr.fn fr.place es) q
    ⟨by simp[aB],⟨fun j x hj hx=>by
        have bM:0≠j:=by omega
        rw[gu bM,wH]at hx;obtain⟨y,hy,rfl⟩:=yI.1 hx;have hq:=hL.old j y hj hy;rw[aCC hq,aCr t (by omega) _ (fun op aF=>by obtain⟨e,_,rfl⟩:=aB1 aF;rfl)];exact hq,fun j hj=>by
        rw[aCr t (g':=0) (by simp at hj;omega) _ (fun op aF=>by obtain⟨e,_,rfl⟩:=aB1 aF;rfl)];exact hL.above j<|by simpa using hj⟩,
     (hP.mono (B':=w'.heap.size) g4).own g7,g3⟩
   refine⟨N+1,B2,mg,kJ,w2,lJ,t2,q2,?_,Ar,k0⟩;simp only[runNT,bU,DX];exact hr
  ·have hq:=hL.old i g oJ hi;have dF:(i==0)=false:=by simp<;>omega
   have aB:i<gs.size:=(iU.1 hi).1;cases uA:q i with
   |zero=>rw[uA]at hq;rw[hq.1]at hg;cases hg
   |succ k=>
    rw[uA]at hq;rcases hq with⟨DV,_⟩|⟨_,g',Tu,hm,LV,rF⟩
    ·rw[DV]at hg;cases hg
    have DX:=aCn (P:=P) (sl:=sl') (i:=i) hi (by rw[dF];exact LV<|w.at d);have dS:((gs.map<|woken P g g'<|w.at d).setIfInBounds i g').size=gs.size:=by simp
    have aj8:sumTo gs.size (upd q i k)+(k+1)=sumTo gs.size q+k:=by
     have:=sumTo_upd q k id aB;simpa[uA]using this
    obtain⟨N,B2,mg,kJ,w2,lJ,t2,q2,hr,Ar,BP⟩:=Tq d ((gs.map<|woken P g g'<|w.at d).setIfInBounds i g') sl' (t++MemOp.ofEvents i g.frame.fn g.frame.place Tu) (upd q i k) (by rw[dS];omega)
     ⟨by
      have bM:i≠0:=by omega
      rw[gu bM,wH,h0];simp[aDj],⟨fun j x hj hx=>by
      by_cases lh:i=j
      ·subst lh;rw[rO<|by simpa using aB]at hx;obtain rfl:=qE hx;rw[aB8,aCM];exact rF
      ·rw[gu lh,wH]at hx;obtain⟨y,hy,rfl⟩:=yI.1 hx;have Jw:=hL.old j y hj hy;rw[aCC Jw,aCa q k<|iI lh,aCr t lh _ (fun op aF=>by obtain⟨e,_,rfl⟩:=aB1 aF;rfl)];exact Jw,fun j hj=>by
      rw[aCr t (g':=i) (by simp at hj;omega) _ (fun op aF=>by obtain⟨e,_,rfl⟩:=aB1 aF;rfl)];exact hL.above j<|by simpa using hj⟩,hP.mute (by omega) hm,⟨bD.obj,bD.low,bD.lQ⟩⟩
    refine⟨N+1,B2,mg,kJ,w2,lJ,t2,q2,?_,Ar,BP⟩;simp only[runNT,bU,DX];exact hr
 have main:∀(M d0:Nat) gs sl t q,sumTo gs.size q<=M->yS B P gs (w.at d0) t q fr cs->∃N B' gs' fr' w' sl' t' q',runNT P N (crowd gs (w.at d0) sl) t=(.next<|crowd gs' w' sl',t')/\yS B' P gs' w' t' q' fr' cs2/\Q B' fr' w':=by
  intro M;induction M with
  |zero=>
   intro d0 gs sl t q hM hh;exact one 0 (fun d1 gs1 jV t1 q1 aB _=>absurd aB<|by omega) d0 gs sl t q hM hh
  |succ M QD=>
   intro d0 gs sl t q hM hh;exact one (M+1) (fun d1 gs1 jV t1 q1 aB h1=>QD d1 gs1 jV t1 q1 (by omega) h1) d0 gs sl t q hM hh
 exact fun gs sl t q hh=>main _ w.drawn gs sl t q (bV _) hh
def ug(B:bP)(P:dO)(f:FuncId)(args:Array aj)(w:ah)(post:bP->aj->ah->Prop):Prop:=
 ∀c cs,Reach B P (Frame.enter P f args .normal) (c::cs) w (fun B' fr' w'=>∃v,fr'=c.finish v/\post B' v w') cs
def ug.mono{post akb:bP->aj->ah->Prop}(h:ug B P f args w post)(hp:∀B' v w',post B' v w'->akb B' v w'):ug B P f args w akb:=
 fun c cs=>(h c cs).mono fun B' _ w' ⟨v,h1,h2⟩=>⟨v,h1,hp B' v w' h2⟩
def agc{α:Type}{s:Sem α}{n:Nat}{r:Result α}{gs:Array Event}(h:ZZ P s w n r gs)(t:Nat->Question->Nat)(d:Nat)(hd:∀i,i<n->t (d+i)=w.tape (w.drawn+i)):s.run P (re w t d)=r.re t (d+n):=by
 have:=h t d hd #[];rw[<-aDs P s (re w t d) #[],this]
def agd(L:nI B P)(C:Bg B P){R:(Nat->Question->Nat)->Nat->Ending->ah->Prop}(hf:B.let_ f=true)(ha:bG (B.cut w.heap.size) args)
 (hc:∀t d,aK P f args (re w t d)<|R t d)(ho:∀t d e w',R t d e w'->∃v,e=.returned v):
 ug B P f args w (fun B' v w'=>B'=B/\az (B.cut w'.heap.size) v/\On w w'/\∃t d t' k,R t d (.returned v)<|re w' t' k):=by
 intro c cs;refine Reach.ok fun hw=>?_;have age:=eU.enter (C _ hw.lQ) (B:=B.cut w.heap.size) hf ha;have dA:eU B P (Frame.enter P f args .normal):=age.mono (B:=B) (B':=B.cut w.heap.size) (fun _ z=>Or.inl z) rfl;obtain⟨fn,b,pO,_⟩:=L.fn hf;have hE:=agb (B:=B) (P:=P) L (Q:=fun fr w'=>fr.mode=.returning/\fr.fn=f/\∃v,(∃t d t' k,R t d (.returned v)<|re w' t' k)/\∃t k,(results fn fr.tmps).run P (re w' t k)=.ok v (re w' t k))
  (fun fr w' t d h=>h) (fs:=[]) dA (by simp) hw.okW (by
    intro t d;obtain⟨e,w',fr,hR,Ai,LX,hlv⟩:=hc t d [wall P];obtain⟨v,rfl⟩:=ho _ _ _ _ hR;obtain⟨k,hk⟩:=Ai;obtain⟨hm,_,_,fn2,jB,yA⟩:=hlv;have:fn2=fn:=by rw[LX,pO]at jB;exact(qE jB).symm
    subst this;exact⟨k,fr,w',hk,by rw[hm];simp,hm,LX,v,⟨t,d,w'.tape,w'.drawn,hR⟩,w'.tape,w'.drawn,yA⟩)
 refine(apF C hE (c::cs) age<|by simp).trans ?_;rintro B' fr' w' ⟨rfl,xn,⟨hm,LX,v,hR,t,k,yA⟩,nX⟩;refine Reach.ok fun uz=>Reach.step fun d=>?_;have dw:=((IA (C _ uz.lQ).toFit (fn:=fn) xn.tmps).CV (w:=re w' t k) uz.obj yA fun b _=>Eb b _).1;have apH:eU B' P fr':=xn.mono (B:=B') (B':=B'.cut w'.heap.size) (fun _ z=>Or.inl z) rfl;obtain⟨n,r,gs,h1,h2⟩:=(IA (B:=B') (P:=P) L.toFit (fn:=fn) apH.tmps).Iz<|uz.okW.re t k;have nV:=agc h1 t k fun i _=>rfl;rw[Vq]at nV;rw[yA]at nV;cases r with
 |halt x w1=>simp[Result.re]at nV
 |ok v1 w1=>
  simp only[Result.re,aCL]at nV;obtain⟨rfl,vK⟩:=nV;have hn:n=0:=by
   have:=eP World.drawn vK;simp only[re]at this;omega
  subst hn;have aav:re w1 w'.tape d=w'.at d:=by
   have e1:=eP World.heap vK;have e2:=eP World.os vK;have e3:=eP World.output vK;simp only[re]at e1 e2 e3;unfold re;show _=({w' with drawn:=d}:ah);rw[<-e1,<-e2,<-e3]
  have bU:=h1 w'.tape d (fun i hi=>absurd hi<|by omega) #[];rw[Vq]at bU;simp only[Result.re,JM,aav]at bU;obtain⟨hv,_,_,_,_,dI⟩:=h2;have dS:w1.heap.size=w'.heap.size:=by
   have e1:=eP World.heap vK;simp only[re]at e1;rw[e1]
  refine⟨c.finish v,cs,w'.at d,seen P fr'.fn gs,?_,⟨uz.obj,uz.low,uz.lQ⟩,bV _,?_,Reach.here fun _=>⟨v,rfl,rfl,dw,⟨nX.tape,nX.size,nX.os,nX.output⟩,hR⟩⟩
  ·have EW:(results fn fr'.tmps).runT P (w'.at d) #[]=(.ok v<|w'.at d,#[]++gs):=bU;have axx:P.funcs[fr'.fn]? =ae fn:=by rw[LX];exact pO
   simp only[aW,unwind,hm,xn.defers,axx,EW,doReturn,xn.kind,GStep.after,tN,tK]
  ·intro e he;have:=dI e<|aCJ he;rw[dS]at this;exact Kv this
end ai
end
section
namespace ai
open Go Go.Conc
variable{B:bP}{P:dO}
def more(k:List Item)(fr:aV):Frame:={fr with todo:=fr.todo++k}
def k0:List Item:=[.code<|.refuse ""]
variable{fr:aV}{k:List Item}{w w1:ah}
def IC(h:rC fr)(k:List Item)(v:aj):(more k fr).finish v=more k (fr.finish v):=by
 obtain⟨fn,tmps,todo,defers,mode,kind,round⟩:=fr;obtain⟨ops,i,r,k1,rfl⟩:=h;simp[more,Frame.finish]
def VK{id:Nat}:∀{l l':List Item},exitTo id l=ae l'->exitTo id (l++k)=ae (l'++k)
 |[],_,h=>by simp[exitTo]at h
 |x::l,l',h=>by
  cases x with
  |inBlock XZ=>
   simp only[exitTo,mV]at h⊢
   split at h
   ·cases h;rw[if_pos ‹_›]
   ·rw[if_neg ‹_›];exact VK h
  |_=>
   simp only[exitTo,mV]at h⊢
   exact VK h
def aaw{id:Nat}:∀{l:List Item},exitTo id l=af->exitTo id (l++k0)=af
 |[],_=>by simp[k0,exitTo]
 |x::l,h=>by
  cases x with
  |inBlock XZ=>
   simp only[exitTo,mV]at h⊢
   split at h
   ·cases h
   ·rw[if_neg ‹_›];exact aaw h
  |_=>
   simp only[exitTo,mV]at h⊢
   exact aaw h
def VL{id:Nat}:∀{l l':List Item},gotoIn id l=ae l'->gotoIn id (l++k)=ae (l'++k)
 |[],_,h=>by simp[gotoIn]at h
 |x::l,l',h=>by
  cases x with
  |inScope c=>
   simp only[gotoIn,mV]at h⊢
   split at h
   ·cases h;rfl
   ·exact VL h
  |_=>
   simp only[gotoIn,mV]at h⊢
   exact VL h
def aax{id:Nat}:∀{l:List Item},gotoIn id l=af->gotoIn id (l++k0)=af
 |[],_=>by simp[k0,gotoIn]
 |x::l,h=>by
  cases x with
  |inScope c=>
   simp only[gotoIn,mV]at h⊢
   split at h
   ·cases h
   ·exact aax h
  |_=>
   simp only[gotoIn,mV]at h⊢
   exact aax h
def VM{t:Nat->Question->Nat}{d d1:Nat}(h:re w t d=re w1 t d1)(t':Nat->Question->Nat)(d':Nat):re w t' d'=re w1 t' d':=by
 have e1:=eP World.heap h;have e2:=eP World.os h;have e3:=eP World.output h;simp only[re]at e1 e2 e3;unfold re;rw[e1,e2,e3]
def Kw{uf:aV}{yT:List aV}{zx:Array Event}{n:Nat}{C:Prop}(hS:xI B P (more k0 fr) [] w n (.next uf yT w1 zx))
 (he:∃o w',aW P true {frame:=more k0 fr,callers:=[],status:=.running,dying:=af} (re w w.tape w.drawn)=.ended o w' #[]):C:=by
 have h:=hS.eq w.tape w.drawn (fun i _=>rfl) [];obtain⟨o,w',he⟩:=he;simp only[wI]at h;rw[he]at h;simp[TS.mF]at h
def eU.less(h:eU B P (more k fr)):eU B P fr:=
 ⟨h.fn,h.tmps,fun it hi=>h.todo it<|H7 _ hi,h.defers,h.mode,h.kind,h.round⟩
def Sw(k:List Item)(fr:aV)(fs:List aV)(fr':aV)(kN:List aV):Prop:=
 (∃f,fs=[]/\kN=[]/\fr=more k0 f/\fr'=more k f)\/∃f gs,fr'=fr/\fs=gs++[more k0 f]/\kN=gs++[more k f]/\rC f
end ai
end
end Go.Proofs.YtkelpcjiediamaaGreat
