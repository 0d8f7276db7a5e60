import Derived.Test.YtkelpcjiediamaaGreatQb49
set_option maxRecDepth 100000
set_option maxHeartbeats 0
set_option linter.all false
namespace Go.Proofs.YtkelpcjiediamaaGreat
open Go renaming Calls→aK,Frame→aV,Value→aj,World→ah,execOp→dJ,undef→ag
open Option renaming none→af,some→ae
open Go.Proofs.Tryz
section
open Go.RowKit Go.Maps Go.Conc
open _root_.Go.Proofs.YtkelpcjiediamaaGreat.Twin _root_.Go.Proofs.YtkelpcjiediamaaGreat.eX
open ai (jr jy qK)
def qO(D:List Nat)(B:ai.bP)(t:Array aj):Prop:=∀j,D.contains j=false->∀v,t[j]? =ae v->ai.az B v
def lay(D:List Nat)(f:Nat->aj):List (Nat×aj):=D.map fun j=>(j,f j)
def tidy(D:List Nat)(t:Array aj):Array Value:=jr (lay D fun _=>ag) t
def aja(D:List Nat)(f:Nat->aj):jy (lay D f)=D:=by
 simp[jy,lay,Function.comp_def]
variable{t:Array aj}{f:Nat->aj}{D:List Nat}{B:ai.bP}
def EM:∀{ov:List (Nat×aj)},(jr ov t).size=t.size
 |[]=>rfl
 |x::r=>by simp only[jr,Array.size_setIfInBounds];exact EM
def Jj{i:Nat}:∀{D:List Nat},(jr (lay D f) t)[i]? =if D.contains i then(if i<t.size then ae (f i)else af)else t[i]?
 |[]=>rfl
 |j::D=>by
  show((jr (lay D f) t).setIfInBounds j<|f j)[i]? =_;rw[adC,EM];by_cases e:j=i
  ·subst e;simp
  ·have e':¬i=j:=fun h=>e h.symm;rw[if_neg e,Jj];simp[e']
def ajb:jr (lay D fun j=>t.getD j ag) (tidy D t)=t:=by
 refine Array.ext_getElem? fun i=>?_;rw[Jj,tidy,EM];by_cases h:D.contains i=true
 ·rw[if_pos h];by_cases hi:i<t.size
  ·rw[if_pos hi];simp[Array.getD,hi]
  ·rw[if_neg hi];simp[hi]
 ·rw[if_neg h,Jj,if_neg h]
def BJ{i:Nat}(h:D.contains i=false):(jr (lay D f) t).getD i ag=t.getD i undef:=by
 rw[Ff,Ff,Jj,h,if_neg<|by decide]
def OQ{i:Nat}(h:D.contains i=true)(hi:i<t.size):(jr (lay D f) t).getD i ag=f i:=by
 rw[Ff,Jj,if_pos h,if_pos hi];rfl
def qO.tidy(h:qO D B t):ai.bG B (tidy D t):=fun v hv=>by
 obtain⟨i,hi⟩:=alb.1 hv;rw[YtkelpcjiediamaaGreat.tidy,Jj]at hi;split at hi
 ·split at hi
  ·cases hi;exact ai.ru
  ·cases hi
 ·exact h i (Bool.eq_false_iff.2 ‹_›) v hi
def qO.of(h:ai.bG B t):qO D B (jr (lay D f) t):=fun j hj v hv=>by
 rw[Jj,hj,if_neg<|by decide]at hv;exact h v<|JJ hv
def qO.mono{B':ai.bP}(h:qO D B t)(hi:∀v,ai.az B v->ai.az B' v):qO D B' t:=fun j hj v hv=>hi v<|h j hj v hv
def qO.getD(h:qO D B t){j:Nat}(hj:D.contains j=false):ai.az B (t.getD j ag):=by
 rw[Ff];cases e:t[j]? with
 |none=>exact ai.ru
 |some v=>exact h j hj v e
def qO.put{a a':Act}{i:Nat}{v:aj}(h:qO D B a.tmps)(p:GY a i v a')(hv:D.contains i=true\/ai.az B v):qO D B a'.tmps:=fun j hj u hu=>by
 have aB:j<a'.tmps.size:=(iU.1 hu).1;have ayQ:j<a.tmps.size:=p.sz▸aB;have e1:a'.tmps.getD j ag=u:=by rw[Ff,hu];rfl
 by_cases e:i=j
 ·subst e;have:=p.at_ ayQ;rw[e1]at this;subst this;exact hv.elim (fun h=>by rw[hj]at h;cases h) id
 ·have:=p.ne j e;rw[e1]at this;rw[this];exact h.getD hj
def ajc(h:D.contains 1=true/\D.contains 0=false){c s:aj}{n:Nat}:tidy D (#[c,s]++Array.replicate n ag)=#[c,ag]++Array.replicate n undef:=by
 refine Array.ext_getElem? fun i=>?_;rw[tidy,Jj];match i with
 |0=>
  rw[h.2,if_neg<|by decide,Uu,Uu];rfl
 |1=>
  rw[if_pos h.1,if_pos (by simp<;>omega),Uu];rfl
 |i+2=>
  have e:∀v:aj,(#[c,v]++Array.replicate n undef:Array aj)[i+2]? =if i<n then ae ag else none:=fun v=>by
   rw[Uu,if_neg<|by simp,Array.getElem?_replicate];rfl
  rw[e,e];split
  ·have hz:(#[c,s]++Array.replicate n undef:Array aj).size=n+2:=by simp<;>omega
   rw[hz];simp
  ·rfl
section
variable{fo s:Nat->Prop}{b:aV}{a:Act}{ops:Array Oper}{i:Nat}{rest:List Nat}{k:List Item}{cs cs2:List aV}{w:ah}{Q:ai.bP->aV->ah->Prop}{o:Oper}{v:aj}{d:Nat}
def Jk(ho:ops[i]? =ae o)(hg:o.guard=af)(hd:o.dst=ae d)(hk:b.kind≠.early)
 (hr:∀d,(dJ a.eval o).run prog (w.at d)=.ok (.value v) (w.at d))
 (dI:∀d,∀e∈(dJ a.eval o).events prog (w.at d) #[],EvL (ai.sG<|ai.bz fo s) w.heap.size e)
 (hn:∀a' dd,GY a d v a'->ai.Reach (ai.bz fo s) prog (b.at a'<|.inRegion ops rest::k) cs (w.at dd) Q cs2):ai.Reach (ai.bz fo s) prog (b.at a<|.inRegion ops (i::rest)::k) cs w Q cs2:=by
 refine ai.Reach.ok fun bD=>ai.Reach.step fun dd=>?_;refine⟨_,_,w.at dd,_,aCG ho (by simp[Region.wanted,hg]) hk<|hr dd,⟨bD.obj,bD.low,bD.lQ⟩,bV _,fun e he=>dI dd e<|aB6 he,?_⟩;rw[hd];exact hn _ dd<|.of a d v
variable{n:Nat}{c:Code}{D:List Nat}{f:FuncId}{fn:Func}{K:Array aj->ah->Prop}
def awc{W:ah}(aF:o.op=.move (.tmp n)\/o.op=.assign (.tmp n)):(dJ a.eval o).events prog W #[]=#[]:=by
 rcases aF with aF|aF<;>(unfold dJ;rw[aF];rfl)
def G6(ho:ops[i]? =ae o)(hg:o.guard=af)(hd:o.dst=ae d)(hk:b.kind≠.early)(aF:o.op=.move (.tmp n)\/o.op=.assign (.tmp n))(h:a.tmps.getD n ag=v)
 (hn:∀a' dd,GY a d v a'->ai.Reach (ai.bz fo s) prog (b.at a'<|.inRegion ops rest::k) cs (w.at dd) Q cs2):ai.Reach (ai.bz fo s) prog (b.at a<|.inRegion ops (i::rest)::k) cs w Q cs2:=
 Jk ho hg hd hk (fun _=>Jh h aF) (fun _ e he=>by rw[awc aF]at he;simp at he) hn
def rdL{c:Addr}(h:c.block<n)(hs:¬s c.block):EvL (ai.sG<|ai.bz fo s) n ⟨.cell c,false,false⟩:=
 aho (B:=ai.bz fo s) (S:=fun b=>b=c.block) (E:=⟨fun _=>False,fun _=>False,fun _ z=>z⟩) (.inl rfl) (fun _ e=>e▸⟨h,hs⟩) fun _ e=>e.elim
def Sr(hK:∀x w t d,K x (ai.re w t d)->K x w)(pO:prog.funcs[f]? =ae fn)(bD:ai.codeOk prog ai.mZ c=true)(hM:qK D c=true)(ha:qO D ((ai.bz fo s).cut w.heap.size) a.tmps)(hd:a.defers=[])
 (Aq:∀t d,c.wp prog (fun e x w'=>e=.normal/\K x.tmps w') ⟨tidy D a.tmps,[]⟩<|ai.re w t d)
 (hn:∀x w1,ai.On w w1->K x w1->qO D ((ai.bz fo s).cut w1.heap.size) (jr (lay D fun j=>a.tmps.getD j ag) x)->ai.Reach (ai.bz fo s) prog ((base f).at ⟨jr (lay D fun j=>a.tmps.getD j ag) x,[]⟩ k) cs w1 Q cs2):
 ai.Reach (ai.bz fo s) prog ((base f).at a<|.code c::k) cs w Q cs2:=by
 refine ai.Reach.ok fun adz=>?_;have h5:∀b,s b\/fo b->1<=b:=fun b hb=>(adz.low b hb).1;obtain⟨tm,df⟩:=a;obtain rfl:df=[]:=hd;have:=ai.aaF (ov:=lay D fun j=>tm.getD j ag) (z:=false) (S:=.ret) (b:=base f) (k:=k) (cs:=cs) (cs2:=cs2) (Q:=Q) (K:=fun t d e a' w'=>e=.normal/\K a'.tmps w') (ai.lets h5) (zk h5) (fun it hi=>by
  obtain rfl:it=.code c:=by simpa using hi
  rw[aja];exact .inr hM) (.same c<|.off rfl _) bD ha.tidy rfl ⟨_,pO⟩ rfl (fun t d=>aCs (Aq t d) fun e a' w' hq=>⟨.inl hq.1,hq⟩)
  (fun a' w' on Xo hd ⟨t,d,t',j,_,h⟩=>by
    obtain⟨x,df⟩:=a';obtain rfl:df=[]:=hd;exact hn x w' on (hK _ _ _ _ h)<|.of Xo) (fun h=>by cases h) (fun _ a' w' todo _ _ _ ⟨t,d,t',j,e,_⟩=>by cases e) (fun h=>absurd rfl h)
 rw[ajb]at this;exact this
def ajd(hK:∀x w t d,K x (ai.re w t d)->K x w)(pO:prog.funcs[f]? =ae fn)(bD:ai.codeOk prog ai.mZ c=true)(hM:qK D c=true)(ha:qO D ((ai.bz fo s).cut w.heap.size) a.tmps)(hd:a.defers=[])
 (Aq:∀t d,c.wp prog (fun e x w'=>e=.ret/\K x.tmps w') ⟨tidy D a.tmps,[]⟩<|ai.re w t d)
 (hn:∀x w1 todo,ai.On w w1->K x w1->ai.bG ((ai.bz fo s).cut w1.heap.size) x->ai.Reach (ai.bz fo s) prog {(base f).at ⟨jr (lay D fun j=>a.tmps.getD j ag) x,[]⟩ todo with mode:=.returning} cs w1 Q cs2):
 ai.Reach (ai.bz fo s) prog ((base f).at a<|.code c::k) cs w Q cs2:=by
 refine ai.Reach.ok fun adz=>?_;have h5:∀b,s b\/fo b->1<=b:=fun b hb=>(adz.low b hb).1;obtain⟨tm,df⟩:=a;obtain rfl:df=[]:=hd;have:=ai.aaF (ov:=lay D fun j=>tm.getD j ag) (z:=false) (S:=.ret) (b:=base f) (k:=k) (cs:=cs) (cs2:=cs2) (Q:=Q) (K:=fun t d e a' w'=>e=.ret/\K a'.tmps w') (ai.lets h5) (zk h5) (fun it hi=>by
  obtain rfl:it=.code c:=by simpa using hi
  rw[aja];exact .inr hM) (.same c<|.off rfl _) bD ha.tidy rfl ⟨_,pO⟩ rfl (fun t d=>aCs (Aq t d) fun e a' w' hq=>⟨.inr hq.1,hq⟩)
  (fun a' w' on Xo hd ⟨t,d,t',j,e,_⟩=>by cases e) (fun h=>by cases h) (fun _ a' w' todo on Xo hd ⟨t,d,t',j,_,h⟩=>by
    obtain⟨x,df⟩:=a';obtain rfl:df=[]:=hd;exact hn x w' todo on (hK _ _ _ _ h) Xo) (fun h=>absurd rfl h)
 rw[ajb]at this;exact this
end
end
section
open Go.RowKit Go.Maps Go.Conc
open _root_.Go.Proofs.YtkelpcjiediamaaGreat.Twin _root_.Go.Proofs.YtkelpcjiediamaaGreat.eX
section
variable{a a':Act}{o:Oper}{W:ah}
variable{x y:Operand}{b sb so f:Nat}{p q t k m:Int}{ts:ByteArray}{fl:Bool}
def aje(h:a.eval x=.pointer (ae ⟨b,0,af⟩))(hb:W.heap[b]? =ae (.cells #[.int .i64 p,.int .i64 q,.int .i64 t,.int .i64 k] 23 (0,0)))(aF:o.op=.load 23 x):(dJ a.eval o).run prog W=.ok (.value<|iK p q t k) W:=by
 have h0:W.cell? ⟨b,0,af⟩=ae (.int .i64 p):=aG hb 0;have h1:W.cell? ⟨b,1,af⟩=ae (.int .i64 q):=aG hb 1;have h2:W.cell? ⟨b,2,af⟩=ae (.int .i64 t):=aG hb 2;have h3:W.cell? ⟨b,3,af⟩=ae (.int .i64 k):=aG hb 3;clear hb;unfold dJ iK;rw[aF];simp only[h];go_simp
def awd{n cap i:Nat}(h:a.eval x=.slice (ae ⟨sb,so,af⟩) n cap)(h2:a.eval y=.int .i64 i)(hi:i<n)(aF:o.op=.indexAddr 26 x y):(dJ a.eval o).run prog W=.ok (.value<|.pointer<|ae ⟨sb,so+i*6,af⟩) W:=by
 have h3:(i:Int)<(n:Int):=by omega
 have h4:(0:Int)<=(i:Int):=by omega
 unfold dJ;rw[aF];simp only[h,h2];go_simp
def awe(h:a.eval x=.pointer (ae ⟨b,f,af⟩))(h0:W.cell? ⟨b,f,af⟩=ae (.int .i64 k))(h1:W.cell? ⟨b,f+1,af⟩=ae (.int .i64 p))(h2:W.cell? ⟨b,f+2,af⟩=ae (.int .i64 q))(h3:W.cell? ⟨b,f+3,af⟩=ae (.int .i64 m))(h4:W.cell? ⟨b,f+4,af⟩=ae (.string ts))(h5:W.cell? ⟨b,f+5,af⟩=ae (.bool fl))(aF:o.op=.load 28 x):(dJ a.eval o).run prog W=.ok (.value<|uQ k p q m ts fl) W:=by
 unfold dJ uQ;rw[aF];simp only[h];go_simp
def ajf(h:a.eval x=.pointer (ae ⟨b,0,af⟩))(hb:W.heap[b]? =ae (.cells #[.int .i64 p,.int .i64 q,.int .i64 t,.int .i64 k] 23 (0,0)))(aF:o.op=.load 23 x):∀e∈(dJ a.eval o).events prog W #[],∃n,e=⟨.cell ⟨b,n,af⟩,false,false⟩:=by
 intro e he;have h0:W.cell? ⟨b,0,af⟩=ae (.int .i64 p):=aG hb 0;have h1:W.cell? ⟨b,1,af⟩=ae (.int .i64 q):=aG hb 1;have h2:W.cell? ⟨b,2,af⟩=ae (.int .i64 t):=aG hb 2;have h3:W.cell? ⟨b,3,af⟩=ae (.int .i64 k):=aG hb 3;clear hb;unfold dJ at he;rw[aF]at he;simp only[h]at he;simp[go_sem,h0,h1,h2,h3]at he;rcases he with rfl|rfl|rfl|rfl<;>exact⟨_,rfl⟩
def awf(h:a.eval x=.pointer (ae ⟨b,f,af⟩))(h0:W.cell? ⟨b,f,af⟩=ae (.int .i64 k))(h1:W.cell? ⟨b,f+1,af⟩=ae (.int .i64 p))(h2:W.cell? ⟨b,f+2,af⟩=ae (.int .i64 q))(h3:W.cell? ⟨b,f+3,af⟩=ae (.int .i64 m))(h4:W.cell? ⟨b,f+4,af⟩=ae (.string ts))(h5:W.cell? ⟨b,f+5,af⟩=ae (.bool fl))(aF:o.op=.load 28 x):∀e∈(dJ a.eval o).events prog W #[],∃n,e=⟨.cell ⟨b,n,af⟩,false,false⟩:=by
 intro e he;unfold dJ at he;rw[aF]at he;simp only[h]at he;simp[go_sem,h0,h1,h2,h3,h4,h5]at he;rcases he with rfl|rfl|rfl|rfl|rfl|rfl<;>exact⟨_,rfl⟩
def awg{n cap i:Nat}(h:a.eval x=.slice (ae ⟨sb,so,af⟩) n cap)(h2:a.eval y=.int .i64 i)(hi:i<n)(aF:o.op=.indexAddr 26 x y):(dJ a.eval o).events prog W #[]=#[]:=by
 have h3:(i:Int)<(n:Int):=by omega
 have h4:(0:Int)<=(i:Int):=by omega
 unfold dJ;rw[aF];simp only[h,h2];simp[go_sem,h3]
def awh{v:aj}(aF:o.op=.assign (.const v)):(dJ a.eval o).events prog W #[]=#[]:=by
 unfold dJ;rw[aF];rfl
def ajg{ao:Option Addr}{n cap:Nat}(h:a.eval x=.slice ao n cap)(aF:o.op=.call {callee:=.builtin .len,args:=#[x],argTypes:=#[26]}):(dJ a.eval o).run prog W=.ok (.value<|.int .i64 n) W/\(dJ a.eval o).events prog W #[]=#[]:=by
 unfold dJ;rw[aF];have h':#[x].map a.eval=#[.slice ao n cap]:=by simp only[adL,yM,zL,h]
 constructor
 ·simp only[resolve,h'];simp[go_sem]
 ·simp only[resolve,h'];simp[go_sem]
def ajh{i n:Nat}(h:a.eval x=.int .i64 i)(h2:a.eval y=.int .i64 n)(aF:o.op=.binOp .lss 3 x y 3):(dJ a.eval o).run prog W=.ok (.value<|.bool<|decide<|i<n) W/\(dJ a.eval o).events prog W #[]=#[]:=by
 unfold dJ;rw[aF];simp only[h,h2];constructor
 ·simp[go_sem]
 ·simp[go_sem]
end
structure zl where
 k:Int
 p:Int
 q:Int
 m:Int
 s:ByteArray
 c:Bool
def zl.at_(w:ah)(sb o:Nat)(x:zl):Prop:=
 w.cell? ⟨sb,o,af⟩=ae (.int .i64 x.k)/\w.cell? ⟨sb,o+1,af⟩=ae (.int .i64 x.p)/\w.cell? ⟨sb,o+2,af⟩=ae (.int .i64 x.q)/\
 w.cell? ⟨sb,o+3,af⟩=ae (.int .i64 x.m)/\w.cell? ⟨sb,o+4,af⟩=ae (.string x.s)/\w.cell? ⟨sb,o+5,af⟩=ae (.bool x.c)
def OT(w:ah)(ao:Option Addr)(l:List zl):Prop:=
 ∀(i:Nat) x,l[i]? =ae x->(∃sb so,ao=ae ⟨sb,so,af⟩/\sb<w.heap.size/\x.at_ w sb (so+i*6))/\dQ x.p/\dQ x.q/\dQ x.m
def zl.aP{w w':ah}{sb o B:Nat}{x:zl}(h:x.at_ w sb o)(f:Fr (fun k=>B<=k) w w')(hB:w.heap.size<=B)(hs:sb<w.heap.size):x.at_ w' sb o:=by
 obtain⟨c0,c1,c2,c3,c4,c5⟩:=h;have k:∀o,w'.cell? ⟨sb,o,af⟩=w.cell? ⟨sb,o,af⟩:=fun o=>f.cell (p:=⟨sb,o,af⟩) hs (fun e=>by have:B<=sb:=e;omega);exact⟨by rw[k];exact c0,by rw[k];exact c1,by rw[k];exact c2,by rw[k];exact c3,by rw[k];exact c4,by rw[k];exact c5⟩
noncomputable def d15:Code:=Tryz.f15.body.getD .skip
noncomputable def Su:Code:=ai.gK [false] d15
noncomputable def vZ:Array Oper:=opsOf<|ai.gK [true,false] d15
noncomputable def Sv:Code:=ai.gK [true,true,false] d15
noncomputable def Lr:Array Oper:=opsOf<|ai.gK [true,true,true,false,false] d15
noncomputable def Ls:Code:=ai.gK [true,true,true,true] d15
noncomputable def Xp:Code:=ai.gK [true,true,true,false,true,false,false] d15
noncomputable def ku:Array Oper:=opsOf<|ai.gK [true,true,true,false,true,true,false,false] d15
noncomputable def Sz:Code:=ai.gK [true,true,true,false,true,true,false,true] d15
noncomputable def SA:Code:=ai.gK [true,true,true,false,true,true,true] d15
noncomputable def SB:Code:=.seq (.seq Xp<|.cond (.tmp 16) .skip<|.exit 0)<|.seq (.block 1<|.seq (.region 7 ku false) Sz) SA
def awi:d15=.seq Su (.seq (.region 1 vZ false)<|.seq Sv<|.seq (.seq (.region 4 Lr false)<|.block 0<|.loop SB) Ls):=by kernel_rfl
noncomputable def qP:Array Oper:=opsOf Xp
def awj:Xp=.region 5 qP false:=by kernel_rfl
def awk:List.range qP.size=[0,1,2,3]:=by kernel_rfl
def Xq:qP[0]? =ae (opAt qP 0)/\(opAt qP 0).guard=af/\(opAt qP 0).dst=ae 13/\(opAt qP 0).op=.move (.tmp 6):=by and_intros<;>kernel_rfl
def Xr:qP[1]? =ae (opAt qP 1)/\(opAt qP 1).guard=af/\(opAt qP 1).dst=ae 14/\(opAt qP 1).op=.move (.tmp 1):=by and_intros<;>kernel_rfl
def SC:qP[2]? =ae (opAt qP 2)/\(opAt qP 2).guard=af/\(opAt qP 2).dst=ae 15/\(opAt qP 2).op=.call {callee:=.builtin .len,args:=#[.tmp 14],argTypes:=#[26]}:=by and_intros<;>kernel_rfl
def SE:qP[3]? =ae (opAt qP 3)/\(opAt qP 3).guard=af/\(opAt qP 3).dst=ae 16/\(opAt qP 3).op=.binOp .lss 3 (.tmp 13) (.tmp 15) 3:=by and_intros<;>kernel_rfl
def nT:List Nat:=[1,14,20,22]
def SG:ai.qK nT Su=true/\ai.qK nT Sv=true/\ai.qK nT Ls=true/\ai.qK nT Sz=true/\ai.qK nT SA=true:=by and_intros<;>kernel_rfl
def SH:ai.codeOk prog ai.mZ Su=true/\ai.codeOk prog ai.mZ Sv=true/\ai.codeOk prog ai.mZ Ls=true/\ai.codeOk prog ai.mZ Sz=true/\ai.codeOk prog ai.mZ SA=true:=by and_intros<;>kernel_rfl
def OU:vZ[0]? =ae (opAt vZ 0)/\(opAt vZ 0).guard=af/\(opAt vZ 0).dst=ae 9/\(opAt vZ 0).op=.load 23 (.tmp 2)/\List.range vZ.size=[0,1,2]:=by and_intros<;>kernel_rfl
def Xt:vZ[1]? =ae (opAt vZ 1)/\(opAt vZ 1).guard=af/\(opAt vZ 1).dst=ae 10/\(opAt vZ 1).op=.call {callee:=.value<|.func 47,args:=#[.tmp 9],argTypes:=#[23]}:=by and_intros<;>kernel_rfl
def Xu:vZ[2]? =ae (opAt vZ 2)/\(opAt vZ 2).guard=af/\(opAt vZ 2).dst=ae 5/\(opAt vZ 2).op=.assign (.tmp 10):=by and_intros<;>kernel_rfl
def OV:Lr[0]? =ae (opAt Lr 0)/\(opAt Lr 0).guard=af/\(opAt Lr 0).dst=ae 6/\(opAt Lr 0).op=.assign (.const<|.int .i64 0)/\List.range Lr.size=[0]:=by and_intros<;>kernel_rfl
def awl:List.range ku.size=[0,1,2,3,4,5,6]:=by kernel_rfl
def Xv:ku[0]? =ae (opAt ku 0)/\(opAt ku 0).guard=af/\(opAt ku 0).dst=ae 19/\(opAt ku 0).op=.move (.tmp 5):=by and_intros<;>kernel_rfl
def Xw:ku[1]? =ae (opAt ku 1)/\(opAt ku 1).guard=af/\(opAt ku 1).dst=ae 20/\(opAt ku 1).op=.move (.tmp 1):=by and_intros<;>kernel_rfl
def Xx:ku[2]? =ae (opAt ku 2)/\(opAt ku 2).guard=af/\(opAt ku 2).dst=ae 21/\(opAt ku 2).op=.move (.tmp 6):=by and_intros<;>kernel_rfl
def SI:ku[3]? =ae (opAt ku 3)/\(opAt ku 3).guard=af/\(opAt ku 3).dst=ae 22/\(opAt ku 3).op=.indexAddr 26 (.tmp 20) (.tmp 21):=by and_intros<;>kernel_rfl
def SK:ku[4]? =ae (opAt ku 4)/\(opAt ku 4).guard=af/\(opAt ku 4).dst=ae 23/\(opAt ku 4).op=.load 28 (.tmp 22):=by and_intros<;>kernel_rfl
def Xy:ku[5]? =ae (opAt ku 5)/\(opAt ku 5).guard=af/\(opAt ku 5).dst=ae 24/\(opAt ku 5).op=.call {callee:=.value<|.func 48,args:=#[.tmp 19,.tmp 23],argTypes:=#[40,28]}:=by and_intros<;>kernel_rfl
def Xz:ku[6]? =ae (opAt ku 6)/\(opAt ku 6).guard=af/\(opAt ku 6).dst=ae 7/\(opAt ku 6).op=.assign (.tmp 24):=by and_intros<;>kernel_rfl
def XA:List.range 34=[0,1,2,3,4,5,6,7,8,9,10,11,12,13,14,15,16,17,18,19,20,21,22,23,24,25,26,27,28,29,30,31,32,33]:=by kernel_rfl
structure qQ(v1:aj)(pb:Nat)(i:Nat)(a:Array aj):Prop where
 sz:a.size=34
 a1:a.getD 1 ag=v1
 a5:a.getD 5 ag=.pointer (ae ⟨pb,0,af⟩)
 a6:a.getD 6 ag=.int .i64 i
variable{v1:aj}
def qQ.put{pb i j:Nat}{a a':Act}{v:aj}(T:qQ v1 pb i a.tmps)(q:GY a j v a')(h:j≠1/\j≠5/\j≠6):qQ v1 pb i a'.tmps:=
 ⟨q.sz.trans T.sz,(q.ne 1 h.1).trans T.a1,(q.ne 5 h.2.1).trans T.a5,(q.ne 6 h.2.2).trans T.a6⟩
def qQ.tidy{pb i:Nat}{t:Array aj}(T:qQ v1 pb i t):qQ ag pb i (tidy nT t):=
 ⟨EM.trans T.sz,OQ rfl (by rw[T.sz];decide),(BJ rfl).trans T.a5,(BJ rfl).trans T.a6⟩
def qQ.lay{pb i:Nat}{f:Nat->aj}{x:Array aj}(T:qQ ag pb i x)(h:f 1=v1):qQ v1 pb i (ai.jr (lay nT f) x):=
 ⟨EM.trans T.sz,(OQ rfl (by rw[T.sz];decide)).trans h,(BJ rfl).trans T.a5,(BJ rfl).trans T.a6⟩
section
variable{w W:ah}{B pb xb N i n cap:Nat}{s:dB}{ao:Option Addr}{a:Array aj}
variable{v1:aj}
def awm(T:qQ v1 pb i a)(hi:i<1000000):SA.wp prog (fun e x w'=>e=.normal/\qQ v1 pb (i+1) x.tmps/\w'=W) ⟨a,[]⟩ W:=by
 obtain⟨sz,a1,a5,a6⟩:=T;have hw:IntKind.i64.wrap ((i:Int)+1)=(i:Int)+1:=wrap_i64 (by omega) (by omega);rw[Lc a,sz,XA];simp only[yM,zL,a1,a5,a6];obtain⟨Q0,iT⟩:∃Q0:Exit->Act->ah->Prop,(fun e x w'=>e=.normal/\qQ v1 pb (i+1) x.tmps/\w'=W)=Q0:=⟨_,rfl⟩;rw[iT];simp only[SA,d15,ai.gK,Tryz.f15,gQ,if_true,lu,lq];go_wp2
 rw[<-iT];exact⟨rfl,⟨rfl,rfl,rfl,rfl⟩,rfl⟩
def awn(T:qQ v1 pb i a)(h7:a.getD 7 ag=.bool true)(A:bu w B pb xb N s)(hN:N<=80000000):Sz.wp prog (fun e x w'=>e=.normal/\qQ v1 pb i x.tmps/\∃s',bQ w w' B pb xb s (N+6) s') ⟨a,[]⟩ w:=by
 obtain⟨sz,a1,a5,a6⟩:=T;have HL:Hid (aK prog 21 #[.pointer<|ae ⟨pb,0,af⟩] w<|jZ w B pb xb s<|N+6):=avk A hN;rw[Lc a,sz,XA];simp only[yM,zL,a1,a5,a6,h7];clear A hN sz a1 a5 a6 h7;obtain⟨Q0,iT⟩:∃Q0:Exit->Act->ah->Prop,(fun e x w'=>e=.normal/\qQ v1 pb i x.tmps/\∃s',bQ w w' B pb xb s (N+6) s')=Q0:=⟨_,rfl⟩;rw[iT];simp only[Sz,d15,ai.gK,Tryz.f15,gQ,if_true,lu,lq];have Ld:Hid ((fun e x w'=>e=.normal/\qQ v1 pb i x.tmps/\∃s',bQ w w' B pb xb s (N+6) s')=Q0):=iT;clear iT;go_wp2_with fail
 refine HL.out.mono ?_;rintro e w1 ⟨rfl,s1,t1⟩;have T1:Hid (bQ w w1 B pb xb s (N+6) s1):=t1;clear t1;go_wp2_with fail
 rw[<-Ld.out];exact⟨rfl,⟨rfl,rfl,rfl,rfl⟩,s1,T1.out⟩
def awo(sz:a.size=34)(a1:a.getD 1 ag=v1)(a5:a.getD 5 ag=.pointer (ae ⟨pb,0,af⟩)):Sv.wp prog (fun e x w'=>e=.normal/\(x.tmps.size=34/\x.tmps.getD 1 ag=v1/\x.tmps.getD 5 ag=.pointer (ae ⟨pb,0,af⟩))/\w'=W) ⟨a,[]⟩ W:=by
 rw[Lc a,sz,XA];simp only[yM,zL,a1,a5];obtain⟨Q0,iT⟩:∃Q0:Exit->Act->ah->Prop,(fun e x w'=>e=.normal/\(x.tmps.size=34/\x.tmps.getD 1 ag=v1/\x.tmps.getD 5 ag=.pointer (ae ⟨pb,0,af⟩))/\w'=W)=Q0:=⟨_,rfl⟩;rw[iT];simp only[Sv,d15,ai.gK,Tryz.f15,gQ,if_true,lu,lq];go_wp2
 rw[<-iT];exact⟨rfl,⟨rfl,rfl,rfl⟩,rfl⟩
def awp(T:qQ v1 pb i a):Ls.wp prog (fun e x w'=>e=.ret/\x.tmps.getD 4 ag=.pointer (ae ⟨pb,0,af⟩)/\w'=W) ⟨a,[]⟩ W:=by
 obtain⟨sz,a1,a5,a6⟩:=T;rw[Lc a,sz,XA];simp only[yM,zL,a1,a5,a6];obtain⟨Q0,iT⟩:∃Q0:Exit->Act->ah->Prop,(fun e x w'=>e=.ret/\x.tmps.getD 4 ag=.pointer (ae ⟨pb,0,af⟩)/\w'=W)=Q0:=⟨_,rfl⟩;rw[iT];simp only[Ls,d15,ai.gK,Tryz.f15,gQ,if_true];go_wp2
 rw[<-iT];exact⟨rfl,rfl,rfl⟩
def awq{p q t k:Int}:Su.wp prog (fun e x w'=>e=.normal/\(x.tmps.size=34/\x.tmps.getD 1 ag=v1/\x.tmps.getD 2 ag=.pointer (ae ⟨W.heap.size,0,af⟩))/\w'.heap[W.heap.size]? =ae (.cells #[.int .i64 p,.int .i64 q,.int .i64 t,.int .i64 k] 23 (0,0))/\w'.heap.size=W.heap.size+1/\Fr aH W w') ⟨#[iK p q t k,v1]++Array.replicate (Tryz.f15.ntmps- #[iK p q t k,v1].size) ag,[]⟩ W:=by
 unfold iK;simp only[ntmps15,Fv,ny,vC,Nat.reduceAdd,Nat.reduceSub,Uy,Ux,UB,Uz,wI,mV];obtain⟨Q0,iT⟩:∃Q0:Exit->Act->ah->Prop,(fun e x w'=>e=.normal/\(x.tmps.size=34/\x.tmps.getD 1 ag=v1/\x.tmps.getD 2 ag=.pointer (ae ⟨W.heap.size,0,af⟩))/\w'.heap[W.heap.size]? =ae (.cells #[.int .i64 p,.int .i64 q,.int .i64 t,.int .i64 k] 23 (0,0))/\w'.heap.size=W.heap.size+1/\Fr aH W w')=Q0:=⟨_,rfl⟩;rw[iT];simp only[Su,d15,ai.gK,Tryz.f15,gQ,lu,lq];go_wp2
 rw[<-iT];exact⟨rfl,⟨rfl,rfl,rfl⟩,aB0 _ _,by simp,aZ _⟩
end
end
section
open Go.RowKit Go.Maps Go.Conc
open _root_.Go.Proofs.YtkelpcjiediamaaGreat.Twin _root_.Go.Proofs.YtkelpcjiediamaaGreat.eX
structure Pd(fo s0:Nat->Prop)(B pb xb:Nat)(w0:ah)(v1:aj)(i n:Nat)(a:Act)(w:ah)(s:dB):Prop where
 T:qQ v1 pb i a.tmps
 df:a.defers=[]
 ok:qO nT ((ai.bz fo s0).cut w.heap.size) a.tmps
 at_:bu w B pb xb n s
 eG:n<=1000+312*i
 hp:¬(s0 pb\/fo pb)
 hB:∀k,s0 k->B<=k
 fr:Fr (fun k=>B<=k) w0 w
def Fr.aci{S:Nat->Prop}{w0 w w':ah}(f:Fr S w0 w)(on:ai.On w w')(e:w'.heap=w.heap):Fr S w0 w':=
 ⟨on.os.trans f.os,on.tape.trans f.tape,on.output.trans f.output,by rw[e];exact f.size,fun b hb h=>by rw[e];exact f.block b hb h⟩
def Fr.Lu{S:Nat->Prop}{w0 w:ah}{d:Nat}(f:Fr S w0 w):Fr S w0 (w.at d):=⟨f.os,f.tape,f.output,f.size,f.block⟩
section
variable{fo:Nat->Prop}{B pb xb:Nat}{w0:ah}{ao:Option Addr}{cap:Nat}{l:List zl}{rest:List Item}{cs cs2:List aV}{Q:ai.bP->aV->ah->Prop}
def aji{s:Nat->Prop}{a:Act}{w:ah}{i n:Nat}(T:qQ (.slice ao n cap) pb i a.tmps)(ok:qO nT ((ai.bz fo s).cut w.heap.size) a.tmps)(hd:a.defers=[])
 (hn:∀a' d,qQ (.slice ao n cap) pb i a'.tmps->a'.tmps.getD 16 ag=.bool (decide<|i<n)->qO nT ((ai.bz fo s).cut w.heap.size) a'.tmps->a'.defers=[]->ai.Reach (ai.bz fo s) prog ((base 15).at a' rest) cs (w.at d) Q cs2):
 ai.Reach (ai.bz fo s) prog ((base 15).at a<|.code Xp::rest) cs w Q cs2:=by
 rw[awj];refine xR fun d1=>?_;rw[awk];refine G6 Xq.1 Xq.2.1 Xq.2.2.1 (by decide) (.inl Xq.2.2.2) T.a6 fun a2 e2 p2=>?_;have T2:=T.put p2 (by decide);refine G6 Xr.1 Xr.2.1 Xr.2.2.1 (by decide) (.inl Xr.2.2.2) T2.a1 fun a3 e3 p3=>?_;have T3:=T2.put p3 (by decide);have h14:a3.eval (.tmp 14)=.slice ao n cap:=p3.at_ (by rw[T2.sz];decide);refine Jk (v:=.int .i64 n) SC.1 SC.2.1 SC.2.2.1 (by decide) (fun d=>(ajg h14 SC.2.2.2).1) (fun d e he=>by rw[(ajg h14 SC.2.2.2).2]at he;simp at he) fun a4 e4 p4=>?_;have T4:=T3.put p4 (by decide);have h13:a4.eval (.tmp 13)=.int .i64 i:=(p4.ne 13<|by decide).trans ((p3.ne 13<|by decide).trans<|p2.at_ (by rw[T.sz];decide));have h15:a4.eval (.tmp 15)=.int .i64 n:=p4.at_ (by rw[T3.sz];decide);refine Jk (v:=.bool<|decide<|i<n) SE.1 SE.2.1 SE.2.2.1 (by decide) (fun d=>(ajh h13 h15 SE.2.2.2).1) (fun d e he=>by rw[(ajh h13 h15 SE.2.2.2).2]at he;simp at he) fun a5 e5 p5=>?_;refine xU fun d2=>?_;rw[gW,gW,gW,gW,gW];exact hn a5 d2 (T4.put p5<|by decide) (p5.at_ (by rw[T4.sz];decide)) ((((ok.put p2<|.inr .int).put p3<|.inl rfl).put p4<|.inr .int).put p5<|.inr .bool)<|p5.df.trans<|p4.df.trans<|p3.df.trans<|p2.df.trans hd
def awr(hl:OT w0 ao l)(hlen:l.length<=200000)(zy:w0.heap.size<=B)(uw:∀s1 n a w s,Pd fo s1 B pb xb w0 (.slice ao l.length cap) l.length n a w s->ai.Reach (ai.bz fo s1) prog ((base 15).at a<|.code Ls::rest) cs w Q cs2):
 ∀(m i n:Nat) (s0:Nat->Prop) (a:Act) (w:ah) (s:dB),i+m=l.length->Pd fo s0 B pb xb w0 (.slice ao l.length cap) i n a w s->ai.Reach (ai.bz fo s0) prog ((base 15).at a<|.code SB:: .inLoop SB:: .inBlock 0:: .code Ls::rest) cs w Q cs2:=by
 intro m;induction m with
 |zero=>
  intro i n s0 a w s hi R;obtain rfl:i=l.length:=by omega
  unfold SB;refine lU fun d1=>?_;refine lU fun d2=>?_;rw[gW];refine aji (w:=w.at d2) R.T R.ok R.df fun a2 d3 T2 Um tH MC=>?_;rw[qC<|PI _]at Um;refine kF (fun _=>aCe (t:=false) Um) fun d4=>?_;rw[if_neg<|by decide];refine kF (fun _=>stepG_exit rfl) fun d5=>?_;rw[gW,gW,gW];exact uw s0 n a2 _ s ⟨T2,MC,tH,R.at_.same rfl,R.eG,R.hp,R.hB,R.fr.Lu⟩
 |succ m ih=>
  intro i n s0 a w s hi R;have kQ:i<l.length:=by omega
  obtain⟨y,hy⟩:∃y,l[i]? =ae y:=⟨_,dR kQ⟩;obtain⟨⟨sb,so,rfl,hsb,dM⟩,ip,iq,im⟩:=hl i y hy;have hn:n<=70000000:=by have:=R.eG;omega
  unfold SB;refine lU fun d1=>?_;refine lU fun d2=>?_;rw[gW];refine aji (w:=w.at d2) R.T R.ok R.df fun a2 d3 T2 Um tH MC=>?_;rw[jI kQ]at Um;refine kF (fun _=>aCe (t:=true) Um) fun d4=>?_;rw[if_pos rfl];refine kF (fun _=>aCg) fun d5=>?_;refine lU fun d6=>?_;refine kF (fun _=>aCm) fun d7=>?_;refine lU fun d8=>?_;refine xR fun d9=>?_;rw[awl,gW,gW,gW,gW,gW,gW,gW];replace tH:qO nT ((ai.bz fo s0).cut w.heap.size) a2.tmps:=tH;obtain⟨c0,c1,c2,c3,c4,c5⟩:=zl.aP dM R.fr zy hsb;have x8:¬s0 sb:=fun z=>by have:=R.hB sb z;omega
  have LY:sb<w.heap.size:=dY hsb R.fr.size;have v5:ai.az ((ai.bz fo s0).cut w.heap.size) (.pointer<|ae ⟨pb,0,af⟩):=GX R.hp<|aS R.at_.pa.blk;refine G6 Xv.1 Xv.2.1 Xv.2.2.1 (by decide) (.inl Xv.2.2.2) T2.a5 fun a3 e3 p3=>?_;have Ah:=tH.put p3<|.inr v5;have T3:=T2.put p3 (by decide);refine G6 Xw.1 Xw.2.1 Xw.2.2.1 (by decide) (.inl Xw.2.2.2) T3.a1 fun a4 e4 p4=>?_;have G5:=Ah.put p4<|.inl rfl;have T4:=T3.put p4 (by decide);refine G6 Xx.1 Xx.2.1 Xx.2.2.1 (by decide) (.inl Xx.2.2.2) T4.a6 fun a5 e5 p5=>?_;have Dz:=G5.put p5<|.inr .int;have T5:=T4.put p5 (by decide);have BV:a5.eval (.tmp 20)=.slice (ae ⟨sb,so,af⟩) l.length cap:=(p5.ne 20<|by decide).trans (p4.at_ (by rw[T3.sz];decide));have h21:a5.eval (.tmp 21)=.int .i64 i:=p5.at_ (by rw[T4.sz];decide);refine Jk (v:=.pointer<|ae ⟨sb,so+i*6,af⟩) SI.1 SI.2.1 SI.2.2.1 (by decide) (fun d=>awd BV h21 kQ SI.2.2.2) (fun d e he=>by rw[awg BV h21 kQ SI.2.2.2]at he;simp at he) fun a6 e6 p6=>?_;have DC:=Dz.put p6<|.inl rfl;have T6:=T5.put p6 (by decide);have h22:a6.eval (.tmp 22)=.pointer (ae ⟨sb,so+i*6,af⟩):=p6.at_ (by rw[T5.sz];decide);rw[gW,gW,gW,gW];refine Jk (v:=uQ y.k y.p y.q y.m y.s y.c) SK.1 SK.2.1 SK.2.2.1 (by decide) (fun d=>awe (x:=.tmp 22) h22 c0 c1 c2 c3 c4 c5 SK.2.2.2) (fun d e he=>by
   obtain⟨n,rfl⟩:=awf (x:=.tmp 22) (W:=(w.at e6).at d) h22 c0 c1 c2 c3 c4 c5 SK.2.2.2 e he;exact rdL LY x8) fun a7 e7 p7=>?_
  have Lp:=DC.put p7<|.inr<|acd _ _ _ _ _ _;have T7:=T6.put p7 (by decide);rw[gW];refine OH (f:=48) (post:=fun B' v w'=>v=.bool true/\sN fo s0 w w' B pb xb s (n+306) B') Xy.1 Xy.2.1 Xy.2.2.1 (by decide) Xy.2.2.2 func48 rfl rfl (vs:=#[.pointer<|ae ⟨pb,0,af⟩,uQ y.k y.p y.q y.m y.s y.c]) ?_ (fun d=>(av4 (w:=w.at d) (R.at_.same rfl) hn R.hp R.hB y.k y.p y.q y.m ip iq im y.c).mono fun B' v w' hg=>⟨hg.1,hg.2.at⟩) ?_
  ·have e1:a7.eval (.tmp 19)=.pointer (ae ⟨pb,0,af⟩):=(p7.ne 19<|by decide).trans ((p6.ne 19<|by decide).trans<|(p5.ne 19<|by decide).trans<|(p4.ne 19<|by decide).trans<|p3.at_ (by rw[T2.sz];decide));have e2:a7.eval (.tmp 23)=uQ y.k y.p y.q y.m y.s y.c:=p7.at_ (by rw[T6.sz];decide);simp[e1,e2]
  rintro B' v w3 a8 p8 ⟨rfl,hw⟩;obtain⟨s1,s',rfl,g,sW,JD,dV⟩:=hw.go R.at_ R.hp R.hB;have ok8:=Lp.put p8<|.inr .bool;have T8:=T7.put p8 (by decide);have sz3:w.heap.size<=w3.heap.size:=dV.dV.size;refine G6 Xz.1 Xz.2.1 Xz.2.2.1 (by decide) (.inr Xz.2.2.2) (p8.at_ (by rw[T7.sz];decide)) fun a9 e9 p9=>?_;have ok9:=(ok8.put p9<|.inr .bool).mono fun v hv=>OI g sz3 hv;have T9:=T8.put p9 (by decide);have h7:a9.tmps.getD 7 ag=.bool true:=p9.at_ (by rw[T8.sz];decide);have df9:a9.defers=[]:=p9.df.trans<|p8.df.trans<|p7.df.trans<|p6.df.trans<|p5.df.trans<|p4.df.trans<|p3.df.trans MC;refine xU fun d9=>?_;rw[gW];refine Sr (D:=nT) (w:=w3.at d9) (K:=fun x w'=>qQ ag pb i x/\∃s2,bu w' B pb xb (n+306+6) s2/\∀b,b<w3.heap.size->¬B<=b->w'.heap[b]? =w3.heap[b]?) (fun _ _ _ _ h=>h.imp id fun⟨s2,h1,h2⟩=>⟨s2,h1.same rfl,h2⟩) func15 SH.2.2.2.1 SG.2.2.2.1 ok9 df9 (fun t d=>aCs (awn T9.tidy ((BJ rfl).trans h7) (dV.at_.re t d)<|by omega) fun e x w' hq=>⟨hq.1,hq.2.1,by
   obtain⟨s2,t2⟩:=hq.2.2;exact⟨s2,t2.at_,fun b hb h=>(t2.dV<|dV.at_.same (w1:=ai.re (w3.at d9) t d) rfl).block b hb h⟩⟩) fun Yz w4 ED hK ajk=>?_
  obtain⟨Un,s2,at4,bl4⟩:=hK;replace Un:=Un.lay (f:=fun j=>a9.tmps.getD j ag) T9.a1;have fr4:Fr (fun k=>B<=k) w0 w4:=R.fr.trans (dV.dV.trans ⟨ED.os,ED.tape,ED.output,ED.size,fun b hb h=>bl4 b hb h⟩ fun _=>.inl) fun _=>.inl;refine kF (fun _=>aCE) fun d10=>?_;generalize ai.jr (lay nT fun j=>a9.tmps.getD j ag) Yz=y10 at Un ajk⊢
  refine Sr (D:=nT) (w:=w4.at d10) (K:=fun x w'=>qQ ag pb (i+1) x/\w'.heap=w4.heap) (fun _ _ _ _ h=>h) func15 SH.2.2.2.2 SG.2.2.2.2 ajk rfl (fun t d=>aCs (awm Un.tidy<|by omega) fun e x w' hq=>⟨hq.1,hq.2.1,by rw[hq.2.2];rfl⟩) fun x11 w5 BB hK aww=>?_;refine kF (fun _=>aCN) fun d11=>?_;exact ih (i+1) (n+306+6) s1 _ _ s2 (by omega) ⟨hK.1.lay Un.a1,rfl,aww,at4.same hK.2,by have:=R.eG;omega,sW,JD,((fr4.Lu (d:=d10)).aci BB hK.2).Lu⟩
end
def Sm.at{fo:Nat->Prop}{w w':ah}{d:Nat}{B':ai.bP}{v:aj}(h:Sm fo (w.at d) B' v w'):Sm fo w B' v w':=by
 obtain⟨s1,pb,xb,n,s,h1,h2,h3,h4,h5,h6,h7⟩:=h.ex;exact⟨s1,pb,xb,n,s,h1,h2,h3,h4,h5,h6,h7.os,h7.tape,h7.output,h7.size,h7.block⟩
structure ajl(fo:Nat->Prop)(w:ah)(len:Nat)(B':ai.bP)(v:aj)(w':ah):Prop where
 ex:∃(s1:Nat->Prop) (B pb xb n:Nat) (s:dB),B'=ai.bz fo s1/\v=.pointer (ae ⟨pb,0,af⟩)/\bu w' B pb xb n s/\n<=1000+312*len/\¬(s1 pb\/fo pb)/\(∀k,s1 k->B<=k)/\w.heap.size<=B/\Fr (fun k=>B<=k) w w'
variable{Bn:ai.bP}{v:aj}{n:Nat}
def SL(p q t k:Int):ai.az Bn (iK p q t k):=.agg fun x hx=>by
 simp only[rP,jC,oN,oO]at hx;rcases hx with rfl|rfl|rfl|rfl<;>exact .int
def ajm{x:aj}:(#[x,v]++Array.replicate n undef:Array aj).getD 1 ag=v:=by
 rw[Ff,Uu];rfl
def ajn{D:List Nat}(h1:D.contains 1=true){p q t k:Int}:qO D Bn (#[iK p q t k,v]++Array.replicate n ag):=fun j hj u hu=>by
 rw[Uu]at hu;split at hu
 ·match j with
  |0=>cases hu;exact SL _ _ _ _
  |1=>rw[h1]at hj;cases hj
  |j+2=>simp at hu
 ·rw[Array.getElem?_replicate]at hu;split at hu
  ·cases hu;exact ai.ru
  ·cases hu
def awx{fo:Nat->Prop}{w:ah}{p q t k:Nat}{ao:Option Addr}{cap:Nat}{l:List zl}(hg:Good p q t k)(hl:OT w ao l)(hlen:l.length<=200000):
 ai.ug (ai.bz fo fun _=>False) prog 15 #[iK p q t k,.slice ao l.length cap] w (ajl fo w l.length):=by
 intro c cs;rw[aCX (c:=d15) _ func15 rfl,awi];refine lU fun d1=>?_;obtain⟨A,hA,Cc,Cf,TW⟩:∃A:Array aj,#[iK p q t k,.slice ao l.length cap]++Array.replicate (Tryz.f15.ntmps- #[iK p q t k,.slice ao l.length cap].size) ag=A/\A.getD 1 ag=.slice ao l.length cap/\tidy nT A=#[iK p q t k,ag]++Array.replicate (Tryz.f15.ntmps- #[iK p q t k,ag].size) ag/\∀B,qO nT B A:=⟨_,rfl,ajm,ajc ⟨rfl,rfl⟩,fun _=>ajn rfl⟩;rw[hA];refine Sr (D:=nT) (w:=w.at d1) (K:=fun x w'=>(x.size=34/\x.getD 1 ag=ag/\x.getD 2 ag=.pointer (ae ⟨w.heap.size,0,af⟩))/\w'.heap[w.heap.size]? =ae (.cells #[.int .i64 p,.int .i64 q,.int .i64 t,.int .i64 k] 23 (0,0))/\w'.heap.size=w.heap.size+1/\∀b,b<w.heap.size->w'.heap[b]? =w.heap[b]?) (fun _ _ _ _ h=>h) func15 SH.1 SG.1 (TW _) rfl (fun ta d=>by rw[Cf];exact aCs (awq (W:=ai.re (w.at d1) ta d)) fun e x w' hq=>⟨hq.1,hq.2.1,hq.2.2.1,hq.2.2.2.1,fun b hb=>hq.2.2.2.2.block b hb id⟩) ?_;rintro x2 w1 ng ⟨⟨sz,g1,g2⟩,hb,dS,DT⟩ tH;replace g1:=(OQ (D:=nT) (f:=fun j=>A.getD j ag) (i:=1) rfl (by rw[sz];decide)).trans Cc;replace sz:=(EM (ov:=lay nT fun j=>A.getD j ag)).trans sz;replace g2:=(BJ (D:=nT) (f:=fun j=>A.getD j ag) rfl).trans g2;generalize ai.jr (lay nT fun j=>A.getD j ag) x2=a2 at sz g1 g2 tH⊢
 have f1:Fr aH w w1:=⟨ng.os,ng.tape,ng.output,ng.size,fun b hb _=>DT b hb⟩;have id1:∀k,(fun _:Nat=>False) k->False\/w1.heap.size<=k:=fun _=>.inl;have kz:OT w1 ao l:=fun i x hx=>by
  obtain⟨⟨sb,so,e,h1,h2⟩,h3⟩:=hl i x hx;exact⟨⟨sb,so,e,by omega,zl.aP (B:=w.heap.size) h2 (f1.mono fun _ h=>h.elim) (bV _) h1⟩,h3⟩
 refine lU fun d2=>?_;refine xR fun d3=>?_;rw[OU.2.2.2.2,gW];refine Jk (v:=iK p q t k) OU.1 OU.2.1 OU.2.2.1 (by decide) (fun d=>aje (x:=.tmp 2) g2 hb OU.2.2.2.1) (fun d e he=>by
  obtain⟨n,rfl⟩:=ajf (a:=⟨a2,[]⟩) (W:=(w1.at d3).at d) (x:=.tmp 2) g2 hb OU.2.2.2.1 e he;exact rdL (aS hb) id) fun a3 e3 p3=>?_
 have Ah:=tH.put p3<|.inr<|SL _ _ _ _;have z3:a3.tmps.size=34:=p3.sz.trans sz;rw[gW];refine OH (f:=47) (post:=Sm fo w1) Xt.1 Xt.2.1 Xt.2.2.1 (by decide) Xt.2.2.2 func47 rfl rfl (vs:=#[iK p q t k]) ?_ (fun d=>(av9 (w:=w1.at d) hg).mono fun B' v w' hg=>hg.at) ?_
 ·have e1:a3.eval (.tmp 9)=iK p q t k:=p3.at_ (by show 9<a2.size;rw[sz];decide);simp[e1]
 rintro B' v w2 a4 p4 iF;obtain⟨s1,pb,xb,n,s,rfl,rfl,at2,hn,hp,hB,kJ⟩:=iF.ex;have g:∀k,s1 k->False\/w1.heap.size<=k:=fun k hk=>.inr (by have:=hB k hk;omega);have Ll:w1.heap.size<=w2.heap.size:=kJ.size;have SN:ai.az ((ai.bz fo s1).cut w2.heap.size) (.pointer<|ae ⟨pb,0,af⟩):=GX hp<|aS at2.pa.blk;have G5:=(Ah.mono fun v hv=>OI g Ll hv).put p4<|.inr SN;have z4:a4.tmps.size=34:=p4.sz.trans z3;have id2:∀k,s1 k->s1 k\/w2.heap.size<=k:=fun _=>.inl;refine G6 Xu.1 Xu.2.1 Xu.2.2.1 (by decide) (.inr Xu.2.2.2) (p4.at_ (by rw[z3];decide)) fun a5 e5 p5=>?_;have Dz:=G5.put p5<|.inr SN;have z5:a5.tmps.size=34:=p5.sz.trans z4;have g15:a5.tmps.getD 1 ag=.slice ao l.length cap:=(p5.ne 1<|by decide).trans ((p4.ne 1<|by decide).trans<|(p3.ne 1<|by decide).trans g1);have g55:a5.tmps.getD 5 ag=.pointer (ae ⟨pb,0,af⟩):=p5.at_ (by rw[z4];decide);have df5:a5.defers=[]:=p5.df.trans<|p4.df.trans p3.df;refine xU fun d4=>?_;refine lU fun d5=>?_;rw[gW,gW];refine Sr (D:=nT) (w:=w2.at d5) (K:=fun x w'=>(x.size=34/\x.getD 1 ag=ag/\x.getD 5 ag=.pointer (ae ⟨pb,0,af⟩))/\w'.heap=w2.heap) (fun _ _ _ _ h=>h) func15 SH.2.1 SG.2.1 Dz df5 (fun t d=>aCs (awo (EM.trans z5) (OQ rfl (by rw[z5];decide))<|(BJ rfl).trans g55) fun e x w' hq=>⟨hq.1,hq.2.1,by rw[hq.2.2];rfl⟩) fun x6 w3 RU hK DC=>?_;obtain⟨⟨z6,g16,XB⟩,hh3⟩:=hK;replace g16:=(OQ (D:=nT) (f:=fun j=>a5.tmps.getD j ag) (i:=1) rfl (by rw[z6];decide)).trans g15;replace XB:=(BJ (D:=nT) (f:=fun j=>a5.tmps.getD j ag) rfl).trans XB;replace z6:=(EM (ov:=lay nT fun j=>a5.tmps.getD j ag)).trans z6;generalize ai.jr (lay nT fun j=>a5.tmps.getD j ag) x6=a6 at z6 g16 XB DC⊢
 refine lU fun d6=>?_;refine lU fun d7=>?_;refine xR fun d8=>?_;rw[OV.2.2.2.2,gW,gW];refine Jk (v:=.int .i64 0) OV.1 OV.2.1 OV.2.2.1 (by decide) (fun d=>ai8 OV.2.2.2.1) (fun d e he=>by rw[awh OV.2.2.2.1]at he;simp at he) fun a7 e7 p7=>?_;refine xU fun d9=>?_;refine kF (fun _=>aCm) fun d10=>?_;refine kF (fun _=>aC3) fun d11=>?_;rw[gW,gW,gW,gW];have XC:Fr (fun k=>w1.heap.size+1<=k) w1 w3:=(kJ.Lu (d:=d5)).aci RU hh3;refine awr (B:=w1.heap.size+1) (pb:=pb) (xb:=xb) (w0:=w1) kz hlen (by omega) ?_ l.length 0 n s1 a7 _ s (by omega) ⟨⟨p7.sz.trans z6,(p7.ne 1<|by decide).trans g16,(p7.ne 5<|by decide).trans XB,p7.at_ (by rw[z6];decide)⟩,p7.df,DC.put p7<|.inr .int,at2.same hh3,by omega,hp,hB,XC.Lu⟩;intro s2 n2 a8 w4 s4 R;refine ajd (D:=nT) (w:=w4) (K:=fun x w'=>x.getD 4 ag=.pointer (ae ⟨pb,0,af⟩)/\w'.heap=w4.heap) (fun _ _ _ _ h=>h) func15 SH.2.2.1 SG.2.2.1 R.ok R.df (fun t d=>aCs (awp R.T.tidy) fun e a' w' hq=>⟨hq.1,hq.2.1,by rw[hq.2.2];rfl⟩) ?_;rintro x9 w5 todo BB ⟨tq,e5⟩ ah3;refine kF (fun w=>stepG_leave (v:=.pointer<|ae ⟨pb,0,af⟩) rfl rfl func15 (by rw[<-tq,<-BJ (D:=nT) (i:=4) rfl];exact aCT rfl _ _ _)<|by kernel_rfl) fun d9=>?_;exact ai.Reach.here fun _=>⟨_,rfl,⟨s2,w1.heap.size+1,pb,xb,n2,s4,rfl,rfl,R.at_.same e5,R.eG,R.hp,R.hB,by omega,(((f1.mono fun _ h=>h.elim).trans R.fr fun _=>.inl).aci BB e5).Lu⟩⟩
end
section
open Go.RowKit Go.Maps
def awF{w:ah}{P Q T K:Int}(hP:dQ P)(hQ:dQ Q)(hT:dQ T)(hK:dQ K):aK prog 16 #[iK P Q T K] w fun e w'=>∃p q t k:Nat,e=.returned (iK p q t k)/\Good p q t k/\Fr aH w w':=by
 have H1:Hid (∀V,aK prog 49 #[.int .i64 P,.int .i64 6] V fun e w'=>∃k:Nat,k<6/\e=.returned (.int .i64 k)/\V=w'):=fun V=>uP P hP (n:=6) (by omega) (by omega) V;have H2:Hid (∀V,aK prog 49 #[.int .i64 Q,.int .i64 4] V fun e w'=>∃k:Nat,k<4/\e=.returned (.int .i64 k)/\V=w'):=fun V=>uP Q hQ (n:=4) (by omega) (by omega) V;have H3:Hid (∀V,aK prog 49 #[.int .i64 T,.int .i64 50] V fun e w'=>∃k:Nat,k<50/\e=.returned (.int .i64 k)/\V=w'):=fun V=>uP T hT (n:=50) (by omega) (by omega) V;have H4:Hid (∀V,aK prog 49 #[.int .i64 K,.int .i64 16] V fun e w'=>∃k:Nat,k<16/\e=.returned (.int .i64 k)/\V=w'):=fun V=>uP K hK (n:=16) (by omega) (by omega) V;clear hP hQ hT hK;unfold iK;go_enter func16,ntmps16
 go_wp2_with fail
 have ZW:Hid (∃W:ah,W=(w.alloc<|.cells #[.int .i64 P,.int .i64 Q,.int .i64 T,.int .i64 K] 23).alloc (.cells #[.int .i64 0,.int .i64 0,.int .i64 0,.int .i64 0] 23)):=⟨_,rfl⟩;obtain⟨W1,eW⟩:=ZW.out;rw[<-eW];have gX:Hid (Fr aH w W1):=by subst eW;exact(aZ _).alloc _
 have BX:Hid (W1.heap[w.heap.size]? =ae (.cells #[.int .i64 P,.int .i64 Q,.int .i64 T,.int .i64 K] 23 (0,0))):=by subst eW;exact((aZ _).block _ (by simp) id).trans<|aB0 _ _
 have BY:Hid (W1.heap[w.heap.size+1]? =ae (.cells #[.int .i64 0,.int .i64 0,.int .i64 0,.int .i64 0] 23 (0,0))):=by subst eW;exact AZ _<|by simp
 clear ZW eW;have b0:W1.cell? ⟨w.heap.size,0,af⟩=ae (.int .i64 P):=aG BX.out 0;have b1:W1.cell? ⟨w.heap.size,1,af⟩=ae (.int .i64 Q):=aG BX.out 1;have b2:W1.cell? ⟨w.heap.size,2,af⟩=ae (.int .i64 T):=aG BX.out 2;have b3:W1.cell? ⟨w.heap.size,3,af⟩=ae (.int .i64 K):=aG BX.out 3;have y0:W1.cell? ⟨w.heap.size+1,0,af⟩=ae (.int .i64 0):=aG BY.out 0;have y1:W1.cell? ⟨w.heap.size+1,1,af⟩=ae (.int .i64 0):=aG BY.out 1;have y2:W1.cell? ⟨w.heap.size+1,2,af⟩=ae (.int .i64 0):=aG BY.out 2;have y3:W1.cell? ⟨w.heap.size+1,3,af⟩=ae (.int .i64 0):=aG BY.out 3;have yf:∀o,W1.frozen? ⟨w.heap.size+1,o,af⟩=false:=jP BY.out;go_region_held3 (fun w'=>w'.cell? ⟨w.heap.size,0,af⟩=ae (.int .i64 P)/\w'.cell? ⟨w.heap.size,1,af⟩=ae (.int .i64 Q)/\w'.cell? ⟨w.heap.size,2,af⟩=ae (.int .i64 T)/\w'.cell? ⟨w.heap.size,3,af⟩=ae (.int .i64 K))
  (first|exact⟨b0,b1,b2,b3⟩|go_keep)
  ((go_at_call 49;(first|with_reducible refine(H1.out _).mono ?_|with_reducible refine(H2.out _).mono ?_|with_reducible refine(H3.out _).mono ?_|with_reducible refine(H4.out _).mono ?_);rintro e w2 ⟨i,hi,rfl,rfl⟩))
 rename_i i1 h1 i2 h2 i3 h3 _;have e1:IntKind.i64.wrap (1+(i1:Int))=1+i1:=wrap_i64 (by omega) (by omega);have e2:IntKind.i64.wrap (1+(i2:Int))=1+i2:=wrap_i64 (by omega) (by omega);have e3:IntKind.i64.wrap (1+(i3:Int))=1+i3:=wrap_i64 (by omega) (by omega);have e4:IntKind.i64.wrap (1+(i:Int))=1+i:=wrap_i64 (by omega) (by omega);rw[e1,e2,e3,e4];clear e1 e2 e3 e4 b0 b1 b2 b3;have hg:((((W1.setCell ⟨w.heap.size+1,0,af⟩<|.int .i64<|1+(i1:Int)).setCell ⟨w.heap.size+1,1,af⟩<|.int .i64<|1+(i2:Int)).setCell ⟨w.heap.size+1,2,af⟩<|.int .i64<|1+(i3:Int)).setCell ⟨w.heap.size+1,3,af⟩<|.int .i64<|1+(i:Int)).drew.heap[w.heap.size+1]? =ae (.cells #[.int .i64<|1+(i1:Int),.int .i64<|1+(i2:Int),.int .i64<|1+(i3:Int),.int .i64<|1+(i:Int)] 23 (0,0)):=jQ (jQ (jQ (jQ BY.out _ _) _ _) _ _) _ _;go_wp2
 (try simp only[Exit.inBlock,Exit.then])
 refine aCk (results_cell_row rfl _ _ (w.heap.size+1) 23 _ (0,0) _ rfl hg underlying23 rfl<|by kernel_rfl) rfl ?_;refine⟨1+i1,1+i2,1+i3,1+i,by simp,?_,?_⟩
 ·exact⟨by omega,by omega,by omega,by omega⟩
 ·have f:Fr (fun k=>k=w.heap.size+1) W1 ((((W1.setCell ⟨w.heap.size+1,0,af⟩<|.int .i64<|1+(i1:Int)).setCell ⟨w.heap.size+1,1,af⟩<|.int .i64<|1+(i2:Int)).setCell ⟨w.heap.size+1,2,af⟩<|.int .i64<|1+(i3:Int)).setCell ⟨w.heap.size+1,3,af⟩<|.int .i64<|1+(i:Int)).drew:=
   (((((Fr.refl (fun k=>k=w.heap.size+1) W1).setCell (p:=⟨w.heap.size+1,0,af⟩) (.inl rfl) _).setCell (p:=⟨w.heap.size+1,1,af⟩) (.inl rfl) _).setCell (p:=⟨w.heap.size+1,2,af⟩) (.inl rfl) _).setCell (p:=⟨w.heap.size+1,3,af⟩) (.inl rfl) _).drew
  exact gX.out.trans f fun k e=>.inr<|by omega
end
end Go.Proofs.YtkelpcjiediamaaGreat
