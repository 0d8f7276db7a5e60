import Derived.Test.YtkelpcjiediamaaGreatQb35
set_option maxRecDepth 100000
set_option maxHeartbeats 0
set_option linter.all false
namespace Go.Proofs.YtkelpcjiediamaaGreat
def aCF:=@Go.events_indexAt_slice
def aDf:=@Go.events_store_chan
open Go renaming Frame→aV,Goroutine→aX,Program→dO,TypeId→bW,Value→aj,World→ah,execOp→dJ,maxLen→dH,stepG→aW,undef→ag
open Option renaming none→af,some→ae
open Go.Proofs.Tryz
section
namespace Twin
open Go Go.Proofs Go.Conc Go.RowKit Go.Maps eX
variable{E:cO}{S:aC}{w:ah}
def arn{p:Pl}{N:Nat}{Fin:List aj->aC->aX->ah->Prop}{ms:List Ms}(hN:p.Fits N)(hl:ms.length<=N)(sU:∀m∈ms,(Lit.int .i64 m.p).wf=true)(h:p.At E [] (.slice af 0 0) S w):
 zZ prog false E (Ew prog E p.c p.ov Fin (ms.map jS) []) Fin 114 #[.pointer<|ae ⟨p.pb,p.po,af⟩,.chan<|ae p.c,.chan<|ae p.ov] S w (fun l v S' w'=>∃lm:List Ms,l=lm.map jS/\p.At E lm v S' w'/\jL S E w S' w'):=by
 intro b₀ a₀ ops i rest k cs fn c hf hb hn;obtain rfl:fn=Tryz.f114:=by rw[func114]at hf;exact(qE hf).symm
 obtain rfl:c=(Tryz.f114.body.getD .skip):=by rw[hb];rfl
 have E8:=aq8 (Fin:=Fin) (b₀:=b₀) (a₀:=a₀) (ops:=ops) (i:=i) (rest:=rest) (k:=k) (cs:=cs) (S0:=S) (w0:=w) hN (fun l v S' w' h1 h2=>hn (l.map jS) v S' w' ⟨l,rfl,h1,h2⟩) ms [] ag ag ag ag ag ag ag ag ag ag ag ag ag ag (.slice af 0 0) S w (by simpa using hl) sU h jL.refl;simp only[zL]at E8;generalize Ew prog E p.c p.ov Fin (ms.map jS) []=St at E8⊢
 simp only[KL]at E8;simp only[Tryz.f114,gQ,fB,vP]at E8⊢
 walk_nrm;refine au.sq ?_;refine au.reg [0] rfl ?_;refine au.mu rfl rfl ?_;walk_nrm;refine au.fA ?_;refine au.sq ?_;refine au.reg [0] rfl ?_;refine au.mu rfl rfl ?_;walk_nrm;refine au.fA ?_;refine au.ctl rfl (fun _=>aCm) ?_;refine au.ctl rfl (fun _=>aC3) ?_;exact E8
def zZ.of{L:Type}{P:dO}{main:Bool}{Stop:aC->aX->ah->Prop}{Fin:L->aC->aX->ah->Prop}{f:FuncId}{vs vs':Array aj}{mi:L->aj->aC->ah->Prop}(h:zZ P main E Stop Fin f vs' S w mi)(e:vs=vs'):zZ P main E Stop Fin f vs S w mi:=e▸h
structure Wx where
 p:Pl
 i:Nat
 Wg:Nat
 hv:Nat
 hb:Nat
 nb:Nat
 cb:Nat
 ob:Nat
 sv:Nat
 C:Nat
 np:Nat
 pc:Nat
structure Wx.xO(x:Wx)(w:ah):Prop where
 sv:w.cell? ⟨x.sv,0,af⟩=ae (.slice (ae ⟨x.C,0,af⟩) x.np x.np)
 n:w.cell? ⟨x.nb,0,af⟩=ae (.int .i64 x.i)
 h:w.cell? ⟨x.hv,0,af⟩=ae (.pointer<|ae ⟨x.hb,0,af⟩)
 ps:w.cell? ⟨x.hb,68,af⟩=ae (.slice (ae ⟨x.p.pb,0,af⟩) x.np x.pc)
 c:w.cell? ⟨x.cb,0,af⟩=ae (.chan<|ae x.p.c)
 o:w.cell? ⟨x.ob,0,af⟩=ae (.chan<|ae x.p.ov)
structure Wx.Fit(x:Wx)(E:cO):Prop where
 sv:E.rd x.sv
 nb:E.rd x.nb
 hv:E.rd x.hv
 hb:E.rd x.hb
 cb:E.rd x.cb
 ob:E.rd x.ob
 lt:x.i<x.np
 po:x.p.po=x.i*2
 np:x.np<2147483648
variable{x:Wx}{w1:ah}
def Wx.xO.aP(h:x.xO w)(hF:x.Fit E)(hk:aQ S E w w1):x.xO w1:=
 ⟨mJ h.sv hF.sv hk,mJ h.n hF.nb hk,mJ h.h hF.hv hk,mJ h.ps hF.hb hk,mJ h.c hF.cb hk,mJ h.o hF.ob hk⟩
def Wx.xO.behind{S':aC}(h:x.xO w)(hF:x.Fit E)(hS:∀b,E.rd b->¬S b)(hk:jL S E w S' w1):x.xO w1:=
 ⟨Dh h.sv hF.sv (hS _ hF.sv) hk,Dh h.n hF.nb (hS _ hF.nb) hk,Dh h.h hF.hv (hS _ hF.hv) hk,Dh h.ps hF.hb (hS _ hF.hb) hk,Dh h.c hF.cb (hS _ hF.cb) hk,Dh h.o hF.ob (hS _ hF.ob) hk⟩
noncomputable def Gz:Frame:={(default:aV)with fn:=prog.funcs.size,defers:=[],mode:=.panicking [goexitEntry]}
noncomputable def N9:Code:=Tryz.f112.body.getD .skip
noncomputable def Wl:Array Oper:=match fB N9 with| .region _ o _=>o|_=>#[]
def Wx.ahm(x:Wx):Array Value:=#[.pointer<|ae ⟨x.Wg,0,af⟩,.pointer<|ae ⟨x.hv,0,af⟩,.pointer<|ae ⟨x.nb,0,af⟩,.pointer<|ae ⟨x.cb,0,af⟩,.pointer<|ae ⟨x.ob,0,af⟩,.pointer<|ae ⟨x.sv,0,af⟩]
def Wx.dc(x:Wx):Deferred:={target:=.fn (.func 112) x.ahm,args:=#[]}
noncomputable def Wx.start(x:Wx):Goroutine:=G ((baseD 112).at ⟨#[.pointer<|ae ⟨x.Wg,0,af⟩,.pointer<|ae ⟨x.hv,0,af⟩,.pointer<|ae ⟨x.nb,0,af⟩,.pointer<|ae ⟨x.cb,0,af⟩,.pointer<|ae ⟨x.ob,0,af⟩,.pointer<|ae ⟨x.sv,0,af⟩,ag,ag,ag,ag,ag,ag,ag,ag,ag,ag,ag,ag],[]⟩ [.code N9]) [Gz]
noncomputable def Wx.act(x:Wx)(v:aj):Act:=⟨#[.pointer<|ae ⟨x.Wg,0,af⟩,.pointer<|ae ⟨x.hv,0,af⟩,.pointer<|ae ⟨x.nb,0,af⟩,.pointer<|ae ⟨x.cb,0,af⟩,.pointer<|ae ⟨x.ob,0,af⟩,.pointer<|ae ⟨x.sv,0,af⟩,.slice (ae ⟨x.C,0,af⟩) x.np x.np,.int .i64 x.i,.pointer<|ae ⟨x.hb,0,af⟩,.pointer<|ae ⟨x.hb,0,af⟩,.pointer<|ae ⟨x.hb,68,af⟩,.slice (ae ⟨x.p.pb,0,af⟩) x.np x.pc,.int .i64 x.i,.pointer<|ae ⟨x.p.pb,x.p.po,af⟩,.chan<|ae x.p.c,.chan<|ae x.p.ov,v,.pointer<|ae ⟨x.C,x.i,af⟩],[dcall 113 #[.pointer<|ae ⟨x.Wg,0,af⟩]]⟩
noncomputable def Wx.store(x:Wx)(v:aj):Goroutine:=G ((baseD 112).at (x.act v) [.inRegion Wl [12]]) [Gz]
def Wx.Fin(x:Wx)(E:cO)(l:List aj)(S:aC)(g:aX)(w:ah):Prop:=∃(lm:List Ms) (v:aj),l=lm.map jS/\g=x.store v/\x.p.At E lm v S w/\x.xO w
def aro(x:Wx)(w:ah):aW prog false (born prog x.dc) w=.go x.start w #[]:=by
 simp[born,Wx.dc,Wx.ahm,aW,unwind,callDeferred,invoke,callFunc,func112,Tryz.f112,seen,GStep.after,G,Frame.enter,Frame.at,baseD,Gz,N9,Wx.start]
def arp{N:Nat}{ms:List Ms}(hF:x.Fit E)(hN:x.p.Fits N)(hl:ms.length<=N)(sU:∀m∈ms,(Lit.int .i64 m.p).wf=true)(hS:∀b,E.rd b->¬S b)(hA:x.p.At E [] (.slice af 0 0) S w)(hC:x.xO w):
 au prog false E (Ew prog E x.p.c x.p.ov (x.Fin E) (ms.map jS) []) S (born prog x.dc) w:=by
 refine au.ctl rfl (fun _=>aro x _) ?_;have yB:∀(lm:List Ms) (v:aj) (S':aC) (w':ah),x.p.At E lm v S' w'->x.xO w'->au prog false E (x.Fin E<|lm.map jS) S' (x.store v) w':=fun lm v S' w' h1 h2=>au.stop fun w1 hk=>⟨lm,v,rfl,rfl,h1.aP hk,h2.aP hF hk⟩;have Pn:=fun(S:aC) (w:ah) (h:x.p.At E [] (.slice af 0 0) S w)=>arn (Fin:=x.Fin E) hN hl sU h;generalize Ew prog E x.p.c x.p.ov (x.Fin E) (ms.map jS) []=St at Pn⊢
 simp only[Wx.store,Wl,N9,Tryz.f112,gQ,fB]at yB;simp only[Wx.start,N9,Tryz.f112,gQ];refine au.sq ?_;refine au.reg [0] rfl ?_;refine au.ctl rfl (fun _=>stepG_defer rfl rfl (by decide) rfl) ?_;walk_nrm;refine au.fA ?_;refine au.aq2 (L:=List aj) (c0:=10) (Fin:=x.Fin E) (I:=fun _ w=>x.xO w) (Q:=fun _ _ _ _=>False) (X:=fun l z a S w=>z=12/\∃(lm:List Ms) (v:aj),l=lm.map jS/\a=x.act v/\x.p.At E lm v S w/\x.xO w) rfl (by decide) (by kernel_rfl) (fun _ _ _ _ h=>h.elim) ?_ ?_
 ·rintro l z a S' w' ⟨rfl,lm,v,rfl,rfl,h1,h2⟩;exact yB lm v S' w' h1 h2
 intro w1 aI;have hI:∀(S':aC) (x1 y1:ah),x.xO x1->aQ S' E x1 y1->x.xO y1:=fun _ _ _ h1 h2=>h1.aP hF h2;have hQ:∀(_:List aj) (_:Act) (S':aC) (x1 y1:ah),False->aQ S' E x1 y1->False:=fun _ _ _ _ _ h _=>h;have hX:∀(l:List aj) (z:Nat) (a:Act) (S':aC) (x1 y1:ah),(z=12/\∃(lm:List Ms) (v:aj),l=lm.map jS/\a=x.act v/\x.p.At E lm v S' x1/\x.xO x1)->aQ S' E x1 y1->(z=12/\∃(lm:List Ms) (v:aj),l=lm.map jS/\a=x.act v/\x.p.At E lm v S' y1/\x.xO y1):=by
  rintro l z a S' x1 y1 ⟨h1,lm,v,h2,h3,h4,h5⟩ hk;exact⟨h1,lm,v,h2,h3,h4.aP hk,h5.aP hF hk⟩
 have Cf:=hA.aP<|aI.trans<|aQ.at S E w1<|w1.drawn+1;have zG:=hC.aP hF<|aI.trans<|aQ.at S E w1<|w1.drawn+1;change wU _ _ _ _ _ _ _ _ _ _ _ _ _ _ _ _ (w1.at<|w1.drawn+1);generalize w1.at (w1.drawn+1)=w2 at Cf zG⊢
 clear hA hC aI;simp only[Fv,ny,vC,Nat.reduceAdd,Cm];refine Eu hI hQ hX (i:=0) rfl (by decide) (by kernel_rfl) (by kernel_rfl) (by kernel_rfl) (by kernel_rfl) (v:=.slice (ae ⟨x.C,0,af⟩) x.np x.np) ⟨rfl,fun S' w' hi=>⟨?_,fun e he=>?_⟩⟩ zG ?_
 ·have g0:=hi.sv;go_simp
 ·have g0:=hi.sv;have hm:=aB6 he;simp[go_sem,g0]at hm;subst hm;exact .inr ⟨hF.sv,rfl⟩
 walk_nrm;refine Eu hI hQ hX (i:=1) rfl (by decide) (by kernel_rfl) (by kernel_rfl) (by kernel_rfl) (by kernel_rfl) (v:=.int .i64 x.i) ⟨rfl,fun S' w' hi=>⟨?_,fun e he=>?_⟩⟩ zG ?_
 ·have g0:=hi.n;go_simp
 ·have g0:=hi.n;have hm:=aB6 he;simp[go_sem,g0]at hm;subst hm;exact .inr ⟨hF.nb,rfl⟩
 walk_nrm;refine Eu hI hQ hX (i:=2) rfl (by decide) (by kernel_rfl) (by kernel_rfl) (by kernel_rfl) (by kernel_rfl) (v:=.pointer<|ae ⟨x.hb,0,af⟩) ⟨rfl,fun S' w' hi=>⟨?_,fun e he=>?_⟩⟩ zG ?_
 ·have g0:=hi.h;go_simp
 ·have g0:=hi.h;have hm:=aB6 he;simp[go_sem,g0]at hm;subst hm;exact .inr ⟨hF.hv,rfl⟩
 walk_nrm;refine Eu hI hQ hX (i:=3) rfl (by decide) (by kernel_rfl) (by kernel_rfl) (by kernel_rfl) (by kernel_rfl) (v:=_) ⟨rfl,fun S' w' hi=>⟨by go_simp<;>rfl,fun e he=>?_⟩⟩ zG ?_
 ·have hm:=aB6 he;simp[go_sem]at hm
 walk_nrm;refine Eu hI hQ hX (i:=4) rfl (by decide) (by kernel_rfl) (by kernel_rfl) (by kernel_rfl) (by kernel_rfl) (v:=.pointer<|ae ⟨x.hb,68,af⟩) ⟨rfl,fun S' w' hi=>⟨by go_simp<;>rfl,fun e he=>?_⟩⟩ zG ?_
 ·have hm:=aB6 he;simp[go_sem]at hm
 walk_nrm;refine Eu hI hQ hX (i:=5) rfl (by decide) (by kernel_rfl) (by kernel_rfl) (by kernel_rfl) (by kernel_rfl) (v:=.slice (ae ⟨x.p.pb,0,af⟩) x.np x.pc) ⟨rfl,fun S' w' hi=>⟨?_,fun e he=>?_⟩⟩ zG ?_
 ·have g0:=hi.ps;go_simp
 ·have g0:=hi.ps;have hm:=aB6 he;simp[go_sem,g0]at hm;subst hm;exact .inr ⟨hF.hb,rfl⟩
 walk_nrm;refine Eu hI hQ hX (i:=6) rfl (by decide) (by kernel_rfl) (by kernel_rfl) (by kernel_rfl) (by kernel_rfl) (v:=.int .i64 x.i) ⟨rfl,fun S' w' hi=>⟨?_,fun e he=>?_⟩⟩ zG ?_
 ·have g0:=hi.n;go_simp
 ·have g0:=hi.n;have hm:=aB6 he;simp[go_sem,g0]at hm;subst hm;exact .inr ⟨hF.nb,rfl⟩
 walk_nrm;have aB:=hF.lt;have MJ:=hF.po;refine Eu hI hQ hX (i:=7) rfl (by decide) (by kernel_rfl) (by kernel_rfl) (by kernel_rfl) (by kernel_rfl) (v:=.pointer<|ae ⟨x.p.pb,x.p.po,af⟩) ⟨rfl,fun S' w' hi=>⟨?_,fun e he=>?_⟩⟩ zG ?_
 ·rw[MJ];go_simp
 ·have hm:=aB6 he;simp[go_sem]at hm;rw[aCF _ _ _ _ _ _ (by kernel_rfl) ⟨by omega,by omega⟩]at hm;simp at hm
 walk_nrm;refine Eu hI hQ hX (i:=8) rfl (by decide) (by kernel_rfl) (by kernel_rfl) (by kernel_rfl) (by kernel_rfl) (v:=.chan<|ae x.p.c) ⟨rfl,fun S' w' hi=>⟨?_,fun e he=>?_⟩⟩ zG ?_
 ·have g0:=hi.c;go_simp
 ·have g0:=hi.c;have hm:=aB6 he;simp[go_sem,g0]at hm;subst hm;exact .inr ⟨hF.cb,rfl⟩
 walk_nrm;refine Eu hI hQ hX (i:=9) rfl (by decide) (by kernel_rfl) (by kernel_rfl) (by kernel_rfl) (by kernel_rfl) (v:=.chan<|ae x.p.ov) ⟨rfl,fun S' w' hi=>⟨?_,fun e he=>?_⟩⟩ zG ?_
 ·have g0:=hi.o;go_simp
 ·have g0:=hi.o;have hm:=aB6 he;simp[go_sem,g0]at hm;subst hm;exact .inr ⟨hF.ob,rfl⟩
 walk_nrm;refine aq1 (by kernel_rfl) ⟨_,114,_,_,Tryz.f114,(Tryz.f114.body.getD .skip),rfl,rfl,rfl,func114,rfl,rfl,?_⟩;refine zZ.mono (zZ.of (Pn S w2 Cf)<|by walk_nrm) ?_;rintro l v S' w' ⟨lm,rfl,TW,hB3⟩;have hC3:=zG.behind hF hS hB3;refine⟨hC3,?_⟩;walk_nrm;refine oZ hI (hQ<|lm.map jS) (hX<|lm.map jS) (i:=11) rfl (by kernel_rfl) (by kernel_rfl) (by kernel_rfl) (by kernel_rfl) (v:=.pointer<|ae ⟨x.C,x.i,af⟩) ⟨rfl,fun S' w' hi=>⟨?_,fun e he=>?_⟩⟩ hC3 ?_
 ·go_simp
 ·have hm:=aB6 he;simp[go_sem]at hm;rw[aCF _ _ _ _ _ _ (by kernel_rfl) ⟨by omega,by omega⟩]at hm;simp at hm
 walk_nrm;exact ag4 (by kernel_rfl) (by kernel_rfl) ⟨rfl,lm,v,rfl,rfl,TW,hC3⟩
end Twin
end
section
namespace Twin
open Go Go.Proofs Go.Conc Go.RowKit Go.Maps eX
open Go.Conc.Lib Go.ConcR.Gen Go.ConcN.Gen
open Go.ConcN (WgLive PayAt Has RW)
open Go.ConcR (DC0 Payload)
def arq(T:Array aj):QuitsD prog 2 0 (G {(baseD 112).at ⟨T,[]⟩ []with mode:=.returning} [Gz]):=by
 refine QuitsD.ctl (g':=G Gz []) rfl (fun w=>?_) ?_
 ·simp[G,aW,unwind,doReturn,results,Frame.at,baseD,Gz,func112,Tryz.f112,seen,GStep.after,goexitEntry]
 refine QuitsD.ctl (g':={G Gz []with status:=.finished}) rfl (fun w=>?_) ⟨rfl,rfl⟩;simp[G,aW,unwind,Gz,goexitEntry,Frame.catches];rfl
variable{x:Wx}{n m c:Nat}{a:Option Addr}{w:ah}
def ars(hi:x.i<n)(E5:PayAt x.C n w):
 aW prog false (x.store<|.slice a m c) w=.go (G ((baseD 112).at (x.act<|.slice a m c) [.inRegion Wl []]) [Gz]) (w.setCell ⟨x.C,x.i,af⟩<|.slice a m c) #[⟨.cell ⟨x.C,x.i,af⟩,true,false⟩]:=by
 obtain⟨cs,oH,kM⟩:=E5;have q0:w.cell? ⟨x.C,x.i,af⟩=ae cs[x.i]:=by rw[aG oH,Fh<|by omega]
 have f0:w.frozen? ⟨x.C,x.i,af⟩=false:=jP oH x.i;simp only[Wx.store,Wl,N9,Tryz.f112,gQ,fB];rw[stepG_none (w':=w.setCell ⟨x.C,x.i,af⟩<|.slice a m c) rfl rfl (by decide) (by simp only[Wx.act];go_simp)];congr 1;simp[listed,Wx.act,go_sem,aCI,storedEv,q0,f0];rfl
def ahn{K:Type}{X:bn K}(hP:X.P=prog)(hW:X.Wg=x.Wg)(hC:X.C=x.C)(bM:x.Wg≠x.C)(hi:x.i<n):X.zX 177 n x.i (.slice a m c) (x.store<|.slice a m c) w:=by
 refine⟨rfl,fun bH E5=>?_⟩;rw[hW]at bH;rw[hC]at E5;rw[hP,hC,hW];refine⟨_,ars hi E5,27,?_⟩;obtain⟨cs,oH,kM⟩:=E5;have hK:WgLive 177 x.Wg (w.setCell ⟨x.C,x.i,af⟩<|.slice a m c)/\Has x.C (x.i+1-1) (.slice a m c) (w.setCell ⟨x.C,x.i,af⟩<|.slice a m c):=by
  refine⟨?_,?_⟩
  ·obtain⟨a1,a2,h1⟩:=bH;exact⟨a1,a2,h1.of_block<|aB5 w _ _ _ bM⟩
  ·show(w.setCell ⟨x.C,x.i,af⟩<|.slice a m c).cell? ⟨x.C,x.i,af⟩=ae (.slice a m c);rw[aG<|jQ oH x.i _];simp[kM,hi]
 generalize w.setCell ⟨x.C,x.i,af⟩ (.slice a m c)=w' at hK⊢
 change Goes prog false (RW 177 x.Wg x.C n 0<|x.i+1-1) DC0 (ConcN.AtR0 prog 177 x.Wg x.C n 0 (x.i+1)<|.slice a m c) 27 _ w';u_c aBZ kn_rely hK
 u_c stepG_end kn_rely hK
 u_in kn_rely hK
 rw[stepG_unwind_enter rfl QW.f_done (nm_done link) rfl];simp only[goes_go];refine⟨by u_nil,?_⟩;walk_nrmf doneFn
 exact(aqI (L:=link) (n:=n) (Low:=0) QW rfl (arq _) _ hK).more
end Twin
end
section
namespace Twin
open Go Go.Proofs Go.Conc Go.RowKit Go.Maps eX
open Go.ConcR (WgAt KK)
def iD:Code->Code
 | .seq a _=>a
 |c=>c
noncomputable def pW:Code:=Tryz.f54.body.getD .skip
noncomputable def vT:Code:=fB<|fB<|fB<|fB<|fB pW
noncomputable def GG:Code:=vP<|vP<|fB<|iD vT
noncomputable def xP:Code:=fB vT
noncomputable def Di:Code:=vP<|vP<|fB<|iD<|fB xP
noncomputable def Dj:Code:=fB<|fB xP
structure Kd where
 x:Wx
 ms:List Ms
def KN(R:aC)(x:Wx):cO:=⟨fun b=>R b\/b=x.nb\/b=x.cb,fun b=>R b\/b=x.nb\/b=x.cb,fun _ h=>h⟩
structure Gs where
 R:aC
 gJ:aC
 yV:aC
 xb:Nat
 hv:Nat
 mr:Nat
 C:Nat
 sv:Nat
 ov:Nat
 ob:Nat
 Wg:Nat
 pb:Nat
 pc:Nat
 B:Nat
 Ba:Nat
 n:Nat
 N:Nat
 m0:Nat
 mb:Nat
 mc:Nat
 ma:Option Addr
 pl:List PL
 ms:List Ms
 w0:ah
def Gs.np(z:Gs):Nat:=z.pl.length
def Gs.marks(z:Gs)(i:Nat):List Ms:=z.ms.filter fun m:Ms=>decide<|m.k=1/\m.q=(i:Int)
def Gs.wx(z:Gs)(i:Nat)(p:PL)(nb cb c:Nat):Wx:=
 {p:={B:=z.B,Ba:=z.Ba,c:=c,ov:=z.ov,pb:=z.pb,po:=i*2,lb:=p.lb,bm:=p.bm,n:=z.n,s:=p.s,down:=p.out},i:=i,Wg:=z.Wg,hv:=z.hv,hb:=z.xb,nb:=nb,cb:=cb,ob:=z.ob,sv:=z.sv,C:=z.C,np:=z.np,pc:=z.pc}
noncomputable def Gs.iw(z:Gs):bn Kd where
 P:=prog
 Wg:=z.Wg
 C:=z.C
 ov:=z.ov
 m0:=z.m0
 gJ:=z.gJ
 yV:=z.yV
 ch k:=k.x.p.c
 side k:=KN z.R k.x
 Gl k l S g w:=∃r,l++r=k.ms.map jS/\Ew prog (KN z.R k.x) k.x.p.c z.ov (k.x.Fin<|KN z.R k.x) r l S g w
 Fin k:=k.x.Fin<|KN z.R k.x
 wQ k:=k.ms.map jS
def Gs.fit(z:Gs):z.iw.Fit:=fun _ _ _ _ _ h=>aq3 (X:=z.iw) (fun _ _ _ _=>Iff.rfl) rfl h
def Gs.E(z:Gs):cO:=⟨fun b=>z.R b\/b=z.Wg,z.R,fun _ h=>.inl h⟩
def Gs.Good(z:Gs)(ks:List Kd):Prop:=∀(i:Nat) (k:Kd),ks[i]? =ae k->∃p nb cb c,z.pl[i]? =ae p/\k=⟨z.wx i p nb cb c,z.marks i⟩
structure Gs.Aa(z:Gs)(w:ah):Prop where
 sv:w.cell? ⟨z.sv,0,af⟩=ae (.slice (ae ⟨z.C,0,af⟩) z.np z.np)
 hv:w.cell? ⟨z.hv,0,af⟩=ae (.pointer<|ae ⟨z.xb,0,af⟩)
 ps:w.cell? ⟨z.xb,68,af⟩=ae (.slice (ae ⟨z.pb,0,af⟩) z.np z.pc)
 ob:w.cell? ⟨z.ob,0,af⟩=ae (.chan<|ae z.ov)
 c0:∀(i:Nat) (p:PL),z.pl[i]? =ae p->w.cell? ⟨z.pb,i*2,af⟩=ae (ptr p.lb)
 c1:∀(i:Nat) (p:PL),z.pl[i]? =ae p->w.cell? ⟨z.pb,i*2+1,af⟩=ae (.bool p.out)
 ms:∀(i:Nat) (m:Ms),z.ms[i]? =ae m->∀(j:Nat) (v:aj),m.cs[j]? =ae v->w.cell? ⟨z.mb,i*5+j,af⟩=ae v
 fr:∀b,z.R b->w.heap[b]? =z.w0.heap[b]?
 tape:w.tape=z.w0.tape
 os:w.os=z.w0.os
 output:w.output=z.w0.output
structure Gs.Ok(z:Gs):Prop where
 Oa:z.R z.sv
 Ob:z.R z.hv
 Oc:z.R z.xb
 Oe:z.R z.ob
 Ez:z.R z.pb
 Rk:z.ms≠[]->z.R z.mb/\z.ma=ae ⟨z.mb,0,af⟩
 Bz:¬z.R z.Wg
 nC:¬z.R z.C
 uk:¬z.R z.ov
 Wp:z.Wg≠z.C
 np:z.np<2147483648
 len:z.ms.length<=z.N
 small:z.N<2147483648
 fits:z.n+z.N<=dH
 es:∀p∈z.pl,(p.s.es.length+z.N)*40<=140737488355328
 wf:∀m∈z.ms,(Lit.int .i64 m.p).wf=true
 apart:iC z.pl
 q:∀m∈z.ms,m.k=1->∃i:Nat,m.q=i/\i<z.np
variable{z:Gs}{S:aC}{E:cO}{w w1:ah}
def Gs.Aa.aP(h:z.Aa w)(hO:z.Ok)(hE:∀b,z.R b->E.ro b)(hk:aQ S E w w1):z.Aa w1:=
 have key:∀{a:Addr} {v:aj},w.cell? a=ae v->z.R a.block->w1.cell? a=ae v:=fun hc hr=>(aB4<|hk.ro _<|hE _ hr).trans hc
 ⟨key h.sv hO.Oa,key h.hv hO.Ob,key h.ps hO.Oc,key h.ob hO.Oe,fun i p hp=>key (h.c0 i p hp) hO.Ez,fun i p hp=>key (h.c1 i p hp) hO.Ez,
  fun i m hm j v hv=>key (h.ms i m hm j v hv) (hO.Rk fun e=>by rw[e]at hm;simp at hm).1,fun b hb=>(hk.ro b<|hE b hb).trans<|h.fr b hb,hk.tape.trans h.tape,hk.os.trans h.os,hk.output.trans h.output⟩
def Gs.Aa.mG{es:Array Event}(h:z.Aa w)(hO:z.Ok)(hS:∀b,z.R b->¬S b)(aB:∀b,z.R b->b<w.heap.size)(hG:iO S E w w1 es):z.Aa w1:=
 have key:∀{a:Addr} {v:aj},w.cell? a=ae v->z.R a.block->w1.cell? a=ae v:=fun hc hr=>(aB4<|hG.still _ (mX hc)<|hS _ hr).trans hc
 ⟨key h.sv hO.Oa,key h.hv hO.Ob,key h.ps hO.Oc,key h.ob hO.Oe,fun i p hp=>key (h.c0 i p hp) hO.Ez,fun i p hp=>key (h.c1 i p hp) hO.Ez,
  fun i m hm j v hv=>key (h.ms i m hm j v hv) (hO.Rk fun e=>by rw[e]at hm;simp at hm).1,fun b hb=>(hG.still b (aB b hb)<|hS b hb).trans<|h.fr b hb,hG.tape.trans h.tape,hG.os.trans h.os,hG.output.trans h.output⟩
def IY(o:Obj)(ho:∀B:ai.bP,ai.lN B o):iO S E w (w.alloc o) #[]:=⟨rfl,rfl,rfl,by simp,fun b hb _=>aB3 w o b hb,by simp,fun s _ _ h=>h.push<|ho<|ai.uh s⟩
def GH{ty:bW}{Wg:Nat}{st sm:Int}(h:WgAt ty Wg w st sm):Wg<w.heap.size:=(iU.1 h).1
def ahq(B:ai.bP):ai.lN B (.cells #[.chan af] 178):=fun v hv=>by
 simp at hv;subst hv;exact .chan fun x hx=>by cases hx
def EC:Nat->Nat->List qw
 |_,0=>[]
 |j,r+1=>libs j++ .go::EC (j+1) r
def arz(v:Nat)(ts:List qw)(i:Nat):msgs (libs v++ts) i=msgs ts i:=by unfold libs;split<;>rfl
def abh(ts:List qw)(i:Nat):∀(r j:Nat),msgs (EC j r++ts) i=msgs ts i
 |0,_=>rfl
 |r+1,j=>by
  rw[EC,Cj,arz];exact abh ts i r<|j+1
def um:List Ms->List qw
 |[]=>[]
 |m::l=>if m.k=1 then .send m.q.toNat (jS m)::um l else um l
def abj(i:Nat):∀(l:List Ms),(∀m∈l,m.k=1->∃j:Nat,m.q=j)->msgs (um l) i=(l.filter fun m:Ms=>decide<|m.k=1/\m.q=(i:Int)).map jS
 |[],_=>rfl
 |m::l,h=>by
  have ih:=abj i l fun x hx=>h x<|Uw _ hx;unfold um;by_cases hk:m.k=1
  ·obtain⟨j,hj⟩:=h m (by simp) hk;rw[if_pos hk];simp only[msgs,hj,MR];by_cases e:i=j
   ·subst e;rw[if_pos rfl,ih,adF<|by simp[hk,hj]];rfl
   ·rw[if_neg e,ih,Ur (by simp[hk,hj]<;>omega)]
  ·rw[if_neg hk,ih,Ur<|by simp[hk]]
open Go.Conc.Lib Go.ConcR.Gen Go.ConcN.Gen in
def arA(v1 v2:aj):#[v1,v2]++Array.replicate ((addFn link).ntmps- #[v1,v2].size) ag=#[v1,v2,ag,ag,ag,ag,ag,ag,ag,ag,ag,ag,ag,ag,ag,ag,ag,ag,ag,ag,ag,ag,ag,ag,ag,ag,ag,ag,ag,ag,ag,ag,ag,ag,ag,ag,ag,ag,ag,ag,ag,ag,ag,ag,ag,ag,ag,ag,ag,ag,ag,ag,ag,ag,ag,ag,ag,ag,ag,ag,ag,ag,ag,ag,ag,ag,ag,ag,ag,ag,ag,ag,ag,ag,ag,ag,ag,ag,ag,ag,ag,ag,ag,ag,ag,ag,ag,ag,ag,ag,ag,ag,ag,ag,ag,ag,ag,ag,ag,ag,ag,ag,ag,ag,ag,ag,ag,ag,ag,ag,ag,ag,ag,ag,ag,ag,ag]:=by
 kernel_rfl
open Go.Conc.Lib Go.ConcR.Gen Go.ConcN.Gen in
def arB{K:Type}{X:bn K}{End:List K->cO->aC->aX->ah->Prop}{ts:List qw}{ks:List K}{E:cO}{S:aC}{b:aV}{a:Act}{ops:Array Oper}{i:Nat}{rest:List Nat}{k:List Item}{cs:List aV}{o:Oper}{args:Array Operand}{kP:Array bW}(hP:X.P=prog)(ho:ops[i]? =ae o)(hw:Region.wanted o (yielded ops a.tmps)=true)(hk:b.kind≠.early)(aF:o.op=.call {callee:=.value<|.func 111,args,argTypes:=kP})(hv:args.map a.eval=#[.pointer<|ae ⟨X.Wg,0,af⟩,.int .i64 1])
 (hS:¬S X.Wg)(v:Nat)(aB:v<2147483647){w:ah}(hF:WgAt 177 X.Wg w ((v:Int)*KK) 0)(hE:E.ro X.Wg)
 (hT:∀w',aQ S (less E X.Wg) w w'->WgAt 177 X.Wg w' (((v:Int)+1)*KK) 0->au X.P true E (X.jH End ts ks 0 E) S (G (b.at (a.put o.dst<|.tuple #[])<|.inRegion ops rest::k) cs) w'):
 au X.P true E (X.jH End (libs v++ts) ks 0 E) S (G (b.at a<|.inRegion ops (i::rest)::k) cs) w:=by
 have H:WgLib X.P link:=hP▸QW;refine au.call ho hw hk aF H.f_add (nm_add link) rfl ?_;rw[hv,arA];have Au:∀w',aQ S (less E X.Wg) w w'->WgAt link.tWg X.Wg w' (((v:Int)+1)*KK) 0->au X.P true E (X.jH End ts ks 0 E) S (G (b.at (a.put ((ops[i]?).bind (·.dst))<|.tuple #[])<|.inRegion ops rest::k) cs) w':=by rw[ho];exact hT
 exact aqE (X:=X) (L:=link) H hS v aB (w0:=w) Au w ⟨hF,aQ.refl _ _ _,hE⟩
def arC(w:ah):(Instr.makeChan 178<|.int .i64 0).run prog w=.ok (.chan<|ae w.heap.size) (w.alloc<|.chan 0 #[] false 0 0 false):=by
 obtain⟨i,hi,_⟩:=aCf Iu;exact run_makeChan (t:=178) underlying178 hi .i64 0 (by decide)<|by simp
def arD(w:ah)(es:Array Event):(Instr.makeChan 178<|.int .i64 0).events prog w es=es:=by
 obtain⟨i,hi,_⟩:=aCf Iu;exact events_makeChan (t:=178) underlying178 hi .i64 0 (by decide) (by simp) es
variable{b:aV}{a:Act}{k:List Item}{cs:List aV}{w:ah}{ops:Array Oper}{i:Nat}{rest:List Nat}{o:Oper}{f:Fn}{c:Array aj}
def arE{P:dO}{main:Bool}{d:Deferred}(ho:ops[i]? =ae o)(hw:Region.wanted o (yielded ops a.tmps)=true)
 (hk:b.kind≠.early)(hr:(dJ a.eval o).run P w=.ok (.spawn d) w)(hd:d.target=.fn f c)(he:(dJ a.eval o).events P w #[]=#[]):
 aW P main (G (b.at a<|.inRegion ops (i::rest)::k) cs) w=.spawn (G (b.at (a.put o.dst ag)<|.inRegion ops rest::k) cs) (born P d) w #[]:=by
 rw[stepG_spawn ho hw hk hr hd];unfold listed;rw[he,seen_none]
def au.spawn{K:Type}{X:bn K}{End:List K->cO->aC->aX->ah->Prop}{ts:List qw}{ks:List K}{E:cO}{S:aC}(d:Deferred)(ho:ops[i]? =ae o)(hw:Region.wanted o (yielded ops a.tmps)=true)
 (hk:b.kind≠.early)(hr:∀w1,(dJ a.eval o).run X.P w1=.ok (.spawn d) w1)(hd:d.target=.fn f c)(he:∀w1,(dJ a.eval o).events X.P w1 #[]=#[])
 (h:∀w1,aQ S E w w1->∃κ Sk S1,au X.P false (X.side κ) (X.Gl κ []) Sk (born X.P d) w1/\(∀b,Sk b->S b)/\S (X.ch κ)/\¬Sk (X.ch κ)/\¬(X.side κ).ro (X.ch κ)/\(∀b,(X.side κ).ro b->S b\/E.rd b)/\(∀b,Sk b->¬(X.side κ).ro b)/\
   (∀b,S1 b->S b/\¬Sk b/\¬(X.side κ).ro b/\b≠X.ch κ)/\(∃s r,w1.heap[X.ch κ]? =ae (.chan 0 #[] false s r false))/\msgs ts ks.length=X.wQ κ/\
   au X.P true E (X.jH End ts (ks++[κ]) 0 E) S1 (G (b.at (a.put o.dst ag)<|.inRegion ops rest::k) cs) w1):
 au X.P true E (X.jH End (.go::ts) ks 0 E) S (G (b.at a<|.inRegion ops (i::rest)::k) cs) w:=
 au.stop fun w1 aI=>by
  obtain⟨κ,Sk,S1,h1,h2,h3,h4,h5,h6,h7,h8,h9,Yf,JG⟩:=h w1 aI;exact⟨rfl,rfl,_,_,κ,Sk,E,S1,arE ho hw hk (hr w1) hd<|he w1,h1,h2,h3,h4,h5,h6,h7,h8,fun _ hb=>.inl hb,fun _ hb=>.inl hb,h9,Yf,JG⟩
end Twin
end
section
namespace Twin
open Go Go.Proofs Go.Conc Go.RowKit Go.Maps eX
open Go.ConcR (WgAt KK)
structure Gs.nP(z:Gs)(ks:List Kd)(S:aC)(w:ah):Prop where
 jA:z.Aa w
 dG:∀(i:Nat) (p:PL),ks.length<=i->z.pl[i]? =ae p->gB S w z.B p.lb p.bm z.n p.v p.s
 row:∃cs:Array aj,dN S w z.mr cs 178/\cs.size=z.np/\∀(i:Nat) (k:Kd),ks[i]? =ae k->cs[i]? =ae (.chan<|ae k.x.p.c)
 dV:∀(i:Nat) (p:PL),ks.length<=i->z.pl[i]? =ae p->¬kK p.lb p.bm p.v z.mr
 low:∀b,S b->b<w.heap.size
 yZ:∀b,z.R b->¬S b
 base:z.Ba<=w.heap.size
 xQ:∀b,z.R b->b<w.heap.size
 Bz:¬S z.Wg
 uk:¬S z.ov/\z.ov<w.heap.size
variable{z:Gs}{ks:List Kd}{S:aC}{w:ah}
def Gs.nP.aP{E:cO}{w1:ah}(h:z.nP ks S w)(hO:z.Ok)(hE:∀b,z.R b->E.ro b)(hk:aQ S E w w1):z.nP ks S w1:=
 ⟨h.jA.aP hO hE hk,fun i p h1 h2=>(h.dG i p h1 h2).aP hk,let ⟨cs,h1,h2⟩:=h.row;⟨cs,h1.aP hk,h2⟩,h.dV,wS h.low hk,h.yZ,dP h.base hk.size,fun b hb=>dY (h.xQ b hb) hk.size,h.Bz,h.uk.1,dY h.uk.2 hk.size⟩
def Gs.nP.alloc(h:z.nP ks S w)(hO:z.Ok)(hW:z.Wg<w.heap.size)(o:Obj)(ho:∀B:ai.bP,ai.lN B o):z.nP ks (grow S w<|w.alloc o) (w.alloc o):=by
 have hG:iO S z.E w (w.alloc o) #[]:=IY o ho;refine⟨h.jA.mG hO h.yZ h.xQ hG,fun i p h1 h2=>(h.dG i p h1 h2).alloc o,let ⟨cs,h1,h2⟩:=h.row;⟨cs,h1.alloc o,h2⟩,h.dV,Gy h.low o,fun b hb hx=>hx.elim (h.yZ b hb) fun y=>by have:=h.xQ b hb;omega,by simp;have:=h.base;omega,fun b hb=>by have:=h.xQ b hb;simp<;>omega,fun hx=>hx.elim h.Bz fun y=>by omega,fun hx=>hx.elim h.uk.1 fun y=>by have:=h.uk.2;omega,by have:=h.uk.2;simp<;>omega⟩
def Gs.nP.set(h:z.nP ks S w)(hO:z.Ok){b:Nat}(hb:S b)(hm:b≠z.mr)(hl:∀(i:Nat) (p:PL),ks.length<=i->z.pl[i]? =ae p->¬kK p.lb p.bm p.v b)(v:aj)(hv:∀B:ai.bP,(∀b,B.bK b->¬S b)->ai.az B v):z.nP ks S (w.setCell ⟨b,0,af⟩ v):=by
 have hG:iO S z.E w (w.setCell ⟨b,0,af⟩ v) #[]:=Gu hb hv (by simp);have hs:∀x,x≠b->(w.setCell ⟨b,0,af⟩ v).heap[x]? =w.heap[x]? :=fun x hx=>aB5 w ⟨b,0,af⟩ v x hx;refine⟨h.jA.mG hO h.yZ h.xQ hG,fun i p h1 h2=>?_,?_,h.dV,fun x hx=>by simpa using h.low x hx,h.yZ,by simpa using h.base,fun x hx=>by simpa using h.xQ x hx,h.Bz,h.uk.1,by simpa using h.uk.2⟩
 ·have:=(h.dG i p h1 h2).QZ (w':=w.setCell ⟨b,0,af⟩ v) fun x hx=>hs x fun e=>hl i p h1 h2<|e▸hx;rwa[rD<|by simp]at this
 ·obtain⟨cs,h1,h2⟩:=h.row;exact⟨cs,⟨h1.1,by rw[hs _<|iI hm];exact h1.2⟩,h2⟩
def arF{End:List Kd->cO->aC->aX->ah->Prop}{ts:List qw}{u:Nat->aj}{cs:List aV}(hO:z.Ok)(wB:∀i,msgs ts i=(z.marks i).map jS)
 (hn:∀(ks:List Kd) (t9 t10 t33 t34 t35 t36 t37 t38 t39 t40 t41 t42:aj) (S:aC) (w:ah),ks.length=z.np->z.Good ks->z.nP ks S w->WgAt 177 z.Wg w ((z.np:Int)*KK) 0->
   au prog true z.E (z.iw.jH End ts ks 0 z.E) S (G ((base 54).at ⟨#[.pointer<|ae ⟨z.xb,0,af⟩,.slice z.ma z.ms.length z.mc,.pointer<|ae ⟨z.hv,0,af⟩,u 3,u 4,.slice (ae ⟨z.mr,0,af⟩) z.np z.np,.pointer<|ae ⟨z.sv,0,af⟩,.pointer<|ae ⟨z.ob,0,af⟩,.pointer<|ae ⟨z.Wg,0,af⟩,t9,t10,u 11,u 12,u 13,u 14,u 15,u 16,u 17,u 18,u 19,u 20,u 21,u 22,u 23,u 24,u 25,u 26,u 27,u 28,u 29,u 30,.int .i64 z.np,.int .i64 z.np,t33,t34,t35,t36,t37,t38,t39,t40,t41,t42,u 43,u 44,u 45,u 46,u 47,u 48,u 49,u 50,u 51,u 52,u 53,u 54,u 55,u 56,u 57,u 58,u 59,u 60,u 61,u 62,u 63,u 64,u 65,u 66,u 67,u 68,u 69,u 70,u 71],[]⟩ [.code xP]) cs) w):
 ∀(r:Nat) (ks:List Kd) (t9 t10 t33 t34 t35 t36 t37 t38 t39 t40 t41 t42:aj) (S:aC) (w:ah),ks.length+r=z.np->z.Good ks->z.nP ks S w->WgAt 177 z.Wg w ((ks.length:Int)*KK) 0->
  au prog true z.E (z.iw.jH End (EC ks.length r++ts) ks 0 z.E) S (G ((base 54).at ⟨#[.pointer<|ae ⟨z.xb,0,af⟩,.slice z.ma z.ms.length z.mc,.pointer<|ae ⟨z.hv,0,af⟩,u 3,u 4,.slice (ae ⟨z.mr,0,af⟩) z.np z.np,.pointer<|ae ⟨z.sv,0,af⟩,.pointer<|ae ⟨z.ob,0,af⟩,.pointer<|ae ⟨z.Wg,0,af⟩,t9,t10,u 11,u 12,u 13,u 14,u 15,u 16,u 17,u 18,u 19,u 20,u 21,u 22,u 23,u 24,u 25,u 26,u 27,u 28,u 29,u 30,.int .i64 z.np,.int .i64 ks.length,t33,t34,t35,t36,t37,t38,t39,t40,t41,t42,u 43,u 44,u 45,u 46,u 47,u 48,u 49,u 50,u 51,u 52,u 53,u 54,u 55,u 56,u 57,u 58,u 59,u 60,u 61,u 62,u 63,u 64,u 65,u 66,u 67,u 68,u 69,u 70,u 71],[]⟩ [.code GG,.inLoop GG,.inBlock 0,.code xP]) cs) w:=by
 intro r
 induction r with
 |zero=>
  intro ks t9 t10 t33 t34 t35 t36 t37 t38 t39 t40 t41 t42 S w hl hg h bH
  have C9:ks.length=z.np:=by omega
  have Hy:=hn ks t9 t10 (.bool false) t34 t35 t36 t37 t38 t39 t40 t41 t42 S w C9 hg h<|C9▸bH
  simp only[EC,wI]
  generalize z.iw.jH End ts ks 0 z.E=St at Hy⊢
  generalize Item.code xP=IR at Hy⊢
  generalize Bv:Item.inLoop GG=IL
  simp only[GG,vT,pW,Tryz.f54,gQ,fB,iD,vP]
  rw[C9]
  refine au.sq ?_
  refine au.reg [0] rfl ?_
  refine au.mute (.bool false) rfl rfl (by decide) (fun _=>by go_simp) (fun _=>by simp[go_sem]) ?_
  walk_nrm
  refine au.fA ?_
  refine au.sq ?_
  refine au.ctl rfl (fun _=>aCe (t:=false)<|by rfl) ?_
  refine au.ctl rfl (fun _=>stepG_exit (k':=[IR]) (by rw[<-Bv];rfl)) ?_
  exact Hy
 |succ r ih=>
  intro ks t9 t10 t33 t34 t35 t36 t37 t38 t39 t40 t41 t42 S w hl hg h bH
  have hj:ks.length<z.np:=by omega
  obtain⟨p,hp⟩:∃p,z.pl[ks.length]? =ae p:=⟨_,dR hj⟩
  have C9:=hO.np
  have o5:∀b,z.R b->z.E.ro b:=fun b hb=>.inl hb
  simp only[EC,Cj,mV]
  generalize Og:Item.code xP=IR
  generalize Bv:Item.inLoop GG=IL
  simp only[GG,vT,pW,Tryz.f54,gQ,fB,iD,vP]
  refine au.sq ?_
  refine au.reg [0] rfl ?_
  refine au.mute (.bool true) rfl rfl (by decide) (fun _=>by go_simp) (fun _=>by simp[go_sem]) ?_
  walk_nrm
  refine au.fA ?_
  refine au.sq ?_
  refine au.ctl rfl (fun _=>aCe (t:=true)<|by rfl) ?_
  refine au.ctl rfl (fun _=>aCg) ?_
  refine au.sq ?_
  refine au.ctl rfl (fun _=>aCm) ?_
  refine au.sq ?_
  refine au.reg [0,1,2] rfl ?_
  refine au.mu rfl rfl ?_
  walk_nrm
  refine au.jM rfl rfl (by decide) fun w1 aI=>?_
  refine⟨.pointer<|ae ⟨w1.heap.size,0,af⟩,w1.alloc<|.cells #[.int .i64 0] 3,.inl<|by go_simp,vN (by simp[go_sem])<|uj _,?_⟩
  replace h:=h.aP hO o5 aI
  replace bH:=bH.of_block<|aI.ro z.Wg<|.inr rfl
  have KO:z.Wg<w1.heap.size:=GH bH
  have Yp:∀(i:Nat) (q:PL),ks.length<=i->z.pl[i]? =ae q->∀b,kK q.lb q.bm q.v b->b<w1.heap.size:=fun i q h1 h2 b hb=>h.low b<|(h.dG i q h1 h2).sub b hb
  have Yq:z.mr<w1.heap.size:=let ⟨_,h1,_⟩:=h.row;h.low _ h1.1
  have hRn:=h.xQ
  have hY:=dN.new S w1 #[.int .i64 0] 3
  replace bH:=bH.of_block (w₁:=w1.alloc<|.cells #[.int .i64 0] 3)<|aB3 w1 _ _ KO
  replace h:=h.alloc hO KO (.cells #[.int .i64 0] 3) fun _=>QI rfl
  clear aI
  generalize grow S w1 (w1.alloc<|.cells #[.int .i64 0] 3)=S at*
  generalize w1.alloc (.cells #[.int .i64 0] 3)=w at*
  generalize w1.heap.size=nb at*
  walk_nrm
  refine au.jM rfl rfl (by decide) fun w1 aI=>?_
  replace h:=h.aP hO o5 aI
  replace bH:=bH.of_block<|aI.ro z.Wg<|.inr rfl
  replace hY:=hY.aP aI
  have q0:=hY.cell (o:=0) rfl
  have r0:=hY.free 0
  refine⟨ag,w1.setCell ⟨nb,0,af⟩<|.int .i64 ks.length,.inr ⟨rfl,by go_simp⟩,Gu hY.1 (fun _ _=>.int) fun e he=>?_,?_⟩
  ·simp[go_sem,storedEv,q0,r0]at he
   subst he
   exact .inl hY.1
  rw[rD<|by simp]
  replace h:=h.set hO hY.1 (Nat.ne_of_gt Yq) (fun i q h1 h2 hx=>PI _<|Yp i q h1 h2 _ hx) (.int .i64 ks.length) fun _ _=>.int
  replace bH:=bH.of_block (w₁:=w1.setCell ⟨nb,0,af⟩<|.int .i64 ks.length)<|aB5 w1 _ _ _<|YM KO
  replace hY:=hY.set 0<|.int .i64 ks.length
  change dN S _ nb #[.int .i64 ks.length] 3 at hY
  clear aI q0 r0
  generalize w1.setCell ⟨nb,0,af⟩ (.int .i64 ks.length)=w at*
  walk_nrm
  refine au.fA ?_
  refine au.sq ?_
  refine au.reg [0,1,2] rfl ?_
  refine au.jM rfl rfl (by decide) fun w1 aI=>?_
  replace h:=h.aP hO o5 aI
  replace bH:=bH.of_block<|aI.ro z.Wg<|.inr rfl
  replace hY:=hY.aP aI
  refine⟨.chan<|ae w1.heap.size,w1.alloc<|.chan 0 #[] false 0 0 false,.inl (by go_simp;rw[arC];rfl),vN (by simp[go_sem,arD]) (IY _ fun _ v hv=>by simp at hv),?_⟩
  have hnc:nb<w1.heap.size:=h.low nb hY.1
  have kV:grow S w1 (w1.alloc<|.chan 0 #[] false 0 0 false) w1.heap.size/\(w1.alloc<|.chan 0 #[] false 0 0 false).heap[w1.heap.size]? =ae (.chan 0 #[] false 0 0 false):=⟨.inr ⟨bV _,by simp⟩,aB0 _ _⟩
  have Oh:z.Wg<w1.heap.size:=GH bH
  replace hY:=hY.alloc<|.chan 0 #[] false 0 0 false
  replace bH:=bH.of_block (w₁:=w1.alloc<|.chan 0 #[] false 0 0 false)<|aB3 w1 _ _ Oh
  replace h:=h.alloc hO Oh (.chan 0 #[] false 0 0 false) fun _ v hv=>by simp at hv
  clear aI
  generalize grow S w1 (w1.alloc<|.chan 0 #[] false 0 0 false)=S at*
  generalize w1.alloc (.chan 0 #[] false 0 0 false)=w at*
  generalize w1.heap.size=c at*
  walk_nrm
  refine au.jM rfl rfl (by decide) fun w1 aI=>?_
  replace h:=h.aP hO o5 aI
  replace bH:=bH.of_block<|aI.ro z.Wg<|.inr rfl
  replace hY:=hY.aP aI
  replace kV:S c/\w1.heap[c]? =ae (.chan 0 #[] false 0 0 false):=⟨kV.1,by rw[aI.own c kV.1];exact kV.2⟩
  refine⟨.pointer<|ae ⟨w1.heap.size,0,af⟩,w1.alloc<|.cells #[.chan af] 178,.inl<|by go_simp,vN (by simp[go_sem])<|IY _ ahq,?_⟩
  have arH:c<w1.heap.size:=h.low c kV.1
  have hZ:=dN.new S w1 #[.chan af] 178
  have ahr:z.Wg<w1.heap.size:=GH bH
  replace hY:=hY.alloc<|.cells #[.chan af] 178
  replace kV:grow S w1 (w1.alloc<|.cells #[.chan af] 178) c/\(w1.alloc<|.cells #[.chan af] 178).heap[c]? =ae (.chan 0 #[] false 0 0 false):=⟨.inl kV.1,by rw[aB3 w1 _ _ arH];exact kV.2⟩
  replace bH:=bH.of_block (w₁:=w1.alloc<|.cells #[.chan af] 178)<|aB3 w1 _ _ ahr
  replace h:=h.alloc hO ahr (.cells #[.chan af] 178) ahq
  clear aI
  generalize grow S w1 (w1.alloc<|.cells #[.chan af] 178)=S at*
  generalize w1.alloc (.cells #[.chan af] 178)=w at*
  generalize w1.heap.size=cb at*
  walk_nrm
  refine au.jM rfl rfl (by decide) fun w1 aI=>?_
  replace h:=h.aP hO o5 aI
  replace bH:=bH.of_block<|aI.ro z.Wg<|.inr rfl
  replace hY:=hY.aP aI
  replace hZ:=hZ.aP aI
  replace kV:S c/\w1.heap[c]? =ae (.chan 0 #[] false 0 0 false):=⟨kV.1,by rw[aI.own c kV.1];exact kV.2⟩
  have q0:=hZ.cell (o:=0) rfl
  have r0:=hZ.free 0
  have ou:∀B:ai.bP,(∀b,B.bK b->¬S b)->ai.az B (.chan<|ae c):=fun B hB=>.chan fun y hy zz=>by cases hy;exact hB _ zz kV.1
  refine⟨ag,w1.setCell ⟨cb,0,af⟩<|.chan<|ae c,.inr ⟨rfl,by go_simp⟩,Gu hZ.1 ou fun e he=>?_,?_⟩
  ·simp[go_sem,aDf,storedEv,q0,r0]at he
   subst he
   exact .inl hZ.1
  rw[rD<|by simp]
  replace h:=h.set hO hZ.1 (by omega) (fun i q h1 h2 hx=>by have:=Yp i q h1 h2 _ hx;omega) (.chan<|ae c) ou
  replace bH:=bH.of_block (w₁:=w1.setCell ⟨cb,0,af⟩<|.chan<|ae c)<|aB5 w1 _ _ _ (by simp<;>omega)
  replace hY:dN S (w1.setCell ⟨cb,0,af⟩<|.chan<|ae c) nb #[.int .i64 ks.length] 3:=⟨hY.1,by rw[aB5 w1 _ _ _ (by simp<;>omega)];exact hY.2⟩
  replace kV:S c/\(w1.setCell ⟨cb,0,af⟩<|.chan<|ae c).heap[c]? =ae (.chan 0 #[] false 0 0 false):=⟨kV.1,by rw[aB5 w1 _ _ _ (by simp<;>omega)];exact kV.2⟩
  replace hZ:=hZ.set 0<|.chan<|ae c
  change dN S _ cb #[.chan<|ae c] 178 at hZ
  clear aI q0 r0 ou
  generalize w1.setCell ⟨cb,0,af⟩ (.chan<|ae c)=w at*
  walk_nrm
  refine au.fA ?_
  refine au.sq ?_
  refine au.reg [0,1,2,3,4] rfl ?_
  refine au.mu rfl rfl ?_
  walk_nrm
  refine au.val (.int .i64 ks.length) rfl rfl (by decide) (fun w1 aI=>?_) (fun w1 aI e he=>?_) ?_
  ·have q0:=(hY.aP aI).cell (o:=0) rfl
   go_simp
  ·have q0:=(hY.aP aI).cell (o:=0) rfl
   simp[go_sem,q0]at he
   subst he
   exact .inl hY.1
  walk_nrm
  refine au.val (.chan<|ae c) rfl rfl (by decide) (fun w1 aI=>?_) (fun w1 aI e he=>?_) ?_
  ·have q0:=(hZ.aP aI).cell (o:=0) rfl
   go_simp
  ·have q0:=(hZ.aP aI).cell (o:=0) rfl
   simp[go_sem,q0]at he
   subst he
   exact .inl hZ.1
  walk_nrm
  refine au.mute (.pointer<|ae ⟨z.mr,ks.length,af⟩) rfl rfl (by decide) (fun _=>by go_simp) (fun _=>by simp[go_sem];rw[aCF _ _ _ _ _ _ (by kernel_rfl) ⟨by omega,by omega⟩]) ?_
  walk_nrm
  refine au.jM rfl rfl (by decide) fun w1 aI=>?_
  replace h:=h.aP hO o5 aI
  replace bH:=bH.of_block<|aI.ro z.Wg<|.inr rfl
  replace hY:=hY.aP aI
  replace hZ:=hZ.aP aI
  replace kV:S c/\w1.heap[c]? =ae (.chan 0 #[] false 0 0 false):=⟨kV.1,by rw[aI.own c kV.1];exact kV.2⟩
  obtain⟨cells,hM,hMs,Wq⟩:=h.row
  have q0:=hM.cell (o:=ks.length)<|Fh<|by omega
  have r0:=hM.free ks.length
  have ou:∀B:ai.bP,(∀b,B.bK b->¬S b)->ai.az B (.chan<|ae c):=fun B hB=>.chan fun y hy zz=>by cases hy;exact hB _ zz kV.1
  refine⟨ag,w1.setCell ⟨z.mr,ks.length,af⟩<|.chan<|ae c,.inr ⟨rfl,by go_simp⟩,Gu hM.1 ou fun e he=>?_,?_⟩
  ·simp[go_sem,aDf,storedEv,q0,r0]at he
   subst he
   exact .inl hM.1
  rw[rD<|by simp]
  have MK:∀b,b≠z.mr->(w1.setCell ⟨z.mr,ks.length,af⟩<|.chan<|ae c).heap[b]? =w1.heap[b]? :=fun b hb=>aB5 w1 _ _ _ hb
  have hGm:iO S z.E w1 (w1.setCell ⟨z.mr,ks.length,af⟩<|.chan<|ae c) #[]:=Gu hM.1 ou<|by simp
  have wC:=hM.set ks.length<|.chan<|ae c
  have jU:=h.jA.mG hO h.yZ h.xQ hGm
  have Oi:∀(i:Nat) (q:PL),ks.length<=i->z.pl[i]? =ae q->gB S (w1.setCell ⟨z.mr,ks.length,af⟩<|.chan<|ae c) z.B q.lb q.bm z.n q.v q.s:=fun i q h1 h2=>by
   have:=(h.dG i q h1 h2).QZ (w':=w1.setCell ⟨z.mr,ks.length,af⟩<|.chan<|ae c) fun x hx=>MK x fun e=>h.dV i q h1 h2<|e▸hx;rwa[rD<|by simp]at this
  have JH:∀b,S b->b<(w1.setCell ⟨z.mr,ks.length,af⟩<|.chan<|ae c).heap.size:=fun b hb=>by simpa using h.low b hb
  have Oj:z.Ba<=(w1.setCell ⟨z.mr,ks.length,af⟩<|.chan<|ae c).heap.size:=by simpa using h.base
  have Po:∀b,z.R b->b<(w1.setCell ⟨z.mr,ks.length,af⟩<|.chan<|ae c).heap.size:=fun b hb=>by simpa using h.xQ b hb
  have aht:=h.dV
  have TY:=h.yZ
  have hnW:=h.Bz
  have arI:=h.uk.1
  have Rl:z.ov<(w1.setCell ⟨z.mr,ks.length,af⟩<|.chan<|ae c).heap.size:=by simpa using h.uk.2
  replace bH:=bH.of_block<|MK z.Wg fun e=>hnW<|e▸hM.1
  replace hY:dN S (w1.setCell ⟨z.mr,ks.length,af⟩<|.chan<|ae c) nb #[.int .i64 ks.length] 3:=⟨hY.1,by rw[MK _<|by omega];exact hY.2⟩
  replace hZ:dN S (w1.setCell ⟨z.mr,ks.length,af⟩<|.chan<|ae c) cb #[.chan<|ae c] 178:=⟨hZ.1,by rw[MK _<|by omega];exact hZ.2⟩
  replace kV:S c/\(w1.setCell ⟨z.mr,ks.length,af⟩<|.chan<|ae c).heap[c]? =ae (.chan 0 #[] false 0 0 false):=⟨kV.1,by rw[MK _<|by omega];exact kV.2⟩
  clear aI q0 r0 ou hGm h hM
  generalize w1.setCell ⟨z.mr,ks.length,af⟩ (.chan<|ae c)=w at*
  walk_nrm
  refine au.fA ?_
  refine au.sq ?_
  refine au.reg [0] rfl ?_
  refine arB (X:=z.iw) rfl rfl rfl (by decide) rfl (by walk_nrm;rfl) hnW ks.length (by omega) bH (.inr rfl) fun w' hk zB=>?_
  have arJ:∀b,z.R b->(less z.E z.Wg).ro b:=fun b hb=>⟨.inl hb,fun e=>hO.Bz<|e▸hb⟩
  replace jU:=jU.aP hO arJ hk
  replace Oi:∀(i:Nat) (q:PL),ks.length<=i->z.pl[i]? =ae q->gB S w' z.B q.lb q.bm z.n q.v q.s:=fun i q h1 h2=>(Oi i q h1 h2).aP hk
  replace wC:=wC.aP hk
  replace hY:=hY.aP hk
  replace hZ:=hZ.aP hk
  replace kV:S c/\w'.heap[c]? =ae (.chan 0 #[] false 0 0 false):=⟨kV.1,by rw[hk.own c kV.1];exact kV.2⟩
  replace JH:=wS JH hk
  replace Oj:=dP Oj hk.size
  replace Rl:=dY Rl hk.size
  replace Po:∀b,z.R b->b<w'.heap.size:=fun b hb=>dY (Po b hb) hk.size
  clear hk bH
  walk_nrm
  refine au.fA ?_
  refine au.reg [0,1] rfl ?_
  refine au.mu rfl rfl ?_
  walk_nrm
  refine au.spawn (X:=z.iw) (z.wx ks.length p nb cb c).dc rfl rfl (by decide) (fun _=>by go_simp;rfl) rfl (fun _=>by simp[go_sem]) fun w1 hk=>?_
  replace jU:=jU.aP hO o5 hk
  replace Oi:∀(i:Nat) (q:PL),ks.length<=i->z.pl[i]? =ae q->gB S w1 z.B q.lb q.bm z.n q.v q.s:=fun i q h1 h2=>(Oi i q h1 h2).aP hk
  replace wC:=wC.aP hk
  replace hY:=hY.aP hk
  replace hZ:=hZ.aP hk
  replace kV:S c/\w1.heap[c]? =ae (.chan 0 #[] false 0 0 false):=⟨kV.1,by rw[hk.own c kV.1];exact kV.2⟩
  replace JH:=wS JH hk
  replace Oj:=dP Oj hk.size
  replace Rl:=dY Rl hk.size
  replace Po:∀b,z.R b->b<w1.heap.size:=fun b hb=>dY (Po b hb) hk.size
  replace zB:=zB.of_block<|hk.ro z.Wg<|.inr rfl
  clear hk
  have hML:=Oi ks.length p (bV _) hp
  have hLb:∀b,kK p.lb p.bm p.v b->b<nb:=Yp ks.length p (bV _) hp
  have Ws:∀b,kK p.lb p.bm p.v b->S b:=hML.sub
  have tu:∀b,kK p.lb p.bm p.v b->¬(z.R b\/b=nb\/b=cb):=fun b hb hx=>by
   rcases hx with hx|hx|hx
   ·exact TY b hx<|Ws b hb
   ·have:=hLb b hb;omega
   ·have:=hLb b hb;omega
  have arK:(z.wx ks.length p nb cb c).p.log []=p.s:=by cases hx:p.out<;>simp[Pl.log,Gs.wx,hx]
  have arL:(z.wx ks.length p nb cb c).p.oz []=[]:=by simp[Pl.oz]
  refine⟨⟨z.wx ks.length p nb cb c,z.marks ks.length⟩,kK p.lb p.bm p.v,fun b=>S b/\¬kK p.lb p.bm p.v b/\¬(z.R b\/b=nb\/b=cb)/\b≠c,?_,Ws,kV.1,fun hx=>?_,fun hx=>?_,fun b hb=>?_,tu,fun b hb=>hb,⟨0,0,kV.2⟩,?_,?_⟩
  ·refine(arp (x:=z.wx ks.length p nb cb c) (E:=KN z.R<|z.wx ks.length p nb cb c) (N:=z.N) (ms:=z.marks ks.length) ⟨.inl hO.Oa,.inr<|.inl rfl,.inl hO.Ob,.inl hO.Oc,.inr<|.inr rfl,.inl hO.Oe,hj,rfl,hO.np⟩ ⟨hO.fits,hO.es p<|fD hp⟩ (dP (Fj _ _) hO.len) (fun m hm=>hO.wf m (JL.1 hm).1) (fun b hb hx=>tu b hx hb) ?_ ⟨jU.sv,hY.cell rfl,jU.hv,jU.ps,hZ.cell rfl,jU.ob⟩).mono fun S' g' w' hs=>⟨_,rfl,hs⟩
   refine⟨⟨p.v,?_,by simp[Value.ownBlock]⟩,⟨?_,by simp[Value.ownBlock]⟩,fun _=>rfl,jU.c0 ks.length p hp,jU.c1 ks.length p hp,.inl hO.Ez,fun hx=>TY _ hO.Ez<|Ws _ hx,fun b hb=>JH b<|Ws b hb,Oj,fun b hb=>?_⟩
   ·rw[arK]
    exact hML.own
   ·rw[arL]
    exact aCb _ _ _ _
   ·rcases hb with hb|hb|hb
    ·exact Po b hb
    ·rw[hb];exact JH nb hY.1
    ·rw[hb];exact JH cb hZ.1
  ·have:=hLb _ hx
   simp only[Gs.iw,Gs.wx]at this
   omega
  ·rcases hx with hx|hx|hx
   ·have:=hRn _ hx
    simp only[Gs.iw,Gs.wx]at this
    omega
   ·simp only[Gs.iw,Gs.wx]at hx;omega
   ·simp only[Gs.iw,Gs.wx]at hx;omega
  ·rcases hb with hb|hb|hb
   ·exact .inr hb
   ·rw[hb];exact .inl hY.1
   ·rw[hb];exact .inl hZ.1
  ·rw[abh]
   exact wB _
  have eF:∀b,S b->b<nb->¬kK p.lb p.bm p.v b->¬z.R b->(fun b=>S b/\¬kK p.lb p.bm p.v b/\¬(z.R b\/b=nb\/b=cb)/\b≠c) b:=fun b h1 h2 h3 h4=>⟨h1,h3,fun hx=>by
   rcases hx with hx|hx|hx
   ·exact h4 hx
   ·omega
   ·omega,by omega⟩
  have hlen:(ks++[(⟨z.wx ks.length p nb cb c,z.marks ks.length⟩:Kd)]).length=ks.length+1:=by simp
  have arM:z.nP (ks++[(⟨z.wx ks.length p nb cb c,z.marks ks.length⟩:Kd)]) (fun b=>S b/\¬kK p.lb p.bm p.v b/\¬(z.R b\/b=nb\/b=cb)/\b≠c) w1:=by
   refine⟨jU,fun i q h1 h2=>?_,⟨_,⟨eF _ wC.1 Yq (aht _ _ (bV _) hp) fun hx=>TY _ hx wC.1,wC.2⟩,by simpa using hMs,fun i k hk=>?_⟩,fun i q h1 h2=>aht i q (by omega) h2,fun b hb=>JH b hb.1,fun b hb hx=>TY b hb hx.1,Oj,Po,fun hx=>hnW hx.1,fun hx=>arI hx.1,Rl⟩
   ·have hm:=Oi i q (by omega) h2;have O9:∀b,kK q.lb q.bm q.v b->(fun b=>S b/\¬kK p.lb p.bm p.v b/\¬(z.R b\/b=nb\/b=cb)/\b≠c) b:=fun b hb=>eF b (hm.sub b hb) (Yp i q (by omega) h2 b hb) (fun hx=>hO.apart i ks.length q p (by omega) h2 hp b hb hx) fun hx=>TY b hx<|hm.sub b hb;exact hm.own.mono O9
   ·rw[adC];rcases UT hk with⟨h1,h2⟩|⟨rfl,rfl⟩
    ·rw[if_neg<|by omega];exact Wq i k h2
    ·rw[if_pos rfl,if_pos<|by omega];rfl
  have arN:z.Good (ks++[(⟨z.wx ks.length p nb cb c,z.marks ks.length⟩:Kd)]):=fun i k hk=>by
   rcases UT hk with⟨h1,h2⟩|⟨rfl,rfl⟩
   ·exact hg i k h2
   ·exact⟨p,nb,cb,c,hp,rfl⟩
  have hgo:=fun t33 t34 t35 t36 t37 t38 t39 t40 t41 t42=>ih (ks++[(⟨z.wx ks.length p nb cb c,z.marks ks.length⟩:Kd)]) (.pointer<|ae ⟨nb,0,af⟩) (.pointer<|ae ⟨cb,0,af⟩) t33 t34 t35 t36 t37 t38 t39 t40 t41 t42 _ w1 (by rw[hlen];omega) arN arM (by rw[hlen];push_cast;exact zB)
  rw[hlen]at hgo
  generalize(fun b=>S b/\¬kK p.lb p.bm p.v b/\¬(z.R b\/b=nb\/b=cb)/\b≠c)=S1 at hgo⊢
  generalize ks++[(⟨z.wx ks.length p nb cb c,z.marks ks.length⟩:Kd)]=xK at hgo⊢
  generalize z.iw.jH End (EC (ks.length+1) r++ts) xK 0 z.E=St at hgo⊢
  change au prog true z.E St S1 _ w1
  walk_nrm
  refine au.fA ?_
  refine au.ctl rfl (fun _=>aCE) ?_
  refine au.reg [0,1] rfl ?_
  refine au.mute (.int .i64 ((ks.length+1:Nat):Int)) rfl rfl (by decide) (fun _=>by go_simp;exact wrap_i64 (by omega)<|by omega) (fun _=>by simp[go_sem]) ?_
  walk_nrm
  refine au.mu rfl rfl ?_
  walk_nrm
  refine au.fA ?_
  rw[<-Bv]
  refine au.ctl rfl (fun _=>aCN) ?_
  rw[Og]at hgo
  exact hgo _ _ _ _ _ _ _ _ _ _
end Twin
end
end Go.Proofs.YtkelpcjiediamaaGreat
