import Derived.Test.YtkelpcjiediamaaGreatQb47
set_option maxRecDepth 100000
set_option maxHeartbeats 0
set_option linter.all false
namespace Go.Proofs.YtkelpcjiediamaaGreat
open Go renaming Calls→aK,Frame→aV,TypeId→bW,Value→aj,World→ah,execOp→dJ,stepG→aW,undef→ag
open Option renaming none→af,some→ae
open Go.Proofs.Tryz
open Go.RowKit Go.Maps
section
variable{a:Addr}{v:aj}{b:Nat}
def aiY{fo s0:Nat->Prop}{w:ah}(bD:ai.oq (ai.bz fo s0) w)(h1:¬(s0 a.block\/fo a.block))(hc:w.cell? a=ae v):ai.az ((ai.bz fo s0).cut w.heap.size) v:=
 bD.obj.cell (fun z=>z.elim h1 fun y=>by have:=mX hc;have:w.heap.size<=a.block:=y;omega) hc
def avl{fo s0:Nat->Prop}{w:ah}(bD:ai.oq (ai.bz fo s0) w){off:Nat}(h1:¬(s0 a.block\/fo a.block))(hc:w.cell? a=ae (.pointer<|ae ⟨b,off,af⟩)):¬(s0 b\/fo b):=fun z=>(aiY bD h1 hc).ptr<|.inl z
def Lh{fo s0:Nat->Prop}{w:ah}(bD:ai.oq (ai.bz fo s0) w)(h1:¬(s0 a.block\/fo a.block))(hc:w.cell? a=ae v)(hb:v.ownBlock=ae b):¬(s0 b\/fo b):=fun z=>Twin.Ry (aiY bD h1 hc) hb<|.inl z
section
variable{w w1 w':ah}{B pb xb N:Nat}{s s':dB}{fo s0:Nat->Prop}
def gU.same{h:HS}{g:PG}{v:PV}(a:gU w B pb xb h g v)(e:w1.heap=w.heap):gU w1 B pb xb h g v:=by
 have row:∀{ty:bW} {wd:Nat} {v:aj} {k:Nat} {xs:List aj},w.ownsRow B ty wd v k xs->w1.ownsRow B ty wd v k xs:=fun{ty wd v k xs} ho=>by
  refine⟨ho.1,?_⟩;rcases ho.2 with⟨q1,q2⟩|⟨g,cap,cur,q1,q2,q3,q4⟩
  ·exact .inl ⟨q1,q2⟩
  ·exact .inr ⟨g,cap,cur,q1,q2,by rw[e];exact q3,q4⟩
 exact⟨by rw[e];exact a.blk,row a.ep,row a.wr,row a.fa,row a.gt,a.gl,fun q u l h1 h2=>row<|a.rc q u l h1 h2,row a.st,a.ap,a.hb⟩
def bu.same(a:bu w B pb xb N s)(e:w1.heap=w.heap):bu w1 B pb xb N s:=⟨Twin.ay.same a.ha (fun b _=>by rw[e]) (by rw[e];exact bV _),a.ax,a.pa.same e,a.pg,a.wr,a.fa⟩
def bu.re(a:bu w B pb xb N s)(t:Nat->Question->Nat)(d:Nat):bu (ai.re w t d) B pb xb N s:=a.same rfl
def bu.free(a:bu w B pb xb N s)(bD:ai.oq (ai.bz fo s0) w)(hp:¬(s0 pb\/fo pb)):∀b,s.dZ pb xb b->¬(s0 b\/fo b):=by
 obtain⟨c0,_,_,c5,_,c7,c8,c9,Yy⟩:=a.cells;have hx:¬(s0 xb\/fo xb):=avl bD (a:=⟨pb,0,af⟩) hp c0;rintro b (hk|rfl|hk|hk|hk|hk|hk|⟨u,hu,hk⟩)
 ·exact Twin.ay.free a.ha bD hx b hk
 ·exact hp
 ·exact Lh bD (a:=⟨pb,5,af⟩) hp c5 hk
 ·exact Lh bD (a:=⟨pb,7,af⟩) hp c7 hk
 ·exact Lh bD (a:=⟨pb,8,af⟩) hp c8 hk
 ·exact Lh bD (a:=⟨pb,9,af⟩) hp c9 hk
 ·exact Lh bD (a:=⟨pb,10,af⟩) hp Yy hk
 ·obtain⟨k,jU⟩:=Us.1 hu;have mM:=(dD.1 jU).1;obtain⟨gg,gc,vk,_⟩:=uO a.pa.gt (by omega);have E7:¬(s0 gg\/fo gg):=Lh bD (a:=⟨pb,9,af⟩) hp c9 (by rw[vk];rfl);have hr:=a.pa.gt;rw[vk]at hr;exact Lh bD (a:=⟨gg,k,af⟩) E7 (by rw[hr.cellAt k<|by omega];exact jU) hk
structure zi(w w':ah)(B pb xb:Nat)(s:dB)(N:Nat)(s':dB):Prop where
 at_:bu w' B pb xb N s'
 dV:Fr (fun k=>B<=k) w w'
 cf:s'.h.P=s.h.P/\s'.h.Q=s.h.Q/\s'.h.T=s.h.T/\s'.h.K=s.h.K
variable{M:Nat}
def bQ.Ae(a:bu w B pb xb M s)(t:bQ w w' B pb xb s N s'):zi w w' B pb xb s N s':=⟨t.at_,t.dV a,t.cf⟩
def zi.mono(t:zi w w' B pb xb s N s')(hM:N<=M):zi w w' B pb xb s M s':=⟨t.at_.mono hM,t.dV,t.cf⟩
def zi.trans{s2:dB}(a:zi w w1 B pb xb s M s2)(b:zi w1 w' B pb xb s2 N s'):zi w w' B pb xb s N s':=
 ⟨b.at_,a.dV.trans b.dV fun _=>.inl,⟨b.cf.1.trans a.cf.1,b.cf.2.1.trans a.cf.2.1,b.cf.2.2.1.trans a.cf.2.2.1,b.cf.2.2.2.trans a.cf.2.2.2⟩⟩
def aiZ(a:bu w B pb xb N s)(hN:N<=70000000)(hp:¬(s0 pb\/fo pb))(hB:∀k,s0 k->B<=k):
 ai.ug (ai.bz fo s0) prog 20 #[.pointer<|ae ⟨xb,0,af⟩] w (fun B' v w'=>∃Wg s2,B'=ai.bz fo (fun b=>s0 b\/b=Wg)/\w.heap.size<=Wg/\v=.int .i64 s.h.fl.length/\zi w w' B pb xb s (N+306) s2/\s2.g=s.g/\s2.h.up=s.h.up/\WW s.h s2.h/\∀p t b,fM s.L p t b->fM s2.L p t b):=by
 intro c cs;refine ai.Reach.ok fun bD=>?_;have AA:=a.free bD hp;have hx:¬(s0 xb\/fo xb):=AA xb<|.inl<|.inl rfl;have sn:=a.pg.sn;have Ce:=WM s.h.fl s.h.pl;have Ak:=sn.fl;have key:=Twin.atd (s:=s0) a.ha a.ax hx sn.fl (by omega) (fun p hp=>by
  obtain⟨q,hq⟩:=Us.1 hp;have:=(sn.dG q p hq).eG;omega) (fun m hm=>(sn.Vp (by omega) (sn.ms m hm).1).1) (fun m hm _=>by
  have h1:=(sn.ms m hm).1.q;have h2:=a.ha.hQ.1;exact⟨m.q.toNat,by omega,by omega⟩) (fun fE k h2 m hs kr hm=>sn.atv (by omega) hs kr hm) (fun fE h2 hs kr hu j h1 x hj t hx=>sn.atw (by omega) hs kr hu hj t hx) (by omega)
 refine(key c cs).mono ?_;rintro B' fr' w' ⟨v,rfl,Wg,h3,rfl,rfl,pr⟩;obtain⟨fE,h2,hs,_,kr,tk⟩:=pr.ex;obtain⟨L',sn',wd⟩:=sn.round (by omega) hs kr tk;refine⟨_,rfl,Wg,⟨h3,L',s.g,s.v⟩,rfl,pr.wg,rfl,?_,rfl,wd.up,⟨fE,h2,hs,kr,tk⟩,fun _ _ _ d=>wd.qt.more d⟩;have TF:∀b,s.v.dZ pb b->w'.heap[b]? =w.heap[b]? :=fun b hb=>pr.fr b (a.pa.rV hb).1 (fun z=>AA b (.inr hb)<|.inl z) fun z=>a.ha.off a.pa z hb;have f:Fr (fun k=>¬s.v.dZ pb k) w w':=⟨pr.os,pr.tape,pr.output,pr.size,fun k _ hk=>TF k<|Classical.not_not.1 hk⟩;have p1:=a.pa.stay f fun k e hk=>e hk;refine⟨⟨pr.at_.mono<|by omega,pr.apart,⟨?_,p1.ep,p1.wr,p1.fa,p1.gt,p1.gl,p1.rc,p1.st,p1.ap,p1.hb⟩,a.pg.EE sn' wd,dP a.wr<|by omega,dP a.fa<|by omega⟩,⟨pr.os,pr.tape,pr.output,pr.size,fun k hk hb=>?_⟩,⟨wd.P,wd.Q,wd.T,wd.K⟩⟩
 ·show _=ae (Obj.cells #[_,.int .i64 h3.P,.int .i64 h3.Q,.int .i64 h3.T,.int .i64 h3.K,_,_,_,_,_,_] 48 (0,0));rw[wd.P,wd.Q,wd.T,wd.K];exact p1.blk
 ·exact pr.fr k hk (fun z=>hb<|hB k z) fun z=>hb (a.ha.rV z).2
end
end
section
open Go Go.Conc Twin eX
def ai0{fo s:Nat->Prop}{b:aV}{a:Act}{ops:Array Oper}{i:Nat}{rest:List Nat}{k:List Item}{cs cs2:List aV}{w:ah}{Q:ai.bP->aV->ah->Prop}{o:Oper}{v:aj}
 (ho:ops[i]? =ae o)(hw:Region.wanted o (yielded ops a.tmps)=true)(hk:b.kind≠.early)(aF:ai.ry prog (ai.bz fo s).let_ o.op=true)(hf:∃fn,prog.funcs[b.fn]? =ae fn)(Jy:ai.bG (ai.bz fo s) a.tmps)
 (hr:∀d,(dJ a.eval o).run prog (w.at d)=.ok (.value v) (w.at d))
 (hn:∀d,ai.Reach (ai.bz fo s) prog (b.at (a.put o.dst v)<|.inRegion ops rest::k) cs (w.at d) Q cs2):ai.Reach (ai.bz fo s) prog (b.at a<|.inRegion ops (i::rest)::k) cs w Q cs2:=by
 refine ai.Reach.ok fun bD=>ai.Reach.step fun d=>?_;have h5:∀q,s q\/fo q->1<=q:=fun q hq=>(bD.low q hq).1;have L:=ai.lets h5;obtain⟨fn,pO⟩:=hf;let fr:Frame:={(default:aV)with fn:=b.fn,kind:=.normal,tmps:=a.tmps}
 have hF:ai.eU (ai.bz fo s) prog fr:=⟨⟨fn,pO⟩,Jy,(fun it iY=>absurd iY<|by simp[fr,default,instInhabitedFrame.default]),rfl,.inl rfl,rfl,rfl⟩;have hE:ai.Env (ai.bz fo s) prog a.eval:=hF.env L.toFit;have hc:=ai.aal L.toFit L.aan hE (o:=o) aF;have dI:=ahQ hc (w:=w.at d) ⟨bD.okW.obj,bD.okW.low⟩<|hr d;refine⟨_,_,w.at d,_,aCG ho hw hk<|hr d,⟨bD.obj,bD.low,bD.lQ⟩,bV _,fun e he=>?_,hn d⟩;exact ai.Kv<|dI e<|aB6 he
end
section
noncomputable def ab9:Code:=ai.cutAt (.refuse "") [true,false,true,false]<|Tryz.f108.body.getD .skip
def avn:ai.codeOk prog ai.mZ ab9=true:=by kernel_rfl
def ai1(args:Array aj)(w:ah)(R:Ending->ah->Prop):Prop:=
 ab9.wp prog (bodyPost prog Tryz.f108 R) {tmps:=args++Array.replicate (Tryz.f108.ntmps-args.size) ag,defers:=[]} w
section
variable{w w':ah}{B pb xb N:Nat}{s s':dB}{fo s0:Nat->Prop}
def avo(a:bu w B pb xb N s)(hN:N<=80000000):ai1 #[.pointer<|ae ⟨pb,0,af⟩,.int .i64 5] w (jZ w B pb xb s<|N+6):=by
 have A:Hid (bu w B pb xb N s):=a;have fF:Hid (N<=80000000):=hN;obtain⟨c0,_⟩:=a.cells;have aB:=aS a.pa.blk;clear a hN;unfold ai1;simp only[ntmps108,Fv,ny,vC,Nat.reduceAdd,Nat.reduceSub,Uy,Ux,UB,Uz,wI,mV];obtain⟨Q0,iT⟩:∃Q0,bodyPost prog Tryz.f108 (jZ w B pb xb s<|N+6)=Q0:=⟨_,rfl⟩;rw[iT];simp only[ab9,Tryz.f108,gQ,ai.cutAt,if_true,lu,lq];rw[<-iT];clear iT;go_wp2_with fail
 refine(au0 A.out fF.out).mono ?_;rintro e w1 ⟨rfl,s2,ht⟩;have T:Hid (bQ w w1 B pb xb s (N+6) s2):=ht.to;obtain⟨_,_,_,_,e6,_⟩:=ht.to.at_.cells;have kz:=aS ht.to.at_.pa.blk;have kR:s2.g.dn= !s.h.up:=by rw[ht.to.at_.pg.dn,ht.up]
 rw[kR]at e6;clear kR ht;cases hu:s.h.up with
 |true=>
  rw[hu]at e6;simp only[if_true]at*
  go_wp2
  go_ret;exact⟨rfl,⟨s2,T.out⟩⟩
 |false=>
  rw[hu]at e6;simp only[lq,lu,adN]at*
  go_wp2
  go_ret;exact⟨rfl,⟨s2,T.out⟩⟩
def bQ.KR{t t':Nat->Question->Nat}{d d':Nat}(b:bQ (ai.re w t d) (ai.re w' t' d') B pb xb s N s')(on:ai.On w w'):bQ w w' B pb xb s N s':=
 ⟨b.at_.same rfl,⟨on.os,on.tape,on.output,on.size,b.fr.block⟩,b.sub,b.cf⟩
def GX(hp:¬(s0 pb\/fo pb))(hl:pb<w.heap.size):ai.az ((ai.bz fo s0).cut w.heap.size) (.pointer<|ae ⟨pb,0,af⟩):=.qI fun z=>z.elim hp fun y=>by have:w.heap.size<=pb:=y;omega
def zk(h5:∀b,s0 b\/fo b->1<=b):ai.Bg (ai.bz fo s0) prog:=fun k hk=>ai.Ky fun b hb=>hb.elim (h5 b) fun z=>by omega
structure sN(fo s0:Nat->Prop)(w w':ah)(B pb xb:Nat)(s:dB)(N:Nat)(B':ai.bP):Prop where
 ex:∃s1 s',B'=ai.bz fo s1/\(∀k,s1 k->s0 k\/w.heap.size<=k)/\zi w w' B pb xb s N s'
def avp(a:bu w B pb xb N s)(hN:N<=80000000)(hp:¬(s0 pb\/fo pb)):
 ai.ug (ai.bz fo s0) prog 108 #[.pointer<|ae ⟨pb,0,af⟩,.int .i64 5] w (fun B' v w'=>v=.bool true/\sN fo s0 w w' B pb xb s (N+6) B'):=by
 intro c cs;refine ai.Reach.ok fun bD=>?_;have h5:∀b,s0 b\/fo b->1<=b:=fun b hb=>(bD.low b hb).1;refine(ai.aiz (R:=fun t d=>jZ (ai.re w t d) B pb xb s<|N+6) (ai.lets h5) (zk h5) func108 rfl (ai.aiy [true,false,true,false] _) avn (ai.bG.two (GX hp<|aS a.pa.blk) .int) (fun t d=>avo (a.re t d) hN) (fun t d e w' hq=>⟨_,hq.1⟩) c cs).mono ?_;rintro B' fr' w' ⟨v,rfl,rfl,_,on,t,d,t',j,hq⟩;obtain⟨h1,⟨s',ht⟩⟩:=hq;exact⟨v,rfl,by simpa using h1,⟨_,s',rfl,fun k hk=>.inl hk,(ht.KR on).Ae a⟩⟩
end
end
section
open Go.RowKit Go.Maps Go.Conc Go.Proofs.YtkelpcjiediamaaGreat.Twin eX
noncomputable def d108:Code:=Tryz.f108.body.getD .skip
noncomputable def Xk:Code:=iD<|fB d108
noncomputable def OE:Code:=ai.gK [true,false,true,false] d108
def avq:d108=.seq (iD d108) (.seq (.seq (iD Xk)<|.cond (.tmp 9) OE .skip)<|fB<|fB d108):=rfl
def avr:ai.codeOk prog ai.mZ (iD d108)=true:=by kernel_rfl
def avs:ai.codeOk prog ai.mZ (iD Xk)=true:=by kernel_rfl
def avt:ai.codeOk prog ai.mZ (iD OE)=true:=by kernel_rfl
noncomputable def Je:Code:=ai.gK [true,false,true,false,true]<|Tryz.f108.body.getD .skip
noncomputable def xZ:Array Oper:=match iD Je with| .region _ o _=>o|_=>#[]
def avu:OE=.seq (iD OE) Je:=rfl
def avv:Je=.seq (.region 3 xZ false) (fB Je):=rfl
def avw:ai.codeOk prog ai.mZ (fB Je)=true:=by kernel_rfl
def t108(pb xb n:Nat)(u6 Fe u16 EI EJ OG:aj):Array Value:=#[.pointer<|ae ⟨pb,0,af⟩,.int .i64 11,ag,ag,.bool false,.int .i64 n,u6,ag,.int .i64 11,.bool true,.pointer<|ae ⟨pb,0,af⟩,.pointer<|ae ⟨pb,0,af⟩,.pointer<|ae ⟨pb,0,af⟩,.pointer<|ae ⟨xb,0,af⟩,.int .i64 n,Fe,u16,EI,EJ,OG,ag,ag,ag,ag,ag,ag,ag,ag,ag,ag,ag,ag,ag,ag,ag,ag,ag,ag,ag,ag]
def BF(pb:Nat)(u4 u8 u9:aj):Array Value:=#[.pointer<|ae ⟨pb,0,af⟩,.int .i64 11,ag,ag,u4,ag,ag,ag,u8,u9,ag,ag,ag,ag,ag,ag,ag,ag,ag,ag,ag,ag,ag,ag,ag,ag,ag,ag,ag,ag,ag,ag,ag,ag,ag,ag,ag,ag,ag,ag]
def ai2(pb:Nat):#[Value.pointer<|ae ⟨pb,0,af⟩,.int .i64 11]++Array.replicate (Tryz.f108.ntmps- #[Value.pointer<|ae ⟨pb,0,af⟩,.int .i64 11].size) ag=BF pb ag ag undef:=by kernel_rfl
section
variable{w w':ah}{B pb xb N:Nat}{s:dB}{fo s0:Nat->Prop}
variable{W:ah}
def avx(pb:Nat):(iD d108).wp prog (fun e a' w'=>e=.normal/\a'=⟨BF pb (.bool false) ag ag,[]⟩/\w'=W) ⟨BF pb ag ag ag,[]⟩ W:=by
 simp only[d108,Tryz.f108,gQ,iD,BF];go_wp2
def avy(pb:Nat):(iD Xk).wp prog (fun e a' w'=>e=.normal/\a'=⟨BF pb (.bool false) (.int .i64 11)<|.bool true,[]⟩/\w'=W) ⟨BF pb (.bool false) ag ag,[]⟩ W:=by
 simp only[Xk,d108,Tryz.f108,gQ,iD,fB,BF];go_wp2
def avz(a:bu w B pb xb N s):(iD OE).wp prog (fun e a' w'=>e=.normal/\a'=⟨t108 pb xb s.h.fl.length ag ag ag ag ag ag,[]⟩/\Fr aH w w') ⟨BF pb (.bool false) (.int .i64 11)<|.bool true,[]⟩ w:=by
 have A:Hid (bu w B pb xb N s):=a;obtain⟨c0,_⟩:=a.cells;have aB:=aS a.pa.blk;clear a;simp only[OE,ai.gK,d108,Tryz.f108,gQ,iD,BF,if_true,lu,lq];go_wp2_with fail
 refine(OB A.out).mono ?_;rintro e w1 ⟨rfl,bg⟩;have F:Hid (Fr aH w w1):=bg;clear bg;go_wp2
 exact⟨rfl,F.out⟩
def avA(n:Nat)(Fe u16 EI EJ OG:aj):(fB Je).wp prog (fun e a' w'=>e=.ret/\a'.tmps.getD 4 ag=.bool true/\w'=W) ⟨t108 pb xb n (.int .i64 n) Fe u16 EI EJ OG,[]⟩ W:=by
 simp only[Je,ai.gK,Tryz.f108,gQ,fB,t108,if_true,lu,lq];go_wp2
def avC(n:Nat)(k:List Item)(cs:List aV)(w:ah):aW prog true (G ((base 108).at ⟨t108 pb xb n ag ag ag ag ag ag,[]⟩<|.inRegion xZ [0,1,2,3,4,5]::k) cs) w=
 .go (G ((base 108).at ⟨t108 pb xb n ag (.pointer<|ae ⟨pb,0,af⟩) ag ag ag ag,[]⟩<|.inRegion xZ [1,2,3,4,5]::k) cs) w #[]:=
 GK (P:=prog) (main:=true) (b:=base 108) (a:=⟨t108 pb xb n ag ag ag ag ag ag,[]⟩) (ops:=xZ) (i:=0) (rest:=[1,2,3,4,5]) (k:=k) (cs:=cs) (w:=w) (v:=.pointer<|ae ⟨pb,0,af⟩) rfl rfl (by decide) rfl rfl
def avD(n:Nat)(k:List Item)(cs:List aV)(w:ah):aW prog true (G ((base 108).at ⟨t108 pb xb n ag (.pointer<|ae ⟨pb,0,af⟩) ag ag ag ag,[]⟩<|.inRegion xZ [1,2,3,4,5]::k) cs) w=
 .go (G ((base 108).at ⟨t108 pb xb n ag (.pointer<|ae ⟨pb,0,af⟩) (.pointer<|ae ⟨pb,0,af⟩) ag ag ag,[]⟩<|.inRegion xZ [2,3,4,5]::k) cs) w #[]:=
 GK (P:=prog) (main:=true) (b:=base 108) (a:=⟨t108 pb xb n ag (.pointer<|ae ⟨pb,0,af⟩) ag ag ag ag,[]⟩) (ops:=xZ) (i:=1) (rest:=[2,3,4,5]) (k:=k) (cs:=cs) (w:=w) (v:=.pointer<|ae ⟨pb,0,af⟩) rfl rfl (by decide) (by kernel_rfl) (by kernel_rfl)
def avE(n:Nat)(k:List Item)(cs:List aV)(w:ah):aW prog true (G ((base 108).at ⟨t108 pb xb n ag (.pointer<|ae ⟨pb,0,af⟩) (.pointer<|ae ⟨pb,0,af⟩) ag ag ag,[]⟩<|.inRegion xZ [2,3,4,5]::k) cs) w=
 .go (G ((base 108).at ⟨t108 pb xb n ag (.pointer<|ae ⟨pb,0,af⟩) (.pointer<|ae ⟨pb,0,af⟩) (.pointer<|ae ⟨pb,0,af⟩) ag ag,[]⟩<|.inRegion xZ [3,4,5]::k) cs) w #[]:=
 GK (P:=prog) (main:=true) (b:=base 108) (a:=⟨t108 pb xb n ag (.pointer<|ae ⟨pb,0,af⟩) (.pointer<|ae ⟨pb,0,af⟩) ag ag ag,[]⟩) (ops:=xZ) (i:=2) (rest:=[3,4,5]) (k:=k) (cs:=cs) (w:=w) (v:=.pointer<|ae ⟨pb,0,af⟩) rfl rfl (by decide) (by kernel_rfl) (by kernel_rfl)
def avF(n m:Nat)(k:List Item)(cs:List aV)(w:ah)(Fe u16 EI EJ:aj):aW prog true (G ((base 108).at ⟨t108 pb xb n ag Fe u16 EI EJ<|.int .i64 m,[]⟩<|.inRegion xZ [5]::k) cs) w=
 .go (G ((base 108).at ⟨t108 pb xb n (.int .i64 m) Fe u16 EI EJ<|.int .i64 m,[]⟩<|.inRegion xZ []::k) cs) w #[]:=
 GK (P:=prog) (main:=true) (b:=base 108) (a:=⟨t108 pb xb n ag Fe u16 EI EJ<|.int .i64 m,[]⟩) (ops:=xZ) (i:=5) (rest:=[]) (k:=k) (cs:=cs) (w:=w) (v:=.int .i64 m) rfl rfl (by decide) rfl rfl
def avG(n:Nat)(hc:W.cell? ⟨pb,0,af⟩=ae (.pointer<|ae ⟨xb,0,af⟩)){o:Oper}(aF:o.op=.load 33 (.tmp 17)):(dJ (Act.mk (t108 pb xb n ag (.pointer<|ae ⟨pb,0,af⟩) (.pointer<|ae ⟨pb,0,af⟩) (.pointer<|ae ⟨pb,0,af⟩) ag ag) []).eval o).run prog W=.ok (.value<|.pointer<|ae ⟨xb,0,af⟩) W:=by
 unfold dJ;rw[aF];simp only[t108];go_simp
def ai3{Bn:ai.bP}{n:Nat}{u6 Fe u16 EI EJ OG:aj}(h1:ai.az Bn (.pointer<|ae ⟨pb,0,af⟩))(h2:ai.az Bn (.pointer<|ae ⟨xb,0,af⟩))(k1:ai.az Bn u6)(k2:ai.az Bn Fe)(k3:ai.az Bn u16)(k4:ai.az Bn EI)(k5:ai.az Bn EJ)(k6:ai.az Bn OG):ai.bG Bn (t108 pb xb n u6 Fe u16 EI EJ OG):=fun v hv=>by
 simp only[t108,rP,jC,oN,oO,or_self]at hv;repeat' (rcases hv with rfl|hv)
 all_goals first|assumption|exact .int|exact .bool|exact ai.ru|(subst hv;exact ai.ru)
def avH(a:bu w B pb xb N s)(hN:N<=70000000)(hp:¬(s0 pb\/fo pb))(hB:∀k,s0 k->B<=k):
 ai.ug (ai.bz fo s0) prog 108 #[.pointer<|ae ⟨pb,0,af⟩,.int .i64 11] w (fun B' v w'=>v=.bool true/\sN fo s0 w w' B pb xb s (N+306) B'):=by
 intro c cs;refine ai.Reach.ok fun bD=>?_;have h5:∀b,s0 b\/fo b->1<=b:=fun b hb=>(bD.low b hb).1;have hl:=aS a.pa.blk;have hx:¬(s0 xb\/fo xb):=a.free bD hp xb<|.inl<|.inl rfl;have L:=ai.lets h5;have C:=zk h5;rw[aCX (c:=d108) _ func108 rfl,ai2,avq];have avI:ai.bG ((ai.bz fo s0).cut w.heap.size) (BF pb ag ag ag):=by
  rw[<-ai2];exact ai.bG.append (ai.bG.two (GX hp hl) .int) fun v hv=>by
   obtain⟨_,rfl⟩:=MQ.1 hv;exact ai.ru
 refine lU fun g1=>?_;refine ai.Gi (w:=w.at g1) (K:=fun t d e a' w'=>e=.normal/\a'=⟨BF pb (.bool false) ag ag,[]⟩/\w'=ai.re (w.at g1) t d) L C avr avI rfl ⟨_,func108⟩ rfl (fun t d=>aCs (avx pb) fun e a' w' hq=>⟨.inl hq.1,hq⟩) ?_ ?_;rotate_left
 ·rintro a1 w1 todo _ _ _ ⟨t,d,t',j,e,_⟩;cases e
 rintro a1 wa Xl avJ _ ⟨t,d,t',j,_,rfl,Il⟩;have ea:wa.heap=w.heap:=show(ai.re wa t' j).heap=(ai.re (w.at g1) t d).heap from eP World.heap Il;clear Il;refine lU fun g2=>?_;refine lU fun g3=>?_;refine ai.Gi (w:=(wa.at g2).at g3) (K:=fun t d e a' w'=>e=.normal/\a'=⟨BF pb (.bool false) (.int .i64 11)<|.bool true,[]⟩/\w'=ai.re ((wa.at g2).at g3) t d) L C avs avJ rfl ⟨_,func108⟩ rfl (fun t d=>aCs (avy pb) fun e a' w' hq=>⟨.inl hq.1,hq⟩) ?_ ?_;rotate_left
 ·rintro a1 w1 todo _ _ _ ⟨t,d,t',j,e,_⟩;cases e
 rintro a1 wb Xm avK _ ⟨t,d,t',j,_,rfl,hwb⟩;have eb:wb.heap=wa.heap:=show(ai.re wb t' j).heap=(ai.re ((wa.at g2).at g3) t d).heap from eP World.heap hwb;clear hwb;refine kF (fun _=>aCe (t:=true) rfl) fun g4=>?_;rw[if_pos rfl,avu];refine lU fun g5=>?_;have ab:bu wb B pb xb N s:=a.same<|eb.trans ea;refine ai.Gi (w:=(wb.at g4).at g5) (K:=fun t d e a' w'=>e=.normal/\a'=⟨t108 pb xb s.h.fl.length ag ag ag ag ag ag,[]⟩/\Fr aH (ai.re ((wb.at g4).at g5) t d) w') L C avt avK rfl ⟨_,func108⟩ rfl (fun t d=>aCs (avz<|ab.same rfl) fun e a' w' hq=>⟨.inl hq.1,hq⟩) ?_ ?_;rotate_left
 ·rintro a1 w1 todo _ _ _ ⟨t,d,t',j,e,_⟩;cases e
 rintro a1 w1 ng KT _ ⟨t,d,t',j,_,rfl,bg⟩;have f1:Fr aH w w1:=⟨ng.os.trans<|Xm.os.trans Xl.os,ng.tape.trans<|Xm.tape.trans Xl.tape,ng.output.trans<|Xm.output.trans Xl.output,dP Xl.size<|dP Xm.size ng.size,fun b hb h=>(bg.block b (by show b<wb.heap.size;rw[eb,ea];exact hb) h).trans (by show wb.heap[b]? =_;rw[eb,ea])⟩;have a1:=a.after f1;clear bg;rw[avv];refine lU fun d1=>?_;refine xR fun d2=>?_;rw[show List.range xZ.size=[0,1,2,3,4,5]from rfl];refine kF (fun w=>avC _ _ _ w) fun d3=>?_;refine kF (fun w=>avD _ _ _ w) fun d4=>?_;refine kF (fun w=>avE _ _ _ w) fun d5=>?_;refine ai0 (v:=.pointer<|ae ⟨xb,0,af⟩) rfl rfl (by decide) (by kernel_rfl) ⟨_,func108⟩ ?_ (fun d=>avG _ (by exact a1.cells.1) rfl) fun d6=>?_
 ·exact ai3 (.qI hp) (.qI hx) ai.ru (.qI hp) (.qI hp) (.qI hp) ai.ru ai.ru
 refine WB (f:=20) (post:=fun B' v w'=>∃(d:Nat) (Wg:Nat) (s2:dB),B'=ai.bz fo (fun b=>s0 b\/b=Wg)/\w1.heap.size<=Wg/\v=.int .i64 s.h.fl.length/\zi (w1.at d) w' B pb xb s (N+306) s2) rfl rfl (by decide) rfl func20 rfl rfl (vs:=#[.pointer<|ae ⟨xb,0,af⟩]) (by kernel_rfl) (fun d=>(aiZ (w:=w1.at d) (a1.same rfl) hN hp hB).mono fun B' v w' hg=>?_) ?_
 ·obtain⟨Wg,s2,q1,q2,q3,q4,_⟩:=hg;exact⟨d,Wg,s2,q1,q2,q3,q4⟩
 rintro B' v w2 ⟨dd,Wg,s2,rfl,bH,rfl,Ae⟩;refine ai.Reach.ok fun MO=>?_;have Lj:∀b,(s0 b\/b=Wg)\/fo b->1<=b:=fun b hb=>(MO.low b hb).1;change ai.Reach _ _ ((base 108).at ⟨t108 pb xb s.h.fl.length ag (.pointer<|ae ⟨pb,0,af⟩) (.pointer<|ae ⟨pb,0,af⟩) (.pointer<|ae ⟨pb,0,af⟩) (.pointer<|ae ⟨xb,0,af⟩)<|.int .i64 s.h.fl.length,[]⟩<|.inRegion xZ [5]:: .code (fB Je):: .code (fB<|fB d108)::[]) _ _ _ _;refine kF (fun w=>avF _ _ _ _ w _ _ _ _) fun d7=>?_;refine xU fun d8=>?_;refine ai.Gi (w:=(w2.at d7).at d8) (K:=fun t d e a' w'=>e=.ret/\a'.tmps.getD 4 ag=.bool true/\w'=ai.re ((w2.at d7).at d8) t d) (ai.lets Lj) (zk Lj) avw ?_ rfl ⟨_,func108⟩ rfl (fun t d=>aCs (avA _ _ _ _ _ _) fun e a' w' hq=>⟨.inr hq.1,hq⟩) ?_ ?_
 ·have np:¬((ai.bz fo fun b=>s0 b\/b=Wg).cut w2.heap.size).bK pb:=fun z=>z.elim (fun z=>z.elim (fun z=>z.elim (fun y=>hp<|.inl y) fun e=>by have:=f1.size;omega) fun y=>hp<|.inr y) fun y=>by have:w2.heap.size<=pb:=y;have:=aS Ae.at_.pa.blk;omega
  have nx:¬((ai.bz fo fun b=>s0 b\/b=Wg).cut w2.heap.size).bK xb:=fun z=>z.elim (fun z=>z.elim (fun z=>z.elim (fun y=>hx<|.inl y) fun e=>by have:=f1.size;have:=aS a.ha.blk;omega) fun y=>hx<|.inr y) fun y=>by have:w2.heap.size<=xb:=y;have:=aS Ae.at_.ha.blk;omega
  exact ai3 (.qI np) (.qI nx) .int (.qI np) (.qI np) (.qI np) (.qI nx) .int
 ·rintro a3 w3 _ _ _ ⟨t,d,t',j,e,_⟩;cases e
 rintro a3 w3 todo RU abz hd3 ⟨t,d,t',j,_,tq,hw3⟩;have e3:w3.heap=w2.heap:=show(ai.re w3 t' j).heap=(ai.re ((w2.at d7).at d8) t d).heap from eP World.heap hw3;refine ai.RI (ai.lets Lj) (zk Lj) (fn:=Tryz.f108) (v:=.bool true) (t:=t') (k:=j) rfl hd3 rfl func108 abz ?_ fun d9 _=>⟨_,rfl,rfl,⟨_,s2,rfl,?_,?_⟩⟩
 ·rw[<-tq];exact aCT rfl _ _ _
 ·rintro k (hk|rfl)
  ·exact .inl hk
  ·exact .inr<|dP f1.size bH
 ·have z2:w1.heap.size<=w2.heap.size:=Ae.dV.size;refine⟨Ae.at_.same e3,⟨RU.os.trans<|Ae.dV.os.trans f1.os,RU.tape.trans<|Ae.dV.tape.trans f1.tape,RU.output.trans<|Ae.dV.output.trans f1.output,?_,fun b hb h=>?_⟩,Ae.cf⟩
  ·show w.heap.size<=w3.heap.size;rw[e3];exact dP f1.size z2
  ·show w3.heap[b]? =_;rw[e3];exact(Ae.dV.block b (dY hb f1.size) h).trans<|f1.block b hb id
end
end
section
noncomputable def b48:Code:=ai.cutAt (.refuse "") [true,true,true,false,true,true,true,true,true,true,true,true,true,true,false]<|Tryz.f48.body.getD .skip
def avL:ai.codeOk prog ai.mZ b48=true:=by kernel_rfl
def ai4(args:Array aj)(w:ah)(R:Ending->ah->Prop):Prop:=
 b48.wp prog (bodyPost prog Tryz.f48 R) {tmps:=args++Array.replicate (Tryz.f48.ntmps-args.size) ag,defers:=[]} w
section
variable{w w':ah}{B pb xb N:Nat}{s s':dB}
def bQ.skip{w1:ah}(a:bu w B pb xb N s)(f:Fr aH w w1){M:Nat}(t:bQ w1 w' B pb xb s M s'):bQ w w' B pb xb s M s':=(bQ.still a f).trans t
end
end
section
section
variable{w w':ah}{B pb xb N:Nat}{s:dB}
def avM(a:bu w B pb xb N s){q:Nat}(hq:(q:Int)<s.h.Q)(o:Bool):aK prog 52 #[.pointer<|ae ⟨xb,0,af⟩,.int .i64 q,.bool o] w fun e w'=>e=.returned (.int .i64 0)/\∃s2,jY w w' B pb xb s (N+1) s2:=by
 obtain⟨p,hp⟩:=a.q hq;exact(anN a.ha hp o).mono fun e w' ⟨h1,mv⟩=>⟨h1,_,jY.EE a mv (a.ax.out hp o) (by omega) (by omega) (a.pg.sn.out hp o) ⟨rfl,rfl,rfl,rfl,rfl,.refl _,.set hp ⟨.refl _,rfl⟩⟩⟩
end
end
section
section
variable{w w':ah}{B pb xb N:Nat}{s:dB}
structure Jf(w w':ah)(B pb xb N:Nat)(s:dB):Prop where
 ex:∃h',ay w' B xb N h'/\gU w' B pb xb h' s.g s.v/\Fr (fun k=>k=xb) w w'/\iC h'.pl/\Pg N h' s.L {s.g with dn:=true}/\(h'.P=s.h.P/\h'.Q=s.h.Q/\h'.T=s.h.T/\h'.K=s.h.K)/\(∀k,h'.dZ xb k->s.h.dZ xb k)/\s.g.wr.length<=N/\s.g.fa.length<=N
def Jf.cell{M:Nat}{w0:ah}(f:Jf w w' B pb xb N s)(a:bu w0 B pb xb M s):w'.cell? ⟨pb,6,af⟩=ae (.bool<|!s.h.up):=by
 obtain⟨h',_,b,_⟩:=f.ex;rw[<-a.pg.dn];exact aG b.blk 6
def Jf.note{V:ah}(f:Jf w w' B pb xb N s)(g:Fr aH w' V):∃s2,bQ w (V.setCell ⟨pb,6,af⟩<|.bool true) B pb xb s N s2:=by
 obtain⟨h',ha,b,fr,ax,pg,cf,sub,l1,l2⟩:=f.ex;obtain⟨n1,n2,n3⟩:=ais (d:=true) (ha.after g)<|b.after g;exact⟨⟨h',s.L,{s.g with dn:=true},s.v⟩,⟨n2,ax,n1,pg,l1,l2⟩,((fr.trans g fun _ h=>h.elim).mono fun k e=>.inl<|.inl<|.inl e).trans n3 fun k e=>.inl<|.inr<|.inl e,fun k hk=>hk.elim (fun e=>.inl<|.inl<|sub k e) fun e=>.inl<|.inr e,cf⟩
def avN(a:bu w B pb xb N s):aK prog 44 #[.pointer<|ae ⟨xb,0,af⟩] w fun e w'=>e=.returned (.int .i64<|if s.h.up then 0 else 5)/\Jf w w' B pb xb N s:=
 (aml a.ha).mono fun e w' ⟨h1,h2,h3⟩=>⟨h1,by
   have st:gU w' B pb xb s.h s.g s.v:=a.pa.stay h3 fun k e hk=>a.ha.off a.pa (.inl e) hk;cases hu:s.h.up with
   |true=>
    rw[hu,if_pos rfl]at h2;exact⟨s.h.zS,h2,⟨st.blk,st.ep,st.wr,st.fa,st.gt,st.gl,st.rc,st.st,st.ap,st.hb⟩,h3,a.ax,a.pg.abE,⟨rfl,rfl,rfl,rfl⟩,fun _ h=>h,a.wr,a.fa⟩
   |false=>
    rw[hu,if_neg<|by decide]at h2;have hd:({s.g with dn:=true}:PG)=s.g:=by
     have:=a.pg.dn;rw[hu]at this;cases hg:s.g with
     |mk=>rw[hg]at this;simp_all
    exact⟨s.h,h2,st,h3,a.ax,by rw[hd];exact a.pg,⟨rfl,rfl,rfl,rfl⟩,fun _ h=>h,a.wr,a.fa⟩⟩
end
end
section
section
variable{w w':ah}{B pb xb N:Nat}{s:dB}
def Jf.soft(f:Jf w w' B pb xb N s):w'.frozen? ⟨pb,6,af⟩=false:=by
 obtain⟨h',_,b,_⟩:=f.ex;exact jP b.blk 6
end
end
section
section
variable{w w':ah}{B pb xb N:Nat}{s:dB}
structure Jg(w w':ah)(B pb xb N:Nat)(s:dB):Prop where
 ex:∃h',ay w' B xb N h'/\gU w' B pb xb h' s.g s.v/\Fr (s.h.dZ xb) w w'/\iC h'.pl/\Pg N h' s.L {s.g with dn:=false}/\(h'.P=s.h.P/\h'.Q=s.h.Q/\h'.T=s.h.T/\h'.K=s.h.K)/\(∀k,h'.dZ xb k->s.h.dZ xb k\/w.heap.size<=k)/\s.g.wr.length<=N/\s.g.fa.length<=N
def Jg.cell{M:Nat}{w0:ah}(f:Jg w w' B pb xb N s)(a:bu w0 B pb xb M s):w'.cell? ⟨pb,6,af⟩=ae (.bool<|!s.h.up):=by
 obtain⟨h',_,b,_⟩:=f.ex;rw[<-a.pg.dn];exact aG b.blk 6
def Jg.note{V:ah}(f:Jg w w' B pb xb N s)(g:Fr aH w' V):∃s2,bQ w (V.setCell ⟨pb,6,af⟩<|.bool false) B pb xb s N s2:=by
 obtain⟨h',ha,b,fr,ax,pg,cf,sub,l1,l2⟩:=f.ex;obtain⟨n1,n2,n3⟩:=ais (d:=false) (ha.after g)<|b.after g;exact⟨⟨h',s.L,{s.g with dn:=false},s.v⟩,⟨n2,ax,n1,pg,l1,l2⟩,((fr.trans g fun _ h=>h.elim).mono fun k e=>.inl<|.inl e).trans n3 fun k e=>.inl<|.inr<|.inl e,fun k hk=>hk.elim (fun e=>(sub k e).imp .inl id) fun e=>.inl<|.inr e,cf⟩
def Jg.soft(f:Jg w w' B pb xb N s):w'.frozen? ⟨pb,6,af⟩=false:=by
 obtain⟨h',_,b,_⟩:=f.ex;exact jP b.blk 6
def avO(a:bu w B pb xb N s)(hN:N<=70000000):aK prog 29 #[.pointer<|ae ⟨xb,0,af⟩] w fun e w'=>e=.returned (.int .i64<|if s.h.up then 6 else 0)/\Jg w w' B pb xb N s:=by
 cases hu:s.h.up with
 |true=>
  exact(amr a.ha hu).mono fun e w' ⟨h1,h2⟩=>⟨h1,by
   subst h2;have hd:({s.g with dn:=false}:PG)=s.g:=by
    have:=a.pg.dn;rw[hu]at this;cases hg:s.g with
    |mk=>rw[hg]at this;simp_all
   exact⟨s.h,a.ha,a.pa,Fr.refl _ _,a.ax,by rw[hd];exact a.pg,⟨rfl,rfl,rfl,rfl⟩,fun _ h=>.inl h,a.wr,a.fa⟩⟩
 |false=>
  exact(anM a.ha hu (a.pg.sn.dn hu)<|a.pg.sn.lL<|by omega).mono fun e w' ⟨h1,jv,mv⟩=>⟨h1,by
   have st:gU w' B pb xb s.h s.g s.v:=a.pa.stay mv.fr fun k e hk=>a.ha.off a.pa e hk;exact⟨s.h.FY jv s.L,mv.at_,⟨st.blk,st.ep,st.wr,st.fa,st.gt,st.gl,st.rc,st.st,st.ap,st.hb⟩,mv.fr,a.ax,a.pg.abG jv,⟨rfl,rfl,rfl,rfl⟩,mv.sub,a.wr,a.fa⟩⟩
end
end
section
section
variable{w w':ah}{B pb xb N:Nat}{s s':dB}{fo s0:Nat->Prop}
variable{ts:ByteArray}
def avP(a:bu w B pb xb N s)(hN:N<=70000000)(k p q m:Int)(hp:dQ p)(hq:dQ q)(hm:dQ m)(fl:Bool)(h5:k≠5)(JG:k≠11):
 ai4 #[.pointer<|ae ⟨pb,0,af⟩,uQ k p q m ts fl] w (jZ w B pb xb s<|N+21):=by
 obtain⟨P,hP⟩:=vw (show 0<=s.h.P by have:=a.pg.sn.P1;omega);obtain⟨Q,hQ⟩:=vw (show 0<=s.h.Q by have:=a.pg.sn.Q1;omega);have XX:1<=P/\P<=6:=by have:=a.pg.sn.P1;omega
 have WX:1<=Q/\Q<=4:=by have:=a.pg.sn.Q1;omega
 have A:Hid (bu w B pb xb N s):=a;have HM:Hid (dQ m):=hm;have fF:Hid (N<=70000000):=hN;have xY:Hid (dQ p/\dQ q/\s.h.P=(P:Int)/\s.h.Q=(Q:Int)):=⟨hp,hq,hP,hQ⟩;obtain⟨c0,c1,c2,_⟩:=a.cells;rw[hP]at c1;rw[hQ]at c2;have aB:=aS a.pa.blk;unfold uQ;clear a hN hp hq hm hP hQ;unfold ai4;simp only[ntmps48,Fv,ny,vC,Nat.reduceAdd,Nat.reduceSub,Uy,Ux,UB,Uz,wI,mV];obtain⟨Q0,iT⟩:∃Q0,bodyPost prog Tryz.f48 (jZ w B pb xb s<|N+21)=Q0:=⟨_,rfl⟩;rw[iT];simp only[b48,Tryz.f48,gQ,ai.cutAt,if_true,lu,lq];rw[<-iT];clear iT;go_wp2_with fail
 have ZW:Hid (∃W:ah,W=w.alloc (.cells #[.int .i64 k,.int .i64 p,.int .i64 q,.int .i64 m,.string ts,.bool fl] 28 (0,0))):=⟨_,rfl⟩;obtain⟨W1,eW⟩:=ZW.out;rw[<-eW];have gX:Hid (Fr aH w W1):=by subst eW;exact aZ _
 have BX:Hid (W1.heap[w.heap.size]? =ae (.cells #[.int .i64 k,.int .i64 p,.int .i64 q,.int .i64 m,.string ts,.bool fl] 28 (0,0))):=by subst eW;exact aB0 _ _
 clear ZW eW;have b0:W1.cell? ⟨w.heap.size,0,af⟩=ae (.int .i64 k):=aG BX.out 0;have b1:W1.cell? ⟨w.heap.size,1,af⟩=ae (.int .i64 p):=aG BX.out 1;have b2:W1.cell? ⟨w.heap.size,2,af⟩=ae (.int .i64 q):=aG BX.out 2;have b3:W1.cell? ⟨w.heap.size,3,af⟩=ae (.int .i64 m):=aG BX.out 3;have b4:W1.cell? ⟨w.heap.size,4,af⟩=ae (.string ts):=aG BX.out 4;have b5:W1.cell? ⟨w.heap.size,5,af⟩=ae (.bool fl):=aG BX.out 5;have d1:=(gX.out.cell (p:=⟨pb,1,af⟩) aB id).trans c1;have d2:=(gX.out.cell (p:=⟨pb,2,af⟩) aB id).trans c2;have rU:Hid (∀V,aK prog 49 #[.int .i64 p,.int .i64 P] V fun e w'=>∃k:Nat,k<P/\e=.returned (.int .i64 k)/\V=w'):=fun V=>uP p xY.out.1 XX.1 (by omega) V;have rJ:Hid (∀V,aK prog 49 #[.int .i64 q,.int .i64 Q] V fun e w'=>∃k:Nat,k<Q/\e=.returned (.int .i64 k)/\V=w'):=fun V=>uP q xY.out.2.1 WX.1 (by omega) V;go_region_held3 (fun w'=>w'.cell? ⟨w.heap.size,1,af⟩=ae (.int .i64 p)/\w'.cell? ⟨pb,1,af⟩=ae (.int .i64 P))
  (first|exact⟨b1,d1⟩|go_keep)
  ((go_at_call 49;with_reducible refine(rU.out _).mono ?_;rintro e w2 ⟨i,hi,rfl,rfl⟩))
 go_wp2_with fail
 go_region_held3 (fun w'=>w'.cell? ⟨w.heap.size,2,af⟩=ae (.int .i64 q)/\w'.cell? ⟨pb,2,af⟩=ae (.int .i64 Q))
  (first|exact⟨b2,d2⟩|go_keep)
  ((go_at_call 49;with_reducible refine(rJ.out _).mono ?_;rintro e w3 ⟨j,hj,rfl,rfl⟩))
 have F2:Hid (Fr aH w W1.drew.drew):=(gX.out.drew).drew;have HI:Hid ((i:Int)<s.h.P/\(j:Int)<s.h.Q):=⟨by have:=xY.out.2.2.1;omega,by have:=xY.out.2.2.2;omega⟩;by_cases k1:k=1
 ·subst k1;go_wp2_with fail
  refine(auj (A.out.after F2.out) (by have:=fF.out;omega) HI.out.1).mono ?_;rintro e w4 ⟨rfl,s2,t2⟩;have T:Hid (jZ w B pb xb s (N+21) (.returned<|.bool true) w4):=⟨rfl,s2,(bQ.skip A.out F2.out t2).mono<|by omega⟩;clear t2;go_wp2_with fail
  go_ret;exact T.out
 by_cases k2:k=2
 ·subst k2;go_wp2_with fail
  refine(atW (A.out.after F2.out) (by have:=fF.out;omega) HI.out.1 HI.out.2).mono ?_;rintro e w4 ⟨rfl,s2,t2⟩;have T:Hid (jZ w B pb xb s (N+21) (.returned<|.bool true) w4):=⟨rfl,s2,(bQ.skip A.out F2.out t2).mono<|by omega⟩;clear t2;go_wp2_with fail
  go_ret;exact T.out
 by_cases k3:k=3
 ·subst k3;have kT:∀{ts':ByteArray},ts'.size<=8->aK prog 61 #[.pointer<|ae ⟨pb,0,af⟩,.int .i64 i,.int .i64 j,.string ts'] W1.drew.drew fun e w'=>e=.returned (.bool true)/\Hid (jZ w B pb xb s (N+21) (.returned<|.bool true) w'):=fun h8=>
   (auL (A.out.after F2.out) (by have:=fF.out;omega) HI.out.1 HI.out.2 h8).mono fun e w' ⟨h1,s2,t2⟩=>⟨h1,rfl,s2,(bQ.skip A.out F2.out t2).mono<|by omega⟩
  have HF:Hid (∀{ts':ByteArray},ts'.size<=8->aK prog 61 #[.pointer<|ae ⟨pb,0,af⟩,.int .i64 i,.int .i64 j,.string ts'] W1.drew.drew fun e w'=>e=.returned (.bool true)/\Hid (jZ w B pb xb s (N+21) (.returned<|.bool true) w')):=kT;clear kT;by_cases h8:(8:Int)<(ts.size:Int)
  ·go_wp2_with fail
   refine(HF.out (ts':=ts.extract 0 8) (by rw[ByteArray.size_extract];omega)).mono ?_;rintro e w4 ⟨rfl,T⟩;go_wp2_with fail
   go_ret;exact T.out
  ·go_wp2_with fail
   refine(HF.out<|by omega).mono ?_;rintro e w4 ⟨rfl,T⟩;go_wp2_with fail
   go_ret;exact T.out
 by_cases k4:k=4
 ·subst k4;go_wp2_with fail
  refine(aua (A.out.after F2.out) (by have:=fF.out;omega) HI.out.1 fl).mono ?_;rintro e w4 ⟨rfl,s2,t2⟩;have T:Hid (jZ w B pb xb s (N+21) (.returned<|.bool true) w4):=⟨rfl,s2,(bQ.skip A.out F2.out t2).mono<|by omega⟩;clear t2;go_wp2_with fail
  go_ret;exact T.out
 by_cases k6:k=6
 ·subst k6;go_wp2_with fail
  refine(abX (A.out.after F2.out) (by have:=fF.out;omega) 6 p q m HM.out fl<|by decide).mono ?_;rintro e w4 ⟨rfl,s2,t2⟩;have T:Hid (jZ w B pb xb s (N+21) (.returned<|.bool true) w4):=⟨rfl,s2,(bQ.skip A.out F2.out t2).mono<|by omega⟩;clear t2;go_wp2_with fail
  go_ret;exact T.out
 by_cases k7:k=7
 ·subst k7;go_wp2_with fail
  refine(abX (A.out.after F2.out) (by have:=fF.out;omega) 7 p q m HM.out fl<|by decide).mono ?_;rintro e w4 ⟨rfl,s2,t2⟩;have T:Hid (jZ w B pb xb s (N+21) (.returned<|.bool true) w4):=⟨rfl,s2,(bQ.skip A.out F2.out t2).mono<|by omega⟩;clear t2;go_wp2_with fail
  go_ret;exact T.out
 by_cases k8:k=8
 ·subst k8;go_wp2_with fail
  refine(abX (A.out.after F2.out) (by have:=fF.out;omega) 8 p q m HM.out fl<|by decide).mono ?_;rintro e w4 ⟨rfl,s2,t2⟩;have T:Hid (jZ w B pb xb s (N+21) (.returned<|.bool true) w4):=⟨rfl,s2,(bQ.skip A.out F2.out t2).mono<|by omega⟩;clear t2;go_wp2_with fail
  go_ret;exact T.out
 by_cases k9:k=9
 ·subst k9;go_wp2_with fail
  refine(au3 (A.out.after F2.out) (by have:=fF.out;omega) p q m HM.out fl).mono ?_;rintro e w4 ⟨rfl,s2,t2⟩;have T:Hid (jZ w B pb xb s (N+21) (.returned<|.bool true) w4):=⟨rfl,s2,(bQ.skip A.out F2.out t2).mono<|by omega⟩;clear t2;go_wp2_with fail
  go_ret;exact T.out
 by_cases Uj:k=10
 ·subst Uj;have d0:W1.drew.drew.cell? ⟨pb,0,af⟩=ae (.pointer<|ae ⟨xb,0,af⟩):=(F2.out.cell (p:=⟨pb,0,af⟩) aB id).trans c0;have g5:W1.drew.drew.cell? ⟨w.heap.size,5,af⟩=ae (.bool fl):=b5;have RQ:Hid (W1.drew.drew.drew.heap[w.heap.size]? =ae (.cells #[.int .i64 10,.int .i64 p,.int .i64 q,.int .i64 m,.string ts,.bool fl] 28 (0,0))):=BX.out;have HC:Hid (∀V:ah,Fr aH w V->V.heap[w.heap.size]? =ae (.cells #[.int .i64 10,.int .i64 p,.int .i64 q,.int .i64 m,.string ts,.bool fl] 28 (0,0))->aK prog 52 #[.pointer<|ae ⟨xb,0,af⟩,.int .i64 j,.bool fl] V fun e w'=>e=.returned (.int .i64 0)/\Hid (jZ w B pb xb s (N+21) (.returned<|.bool true) w')/\(w'.cell? ⟨pb,0,af⟩=ae (.pointer<|ae ⟨xb,0,af⟩)/\w'.cell? ⟨w.heap.size,5,af⟩=ae (.bool fl))):=fun V f zq=>
   (avM (A.out.after f) HI.out.2 fl).mono fun e w' ⟨h1,s2,t2⟩=>⟨h1,⟨rfl,s2,(bQ.skip A.out f t2.to).mono<|by omega⟩,t2.to.at_.cells.1,aG ((t2.to.fr.block _ (aS zq)<|(A.out.after f).zf zq rfl).trans zq) 5⟩
  go_wp2_with fail
  go_region_held3 (fun w'=>w'.cell? ⟨pb,0,af⟩=ae (.pointer<|ae ⟨xb,0,af⟩)/\w'.cell? ⟨w.heap.size,5,af⟩=ae (.bool fl))
   (first|with_reducible exact C4|exact⟨d0,g5⟩|go_keep)
   ((go_at_call 52;with_reducible refine(HC.out _ (F2.out.drew) RQ.out).mono ?_;rintro e w4 ⟨rfl,T,C4⟩))
  go_wp2_with fail
  go_ret;exact T.out
 by_cases Uk:k=13
 ·subst Uk;have d0:W1.drew.drew.cell? ⟨pb,0,af⟩=ae (.pointer<|ae ⟨xb,0,af⟩):=(F2.out.cell (p:=⟨pb,0,af⟩) aB id).trans c0;have HC:=avN<|A.out.after F2.out;have HC0:Hid (aK prog 44 #[.pointer<|ae ⟨xb,0,af⟩] W1.drew.drew fun e w'=>e=.returned (.int .i64<|if s.h.up then 0 else 5)/\Jf W1.drew.drew w' B pb xb N s):=HC;clear HC;go_wp2_with fail
  refine HC0.out.mono ?_;rintro e w4 ⟨rfl,fe⟩;have T:Hid (∀V,Fr aH w4 V->jZ w B pb xb s (N+21) (.returned<|.bool true) (V.setCell ⟨pb,6,af⟩<|.bool true)):=fun V f=>by
   obtain⟨s2,t2⟩:=fe.note f;exact⟨rfl,s2,(bQ.skip A.out F2.out t2).mono<|by omega⟩
  have e6:w4.cell? ⟨pb,6,af⟩=ae (.bool<|!s.h.up):=fe.cell A.out;have LI:pb<w4.heap.size:=mX e6;have Df:w4.frozen? ⟨pb,6,af⟩=false:=fe.soft;clear fe;cases hu:s.h.up with
  |true=>
   rw[hu]at e6;simp only[if_true,MW]at*
   go_wp2
   go_ret;exact T.out _<|Fr.refl _ _
  |false=>
   rw[hu]at e6;simp only[lq,lu,adN]at*
   go_wp2
   go_ret;exact T.out _<|Fr.refl _ _
 by_cases Ul:k=14
 ·subst Ul;have d0:W1.drew.drew.cell? ⟨pb,0,af⟩=ae (.pointer<|ae ⟨xb,0,af⟩):=(F2.out.cell (p:=⟨pb,0,af⟩) aB id).trans c0;have HC:=avO (A.out.after F2.out) fF.out;have HC0:Hid (aK prog 29 #[.pointer<|ae ⟨xb,0,af⟩] W1.drew.drew fun e w'=>e=.returned (.int .i64<|if s.h.up then 6 else 0)/\Jg W1.drew.drew w' B pb xb N s):=HC;clear HC;go_wp2_with fail
  refine HC0.out.mono ?_;rintro e w4 ⟨rfl,fe⟩;have T:Hid (∀V,Fr aH w4 V->jZ w B pb xb s (N+21) (.returned<|.bool true) (V.setCell ⟨pb,6,af⟩<|.bool false)):=fun V f=>by
   obtain⟨s2,t2⟩:=fe.note f;exact⟨rfl,s2,(bQ.skip A.out F2.out t2).mono<|by omega⟩
  have e6:w4.cell? ⟨pb,6,af⟩=ae (.bool<|!s.h.up):=fe.cell A.out;have LI:pb<w4.heap.size:=mX e6;have Df:w4.frozen? ⟨pb,6,af⟩=false:=fe.soft;clear fe;cases hu:s.h.up with
  |true=>
   rw[hu]at e6;simp only[if_true,MW]at*
   go_wp2
   go_ret;exact T.out _<|Fr.refl _ _
  |false=>
   rw[hu]at e6;simp only[lq,lu,adN]at*
   go_wp2
   go_ret;exact T.out _<|Fr.refl _ _
 have hk:k≠1/\k≠2/\k≠3/\k≠4/\k≠5/\k≠6/\k≠7/\k≠8/\k≠9/\k≠10/\k≠11/\k≠13/\k≠14:=⟨k1,k2,k3,k4,h5,k6,k7,k8,k9,Uj,JG,Uk,Ul⟩;have T:Hid (jZ w B pb xb s (N+21) (.returned<|.bool true) W1.drew.drew):=⟨rfl,s,(bQ.still A.out F2.out).mono<|by omega⟩;obtain⟨k1,k2,k3,k4,k5,k6,k7,k8,k9,Uj,k11,Uk,Ul⟩:=hk;go_wp2
 go_ret;exact T.out
def acd{Bn:ai.bP}(k p q m:Int)(ts:ByteArray)(fl:Bool):ai.az Bn (uQ k p q m ts fl):=.agg fun x hx=>by
 simp only[rP,jC,oN,oO]at hx;rcases hx with rfl|rfl|rfl|rfl|rfl|rfl
 ·exact .int
 ·exact .int
 ·exact .int
 ·exact .int
 ·exact .string
 ·exact .bool
def avQ(a:bu w B pb xb N s)(hN:N<=70000000)(hp:¬(s0 pb\/fo pb))(k p q m:Int)(ip:dQ p)(iq:dQ q)(im:dQ m)(fl:Bool)(h5:k≠5)(JG:k≠11):
 ai.ug (ai.bz fo s0) prog 48 #[.pointer<|ae ⟨pb,0,af⟩,uQ k p q m ts fl] w (fun B' v w'=>v=.bool true/\sN fo s0 w w' B pb xb s (N+21) B'):=by
 intro c cs;refine ai.Reach.ok fun bD=>?_;have xm:∀b,s0 b\/fo b->1<=b:=fun b hb=>(bD.low b hb).1;refine(ai.aiz (R:=fun t d=>jZ (ai.re w t d) B pb xb s<|N+21) (ai.lets xm) (zk xm) func48 rfl (ai.aiy [true,true,true,false,true,true,true,true,true,true,true,true,true,true,false] _) avL (ai.bG.two (GX hp<|aS a.pa.blk)<|acd k p q m ts fl) (fun t d=>avP (a.re t d) hN k p q m ip iq im fl h5 JG) (fun t d e w' hq=>⟨_,hq.1⟩) c cs).mono ?_;rintro B' fr' w' ⟨v,rfl,rfl,_,on,t,d,t',j,hq⟩;obtain⟨h1,⟨s',ht⟩⟩:=hq;exact⟨v,rfl,by simpa using h1,⟨_,s',rfl,fun k hk=>.inl hk,(ht.KR on).Ae a⟩⟩
end
end
end Go.Proofs.YtkelpcjiediamaaGreat
