import Derived.Test.YtkelpcjiediamaaGreatQb48
set_option maxRecDepth 100000
set_option maxHeartbeats 0
set_option linter.all false
namespace Go.Proofs.YtkelpcjiediamaaGreat
open Go renaming Calls→aK,Frame→aV,TypeId→bW,Value→aj,World→ah,execOp→dJ,stepG→aW,undef→ag
open Option renaming none→af,some→ae
open Go.Proofs.Tryz
section
section
variable{w w1 w':ah}{B pb xb N M:Nat}{s:dB}{fo s0:Nat->Prop}{B':ai.bP}
def bu.base(a:bu w B pb xb N s):B<=w.heap.size:=YO<|YF a.pa.hb<|aS a.pa.blk
def sN.mono(p:sN fo s0 w w' B pb xb s N B')(h:N<=M):sN fo s0 w w' B pb xb s M B':=by
 obtain⟨s1,s',e,g,f⟩:=p.ex;exact⟨s1,s',e,g,f.mono h⟩
def sN.go(p:sN fo s0 w w' B pb xb s N B')(a:bu w B pb xb M s)(hp:¬(s0 pb\/fo pb))(hB:∀k,s0 k->B<=k):
 ∃s1 s',B'=ai.bz fo s1/\(∀k,s1 k->s0 k\/w.heap.size<=k)/\¬(s1 pb\/fo pb)/\(∀k,s1 k->B<=k)/\zi w w' B pb xb s N s':=by
 obtain⟨s1,s',e,g,f⟩:=p.ex;refine⟨s1,s',e,g,fun z=>z.elim (fun z=>(g pb z).elim (fun y=>hp<|.inl y) fun y=>?_) fun y=>hp<|.inr y,fun k hk=>(g k hk).elim (hB k) fun y=>dP a.base y,f⟩;have:=aS a.pa.blk;omega
def sN.trans{fo s1:Nat->Prop}{s2:dB}(f:zi w w1 B pb xb s N s2)(g:∀k,s1 k->s0 k\/w.heap.size<=k)(q:sN fo s1 w1 w' B pb xb s2 M B'):sN fo s0 w w' B pb xb s M B':=by
 obtain⟨s3,s',e,g2,f2⟩:=q.ex;exact⟨s3,s',e,fun k hk=>(g2 k hk).elim (g k) fun y=>.inr<|dP f.dV.size y,f.trans f2⟩
end
end
section
open Go Go.Conc
open _root_.Go.Proofs.YtkelpcjiediamaaGreat.Twin _root_.Go.Proofs.YtkelpcjiediamaaGreat.eX
def avR{a:Act}{i j:Nat}{v:aj}(h:i≠j):(a.put (ae i) v).tmps.getD j ag=a.tmps.getD j undef:=by
 simp[Act.put,Ff,gu h]
def put_eq{a:Act}{i:Nat}{v:aj}(h:i<a.tmps.size):(a.put (ae i) v).tmps.getD i ag=v:=by
 simp[Act.put,Ff,h]
def avS{a:Act}{i:Nat}{v:aj}:(a.put (ae i) v).tmps.size=a.tmps.size:=by simp[Act.put]
structure GY(a:Act)(i:Nat)(v:aj)(a':Act):Prop where
 sz:a'.tmps.size=a.tmps.size
 at_:i<a.tmps.size->a'.tmps.getD i ag=v
 ne:∀j,i≠j->a'.tmps.getD j ag=a.tmps.getD j ag
 df:a'.defers=a.defers
 ok:∀B:ai.bP,ai.bG B a.tmps->ai.az B v->ai.bG B a'.tmps
def GY.of(a:Act)(i:Nat)(v:aj):GY a i v (a.put (ae i) v):=⟨avS,put_eq,fun _ h=>avR h,rfl,fun _ h hv=>h.set hv i⟩
section
variable{fo s:Nat->Prop}{b:aV}{a:Act}{ops:Array Oper}{i:Nat}{rest:List Nat}{k:List Item}{cs cs2:List aV}{w:ah}{Q:ai.bP->aV->ah->Prop}{o:Oper}{v:aj}{d:Nat}
def Af(ho:ops[i]? =ae o)(hg:o.guard=af)(hd:o.dst=ae d)(hk:b.kind≠.early)(aF:ai.ry prog (ai.bz fo s).let_ o.op=true)(hf:∃fn,prog.funcs[b.fn]? =ae fn)(Jy:ai.bG (ai.bz fo s) a.tmps)
 (hr:∀d,(dJ a.eval o).run prog (w.at d)=.ok (.value v) (w.at d))
 (hn:∀a' dd,GY a d v a'->ai.Reach (ai.bz fo s) prog (b.at a'<|.inRegion ops rest::k) cs (w.at dd) Q cs2):ai.Reach (ai.bz fo s) prog (b.at a<|.inRegion ops (i::rest)::k) cs w Q cs2:=
 ai0 ho (by simp[Region.wanted,hg]) hk aF hf Jy hr fun dd=>by rw[hd];exact hn _ dd<|.of a d v
variable{f:FuncId}{n:Nat}{s0 s1:Nat->Prop}
def OH{fn:Func}{c:Code}{args:Array Operand}{kP:Array bW}{vs:Array aj}{post:ai.bP->aj->ah->Prop}(ho:ops[i]? =ae o)(hg:o.guard=af)(hd:o.dst=ae d)(hk:b.kind≠.early)(aF:o.op=.call {callee:=.value<|.func f,args,argTypes:=kP})(hf:prog.funcs[f]? =ae fn)(Ht:(fn.name== "runtime.NumGoroutine")=false)(hb:fn.body=ae c)(hv:args.map a.eval=vs)
 (Pn:∀d,ai.ug (ai.bz fo s) prog f vs (w.at d) post)(hn:∀B' v w' a',GY a d v a'->post B' v w'->ai.Reach B' prog (b.at a'<|.inRegion ops rest::k) cs w' Q cs2):ai.Reach (ai.bz fo s) prog (b.at a<|.inRegion ops (i::rest)::k) cs w Q cs2:=
 WB ho (by simp[Region.wanted,hg]) hk aF hf Ht hb hv Pn fun B' v w' hp=>by rw[hd];exact hn B' v w' _ (.of a d v) hp
def Jh{W:ah}(h:a.tmps.getD n ag=v)(aF:o.op=.move (.tmp n)\/o.op=.assign (.tmp n)):(dJ a.eval o).run prog W=.ok (.value v) W:=by
 subst h;rcases aF with aF|aF<;>(unfold dJ;rw[aF];rfl)
def step_ret{l:List Item}{w1:ah}:aW prog true (G ((base f).at a<|.code .ret::l) cs) w1=.go (G {(base f).at a (.code .ret::l)with mode:=.returning} cs) w1 #[]:=by
 simp[aW,stepG.exec,Frame.at,G,base]
def OI{fo:Nat->Prop}{m:Nat}(g:∀k,s1 k->s0 k\/n<=k)(hm:n<=m)(hv:ai.az ((ai.bz fo s0).cut n) v):ai.az ((ai.bz fo s1).cut m) v:=
 ai.az.mono (B:=(ai.bz fo s1).cut m) (B':=(ai.bz fo s0).cut n) (fun b (z:(s1 b\/fo b)\/m<=b)=>show(s0 b\/fo b)\/n<=b from z.elim (fun z=>z.elim (fun z=>(g b z).imp .inl id) fun z=>.inl<|.inr z) fun z=>.inr<|dP hm z) rfl hv
def Ag{fo:Nat->Prop}(g:∀k,s1 k->s0 k\/n<=k)(hv:ai.az ((ai.bz fo s0).cut n) v):ai.az (ai.bz fo s1) v:=
 ai.az.mono (B:=ai.bz fo s1) (B':=(ai.bz fo s0).cut n) (fun b (z:s1 b\/fo b)=>show(s0 b\/fo b)\/n<=b from z.elim (fun z=>(g b z).imp .inl id) fun z=>.inl<|.inr z) rfl hv
end
end
section
open Go.RowKit Go.Maps
noncomputable def OJ:Code:=ai.gK [true] GN
def avT:ai.codeOk prog ai.mZ OJ=true:=by kernel_rfl
section
variable{w w':ah}{B xb pb N:Nat}{s s':dB}
def vX.one(F:vX s 0)(a:bu w B pb xb N s){p:PL}(hp:s.h.pl[0]? =ae p):(p.s.aU 0 p.s.bZ).length=1:=by
 have hz:∀(i:Nat) (x:PS),(i:Int)<s.h.P->s.h.ps[i]? =ae x->x.s=0:=fun i x hi hx=>(F.lv i x hi hx).over<|a.pg.sn.up F.up i x hx;have qc:=a.pg.sn.aut F.up hz hp;obtain⟨t,hw,hd⟩:=F.wr;rw[a.pg.count hp<|auu qc,hw];have:iE s.g.fa 0 t=1:=(Ot a.pg).2 hd;simp[this]
def avU{a:Array aj}(U:GV xb pb a)(A:bu w B pb xb N s)(hN:N<=80000000)(F:vX s 0):
 OJ.wp prog (fun e x w'=>e=.ret/\x.tmps.getD 2 ag=.pointer (ae ⟨pb,0,af⟩)/\∃s',bQ w w' B pb xb s (N+6) s') ⟨a,[]⟩ w:=by
 obtain⟨p0,zo⟩:=A.q (q:=0) (by have:=A.pg.sn.Q1.1;omega);have HL:Hid (aK prog 21 #[.pointer<|ae ⟨pb,0,af⟩] w<|BD w B pb xb s (N+6)<|aiN s):=aiO A hN;have H1:Hid ((p0.s.aU 0 p0.s.bZ).length=1/\s.h.pl[0]? =ae p0/\1<=s.h.Q):=⟨F.one A zo,zo,A.pg.sn.Q1.1⟩;obtain⟨sz,a3,a5,a9,Xf,Xg⟩:=U;rw[Lc a,sz,aiH];simp only[yM,zL,a3,a5,a9,Xf,Xg];simp only[Ff];clear sz a3 a5 a9 Xf Xg A hN F zo;obtain⟨Q0,iT⟩:∃Q0:Exit->Act->ah->Prop,(fun e x w'=>e=.ret/\x.tmps[2]?.getD ag=.pointer (ae ⟨pb,0,af⟩)/\∃s',bQ w w' B pb xb s (N+6) s')=Q0:=⟨_,rfl⟩;rw[iT];simp only[OJ,GN,Dw,Dx,ai.gK,d47,Tryz.f47,gQ,if_true];have Ld:Hid ((fun e x w'=>e=.ret/\x.tmps[2]?.getD ag=.pointer (ae ⟨pb,0,af⟩)/\∃s',bQ w w' B pb xb s (N+6) s')=Q0):=iT;clear iT;go_wp2_with fail
 refine HL.out.mono ?_;rintro e w1 ⟨rfl,s1,t1,Q,hQ,lk⟩;have T1:Hid (bQ w w1 B pb xb s (N+6) s1):=t1;have Aj:=lk.gt 0 p0 (by have:=H1.out.2.2;omega) H1.out.2.1;have Yl:0<s1.v.gs.length:=by rw[t1.at_.pa.gl];exact(dD.1 Aj).1
 obtain⟨gg,gc,vk,ab3,_⟩:=uO t1.at_.pa.gt Yl;obtain⟨u0,YB⟩:∃u,s1.v.gs[0]? =ae u:=⟨_,dR Yl⟩;have hr:=t1.at_.pa.rc 0 u0 _ YB Aj;obtain⟨ua,uc,rfl⟩:=YV hr;rw[H1.out.1]at YB;have e9:w1.cell? ⟨pb,9,af⟩=ae (.slice (ae ⟨gg,0,af⟩) s1.v.gs.length gc):=by rw[<-vk];exact t1.at_.cells.2.2.2.2.2.2.2.1
 have eg:w1.cell? ⟨gg,0,af⟩=ae (.slice ua 1 uc):=by
  have hr:=t1.at_.pa.gt;rw[vk]at hr;rw[hr.cellAt 0<|by omega];exact YB
 have aB:=aS t1.at_.pa.blk;have Ho:(0:Int)<(s1.v.gs.length:Int):=by omega
 clear t1 lk Aj hr YB vk hQ;go_wp2_with fail
 rw[<-Ld.out];exact⟨rfl,rfl,s1,T1.out⟩
end
end
section
open Go.RowKit Go.Maps Go.Conc Go.Proofs.YtkelpcjiediamaaGreat.Twin eX
noncomputable def d48:Code:=Tryz.f48.body.getD .skip
def RV:List Bool:=[true,true,true,false,true,true,true,true,true,true,true,true,true,true,false]
noncomputable def s48:Code:=ai.gK RV d48
noncomputable def Ji:Array Oper:=match iD s48 with| .region _ o _=>o|_=>#[]
def ai5:s48=.seq (.region 17 Ji false) .ret:=by kernel_rfl
def avV:ai.codeOk prog ai.mZ (ai.pY RV d48)=true:=by kernel_rfl
noncomputable def sQ(i:Nat):Oper:=Ji.getD i default
def RX:Ji[0]? =ae (sQ 0)/\Ji[1]? =ae (sQ 1)/\Ji[2]? =ae (sQ 2)/\Ji[3]? =ae (sQ 3)/\Ji[4]? =ae (sQ 4):=by and_intros<;>kernel_rfl
def RY:(sQ 0).guard=af/\(sQ 1).guard=af/\(sQ 2).guard=af/\(sQ 3).guard=af/\(sQ 4).guard=none:=by and_intros<;>kernel_rfl
def RZ:(sQ 0).dst=ae 66/\(sQ 1).dst=ae 67/\(sQ 2).dst=ae 68/\(sQ 3).dst=ae 69/\(sQ 4).dst=ae 4:=by and_intros<;>kernel_rfl
def GZ:(sQ 0).op=.move (.tmp 0)/\(sQ 1).op=.fieldAddr 28 (.tmp 3) 0/\(sQ 2).op=.load 3 (.tmp 67)/\(sQ 3).op=.call {callee:=.value<|.func 108,args:=#[.tmp 66,.tmp 68],argTypes:=#[40,3]}/\(sQ 4).op=.assign (.tmp 69):=by and_intros<;>kernel_rfl
def avW:List.range Ji.size=[0,1,2,3,4]:=by kernel_rfl
structure T48(pb b:Nat)(k p q m:Int)(ts:ByteArray)(fl:Bool)(a:Array aj)(w':ah):Prop where
 sz:a.size=150
 a0:a.getD 0 ag=.pointer (ae ⟨pb,0,af⟩)
 a3:a.getD 3 ag=.pointer (ae ⟨b,0,af⟩)
 bx:w'.heap[b]? =ae (.cells #[.int .i64 k,.int .i64 p,.int .i64 q,.int .i64 m,.string ts,.bool fl] 28 (0,0))
section
variable{w w':ah}{B pb xb N:Nat}{s s':dB}{fo s0:Nat->Prop}
variable{ts:ByteArray}{W:ah}{a:Act}{b:Nat}{o:Oper}{k:Int}
def avX(a:bu w B pb xb N s)(k p q m:Int)(hk:k=5\/k=11)(hp:dQ p)(hq:dQ q)(fl:Bool):
 (ai.pY RV d48).wp prog (fun e x w'=>e=.ret/\T48 pb w.heap.size k p q m ts fl x.tmps w'/\Fr aH w w') {tmps:=#[.pointer<|ae ⟨pb,0,af⟩,uQ k p q m ts fl]++Array.replicate (Tryz.f48.ntmps- #[Value.pointer<|ae ⟨pb,0,af⟩,uQ k p q m ts fl].size) ag,defers:=[]} w:=by
 obtain⟨P,hP⟩:=vw (show 0<=s.h.P by have:=a.pg.sn.P1;omega);obtain⟨Q,hQ⟩:=vw (show 0<=s.h.Q by have:=a.pg.sn.Q1;omega);have XX:1<=P/\P<=6:=by have:=a.pg.sn.P1;omega
 have WX:1<=Q/\Q<=4:=by have:=a.pg.sn.Q1;omega
 have A:Hid (bu w B pb xb N s):=a;have xY:Hid (dQ p/\dQ q/\s.h.P=(P:Int)/\s.h.Q=(Q:Int)):=⟨hp,hq,hP,hQ⟩;obtain⟨c0,c1,c2,_⟩:=a.cells;rw[hP]at c1;rw[hQ]at c2;have aB:=aS a.pa.blk;unfold uQ;have HK:Hid (k=5\/k=11):=hk;clear a hp hq hP hQ hk;simp only[ntmps48,Fv,ny,vC,Nat.reduceAdd,Nat.reduceSub,Uy,Ux,UB,Uz,wI,mV];obtain⟨Q0,iT⟩:∃Q0:Exit->Act->ah->Prop,(fun e x w'=>e=.ret/\T48 pb w.heap.size k p q m ts fl x.tmps w'/\Fr aH w w')=Q0:=⟨_,rfl⟩;rw[iT];simp only[RV,d48,Tryz.f48,gQ,ai.pY,ai.Dv,if_true,lu,lq];rw[<-iT];clear iT;go_wp2_with fail
 have ZW:Hid (∃W:ah,W=w.alloc (.cells #[.int .i64 k,.int .i64 p,.int .i64 q,.int .i64 m,.string ts,.bool fl] 28 (0,0))):=⟨_,rfl⟩;obtain⟨W1,eW⟩:=ZW.out;rw[<-eW];have gX:Hid (Fr aH w W1):=by subst eW;exact aZ _
 have BX:Hid (W1.heap[w.heap.size]? =ae (.cells #[.int .i64 k,.int .i64 p,.int .i64 q,.int .i64 m,.string ts,.bool fl] 28 (0,0))):=by subst eW;exact aB0 _ _
 clear ZW eW;have b0:W1.cell? ⟨w.heap.size,0,af⟩=ae (.int .i64 k):=aG BX.out 0;have b1:W1.cell? ⟨w.heap.size,1,af⟩=ae (.int .i64 p):=aG BX.out 1;have b2:W1.cell? ⟨w.heap.size,2,af⟩=ae (.int .i64 q):=aG BX.out 2;have d1:=(gX.out.cell (p:=⟨pb,1,af⟩) aB id).trans c1;have d2:=(gX.out.cell (p:=⟨pb,2,af⟩) aB id).trans c2;have rU:Hid (∀V,aK prog 49 #[.int .i64 p,.int .i64 P] V fun e w'=>∃k:Nat,k<P/\e=.returned (.int .i64 k)/\V=w'):=fun V=>uP p xY.out.1 XX.1 (by omega) V;have rJ:Hid (∀V,aK prog 49 #[.int .i64 q,.int .i64 Q] V fun e w'=>∃k:Nat,k<Q/\e=.returned (.int .i64 k)/\V=w'):=fun V=>uP q xY.out.2.1 WX.1 (by omega) V;go_region_held3 (fun w'=>w'.cell? ⟨w.heap.size,1,af⟩=ae (.int .i64 p)/\w'.cell? ⟨pb,1,af⟩=ae (.int .i64 P))
  (first|exact⟨b1,d1⟩|go_keep)
  ((go_at_call 49;with_reducible refine(rU.out _).mono ?_;rintro e w2 ⟨i,hi,rfl,rfl⟩))
 go_wp2_with fail
 go_region_held3 (fun w'=>w'.cell? ⟨w.heap.size,2,af⟩=ae (.int .i64 q)/\w'.cell? ⟨pb,2,af⟩=ae (.int .i64 Q))
  (first|exact⟨b2,d2⟩|go_keep)
  ((go_at_call 49;with_reducible refine(rJ.out _).mono ?_;rintro e w3 ⟨j,hj,rfl,rfl⟩))
 have F2:Hid (Fr aH w W1.drew.drew):=(gX.out.drew).drew;have X2:Hid (W1.drew.drew.heap[w.heap.size]? =ae (.cells #[.int .i64 k,.int .i64 p,.int .i64 q,.int .i64 m,.string ts,.bool fl] 28 (0,0))):=BX.out;rcases HK.out with rfl|rfl;all_goals
  go_wp2_with fail
  exact⟨⟨rfl,rfl,rfl,X2.out⟩,F2.out⟩
def avY(h:a.eval (.tmp 3)=.pointer (ae ⟨b,0,af⟩))(aF:o.op=.fieldAddr 28 (.tmp 3) 0):(dJ a.eval o).run prog W=.ok (.value<|.pointer<|ae ⟨b,0,af⟩) W:=by
 unfold dJ;rw[aF];simp only[h];go_simp
def avZ(h:a.eval (.tmp 67)=.pointer (ae ⟨b,0,af⟩))(hc:W.cell? ⟨b,0,af⟩=ae (.int .i64 k))(aF:o.op=.load 3 (.tmp 67)):(dJ a.eval o).run prog W=.ok (.value<|.int .i64 k) W:=by
 unfold dJ;rw[aF];simp only[h];go_simp
def sN.at{d N:Nat}{B':ai.bP}(h:sN fo s0 (w.at d) w' B pb xb s N B'):sN fo s0 w w' B pb xb s N B':=by
 obtain⟨s1,s2,e,g,f⟩:=h.ex;exact⟨s1,s2,e,g,f.at_,⟨f.dV.os,f.dV.tape,f.dV.output,f.dV.size,f.dV.block⟩,f.cf⟩
def av1(a:bu w B pb xb N s)(hN:N<=70000000)(hp:¬(s0 pb\/fo pb))(hB:∀k,s0 k->B<=k)(hk:k=5\/k=11):
 ai.ug (ai.bz fo s0) prog 108 #[.pointer<|ae ⟨pb,0,af⟩,.int .i64 k] w (fun B' v w'=>v=.bool true/\sN fo s0 w w' B pb xb s (N+306) B'):=by
 rcases hk with rfl|rfl
 ·exact(avp a (by omega) hp).mono fun B' v w' h=>⟨h.1,h.2.mono<|by omega⟩
 ·exact avH a hN hp hB
def ai6(a:bu w B pb xb N s)(hN:N<=70000000)(hp:¬(s0 pb\/fo pb))(hB:∀k,s0 k->B<=k)(k p q m:Int)(hk:k=5\/k=11)(ip:dQ p)(iq:dQ q)(fl:Bool):
 ai.ug (ai.bz fo s0) prog 48 #[.pointer<|ae ⟨pb,0,af⟩,uQ k p q m ts fl] w (fun B' v w'=>v=.bool true/\sN fo s0 w w' B pb xb s (N+306) B'):=by
 intro c cs;refine ai.Reach.ok fun bD=>?_;have h5:∀b,s0 b\/fo b->1<=b:=fun b hb=>(bD.low b hb).1;have hl:=aS a.pa.blk;rw[aCX (c:=d48) _ func48 rfl];refine ai.abQ (p:=RV) (c:=d48) (S:=s48) (w:=w) (K:=fun t d x w'=>T48 pb w.heap.size k p q m ts fl x.tmps w'/\Fr aH (ai.re w t d) w') (ai.lets h5) (zk h5) rfl (by rw[ai5];intro e;cases e) avV (ai.bG.append (ai.bG.two (GX hp hl)<|acd k p q m ts fl) fun v hv=>by
  obtain⟨_,rfl⟩:=MQ.1 hv;exact ai.ru) rfl ⟨_,func48⟩ rfl (fun t d=>avX (a.re t d) k p q m hk ip iq fl) ?_
 rintro⟨a1,df⟩ w1 l ng KT hd ⟨t,d,t',j,T,hf⟩;obtain rfl:df=[]:=hd;have f1:Fr aH w w1:=⟨ng.os,ng.tape,ng.output,ng.size,fun b hb h=>hf.block b hb h⟩;have at1:=a.after f1;have zq:w1.heap[w.heap.size]? =ae (.cells #[.int .i64 k,.int .i64 p,.int .i64 q,.int .i64 m,.string ts,.bool fl] 28 (0,0)):=T.bx;have vp:ai.az ((ai.bz fo s0).cut w1.heap.size) (.pointer<|ae ⟨pb,0,af⟩):=GX hp<|dY hl f1.size;have vb:ai.az ((ai.bz fo s0).cut w1.heap.size) (.pointer<|ae ⟨w.heap.size,0,af⟩):=GX (fun z=>PI _<|(bD.low _ z).2)<|aS zq;have EK:∀k,s0 k->s0 k\/w1.heap.size<=k:=fun _=>.inl;clear hf ng;rw[ai5];refine lU fun d1=>?_;refine xR fun d2=>?_;rw[avW];refine Af (v:=.pointer<|ae ⟨pb,0,af⟩) RX.1 RY.1 RZ.1 (by decide) (by rw[GZ.1];rfl) ⟨_,func48⟩ (fun v hv=>Ag EK<|KT v hv) (fun d=>Jh T.a0<|.inl GZ.1) fun a2 d3 q2=>?_;have tH:=q2.ok _ KT vp;refine Af (v:=.pointer<|ae ⟨w.heap.size,0,af⟩) RX.2.1 RY.2.1 RZ.2.1 (by decide) (by rw[GZ.2.1];rfl) ⟨_,func48⟩ (fun v hv=>Ag EK<|tH v hv) (fun d=>avY ((q2.ne 3<|by decide).trans T.a3) GZ.2.1) fun a3 d4 q3=>?_;have Ah:=q3.ok _ tH vb;have z2:a2.tmps.size=150:=q2.sz.trans T.sz;have z3:a3.tmps.size=150:=q3.sz.trans z2;refine Af (v:=.int .i64 k) RX.2.2.1 RY.2.2.1 RZ.2.2.1 (by decide) (by rw[GZ.2.2.1];rfl) ⟨_,func48⟩ (fun v hv=>Ag EK<|Ah v hv) (fun d=>avZ (q3.at_ (by rw[z2];decide)) (by exact aG zq 0) GZ.2.2.1) fun a4 d5 q4=>?_;have G5:=q4.ok _ Ah .int;have z4:a4.tmps.size=150:=q4.sz.trans z3;refine OH (f:=108) (post:=fun B' v w'=>v=.bool true/\sN fo s0 w1 w' B pb xb s (N+306) B') RX.2.2.2.1 RY.2.2.2.1 RZ.2.2.2.1 (by decide) GZ.2.2.2.1 func108 rfl rfl (vs:=#[.pointer<|ae ⟨pb,0,af⟩,.int .i64 k]) ?_ (fun d=>(av1 (w:=w1.at d) (at1.same rfl) hN hp hB hk).mono fun B' v w' hg=>⟨hg.1,hg.2.at⟩) ?_
 ·have e1:a4.eval (.tmp 66)=.pointer (ae ⟨pb,0,af⟩):=(q4.ne 66<|by decide).trans ((q3.ne 66<|by decide).trans<|q2.at_ (by rw[T.sz];decide));have e2:a4.eval (.tmp 68)=.int .i64 k:=q4.at_ (by rw[z3];decide);simp[e1,e2]
 rintro B' v w2 a5 q5 ⟨rfl,hw⟩;obtain⟨s1,s',rfl,g,dV⟩:=hw.ex;have Dz:=q5.ok _ G5 .bool;have z5:a5.tmps.size=150:=q5.sz.trans z4;refine ai.Reach.ok fun MO=>?_;have Lj:∀b,s1 b\/fo b->1<=b:=fun b hb=>(MO.low b hb).1;refine Af (v:=.bool true) RX.2.2.2.2 RY.2.2.2.2 RZ.2.2.2.2 (by decide) (by rw[GZ.2.2.2.2];rfl) ⟨_,func48⟩ (fun v hv=>Ag g<|Dz v hv) (fun d=>Jh (q5.at_ (by rw[z4];decide))<|.inr GZ.2.2.2.2) fun a6 d6 q6=>?_;have DC:=q6.ok _ Dz .bool;have r6:a6.tmps.getD 4 ag=.bool true:=q6.at_ (by rw[z5];decide);have df6:a6.defers=[]:=q6.df.trans<|q5.df.trans<|q4.df.trans<|q3.df.trans q2.df;refine xU fun d7=>?_;refine kF (fun _=>step_ret) fun d8=>?_;have Ll:w1.heap.size<=w2.heap.size:=dV.dV.size;refine ai.RI (ai.lets Lj) (zk Lj) (fn:=Tryz.f48) (v:=.bool true) (t:=w2.tape) (k:=0) rfl df6 rfl func48 (fun v hv=>OI g Ll<|DC v hv) ?_ fun d9 _=>⟨_,rfl,rfl,sN.trans ((bQ.still a f1).Ae a) (fun _=>.inl) ⟨s1,s',rfl,g,dV.at_.same rfl,⟨dV.dV.os,dV.dV.tape,dV.dV.output,dV.dV.size,dV.dV.block⟩,dV.cf⟩⟩;rw[<-r6];exact aCT rfl _ _ _
def av4(a:bu w B pb xb N s)(hN:N<=70000000)(hp:¬(s0 pb\/fo pb))(hB:∀k,s0 k->B<=k)(k p q m:Int)(ip:dQ p)(iq:dQ q)(im:dQ m)(fl:Bool):
 ai.ug (ai.bz fo s0) prog 48 #[.pointer<|ae ⟨pb,0,af⟩,uQ k p q m ts fl] w (fun B' v w'=>v=.bool true/\sN fo s0 w w' B pb xb s (N+306) B'):=by
 by_cases h5:k=5
 ·exact ai6 a hN hp hB k p q m (.inl h5) ip iq fl
 by_cases JG:k=11
 ·exact ai6 a hN hp hB k p q m (.inr JG) ip iq fl
 exact(avQ a hN hp k p q m ip iq im fl h5 JG).mono fun B' v w' h=>⟨h.1,h.2.mono<|by omega⟩
end
end
section
open Go.RowKit Go.Maps Go.Conc
open _root_.Go.Proofs.YtkelpcjiediamaaGreat.Twin _root_.Go.Proofs.YtkelpcjiediamaaGreat.eX
def opsOf:Code->Array Oper
 | .region _ o _=>o
 | .block _ c=>opsOf c
 |_=>#[]
noncomputable def Lm:Array Oper:=opsOf<|ai.gK [false,false] GN
noncomputable def BG:Array Oper:=opsOf<|ai.gK [false,true,false,false] GN
noncomputable def BH:Array Oper:=opsOf<|ai.gK [false,true,true,false] GN
noncomputable def vY:Array Oper:=opsOf<|ai.gK [false,true,true,true] GN
noncomputable def Si:Code:=.seq (.seq (.region 16 BG false)<|.cond (.tmp 69) .skip<|.exit 2)<|.seq (.block 3<|.region 18 BH false)<|.region 17 vY false
def av5:Dx≠.ret:=by
 have:Dx=.seq (ai.gK [false] Dx) (ai.gK [true] Dx):=by kernel_rfl
 rw[this];intro e;cases e
def ai7:GN=.seq (.seq (.region 15 Lm false)<|.block 2<|.loop Si) OJ:=by kernel_rfl
def av6:GN≠.ret:=by
 rw[ai7];intro e;cases e
noncomputable def opAt(q:Array Oper)(i:Nat):Oper:=q.getD i default
def OL:Lm[0]? =ae (opAt Lm 0)/\(opAt Lm 0).guard=af/\(opAt Lm 0).dst=ae 12/\(opAt Lm 0).op=.assign (.const<|.int .i64 0)/\List.range Lm.size=[0]:=by and_intros<;>kernel_rfl
def BI:BG[0]? =ae (opAt BG 0)/\(opAt BG 0).guard=af/\(opAt BG 0).dst=ae 68/\(opAt BG 0).op=.move (.tmp 12)/\List.range BG.size=[0,1]:=by and_intros<;>kernel_rfl
def EL:BG[1]? =ae (opAt BG 1)/\(opAt BG 1).guard=af/\(opAt BG 1).dst=ae 69/\(opAt BG 1).op=.binOp .lss 3 (.tmp 68) (.const<|.int .i64 3) 3:=by and_intros<;>kernel_rfl
def OM:BH[0]? =ae (opAt BH 0)/\(opAt BH 0).guard=af/\(opAt BH 0).dst=ae 72/\(opAt BH 0).op=.move (.tmp 3)/\List.range BH.size=[0,1]:=by and_intros<;>kernel_rfl
def Xn:BH[1]? =ae (opAt BH 1)/\(opAt BH 1).guard=af/\(opAt BH 1).dst=ae 73/\(opAt BH 1).op=.call {callee:=.value<|.func 20,args:=#[.tmp 72],argTypes:=#[33]}:=by and_intros<;>kernel_rfl
def OO:vY[0]? =ae (opAt vY 0)/\(opAt vY 0).guard=af/\(opAt vY 0).dst=ae 70/\(opAt vY 0).op=.move (.tmp 12)/\List.range vY.size=[0,1,2]:=by and_intros<;>kernel_rfl
def Sj:vY[1]? =ae (opAt vY 1)/\(opAt vY 1).guard=af/\(opAt vY 1).dst=ae 71/\(opAt vY 1).op=.binOp .add 3 (.tmp 70) (.const<|.int .i64 1) 3:=by and_intros<;>kernel_rfl
def Sl:vY[2]? =ae (opAt vY 2)/\(opAt vY 2).guard=af/\(opAt vY 2).dst=ae 12/\(opAt vY 2).op=.assign (.tmp 71):=by and_intros<;>kernel_rfl
section
variable{a a':Act}{o:Oper}{W:ah}
variable{v:aj}{x y:Operand}{i j:Int}
def ai8(aF:o.op=.assign (.const v)):(dJ a.eval o).run prog W=.ok (.value v) W:=by
 unfold dJ;rw[aF];rfl
def ai9(h:a.eval x=.int .i64 i)(h2:a.eval y=.int .i64 j)(aF:o.op=.binOp .lss 3 x y 3):(dJ a.eval o).run prog W=.ok (.value<|.bool<|decide<|i<j) W:=by
 unfold dJ;rw[aF];simp only[h,h2];go_simp
def av7(h:a.eval x=.int .i64 i)(h2:a.eval y=.int .i64 j)(aF:o.op=.binOp .add 3 x y 3):(dJ a.eval o).run prog W=.ok (.value<|.int .i64<|IntKind.i64.wrap<|i+j) W:=by
 unfold dJ;rw[aF];simp only[h,h2];go_simp
def GV.put{xb pb i:Nat}(U:GV xb pb a.tmps)(q:GY a i v a')(h:i≠3/\i≠5/\i≠9/\i≠10/\i≠11):GV xb pb a'.tmps:=
 ⟨q.sz.trans U.sz,(q.ne 3 h.1).trans U.a3,(q.ne 5 h.2.1).trans U.a5,(q.ne 9 h.2.2.1).trans U.a9,(q.ne 10 h.2.2.2.1).trans U.Xf,(q.ne 11 h.2.2.2.2).trans U.Xg⟩
end
def gW{w:ah}{x y:Nat}:(w.at x).at y=w.at y:=rfl
structure Rd(fo s0:Nat->Prop)(B pb xb:Nat)(w0:ah)(i n:Nat)(a:Act)(w:ah)(s:dB):Prop where
 U:GV xb pb a.tmps
 a12:a.tmps.getD 12 ag=.int .i64 i
 df:a.defers=[]
 ok:ai.bG ((ai.bz fo s0).cut w.heap.size) a.tmps
 at_:bu w B pb xb n s
 eG:n<=18+306*i
 F:vX s (2-i)
 hp:¬(s0 pb\/fo pb)
 hB:∀k,s0 k->B<=k
 fr:Fr (fun k=>B<=k) w0 w
def vX.next{s s2:dB}{w:ah}{B pb xb N m:Nat}(F:vX s (m+1))(a:bu w B pb xb N s)(hN:N<=90000000)(hg:s2.g=s.g)(hu:s2.h.up=s.h.up)(hP:s2.h.P=s.h.P)(r:WW s.h s2.h)(hd:∀p t b,fM s.L p t b->fM s2.L p t b):vX s2 m:=by
 obtain⟨l1,l2⟩:=aur (m:=m) a.pg.sn hN F.up a.ha.hQ.1 F.ins r F.lv;obtain⟨t,h1,h2⟩:=F.wr;exact⟨hu.trans F.up,l2,⟨t,by rw[hg];exact h1,hd _ _ _ h2⟩,fun i x hi hx=>l1 i x (by rw[<-hP];exact hi) hx⟩
def vX.mono{s:dB}{m k:Nat}(F:vX s m)(h:m<=k):vX s k:=⟨F.up,F.ins,F.wr,fun i x hi hx=>(F.lv i x hi hx).mono (fun _ z=>z) h⟩
section
variable{fo:Nat->Prop}{B pb xb:Nat}{w0:ah}{l:List Item}{cs cs2:List aV}{Q:ai.bP->aV->ah->Prop}
def av8(uw:∀s1 n a w s,Rd fo s1 B pb xb w0 3 n a w s->ai.Reach (ai.bz fo s1) prog ((base 47).at a<|.code OJ::l) cs w Q cs2):
 ∀(m i n:Nat) (s0:Nat->Prop) (a:Act) (w:ah) (s:dB),i+m=3->Rd fo s0 B pb xb w0 i n a w s->ai.Reach (ai.bz fo s0) prog ((base 47).at a<|.code Si:: .inLoop Si:: .inBlock 2:: .code OJ::l) cs w Q cs2:=by
 intro m;induction m with
 |zero=>
  intro i n s0 a w s hi R;obtain rfl:i=3:=by omega
  have EK:∀k,s0 k->s0 k\/w.heap.size<=k:=fun _=>.inl;unfold Si;refine lU fun d1=>?_;refine lU fun d2=>?_;refine xR fun d3=>?_;rw[BI.2.2.2.2];refine Af (v:=.int .i64 3) BI.1 BI.2.1 BI.2.2.1 (by decide) (by rw[BI.2.2.2.1];rfl) ⟨_,func47⟩ (fun v hv=>Ag EK<|R.ok v hv) (fun d=>Jh R.a12<|.inl BI.2.2.2.1) fun a2 d4 p2=>?_;have tH:=p2.ok _ R.ok .int;refine Af (v:=.bool false) EL.1 EL.2.1 EL.2.2.1 (by decide) (by rw[EL.2.2.2];rfl) ⟨_,func47⟩ (fun v hv=>Ag EK<|tH v hv) (fun d=>ai9 (a:=a2) (x:=.tmp 68) (y:=.const<|.int .i64 3) (i:=3) (j:=3) (p2.at_ (by rw[R.U.sz];decide)) rfl EL.2.2.2) fun a3 d5 p3=>?_;have Ah:=p3.ok _ tH .bool;refine xU fun d6=>?_;refine kF (fun _=>aCe (t:=false)<|p3.at_ (by rw[p2.sz,R.U.sz];decide)) fun d7=>?_;rw[if_neg<|by decide];refine kF (fun _=>stepG_exit rfl) fun d8=>?_;exact uw s0 n a3 _ s ⟨(R.U.put p2<|by decide).put p3<|by decide,(p3.ne 12<|by decide).trans<|(p2.ne 12<|by decide).trans R.a12,p3.df.trans<|p2.df.trans R.df,Ah,R.at_.same rfl,R.eG,R.F,R.hp,R.hB,⟨R.fr.os,R.fr.tape,R.fr.output,R.fr.size,R.fr.block⟩⟩
 |succ m ih=>
  intro i n s0 a w s hi R;have EK:∀k,s0 k->s0 k\/w.heap.size<=k:=fun _=>.inl;have hd:decide ((i:Int)<3)=true:=jI (by omega);have hn:n<=70000000:=by have:=R.eG;omega
  have hw:IntKind.i64.wrap ((i:Int)+1)=((i+1:Nat):Int):=by rw[wrap_i64 (by omega)<|by omega];rfl
  unfold Si;refine lU fun d1=>?_;refine lU fun d2=>?_;refine xR fun d3=>?_;rw[BI.2.2.2.2];refine Af (v:=.int .i64 i) BI.1 BI.2.1 BI.2.2.1 (by decide) (by rw[BI.2.2.2.1];rfl) ⟨_,func47⟩ (fun v hv=>Ag EK<|R.ok v hv) (fun d=>Jh R.a12<|.inl BI.2.2.2.1) fun a2 d4 p2=>?_;have tH:=p2.ok _ R.ok .int;have U2:=R.U.put p2 (by decide);refine Af (v:=.bool true) EL.1 EL.2.1 EL.2.2.1 (by decide) (by rw[EL.2.2.2];rfl) ⟨_,func47⟩ (fun v hv=>Ag EK<|tH v hv) (fun d=>by rw[<-hd];exact ai9 (a:=a2) (x:=.tmp 68) (y:=.const<|.int .i64 3) (p2.at_ (by rw[R.U.sz];decide)) rfl EL.2.2.2) fun a3 d5 p3=>?_;have Ah:=p3.ok _ tH .bool;have U3:=U2.put p3 (by decide);refine xU fun d6=>?_;refine kF (fun _=>aCe (t:=true)<|p3.at_ (by rw[U2.sz];decide)) fun d7=>?_;rw[if_pos rfl];refine kF (fun _=>aCg) fun d8=>?_;refine lU fun d9=>?_;refine kF (fun _=>aCm) fun d10=>?_;refine xR fun d11=>?_;rw[OM.2.2.2.2];refine Af (v:=.pointer<|ae ⟨xb,0,af⟩) OM.1 OM.2.1 OM.2.2.1 (by decide) (by rw[OM.2.2.2.1];rfl) ⟨_,func47⟩ (fun v hv=>Ag EK<|Ah v hv) (fun d=>Jh U3.a3<|.inl OM.2.2.2.1) fun a4 d12 p4=>?_;have vx:ai.az ((ai.bz fo s0).cut w.heap.size) (.pointer<|ae ⟨xb,0,af⟩):=by rw[<-R.U.a3];exact R.ok.getD ai.ru
  have G5:=p4.ok _ Ah vx;have U4:=U3.put p4 (by decide);rw[gW,gW,gW,gW,gW,gW,gW,gW,gW,gW,gW];refine OH (f:=20) (post:=fun B' v w'=>∃(d:Nat) (Wg:Nat) (s2:dB),B'=ai.bz fo (fun b=>s0 b\/b=Wg)/\w.heap.size<=Wg/\v=.int .i64 s.h.fl.length/\zi (w.at d) w' B pb xb s (n+306) s2/\s2.g=s.g/\s2.h.up=s.h.up/\WW s.h s2.h/\∀p t b,fM s.L p t b->fM s2.L p t b) Xn.1 Xn.2.1 Xn.2.2.1 (by decide) Xn.2.2.2 func20 rfl rfl (vs:=#[.pointer<|ae ⟨xb,0,af⟩]) ?_ (fun d=>(aiZ (w:=w.at d) (N:=n) (s:=s) (R.at_.same rfl) hn R.hp R.hB).mono fun B' v w' hg=>?_) ?_
  ·have e1:a4.eval (.tmp 72)=.pointer (ae ⟨xb,0,af⟩):=p4.at_ (by rw[U3.sz];decide);simp[e1]
  ·obtain⟨Wg,s2,q1,q2,q3,q4,q5⟩:=hg;exact⟨d,Wg,s2,q1,q2,q3,q4,q5⟩
  rintro B' v w2 a5 p5 ⟨dd,Wg,s2,rfl,bH,rfl,dV,eg,eu,rn,dc⟩;have g:∀k,(s0 k\/k=Wg)->s0 k\/w.heap.size<=k:=fun k hk=>hk.imp id fun e=>by rw[e];exact bH
  have Ll:w.heap.size<=w2.heap.size:=dV.dV.size;have Dz:=p5.ok _ G5 .int;have U5:=U4.put p5 (by decide);refine xU fun d13=>?_;refine kF (fun _=>aCE) fun d14=>?_;refine xR fun d15=>?_;rw[OO.2.2.2.2];have e12:a5.tmps.getD 12 ag=.int .i64 i:=(p5.ne 12<|by decide).trans ((p4.ne 12<|by decide).trans<|(p3.ne 12<|by decide).trans<|(p2.ne 12<|by decide).trans R.a12);refine Af (v:=.int .i64 i) OO.1 OO.2.1 OO.2.2.1 (by decide) (by rw[OO.2.2.2.1];rfl) ⟨_,func47⟩ (fun v hv=>Ag g<|Dz v hv) (fun d=>Jh e12<|.inl OO.2.2.2.1) fun a6 d16 p6=>?_;have DC:=p6.ok _ Dz .int;have U6:=U5.put p6 (by decide);refine Af (v:=.int .i64 ((i+1:Nat):Int)) Sj.1 Sj.2.1 Sj.2.2.1 (by decide) (by rw[Sj.2.2.2];rfl) ⟨_,func47⟩ (fun v hv=>Ag g<|DC v hv) (fun d=>by rw[<-hw];exact av7 (a:=a6) (x:=.tmp 70) (y:=.const<|.int .i64 1) (p6.at_ (by rw[U5.sz];decide)) rfl Sj.2.2.2) fun a7 d17 p7=>?_;have Lp:=p7.ok _ DC .int;have U7:=U6.put p7 (by decide);refine Af (v:=.int .i64 ((i+1:Nat):Int)) Sl.1 Sl.2.1 Sl.2.2.1 (by decide) (by rw[Sl.2.2.2];rfl) ⟨_,func47⟩ (fun v hv=>Ag g<|Lp v hv) (fun d=>Jh (p7.at_ (by rw[U6.sz];decide))<|.inr Sl.2.2.2) fun a8 d18 p8=>?_;have ok8:=p8.ok _ Lp .int;have U8:=U7.put p8 (by decide);refine xU fun d19=>?_;refine kF (fun _=>aCN) fun d20=>?_;refine ih (i+1) (n+306) _ a8 _ s2 (by omega) ⟨U8,p8.at_ (by rw[U7.sz];decide),p8.df.trans<|p7.df.trans<|p6.df.trans<|p5.df.trans<|p4.df.trans<|p3.df.trans<|p2.df.trans R.df,fun v hv=>OI g Ll<|ok8 v hv,dV.at_.same rfl,by have:=R.eG;omega,?_,fun z=>z.elim (fun z=>z.elim (fun y=>R.hp<|.inl y) fun e=>?_) fun y=>R.hp<|.inr y,fun k hk=>hk.elim (R.hB k) fun e=>?_,?_⟩
  ·have F':vX s (2-(i+1)+1):=R.F.mono (by omega);exact F'.next R.at_ (by omega) eg eu dV.cf.1 rn dc
  ·have:=aS R.at_.pa.blk;omega
  ·have:=R.at_.base;omega
  ·have f:Fr (fun k=>B<=k) w w2:=⟨dV.dV.os,dV.dV.tape,dV.dV.output,dV.dV.size,dV.dV.block⟩;have f2:=R.fr.trans f fun _=>.inl;exact⟨f2.os,f2.tape,f2.output,f2.size,f2.block⟩
end
def ay.heap{w w1:ah}{B xb n:Nat}{h:HS}(a:ay w B xb n h)(e:w1.heap=w.heap):ay w1 B xb n h:=Twin.ay.same a (fun b _=>by rw[e]) (by rw[e];exact bV _)
structure Sm(fo:Nat->Prop)(w:ah)(B':ai.bP)(v:aj)(w':ah):Prop where
 ex:∃(s1:Nat->Prop) (pb xb n:Nat) (s:dB),B'=ai.bz fo s1/\v=.pointer (ae ⟨pb,0,af⟩)/\bu w' (w.heap.size+1) pb xb n s/\n<=1000/\¬(s1 pb\/fo pb)/\(∀k,s1 k->w.heap.size+1<=k)/\Fr (fun k=>w.heap.size+1<=k) w w'
def av9{fo:Nat->Prop}{w:ah}{p q t k:Nat}(hg:Good p q t k):ai.ug (ai.bz fo fun _=>False) prog 47 #[iK p q t k] w (Sm fo w):=by
 intro c cs;refine ai.Reach.ok fun bD=>?_;have h5:∀b,False\/fo b->1<=b:=fun b hb=>(bD.low b hb).1;rw[aCX (c:=d47) _ func47 rfl];refine ai.abQ (p:=Dw) (c:=d47) (S:=Dx) (w:=w) (K:=fun ta d x w'=>∃xb pb h v,WY w.heap.size xb pb x.tmps/\Started (ai.re w ta d) w' p q t k w.heap.size xb pb h v) (ai.lets h5) (zk h5) rfl av5 auw ?_ rfl ⟨_,func47⟩ rfl (fun ta d=>auB (w:=ai.re w ta d) hg) ?_
 ·refine ai.bG.append (ai.bG.one<|.agg fun x hx=>?_) fun v hv=>?_
  ·simp only[rP,jC,oN,oO]at hx;rcases hx with rfl|rfl|rfl|rfl<;>exact .int
  ·obtain⟨_,rfl⟩:=MQ.1 hv;exact ai.ru
 rintro⟨a1,df⟩ w1 l1 ng KT hd ⟨ta,d,ta',j,xb,pb,h,v,T,st⟩;obtain rfl:df=[]:=hd;have bg:Fr aH w w1:=⟨ng.os,ng.tape,ng.output,ng.size,fun b hb h=>st.fr.block b hb h⟩;have G:∀(ta:Nat->Question->Nat) (d:Nat),EH (ai.re w1 ta d) (w.heap.size+1) p q t k w.heap.size xb pb 0 h [] v (ai.re w1 ta d):=fun ta d=>⟨st.Oz,st.lt,ay.heap st.ha rfl,st.ax,st.vW,st.cf,st.pa.same rfl,Fr.refl _ _⟩;refine ai.abQ (p:=Dw) (c:=Dx) (S:=GN) (w:=w1) (K:=fun ta d x w'=>GV xb pb x.tmps/\∃s,bu w' (w.heap.size+1) pb xb 18 s/\vX s 2/\Fr (fun k=>w.heap.size+1<=k) (ai.re w1 ta d) w') (ai.lets h5) (zk h5) rfl av6 auM KT rfl ⟨_,func47⟩ rfl (fun ta d=>auQ (G ta d) hg T) ?_;rintro⟨a2,df⟩ w2 l2 I9 Oo hd ⟨tb,d',tb',j',U,s,A,F,fr⟩;obtain rfl:df=[]:=hd;have jB:Fr (fun k=>w.heap.size+1<=k) w1 w2:=⟨I9.os,I9.tape,I9.output,I9.size,fun b hb h=>fr.block b hb h⟩;have A2:bu w2 (w.heap.size+1) pb xb 18 s:=A.same rfl;rw[ai7];refine lU fun d1=>?_;refine lU fun d2=>?_;refine xR fun d3=>?_;rw[OL.2.2.2.2,gW,gW];refine Af (v:=.int .i64 0) OL.1 OL.2.1 OL.2.2.1 (by decide) (by rw[OL.2.2.2.1];rfl) ⟨_,func47⟩ (fun v hv=>Ag (s0:=fun _=>False) (n:=w2.heap.size) (fun _=>.inl)<|Oo v hv) (fun d=>ai8 OL.2.2.2.1) fun a3 d4 p3=>?_;refine xU fun d5=>?_;refine kF (fun _=>aCm) fun d6=>?_;refine kF (fun _=>aC3) fun d7=>?_;rw[gW,gW,gW,gW];refine av8 (B:=w.heap.size+1) (pb:=pb) (xb:=xb) (w0:=w) ?_ 3 0 18 (fun _=>False) a3 _ s rfl ⟨U.put p3<|by decide,p3.at_ (by show 12<a2.size;rw[U.sz];decide),p3.df,p3.ok _ Oo .int,A2.same rfl,bV _,F,fun z=>z.elim id fun y=>by have:=(bD.low pb<|.inr y).2;have:=A2.pa.hb;omega,fun _ h=>h.elim,?_⟩;rotate_left
 ·have:=(bg.mono fun _ h=>h.elim).trans jB fun _=>.inl;exact⟨this.os,this.tape,this.output,this.size,this.block⟩
 rintro s1 n ⟨a4,df⟩ w3 s3 R;obtain rfl:df=[]:=R.df;refine ai.Reach.ok fun aby=>?_;have KU:∀b,s1 b\/fo b->1<=b:=fun b hb=>(aby.low b hb).1;have hn:n<=80000000:=by have:=R.eG;omega
 refine ai.Gi (w:=w3) (K:=fun t d e x w'=>e=.ret/\x.tmps.getD 2 ag=.pointer (ae ⟨pb,0,af⟩)/\∃s',bQ (ai.re w3 t d) w' (w.heap.size+1) pb xb s3 (n+6) s') (ai.lets KU) (zk KU) avT R.ok rfl ⟨_,func47⟩ rfl (fun t d=>aCs (avU R.U (R.at_.re t d) hn R.F) fun e a' w' hq=>⟨.inr hq.1,hq⟩) ?_ ?_
 ·rintro a5 w4 _ _ _ ⟨t,d,t',j,e,_⟩;cases e
 rintro a5 w4 todo ED abA hd4 ⟨t,d,t',j,_,tq,s4,t4⟩;refine ai.RI (ai.lets KU) (zk KU) (fn:=Tryz.f47) (v:=.pointer<|ae ⟨pb,0,af⟩) (t:=t') (k:=j) rfl hd4 rfl func47 abA ?_ fun d9 _=>⟨_,rfl,⟨s1,pb,xb,n+6,s4,rfl,rfl,t4.at_.same rfl,by have:=R.eG;omega,R.hp,R.hB,?_⟩⟩
 ·rw[<-tq];exact aCT rfl _ _ _
 ·have t5:=(t4.KR ED).dV R.at_;have:=R.fr.trans t5 fun _=>.inl;exact⟨this.os,this.tape,this.output,this.size,this.block⟩
end
end Go.Proofs.YtkelpcjiediamaaGreat
