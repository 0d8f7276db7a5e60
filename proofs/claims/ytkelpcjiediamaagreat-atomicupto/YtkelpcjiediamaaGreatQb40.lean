import Derived.Test.YtkelpcjiediamaaGreatQb5
import Derived.Test.YtkelpcjiediamaaGreatQb39
set_option maxRecDepth 100000
set_option maxHeartbeats 0
set_option linter.all false
namespace Go.Proofs.YtkelpcjiediamaaGreat
open Go renaming Calls→aK,Frame→aV,Program→dO,TypeId→bW,Value→aj,World→ah,execOp→dJ,stepG→aW,undef→ag
open Go.RowKit renaming intOf→dX
open Option renaming none→af,some→ae
open Go.Proofs.Tryz
section
namespace Twin
open Go Go.Proofs Go.Conc Go.RowKit Go.Maps eX
open Go.ConcR (WgAt KK DC0)
open Go.ConcN (WgLive PayAt Has)
variable{B:ai.bP}{P:dO}{b:aV}{a:Act}{ops:Array Oper}{i:Nat}{rest:List Nat}{k:List Item}{cs cs2:List aV}{w:ah}{Q:ai.bP->aV->ah->Prop}{o:Oper}{v:aj}
def WB{f:FuncId}{fn:Func}{c:Code}{args:Array Operand}{kP:Array bW}{vs:Array aj}{post:ai.bP->aj->ah->Prop}
 (ho:ops[i]? =ae o)(hw:Region.wanted o (yielded ops a.tmps)=true)(hk:b.kind≠.early)(aF:o.op=.call {callee:=.value<|.func f,args,argTypes:=kP})(hf:P.funcs[f]? =ae fn)(Ht:(fn.name== "runtime.NumGoroutine")=false)(hb:fn.body=ae c)(hv:args.map a.eval=vs)
 (Pn:∀d,ai.ug B P f vs (w.at d) post)(hn:∀B' v w',post B' v w'->ai.Reach B' P (b.at (a.put o.dst v)<|.inRegion ops rest::k) cs w' Q cs2):ai.Reach B P (b.at a<|.inRegion ops (i::rest)::k) cs w Q cs2:=by
 refine ai.Reach.ok fun bD=>ai.Reach.step fun d=>?_;have hg:=goes_call (P:=P) (main:=true) (b:=b) (a:=a) (k:=k) (cs:=cs) (rest:=rest) (w:=w.at d) (K:=fun g w1 es=>g=G ((base f).at {tmps:=args.map a.eval++Array.replicate (fn.ntmps-(args.map a.eval).size) ag,defers:=[]} [.code c]) (b.at a (.inRegion ops (i::rest)::k)::cs)/\w1=w.at d/\es=#[]) ho hw hk aF hf Ht hb ⟨rfl,rfl,rfl⟩;obtain⟨g,w1,es,e,rfl,rfl,rfl⟩:=aDk hg;refine⟨_,_,_,_,e,⟨bD.obj,bD.low,bD.lQ⟩,bV _,by simp,?_⟩;have h2:=Pn d (b.at a<|.inRegion ops (i::rest)::k) cs;rw[aCX vs hf hb]at h2;rw[hv];refine h2.trans ?_;rintro B' fr' w' ⟨v,rfl,hp⟩;have e2:(b.at a<|.inRegion ops (i::rest)::k).finish v=b.at (a.put o.dst v) (.inRegion ops rest::k):=by rw[Frame.finish_at,ho];rfl
 rw[e2];exact hn B' v w' hp
def asA:Dk=.seq (iD Dk) .ret:=rfl
noncomputable def Rt:Array Oper:=match iD Dk with| .region _ o _=>o|_=>#[]
def asB:iD Dk=.region 25 Rt false:=rfl
def asC{z:Gs}{u:Nat->aj}{t9 t10 t33 t34 t35 t36 t37 t38 t39 t40 t41 t42 t13 t46 t47 t48 t49 t50 t51 t52 t53 t54 t55 t56 t57 t58 t59 t60 t61 t62 t63 t64 t65 av:aj}{S:aC}(hO:z.Ok)(hK:z.Aa w):
 au prog true z.E2 (fun S' g' w'=>S'=S/\aQ S z.E2 w w'/\g'=G ((base 54).at ⟨#[.pointer<|ae ⟨z.xb,0,af⟩,.slice z.ma z.ms.length z.mc,.pointer<|ae ⟨z.hv,0,af⟩,u 3,u 4,.slice (ae ⟨z.mr,0,af⟩) z.np z.np,.pointer<|ae ⟨z.sv,0,af⟩,.pointer<|ae ⟨z.ob,0,af⟩,.pointer<|ae ⟨z.Wg,0,af⟩,t9,t10,av,u 12,t13,u 14,u 15,u 16,u 17,u 18,u 19,u 20,u 21,u 22,u 23,u 24,u 25,u 26,u 27,u 28,u 29,u 30,.int .i64 z.np,.int .i64 z.np,t33,t34,t35,t36,t37,t38,t39,t40,t41,t42,.slice z.ma z.ms.length z.mc,.int .i64 z.ms.length,.int .i64 z.ms.length,t46,t47,t48,t49,t50,t51,t52,t53,t54,t55,t56,t57,t58,t59,t60,t61,t62,t63,t64,t65,.chan<|ae z.ov,.tuple #[],av,.slice (ae ⟨z.C,0,af⟩) z.np z.np,u 70,u 71],[]⟩<|.inRegion Rt [2,3,4]::k) cs) S (G ((base 54).at ⟨#[.pointer<|ae ⟨z.xb,0,af⟩,.slice z.ma z.ms.length z.mc,.pointer<|ae ⟨z.hv,0,af⟩,u 3,u 4,.slice (ae ⟨z.mr,0,af⟩) z.np z.np,.pointer<|ae ⟨z.sv,0,af⟩,.pointer<|ae ⟨z.ob,0,af⟩,.pointer<|ae ⟨z.Wg,0,af⟩,t9,t10,av,u 12,t13,u 14,u 15,u 16,u 17,u 18,u 19,u 20,u 21,u 22,u 23,u 24,u 25,u 26,u 27,u 28,u 29,u 30,.int .i64 z.np,.int .i64 z.np,t33,t34,t35,t36,t37,t38,t39,t40,t41,t42,.slice z.ma z.ms.length z.mc,.int .i64 z.ms.length,.int .i64 z.ms.length,t46,t47,t48,t49,t50,t51,t52,t53,t54,t55,t56,t57,t58,t59,t60,t61,t62,t63,t64,t65,.chan<|ae z.ov,.tuple #[],u 68,u 69,u 70,u 71],[]⟩<|.inRegion Rt [0,1,2,3,4]::k) cs) w:=by
 simp only[Rt,Dk,Dj,xP,vT,pW,Tryz.f54,gQ,fB,iD];refine au.mute av rfl rfl (by decide) (fun _=>by go_simp<;>rfl) (fun _=>by simp[go_sem]) ?_;walk_nrm;refine au.val (.slice (ae ⟨z.C,0,af⟩) z.np z.np) rfl rfl (by decide) (fun w1 aI=>?_) (fun w1 aI e he=>?_) ?_
 ·have q0:=(hK.aP hO (fun b hb=>hb) aI).sv;go_simp
 ·have q0:=(hK.aP hO (fun b hb=>hb) aI).sv;simp[go_sem,q0]at he;subst he;exact .inr ⟨hO.Oa,rfl⟩
 walk_nrm;exact au.stop fun w1 hk=>⟨rfl,hk,rfl⟩
def ahQ{α:Type}{ok:α->Prop}{t:Sem α}{w':ah}{v:α}(h:ai.Clean B prog ok t)(hw:ai.OkW B w)(hr:t.run prog w=.ok v w'):∀e∈t.events prog w #[],ai.Ei B w'.heap.size e:=by
 obtain⟨n,r,gs,h1,h2⟩:=h.Iz hw;have nV:=ai.aam h1;rw[hr]at nV;have h3:=h1 w.tape w.drawn (fun i _=>rfl) #[];rw[show ai.re w w.tape w.drawn=w from rfl,tK]at h3;have he:t.events prog w #[]=gs:=eP Prod.snd h3;rw[he];cases r with
 |halt x w1=>simp[Result.re]at nV
 |ok v1 w1=>
  simp only[Result.re,aCL]at nV;obtain⟨_,rfl⟩:=nV;exact h2.2.2.2.2.2
def asD{fo s:Nat->Prop}(x y:Operand)(ho:ops[i]? =ae o)(hw:Region.wanted o (yielded ops a.tmps)=true)(hk:b.kind≠.early)(aF:o.op=.call {callee:=.builtin .append,args:=#[x,y],argTypes:=#[107,107]})(He:o.type=107){u:aj}(hx:a.eval x=v)(hy:a.eval y=u)
 (ahR:ai.az ((ai.bz fo s).cut w.heap.size) v)(ahS:ai.az ((ai.bz fo s).cut w.heap.size) u)(hr:∀d,∃v' w',(Builtin.append_ #[107,107] 107 #[v,u]).run prog (w.at d)=.ok v' w'/\(ai.az ((ai.bz fo s).cut w'.heap.size) v'->ai.Reach (ai.bz fo s) prog (b.at (a.put o.dst v')<|.inRegion ops rest::k) cs w' Q cs2)):ai.Reach (ai.bz fo s) prog (b.at a<|.inRegion ops (i::rest)::k) cs w Q cs2:=by
 refine ai.Reach.ok fun bD=>ai.Reach.step fun d=>?_;obtain⟨v',w',hr,hn⟩:=hr d;have hz:w.heap.size<=w'.heap.size:=ai.af7 (w:=w.at d) hr;have h5:∀q,(s q\/fo q)->1<=q:=fun q hq=>(bD.low q hq).1;have xm:∀q,(s q\/fo q)\/w'.heap.size<=q->1<=q:=fun q hq=>hq.elim (h5 q) fun z=>by have:=bD.lQ;omega
 have kM:=(ai.NJ (B:=(ai.bz fo s).cut w'.heap.size) (ts:=#[107,107]) (t:=107) (ai.Ky xm).toFit<|ok_two (ahR.mono (B:=(ai.bz fo s).cut w'.heap.size) (B':=(ai.bz fo s).cut w.heap.size) (ai.NK (B:=ai.bz fo s) hz) rfl)<|ahS.mono (B:=(ai.bz fo s).cut w'.heap.size) (B':=(ai.bz fo s).cut w.heap.size) (ai.NK (B:=ai.bz fo s) hz) rfl).CV (w:=w.at d) (ai.QB (B:=ai.bz fo s) (w:=w.at d) bD.obj hz) hr fun q hq=>hq.elim (fun z=>.inl (bD.low q z).2) .inr;have oH:=ai.NJ (B:=ai.bz fo s) (ts:=#[107,107]) (t:=107) (ai.lets h5).toFit<|ok_two (ahR.mono (B:=ai.bz fo s) (B':=(ai.bz fo s).cut w.heap.size) (fun _ z=>Or.inl z) rfl)<|ahS.mono (B:=ai.bz fo s) (B':=(ai.bz fo s).cut w.heap.size) (fun _ z=>Or.inl z) rfl;have dI:=ahQ oH (w:=w.at d) ⟨bD.okW.obj,bD.okW.low⟩ hr;refine⟨_,_,w',_,aCG ho hw hk<|We x y 107 aF hx hy<|He▸hr,ai.oq.of (w:=w.at d) ⟨bD.obj,bD.low,bD.lQ⟩ hz kM.2,hz,fun e he=>?_,hn kM.1⟩;have hm:=aB6 he;rw[aCW x y 107 aF hx hy,He]at hm;exact ai.Kv<|dI e hm
def CP{α:Type}(f:Nat->List α){M:Nat}(hf:∀i,(f i).length<=M):∀{n:Nat},((List.range n).flatMap f).length<=n*M
 |0=>by simp
 |n+1=>by
  have:=CP f hf (n:=n);have h2:=hf n;rw[YL,Fq,iQ,Nat.add_mul];simp only[nZ,List.flatMap_nil,qh];omega
def GK{main:Bool}(ho:ops[i]? =ae o)(hw:Region.wanted o (yielded ops a.tmps)=true)(hk:b.kind≠.early)(hr:(dJ a.eval o).run P w=.ok (.value v) w)(he:(dJ a.eval o).events P w #[]=#[]):
 aW P main (G (b.at a<|.inRegion ops (i::rest)::k) cs) w=.go (G (b.at (a.put o.dst v)<|.inRegion ops rest::k) cs) w #[]:=by
 rw[aCG ho hw hk hr];unfold listed;rw[he,seen_none]
structure abv(fo s:Nat->Prop)(w:ah)(B xb n:Nat)(h:HS)(ma:Option Addr)(mc:Nat)(ms:List Ms)(z:Gs)(v:aj)(w':ah):Prop where
 waited:∃u a S1 ks Sw G1 w1 av,KQ fo s w B xb n h ma mc ms z u a S1 ks Sw G1 w1/\Own S1 w1 z.Ba 119 5 av (dU z.ms).length ((dU z.ms).flatMap Ms.cs)/\Fr (fun b=>av.ownBlock=ae b\/s b\/b=z.Wg) w1 w'
 row:w'.ownsRow z.Ba 119 5 v ((dU z.ms).length+z.jT.length) ((dU z.ms).flatMap Ms.cs++z.jT.flatMap Ms.cs)
 vok:ai.az ((ai.bz fo fun b=>s b\/b=z.Wg).cut w'.heap.size) v
def asF{fo s:Nat->Prop}{w:ah}{B Bm xb n:Nat}{h:HS}{ma:Option Addr}{mc:Nat}{ms:List Ms}(hC:Om (fun b=>s b\/fo b) w B Bm xb n h ma mc ms)(acR:ms.length*5*40<=140737488355328):
 ai.ug (ai.bz fo s) prog 54 #[.pointer<|ae ⟨xb,0,af⟩,.slice ma ms.length mc] w (fun B' v w'=>∃z,B'=ai.bz fo (fun b=>s b\/b=z.Wg)/\abv fo s w B xb n h ma mc ms z v w'):=by
 intro c cs;refine ai.Reach.ok fun Uc=>(aso (cs:=c::cs) hC).trans ?_;rintro B' fr' w1 ⟨z,u,a,S1,ks,Sw,G1,rfl,rfl,hW⟩;obtain⟨t9,t10,t33,t34,t35,t36,t37,t38,t39,t40,t41,t42,t13,t46,t47,t48,t49,t50,t51,t52,t53,t54,t55,t56,t57,t58,t59,t60,t61,t62,t63,t64,t65,av,rfl,hK,GL⟩:=hW.mid;have hO:=hW.ok;obtain⟨rows,Td,hrC,nV,hra⟩:=hW.rows;obtain⟨E1,WC⟩:=hW.mem;obtain⟨DY,wB,iF,adq,asH⟩:z.gJ=s/\z.ms=ms/\z.pl=h.pl/\z.iw.yX=(fun b=>s b\/fo b)/\∀b,fo b->¬s b->z.R b:=by
  obtain⟨_,_,_,_,_,_,_,_,_,_,_,_,hz,_⟩:=hW.sp;rw[hz];exact⟨rfl,rfl,rfl,rfl,fun b h1 h2=>.inl ⟨(Uc.low b<|.inr h1).2,h2,fun⟨p,hp,hb⟩=>(hC.ns b<|.inr h1).2.2.1 p hp hb⟩⟩
 have asI:z.np<=4:=by
  have:=hC.at_.hQ;show z.pl.length<=4;rw[iF];omega
 have Ce:(dU z.ms).length<=ms.length:=by rw[wB];exact Fj _ _
 have O1:z.jT.length<=z.np*ms.length:=CP _ fun i=>by
  unfold Gs.I5;split
  ·split
   ·simp
   ·rw[Ib];exact dP (Fj _ _) (by rw[wB];exact bV _)
  ·simp
 have ahT:z.np*ms.length<=4*ms.length:=Nat.mul_le_mul_right _ asI;have uX:∀b,S1 b->b<w1.heap.size/\¬((s b\/b=z.Wg)\/fo b):=fun b hb=>by
  obtain⟨k1,_,k3,k4⟩:=WC.qL b hb;rw[adq]at k4;exact⟨k1,fun zz=>zz.elim (fun zz=>zz.elim (fun y=>k4<|.inl y) fun e=>k3<|.inl e) fun y=>k4<|.inr y⟩
 have WE:z.C<w1.heap.size/\¬((s z.C\/z.C=z.Wg)\/fo z.C):=by
  have hk:=WC.KD z.C<|.inr<|.inl rfl;rw[adq]at hk;exact⟨WC.low _<|.inr<|.inl rfl,fun zz=>zz.elim (fun zz=>zz.elim (fun y=>hk<|.inl y) fun e=>hO.Wp e.symm) fun y=>hk<|.inr y⟩
 have hRd:∀b,z.R b->b<w1.heap.size/\¬(s b\/b=z.Wg):=fun b hb=>⟨(hW.rd b hb).1,fun zz=>zz.elim (hW.rd b hb).2 fun e=>hO.Bz<|e▸hb⟩;rw[asA,asB];walk_nrm;refine xU fun d1=>?_;refine lU fun d2=>?_;refine xR fun d3=>?_;rw[show List.range Rt.size=[0,1,2,3,4]from rfl];have hK3:z.Aa (w1.at d3):=⟨hK.sv,hK.hv,hK.ps,hK.ob,hK.c0,hK.c1,hK.ms,hK.fr,hK.tape,hK.os,hK.output⟩;change ai.Reach _ _ _ _ (w1.at d3) _ _;refine ahp (asC (S:=fun b=>b<w1.heap.size/\¬z.R b/\¬((s b\/b=z.Wg)\/fo b)) hO hK3) (fun b hb=>⟨hb.1,hb.2.2⟩) hRd ?_;rintro S' g' w2 ⟨rfl,jU,rfl⟩;refine⟨_,_,rfl,?_⟩;have EP:∀b,b<w1.heap.size->¬(s b\/b=z.Wg)->w2.heap[b]? =w1.heap[b]? :=fun b h1 h2=>by
  by_cases hR:z.R b
  ·exact jU.ro b hR
  ·exact jU.own b ⟨h1,hR,fun zz=>zz.elim h2 fun y=>hR<|asH b y fun x=>h2<|.inl x⟩
 have zG:w2.heap[z.C]? =ae (.cells (rows.map (·.1)).toArray 107 (0,0)):=(EP z.C WE.1 fun zz=>WE.2<|.inl zz).trans hrC;have asK:∀x∈rows,∃Bm,w2.ownsRow Bm 119 5 x.1 x.2.length (x.2.flatMap Ms.cs):=fun x hx=>by
  obtain⟨Bm,h1,h2⟩:=nV x hx;refine⟨Bm,(Own.of (S:=fun b=>x.1.ownBlock=ae b) ⟨h1,fun _ y=>y⟩ (fun _ y=>y) fun b hb=>?_).row⟩;obtain⟨i,hi,ML⟩:=h2 b hb;obtain⟨k1,_,k3,k4,_⟩:=WC.kU i (by rw[hW.len];exact hi) b ML;rw[adq]at k4;exact EP b k1 fun zz=>zz.elim (fun y=>k4<|.inl y) fun e=>k3<|.inl e
 have iH:w1.heap.size<=w2.heap.size:=jU.size;have hBa:z.Ba<=w1.heap.size:=by
  obtain⟨_,_,_,_,hv,_,_,_,_,_,_,_,hz,hle,_⟩:=hW.sp;have h1:=(hW.rd hv (by rw[hz];exact .inr<|.inl rfl)).1;have h2:z.Ba=w.heap.size:=by rw[hz];rfl
  omega
 have asL:Own S1 w2 z.Ba 119 5 av (dU z.ms).length ((dU z.ms).flatMap Ms.cs):=GL.of (fun _ y=>y) fun b hb=>EP b (uX b<|GL.r b hb).1 fun zz=>(uX b<|GL.r b hb).2<|.inl zz;have h5:∀b,(s b\/b=z.Wg)\/fo b->1<=b:=fun b hb=>(hW.okt.low b hb).1;have asM:∀d t d',aK prog 116 #[.slice (ae ⟨z.C,0,af⟩) z.np z.np] (ai.re (w2.at d) t d') (fun e w'=>∃v,e=.returned v/\w'.ownsRow w2.heap.size 119 5 v z.jT.length (z.jT.flatMap Ms.cs)/\Fr aH (ai.re (w2.at d) t d') w'):=fun d t d'=>by
  have:=asy (w:=ai.re (w2.at d) t d') zG asK (by rw[hra];omega) (by omega);rw[hra,Td]at this;exact this
 refine WB (f:=116) (post:=fun B' v w'=>B'=(ai.bz fo fun b=>s b\/b=z.Wg)/\ai.az ((ai.bz fo fun b=>s b\/b=z.Wg).cut w'.heap.size) v/\ai.On w2 w'/\w'.ownsRow w2.heap.size 119 5 v z.jT.length (z.jT.flatMap Ms.cs)/\∀b,b<w2.heap.size->w'.heap[b]? =w2.heap[b]?) rfl rfl (by decide) rfl func116 rfl rfl (vs:=#[.slice (ae ⟨z.C,0,af⟩) z.np z.np]) (by walk_nrm) (fun d=>(ai.agd (f:=116) (B:=ai.bz fo fun b=>s b\/b=z.Wg) (ai.lets h5) (fun m hm=>ai.Ky fun b hb=>hb.elim (h5 b) fun y=>dP (by decide:1<=5)<|dP hm y) (show ai.mZ 116=true by decide) (fun x hx=>by
  simp at hx;subst hx;exact .slice fun y hy zz=>by
   cases hy;rcases zz with zz|zz
   ·exact WE.2 zz
   ·have:w2.heap.size<=z.C:=zz;have:=WE.1;omega) (asM d) (by rintro t d e w' ⟨v,rfl,_⟩;exact⟨v,rfl⟩)).mono (by
  rintro B' v w' ⟨rfl,h1,h2,t0,d0,t1,k1,v',e,h3,h4⟩;cases e;exact⟨rfl,h1,⟨h2.tape,h2.size,h2.os,h2.output⟩,h3,fun b hb=>h4.block b hb id⟩)) ?_
 rintro B' v w3 ⟨rfl,Ru,nX,o9,lH⟩;have hz3:w2.heap.size<=w3.heap.size:=nX.size;have ahU:Own S1 w3 z.Ba 119 5 av (dU z.ms).length ((dU z.ms).flatMap Ms.cs):=asL.of (fun _ y=>y) fun b hb=>lH b (by have:=(uX b<|GL.r b hb).1;omega);walk_nrm;refine asD (.tmp 68) (.tmp 70) rfl rfl (by decide) rfl rfl (v:=av) (u:=v) rfl rfl (Q3 ahU.row fun b hb zz=>?_) Ru fun d=>?_
 ·have h6:=uX b<|GL.r b hb;rcases zz with zz|zz
  ·exact h6.2 zz
  ·have:w3.heap.size<=b:=zz;omega
 obtain⟨v4,w4,fU,ayk,Rw⟩:=ahL (w:=w3.at d) ahU.row o9 (ahK _) (by omega) (show z.Ba<=w3.heap.size by omega);refine⟨v4,w4,fU,fun hv4=>?_⟩;have yB:Fr (fun b=>av.ownBlock=ae b\/s b\/b=z.Wg) w1 w4:=by
  refine⟨Rw.os.trans<|nX.os.trans jU.os,Rw.tape.trans<|nX.tape.trans jU.tape,Rw.output.trans<|nX.output.trans jU.output,?_,fun b hb hn=>?_⟩
  ·have h7:w3.heap.size<=w4.heap.size:=Rw.size;omega
  ·refine(Rw.block b (show b<w3.heap.size by omega) fun e=>hn<|.inl e.symm).trans<|(lH b<|by omega).trans<|EP b hb fun zz=>hn<|.inr zz
 walk_nrm;refine kF (fun w=>GK (v:=v4) rfl rfl (by decide) rfl rfl) fun d5=>?_;walk_nrm;refine xU fun d6=>?_;refine kF (fun _=>aCi) fun d7=>?_;refine kF (fun w=>stepG_leave (v:=v4) rfl rfl func54 (by kernel_rfl)<|by kernel_rfl) fun d8=>?_;exact ai.Reach.here fun _=>⟨v4,rfl,z,rfl,⟨⟨u,_,S1,ks,Sw,G1,w1,av,hW,GL,⟨yB.os,yB.tape,yB.output,yB.size,yB.block⟩⟩,ayk,hv4⟩⟩
end Twin
end
section
namespace Twin
open Go Go.Proofs Go.Conc Go.RowKit Go.Maps eX
def xW(ms:List Ms)(i:Nat)(p:PL):aA:=if p.out then p.s else(ms.filter fun m:Ms=>decide<|m.k=1/\m.q=(i:Int)).foldl (fun s m=>s.closed m.p m.t m.c) p.s
def jT(ms:List Ms)(pl:List PL):List Ms:=(List.range pl.length).flatMap fun i=>match pl[i]? with
 |some p=>if p.out then[]else(ms.filter fun m:Ms=>decide<|m.k=1/\m.q=(i:Int)).map Ms.kC
 |none=>[]
variable{w w':ah}{B n:Nat}{v:aj}
def dK.same{lb bm n':Nat}{s:aA}(h:dK w B lb bm v n s)(hn:n<=n')(hb:∀b,kK lb bm v b->w'.heap[b]? =w.heap[b]?):dK w' B lb bm v n' s:=by
 have h1:=(gB.QZ (S:=kK lb bm v) (w':=w') ⟨h,.inl rfl,.inr<|.inl rfl,fun _ hk=>.inr<|.inr hk⟩ hb).log;exact h1.mono hn
def asN{t:bW}{size:Nat}{xs:List aj}(h:w.ownsRow B t size v n xs){b:Nat}(hb:v.ownBlock=ae b):b<w.heap.size/\∃cs fr,w.heap[b]? =ae (.cells cs t fr):=by
 rcases h.2 with⟨rfl,_⟩|⟨g,cap,cur,rfl,_,hg,_⟩
 ·simp[Value.ownBlock]at hb
 ·simp only[Value.ownBlock,fJ]at hb;subst hb;exact⟨(iU.1 hg).1,_,_,hg⟩
def asO{fo s:Nat->Prop}{Bm xb:Nat}{h:HS}{ma:Option Addr}{mc:Nat}{ms:List Ms}{z:Gs}(hC:Om (fun b=>s b\/fo b) w B Bm xb n h ma mc ms)(hG:abv fo s w B xb n h ma mc ms z v w')(hj:∀b,s b->h.jv.ownBlock≠ae b/\h.fv.ownBlock≠ae b):
 ∃fE:List PL,fE.length=h.pl.length/\(∀(i:Nat) (p:PL),h.pl[i]? =ae p->∃v',fE[i]? =ae {p with v:=v',s:=xW ms i p})/\ay w' B xb (n+ms.length) {h with pl:=fE}/\iC fE/\(∀p∈fE,∀b,kK p.lb p.bm p.v b->(vU h.pl b\/w.heap.size<=b)/\¬s b)/\
  w'.ownsRow w.heap.size 119 5 v ((dU ms).length+(jT ms h.pl).length) ((dU ms).flatMap Ms.cs++(jT ms h.pl).flatMap Ms.cs)/\(∀b,b<w.heap.size->¬s b->¬vU h.pl b->w'.heap[b]? =w.heap[b]?)/\w.heap.size<=w'.heap.size/\w.heap.size<=z.Wg/\w'.tape=w.tape/\w'.os=w.os/\w'.output=w.output:=by
 obtain⟨u,a,S1,ks,Sw,G1,w1,av,hW,GL,hF⟩:=hG.waited
 obtain⟨E1,hM⟩:=hW.mem
 obtain⟨w2,pb,pc,mb,hv,mr,C,sv,ov,ob,Wg,m0,hz,hle,l1,l2,l3,l4,l5,l6,hK⟩:=hW.sp
 have hQ:=hC.at_.hQ
 have C9:z.np=h.pl.length:=by rw[hz];rfl
 have DY:z.iw.yX=fun b=>s b\/fo b:=by rw[hz];rfl
 have oJ:0<z.np:=by rw[C9];omega
 have hRG:∀b,z.R b->G1 b:=fun b hb=>by
  have kQ:0<ks.length:=by rw[hW.len];exact oJ
  exact hM.xJ 0 ks[0] (dR kQ) b<|.inl hb
 have ahW:∀b,b<w.heap.size->¬s b->¬vU h.pl b->z.R b:=fun b h1 h2 h3=>by rw[hz];exact .inl ⟨h1,h2,h3⟩
 have asP:w.heap.size<=z.Wg:=by
  have:z.Wg=Wg:=by rw[hz];rfl
  omega
 have abw:∀b,b<w.heap.size->¬s b->¬vU h.pl b->w'.heap[b]? =w.heap[b]? :=fun b h1 h2 h3=>by
  have hR:=ahW b h1 h2 h3;have e1:w1.heap[b]? =w2.heap[b]? :=by
   have:=hW.mid.jA.fr b hR;rw[this,hz];rfl
  have e2:w2.heap[b]? =w.heap[b]? :=hK.own b h1;refine(hF.block b (hW.rd b hR).1 fun zz=>?_).trans<|e1.trans e2;rcases zz with zz|zz|zz
  ·exact(hM.qL b<|GL.r b zz).2.1<|hRG b hR
  ·exact h2 zz
  ·omega
 have Rx:∀i,∃v',∀p,h.pl[i]? =ae p->gB (Sw i) w1 z.B p.lb p.bm (z.n+(z.marks i).length) v' (xW ms i p):=fun i=>by
  by_cases hi:i<z.np
  ·obtain⟨p,_,hp,_,_,_,v',h1,_⟩:=hW.one hi;refine⟨v',fun p' Am=>?_⟩;have hpe:p'=p:=by
    rw[hz]at hp;have xu:h.pl[i]? =ae p:=hp;rw[Am]at xu;exact qE xu
   subst hpe;have e:xW ms i p'=(if p'.out then p'.s else(z.marks i).foldl (fun s m=>s.closed m.p m.t m.c) p'.s):=by rw[hz];rfl
   rw[e];exact h1
  ·exact⟨ag,fun p hp=>absurd (dD.1 hp).1 (by rw[<-C9];exact hi)⟩
 obtain⟨f,hf⟩:=PD Rx
 have LU:∀(i:Nat) (p:PL),h.pl[i]? =ae p->(h.pl.mapIdx fun i p=>({p with v:=f i,s:=xW ms i p}:PL))[i]? =ae {p with v:=f i,s:=xW ms i p}:=fun i p hp=>by simp[hp]
 have Yu:∀(i:Nat) (q:PL),(h.pl.mapIdx fun i p=>({p with v:=f i,s:=xW ms i p}:PL))[i]? =ae q->∃p,h.pl[i]? =ae p/\q={p with v:=f i,s:=xW ms i p}:=fun i q hq=>by
  simp only[List.getElem?_mapIdx,yI]at hq;obtain⟨p,hp,rfl⟩:=hq;exact⟨p,hp,rfl⟩
 have ML:∀(i:Nat) (p:PL),h.pl[i]? =ae p->∀b,kK p.lb p.bm (f i) b->Sw i b:=fun i p hp=>(hf i p hp).sub
 have eF:∀(i:Nat) (p:PL),h.pl[i]? =ae p->i<ks.length:=fun i p hp=>by rw[hW.len,C9];exact(dD.1 hp).1
 obtain⟨_,_,_,gZ,rH,azZ,az0,fZ,Ap,Ua,_,_,_⟩:=ahF hC
 have aym:w.heap.size<=w1.heap.size:=by
  have hR:z.R hv:=by rw[hz];exact .inr<|.inl rfl
  have:=(hW.rd hv hR).1;omega
 have dS:w.heap.size<=w'.heap.size:=dP aym hF.size
 have bY:∀{t:bW} {k:Nat} {x:aj} {m:Nat} {xs:List aj},w.ownsRow B t k x m xs->t≠163->55≠t->(∀b,s b->x.ownBlock≠ae b)->w'.ownsRow B t k x m xs:=fun{t k x m xs} hr h1 h2 h3=>by
  refine(Own.of (S:=fun _=>True) (S':=fun _=>True) ⟨hr,fun _ _=>trivial⟩ (fun _ h=>h) fun b hb=>?_).row;obtain⟨hl,cs,fr,hc⟩:=asN hr hb;exact abw b hl (fun z=>h3 b z hb) fun⟨p,hp,rH⟩=>Wv (hC.at_.dG p hp) hc h1 h2 rH
 have zn:∀(i:Nat) (p:PL),h.pl[i]? =ae p->∀b,kK p.lb p.bm (f i) b->b<w1.heap.size/\¬G1 b/\¬s b/\b≠z.Wg/\¬S1 b:=fun i p hp b hb=>by
  obtain⟨q1,q2,q3,q4,q5⟩:=hM.kU i (eF i p hp) b<|ML i p hp b hb;rw[DY]at q4;exact⟨q1,q2,fun e=>q4<|.inl e,fun e=>q3<|.inl e,q5⟩
 have hpc:oP (h.pl.mapIdx fun i p=>({p with v:=f i,s:=xW ms i p}:PL))=oP h.pl:=by
  unfold oP;rw[List.flatMap_def,List.flatMap_def];congr 1;refine List.ext_getElem? fun i=>?_;simp only[adK,List.getElem?_mapIdx,Option.map_map];rfl
 refine⟨h.pl.mapIdx fun i p=>{p with v:=f i,s:=xW ms i p},List.length_mapIdx,fun i p hp=>⟨f i,LU i p hp⟩,?_,?_,?_,?_,abw,dS,asP,?_,?_,?_⟩
 ·refine⟨(abw xb fZ (fun z=>Ap<|.inl z) Ua).trans hC.at_.blk,bY hC.at_.lL (by decide) (by decide) fun b hb=>(hj b hb).1,?_,bY hC.at_.lY (by decide) (by decide) fun b hb=>(hj b hb).2,?_,hC.at_.hx,hC.at_.hP,?_,hC.at_.h6⟩
  ·show w'.ownsRow B 98 2 h.pv (h.pl.mapIdx _).length (oP _)
   rw[List.length_mapIdx,hpc]
   exact bY hC.at_.jD (by decide) (by decide) fun b hb=>(hC.ns b<|.inl hb).2.1
  ·intro q hq
   obtain⟨i,hi⟩:=List.getElem?_of_mem hq
   obtain⟨p,hp,rfl⟩:=Yu i q hi
   have hml:(z.marks i).length<=ms.length:=by rw[hz];exact Fj _ _
   have hzn:z.n=n:=by rw[hz];rfl
   have hzB:z.B=B:=by rw[hz];rfl
   have hL:=(hf i p hp).log
   rw[hzB,hzn]at hL
   refine dK.same hL (by omega) fun b hb=>?_
   obtain⟨q1,_,q3,q4,q5⟩:=zn i p hp b hb
   exact hF.block b q1 fun zz=>zz.elim (fun e=>q5<|GL.r b e) fun zz=>zz.elim q3 q4
  ·show h.Q=(h.pl.mapIdx _).length/\_
   rw[List.length_mapIdx]
   exact hQ
 ·intro i j p q yj hp hq k hk dC
  obtain⟨p0,zo,rfl⟩:=Yu i p hp
  obtain⟨q0,qV,rfl⟩:=Yu j q hq
  exact yj<|hM.apart i j (eF i p0 zo) (eF j q0 qV) k (ML i p0 zo k hk)<|ML j q0 qV k dC
 ·intro q hq b hb
  obtain⟨i,hi⟩:=List.getElem?_of_mem hq
  obtain⟨p,hp,rfl⟩:=Yu i q hi
  obtain⟨_,q2,q3,_,_⟩:=zn i p hp b hb
  refine⟨?_,q3⟩
  by_cases h1:vU h.pl b
  ·exact .inl h1
  ·refine .inr<|Nat.le_of_not_lt fun h2=>q2<|hRG b<|ahW b h2 q3 h1
 ·have e1:z.ms=ms:=by rw[hz];rfl
  have e2:z.jT=jT ms h.pl:=by rw[hz];rfl
  have e3:z.Ba=w.heap.size:=by rw[hz];rfl
  have:=hG.row
  rw[e1,e2,e3]at this
  exact this
 ·have e0:z.w0=w2:=by rw[hz];rfl
  have:=hW.mid.jA.tape
  rw[e0]at this
  exact hF.tape.trans<|this.trans hK.tape
 ·have e0:z.w0=w2:=by rw[hz];rfl
  have:=hW.mid.jA.os
  rw[e0]at this
  exact hF.os.trans<|this.trans hK.os
 ·have e0:z.w0=w2:=by rw[hz];rfl
  have:=hW.mid.jA.output
  rw[e0]at this
  exact hF.output.trans<|this.trans hK.output
end Twin
end
section
open Go.RowKit Go.Maps
section
variable{h h':HS}
end
inductive o7:HS->List Ms->HS->Prop
 |nil (h:HS):o7 h [] h
 |cons {h h1 h2:HS} {m:Ms} {l:List Ms} {i:Nat} {x:PS} (hi:m.p=(i:Int)) (hx:h.ps[i]? =ae x) (a:xH h i x m h1) (r:o7 h1 l h2):o7 h (m::l) h2
section
variable{h h':HS}
def xH.rest{i:Nat}{x:PS}{m:Ms}(a:xH h i x m h'):h'.P=h.P/\h'.Q=h.Q/\h'.pl=h.pl/\(h.ps.length=6->h'.ps.length=6)/\h'.fv=h.fv/\h'.fl=h.fl:=by
 cases a with
 |idle=>exact⟨rfl,rfl,rfl,id,rfl,rfl⟩
 |tie=>exact⟨rfl,rfl,rfl,fun e=>by show(h.ps.set i _).length=6;rw[yK];exact e,rfl,rfl⟩
 |done _ _ hw=>
  cases hw with
  |ok=>exact⟨rfl,rfl,rfl,fun e=>by show(jE h.ps _).length=6;simp[jE,e],rfl,rfl⟩
  |sD=>exact⟨rfl,rfl,rfl,fun _=>rfl,rfl,rfl⟩
def I7(l:List Ms)(s:aA):aA:=l.foldl (fun s m=>s.closed m.p m.t m.c) s
def ahX:∀(l:List Ms) {s:aA} {i t:Int},(I7 l s).nw i=ae (t,true)->s.nw i=ae (t,true)/\∀m∈l,¬(m.p=i/\m.t=t)
 |[],_,_,_,h=>⟨h,by simp⟩
 |m::l,s,i,t,h=>by
  obtain⟨h1,h2⟩:=ahX l (s:=s.closed m.p m.t m.c) h;obtain⟨h3,h4⟩:=ZT h1;refine⟨h3,fun x hx=>?_⟩;rcases jC.1 hx with rfl|hx
  ·exact fun e=>h4 ⟨e.1.symm,e.2.symm⟩
  ·exact h2 x hx
end
end
section
namespace Twin
open Go Go.Proofs Go.Conc Go.RowKit Go.Maps eX
section
variable{w w':ah}{B xb n:Nat}{h:HS}
def ay.same(hh:ay w B xb n h)(hb:∀b,h.dZ xb b->w'.heap[b]? =w.heap[b]?)(_:w.heap.size<=w'.heap.size):ay w' B xb n h:=by
 have row:∀{ty:bW} {wd:Nat} {v:aj} {k:Nat} {xs:List aj},w.ownsRow B ty wd v k xs->(∀b,v.ownBlock=ae b->h.dZ xb b)->w'.ownsRow B ty wd v k xs:=fun{ty wd v k xs} ho hf=>by
  refine⟨ho.1,?_⟩;rcases ho.2 with⟨e,h0⟩|⟨g,cap,cur,e,h1,h2,h3⟩
  ·exact .inl ⟨e,h0⟩
  ·exact .inr ⟨g,cap,cur,e,h1,(hb g<|hf g (by rw[e];rfl)).trans h2,h3⟩
 exact⟨(hb xb<|.inl rfl).trans hh.blk,row hh.lL fun b e=>.inr<|.inl e,row hh.jD fun b e=>.inr<|.inr<|.inl e,row hh.lY fun b e=>.inr<|.inr<|.inr<|.inl e,fun p hp=>dK.same (hh.dG p hp) (bV _) fun b hbf=>hb b<|.inr<|.inr<|.inr<|.inr ⟨p,hp,hbf⟩,hh.hx,hh.hP,hh.hQ,hh.h6⟩
def ay.re(hh:ay w B xb n h)(t:Nat->Question->Nat)(d:Nat):ay (ai.re w t d) B xb n h:=ay.same hh (fun _ _=>rfl)<|bV _
def ay.KR{t:Nat->Question->Nat}{d:Nat}(hh:ay (ai.re w t d) B xb n h):ay w B xb n h:=ay.same hh (fun _ _=>rfl)<|bV _
def Ry{Bn:ai.bP}{v:aj}{b:Nat}(h:ai.az Bn v)(hb:v.ownBlock=ae b):¬Bn.bK b:=by
 cases h with
 |slice h=>
  rename_i a n m;cases a with
  |none=>simp[Value.ownBlock]at hb
  |some a=>
   have:=h a rfl;simp only[Value.ownBlock]at hb;cases hb;exact this
 |_=>simp[Value.ownBlock]at hb
def ay.free{fo s:Nat->Prop}(hh:ay w B xb n h)(bD:ai.oq (ai.bz fo s) w)(hx:¬(s xb\/fo xb)):∀b,h.dZ xb b->¬(s b\/fo b):=by
 have fZ:=(iU.1 hh.blk).1;have ns:∀{a:Nat},¬(s a\/fo a)->a<w.heap.size->¬((ai.bz fo s).cut w.heap.size).bK a:=fun{a} h1 h2 z=>z.elim h1 fun y=>by omega
 have up:∀{a:Nat},¬((ai.bz fo s).cut w.heap.size).bK a->¬(s a\/fo a):=fun z hs=>z<|.inl hs;have cell:∀{a:Addr} {v:aj},¬(s a.block\/fo a.block)->a.block<w.heap.size->w.cell? a=ae v->ai.az ((ai.bz fo s).cut w.heap.size) v:=fun h1 h2 hc=>bD.obj.cell (ns h1 h2) hc;have gZ:∀b,h.pv.ownBlock=ae b->¬(s b\/fo b):=fun b e=>up<|Ry (cell hx fZ hh.cV) e;rintro b (rfl|e|e|e|⟨p,hp,e⟩)
 ·exact hx
 ·exact up<|Ry (cell hx fZ hh.cJ) e
 ·exact gZ b e
 ·exact up<|Ry (cell hx fZ hh.cF) e
 ·obtain⟨k,hk⟩:=Us.1 hp;obtain⟨g,cap,e1,hg,_,c0,_⟩:=hh.place hk;have tu:¬(s g\/fo g):=gZ g (by rw[e1];rfl);have gI:¬(s p.lb\/fo p.lb):=by
   have:=cell (a:=⟨g,k*2,af⟩) tu hg c0;exact up this.ptr
  have Rx:=hh.dG p hp;have BQ:=(iU.1 Rx.blk).1;have c1:w.cell? ⟨p.lb,0,af⟩=ae p.v:=aG Rx.blk 0;have c2:w.cell? ⟨p.lb,2,af⟩=ae (.map<|ae p.bm):=aG Rx.blk 2;rcases e with e|e|e
  ·rw[e];exact gI
  ·rw[e];exact up (cell (a:=⟨p.lb,2,af⟩) gI BQ c2).mp
  ·exact up<|Ry (cell (a:=⟨p.lb,0,af⟩) gI BQ c1) e
end
end Twin
end
section
namespace Twin
open Go Go.Proofs Go.Conc Go.RowKit Go.Maps eX
noncomputable def rb:Code:=Tryz.f20.body.getD .skip
noncomputable def WG:Code:=iD<|fB rb
noncomputable def rX:Code:=iD<|fB<|fB rb
noncomputable def Rz:Code:=fB rX
noncomputable def rY:Code:=fB<|fB<|fB rb
def asR:rb=.seq (iD rb) (.seq WG<|.seq (.seq (iD rX) Rz) rY):=rfl
def ok0:ai.codeOk prog ai.mZ (iD rb)=true:=by kernel_rfl
def ok1:ai.codeOk prog ai.mZ WG=true:=by kernel_rfl
def asV:ai.codeOk prog ai.mZ Rz=true:=by kernel_rfl
def okY:ai.codeOk prog ai.mZ rY=true:=by kernel_rfl
def rt(xb:Nat)(t2 t3 t5 t6 t7 t8 t9 t10 t11 t12 t13 t14 t15 t16 t17 t18 t19 t20 t21 t22 t23 t24 t25 t26 t27:aj):Array Value:=
 #[.pointer<|ae ⟨xb,0,af⟩,ag,t2,t3,ag,t5,t6,t7,t8,t9,t10,t11,t12,t13,t14,t15,t16,t17,t18,t19,t20,t21,t22,t23,t24,t25,t26,t27]
section
variable{W w':ah}{B xb n:Nat}{h:HS}
def asX(hh:ay W B xb n h):WG.wp prog (fun e a' w'=>e=.normal/\(∃t6 t7 t8 t9,a'=⟨rt xb (.int .i64 0) h.fv ag t6 t7 t8 t9 ag ag ag ag ag ag ag ag ag ag ag ag ag ag ag ag ag ag,[]⟩)/\bI W w' B xb n h n (h.gp (.slice af 0 0) [])/\Fr (fun q=>q=xb) W w')
 ⟨rt xb (.int .i64 0) ag ag ag ag ag ag ag ag ag ag ag ag ag ag ag ag ag ag ag ag ag ag ag ag,[]⟩ W:=by
 have HH:Hid (ay W B xb n h):=hh;have aB:=aS hh.blk;clear hh;simp only[WG,rb,Tryz.f20,gQ,iD,fB,rt];go_wp2_with
  ((go_at_call 53;refine(an3 HH.out).mono ?_;rintro e w1 ⟨rfl,qy,bg⟩
    have M1:Hid (bI W w1 B xb n h n<|h.gp (.slice af 0 0) []):=qy
    have F1:Hid (Fr (fun q=>q=xb) W w1):=bg
    clear qy bg))
 exact⟨M1.out,F1.out⟩
def _root_.Go.Proofs.YtkelpcjiediamaaGreat.o7.snoc{l:List Ms}{m:Ms}{i:Nat}{x:PS}:∀{h h1 h2:HS},o7 h l h1->m.p=(i:Int)->h1.ps[i]? =ae x->xH h1 i x m h2->o7 h (l++[m]) h2:=by
 induction l with
 |nil=>intro h h1 h2 a e hx b;cases a;exact .cons e hx b<|.nil _
 |cons z l ih=>
  intro h h1 h2 a e hx b;cases a with
  |cons e1 x1 a ra=>exact .cons e1 x1 a<|ih ra e hx b
def ay.asY(hh:ay W B xb n h)(hn:h.fv=.slice af 0 0){k:Nat}(hk:tag W k=119):¬h.dZ xb k:=fun e=>by
 rcases hh.Zl e with t|t|t|⟨_,t⟩|t|t|t;all_goals first
  |(rw[hk]at t;cases t;done)
  |(rw[hn]at t;simp[Value.ownBlock]at t)
inductive Ac(h:HS):HS->Prop
 |down (hu:h.up=false):Ac h h
 |up {ok:Bool} {h':HS} (hu:h.up=true) (t:Nz h ok h'):Ac h h'
def asZ{A:List Ms}{Bm:Nat}{aa:Option Addr}{ac:Nat}(hh:ay W B xb n h)(oM:h.fv=.slice af 0 0)(bY:W.ownsRow Bm 119 5 (.slice aa A.length ac) A.length (A.flatMap Ms.cs))(qB:A.length<=1000)
 (hp:∀(k:Nat) (h2:HS) (m:Ms),o7 h (A.take k) h2->A[k]? =ae m->∃(i:Nat) (x:PS) (q:Nat),m.p=(i:Int)/\i<6/\h2.ps[i]? =ae x/\m.q=(q:Int)/\q<4/\lM h2 ⟨4,i,0,x.t⟩)(t2 t3 t5 t6 t7 t8 t9 t10 t11 t15 t16 t17 t18 t19 t20 t21 t22 t23 t24 t25 t26 t27:aj):
 Rz.wp prog (fun e a' w'=>e=.normal/\(∃t5 t14 t15 t16 t17 t18 t19 t20 t21 t22 t23,a'=⟨rt xb t2 t3 t5 t6 t7 t8 t9 t10 t11 (.slice aa A.length ac) (.int .i64 A.length) t14 t15 t16 t17 t18 t19 t20 t21 t22 t23 t24 t25 t26 t27,[]⟩)/\∃h2,o7 h A h2/\bI W w' B xb n h n h2)
  ⟨rt xb t2 t3 t5 t6 t7 t8 t9 t10 t11 (.slice aa A.length ac) (.int .i64 A.length) (.int .i64 0) t15 t16 t17 t18 t19 t20 t21 t22 t23 t24 t25 t26 t27,[]⟩ W:=by
 have HH:Hid (ay W B xb n h):=hh
 have Dl:Hid (h.fv=.slice af 0 0):=oM
 have ROW:Hid (W.ownsRow Bm 119 5 (.slice aa A.length ac) A.length<|A.flatMap Ms.cs):=bY
 have HP:Hid (∀(k:Nat) (h2:HS) (m:Ms),o7 h (A.take k) h2->A[k]? =ae m->∃(i:Nat) (x:PS) (q:Nat),m.p=(i:Int)/\i<6/\h2.ps[i]? =ae x/\m.q=(q:Int)/\q<4/\lM h2 ⟨4,i,0,x.t⟩):=hp
 clear hh bY hp oM
 simp only[Rz,rX,rb,Tryz.f20,gQ,iD,fB,rt]
 go_wp2_with fail
 go_loopw [14] (fun iv w'=>∃(k:Nat) (h2:HS),k<=A.length/\iv=.int .i64 k/\o7 h (A.take k) h2/\bI W w' B xb n h n h2/\h2.fv=.slice af 0 0/\w'.ownsRow Bm 119 5 (.slice aa A.length ac) A.length (A.flatMap Ms.cs)) (fun iv _=>A.length-(dX iv).toNat)
 case atStart=>exact⟨0,h,lK _,rfl,.nil _,bI.refl HH.out,Dl.out,ROW.out⟩
 case round=>
  obtain⟨k,h2,hk,rfl,Ce,dm,ahY,bY⟩:=hrel
  have MV:Hid (bI W wr B xb n h n h2):=dm
  have AL:Hid (o7 h (A.take k) h2):=Ce
  have FV2:Hid (h2.fv=.slice af 0 0):=ahY
  have AR:Hid (wr.ownsRow Bm 119 5 (.slice aa A.length ac) A.length<|A.flatMap Ms.cs):=bY
  have az1:=aS dm.at_.blk
  clear Ce dm ahY bY
  by_cases aB:k<A.length
  ·obtain⟨x,hx⟩:∃x,A[k]? =ae x:=⟨_,dR aB⟩
   have HX:Hid (A[k]? =ae x):=hx
   obtain⟨i,px,q,p1,p2,p3,p4,p5,p6⟩:=HP.out k h2 x AL.out hx
   have PX:Hid (x.p=(i:Int)/\i<6/\h2.ps[i]? =ae px/\x.q=(q:Int)/\q<4/\lM h2 ⟨4,i,0,px.t⟩):=⟨p1,p2,p3,p4,p5,p6⟩
   obtain⟨g,cap,e,hg,oH,kM,r0,r1,r2,r3,r4⟩:=Vl AR.out hx
   simp only[aB7,true_and]at e
   obtain⟨rfl,rfl⟩:=e
   have aI:(k:Int)<(A.length:Int):=by omega
   clear hx p1 p2 p3 p4 p5 p6
   go_wp2_with fail
   have S0:Hid (∀V,Fr aH (wr.alloc<|.cells #[.int .i64 x.k,.int .i64 x.q,.int .i64 x.p,.int .i64 x.t,.bool x.c] 119) V->V.cell? ⟨wr.heap.size,0,af⟩=ae (.int .i64 x.k)/\V.cell? ⟨wr.heap.size,1,af⟩=ae (.int .i64 x.q)/\V.cell? ⟨wr.heap.size,2,af⟩=ae (.int .i64 x.p)/\V.cell? ⟨wr.heap.size,3,af⟩=ae (.int .i64 x.t)/\V.cell? ⟨wr.heap.size,4,af⟩=ae (.bool x.c)):=fun V f=>by
    have zt:V.heap[wr.heap.size]? =ae (.cells #[.int .i64 x.k,.int .i64 x.q,.int .i64 x.p,.int .i64 x.t,.bool x.c] 119 (0,0)):=(f.block wr.heap.size (by simp) id).trans<|aB0 _ _;exact⟨aG zt 0,aG zt 1,aG zt 2,aG zt 3,aG zt 4⟩
   go_region_held3 (fun V=>V.cell? ⟨wr.heap.size,0,af⟩=ae (.int .i64 x.k)/\V.cell? ⟨wr.heap.size,1,af⟩=ae (.int .i64 x.q)/\V.cell? ⟨wr.heap.size,2,af⟩=ae (.int .i64 x.p)/\V.cell? ⟨wr.heap.size,3,af⟩=ae (.int .i64 x.t)/\V.cell? ⟨wr.heap.size,4,af⟩=ae (.bool x.c))
    (first|with_reducible exact C1|exact S0.out _ (Fr.refl _ _)|exact S0.out _ ((Fr.refl _ _).drew)|go_keep)
    ((go_at_call 55;refine(afk (MV.out.at_.after<|(aZ _).drew) PX.out.2.1 PX.out.2.2.1 x PX.out.2.2.2.1 PX.out.2.2.2.2.1 PX.out.1 PX.out.2.2.2.2.2).mono ?_;rintro e w3 ⟨rfl,h3,hy3,WH⟩
      have Y3:Hid (xH h2 i px x h3):=hy3
      have M3:Hid (bI W w3 B xb n h n h3):=MV.out.trans<|WH.behind<|(aZ _).drew
      have ra:((wr.alloc<|.cells #[.int .i64 x.k,.int .i64 x.q,.int .i64 x.p,.int .i64 x.t,.bool x.c] 119).drew).ownsRow Bm 119 5 (.slice (ae ⟨g,0,af⟩) A.length ac) A.length (A.flatMap Ms.cs):=((aZ _).drew).ownsRow AR.out fun _ _=>id
      have A3:Hid (w3.ownsRow Bm 119 5 (.slice (ae ⟨g,0,af⟩) A.length ac) A.length<|A.flatMap Ms.cs):=WH.fr.ownsRow ra fun b hb hS=>ay.asY (MV.out.at_.after<|(aZ _).drew) FV2.out (ig ra hb) hS
      have C1:w3.cell? ⟨wr.heap.size,0,af⟩=ae (.int .i64 x.k)/\w3.cell? ⟨wr.heap.size,1,af⟩=ae (.int .i64 x.q)/\w3.cell? ⟨wr.heap.size,2,af⟩=ae (.int .i64 x.p)/\w3.cell? ⟨wr.heap.size,3,af⟩=ae (.int .i64 x.t)/\w3.cell? ⟨wr.heap.size,4,af⟩=ae (.bool x.c):=by
       have zt:w3.heap[wr.heap.size]? =ae (.cells #[.int .i64 x.k,.int .i64 x.q,.int .i64 x.p,.int .i64 x.t,.bool x.c] 119 (0,0)):=(WH.fr.block wr.heap.size (by simp) (fun e=>by have:=(MV.out.at_.rV e).1;omega)).trans (((Fr.refl (fun _=>False) _).drew.block wr.heap.size (by simp) id).trans<|aB0 _ _);exact⟨aG zt 0,aG zt 1,aG zt 2,aG zt 3,aG zt 4⟩
      clear hy3 WH ra))
   all_goals
    go_wp2
    go_roundw
    case rel=>
     refine⟨k+1,h3,by omega,by go_num,?_,M3.out,Y3.out.rest.2.2.2.2.1.trans FV2.out,A3.out⟩
     rw[zK,HX.out]
     exact AL.out.snoc PX.out.1 PX.out.2.2.1 Y3.out
    case measure=>simp[dX]<;>omega
  ·have AF:Hid (o7 h A h2):=by
    have:=AL.out;rw[D8<|by omega]at this;exact this
   go_wp2
   exact⟨h2,AF.out,MV.out⟩
def as3{l:Nat}{na:Option Addr}{nc:Nat}(hh:ay W B xb n h)(hp:h.up=true->∀(j:Nat) (h1:HS) (x:PS),j<h.P.toNat->qj h j h1->h1.ps[j]? =ae x->x.CJ/\lM h1 ⟨3,j,0,x.t⟩)(t2 t5 t6 t7 t8 t9 t10 t11 t12 t13 t14 t15 t16 t17 t18 t19 t20 t21 t22 t23 t24 t25 t26 t27:aj):
 rY.wp prog (fun e a' w'=>e=.ret/\a'.tmps.getD 2 ag=.int .i64 l/\∃h2,Ac h h2/\bI W w' B xb n h n h2)
  ⟨rt xb t2 (.slice na l nc) t5 t6 t7 t8 t9 t10 t11 t12 t13 t14 t15 t16 t17 t18 t19 t20 t21 t22 t23 t24 t25 t26 t27,[]⟩ W:=by
 have HH:Hid (ay W B xb n h):=hh
 have HP:Hid (h.up=true->∀(j:Nat) (h1:HS) (x:PS),j<h.P.toNat->qj h j h1->h1.ps[j]? =ae x->x.CJ/\lM h1 ⟨3,j,0,x.t⟩):=hp
 clear hh hp
 cases hu:h.up
 ·have HU:Hid (h.up=false):=hu
  clear hu
  simp only[rY,rb,Tryz.f20,gQ,fB,rt]
  go_wp2_with ((go_at_call 56;refine(afn HH.out HU.out).mono ?_;rintro e w5 ⟨rfl,rfl⟩))
  exact⟨h,.down HU.out,bI.refl HH.out⟩
 ·have HU:Hid (h.up=true):=hu
  clear hu
  simp only[rY,rb,Tryz.f20,gQ,fB,rt]
  go_wp2_with
   ((go_at_call 56;refine(afo HH.out HU.out<|HP.out HU.out).mono ?_;rintro e w5 ⟨ok,h5,rfl,ho5,I8⟩
     have O5:Hid (Nz h ok h5):=ho5
     have M5:Hid (bI W w5 B xb n h n h5):=I8
     clear ho5 I8))
  all_goals exact⟨h5,.up HU.out O5.out,M5.out⟩
end
end Twin
end
end Go.Proofs.YtkelpcjiediamaaGreat
