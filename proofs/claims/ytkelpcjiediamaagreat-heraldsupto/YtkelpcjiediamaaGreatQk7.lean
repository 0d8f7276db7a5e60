import Derived.Test.YtkelpcjiediamaaGreatQk5
import Derived.Test.YtkelpcjiediamaaGreatQk6
set_option maxRecDepth 100000
set_option maxHeartbeats 0
set_option linter.all false
namespace Go.Proofs.YtkelpcjiediamaaGreat
open Bool renaming false->ah,true->A
open Go renaming Calls->aH,Frame->bK,Goroutine->bP,Oper->fA,TypeId->dB,Value->ai,World->ae,execOp->eG,maxLen->cZ,stepG->bQ,undef->F
open Go.Ending renaming returned->aU
open Go.IntKind renaming i64->Z
open Go.Item renaming inRegion->dm
open Go.Obj renaming cells->aC
open Go.Proofs.Tryz renaming prog->aj
open Go.RowKit renaming Hid->I,intOf->bM
open Go.Value renaming agg->jf,bool->aA,int->V,ownBlock->dw,pointer->ak,slice->aP,string->dN,tuple->dZ
open Go.World renaming alloc->bH,cell?->au,heap->R,ownsRow->bI,setCell->aZ
open Option renaming none->U,some->Y
open _root_.Array renaming replicate->iD,size->M
open _root_.List renaming length->O
open Go.Proofs.Tryz
open ag
open Go.RowKit Go.Maps
section
namespace Twin
open Go Go.Proofs Go.Conc Go.RowKit Go.Maps gy
open Go.ConcR (WgAt KK)
def qh:Code->Code| .seq a _=>a|c=>c
noncomputable def yJ:Code:=Tryz.f54.body.getD .skip
noncomputable def CZ:Code:=jA<|jA<|jA<|jA<|jA yJ
noncomputable def Oa:Code:=BF<|BF<|jA<|qh CZ
noncomputable def Fb:Code:=jA CZ
noncomputable def JK:Code:=BF<|BF<|jA<|qh<|jA Fb
noncomputable def Lp:Code:=jA<|jA Fb
structure Kd where
 x:Wx
 ms:List Ms
def Ti(aPX:aS)(x:Wx):dP:=⟨λb=>aPX b\/b=x.nb\/b=x.cb,λb=>aPX b\/b=x.nb\/b=x.cb,λ_ h=>h⟩
structure Gs where
 aPX:aS
 jF:aS
 Gx:aS
 xb:Nat
 hv:Nat
 mr:Nat
 C:Nat
 sv:Nat
 ov:Nat
 ob:Nat
 Wg:Nat
 pb:Nat
 pc:Nat
 B:Nat
 Ba:Nat
 n:Nat
 N:Nat
 m0:Nat
 mb:Nat
 mc:Nat
 ma:Option Addr
 pl:List PL
 ms:List Ms
 w0:ae
def Gs.np(z:Gs):Nat:=z.pl
def Gs.marks(z:Gs)(i:Nat):List Ms:=z.ms.filter λm:Ms=>decide<|m.k=1/\m.q=(i:Int)
def Gs.wx(z:Gs)(i:Nat)(p:PL)(nb cb c:Nat):Wx:=
 {p:={B:=z.B,Ba:=z.Ba,c:=c,ov:=z.ov,pb:=z.pb,po:=i*2,lb:=p.lb,bm:=p.bm,n:=z.n,s:=p.s,down:=p.out},i:=i,Wg:=z.Wg,hv:=z.hv,hb:=z.xb,nb:=nb,cb:=cb,ob:=z.ob,sv:=z.sv,C:=z.C,np:=z.np,pc:=z.pc}
noncomputable def Gs.mG(z:Gs):aT Kd where
 P:=aj
 Wg:=z.Wg
 C:=z.C
 ov:=z.ov
 m0:=z.m0
 jF:=z.jF
 Gx:=z.Gx
 ch k:=k.x.p.c
 side k:=Ti z.aPX k.x
 NT k l S g w:=∃r,l++r=k.ms.map nP/\Ll aj (Ti z.aPX k.x) k.x.p.c z.ov (k.x.Fin<|Ti z.aPX k.x) r l S g w
 Fin k:=k.x.Fin<|Ti z.aPX k.x
 Gy k:=k.ms.map nP
def Gs.fit(z:Gs):z.mG.Fit:=λ_ _ _ _ _ h=>aDI (λ_ _ _ _=>Iff.rfl) J h
def Gs.E(z:Gs):dP:=⟨λb=>z.aPX b\/b=z.Wg,z.aPX,λ_ h=>h⟩
def Gs.Good(z:Gs)(ks:List Kd):Prop:=∀i (k:Kd),ks[i]? =k->∃p H cb c,z.pl[i]? =Y p/\k=⟨z.wx i p H cb c,z.marks i⟩
structure Gs.eu(z:Gs)(w:ae):Prop where
 sv:au w ⟨z.sv,0,U⟩=Y (aP (Y ⟨z.C,0,U⟩) z.np z.np)
 hv:au w ⟨z.hv,0,U⟩=Y (ak<|Y ⟨z.xb,0,U⟩)
 ps:au w ⟨z.xb,68,U⟩=Y (aP (Y ⟨z.pb,0,U⟩) z.np z.pc)
 ob:au w ⟨z.ob,0,U⟩=Y (.chan<|Y z.ov)
 c0:∀(i:Nat) (p:PL),z.pl[i]? =Y p->au w ⟨z.pb,i*2,U⟩=Y (ptr p.lb)
 c1:∀(i:Nat) (p:PL),z.pl[i]? =Y p->au w ⟨z.pb,i*2+1,U⟩=Y (.bool p.out)
 ms:∀(i:Nat) (m:Ms),z.ms[i]? =Y m->∀(j:Nat) (v:ai),m.cs[j]? =Y v->au w ⟨z.mb,i*5+j,U⟩=Y v
 fr:∀b,z.aPX b->w.heap[b]? =z.w0.heap[b]?
 tape:w.tape=z.w0.tape
 os:w.os=z.w0.os
 output:w.output=z.w0.output
structure Gs.Ok(z:Gs):Prop where
 XI:z.aPX z.sv
 XJ:z.aPX z.hv
 XK:z.aPX z.xb
 XL:z.aPX z.ob
 Lr:z.aPX z.pb
 rmb:z.ms≠[]->z.aPX z.mb/\z.ma=Y ⟨z.mb,0,U⟩
 II:¬z.aPX z.Wg
 nC:¬z.aPX z.C
 zN:¬z.aPX z.ov
 dWC:z.Wg≠z.C
 np:z.np<2147483648
 len:O z.ms<=z.N
 small:z.N<2147483648
 fits:z.n+z.N<=cZ
 es:∀p∈z.pl,(O p.s.es+z.N)*40<=2^47
 wf:∀m∈z.ms,(Lit.int .i64 m.p).wf=A
 apart:mP z.pl
 q:∀m∈z.ms,m.k=1->∃i:Nat,m.q=i/\i<z.np
variable{z:Gs}{S E w w1}
theorem Gs.eu.aW(h:z.eu w)(hO:z.Ok)(hE:∀b,z.aPX b->E.ro b)(hk:bg S E w w1):z.eu w1:=have H:∀{a:Addr} {v:ai},w a=v->z.aPX a.block->w1 a=v:=(by grind[World.cell?_of_block,cases bg]);⟨H h.sv hO.XI,H h.hv hO.XJ,H h.ps hO.XK,H h.ob hO.XL,λi p hp=>H (h.c0 i p hp) hO.Lr,λi p hp=>H (h.c1 i p hp) hO.Lr,(by grind[cases Gs.eu,cases Gs.Ok]),(by grind[cases bg,cases Gs.eu]),hk.tape.t h.tape,hk.os.t h.os,hk.output.t h.output⟩
def Gs.eu.qZ{es}(h:z.eu w)(hO:z.Ok)(hS:∀b,z.aPX b->¬S b)(aO:∀b,z.aPX b->b<w)(hG:iP S E w w1 es):z.eu w1:=have H:∀{a:Addr} {v:ai},w a=v->z.aPX a.block->w1 a=v:=(by grind[World.cell?_of_block,cases iP]);⟨H h.sv hO.XI,H h.hv hO.XJ,H h.ps hO.XK,H h.ob hO.XL,λi p hp=>H (h.c0 i p hp) hO.Lr,λi p hp=>H (h.c1 i p hp) hO.Lr,(by grind[cases Gs.eu,cases Gs.Ok]),(by grind[cases iP,cases Gs.eu]),hG.tape.t h.tape,hG.os.t h.os,hG.output.t h.output⟩
def Qe(o)(ho:∀B,sW B o):iP S E w (bH w o) #[]:=⟨J,J,J,Xy,(by grind[Below.heap_alloc]),Xy,λs _ _ h=>h.push Zv⟩
def Ob{ty H st sm}(h:WgAt ty H w st sm):H<w:=(uZ.1 h).1
def aq5(B):sW B (aC #[.chan U] 178):=λv hv=>by simp at hv;subst hv;exact .chan Zv
def Ls:Nat->Nat->List xn|_,0=>[]|j,r+1=>libs j++ .go::Ls (j+1) r
def aEc(v ts i):msgs (libs v++ts) i=msgs ts i:=by unfold libs;split<;>rfl
def ajo(ts:List xn)(i:Nat):∀(r j:Nat),msgs (Ls j r++ts) i=msgs ts i|0,_=>J|r+1,j=>by rw[Ls,Jd,aEc];exact ajo ts i r _
def zO:List Ms->List xn|[]=>[]|m::l=>if m.k=1 then .send m.q.toNat (nP m)::zO l else zO l
def ajp(i:Nat):∀(l:List Ms),(∀m∈l,m.k=1->∃j:Nat,m.q=j)->msgs (zO l) i=(l.filter λm:Ms=>decide<|m.k=1/\m.q=(i:Int)).map nP|[],_=>J|m::l,h=>by have ih:=ajp i l Zv;unfold zO;by_cases hk:m.k=1;{have⟨j,hj⟩:=h m Xy hk;rw[if_pos hk];simp only[msgs,hj,Int.toNat_natCast];grind};grind
open Go.Conc.Lib Go.ConcR.Gen Go.ConcN.Gen in def aEd(v1 H):#[v1,H]++iD ((addFn link).ntmps- #[v1,H].size) F=#[v1,H,F,F,F,F,F,F,F,F,F,F,F,F,F,F,F,F,F,F,F,F,F,F,F,F,F,F,F,F,F,F,F,F,F,F,F,F,F,F,F,F,F,F,F,F,F,F,F,F,F,F,F,F,F,F,F,F,F,F,F,F,F,F,F,F,F,F,F,F,F,F,F,F,F,F,F,F,F,F,F,F,F,F,F,F,F,F,F,F,F,F,F,F,F,F,F,F,F,F,F,F,F,F,F,F,F,F,F,F,F,F,F,F,F,F,F]:=KG
open Go.Conc.Lib Go.ConcR.Gen Go.ConcN.Gen in
def aEe{K}{X:aT K}{End ts ks E S}{b:bK}{a ops i rest k cs o args qI}(hP:X.P=aj)(ho:ops[i]? =Y o)(hw:Region.wanted o (yielded ops a.tmps)=A)(hk:b.kind≠.early)(bu:o.op=.call {callee:=.value<|.func 111,args,argTypes:=qI})(hv:args.map a.eval=#[ak X.Wg,V Z 1])
 (hS:¬S X.Wg)(v:Nat)(aO:v<2147483647){w}(hF:WgAt 177 X.Wg w ((v:Int)*KK) 0)(hE:E.ro X.Wg)
 (hT:∀w',bg S (less E X.Wg) w w'->WgAt 177 X.Wg w' (((v:Int)+1)*KK) 0->az X.P A E (X.mg End ts ks 0 E) S (G (b.at (a.put o.dst<|dZ #[])<|dm ops rest::k) cs) w'):
 az X.P A E (X.mg End (libs v++ts) ks 0 E) S (G (b.at a<|dm ops (i::rest)::k) cs) w:=by
 have H:=hP▸aaF;apply az.call ho hw hk bu H.f_add (nm_add _) J;rw[hv,aEd];have Ho:∀w',bg S (less E X.Wg) w w'->WgAt link.tWg X.Wg w' (((v:Int)+1)*KK) 0->az X.P A E (X.mg End ts ks 0 E) S (G (b.at (a.put ((ops[i]?).bind (·.dst))<|dZ #[])<|dm ops rest::k) cs) w':=Zv
 exact aDj H hS v aO Ho w ⟨hF,bg.refl _ _ _,hE⟩
def aEf(w):(Instr.makeChan 178<|.int .i64 0).run aj w=.ok (.chan (w)) (w.alloc<|.chan 0 #[] ah 0 0 ah):=have⟨i,H,_⟩:=aQX Pz;run_makeChan underlying178 H _ 0 Xa Xy
def aEg(w es):(Instr.makeChan 178<|.int .i64 0).events aj w es=es:=have⟨i,H,_⟩:=aQX Pz;events_makeChan underlying178 H _ 0 Xa Xy es
variable{b:bK}{a k cs}{w:ae}{ops i rest o f c}
theorem aEh{P main d}(H:ops[i]? =Y o)(hw:Region.wanted o (yielded ops a.tmps)=A) (hk:b.kind≠.early)(hr:(eG a.eval o).run P w=.ok (.spawn d) w)(hd:d.target=.fn f c)(he:(eG a.eval o).events P w #[]=#[]):bQ P main (G (b.at a<|dm ops (i::rest)::k) cs) w=.spawn (G (b.at (a.put o.dst F)<|dm ops rest::k) cs) (born P d) w #[]:=by rw[stepG_spawn H hw hk hr hd];unfold listed;rw[he,seen_none]
def az.spawn{K}{X:aT K}{End ts ks E S}(d)(ho:ops[i]? =Y o)(hw:Region.wanted o (yielded ops a.tmps)=A) (hk:b.kind≠.early)(hr:∀w1,(eG a.eval o).run X.P w1=.ok (.spawn d) w1)(hd:d.target=.fn f c)(he:∀w1,(eG a.eval o).events X.P w1 #[]=#[]) (h:∀w1,bg S E w w1->∃κ H S1,az X.P ah (X.side κ) (X.NT κ []) H (born X.P d) w1/\(∀b,H b->S b)/\S (X.ch κ)/\¬H (X.ch κ)/\¬(X.side κ).ro (X.ch κ)/\(∀b,(X.side κ).ro b->S b\/E.rd b)/\(∀b,H b->¬(X.side κ).ro b)/\ (∀b,S1 b->S b/\¬H b/\¬(X.side κ).ro b/\b≠X.ch κ)/\(∃s r,w1.heap[X.ch κ]? =Y (.chan 0 #[] ah s r ah))/\msgs ts (O ks)=X.Gy κ/\ az X.P A E (X.mg End ts (ks++[κ]) 0 E) S1 (G (b.at (a.put o.dst F)<|dm ops rest::k) cs) w1):az X.P A E (X.mg End (.go::ts) ks 0 E) S (G (b.at a<|dm ops (i::rest)::k) cs) w:=az.stop λw1 aX=>have⟨κ,H,S1,h1,h2,h3,h4,h5,h6,h7,h8,h9,MC,h11⟩:=h w1 aX;⟨J,J,_,_,κ,H,E,S1,(by grind[aEh]),h1,h2,h3,h4,h5,h6,h7,h8,Zv,Zv,h9,MC,h11⟩
end Twin
end
section
namespace Twin
open Go Go.Proofs Go.Conc Go.RowKit Go.Maps gy
open Go.ConcR (WgAt KK)
structure Gs.lQ(z:Gs)(ks:List Kd)(S:aS)(w:ae):Prop where
 gK:z.eu w
 dO:∀(i:Nat) (p:PL),O ks<=i->z.pl[i]? =Y p->iY S w z.B p.lb p.bm z.n p.v p.s
 row:∃cs:Array ai,gz S w z.mr cs 178/\cs.size=z.np/\∀(i:Nat) (k:Kd),ks[i]? =Y k->cs[i]? =Y (.chan<|Y k.x.p.c)
 eU:∀(i:Nat) (p:PL),O ks<=i->z.pl[i]? =Y p->¬pK p.lb p.bm p.v z.mr
 low:∀b,S b->b<M (R w)
 Lu:∀b,z.aPX b->¬S b
 base:z.Ba<=M (R w)
 LC:∀b,z.aPX b->b<M (R w)
 II:¬S z.Wg
 zN:¬S z.ov/\z.ov<M (R w)
variable{z:Gs}{ks S w}
theorem Gs.lQ.aW{E w1}(h:z.lQ ks S w)(hO:z.Ok)(hE:∀b,z.aPX b->E.ro b)(H:bg S E w w1):z.lQ ks S w1:=⟨h.gK.aW hO hE H,(by grind[iY.aW,cases Gs.lQ]),(by grind[cases Gs.lQ,gz.aW]),h.eU,D8 h.low H,h.Lu,dX h.base H.size,(by grind[cases Gs.lQ,cases bg]),h.II,h.zN.1,gZ h.zN.2 H.size⟩
theorem Gs.lQ.alloc(h:z.lQ ks S w)(hO:z.Ok)(hW:z.Wg<w)(o)(ho:∀B,sW B o):z.lQ ks (grow S w<|w.alloc o) (bH w o):=by have hG:iP S z.E w _ _:=Qe o ho;refine⟨h.gK.qZ hO h.Lu h.LC hG,(by grind[iY.alloc,cases Gs.lQ]),(by grind[cases Gs.lQ,gz.alloc]),h.eU,Qd h.low o,λb hb H=>H.e (h.Lu b hb) (by grind[cases Gs.lQ]),by simp;have:=h.base;omega,λb hb=>by have:=h.LC b hb;simp<;>omega,λH=>H.e h.II YV,λH=>H.e h.zN.1 λy=>by have:=h.zN.2;omega,by have:=h.zN.2;simp<;>omega⟩
theorem Gs.lQ.set(h:z.lQ ks S w)(hO:z.Ok){b}(hb:S b)(hm:b≠z.mr)(hl:∀i p,O ks<=i->z.pl[i]? =Y p->¬pK p.lb p.bm p.v b)(v)(hv:∀B,(∀b,B.dI b->¬S b)->aK B v):z.lQ ks S (aZ w b v):=by have hG:iP S z.E w (aZ w b v) #[]:=NZ hb hv Xy;have hs:∀x,x≠b->(aZ w b v).heap[x]? =w.heap[x]? :=(by grind[Below.heap_setCell]);refine⟨h.gK.qZ hO h.Lu h.LC hG,λi p h1 h2=>?_,?_,h.eU,λx H=>by simpa using h.low x H,h.Lu,by simpa using h.base,λx H=>by simpa using h.LC x H,h.II,h.zN.1,by simpa using h.zN.2⟩;{have:=(h.dO i p h1 h2).aaI λx H=>hs x λe=>hl i p h1 h2<|e▸H;rwa[yF Xy]at this};have⟨cs,h1,h2⟩:=h.row;exact⟨cs,⟨h1.1,by rw[hs _<|Ne.s hm];exact h1.2⟩,h2⟩
theorem aEi{End ts}{u:Nat->ai}{cs}(hO:z.Ok)(Dt:∀i,msgs ts i=(z.marks i).map nP) (hn:∀ks t9 t10 t33 t34 t35 t36 t37 t38 t39 t40 t41 t42 S w,O ks=z.np->z.Good ks->z.lQ ks S w->WgAt 177 z.Wg w ((z.np:Int)*KK) 0->az aj A z.E (z.mG.mg End ts ks 0 z.E) S (G ((base 54).at ⟨#[ak z.xb,.slice z.ma z.ms z.mc,ak z.hv,u 3,u 4,aP z.mr z.np z.np,ak z.sv,ak z.ob,ak z.Wg,t9,t10,u 11,u 12,u 13,u 14,u 15,u 16,u 17,u 18,u 19,u 20,u 21,u 22,u 23,u 24,u 25,u 26,u 27,u 28,u 29,u 30,V Z z.np,z.np,t33,t34,t35,t36,t37,t38,t39,t40,t41,t42,u 43,u 44,u 45,u 46,u 47,u 48,u 49,u 50,u 51,u 52,u 53,u 54,u 55,u 56,u 57,u 58,u 59,u 60,u 61,u 62,u 63,u 64,u 65,u 66,u 67,u 68,u 69,u 70,u 71],[]⟩ [.code Fb]) cs) w):∀r ks t9 t10 t33 t34 t35 t36 t37 t38 t39 t40 t41 t42 S w,O ks+r=z.np->z.Good ks->z.lQ ks S w->WgAt 177 z.Wg w ((ks:Int)*KK) 0->az aj A z.E (z.mG.mg End (Ls ks r++ts) ks 0 z.E) S (G ((base 54).at ⟨#[ak z.xb,.slice z.ma z.ms z.mc,ak z.hv,u 3,u 4,aP z.mr z.np z.np,ak z.sv,ak z.ob,ak z.Wg,t9,t10,u 11,u 12,u 13,u 14,u 15,u 16,u 17,u 18,u 19,u 20,u 21,u 22,u 23,u 24,u 25,u 26,u 27,u 28,u 29,u 30,V Z z.np,ks,t33,t34,t35,t36,t37,t38,t39,t40,t41,t42,u 43,u 44,u 45,u 46,u 47,u 48,u 49,u 50,u 51,u 52,u 53,u 54,u 55,u 56,u 57,u 58,u 59,u 60,u 61,u 62,u 63,u 64,u 65,u 66,u 67,u 68,u 69,u 70,u 71],[]⟩ [.code Oa,.inLoop Oa,.inBlock 0,.code Fb]) cs) w:=by intro r;induction r with|zero=>intro ks t9 t10 t33 t34 t35 t36 t37 t38 t39 t40 t41 t42 S w hl hg h dD;(have SX:O ks=z.np:=YV);have Jb:=hn ks t9 t10 ah t34 t35 t36 t37 t38 t39 t40 t41 t42 S w SX hg h<|SX▸dD;simp only[Ls,zy];generalize z.mG.mg End ts ks 0 z.E=St at Jb⊢;generalize Item.code Fb=IR at Jb⊢;generalize IG:Item.inLoop Oa=IL;simp only[Oa,CZ,yJ,Tryz.f54,iT,jA,qh,BF];rw[SX];apply az.sq;apply az.reg [0] J;apply az.mute ah J J Xa (λ_=>aQt) (λ_=>aQq);walk_nrm;apply az.iI;apply az.sq;apply az.ctl J (λ_=>aQZ (t:=ah) aQr);apply az.ctl J (λ_=>aRA (k':=[IR]) (by rw[<-IG];rfl));exact Jb|succ r ih=>intro ks t9 t10 t33 t34 t35 t36 t37 t38 t39 t40 t41 t42 S w hl hg h dD;(have hj:O ks<z.np:=YV);have⟨p,hp⟩:∃p,z.pl[O ks]? =Y p:=⟨_,gG hj⟩;have SX:=hO.np;have uM:∀b,z.aPX b->z.E.ro b:=λb H=>.inl H;simp only[Ls,Jd,qV];generalize XM:Item.code Fb=IR;generalize IG:Item.inLoop Oa=IL;simp only[Oa,CZ,yJ,Tryz.f54,iT,jA,qh,BF];apply az.sq;apply az.reg [0] J;apply az.mute A J J Xa (λ_=>aQt) (λ_=>aQq);walk_nrm;apply az.iI;apply az.sq;apply az.ctl J (λ_=>aQZ (t:=A) aQr);apply az.ctl J (λ_=>aQ2);apply az.sq;apply az.ctl J (λ_=>aQ6);apply az.sq;apply az.reg [0,1,2] J;apply az.mu J J;walk_nrm;refine az.nM J J Xa λw1 aX=>?_;refine⟨ak w1,w1.alloc<|aC #[V Z 0] 3,.inl aQt,BC aQq<|zM _,?_⟩;replace h:=h.aW hO uM aX;replace dD:=dD.of_block<|aX.ro z.Wg<|.inr J;have Px:=Ob dD;have hLn:=λi q h1 h2 b H=>h.low b<|(h.dO i q h1 h2).sub b H;have hmr:=let ⟨_,h1,_⟩:=h.row;h.low _ h1.1;have hRn:=h.LC;have hY:=gz.new S w1 #[V Z 0] 3;replace dD:=dD.of_block (w₁:=w1.alloc<|aC #[V Z 0] 3)<|Below.heap_alloc w1 _ _ Px;replace h:=h.alloc hO Px (aC #[V Z 0] 3) λ_=>aaq J;clear aX;generalize grow S w1 (w1.alloc<|aC #[V Z 0] 3)=S at*;generalize w1.alloc (aC #[V Z 0] 3)=w at*;generalize w1=nb at*;walk_nrm;refine az.nM J J Xa λw1 aX=>?_;replace h:=h.aW hO uM aX;replace dD:=dD.of_block<|aX.ro z.Wg<|.inr J;replace hY:=hY.aW aX;have q0:=hY.cell (o:=0) J;have r0:=hY.free 0;refine⟨F,aZ w1 nb (O ks),.inr ⟨J,aQt⟩,NZ hY.1 (λ_ _=>.int) λe he=>?_,?_⟩;{simp[go_sem,storedEv,q0,r0]at he;subst he;exact .inl hY.1};rw[yF Xy];replace h:=h.set hO hY.1 (Nat.ne_of_gt hmr) Zv (O ks) λ_ _=>.int;replace dD:=dD.of_block (w₁:=aZ w1 nb (O ks))<|Below.heap_setCell w1 _ _ _<|aga Px;replace hY:=hY.set 0 (O ks);change gz S _ nb #[(O ks)] 3 at hY;clear aX q0 r0;generalize w1.setCell nb (O ks)=w at*;walk_nrm;apply az.iI;apply az.sq;apply az.reg [0,1,2] J;refine az.nM J J Xa λw1 aX=>?_;replace h:=h.aW hO uM aX;replace dD:=dD.of_block<|aX.ro z.Wg<|.inr J;replace hY:=hY.aW aX;refine⟨.chan<|Y (w1),w1.alloc<|.chan 0 #[] ah 0 0 ah,.inl (by go_simp;rw[aEf];rfl),BC (by simp[go_sem,aEg]) (Qe _ λ_ v hv=>by simp at hv),?_⟩;have hnc:=h.low nb hY.1;have qF:grow S w1 (w1.alloc<|.chan 0 #[] ah 0 0 ah) w1/\(w1.alloc<|.chan 0 #[] ah 0 0 ah).heap[M (R w1)]? =Y (.chan 0 #[] ah 0 0 ah):=⟨.inr ⟨fC _,Xy⟩,heap_alloc_new _ _⟩;have XN:=Ob dD;replace hY:=hY.alloc<|.chan 0 #[] ah 0 0 ah;replace dD:=dD.of_block (w₁:=w1.alloc<|.chan 0 #[] ah 0 0 ah)<|Below.heap_alloc w1 _ _ XN;(replace h:=h.alloc hO XN (.chan 0 #[] ah 0 0 ah) λ_ v hv=>by simp at hv);clear aX;generalize grow S w1 (w1.alloc<|.chan 0 #[] ah 0 0 ah)=S at*;generalize w1.alloc (.chan 0 #[] ah 0 0 ah)=w at*;generalize (M (R w1))=c at*;walk_nrm;refine az.nM J J Xa λw1 aX=>?_;replace h:=h.aW hO uM aX;replace dD:=dD.of_block<|aX.ro z.Wg<|.inr J;replace hY:=hY.aW aX;replace qF:S c/\w1.heap[c]? =Y (.chan 0 #[] ah 0 0 ah):=⟨qF.1,by rw[aX.own c qF.1];exact qF.2⟩;refine⟨ak w1,w1.alloc<|aC #[.chan U] 178,.inl aQt,BC aQq<|Qe _ aq5,?_⟩;have aEk:=h.low c qF.1;have hZ:=gz.new S w1 #[.chan U] 178;have aq6:=Ob dD;replace hY:=hY.alloc<|aC #[.chan U] 178;replace qF:grow S w1 (w1.alloc<|aC #[.chan U] 178) c/\(w1.alloc<|aC #[.chan U] 178).heap[c]? =Y (.chan 0 #[] ah 0 0 ah):=⟨.inl qF.1,by rw[Below.heap_alloc w1 _ _ aEk];exact qF.2⟩;replace dD:=dD.of_block (w₁:=w1.alloc<|aC #[.chan U] 178)<|Below.heap_alloc w1 _ _ aq6;replace h:=h.alloc hO aq6 (aC #[.chan U] 178) aq5;clear aX;generalize grow S w1 (w1.alloc<|aC #[.chan U] 178)=S at*;generalize w1.alloc (aC #[.chan U] 178)=w at*;generalize w1=cb at*;walk_nrm;refine az.nM J J Xa λw1 aX=>?_;replace h:=h.aW hO uM aX;replace dD:=dD.of_block<|aX.ro z.Wg<|.inr J;replace hY:=hY.aW aX;replace hZ:=hZ.aW aX;replace qF:S c/\w1.heap[c]? =Y (.chan 0 #[] ah 0 0 ah):=⟨qF.1,by rw[aX.own c qF.1];exact qF.2⟩;have q0:=hZ.cell (o:=0) J;have r0:=hZ.free 0;(have sZ:∀B,(∀b,B.dI b->¬S b)->aK B (.chan<|Y c):=λB hB=>.chan λy hy zz=>by cases hy;exact hB _ zz qF.1);refine⟨F,aZ w1 cb<|.chan<|Y c,.inr ⟨J,aQt⟩,NZ hZ.1 sZ λe he=>?_,?_⟩;{simp[go_sem,aRS,storedEv,q0,r0]at he;subst he;exact .inl hZ.1};rw[yF Xy];replace h:=h.set hO hZ.1 YV Zv (.chan<|Y c) sZ;replace dD:=dD.of_block (w₁:=aZ w1 cb<|.chan<|Y c)<|Below.heap_setCell w1 _ _ _ Xz;replace hY:gz S (aZ w1 cb<|.chan<|Y c) nb #[(O ks)] 3:=⟨hY.1,by rw[Below.heap_setCell w1 _ _ _ Xz];exact hY.2⟩;replace qF:S c/\(aZ w1 cb<|.chan<|Y c).heap[c]? =Y (.chan 0 #[] ah 0 0 ah):=⟨qF.1,by rw[Below.heap_setCell w1 _ _ _ Xz];exact qF.2⟩;replace hZ:=hZ.set 0<|.chan<|Y c;change gz S _ cb #[.chan<|Y c] 178 at hZ;clear aX q0 r0 sZ;generalize w1.setCell cb (.chan<|Y c)=w at*;walk_nrm;apply az.iI;apply az.sq;apply az.reg [0,1,2,3,4] J;apply az.mu J J;walk_nrm;refine az.val (O ks) J J Xa (λw1 aX=>?_) (λw1 aX e he=>?_) ?_;{have q0:=(hY.aW aX).cell (o:=0) J;go_simp};{have q0:=(hY.aW aX).cell (o:=0) J;simp[go_sem,q0]at he;subst he;exact .inl hY.1};walk_nrm;refine az.val (.chan<|Y c) J J Xa (λw1 aX=>?_) (λw1 aX e he=>?_) ?_;{have q0:=(hZ.aW aX).cell (o:=0) J;go_simp};{have q0:=(hZ.aW aX).cell (o:=0) J;simp[go_sem,q0]at he;subst he;exact .inl hZ.1};walk_nrm;apply az.mute (ak<|Y (z.mr,O ks)) J J Xa (λ_=>aQt) (λ_=>by simp[go_sem];rw[aRp _ _ _ _ _ _ KG ⟨YV,YV⟩]);walk_nrm;refine az.nM J J Xa λw1 aX=>?_;replace h:=h.aW hO uM aX;replace dD:=dD.of_block<|aX.ro z.Wg<|.inr J;replace hY:=hY.aW aX;replace hZ:=hZ.aW aX;replace qF:S c/\w1.heap[c]? =Y (.chan 0 #[] ah 0 0 ah):=⟨qF.1,by rw[aX.own c qF.1];exact qF.2⟩;have⟨cells,hM,hMs,hMc⟩:=h.row;(have q0:=hM.cell (o:=O ks)<|afV YV);have r0:=hM.free (O ks);(have sZ:∀B,(∀b,B.dI b->¬S b)->aK B (.chan<|Y c):=λB hB=>.chan λy hy zz=>by cases hy;exact hB _ zz qF.1);refine⟨F,aZ w1 (z.mr,O ks)<|.chan<|Y c,.inr ⟨J,aQt⟩,NZ hM.1 sZ λe he=>?_,?_⟩;{simp[go_sem,aRS,storedEv,q0,r0]at he;subst he;exact .inl hM.1};rw[yF Xy];have Yr:∀b,b≠z.mr->(aZ w1 (z.mr,O ks)<|.chan<|Y c).heap[b]? =w1.heap[b]? :=λb H=>Below.heap_setCell w1 _ _ _ H;(have hGm:iP S z.E w1 (aZ w1 (z.mr,O ks)<|.chan<|Y c) #[]:=NZ hM.1 sZ Xy);have BL:=hM.set (O ks)<|.chan<|Y c;have jH:=h.gK.qZ hO h.Lu h.LC hGm;(have XO:=λi q h1 h2=>by have:=(h.dO i q h1 h2).aaI (w':=aZ w1 (z.mr,O ks)<|.chan<|Y c) λx hx=>Yr x λe=>h.eU i q h1 h2<|e▸hx;rwa[yF Xy]at this);(have QZ:∀b,S b->b<(aZ w1 (z.mr,O ks)<|.chan<|Y c).heap.size:=λb H=>by simpa using h.low b H);(have XP:z.Ba<=(aZ w1 (z.mr,O ks)<|.chan<|Y c).heap.size:=by simpa using h.base);(have afO:∀b,z.aPX b->b<(aZ w1 (z.mr,O ks)<|.chan<|Y c).heap.size:=λb H=>by simpa using h.LC b H);have aq8:=h.eU;have hnR:=h.Lu;have hnW:=h.II;have aEl:=h.zN.1;(have aaV:z.ov<(aZ w1 (z.mr,O ks)<|.chan<|Y c).heap.size:=by simpa using h.zN.2);replace dD:=dD.of_block<|Yr z.Wg λe=>hnW<|e▸hM.1;replace hY:gz S (aZ w1 (z.mr,O ks)<|.chan<|Y c) nb #[(O ks)] 3:=⟨hY.1,by rw[Yr _ YV];exact hY.2⟩;replace hZ:gz S (aZ w1 (z.mr,O ks)<|.chan<|Y c) cb #[.chan<|Y c] 178:=⟨hZ.1,by rw[Yr _ YV];exact hZ.2⟩;replace qF:S c/\(aZ w1 (z.mr,O ks)<|.chan<|Y c).heap[c]? =Y (.chan 0 #[] ah 0 0 ah):=Zv;clear aX q0 r0 sZ hGm h hM;generalize w1.setCell (z.mr,O ks) (.chan<|Y c)=w at*;walk_nrm;apply az.iI;apply az.sq;apply az.reg [0] J;refine aEe (X:=z.mG) J J J Xa J (by walk_nrm;rfl) hnW (O ks) YV dD (.inr J) λw' hk Hq=>?_;have aEm:∀b,z.aPX b->(less z.E z.Wg).ro b:=λb H=>⟨.inl H,λe=>hO.II<|e▸H⟩;replace jH:=jH.aW hO aEm hk;replace XO:∀i q,O ks<=i->z.pl[i]? =Y q->iY S w' z.B q.lb q.bm z.n q.v q.s:=λi q h1 h2=>(XO i q h1 h2).aW hk;replace BL:=BL.aW hk;replace hY:=hY.aW hk;replace hZ:=hZ.aW hk;replace qF:S c/\w'.heap[c]? =Y (.chan 0 #[] ah 0 0 ah):=⟨qF.1,by rw[hk.own c qF.1];exact qF.2⟩;replace QZ:=D8 QZ hk;replace XP:=dX XP hk.size;replace aaV:=gZ aaV hk.size;replace afO:∀b,z.aPX b->b<w':=Zv;clear hk dD;walk_nrm;apply az.iI;apply az.reg [0,1] J;apply az.mu J J;walk_nrm;refine az.spawn (X:=z.mG) (z.wx (O ks) p nb cb c).dc J J Xa (λ_=>by go_simp;rfl) J (λ_=>aQq) λw1 hk=>?_;replace jH:=jH.aW hO uM hk;replace XO:∀i q,O ks<=i->z.pl[i]? =Y q->iY S w1 z.B q.lb q.bm z.n q.v q.s:=λi q h1 h2=>(XO i q h1 h2).aW hk;replace BL:=BL.aW hk;replace hY:=hY.aW hk;replace hZ:=hZ.aW hk;replace qF:S c/\w1.heap[c]? =Y (.chan 0 #[] ah 0 0 ah):=⟨qF.1,by rw[hk.own c qF.1];exact qF.2⟩;replace QZ:=D8 QZ hk;replace XP:=dX XP hk.size;replace aaV:=gZ aaV hk.size;replace afO:∀b,z.aPX b->b<w1:=Zv;replace Hq:=Hq.of_block<|hk.ro z.Wg<|.inr J;clear hk;have hML:=XO (O ks) p (fC _) hp;have hLb:∀b,pK p.lb p.bm p.v b->b<nb:=hLn (O ks) p (fC _) hp;have hLS:∀b,pK p.lb p.bm p.v b->S b:=hML.sub;have Dw:∀b,pK p.lb p.bm p.v b->¬(z.aPX b\/b=nb\/b=cb):=Zv;(have aEn:(z.wx (O ks) p nb cb c).p.log []=p.s:=by cases hx:p.out<;>simp[Pl.log,Gs.wx,hx]);(have aEo:(z.wx (O ks) p nb cb c).p.yI []=[]:=by simp[Pl.yI]);refine⟨⟨z.wx (O ks) p nb cb c,z.marks (O ks)⟩,pK p.lb p.bm p.v,λb=>S b/\¬pK p.lb p.bm p.v b/\¬(z.aPX b\/b=nb\/b=cb)/\b≠c,?_,hLS,qF.1,λhx=>?_,λhx=>?_,λb H=>?_,Dw,λb H=>H,⟨0,0,qF.2⟩,?_,?_⟩;{refine(aD2 (x:=z.wx (O ks) p nb cb c) (E:=Ti z.aPX<|z.wx (O ks) p nb cb c) (N:=z.N) (ms:=z.marks (O ks)) ⟨.inl hO.XI,.inr<|.inl J,.inl hO.XJ,.inl hO.XK,.inr<|.inr J,.inl hO.XL,hj,J,hO.np⟩ ⟨hO.fits,hO.es p<|iO hp⟩ (dX (AX _ _) hO.len) (λm hm=>hO.wf m (EE.1 hm).1) (λb H hx=>Dw b hx H) ?_ ⟨jH.sv,hY.cell J,jH.hv,jH.ps,hZ.cell J,jH.ob⟩).z λS' g' w' hs=>⟨_,J,hs⟩;refine⟨⟨p.v,?_,aQM⟩,⟨?_,aQM⟩,λ_=>J,jH.c0 (O ks) p hp,jH.c1 (O ks) p hp,.inl hO.Lr,λhx=>hnR _ hO.Lr<|hLS _ hx,λb H=>QZ b<|hLS b H,XP,λb H=>?_⟩;{rw[aEn];exact hML.own};{rw[aEo];exact aQS _ _ _ _};rcases H with H|H|H;{exact afO b H};{rw[H];exact QZ nb hY.1};rw[H];exact QZ cb hZ.1};{have:=hLb _ hx;simp only[Gs.mG,Gs.wx]at this;omega};{rcases hx with hx|hx|hx;{have:=hRn _ hx;simp only[Gs.mG,Gs.wx]at this;omega};{simp only[Gs.mG,Gs.wx]at hx;omega};simp only[Gs.mG,Gs.wx]at hx;omega};{rcases H with H|H|H;{exact .inr H};{rw[H];exact .inl hY.1};rw[H];exact .inl hZ.1};{rw[ajo];exact Dt _};have iy:∀b,S b->b<nb->¬pK p.lb p.bm p.v b->¬z.aPX b->(λb=>S b/\¬pK p.lb p.bm p.v b/\¬(z.aPX b\/b=nb\/b=cb)/\b≠c) b:=λb h1 h2 h3 h4=>⟨h1,h3,λhx=>by rcases hx with hx|hx|hx;{exact h4 hx};{omega};omega,YV⟩;(have hlen:(ks++[(⟨z.wx (O ks) p nb cb c,z.marks (O ks)⟩:Kd)]).length=O ks+1:=Xy);(have aEp:z.lQ (ks++[(⟨z.wx (O ks) p nb cb c,z.marks (O ks)⟩:Kd)]) (λb=>S b/\¬pK p.lb p.bm p.v b/\¬(z.aPX b\/b=nb\/b=cb)/\b≠c) w1:=by refine⟨jH,λi q h1 h2=>?_,⟨_,⟨iy _ BL.1 hmr (aq8 _ _ (fC _) hp) λhx=>hnR _ hx BL.1,BL.2⟩,by simpa using hMs,λi k hk=>?_⟩,λi q h1 h2=>aq8 i q YV h2,λb H=>QZ b H.1,λb H hx=>hnR b H hx.1,XP,afO,λhx=>hnW hx.1,λhx=>aEl hx.1,aaV⟩;{have hm:=XO i q YV h2;have alf:∀b,pK q.lb q.bm q.v b->(λb=>S b/\¬pK p.lb p.bm p.v b/\¬(z.aPX b\/b=nb\/b=cb)/\b≠c) b:=λb H=>iy b (hm.sub b H) (hLn i q YV h2 b H) (λhx=>hO.apart i (O ks) q p YV h2 hp b H hx) λhx=>hnR b hx<|hm.sub b H;exact hm.own.z alf};rw[alQ];rcases Xk hk with⟨h1,h2⟩|⟨rfl,rfl⟩;{rw[if_neg YV];exact hMc i k h2};rw[if_pos rfl,if_pos YV];rfl);(have aEq:z.Good (ks++[(⟨z.wx (O ks) p nb cb c,z.marks (O ks)⟩:Kd)]):=λi k hk=>by rcases Xk hk with⟨h1,h2⟩|⟨rfl,rfl⟩;{exact hg i k h2};exact⟨p,nb,cb,c,hp,J⟩);have hgo:=λt33 t34 t35 t36 t37 t38 t39 t40 t41 t42=>ih (ks++[(⟨z.wx (O ks) p nb cb c,z.marks (O ks)⟩:Kd)]) (ak nb) (ak cb) t33 t34 t35 t36 t37 t38 t39 t40 t41 t42 _ w1 (by rw[hlen];omega) aEq aEp (by rw[hlen];push_cast;exact Hq);rw[hlen]at hgo;generalize(λb=>S b/\¬pK p.lb p.bm p.v b/\¬(z.aPX b\/b=nb\/b=cb)/\b≠c)=S1 at hgo⊢;generalize ks++[(⟨z.wx (O ks) p nb cb c,z.marks (O ks)⟩:Kd)]=D5 at hgo⊢;generalize z.mG.mg End (Ls (O ks+1) r++ts) D5 0 z.E=St at hgo⊢;change az aj A z.E St S1 _ w1;walk_nrm;apply az.iI;apply az.ctl J (λ_=>aRj);apply az.reg [0,1] J;apply az.mute (((O ks+1:Nat):Int)) J J Xa (λ_=>by go_simp;exact wrap_i64 YV YV) (λ_=>aQq);walk_nrm;apply az.mu J J;walk_nrm;apply az.iI;rw[<-IG];apply az.ctl J (λ_=>aRt);rw[XM]at hgo;exact hgo _ _ _ _ _ _ _ _ _ _
end Twin
end
section
namespace Twin
open Go Go.Proofs Go.Conc Go.RowKit Go.Maps gy
open Go.ConcR (WgAt KK)
def dK(l:List Ms):List Ms:=l.filter λm=>decide<|m.k=2
variable{z:Gs}{ks S w w'}
def Gs.lQ.grown{row}(h:z.lQ ks S w)(hl:ks=z.np)(hO:z.Ok)(hW:z.Wg<w)(hg:w.grownBy w' row)(hr:∀k,row=Y k->S k/\k≠z.mr):z.lQ ks (grow S w w') w':=by have hz:=hg.size;have hb:∀b,b<M (R w)->(∀k,row=k->b≠k)->w'.heap[b]? =w.heap[b]? :=(by grind[World.grownBy.block]);(have hk:z.eu w':=have H:∀{a:Addr} {v:ai},w a=v->z.aPX a.block->w' a=v:=(by grind[World.cell?_of_block,cases Gs.lQ]);⟨H h.gK.sv hO.XI,H h.gK.hv hO.XJ,H h.gK.ps hO.XK,H h.gK.ob hO.XL,λi p hp=>H (h.gK.c0 i p hp) hO.Lr,λi p hp=>H (h.gK.c1 i p hp) hO.Lr,(by grind[Gs.eu.ms,Gs.lQ.gK,cases Gs.Ok]),(by grind[cases Gs.lQ,Gs.eu.fr]),hg.tape.t h.gK.tape,hg.os.t h.gK.os,hg.output.t h.gK.output⟩);refine⟨hk,λi p h1 h2=>?_,?_,λi p h1 h2=>?_,λb nH=>?_,λb nH hx=>?_,by have:=h.base;omega,(by grind[cases Gs.lQ]),λhx=>?_,λhx=>hx.e h.zN.1 λy=>by have:=h.zN.2;omega,by have:=h.zN.2;omega⟩;{have:i<z.np:=(kY.1 h2).1;omega};{have⟨cs,h1,h2⟩:=h.row;exact⟨cs,⟨.inl h1.1,by rw[hb _ (h.low _ h1.1) Zv];exact h1.2⟩,h2⟩};{have:i<z.np:=(kY.1 h2).1;omega};{rcases nH with nH|nH;{have:=h.low b nH;omega};omega};{rcases hx with hx|hx;{exact h.Lu b nH hx};have:=h.LC b nH;omega};rcases hx with hx|hx;{exact h.II hx};omega
def Gs.lQ.only{b}(h:z.lQ ks S w)(hO:z.Ok)(hl:ks=z.np)(ho:qE (λx=>x=b) w w')(hb:S b)(hm:b≠z.mr):z.lQ ks S w':=by have hz:=ho.size;have H:∀{a:Addr} {v:ai},w a=v->z.aPX a.block->w' a=v:=(by grind[World.cell?_of_block,cases qE,cases Gs.lQ]);refine⟨⟨H h.gK.sv hO.XI,H h.gK.hv hO.XJ,H h.gK.ps hO.XK,H h.gK.ob hO.XL,λi p hp=>H (h.gK.c0 i p hp) hO.Lr,λi p hp=>H (h.gK.c1 i p hp) hO.Lr,(by grind[Gs.eu.ms,Gs.lQ.gK,cases Gs.Ok]),(by grind[cases qE,cases Gs.lQ,Gs.eu.fr]),ho.tape.t h.gK.tape,ho.os.t h.gK.os,ho.output.t h.gK.output⟩,λi p h1 h2=>?_,?_,λi p h1 h2=>?_,(by grind[cases Gs.lQ]),h.Lu,by have:=h.base;omega,(by grind[cases Gs.lQ]),h.II,h.zN.1,by have:=h.zN.2;omega⟩;{have:i<z.np:=(kY.1 h2).1;omega};{have⟨cs,h1,h2⟩:=h.row;exact⟨cs,⟨h1.1,by rw[ho.still _<|Ne.s hm];exact h1.2⟩,h2⟩};have:i<z.np:=(kY.1 h2).1;omega
theorem az.send{K}{X:aT K}{End ts ks E g i v z sh κ}(hr:g.status=.running)(H:ks[i]? =Y κ)(hs:∀w1,bQ X.P A g w1=.comm g #[scase (X.ch κ) v z] A sh w1 #[]) (h:az X.P A E (X.mg End ts ks 0 E) S (g.finishComm X.P #[scase (X.ch κ) v z] sh 0 F ah) w):az X.P A E (X.mg End (.send i v::ts) ks 0 E) S g w:=az.stop λw1 aX=>⟨J,hr,κ,z,sh,H,hs w1,h.rely aX⟩
theorem aEr{End}{u:Nat->ai}{t9 t10 t33 t34 t35 t36 t37 t38 t39 t40 t41 t42 cs}(hO:z.Ok)(hl:O ks=z.np) (hn:∀t13 t46 t47 t48 t49 t50 t51 t52 t53 t54 t55 t56 t57 t58 t59 t60 t61 t62 t63 t64 t65 av S w,z.lQ ks S w->WgAt 177 z.Wg w ((z.np:Int)*KK) 0->Own S w z.Ba 119 5 av (dK z.ms).length ((dK z.ms).flatMap Ms.cs)->(∀b,dw av=Y b->b≠z.mr)->az aj A z.E (z.mG.mg End [] ks 0 z.E) S (G ((base 54).at ⟨#[ak z.xb,.slice z.ma z.ms z.mc,ak z.hv,u 3,u 4,aP z.mr z.np z.np,ak z.sv,ak z.ob,ak z.Wg,t9,t10,av,u 12,t13,u 14,u 15,u 16,u 17,u 18,u 19,u 20,u 21,u 22,u 23,u 24,u 25,u 26,u 27,u 28,u 29,u 30,V Z z.np,z.np,t33,t34,t35,t36,t37,t38,t39,t40,t41,t42,.slice z.ma z.ms z.mc,V Z (z.ms),V Z (z.ms),t46,t47,t48,t49,t50,t51,t52,t53,t54,t55,t56,t57,t58,t59,t60,t61,t62,t63,t64,t65,u 66,u 67,u 68,u 69,u 70,u 71],[]⟩ [.code Lp]) cs) w):∀r l t13 t46 t47 t48 t49 t50 t51 t52 t53 t54 t55 t56 t57 t58 t59 t60 t61 t62 t63 t64 t65 av S w,z.ms=l++r->z.lQ ks S w->WgAt 177 z.Wg w ((z.np:Int)*KK) 0->Own S w z.Ba 119 5 av (dK l).length ((dK l).flatMap Ms.cs)->(∀b,dw av=Y b->b≠z.mr)->az aj A z.E (z.mG.mg End (zO r) ks 0 z.E) S (G ((base 54).at ⟨#[ak z.xb,.slice z.ma z.ms z.mc,ak z.hv,u 3,u 4,aP z.mr z.np z.np,ak z.sv,ak z.ob,ak z.Wg,t9,t10,av,u 12,t13,u 14,u 15,u 16,u 17,u 18,u 19,u 20,u 21,u 22,u 23,u 24,u 25,u 26,u 27,u 28,u 29,u 30,V Z z.np,z.np,t33,t34,t35,t36,t37,t38,t39,t40,t41,t42,.slice z.ma z.ms z.mc,z.ms,V Z (l),t46,t47,t48,t49,t50,t51,t52,t53,t54,t55,t56,t57,t58,t59,t60,t61,t62,t63,t64,t65,u 66,u 67,u 68,u 69,u 70,u 71],[]⟩ [.code JK,.inLoop JK,.inBlock 2,.code Lp]) cs) w:=by intro r;induction r with|nil=>intro l t13 t46 t47 t48 t49 t50 t51 t52 t53 t54 t55 t56 t57 t58 t59 t60 t61 t62 t63 t64 t65 av S w Dt h dD hA QX;(obtain rfl:z.ms=l:=by rw[Dt,pV]);clear Dt;have Jb:=hn t13 ah t47 t48 t49 t50 t51 t52 t53 t54 t55 t56 t57 t58 t59 t60 t61 t62 t63 t64 t65 av S w h dD hA QX;simp only[zO];generalize z.mG.mg End [] ks 0 z.E=St at Jb⊢;generalize Item.code Lp=IR at Jb⊢;generalize IG:Item.inLoop JK=IL;simp only[JK,Fb,CZ,yJ,Tryz.f54,iT,jA,qh,BF];apply az.sq;apply az.reg [0] J;apply az.mute ah J J Xa (λ_=>aQt) (λ_=>aQq);walk_nrm;apply az.iI;apply az.sq;apply az.ctl J (λ_=>aQZ (t:=ah) aQr);apply az.ctl J (λ_=>aRA (k':=[IR]) (by rw[<-IG];rfl));exact Jb|cons m r ih=>intro l t13 t46 t47 t48 t49 t50 t51 t52 t53 t54 t55 t56 t57 t58 t59 t60 t61 t62 t63 t64 t65 av S w Dt h dD hA QX;have uM:∀b,z.aPX b->z.E.ro b:=λb hb=>.inl hb;(have aO:O l<O z.ms:=by rw[Dt];simp);(have hm:z.ms[O l]? =Y m:=by rw[Dt];simp);have xA:=iO hm;have aEs:=aQe Dt;clear Dt;(have⟨aEt,hma⟩:=hO.rmb λe=>by rw[e]at hm;simp at hm);have uy:=hO.len;have aM4:=hO.small;generalize XM:Item.code Lp=IR;generalize IG:Item.inLoop JK=IL;simp only[JK,Fb,CZ,yJ,Tryz.f54,iT,jA,qh,BF];apply az.sq;apply az.reg [0] J;apply az.mute A J J Xa (λ_=>aQt) (λ_=>aQq);walk_nrm;apply az.iI;apply az.sq;apply az.ctl J (λ_=>aQZ (t:=A) aQr);apply az.ctl J (λ_=>aQ2);apply az.sq;apply az.ctl J (λ_=>aQ6);apply az.sq;apply az.reg [0,1,2,3] J;rw[hma];apply az.mute (ak<|Y ⟨z.mb,O l*5,U⟩) J J Xa (λ_=>aQt) (λ_=>by simp[go_sem];rw[aRp _ _ _ _ _ _ KG ⟨YV,YV⟩]);walk_nrm;refine az.val (jf #[m.k,m.q,m.p,m.t,m.c]) J J Xa (λw1 H=>?_) (λw1 H e he=>?_) ?_;{have hx:=(h.aW hO uM H).gK.ms (O l) m hm;have g0:=hx 0 _ J;have g1:=hx 1 _ J;have g2:=hx 2 _ J;have g3:=hx 3 _ J;have g4:=hx 4 _ J;simp only[Rj]at g0;go_simp};{have hx:=(h.aW hO uM H).gK.ms (O l) m hm;have g0:=hx 0 _ J;have g1:=hx 1 _ J;have g2:=hx 2 _ J;have g3:=hx 3 _ J;have g4:=hx 4 _ J;simp only[Rj]at g0;simp[go_sem,g0,g1,g2,g3,g4]at he;rcases he with rfl|rfl|rfl|rfl|rfl<;>exact .inr ⟨aEt,J⟩};walk_nrm;refine az.nM J J Xa λw1 H=>?_;replace h:=h.aW hO uM H;replace dD:=dD.of_block<|H.ro z.Wg<|.inr J;replace hA:=hA.aW H;have Px:=Ob dD;refine⟨ak<|Y ⟨M (R w1),0,U⟩,w1.alloc<|aC #[V Z 0,V Z 0,V Z 0,V Z 0,ah] 119,.inl aQt,BC aQq<|zM _,?_⟩;have QU:=λb hb=>h.low b<|hA.r b hb;have hmr:=let ⟨_,h1,_⟩:=h.row;h.low _ h1.1;have hY:=gz.new S w1 #[V Z 0,V Z 0,V Z 0,V Z 0,ah] 119;replace dD:=dD.of_block (w₁:=w1.alloc<|aC #[V Z 0,V Z 0,V Z 0,V Z 0,ah] 119)<|Below.heap_alloc w1 _ _ Px;replace hA:Own (grow S w1<|w1.alloc<|aC #[V Z 0,V Z 0,V Z 0,V Z 0,ah] 119) (w1.alloc<|aC #[V Z 0,V Z 0,V Z 0,V Z 0,ah] 119) z.Ba 119 5 av (dK l).length ((dK l).flatMap Ms.cs):=hA.of (λb hb=>.inl hb) λb hb=>Below.heap_alloc w1 _ _<|QU b hb;replace h:=h.alloc hO Px (aC #[V Z 0,V Z 0,V Z 0,V Z 0,ah] 119) λ_=>aaq J;clear H;generalize grow S w1 (w1.alloc<|aC #[V Z 0,V Z 0,V Z 0,V Z 0,ah] 119)=S at*;generalize w1.alloc (aC #[V Z 0,V Z 0,V Z 0,V Z 0,ah] 119)=w at*;generalize w1=bb at*;walk_nrm;refine az.nM J J Xa λw1 H=>?_;replace h:=h.aW hO uM H;replace dD:=dD.of_block<|H.ro z.Wg<|.inr J;replace hA:=hA.aW H;replace hY:=hY.aW H;have q0:=hY.cell (o:=0) J;have q1:=hY.cell (o:=1) J;have q2:=hY.cell (o:=2) J;have q3:=hY.cell (o:=3) J;have q4:=hY.cell (o:=4) J;have r0:=hY.free 0;have r1:=hY.free 1;have r2:=hY.free 2;have r3:=hY.free 3;have r4:=hY.free 4;have hOn:qE (λx=>x=bb) w1 (((((aZ w1 ⟨bb,0,U⟩ m.k).setCell ⟨bb,1,U⟩ m.q).setCell ⟨bb,2,U⟩ m.p).setCell ⟨bb,3,U⟩ m.t).setCell ⟨bb,4,U⟩ m.c):=((((((qE.refl (λx=>x=bb) w1).set J 0 _).set J 1 _).set J 2 _).set J 3 _).set J 4 _);have hOS:=hOn.z λb hb=>hb▸hY.1;refine⟨F,((((aZ w1 ⟨bb,0,U⟩ m.k).setCell ⟨bb,1,U⟩ m.q).setCell ⟨bb,2,U⟩ m.p).setCell ⟨bb,3,U⟩ m.t).setCell ⟨bb,4,U⟩ m.c,.inr ⟨J,aQt⟩,hOS.qZ λe he=>?_,?_⟩;{simp[go_sem,ajg,storedEv,q0,q1,q2,q3,q4,r0,r1,r2,r3,r4]at he;rcases he with rfl|rfl|rfl|rfl|rfl<;>exact .inl hY.1};rw[hOS.grow];have XN:=Ob dD;(replace dD:=dD.of_block<|hOn.still z.Wg YV);replace hA:Own S (((((aZ w1 ⟨bb,0,U⟩ m.k).setCell ⟨bb,1,U⟩ m.q).setCell ⟨bb,2,U⟩ m.p).setCell ⟨bb,3,U⟩ m.t).setCell ⟨bb,4,U⟩ m.c) z.Ba 119 5 av (dK l).length ((dK l).flatMap Ms.cs):=hA.of (λb hb=>hb) λb hb=>hOn.still b<|aga<|QU b hb;replace h:=h.only hO hl hOn hY.1<|Nat.ne_of_gt hmr;replace hY:=(((((hY.set 0 m.k).set 1 m.q).set 2 m.p).set 3 m.t).set 4 m.c);change gz S _ bb #[m.k,m.q,m.p,m.t,m.c] 119 at hY;clear H q0 q1 q2 q3 q4 r0 r1 r2 r3 r4 hOn hOS;generalize((((aZ w1 ⟨bb,0,U⟩ m.k).setCell ⟨bb,1,U⟩ m.q).setCell ⟨bb,2,U⟩ m.p).setCell ⟨bb,3,U⟩ m.t).setCell ⟨bb,4,U⟩ m.c=w at*;walk_nrm;apply az.iI;apply az.sq;apply az.reg [0,1] J;apply az.mu J J;walk_nrm;refine az.val (V Z m.k) J J Xa (λw1 H=>?_) (λw1 H e he=>?_) ?_;{have q0:=(hY.aW H).cell (o:=0) J;go_simp};{have q0:=(hY.aW H).cell (o:=0) J;simp[go_sem,q0]at he;subst he;exact .inl hY.1};walk_nrm;apply az.iI;apply az.ctl J (λ_=>aQ6);apply az.sq;apply az.reg [0,1] J;(have yO:∀t13 t46 t47 t48 t49 t50 t51 t52 t53 t54 t55 t56 t57 t58 t59 t60 t61 t62 t63 t64 t65 Lm S' w',z.lQ ks S' w'->WgAt 177 z.Wg w' ((z.np:Int)*KK) 0->Own S' w' z.Ba 119 5 Lm (dK<|l++[m]).length ((dK<|l++[m]).flatMap Ms.cs)->(∀b,Lm.ownBlock=Y b->b≠z.mr)->az aj A z.E (z.mG.mg End (zO r) ks 0 z.E) S' (G ((base 54).at ⟨#[ak<|Y ⟨z.xb,0,U⟩,aP (Y ⟨z.mb,0,U⟩) (O z.ms) z.mc,ak<|Y ⟨z.hv,0,U⟩,u 3,u 4,aP (Y ⟨z.mr,0,U⟩) z.np z.np,ak<|Y ⟨z.sv,0,U⟩,ak<|Y ⟨z.ob,0,U⟩,ak<|Y ⟨z.Wg,0,U⟩,t9,t10,Lm,u 12,t13,u 14,u 15,u 16,u 17,u 18,u 19,u 20,u 21,u 22,u 23,u 24,u 25,u 26,u 27,u 28,u 29,u 30,V Z z.np,V Z z.np,t33,t34,t35,t36,t37,t38,t39,t40,t41,t42,aP (Y ⟨z.mb,0,U⟩) (O z.ms) z.mc,V Z (O z.ms),V Z (O l),t46,t47,t48,t49,t50,t51,t52,t53,t54,t55,t56,t57,t58,t59,t60,t61,t62,t63,t64,t65,u 66,u 67,u 68,u 69,u 70,u 71],[]⟩ [.inBlock 4,.inBlock 3,.code<|jA<|jA<|jA JK,IL,.inBlock 2,IR]) cs) w':=by intro t13 t46 t47 t48 t49 t50 t51 t52 t53 t54 t55 t56 t57 t58 t59 t60 t61 t62 t63 t64 t65 Lm S' w' h1 h2 h3 h4;have hi:=λt46 t47 t48 t49 t50 t51 t52 t53 t54 t55 t56 t57 t58 t59 t60 t61 t62 t63 t64 t65=>ih (l++[m]) t13 t46 t47 t48 t49 t50 t51 t52 t53 t54 t55 t56 t57 t58 t59 t60 t61 t62 t63 t64 t65 Lm S' w' (by rw[aEs];simp) h1 h2 h3 h4;(have hlen:(l++[m]).length=O l+1:=Xy);rw[hlen]at hi;clear hlen h1 h2 h3 h4 ih hn h dD hA hY;generalize z.mG.mg End (zO r) ks 0 z.E=St at hi⊢;rw[XM,IG,hma]at hi;rw[<-IG];generalize aEu:Item.inLoop JK=IL2;simp only[JK,Fb,CZ,yJ,Tryz.f54,iT,jA,qh,BF];apply az.ctl J (λ_=>aRj);apply az.ctl J (λ_=>aRj);apply az.reg [0,1] J;apply az.mute (V Z ((O l+1:Nat):Int)) J J Xa (λ_=>by go_simp;exact wrap_i64 YV YV) (λ_=>aQq);walk_nrm;apply az.mu J J;walk_nrm;apply az.iI;rw[<-aEu];apply az.ctl J (λ_=>aRt);rw[IG];exact hi _ _ _ _ _ _ _ _ _ _ _ _ _ _ _ _ _ _ _ _);simp only[JK,Fb,CZ,yJ,Tryz.f54,iT,jA,qh,BF]at yO;by_cases H:m.k=1;{have aeF:=aQe H;apply az.mute (aA A) J J Xa (λ_=>aQt) (λ_=>aQq);clear H;walk_nrm;apply az.mu J J;walk_nrm;apply az.iI;apply az.ctl J (λ_=>aQZ (t:=A) aQr);have⟨qn,Jr,aM6⟩:=hO.q m xA aeF;have⟨κ,qM⟩:∃κ,ks[qn]? =Y κ:=⟨_,gG YV⟩;have⟨cells,hM,hMs,hMc⟩:=h.row;(have zZ:zO (m::r)=.send qn (nP m)::zO r:=by show(if m.k=1 then .send m.q.toNat (nP m)::zO r else zO r)=_;rw[if_pos<|show m.k=1 from aeF,Jr,Int.toNat_natCast]);rw[zZ];(have hcell:cells[m.q.toNat]? =Y (.chan<|Y κ.x.p.c):=by rw[Jr,Int.toNat_natCast];exact hMc qn κ qM);(have oJ:0<=m.q:=YV);(have lF:m.q<z.np:=YV);(have aaX:dK (l++[m])=dK l:=by unfold dK;rw[FY,acH (by rw[show m.k=1 from aeF];decide)];simp);clear Jr zZ hMc;refine az.drawn (X:=λzz a S' w'=>zz=6/\a=⟨#[ak<|Y ⟨z.xb,0,U⟩,aP (Y ⟨z.mb,0,U⟩) (O z.ms) z.mc,ak<|Y ⟨z.hv,0,U⟩,u 3,u 4,aP (Y ⟨z.mr,0,U⟩) z.np z.np,ak<|Y ⟨z.sv,0,U⟩,ak<|Y ⟨z.ob,0,U⟩,ak<|Y ⟨z.Wg,0,U⟩,t9,t10,av,u 12,ak<|Y ⟨bb,0,U⟩,u 14,u 15,u 16,u 17,u 18,u 19,u 20,u 21,u 22,u 23,u 24,u 25,u 26,u 27,u 28,u 29,u 30,V Z z.np,V Z z.np,t33,t34,t35,t36,t37,t38,t39,t40,t41,t42,aP (Y ⟨z.mb,0,U⟩) (O z.ms) z.mc,O z.ms,V Z (O l),aA A,ak<|Y ⟨z.mb,O l*5,U⟩,jf #[V Z m.k,V Z m.q,V Z m.p,V Z m.t,aA m.c],ak<|Y ⟨bb,0,U⟩,m.k,A,A,aP (Y ⟨z.mr,0,U⟩) z.np z.np,ak<|Y ⟨bb,1,U⟩,m.q,ak<|Y ⟨z.mr,m.q.toNat,U⟩,.chan<|Y κ.x.p.c,jf #[m.k,m.q,m.p,m.t,m.c],t59,t60,t61,t62,t63,t64,t65,u 66,u 67,u 68,u 69,u 70,u 71],[]⟩/\z.lQ ks S' w'/\WgAt 177 z.Wg w' ((z.np:Int)*KK) 0/\Own S' w' z.Ba 119 5 av (dK l).length ((dK l).flatMap Ms.cs)) (aPU:=λS' w'=>gz S' w' bb #[m.k,m.q,m.p,m.t,m.c] 119/\gz S' w' z.mr cells 178) (Q:=λ_ _ _=>False) J Xa KG (λ_ _ _ h=>h.e) ?_ ?_;{rintro zz a S' w' ⟨rfl,rfl,h1,h2,h3⟩;refine az.send (X:=z.mG) (κ:=κ) (z:=dZ #[]) (sh:=.send) J qM (λw1=>?_) ?_;{rw[stepG_comm (cases:=#[scase κ.x.p.c (nP m)<|dZ #[]]) (blocking:=A) (shape:=.send) (w':=w1) rfl rfl Xa (by go_simp;rfl)];congr 1};rw[aeB];walk_nrm;apply az.iI;exact yO _ _ _ _ _ _ _ _ _ _ _ _ _ _ _ _ _ _ _ _ _ _ S' w' h1 h2 (by rw[aaX];exact h3) QX};intro w1 hk;have hI:∀(S':aS) (x1 y1:ae),(gz S' x1 bb #[m.k,m.q,m.p,m.t,m.c] 119/\gz S' x1 z.mr cells 178)->bg S' z.E x1 y1->(gz S' y1 bb #[m.k,m.q,m.p,V Z m.t,aA m.c] 119/\gz S' y1 z.mr cells 178):=λ_ _ _ h1 h2=>⟨h1.1.aW h2,h1.2.aW h2⟩;have hQ:∀(_:Act) (S':aS) (x1 y1:ae),False->bg S' z.E x1 y1->False:=λ_ _ _ _ h _=>h;(have hX:I (∀(zz:Nat) (a:Act) (S':aS) (w' y1:ae),(zz=6/\a=⟨#[ak<|Y ⟨z.xb,0,U⟩,aP (Y ⟨z.mb,0,U⟩) (O z.ms) z.mc,ak<|Y ⟨z.hv,0,U⟩,u 3,u 4,aP (Y ⟨z.mr,0,U⟩) z.np z.np,ak<|Y ⟨z.sv,0,U⟩,ak<|Y ⟨z.ob,0,U⟩,ak<|Y ⟨z.Wg,0,U⟩,t9,t10,av,u 12,ak<|Y ⟨bb,0,U⟩,u 14,u 15,u 16,u 17,u 18,u 19,u 20,u 21,u 22,u 23,u 24,u 25,u 26,u 27,u 28,u 29,u 30,V Z z.np,V Z z.np,t33,t34,t35,t36,t37,t38,t39,t40,t41,t42,aP (Y ⟨z.mb,0,U⟩) (O z.ms) z.mc,O z.ms,V Z (O l),aA A,ak<|Y ⟨z.mb,O l*5,U⟩,jf #[V Z m.k,V Z m.q,V Z m.p,V Z m.t,aA m.c],ak<|Y ⟨bb,0,U⟩,m.k,A,A,aP (Y ⟨z.mr,0,U⟩) z.np z.np,ak<|Y ⟨bb,1,U⟩,m.q,ak<|Y ⟨z.mr,m.q.toNat,U⟩,.chan<|Y κ.x.p.c,jf #[m.k,m.q,m.p,V Z m.t,aA m.c],t59,t60,t61,t62,t63,t64,t65,u 66,u 67,u 68,u 69,u 70,u 71],[]⟩/\z.lQ ks S' w'/\WgAt 177 z.Wg w' ((z.np:Int)*KK) 0/\Own S' w' z.Ba 119 5 av (dK l).length ((dK l).flatMap Ms.cs))->bg S' z.E w' y1->(zz=6/\a=⟨#[ak<|Y ⟨z.xb,0,U⟩,aP (Y ⟨z.mb,0,U⟩) (O z.ms) z.mc,ak<|Y ⟨z.hv,0,U⟩,u 3,u 4,aP (Y ⟨z.mr,0,U⟩) z.np z.np,ak<|Y ⟨z.sv,0,U⟩,ak<|Y ⟨z.ob,0,U⟩,ak<|Y ⟨z.Wg,0,U⟩,t9,t10,av,u 12,ak<|Y ⟨bb,0,U⟩,u 14,u 15,u 16,u 17,u 18,u 19,u 20,u 21,u 22,u 23,u 24,u 25,u 26,u 27,u 28,u 29,u 30,V Z z.np,V Z z.np,t33,t34,t35,t36,t37,t38,t39,t40,t41,t42,aP (Y ⟨z.mb,0,U⟩) (O z.ms) z.mc,O z.ms,V Z (O l),aA A,ak<|Y ⟨z.mb,O l*5,U⟩,jf #[V Z m.k,V Z m.q,V Z m.p,V Z m.t,aA m.c],ak<|Y ⟨bb,0,U⟩,m.k,A,A,aP (Y ⟨z.mr,0,U⟩) z.np z.np,ak<|Y ⟨bb,1,U⟩,m.q,ak<|Y ⟨z.mr,m.q.toNat,U⟩,.chan<|Y κ.x.p.c,jf #[m.k,m.q,m.p,m.t,m.c],t59,t60,t61,t62,t63,t64,t65,u 66,u 67,u 68,u 69,u 70,u 71],[]⟩/\z.lQ ks S' y1/\WgAt 177 z.Wg y1 ((z.np:Int)*KK) 0/\Own S' y1 z.Ba 119 5 av (dK l).length ((dK l).flatMap Ms.cs))):=by rintro zz a S' w' y1 ⟨h1,h2,h3,h4,h5⟩ hk;exact⟨h1,h2,h3.aW hO uM hk,h4.of_block<|hk.ro z.Wg<|.inr J,h5.aW hk⟩);have L6:=hk.t<|bg.at S z.E w1<|w1.drawn+1;have h2:=h.aW hO uM L6;have arb:=dD.of_block<|L6.ro z.Wg<|.inr J;have Dx:=hA.aW L6;have uY:=hI S w _ ⟨hY,hM⟩ L6;change xu _ _ _ _ _ _ _ _ _ _ _ _ _ (w1.at<|w1.drawn+1);generalize w1.at (w1.drawn+1)=w2 at h2 arb Dx uY⊢;clear hk L6 h dD hA hY hM yO;simp only[F7,Cc,EF,Nat.reduceAdd,UE];refine uK hI hQ hX (i:=0) J (by kernel_rfl) (by kernel_rfl) (by kernel_rfl) (by kernel_rfl) (v:=_) ⟨J,λS' w' hi=>⟨by go_simp<;>rfl,λe he=>?_⟩⟩ uY ?_;{have hm:=aQW he;simp[go_sem]at hm};walk_nrm;refine uK hI hQ hX (i:=1) J (by kernel_rfl) (by kernel_rfl) (by kernel_rfl) (by kernel_rfl) (v:=ak<|Y ⟨bb,1,U⟩) ⟨J,λS' w' hi=>⟨by go_simp<;>rfl,λe he=>?_⟩⟩ uY ?_;{have hm:=aQW he;simp[go_sem]at hm};walk_nrm;refine uK hI hQ hX (i:=2) J (by kernel_rfl) (by kernel_rfl) (by kernel_rfl) (by kernel_rfl) (v:=m.q) ⟨J,λS' w' hi=>⟨?_,λe he=>?_⟩⟩ uY ?_;{have g0:=hi.1.cell (o:=1) J;go_simp};{have g0:=hi.1.cell (o:=1) J;have hm:=aQW he;simp[go_sem,g0]at hm;subst hm;exact .inl hi.1.1};walk_nrm;refine uK hI hQ hX (i:=3) J (by kernel_rfl) (by kernel_rfl) (by kernel_rfl) (by kernel_rfl) (v:=ak<|Y ⟨z.mr,m.q.toNat,U⟩) ⟨J,λS' w' hi=>⟨?_,λe he=>?_⟩⟩ uY ?_;{go_simp};{have hm:=aQW he;simp[go_sem]at hm;rw[aRp _ _ _ _ _ _ (by kernel_rfl) ⟨oJ,lF⟩]at hm;simp at hm};walk_nrm;refine uK hI hQ hX (i:=4) J (by kernel_rfl) (by kernel_rfl) (by kernel_rfl) (by kernel_rfl) (v:=.chan<|Y κ.x.p.c) ⟨J,λS' w' hi=>⟨?_,λe he=>?_⟩⟩ uY ?_;{have g0:=hi.2.cell (o:=m.q.toNat) hcell;go_simp};{have g0:=hi.2.cell (o:=m.q.toNat) hcell;have hm:=aQW he;simp[go_sem,g0]at hm;subst hm;exact .inl hi.2.1};walk_nrm;refine uK hI hQ hX (i:=5) J (by kernel_rfl) (by kernel_rfl) (by kernel_rfl) (by kernel_rfl) (v:=jf #[m.k,m.q,m.p,m.t,m.c]) ⟨J,λS' w' hi=>⟨?_,λe he=>?_⟩⟩ uY ?_;{have g0:=hi.1.cell (o:=0) J;have g1:=hi.1.cell (o:=1) J;have g2:=hi.1.cell (o:=2) J;have g3:=hi.1.cell (o:=3) J;have g4:=hi.1.cell (o:=4) J;go_simp};{have g0:=hi.1.cell (o:=0) J;have g1:=hi.1.cell (o:=1) J;have g2:=hi.1.cell (o:=2) J;have g3:=hi.1.cell (o:=3) J;have g4:=hi.1.cell (o:=4) J;have hm:=aQW he;simp[go_sem,g0,g1,g2,g3,g4]at hm;rcases hm with rfl|rfl|rfl|rfl|rfl<;>exact .inl hi.1.1};walk_nrm;exact aqJ (by kernel_rfl) (by kernel_rfl) ⟨J,J,h2,arb,Dx⟩};have aeF:=H;rw[show zO (m::r)=zO r from if_neg H];refine az.mute ah J J (by decide) (λ_=>by go_simp) (λ_=>by simp[go_sem]) ?_;clear H;walk_nrm;refine az.mu J J ?_;walk_nrm;refine az.iI ?_;refine az.ctl J (λ_=>aQZ (t:=ah)<|by rfl) ?_;refine az.sq ?_;refine az.reg [0,1] J ?_;by_cases jH:m.k=2;{have ajt:I (m.k=2):=jH;refine az.mute A J J (by decide) (λ_=>by go_simp) (λ_=>by simp[go_sem]) ?_;clear jH;walk_nrm;refine az.mu J J ?_;walk_nrm;refine az.iI ?_;refine az.ctl J (λ_=>aQZ (t:=A)<|by rfl) ?_;refine az.reg [0,1,2,3,4] J ?_;refine az.mu J J ?_;walk_nrm;refine az.val (jf #[m.k,m.q,m.p,m.t,m.c]) J J (by decide) (λw1 H=>?_) (λw1 H e he=>?_) ?_;{have hx:=hY.aW H;have g0:=hx.cell (o:=0) J;have g1:=hx.cell (o:=1) J;have g2:=hx.cell (o:=2) J;have g3:=hx.cell (o:=3) J;have g4:=hx.cell (o:=4) J;go_simp};{have hx:=hY.aW H;have g0:=hx.cell (o:=0) J;have g1:=hx.cell (o:=1) J;have g2:=hx.cell (o:=2) J;have g3:=hx.cell (o:=3) J;have g4:=hx.cell (o:=4) J;simp[go_sem,g0,g1,g2,g3,g4]at he;rcases he with rfl|rfl|rfl|rfl|rfl<;>exact .inl hY.1};walk_nrm;refine az.nM J J (by decide) λw1 H=>?_;replace h:=h.aW hO uM H;replace dD:=dD.of_block<|H.ro z.Wg<|.inr J;replace hA:=hA.aW H;have XN:=Ob dD;have arc:∀b,dw av=Y b->b<w1:=λb hb=>h.low b<|hA.r b hb;have aEv:z.mr<w1:=let ⟨_,h1,_⟩:=h.row;h.low _ h1.1;refine⟨aP (Y ⟨M (R w1),0,U⟩) 1 1,w1.alloc<|aC #[m.k,m.q,m.p,m.t,m.c] 119,.inl<|by go_simp,BC (by simp[go_sem])<|zM _,?_⟩;have hN:=gz.new S w1 #[m.k,m.q,m.p,m.t,m.c] 119;replace dD:=dD.of_block (w₁:=w1.alloc<|aC #[m.k,m.q,m.p,m.t,m.c] 119)<|Below.heap_alloc w1 _ _ XN;replace hA:Own (grow S w1<|w1.alloc<|aC #[m.k,m.q,m.p,m.t,m.c] 119) (w1.alloc<|aC #[m.k,m.q,m.p,m.t,m.c] 119) z.Ba 119 5 av (dK l).length ((dK l).flatMap Ms.cs):=hA.of (λb hb=>.inl hb) λb hb=>Below.heap_alloc w1 _ _<|arc b hb;replace h:=h.alloc hO XN (aC #[m.k,m.q,m.p,m.t,m.c] 119) λ_=>aaq J;clear H hY arc aEv;generalize grow S w1 (w1.alloc<|aC #[m.k,m.q,m.p,m.t,m.c] 119)=S2 at*;generalize w1.alloc (aC #[m.k,m.q,m.p,m.t,m.c] 119)=w at*;generalize w1=cc at*;walk_nrm;refine az.nM J J (by decide) λw6 vN=>?_;have vG:=hA.aW vN;have BD:=hN.aW vN;replace h:=h.aW hO uM vN;replace dD:=dD.of_block<|vN.ro z.Wg<|.inr J;have J7:=h.base;obtain⟨i0,dL,lU,lG,hi3⟩:=aQX Pz;have zX:(dK l).length<=O l:=AX _ _;(have hb6:((dK l).length+1)*40<=2^47:=by omega);obtain⟨g,cap,w7,Qa,aaM,GM,N7,aaN⟩:=aRX (P:=aj) w6 107 107 z.Ba 119 i0 _ 5 40 underlying107 dL lU lG hi3 J (by omega) av (dK l).length ((dK l).flatMap Ms.cs) vG.row ⟨cc,0,U⟩ 1 1 m.cs J (World.news_of_block BD.2) (by simp[Ms.cs,Value.oneCell']) (by omega) (by simp only[cZ];omega) hb6 J7 _ J;have acr:=aRK (P:=aj) w6 z.Ba 107 107 119 i0 _ 5 40 underlying107 dL lU lG hi3 av (dK l).length ((dK l).flatMap Ms.cs) vG.row ⟨cc,0,U⟩ 1 1 m.cs J (World.news_of_block BD.2) (by simp[Ms.cs,Value.oneCell']) (by simp only[cZ];omega) hb6;(have Qb:iP S2 z.E w6 w7 ((Builtin.append_ #[107,107] 107 #[av,aP (Y ⟨cc,0,U⟩) 1 1]).events aj w6 #[]):=ajb GM vG.r (λs h5 hs hw=>((UL (adg h5).toFit<|ok_two (aaJ vG.row λk hk zz=>(hs k zz).1<|vG.r k hk) (.slice λy hy zz=>by cases hy;exact(hs _ zz).1 BD.1)).Jh hw Qa λb hb=>(hs b hb).2).2) λe he=>by rcases acr e he with⟨ad,h1,h2|h2⟩|⟨m,rfl,h2⟩;{exact(show qc _ _ _ by unfold qc;rw[h1];exact .inl<|.inl<|h2.2▸BD.1)};{exact(show qc _ _ _ by unfold qc;rw[h1];exact .inl<|.inl<|vG.r _ h2.s)};exact h2);refine⟨aP (Y ⟨g,0,U⟩) ((dK l).length+1) cap,w7,.inl ?_,?_,?_⟩;{exact aey (.tmp 61) (.tmp 63) 107 J J J Qa};{rw[events_append_op (.tmp 61) (.tmp 63) 107 rfl rfl rfl];exact Qb};have ard:=Ob dD;have aM7:z.mr<w6:=let ⟨_,h1,_⟩:=h.row;h.low _ h1.1;(have hgS:(grow S2 w6 w7) g:=by rcases N7 with h1|h1;{exact .inl<|vG.r g h1};exact .inr ⟨by omega,aaN⟩);have h7:=h.grown hl hO ard GM λk hk=>⟨vG.r k hk,QX k hk⟩;(have Dn:g≠z.mr:=by rcases N7 with h1|h1;{exact QX g h1};omega);have aEw:WgAt 177 z.Wg w7 ((z.np:Int)*KK) 0:=dD.of_block<|GM.block _ ard λe=>h.II<|vG.r _ e.s;(have aaX:dK (l++[m])=dK l++[m]:=by unfold dK;rw[FY,afW (by simp;exact ajt)];rfl);(have hA7:Own (grow S2 w6 w7) w7 z.Ba 119 5 (aP (Y ⟨g,0,U⟩) ((dK l).length+1) cap) (dK<|l++[m]).length ((dK<|l++[m]).flatMap Ms.cs):=by rw[aaX];exact⟨by simpa using aaM,λb hb=>by simp only[Value.ownBlock,iR]at hb;exact hb▸hgS⟩);generalize grow S2 w6 w7=S7 at*;walk_nrm;refine az.mu J J ?_;walk_nrm;refine az.iI ?_;exact yO _ _ _ _ _ _ _ _ _ _ _ _ _ _ _ _ _ _ _ _ _ _ S7 w7 h7 aEw hA7 (λb hb=>by simp only[Value.ownBlock,iR]at hb;exact hb▸Dn)};have ajt:I (m.k≠2):=jH;refine az.mute ah J J (by decide) (λ_=>by go_simp) (λ_=>by simp[go_sem]) ?_;clear jH;walk_nrm;refine az.mu J J ?_;walk_nrm;refine az.iI ?_;refine az.ctl J (λ_=>aQZ (t:=ah)<|by rfl) ?_;refine az.ctl J (λ_=>aQ2) ?_;(have aaX:dK (l++[m])=dK l:=by unfold dK;rw[FY,acH (by simp;exact ajt)];simp);refine yO _ _ _ _ _ _ _ _ _ _ _ _ _ _ _ _ _ _ _ _ _ _ S w h dD (by rw[aaX];exact hA) QX
end Twin
end
section
namespace Twin
open Go Go.Proofs Go.Conc Go.RowKit Go.Maps gy
open Go.ConcR (WgAt KK DC0)
open Go.ConcN (WgLive)
noncomputable def aeG:Array Oper:=match qh (jA Lp)with| .region _ o _=>o|_=>#[]
noncomputable def Oc:Code:=jA<|jA Lp
noncomputable def dU(cs:List bK)(a:Act):Goroutine:=G ((base 54).at (a.put (Y 67)<|dZ #[]) [dm aeG [],.code Oc]) cs
noncomputable def Qg(z:Gs)(cs:List bK)(a:Act):bP->ae->Prop:=aaG link z.Wg ((base 54).at a [dm aeG [0],.code Oc]) cs
def Gs.gp(z:Gs)(u:Nat->ai)(a:Act)(S:aS)(w:ae):Prop:=∃t9 t10 t33 t34 t35 t36 t37 t38 t39 t40 t41 t42 t13 t46 t47 t48 t49 t50 t51 t52 t53 t54 t55 t56 t57 t58 t59 t60 t61 t62 t63 t64 t65 H,a=⟨#[ak z.xb,.slice z.ma z.ms z.mc,ak z.hv,u 3,u 4,aP z.mr z.np z.np,ak z.sv,ak z.ob,ak z.Wg,t9,t10,H,u 12,t13,u 14,u 15,u 16,u 17,u 18,u 19,u 20,u 21,u 22,u 23,u 24,u 25,u 26,u 27,u 28,u 29,u 30,V Z z.np,z.np,t33,t34,t35,t36,t37,t38,t39,t40,t41,t42,.slice z.ma z.ms z.mc,V Z (z.ms),V Z (z.ms),t46,t47,t48,t49,t50,t51,t52,t53,t54,t55,t56,t57,t58,t59,t60,t61,t62,t63,t64,t65,.chan z.ov,u 67,u 68,u 69,u 70,u 71],[]⟩/\z.eu w/\Own S w z.Ba 119 5 H (dK z.ms).length ((dK z.ms).flatMap Ms.cs)
def Gs.dM(z:Gs)(k:Kd)(l:List ai)(v:ai)(S:aS)(w:ae):Prop:=∃H,l=H.map nP/\k.x.p.At (Ti z.aPX k.x) H v S w
variable{z:Gs}{k l v S w}
theorem Gs.dM.aW{w1}(h:z.dM k l v S w)(H:bg S (Ti z.aPX k.x) w w1):z.dM k l v S w1:=let ⟨lm,h1,h2⟩:=h;⟨lm,h1,h2.aW H⟩
def Gs.dM.named(h:z.dM k l v S w)(B)(hB:∀b,B.dI b->¬S b):aK B v:=let ⟨_,_,H⟩:=h;aaJ H.yI.row<|by grind[Own.r,cases Pl.At]
def Gs.fin{z:Gs}(hO:z.Ok){ks}(hg:z.Good ks)(i k)(hk:ks[i]? =Y k)(l S g w)(h:z.mG.Fin k l S g w):∃v,z.mG.GK 177 z.np i v g w/\z.dM k l v S w:=by obtain⟨p,nb,cb,c,hp,rfl⟩:=hg i k hk;obtain⟨lm,v,rfl,rfl,hA,_⟩:=h;have H:=(kY.1 hp).1;refine⟨v,?_,lm,J,hA⟩;rcases hA.yI.row.2 with h2|⟨g,cap,cur,rfl,_⟩;{obtain rfl:=h2.1;exact aq2 (x:=z.wx i p nb cb c) J J J hO.dWC H};exact aq2 (x:=z.wx i p nb cb c) J J J hO.dWC H
open Go.Conc.Lib Go.ConcR.Gen Go.ConcN.Gen in def aEy(v1):#[v1]++iD ((waitFn link).ntmps- #[v1].size) F=#[v1]++iD 83 undef:=KG
open Go.ConcR (Payload)in
def aEz [Payload]{K}{X:aT K}{ty n fZ gp dM}{Good:List K->Prop}{ks:List K}{E E2:dP}{S:aS}{w:ae}{b:bK}{a:Act}{k:List Item}{cs:List bK}{ops:Array fA}{i:Nat}{rest:List Nat}{o:fA}{x:Operand}{qI:Array dB}
 (ho:ops[i]? =Y o)(hw:Region.wanted o (yielded ops a.tmps)=A)(hk:b.kind≠.early)(hq:(X.P.funcs[b.fn]?).any (·.norace)=ah)(bu:o.op=.call {callee:=.builtin .close,args:=#[x],argTypes:=qI})(hx:a.eval x=.chan (Y X.ov))
 (H:O ks=n)(afj:Good ks)(dD:WgAt ty X.Wg w (n*KK) 0)(Ei:∀(i:Nat) (k:K),ks[i]? =Y k->∀l S g w,X.Fin k l S g w->∃v,X.GK ty n i v g w/\dM k l v S w)
 (OC:∀b,E2.ro b->E.ro b/\b≠X.Wg)(hE2:∀b,E2.rd b->E.rd b)(hR:∀cap s r,w.heap[X.ov]? =Y (.chan cap #[] ah s r ah)->az X.P A E2 (λS g w=>X.AtKd ty fZ g w/\gp S w) S (G (b.at (a.put o.dst<|dZ #[])<|dm ops rest::k) cs) {w with heap:=w.heap.setIfInBounds X.ov<|.chan cap #[] A s r ah}):
 X.AtClose ty n fZ gp dM Good ks E S (G (b.at a<|dm ops (i::rest)::k) cs) w:=by
 refine⟨H,afj,dD,?_,Ei,G _ cs,E2,J,OC,hE2,λcap s r uX=>⟨?_,hR _ s r uX⟩⟩
 ·simp[mayWake,G,Frame.at,ho,bu]
 ·have jU:(eG a.eval o).run X.P w=.ok (.value<|dZ #[]) {w with heap:=w.heap.setIfInBounds X.ov<|.chan cap #[] A s r ah}:=by
   unfold eG;simp only[bu,resolve,invoke,builtin,aRW,Sem.run_pure,Result.andThen_ok,acL,uj,uA,hx,run_close_open _ _ uX]
  have pO:(eG a.eval o).events X.P w #[]=#[⟨.obj X.ov,ah,A⟩,⟨.obj X.ov,A,A⟩]:=by
   unfold eG;simp[bu,resolve,invoke,builtin,hx,events_close_open _ _ uX]
  rw[stepG_value ho hw hk jU];unfold listed;grind[seen_eq]
open Go.Conc.Lib Go.ConcR.Gen Go.ConcN.Gen in
def aEA{K}{X:aT K}{E S w}{gp:aS->ae->Prop}{b:bK}{a ops i rest k cs o args qI}(hP:X.P=aj)(ho:ops[i]? =Y o)(hw:Region.wanted o (yielded ops a.tmps)=A)(hk:b.kind≠.early)(bu:o.op=.call {callee:=.value<|.func 115,args,argTypes:=qI})(hv:args.map a.eval=#[ak X.Wg])(hM:∀w1,bg S E w w1->gp S w1):
 az X.P A E (λS g w=>X.AtKd 177 (aaG link X.Wg (b.at a<|dm ops (i::rest)::k) cs) g w/\gp S w) S (G (b.at a<|dm ops (i::rest)::k) cs) w:=by
 have H:=hP▸aaF;apply az.call ho hw hk bu H.f_wait (nm_wait _) J;rw[hv,aEy];exact aEa H hM
def Gs.E2(z:Gs):dP:=⟨z.aPX,z.aPX,λ_ h=>h⟩
open Go.Conc.Lib Go.ConcR.Gen Go.ConcN.Gen in
def aEB{z:Gs}{ks:List Kd}{u:Nat->ai}{cs:List bK}(hO:z.Ok)(hl:O ks=z.np)(hg:z.Good ks)(t9 t10 t33 t34 t35 t36 t37 t38 t39 t40 t41 t42 t13 t46 t47 t48 t49 t50 t51 t52 t53 t54 t55 t56 t57 t58 t59 t60 t61 t62 t63 t64 t65 av:ai)(S:aS)(w:ae)(h:z.lQ ks S w)(dD:WgAt 177 z.Wg w ((z.np:Int)*KK) 0)(hA:Own S w z.Ba 119 5 av (dK z.ms).length ((dK z.ms).flatMap Ms.cs)):
 az aj A z.E (z.mG.mg (λks E S g w=>∃a,z.mG.AtClose 177 z.np (Qg z cs a) (z.gp u a) z.dM z.Good ks E S g w) [] ks 0 z.E) S (G ((base 54).at ⟨#[ak<|Y ⟨z.xb,0,U⟩,.slice z.ma (O z.ms) z.mc,ak<|Y ⟨z.hv,0,U⟩,u 3,u 4,aP (Y ⟨z.mr,0,U⟩) z.np z.np,ak<|Y ⟨z.sv,0,U⟩,ak<|Y ⟨z.ob,0,U⟩,ak<|Y ⟨z.Wg,0,U⟩,t9,t10,av,u 12,t13,u 14,u 15,u 16,u 17,u 18,u 19,u 20,u 21,u 22,u 23,u 24,u 25,u 26,u 27,u 28,u 29,u 30,V Z z.np,V Z z.np,t33,t34,t35,t36,t37,t38,t39,t40,t41,t42,.slice z.ma (O z.ms) z.mc,V Z (O z.ms),V Z (O z.ms),t46,t47,t48,t49,t50,t51,t52,t53,t54,t55,t56,t57,t58,t59,t60,t61,t62,t63,t64,t65,u 66,u 67,u 68,u 69,u 70,u 71],[]⟩ [.code Lp]) cs) w:=by
 have uM:∀b,z.aPX b->z.E.ro b:=λb H=>.inl H;have oW:∀S w,z.eu w->Own S w _ _ 5 av _ _->z.gp u _ S w:=λS w h1 h2=>⟨t9,t10,t33,t34,t35,t36,t37,t38,t39,t40,t41,t42,t13,t46,t47,t48,t49,t50,t51,t52,t53,t54,t55,t56,t57,t58,t59,t60,t61,t62,t63,t64,t65,av,J,h1,h2⟩;have eF:∀S g w,g.status=.running->(∃a,z.mG.AtClose _ _ _ _ _ _ ks _ S g w)->z.mG.mg (λks E S g w=>∃a,z.mG.AtClose 177 z.np (Qg z cs a) (z.gp u a) z.dM z.Good ks E S g w) [] ks 0 z.E S g w:=λS g w h1 h2=>⟨J,h1,h2⟩;apply az.sq;apply az.reg _ J;refine az.val (.chan z.ov) J J Xa (λw1 aX=>?_) (λw1 aX e he=>?_) ?_
 ·have q0:=(h.aW hO uM aX).gK.ob;go_simp
 ·have q0:=(h.aW hO uM aX).gK.ob;simp[go_sem,q0]at he;subst he;exact .inr ⟨hO.XL,J⟩
 walk_nrm;refine az.stop λw1 aX=>eF _ _ _ J ⟨⟨#[ak z.xb,.slice z.ma z.ms z.mc,ak z.hv,u 3,u 4,aP z.mr z.np z.np,ak z.sv,ak z.ob,ak z.Wg,t9,t10,av,u 12,t13,u 14,u 15,u 16,u 17,u 18,u 19,u 20,u 21,u 22,u 23,u 24,u 25,u 26,u 27,u 28,u 29,u 30,V Z z.np,z.np,t33,t34,t35,t36,t37,t38,t39,t40,t41,t42,.slice z.ma z.ms z.mc,z.ms,V Z (z.ms),t46,t47,t48,t49,t50,t51,t52,t53,t54,t55,t56,t57,t58,t59,t60,t61,t62,t63,t64,t65,.chan z.ov,u 67,u 68,u 69,u 70,u 71],[]⟩,aEz (E2:=z.E2) J J Xa KG J J hl hg (dD.of_block<|aX.ro _<|.inr J) (Gs.fin hO hg) (λb H=>⟨.inl H,λe=>hO.II<|show z.aPX _ from(show b=z.Wg from e)▸H⟩) (λb H=>H) λcap s r uX=>?_⟩;have h1:=(h.aW hO uM aX).gK;have Ez:=hA.aW aX;have En:=h.zN.1;have FO:bg S z.E2 w1 ({w1 with heap:=w1.heap.setIfInBounds z.mG.ov<|.chan cap #[] A s r ah}:ae):=⟨J,J,J,Xy,λb H=>BZ λe=>En<|show S _ from(show z.ov=b from e)▸H,λb H=>BZ λe=>hO.zN<|show z.aPX _ from(show z.ov=b from e)▸H⟩;have h2:=h1.aW hO (λb H=>H) FO;have Dx:=Ez.aW FO;generalize({w1 with heap:=w1.heap.setIfInBounds _ _}:ae)=w2 at h2 Dx⊢
 have Eh:∀w3,bg S z.E2 w2 w3->z.gp u _ S w3:=λw3 hk=>oW S w3 (h2.aW hO (λb H=>H) hk)<|Dx.aW hk;walk_nrm;apply az.iI;apply az.sq;apply az.reg _ J;exact aEA J J J Xa J (by walk_nrm;rfl) Eh
end Twin
end
section
namespace Twin
open Go Go.Proofs Go.Conc Go.RowKit Go.Maps gy
open Go.ConcR (WgAt KK DC0)
variable{z:Gs}{u cs S w}
def aEC(hO:z.Ok)(h:z.lQ [] S w)(dD:WgAt 177 z.Wg w 0 0):az aj A z.E (z.mG.mg (λks E S g w=>∃a,z.mG.AtClose 177 z.np (Qg z cs a) (z.gp u a) z.dM z.Good ks E S g w) (Ls 0 z.np++zO z.ms) [] 0 z.E) S (G ((base 54).at ⟨#[ak z.xb,.slice z.ma z.ms z.mc,ak z.hv,u 3,u 4,aP z.mr z.np z.np,ak z.sv,ak z.ob,ak z.Wg,u 9,u 10,u 11,u 12,u 13,u 14,u 15,u 16,u 17,u 18,u 19,u 20,u 21,u 22,u 23,u 24,u 25,u 26,u 27,u 28,u 29,u 30,V Z z.np,V Z 0,u 33,u 34,u 35,u 36,u 37,u 38,u 39,u 40,u 41,u 42,u 43,u 44,u 45,u 46,u 47,u 48,u 49,u 50,u 51,u 52,u 53,u 54,u 55,u 56,u 57,u 58,u 59,u 60,u 61,u 62,u 63,u 64,u 65,u 66,u 67,u 68,u 69,u 70,u 71],[]⟩ [.code Oa,.inLoop Oa,.inBlock 0,.code Fb]) cs) w:=by (have hR:=aEi (End:=λks E S g w=>∃a,z.mG.AtClose 177 z.np (Qg z cs a) (z.gp u a) z.dM z.Good ks E S g w) (ts:=zO z.ms) (u:=u) (cs:=cs) hO (λi=>ajp i z.ms λm hm hk=>let ⟨j,hj,_⟩:=hO.q m hm hk;⟨j,hj⟩) ?_ z.np [] (u 9) (u 10) (u 33) (u 34) (u 35) (u 36) (u 37) (u 38) (u 39) (u 40) (u 41) (u 42) S w Xy (λi k hk=>by simp at hk) h<|by simpa using dD);{exact hR};intro ks t9 t10 t33 t34 t35 t36 t37 t38 t39 t40 t41 t42 S w hl hg h dD;have yO:=λt13 t46 t47 t48 t49 t50 t51 t52 t53 t54 t55 t56 t57 t58 t59 t60 t61 t62 t63 t64 t65 av S w h1 h2 h3=>aEB (u:=u) (cs:=cs) hO hl hg t9 t10 t33 t34 t35 t36 t37 t38 t39 t40 t41 t42 t13 t46 t47 t48 t49 t50 t51 t52 t53 t54 t55 t56 t57 t58 t59 t60 t61 t62 t63 t64 t65 av S w h1 h2 h3;have MO:=aEr (End:=λks E S g w=>∃a,z.mG.AtClose 177 z.np (Qg z cs a) (z.gp u a) z.dM z.Good ks E S g w) (ks:=ks) (u:=u) (t9:=t9) (t10:=t10) (t33:=t33) (t34:=t34) (t35:=t35) (t36:=t36) (t37:=t37) (t38:=t38) (t39:=t39) (t40:=t40) (t41:=t41) (t42:=t42) (cs:=cs) hO hl (λt13 t46 t47 t48 t49 t50 t51 t52 t53 t54 t55 t56 t57 t58 t59 t60 t61 t62 t63 t64 t65 av S w h1 h2 h3 _=>yO t13 t46 t47 t48 t49 t50 t51 t52 t53 t54 t55 t56 t57 t58 t59 t60 t61 t62 t63 t64 t65 av S w h1 h2 h3) z.ms [] (u 13) (u 46) (u 47) (u 48) (u 49) (u 50) (u 51) (u 52) (u 53) (u 54) (u 55) (u 56) (u 57) (u 58) (u 59) (u 60) (u 61) (u 62) (u 63) (u 64) (u 65) (aP U 0 0) S w J h dD ⟨aQS _ _ _ _,aQM⟩ aQM;generalize z.mG.mg (λks E S g w=>∃a,z.mG.AtClose 177 z.np (Qg z cs a) (z.gp u a) z.dM z.Good ks E S g w) (zO z.ms) ks 0 z.E=St at MO⊢;clear yO;generalize H:Item.code Lp=I2 at MO;simp only[JK,Lp,Fb,CZ,yJ,Tryz.f54,iT,jA,qh,BF]at MO H⊢;apply az.sq;apply az.reg [0] J;apply az.mu J J;walk_nrm;apply az.iI;apply az.sq;apply az.sq;apply az.reg [0,1,2] J;apply az.mu J J;walk_nrm;apply az.mu J J;walk_nrm;apply az.mu J J;walk_nrm;apply az.iI;apply az.ctl J (λ_=>aQ6);apply az.ctl J (λ_=>aRz);rw[H];exact MO
noncomputable def Qh:Array Oper:=match qh (jA<|jA<|jA<|jA yJ)with| .region _ o _=>o|_=>#[]
def iF(z:Gs)(u:Nat->ai):Nat->Value:=(λi=>match i with|27=>ak z.xb|28=>ak z.xb|29=>ak (Y (z.xb,68))|30=>aP z.pb z.np z.pc|i=>u i)
def aED(z u):#[ak z.xb,.slice z.ma z.ms z.mc,ak z.hv,u 3,u 4,aP z.mr z.np z.np,ak z.sv,ak z.ob,ak z.Wg,u 9,u 10,u 11,u 12,u 13,u 14,u 15,u 16,u 17,u 18,u 19,u 20,u 21,u 22,u 23,u 24,u 25,u 26,ak z.xb,ak z.xb,ak<|Y (z.xb,68),aP z.pb z.np z.pc,z.np,V Z 0,u 33,u 34,u 35,u 36,u 37,u 38,u 39,u 40,u 41,u 42,u 43,u 44,u 45,u 46,u 47,u 48,u 49,u 50,u 51,u 52,u 53,u 54,u 55,u 56,u 57,u 58,u 59,u 60,u 61,u 62,u 63,u 64,u 65,u 66,u 67,u 68,u 69,u 70,u 71]=#[ak z.xb,.slice z.ma z.ms z.mc,ak z.hv,iF z u 3,iF z u 4,aP z.mr z.np z.np,ak z.sv,ak z.ob,ak z.Wg,iF z u 9,iF z u 10,iF z u 11,iF z u 12,iF z u 13,iF z u 14,iF z u 15,iF z u 16,iF z u 17,iF z u 18,iF z u 19,iF z u 20,iF z u 21,iF z u 22,iF z u 23,iF z u 24,iF z u 25,iF z u 26,iF z u 27,iF z u 28,iF z u 29,iF z u 30,V Z z.np,V Z 0,iF z u 33,iF z u 34,iF z u 35,iF z u 36,iF z u 37,iF z u 38,iF z u 39,iF z u 40,iF z u 41,iF z u 42,iF z u 43,iF z u 44,iF z u 45,iF z u 46,iF z u 47,iF z u 48,iF z u 49,iF z u 50,iF z u 51,iF z u 52,iF z u 53,iF z u 54,iF z u 55,iF z u 56,iF z u 57,iF z u 58,iF z u 59,iF z u 60,iF z u 61,iF z u 62,iF z u 63,iF z u 64,iF z u 65,iF z u 66,iF z u 67,iF z u 68,iF z u 69,iF z u 70,iF z u 71]:=KG
def aEE(hO:z.Ok)(h:z.lQ [] S w)(dD:WgAt 177 z.Wg w 0 0):az aj A z.E (z.mG.mg (λks E S g w=>∃a,z.mG.AtClose 177 z.np (Qg z cs a) (z.gp (iF z u) a) z.dM z.Good ks E S g w) (Ls 0 z.np++zO z.ms) [] 0 z.E) S (G ((base 54).at ⟨#[ak z.xb,.slice z.ma z.ms z.mc,ak z.hv,u 3,u 4,aP z.mr z.np z.np,ak z.sv,ak z.ob,ak z.Wg,u 9,u 10,u 11,u 12,u 13,u 14,u 15,u 16,u 17,u 18,u 19,u 20,u 21,u 22,u 23,u 24,u 25,u 26,u 27,u 28,u 29,u 30,u 31,u 32,u 33,u 34,u 35,u 36,u 37,u 38,u 39,u 40,u 41,u 42,u 43,u 44,u 45,u 46,u 47,u 48,u 49,u 50,u 51,u 52,u 53,u 54,u 55,u 56,u 57,u 58,u 59,u 60,u 61,u 62,u 63,u 64,u 65,u 66,u 67,u 68,u 69,u 70,u 71],[]⟩ [dm Qh [],.code CZ]) cs) w:=by have H:=aEC (u:=iF z u) (cs:=cs) hO h dD;rw[<-aED]at H;generalize z.mG.mg (λks E S g w=>∃a,z.mG.AtClose 177 z.np (Qg z cs a) (z.gp (iF z u) a) z.dM z.Good ks E S g w) (Ls 0 z.np++zO z.ms) [] 0 z.E=St at H⊢;have uM:∀b,z.aPX b->z.E.ro b:=λb hb=>.inl hb;simp only[Oa,Fb,CZ,Qh,yJ,Tryz.f54,iT,jA,qh,BF]at H⊢;apply az.iI;apply az.sq;apply az.sq;apply az.reg [0,1,2,3,4,5] J;refine az.val (ak z.xb) J J Xa (λw1 aX=>?_) (λw1 aX e he=>?_) ?_;{have q0:=(h.aW hO uM aX).gK.hv;go_simp};{have q0:=(h.aW hO uM aX).gK.hv;simp[go_sem,q0]at he;subst he;exact .inr ⟨hO.XJ,J⟩};walk_nrm;apply az.mu J J;walk_nrm;apply az.mute (ak<|Y (z.xb,68)) J J Xa (λ_=>aQs) (λ_=>aQq);walk_nrm;refine az.val (aP z.pb z.np z.pc) J J Xa (λw1 aX=>?_) (λw1 aX e he=>?_) ?_;{have q0:=(h.aW hO uM aX).gK.ps;go_simp};{have q0:=(h.aW hO uM aX).gK.ps;simp[go_sem,q0]at he;subst he;exact .inr ⟨hO.XK,J⟩};walk_nrm;apply az.mute z.np J J Xa (λ_=>aQs) (λ_=>aQq);walk_nrm;apply az.mu J J;walk_nrm;apply az.iI;apply az.ctl J (λ_=>aQ6);apply az.ctl J (λ_=>aRz);exact H
end Twin
end
section
namespace Twin
open Go Go.Proofs Go.Conc Go.RowKit Go.Maps gy
open Go.ConcR (WgAt KK DC0)
open Go.ConcN (WgLive PayAt Has)
def arf(H s):yR (bz H s)=qg s:=by funext l;cases l<;>first|rfl|exact propext ⟨λh=>h.1,λh=>⟨h,.inl h⟩⟩
structure Gs.arh(z:Gs)(S:aS)(w:ae):Prop where
 XQ:z.lQ [] S w
 own:∀b,S b->b≠z.Wg/\b≠z.C/\b≠z.ov/\¬(z.jF b\/z.Gx b)
 rd:∀b,z.aPX b->¬z.jF b
 cl:z.C<M (R w)
 ns:¬(z.jF z.Wg\/z.Gx z.Wg)/\¬(z.jF z.C\/z.Gx z.C)/\¬(z.jF z.ov\/z.Gx z.ov)
 ne:z.Wg≠z.ov/\z.C≠z.ov
 over:∃cap s r,w.heap[z.ov]? =Y (.chan cap #[] ah s r ah)
 pay:∃cs:Array ai,w.heap[z.C]? =Y (.cells cs 107)/\cs.size=z.np
 wg:WgAt 177 z.Wg w 0 0
 uI:kT (λb=>(z.jF b\/z.Gx b)\/b=z.Wg) w
def aEF{z:Gs}{u:Nat->ai}{cs:List bK}{S:aS}{w:ae}{gs:Array bP}{sl:Option (Nat×Nat)}{t:Trace}{q:Nat->Nat}(hO:z.Ok)(h:z.arh S w)(hm:z.m0=gs.size) (ha:gs[0]? =Y (G ((base 54).at ⟨#[ak<|Y ⟨z.xb,0,U⟩,.slice z.ma (O z.ms) z.mc,ak<|Y ⟨z.hv,0,U⟩,u 3,u 4,aP (Y ⟨z.mr,0,U⟩) z.np z.np,ak<|Y ⟨z.sv,0,U⟩,ak<|Y ⟨z.ob,0,U⟩,ak<|Y ⟨z.Wg,0,U⟩,u 9,u 10,u 11,u 12,u 13,u 14,u 15,u 16,u 17,u 18,u 19,u 20,u 21,u 22,u 23,u 24,u 25,u 26,u 27,u 28,u 29,u 30,u 31,u 32,u 33,u 34,u 35,u 36,u 37,u 38,u 39,u 40,u 41,u 42,u 43,u 44,u 45,u 46,u 47,u 48,u 49,u 50,u 51,u 52,u 53,u 54,u 55,u 56,u 57,u 58,u 59,u 60,u 61,u 62,u 63,u 64,u 65,u 66,u 67,u 68,u 69,u 70,u 71],[]⟩ [dm Qh [],.code CZ]) cs))(hL:Leavers aj t gs q)(hP:Past (yR<|bz z.Gx z.jF) (M (R w)) t):∃a aPV gs1 w1 pR t1 q1 ks S1 Sw G1,runNT aj aPV (crowd gs w sl) t=(.next<|crowd gs1 w1 pR,t1)/\gs1[0]? =Y (dU cs a)/\Leavers aj t1 gs1 q1/\Past (yR<|bz z.Gx λb=>z.jF b\/b=z.Wg) (M (R w1)) t1/\z.gp (iF z u) a S1 w1/\O ks=z.np/\z.Good ks/\(∃E1,z.mG.Mem ks E1 S1 G1 Sw w1)/\ PayAt z.C z.np w1/\kT (λb=>(z.jF b\/b=z.Wg)\/z.Gx b) w1/\∀(i:Nat) (k:Kd),ks[i]? =Y k->∃v,z.dM k ((z.marks i).map nP) v (Sw i) w1/\Has z.C i v w1:=by have hR:=aEE (u:=u) (cs:=cs) hO h.XQ h.wg;have yO:∀a,dU cs a=G _ cs:=λa=>J;have eF:z.mG.Start _ z.E S gs w t q:=⟨hm,hL,by rwa[<-arf _],λb H=>(h.uI.low b<|.inl H).2,λb H=>⟨h.XQ.low b H,λhx=>h.XQ.Lu b hx H,(h.own b H).1,(h.own b H).2.1,(h.own b H).2.2.1,(h.own b H).2.2.2⟩,λb H=>⟨h.XQ.LC b H,λe=>hO.II<|(show b=z.Wg from e)▸H,λe=>hO.nC<|(show b=z.C from e)▸H,λe=>hO.zN<|(show b=z.ov from e)▸H,h.rd b H⟩,λb H=>H,⟨Ob h.wg,h.cl,h.XQ.zN.2,h.ns.1,h.ns.2.1,h.ns.2.2,hO.dWC,h.ne.1,h.ne.2⟩,h.over,h.pay,h.uI⟩;have⟨a,aPV,gs1,w1,pR,t1,q1,ks,S1,Sw,G1,r1,r2,r3,r4,r5,r6,r7,r8,_,r9,Qi,r11⟩:=aT.aD8 (sl:=sl) (dU:=dU cs) z.fit (λ_ _ _ _ _ hr=>hr.named) (λ_ _ _ hx=>by obtain⟨T,rfl,_⟩:=hx;rfl) (λ_=>J) (λ_ _ _ _ _ _ hr hk=>hr.aW hk) hO.np (λa g w hx hl=>by exact aDi (X:=z.mG) aaF g w hx hl) eF ha hR;refine⟨a,aPV,gs1,w1,pR,t1,q1,ks,S1,Sw,G1,r1,r2,r3,by rwa[arf],r5,r6,r7,r8,r9,Qi.iff λb=>or_right_comm,λi k hk=>?_⟩;have:=r11 i k hk;rwa[ajo,ajp i _<|by grind[cases Gs.Ok]]at this
end Twin
end
section
namespace Twin
open Go Go.Proofs Go.Conc Go.RowKit Go.Maps gy
open Go.ConcR (WgAt KK DC0)
def ari(w:ae):∀n:Nat,1<=n->n<=4->(Instr.makeSlice 165 (V Z n)<|V Z n).run aj w=.ok (aP (Y ⟨M (R w),0,U⟩) n n) (w.alloc<|.cells (iD n<|.chan U) 178)/\(Instr.makeSlice 165 (V Z n)<|V Z n).events aj w #[]=#[]|0,h,_=>YV|1,_,_=>⟨KG,KG⟩|2,_,_=>⟨KG,KG⟩|3,_,_=>⟨KG,KG⟩|4,_,_=>⟨KG,KG⟩|n+5,_,h=>YV
def arj(w:ae):∀n:Nat,1<=n->n<=4->(Instr.makeSlice 166 (V Z n)<|V Z n).run aj w=.ok (aP (Y ⟨M (R w),0,U⟩) n n) (w.alloc<|.cells (iD n<|aP U 0 0) 107)/\(Instr.makeSlice 166 (V Z n)<|V Z n).events aj w #[]=#[]|0,h,_=>YV|1,_,_=>⟨KG,KG⟩|2,_,_=>⟨KG,KG⟩|3,_,_=>⟨KG,KG⟩|4,_,_=>⟨KG,KG⟩|n+5,_,h=>YV
def aEG(w):(Instr.makeChan 167<|V Z 0).run aj w=.ok (.chan (w)) (w.alloc<|.chan 0 #[] ah 0 0 ah):=KG
def aEH(w):(Instr.makeChan 167<|V Z 0).events aj w #[]=#[]:=KG
def ark{v}(hv:∀B,aK B v)(t B):sW B (aC #[v] t):=λx hx=>Zv
def arl{v}(hv:∀B,aK B v)(n t B):sW B (.cells (iD n v) t):=λx hx=>Zv
structure Laid(xb np:Nat)(S:aS)(w:ae)(hv mr C sv ov ob:Nat):Prop where
 bh:gz S w hv #[ak<|Y ⟨xb,0,U⟩] 33
 bm:gz S w mr (iD np<|.chan U) 178
 bC:gz S w C (iD np<|aP U 0 0) 107
 bs:gz S w sv #[aP (Y ⟨C,0,U⟩) np np] 166
 bo:S ov/\w.heap[ov]? =Y (.chan 0 #[] ah 0 0 ah)
 bb:gz S w ob #[.chan<|Y ov] 167
 lt:hv<mr/\mr<C/\C<sv/\sv<ov/\ov<ob
noncomputable def Tj:Array Oper:=match qh yJ with| .region _ o _=>o|_=>#[]
def aEI{xb hv pb H pc mv E S w cs}(h1:1<=H)(h4:H<=4)(Dv:E.rd xb){w0}(fM:w0<=M (R w))(En:¬S xb)(hS:∀b,S b->b<M (R w))(hH:gz S w hv #[ak<|Y ⟨xb,0,U⟩] 33)(iQ:w (xb,68)=aP (Y ⟨pb,0,U⟩) H pc):az aj A E (λS' g' w'=>∃(u:Nat->ai) (mr C sv ov ob:Nat),Laid xb H S' w' hv mr C sv ov ob/\w0<=mr/\g'=G ((base 54).at ⟨#[ak xb,mv,ak hv,u 3,u 4,aP mr H H,ak sv,ak ob,u 8,u 9,u 10,u 11,u 12,u 13,u 14,u 15,u 16,u 17,u 18,u 19,u 20,u 21,u 22,u 23,u 24,u 25,u 26,u 27,u 28,u 29,u 30,u 31,u 32,u 33,u 34,u 35,u 36,u 37,u 38,u 39,u 40,u 41,u 42,u 43,u 44,u 45,u 46,u 47,u 48,u 49,u 50,u 51,u 52,u 53,u 54,u 55,u 56,u 57,u 58,u 59,u 60,u 61,u 62,u 63,u 64,u 65,u 66,u 67,u 68,u 69,u 70,u 71],[]⟩ [dm Qh [0],.code CZ]) cs) S (G ((base 54).at ⟨#[ak xb,mv,ak hv,F,F,F,F,F,F,F,F,F,F,F,F,F,F,F,F,F,F,F,F,F,F,F,F,F,F,F,F,F,F,F,F,F,F,F,F,F,F,F,F,F,F,F,F,F,F,F,F,F,F,F,F,F,F,F,F,F,F,F,F,F,F,F,F,F,F,F,F,F],[]⟩ [dm Tj [1],.code<|jA yJ]) cs) w:=by
 generalize XM:Item.code CZ=IR;generalize hI1:Item.inRegion Qh [0]=I1;simp only[CZ,Qh,Tj,yJ,Tryz.f54,iT,jA,qh]at XM hI1⊢;apply az.mu J J;walk_nrm;apply az.iI;apply az.sq;apply az.reg [0,1,2,3,4,5,6] J;refine az.val (ak xb) J J Xa (λw1 aX=>?_) (λw1 aX e he=>?_) ?_;{have q0:=(hH.aW aX).cell (o:=0) J;go_simp};{have q0:=(hH.aW aX).cell (o:=0) J;simp[go_sem,q0]at he;subst he;exact .inl hH.1};walk_nrm;apply az.mu J J;walk_nrm;apply az.mute (ak<|Y (xb,68)) J J Xa (λ_=>aQs) (λ_=>aQq);walk_nrm;refine az.val (aP pb H pc) J J Xa (λw1 aX=>?_) (λw1 aX e he=>?_) ?_;{have q0:=rq iQ Dv aX;go_simp};{have q0:=rq iQ Dv aX;simp[go_sem,q0]at he;subst he;exact .inr ⟨Dv,J⟩};walk_nrm;apply az.mute (V Z H) J J Xa (λ_=>aQs) (λ_=>aQq);walk_nrm;refine az.nM J J Xa λw1 aX=>?_;have ed:=aX.size;replace hH:=hH.aW aX;replace iQ:=rq iQ Dv aX;replace hS:=D8 hS aX;refine⟨aP (M (R w1)) H H,w1.alloc<|.cells (iD H<|.chan U) 178,.inl (by go_simp;rw[(ari w1 H h1 h4).1];rfl),BC (by simp[go_sem];exact(ari w1 H h1 h4).2) (Qe _<|arl (λ_=>.chan λx hx=>by cases hx) H 178),?_⟩;have aEJ:=hS _ hH.1;have aEK:w0<=w1:=YV
 have iZ:=uD iQ;simp only at iZ;have hM:=gz.new S w1 (iD H<|.chan U) 178;replace hH:=hH.alloc<|.cells (iD H<|.chan U) 178;replace iQ:(w1.alloc<|.cells (iD H<|.chan U) 178).cell? (xb,68)=Y (aP pb H pc):=(World.cell?_of_block<|Below.heap_alloc w1 _ _<|uD iQ).t iQ;replace En:¬grow S w1 (w1.alloc<|.cells (iD H<|.chan U) 178) xb:=λhx=>hx.e En λy=>YV
 replace hS:=Qd hS<|.cells (iD H<|.chan U) 178;replace fM:w0<=(w1.alloc<|.cells (iD H<|.chan U) 178).heap.size:=Xz
 clear aX iZ ed;generalize grow S w1 (w1.alloc<|.cells (iD H<|.chan U) 178)=S at*;generalize w1.alloc (.cells (iD H<|.chan U) 178)=w at*;generalize w1=mr at*;walk_nrm;apply az.mu J J;walk_nrm;apply az.iI;apply az.sq;apply az.reg [0,1,2,3,4,5,6,7] J;refine az.val (ak xb) J J Xa (λw1 aX=>?_) (λw1 aX e he=>?_) ?_;{have q0:=(hH.aW aX).cell (o:=0) J;go_simp};{have q0:=(hH.aW aX).cell (o:=0) J;simp[go_sem,q0]at he;subst he;exact .inl hH.1};walk_nrm;apply az.mu J J;walk_nrm;apply az.mute (ak<|Y (xb,68)) J J Xa (λ_=>aQs) (λ_=>aQq);walk_nrm;refine az.val (aP pb H pc) J J Xa (λw1 aX=>?_) (λw1 aX e he=>?_) ?_;{have q0:=rq iQ Dv aX;go_simp};{have q0:=rq iQ Dv aX;simp[go_sem,q0]at he;subst he;exact .inr ⟨Dv,J⟩};walk_nrm;apply az.mute H J J Xa (λ_=>aQs) (λ_=>aQq);walk_nrm;refine az.nM J J Xa λw1 aX=>?_;have ed:=aX.size;replace hH:=hH.aW aX;replace hM:=hM.aW aX;replace iQ:=rq iQ Dv aX;replace hS:=D8 hS aX;refine⟨aP w1 H H,w1.alloc<|.cells (iD H<|aP U 0 0) 107,.inl (by go_simp;rw[(arj w1 H h1 h4).1];rfl),BC (by simp[go_sem];exact(arj w1 H h1 h4).2) (Qe _<|arl (λ_=>.slice λx hx=>by cases hx) H 107),?_⟩;have aEL:=hS _ hM.1;have aM8:w0<=w1:=YV
 have iZ:=uD iQ;simp only at iZ;have hC:=gz.new S w1 (iD H<|aP U 0 0) 107;replace hH:=hH.alloc<|.cells (iD H<|aP U 0 0) 107;replace hM:=hM.alloc<|.cells (iD H<|aP U 0 0) 107;replace iQ:(w1.alloc<|.cells (iD H<|aP U 0 0) 107).cell? (xb,68)=Y (aP pb H pc):=(World.cell?_of_block<|Below.heap_alloc w1 _ _<|uD iQ).t iQ;replace En:¬grow S w1 (w1.alloc<|.cells (iD H<|aP U 0 0) 107) xb:=λhx=>hx.e En λy=>YV
 replace hS:=Qd hS<|.cells (iD H<|aP U 0 0) 107;replace fM:w0<=(w1.alloc<|.cells (iD H<|aP U 0 0) 107).heap.size:=Xz
 clear aX iZ ed;generalize grow S w1 (w1.alloc<|.cells (iD H<|aP U 0 0) 107)=S at*;generalize w1.alloc (.cells (iD H<|aP U 0 0) 107)=w at*;generalize w1=C at*;walk_nrm;refine az.nM J J Xa λw1 aX=>?_;have ed:=aX.size;replace hH:=hH.aW aX;replace hM:=hM.aW aX;replace hC:=hC.aW aX;replace iQ:=rq iQ Dv aX;replace hS:=D8 hS aX;refine⟨ak w1,w1.alloc<|aC #[aP U 0 0] 166,.inl aQt,BC aQq (Qe _<|ark (λ_=>.slice λx hx=>by cases hx) 166),?_⟩;have aEM:=hS _ hC.1;have aM9:w0<=w1:=YV
 have iZ:=uD iQ;simp only at iZ;have hV:=gz.new S w1 (#[aP U 0 0]) 166;replace hH:=hH.alloc<|aC #[aP U 0 0] 166;replace hM:=hM.alloc<|aC #[aP U 0 0] 166;replace hC:=hC.alloc<|aC #[aP U 0 0] 166;replace iQ:(w1.alloc<|aC #[aP U 0 0] 166).cell? (xb,68)=Y (aP pb H pc):=(World.cell?_of_block<|Below.heap_alloc w1 _ _<|uD iQ).t iQ;replace En:¬grow S w1 (w1.alloc<|aC #[aP U 0 0] 166) xb:=λhx=>hx.e En λy=>YV
 replace hS:=Qd hS<|aC #[aP U 0 0] 166;replace fM:w0<=(w1.alloc<|aC #[aP U 0 0] 166).heap.size:=Xz
 clear aX iZ ed;generalize grow S w1 (w1.alloc<|aC #[aP U 0 0] 166)=S at*;generalize w1.alloc (aC #[aP U 0 0] 166)=w at*;generalize w1=sv at*;walk_nrm;refine az.nM J J Xa λw1 aX=>?_;have ed:=aX.size;replace hH:=hH.aW aX;replace hM:=hM.aW aX;replace hC:=hC.aW aX;replace hV:=hV.aW aX;replace iQ:=rq iQ Dv aX;replace hS:=D8 hS aX;have q0:=hV.cell (o:=0) J;have r0:=hV.free 0;have sZ:∀B,(∀b,B.dI b->¬S b)->aK B (aP C H H):=λB hB=>.slice λy hy zz=>by cases hy;exact hB _ zz hC.1
 refine⟨F,aZ w1 sv<|aP C H H,.inr ⟨J,aQt⟩,NZ hV.1 sZ λe he=>?_,?_⟩;{simp[go_sem,aRr,storedEv,q0,r0]at he;subst he;exact .inl hV.1};rw[yF Xy];replace hH:gz S (aZ w1 sv<|aP C H H) hv (#[ak xb]) 33:=⟨hH.1,by rw[Below.heap_setCell w1 _ _ _ Xz];exact hH.2⟩;replace hM:gz S (aZ w1 sv<|aP C H H) mr (iD H<|.chan U) 178:=⟨hM.1,by rw[Below.heap_setCell w1 _ _ _ Xz];exact hM.2⟩;replace hC:gz S (aZ w1 sv<|aP C H H) C (iD H<|aP U 0 0) 107:=⟨hC.1,by rw[Below.heap_setCell w1 _ _ _ Xz];exact hC.2⟩;have acw:xb≠sv:=λe=>En<|e▸hV.1;replace iQ:(aZ w1 sv<|aP C H H).cell? (xb,68)=Y (aP pb H pc):=(World.cell?_of_block<|Below.heap_setCell w1 sv (aP C H H) xb acw).t iQ;clear acw;replace hS:∀b,S b->b<(aZ w1 sv<|aP C H H).heap.size:=λb hb=>by simpa using hS b hb
 replace fM:w0<=(aZ w1 sv<|aP C H H).heap.size:=Xz
 replace hV:=hV.set 0<|aP C H H;change gz S _ sv (#[aP C H H]) 166 at hV;clear ed aX q0 r0 sZ;generalize w1.setCell sv (aP C H H)=w at*;walk_nrm;apply az.iI;apply az.sq;apply az.reg [0,1,2] J;refine az.nM J J Xa λw1 aX=>?_;have ed:=aX.size;replace hH:=hH.aW aX;replace hM:=hM.aW aX;replace hC:=hC.aW aX;replace hV:=hV.aW aX;replace iQ:=rq iQ Dv aX;replace hS:=D8 hS aX;refine⟨.chan<|Y (w1),w1.alloc<|.chan 0 #[] ah 0 0 ah,.inl (by go_simp;rw[aEG];rfl),BC (by simp[go_sem];exact aEH w1) (Qe _ λ_ v hv=>by simp at hv),?_⟩;have aEN:sv<M (R w1):=hS _ hV.1;have aNa:w0<=w1:=YV
 have iZ:=uD iQ;simp only at iZ;have zu:grow S w1 (w1.alloc<|.chan 0 #[] ah 0 0 ah) w1/\(w1.alloc<|.chan 0 #[] ah 0 0 ah).heap[M (R w1)]? =Y (.chan 0 #[] ah 0 0 ah):=⟨.inr ⟨fC _,Xy⟩,heap_alloc_new _ _⟩;replace hH:=hH.alloc<|.chan 0 #[] ah 0 0 ah;replace hM:=hM.alloc<|.chan 0 #[] ah 0 0 ah;replace hC:=hC.alloc<|.chan 0 #[] ah 0 0 ah;replace hV:=hV.alloc<|.chan 0 #[] ah 0 0 ah;replace iQ:(w1.alloc<|.chan 0 #[] ah 0 0 ah).cell? (xb,68)=Y (aP pb H pc):=(World.cell?_of_block<|Below.heap_alloc w1 _ _<|uD iQ).t iQ;replace En:¬grow S w1 (w1.alloc<|.chan 0 #[] ah 0 0 ah) xb:=λhx=>hx.e En λy=>YV
 replace hS:=Qd hS<|.chan 0 #[] ah 0 0 ah;replace fM:w0<=(w1.alloc<|.chan 0 #[] ah 0 0 ah).heap.size:=Xz
 clear aX iZ ed;generalize grow S w1 (w1.alloc<|.chan 0 #[] ah 0 0 ah)=S at*;generalize w1.alloc (.chan 0 #[] ah 0 0 ah)=w at*;generalize (M (R w1))=ov at*;walk_nrm;refine az.nM J J Xa λw1 aX=>?_;have ed:=aX.size;replace hH:=hH.aW aX;replace hM:=hM.aW aX;replace hC:=hC.aW aX;replace hV:=hV.aW aX;replace iQ:=rq iQ Dv aX;replace hS:=D8 hS aX;replace zu:S ov/\w1.heap[ov]? =Y (.chan 0 #[] ah 0 0 ah):=⟨zu.1,by rw[aX.own ov zu.1];exact zu.2⟩;refine⟨ak w1,w1.alloc<|aC #[.chan U] 167,.inl aQt,BC aQq (Qe _<|ark (λ_=>.chan λx hx=>by cases hx) 167),?_⟩;have aEO:ov<w1:=hS _ zu.1;have aNb:w0<=w1:=YV
 have iZ:=uD iQ;simp only at iZ;have hB:=gz.new S w1 (#[.chan U]) 167;replace hH:=hH.alloc<|aC #[.chan U] 167;replace hM:=hM.alloc<|aC #[.chan U] 167;replace hC:=hC.alloc<|aC #[.chan U] 167;replace hV:=hV.alloc<|aC #[.chan U] 167;replace iQ:(w1.alloc<|aC #[.chan U] 167).cell? (xb,68)=Y (aP pb H pc):=(World.cell?_of_block<|Below.heap_alloc w1 _ _<|uD iQ).t iQ;replace zu:grow S w1 (w1.alloc<|aC #[.chan U] 167) ov/\(w1.alloc<|aC #[.chan U] 167).heap[ov]? =Y (.chan 0 #[] ah 0 0 ah):=⟨.inl zu.1,by rw[Below.heap_alloc w1 _ _<|hS ov zu.1];exact zu.2⟩;replace En:¬grow S w1 (w1.alloc<|aC #[.chan U] 167) xb:=λhx=>hx.e En λy=>YV
 replace hS:=Qd hS<|aC #[.chan U] 167;replace fM:w0<=(w1.alloc<|aC #[.chan U] 167).heap.size:=Xz
 clear aX iZ ed;generalize grow S w1 (w1.alloc<|aC #[.chan U] 167)=S at*;generalize w1.alloc (aC #[.chan U] 167)=w at*;generalize w1=ob at*;walk_nrm;refine az.nM J J Xa λw1 aX=>?_;have ed:=aX.size;replace hH:=hH.aW aX;replace hM:=hM.aW aX;replace hC:=hC.aW aX;replace hV:=hV.aW aX;replace hB:=hB.aW aX;replace iQ:=rq iQ Dv aX;replace hS:=D8 hS aX;replace zu:S ov/\w1.heap[ov]? =Y (.chan 0 #[] ah 0 0 ah):=⟨zu.1,by rw[aX.own ov zu.1];exact zu.2⟩;have q0:=hB.cell (o:=0) J;have r0:=hB.free 0;have sZ:∀B,(∀b,B.dI b->¬S b)->aK B (.chan<|Y ov):=λB hB'=>.chan λy hy zz=>by cases hy;exact hB' _ zz zu.1
 refine⟨F,aZ w1 ob<|.chan<|Y ov,.inr ⟨J,aQt⟩,NZ hB.1 sZ λe he=>?_,?_⟩;{simp[go_sem,aRS,storedEv,q0,r0]at he;subst he;exact .inl hB.1};rw[yF Xy];replace hH:gz S (aZ w1 ob<|.chan<|Y ov) hv (#[ak xb]) 33:=⟨hH.1,by rw[Below.heap_setCell w1 _ _ _ Xz];exact hH.2⟩;replace hM:gz S (aZ w1 ob<|.chan<|Y ov) mr (iD H<|.chan U) 178:=⟨hM.1,by rw[Below.heap_setCell w1 _ _ _ Xz];exact hM.2⟩;replace hC:gz S (aZ w1 ob<|.chan<|Y ov) C (iD H<|aP U 0 0) 107:=⟨hC.1,by rw[Below.heap_setCell w1 _ _ _ Xz];exact hC.2⟩;replace hV:gz S (aZ w1 ob<|.chan<|Y ov) sv (#[aP C H H]) 166:=⟨hV.1,by rw[Below.heap_setCell w1 _ _ _ Xz];exact hV.2⟩;replace zu:S ov/\(aZ w1 ob<|.chan<|Y ov).heap[ov]? =Y (.chan 0 #[] ah 0 0 ah):=⟨zu.1,by rw[Below.heap_setCell w1 _ _ _ Xz];exact zu.2⟩;have acw:xb≠ob:=λe=>En<|e▸hB.1;replace iQ:(aZ w1 ob<|.chan<|Y ov).cell? (xb,68)=Y (aP pb H pc):=(World.cell?_of_block<|Below.heap_setCell w1 ob (.chan<|Y ov) xb acw).t iQ;clear acw;replace hS:∀b,S b->b<(aZ w1 ob<|.chan<|Y ov).heap.size:=λb hb=>by simpa using hS b hb
 replace fM:w0<=(aZ w1 ob<|.chan<|Y ov).heap.size:=Xz
 replace hB:=hB.set 0<|.chan<|Y ov;change gz S _ ob (#[.chan<|Y ov]) 167 at hB;clear ed aX q0 r0 sZ;generalize w1.setCell ob (.chan<|Y ov)=w at*;walk_nrm;apply az.iI;apply az.sq;apply az.reg [0] J;subst XM hI1;refine az.stop λw1 hk=>⟨(λi=>match i with|4=>aP U 0 0|14=>ak xb|15=>ak xb|16=>ak (Y (xb,68))|17=>aP pb H pc|18=>H|19=>aP mr H H|20=>ak xb|21=>ak xb|22=>ak (Y (xb,68))|23=>aP pb H pc|24=>H|25=>aP C H H|26=>.chan (Y ov)|_=>F),mr,C,sv,ov,ob,⟨hH.aW hk,hM.aW hk,hC.aW hk,hV.aW hk,⟨zu.1,by rw[hk.own ov zu.1];exact zu.2⟩,hB.aW hk,⟨aEJ,aEL,aEM,aEN,aEO⟩⟩,aEK,?_⟩;kernel_rfl
end Twin
end
section
namespace Twin
open Go Go.Proofs Go.Conc Go.RowKit Go.Maps gy
open Go.ConcR (WgAt KK DC0)
def aeH{w B lb bm n v s}(hl:eY w B lb bm v n s){b cs t fr}(hb:w.heap[b]? =Y (.cells cs t fr))(h1:t≠163)(h2:55≠t):¬pK lb bm v b:=by rintro(rfl|rfl|e);{grind[cases eY]};{have⟨D,⟨es,H,hm,_⟩,_⟩:=hl.map;grind};grind[aQh,cases eY]
structure Tm(s:Nat->Prop)(w:ae)(B Bm xb n:Nat)(h:HS)(ma:Option Addr)(mc:Nat)(ms:List Ms):Prop where
 at_:aG w B xb n h
 apart:mP h.pl
 row:bI w Bm 119 5 (.slice ma (O ms) mc) (O ms) (ms.flatMap Ms.cs)
 fits:n+O ms<=cZ
 small:O ms<2147483648
 es:∀p∈h.pl,(O p.s.es+O ms)*40<=2^47
 wf:∀m∈ms,(Lit.int .i64 m.p).wf=A
 q:∀m∈ms,m.k=1->∃i:Nat,m.q=i/\i<O h.pl
 ns:∀b,s b->b≠xb/\h.pv.ownBlock≠Y b/\(∀p∈h.pl,¬pK p.lb p.bm p.v b)/\Value.ownBlock (.slice ma (O ms) mc)≠Y b
def C9(pl:List PL):aS:=λb=>∃p∈pl,pK p.lb p.bm p.v b
def uN(fo s:Nat->Prop)(w H:ae)(B xb n:Nat)(h:HS)(ma:Option Addr)(mc:Nat)(ms:List Ms)(pb pc mb hv mr C sv ov ob Wg m0:Nat):Gs:=
 {aPX:=λb=>(b<w/\¬s b/\¬C9 h.pl b)\/b=hv\/b=sv\/b=ob,jF:=s,Gx:=fo,xb:=xb,hv:=hv,mr:=mr,C:=C,sv:=sv,ov:=ov,ob:=ob,Wg:=Wg,pb:=pb,pc:=pc,B:=B,Ba:=w,n:=n,N:=ms,m0:=m0,mb:=mb,mc:=mc,ma:=ma,pl:=h.pl,ms:=ms,w0:=H}
variable{s w B Bm xb n mc}{h:HS}{ma ms}
def arn(hC:Tm s w B Bm xb n h ma mc ms):∃pb pc H,h.pv=aP (Y ⟨pb,0,U⟩) h.pl pc/\pb<w/\¬s pb/\¬C9 h.pl pb/\xb<w/\¬s xb/\¬C9 h.pl xb/\(ms≠[]->ma=Y ⟨H,0,U⟩/\H<w/\¬s H/\¬C9 h.pl H)/\1<=O h.pl/\O h.pl<=4:=by have hQ:=hC.at_.hQ;have hx:=(uZ.1 hC.at_.blk).1;have hlx:¬C9 _ xb:=λ⟨p,hp,hb⟩=>aeH (hC.at_.dO p hp) hC.at_.blk Xa Xa hb;have hsx:=λz=>(hC.ns xb z).1 J;(have aEP:∃H,ms≠[]->ma=Y ⟨H,0,U⟩/\H<w/\¬s H/\¬C9 h.pl H:=by rcases hC.row.2 with⟨e,h0⟩|⟨g,cap,cur,e,_,hg,_⟩;{grind};obtain⟨rfl,_,rfl⟩:=e;exact⟨g,λ_=>⟨J,Zv,λz=>(hC.ns g z).2.2.2 J,λ⟨p,hp,hb⟩=>aeH (hC.at_.dO p hp) hg Xa Xa hb⟩⟩);have⟨H,Hr⟩:=aEP;rcases hC.at_.qK.2 with⟨_,h0⟩|⟨g,cap,cur,e,_,hg,_⟩;{omega};exact⟨g,cap,H,e,Zv,λz=>(hC.ns g z).2.1 (by rw[e];rfl),λ⟨p,hp,hb⟩=>aeH (hC.at_.dO p hp) hg Xa Xa hb,hx,hsx,hlx,Hr,YV,YV⟩
def aro(h6:O h.ps=6):h.cells.toArray[68]? =h.pv:=by (have h60:(h.ps.flatMap PS.cs).length=60:=by rw[adz,h6]);simp only[HS.cells,acI];simp_all
def aEQ{fo w2}(hC:Tm (λb=>s b\/fo b) w B Bm xb n h ma mc ms){pb pc mb}(jB:h.pv=aP (Y ⟨pb,0,U⟩) h.pl pc)(xI:pb<w)(iQ:¬(s pb\/fo pb))(aju:¬C9 h.pl pb)(iZ:xb<w)(AA:¬(s xb\/fo xb))(hxg:¬C9 h.pl xb) (Hr:ms≠[]->ma=Y ⟨mb,0,U⟩/\mb<w/\¬(s mb\/fo mb)/\¬C9 h.pl mb)(I4:O h.pl<=4){S hv mr C sv ov ob Wg m0}(hL:Laid xb h.pl S w2 hv mr C sv ov ob)(LY:w<=hv)(hWo:ob<Wg)(dD:WgAt 177 Wg w2 0 0)(hold:bg (λb=>b<w) ⟨λ_=>False,λ_=>False,λ_ z=>z⟩ w w2)(bY:kT (λb=>(s b\/fo b)\/b=Wg) w2)(J4:∀b,s b\/fo b->b<M (R w)):(uN fo s w w2 B xb n h ma mc ms pb pc mb hv mr C sv ov ob Wg m0).Ok/\(uN fo s w w2 B xb n h ma mc ms pb pc mb hv mr C sv ov ob Wg m0).arh (λb=>b=mr\/C9 h.pl b) w2:=by have⟨l1,l2,l3,l4,l5⟩:=hL.lt;have Px:=Ob dD;have KX:∀b,C9 _ b->b<w:=λb ⟨p,hp,hb⟩=>(hC.at_.dO p hp).lZ hb;have hcell:∀{a:Addr} {x:ai},w a=x->w2 a=x:=(by grind[World.cell?_of_block,cases bg,uD]);have hP:=hC.at_.qK;rw[jB]at hP;(have hO:(uN fo s w w2 B xb n h ma mc ms pb pc mb hv mr C sv ov ob Wg m0).Ok:=by refine⟨.inr<|.inr<|.inl J,.inr<|.inl J,.inl ⟨iZ,λz=>AA<|.inl z,hxg⟩,.inr<|.inr<|.inr J,.inl ⟨xI,λz=>iQ<|.inl z,aju⟩,λfE=>⟨.inl ⟨(Hr fE).2.1,λz=>(Hr fE).2.2.1<|.inl z,(Hr fE).2.2.2⟩,(Hr fE).1⟩,λH=>?_,λH=>?_,λH=>?_,?_,?_,fC _,hC.small,hC.fits,hC.es,hC.wf,hC.apart,hC.q⟩;{simp only[uN]at H;omega};{simp only[uN]at H;omega};{simp only[uN]at H;omega};{simp only[uN];omega};simp only[Gs.np,uN];omega);refine⟨hO,⟨⟨⟨hL.bs.cell J,hL.bh.cell J,?_,hL.bb.cell J,λi p hp=>?_,λi p hp=>?_,λi m hm j v hvv=>?_,λ_ _=>J,J,J,J⟩,λi p _ hp=>?_,⟨_,⟨.inl J,hL.bm.2⟩,by simp[Gs.np,uN],Xy⟩,λi p _ hp H=>?_,λb hb=>?_,λb hb H=>?_,?_,λb hb=>?_,λH=>?_,λH=>?_,?_⟩,λb hb=>?_,λb hb H=>?_,?_,⟨λH=>?_,λH=>?_,λH=>?_⟩,⟨?_,?_⟩,⟨0,0,0,hL.bo.2⟩,⟨_,hL.bC.2,by simp[Gs.np,uN]⟩,dD,bY⟩⟩;{(have h68:w (xb,68)=aP pb h.pl pc:=by rw[aJ hC.at_.blk,aro hC.at_.h6,jB]);exact hcell h68};{exact hcell (ahu hP hp).1};{exact hcell (ahu hP hp).2};{replace hm:ms[i]? =m:=hm;have fE:ms≠[]:=Zv;have hr:=hC.row;rw[(Hr fE).1]at hr;(have hj:j<5:=by have:=(kY.1 hvv).1;simpa[Ms.cs]using this);have:=hr.cells J (i*5+j) v (by grind[ahL]);rw[Addr.add_lit]at this;(have h9:w (mb,i*5+j)=v:=Zv);exact hcell h9};{have vO:=iO hp;have hl:=hC.at_.dO p vO;exact⟨ai6 (S:=λb=>b<w) hl (hl.lZ<|.inl J) (hl.lZ YV) (λk hk=>hl.lZ Zv) hold,.inr ⟨p,vO,.inl J⟩,.inr ⟨p,vO,.inr<|.inl J⟩,λk hk=>.inr ⟨p,vO,.inr<|.inr hk⟩⟩};{have:=KX _ ⟨p,iO hp,H⟩;simp only[uN]at this;omega};{grind};{simp only[uN]at hb;grind};{exact hold.size};{have hz:=hold.size;simp only[uN]at hb;omega};{rcases H with H|H;{simp only[uN]at H;omega};have:=KX _ H;simp only[uN]at this;omega};{rcases H with H|H;{simp only[uN]at H;omega};have:=KX _ H;simp only[uN]at this;omega};{exact(uZ.1 hL.bo.2).1};{simp only[uN];rcases hb with rfl|hb;{grind};have:=KX b hb;exact⟨YV,YV,YV,λz=>have⟨p,hp,hb⟩:=hb;(hC.ns b z).2.2.1 p hp hb⟩};{simp only[uN]at hb H;grind};{exact(uZ.1 hL.bC.2).1};{have:=J4 _ H;simp only[uN]at this;omega};{have:=J4 _ H;simp only[uN]at this;omega};{have:=J4 _ H;simp only[uN]at this;omega};{simp only[uN];omega};simp only[uN];omega
end Twin
end
section
namespace Twin
open Go Go.Proofs Go.Conc Go.RowKit Go.Maps gy
open Go.ConcR (WgAt KK DC0)
open Go.ConcN (WgLive PayAt Has)
def jM{B P fr fr' cs H cs2 w Q}(h:∀w1,bQ P A (G fr cs) w1=.go (G fr' H) w1 #[])(k:∀d,ag.Reach B P fr' H (w.at d) Q cs2):ag.Reach B P fr cs w Q cs2:=
 ag.Reach.ok λbY=>ag.Reach.step λd=>⟨fr',H,w.at d,#[],h _,{bY with},fC _,Xy,k d⟩
section
variable{B P}{b:bK}{a l cs cs2 w Q}
def kz{x y}(k:∀d,ag.Reach B P (b.at a<|.code x:: .code y::l) cs (w.at d) Q cs2):ag.Reach B P (b.at a<|.code (.seq x y)::l) cs w Q cs2:=jM (λ_=>aQT) k
variable{ops}
def yZ{id}(k:∀d,ag.Reach B P (b.at a<|dm ops (List.range ops.size)::l) cs (w.at d) Q cs2):ag.Reach B P (b.at a<|.code (.region id ops ah)::l) cs w Q cs2:=jM (λ_=>stepG_region) k
def JL(k:∀d,ag.Reach B P (b.at a l) cs (w.at d) Q cs2):ag.Reach B P (b.at a<|dm ops []::l) cs w Q cs2:=jM (λ_=>aQP) k
end
def aER(a b):#[a,b]++iD (Tryz.f54.ntmps- #[a,b].size) F=#[a,b,F,F,F,F,F,F,F,F,F,F,F,F,F,F,F,F,F,F,F,F,F,F,F,F,F,F,F,F,F,F,F,F,F,F,F,F,F,F,F,F,F,F,F,F,F,F,F,F,F,F,F,F,F,F,F,F,F,F,F,F,F,F,F,F,F,F,F,F,F,F]:=Y0
def aES(a b):Frame.enter aj 54 #[a,b] .normal=(base 54).at ⟨#[a,b,F,F,F,F,F,F,F,F,F,F,F,F,F,F,F,F,F,F,F,F,F,F,F,F,F,F,F,F,F,F,F,F,F,F,F,F,F,F,F,F,F,F,F,F,F,F,F,F,F,F,F,F,F,F,F,F,F,F,F,F,F,F,F,F,F,F,F,F,F,F],[]⟩ [.code yJ]:=by rw[enter_at (c:=yJ) _ func54 rfl,aER]
def aET(xb mv k cs w):bQ aj A (G ((base 54).at ⟨#[ak<|Y ⟨xb,0,U⟩,mv,F,F,F,F,F,F,F,F,F,F,F,F,F,F,F,F,F,F,F,F,F,F,F,F,F,F,F,F,F,F,F,F,F,F,F,F,F,F,F,F,F,F,F,F,F,F,F,F,F,F,F,F,F,F,F,F,F,F,F,F,F,F,F,F,F,F,F,F,F,F],[]⟩<|dm Tj [0,1]::k) cs) w=.go (G ((base 54).at ⟨#[ak xb,mv,ak (M (R w)),F,F,F,F,F,F,F,F,F,F,F,F,F,F,F,F,F,F,F,F,F,F,F,F,F,F,F,F,F,F,F,F,F,F,F,F,F,F,F,F,F,F,F,F,F,F,F,F,F,F,F,F,F,F,F,F,F,F,F,F,F,F,F,F,F,F,F,F,F],[]⟩<|dm Tj [1]::k) cs) (w.alloc<|aC #[ak xb] 33) #[]:=by congr 1
def aEU(xb hv mr sv ob H mv)(u:Nat->ai)(k cs w):bQ aj A (G ((base 54).at ⟨#[ak<|Y ⟨xb,0,U⟩,mv,ak<|Y ⟨hv,0,U⟩,u 3,u 4,aP (Y ⟨mr,0,U⟩) H H,ak<|Y ⟨sv,0,U⟩,ak<|Y ⟨ob,0,U⟩,u 8,u 9,u 10,u 11,u 12,u 13,u 14,u 15,u 16,u 17,u 18,u 19,u 20,u 21,u 22,u 23,u 24,u 25,u 26,u 27,u 28,u 29,u 30,u 31,u 32,u 33,u 34,u 35,u 36,u 37,u 38,u 39,u 40,u 41,u 42,u 43,u 44,u 45,u 46,u 47,u 48,u 49,u 50,u 51,u 52,u 53,u 54,u 55,u 56,u 57,u 58,u 59,u 60,u 61,u 62,u 63,u 64,u 65,u 66,u 67,u 68,u 69,u 70,u 71],[]⟩<|dm Qh [0]::k) cs) w=.go (G ((base 54).at ⟨#[ak xb,mv,ak hv,u 3,u 4,aP mr H H,ak sv,ak ob,ak (M (R w)),u 9,u 10,u 11,u 12,u 13,u 14,u 15,u 16,u 17,u 18,u 19,u 20,u 21,u 22,u 23,u 24,u 25,u 26,u 27,u 28,u 29,u 30,u 31,u 32,u 33,u 34,u 35,u 36,u 37,u 38,u 39,u 40,u 41,u 42,u 43,u 44,u 45,u 46,u 47,u 48,u 49,u 50,u 51,u 52,u 53,u 54,u 55,u 56,u 57,u 58,u 59,u 60,u 61,u 62,u 63,u 64,u 65,u 66,u 67,u 68,u 69,u 70,u 71],[]⟩<|dm Qh []::k) cs) (w.alloc<|aC #[.int .u64 0,.int .u32 0] 177) #[]:=by congr 1
def aEV(B):sW B (aC #[.int .u64 0,.int .u32 0] 177):=aaq J
variable{xb np hv mr C sv ov ob S}
theorem Laid.alloc{w}(h:Laid xb np S w hv mr C sv ov ob)(o):Laid xb np (grow S w<|w.alloc o) (bH w o) hv mr C sv ov ob:=⟨h.bh.alloc o,h.bm.alloc o,h.bC.alloc o,h.bs.alloc o,⟨.inl h.bo.1,by grind[Below.heap_alloc,Laid.bo]⟩,h.bb.alloc o,h.lt⟩
theorem Laid.at{w}(h:Laid xb np S w hv mr C sv ov ob)(d):Laid xb np S (w.at d) hv mr C sv ov ob:={h with}
theorem Gs.gp.gK{z:Gs}{u a w}(h:z.gp u a S w):z.eu w:=have⟨_,_,_,_,_,_,_,_,_,_,_,_,_,_,_,_,_,_,_,_,_,_,_,_,_,_,_,_,_,_,_,_,_,_,_,H,_⟩:=h;H
structure Qj(fo s:Nat->Prop)(w:ae)(B xb n:Nat)(h:HS)(ma:Option Addr)(mc:Nat)(ms:List Ms)(z:Gs)(u:Nat->ai)(a:Act)(S1:aS)(ks:List Kd)(Sw:Nat->aS)(G1:aS)(w':ae):Prop where
 ok:z.Ok
 sp:∃w2 pb pc mb hv mr C sv ov ob Wg m0,z=uN fo s w w2 B xb n h ma mc ms pb pc mb hv mr C sv ov ob Wg m0/\M (R w)<=hv/\hv<mr/\mr<C/\C<sv/\sv<ov/\ov<ob/\ob<Wg/\bg (λb=>b<M (R w)) ⟨λ_=>False,λ_=>False,λ_ x=>x⟩ w w2
 mid:z.gp u a S1 w'
 len:O ks=z.np
 F9:z.Good ks
 mem:∃E1,z.mG.Mem ks E1 S1 G1 Sw w'
 pay:PayAt z.C z.np w'
 res:∀(i:Nat) (k:Kd),ks[i]? =Y k->∃v,z.dM k ((z.marks i).map nP) v (Sw i) w'/\Has z.C i v w'
 okt:kT (λb=>(s b\/b=z.Wg)\/fo b) w'
 rd:∀b,z.aPX b->b<M (R w')/\¬s b
theorem aEX{fo s w B Bm xb n h ma mc ms cs}(hC:Tm (λb=>s b\/fo b) w B Bm xb n h ma mc ms):ag.Reach (bz fo s) aj (Frame.enter aj 54 #[ak xb,.slice ma ms mc] .normal) cs w (λB' fr' w'=>∃z u a S1 ks Sw G1,B'=bz fo (λb=>s b\/b=z.Wg)/\fr'=(base 54).at (a.put (Y 67)<|dZ #[]) [dm aeG [],.code Oc]/\Qj fo s w B xb n h ma mc ms z u a S1 ks Sw G1 w') cs:=by
 refine ag.Reach.ok λbY=>?_;have⟨pb,pc,mb,jB,xI,iQ,aju,iZ,AA,hxg,Hr,uU,I4⟩:=arn hC;rw[aES];generalize hQ:(λB' fr' w'=>∃z u a S1 ks Sw G1,B'=bz fo (λb=>s b\/b=z.Wg)/\fr'=(base 54).at (a.put (Y 67)<|dZ #[]) [dm aeG [],.code Oc]/\Qj fo s w B xb n h ma mc ms z u a S1 ks Sw G1 w')=Q;have H:yJ=.seq (qh yJ) (jA yJ):=J;have hr:qh yJ=.region 0 Tj false:=J;rw[H];refine kz λd1=>?_;rw[hr];refine yZ λd2=>?_;rw[show List.range Tj.size=[0,1]from rfl];refine ag.Reach.step λd3=>⟨_,_,_,_,aET xb _ _ _ _,?_,by simp;exact MS _,Xy,?_⟩;{(have hzz:w<=(w.heap.push<|aC #[ak xb] 33).size:=Xy);refine pz.of (w:=w.at d3) ⟨bY.obj,bY.low,bY.uB⟩ hzz<|mM.push (YJ (w:=w.at d3) bY.obj hzz) λv hv=>?_;simp at hv;subst hv;exact .pointer λx hx zz=>by cases hx;rcases zz with zz|zz;{exact AA zz};have zz':(w.heap.push<|aC #[ak xb] 33).size<=xb:=zz;simp at zz';omega};have ed:((w.at d3).alloc<|aC #[ak xb] 33).heap.size=w+1:=by simp;rfl
 have Ef:((w.at d3).alloc<|aC #[ak xb] 33).heap[M (R w)]? =aC #[ak xb] 33 (0,0):=heap_alloc_new _ _;have arp:∀b,b<M (R w)->((w.at d3).alloc<|aC #[ak xb] 33).heap[b]? =w.heap[b]? :=λb H=>Below.heap_alloc (w.at d3) _ b H;have alF:((w.at d3).alloc<|aC #[ak xb] 33).tape=w.tape/\((w.at d3).alloc<|aC #[ak xb] 33).os=w.os/\((w.at d3).alloc<|aC #[ak xb] 33).output=w.output:=⟨J,J,J⟩;change ag.Reach _ _ _ _ ((w.at d3).alloc<|aC #[ak xb] 33) _ _;change ag.Reach _ _ ((base 54).at ⟨#[ak xb,.slice ma ms mc,ak w,F,F,F,F,F,F,F,F,F,F,F,F,F,F,F,F,F,F,F,F,F,F,F,F,F,F,F,F,F,F,F,F,F,F,F,F,F,F,F,F,F,F,F,F,F,F,F,F,F,F,F,F,F,F,F,F,F,F,F,F,F,F,F,F,F,F,F,F,F],[]⟩<|dm Tj [1]::[.code<|jA yJ]) _ _ _ _;generalize(w.at d3).alloc (aC #[ak xb] 33)=wa at*;have h68:wa (xb,68)=aP pb h.pl pc:=by refine(World.cell?_of_block<|arp xb iZ).t ?_;rw[aJ hC.at_.blk,aro hC.at_.h6,jB]
 have jU:=(aEI (xb:=xb) (hv:=w) (mv:=.slice ma ms mc) (E:=⟨λb=>b<w,λb=>b<w/\¬s b,λ_ hx=>hx.1⟩) (S:=λb=>b=w) (w:=wa) (cs:=cs) (w0:=w) uU I4 ⟨iZ,λz=>AA z⟩ YV (λe=>by have:xb=w:=e;omega) (λb H=>by have:b=w:=H;omega) ⟨J,Ef⟩ h68).more;apply aq4 jU (λb H=>⟨by have:b=w:=H;omega,λzz=>by have:=(bY.low b zz).2;have:b=w:=H;omega⟩) (λb H=>⟨by have:=H.1;omega,H.2⟩);rintro S' g' wb ⟨⟨u,mr,C,sv,ov,ob,hL,LY,rfl⟩,hB⟩;refine⟨_,cs,J,?_⟩;refine ag.Reach.ok λQk=>ag.Reach.step λd4=>⟨_,_,_,_,aEU xb w mr sv ob h.pl _ u _ _ _,?_,by simp;exact MS _,Xy,?_⟩;{(have hzz:wb<=(wb.heap.push<|aC #[.int .u64 0,.int .u32 0] 177).size:=Xy);exact pz.of (w:=wb.at d4) ⟨Qk.obj,Qk.low,Qk.uB⟩ hzz<|mM.push (YJ (w:=wb.at d4) Qk.obj hzz)<|aEV _};intro gs sl t q hh;have gV:=hB.size;have arq:ob<wb:=(uZ.1 hL.bb.2).1;have hold:bg (λb=>b<w) ⟨λ_=>False,λ_=>False,λ_ x=>x⟩ w ((wb.at d4).alloc<|aC #[.int .u64 0,.int .u32 0] 177):=by refine⟨hB.tape.t alF.1,hB.os.t alF.2.1,hB.output.t alF.2.2,?_,λb H=>?_,λ_ hx=>hx.e⟩;{show w<=(wb.heap.push _).size;simp<;>omega};rw[Below.heap_alloc (wb.at d4) _ b<|show b<wb by omega];exact(hB.ro b H YV (λe=>by have:b=w:=e;omega)).t<|arp b H
 have ajv:((wb.at d4).alloc<|aC #[.int .u64 0,.int .u32 0] 177).heap.size=wb+1:=by simp;rfl
 have aEZ:kT (λb=>(s b\/fo b)\/b=wb) ((wb.at d4).alloc<|aC #[.int .u64 0,.int .u32 0] 177):=by refine⟨λb o H ho=>?_,λb H=>?_,by have:=Qk.uB;omega⟩;{have aO:=(uZ.1 ho).1;rw[ajv]at aO;have fE:b≠wb.heap.size:=λe=>H<|.inl<|.inr e;(have kE:b<wb:=YV);rw[Below.heap_alloc (wb.at d4) _ b kE]at ho;refine(Qk.obj b o (λzz=>?_) ho).z (B:=A8<|beyond (λb=>(s b\/fo b)\/b=wb) _) (B':=(bz fo s).cut wb) (λc zz=>?_) J;{rcases zz with zz|zz;{exact H<|.inl<|.inl zz};omega};rcases zz with(zz|zz)|zz;{exact .inl zz};{exact .inr<|MR zz.s};exact .inr (by rw[ajv]at zz;omega)};rw[ajv];rcases H with H|H;{have:=Qk.low b H;exact⟨this.1,YV⟩};have:=Qk.uB;exact⟨YV,YV⟩
 have⟨hO,ajw⟩:=aEQ (m0:=gs.size) hC jB xI iQ aju iZ AA hxg Hr I4 ((hL.at d4).alloc<|aC #[.int .u64 0,.int .u32 0] 177) (fC _) arq (heap_alloc_new _ _) hold aEZ λb H=>(bY.low b H).2;have⟨a,aPV,gs1,w1,pR,t1,q1,ks,S1,Sw,G1,r1,r2,r3,r4,r5,r6,r7,r8,r9,Qi,r11⟩:=aEF (u:=u) (cs:=cs) (sl:=sl) hO ajw J hh.own hh.UN hh.O0;subst hQ;have⟨l1,l2,l3,l4,l5⟩:=hL.lt;refine⟨aPV,_,gs1,_,w1,pR,t1,q1,r1,⟨r2,r3,r4,Qi.okB⟩,_,_,a,S1,ks,Sw,G1,J,J,⟨hO,⟨_,pb,pc,mb,_,mr,C,sv,ov,ob,_,_,J,fC _,l1,l2,l3,l4,l5,arq,hold⟩,r5,r6,r7,r8,r9,r11,Qi,λb H=>⟨?_,ajw.rd b H⟩⟩⟩;have mD:=ajw.XQ.LC b H;have bT:=r5.gK.fr b H;exact(uZ.1<|bT.t<|afV mD).1
end Twin
end
section
namespace Twin
open Go Go.Proofs Go.Conc Go.RowKit Go.Maps gy
open Go.ConcR (WgAt KK DC0)
open Go.ConcN (WgLive PayAt Has)
def Gs.Ql(z:Gs)(i:Nat):List Ms:=match z.pl[i]? with|some p=>if p.out then[]else(z.marks i).map Ms.oN|none=>[]
def Gs.nT(z:Gs):List Ms:=(List.range z.np).flatMap z.Ql
variable{fo s w w' B xb n mc h ma ms z u a S1 G1 ks}
def Qj.one{Sw}(hW:Qj fo s w B xb n h ma mc ms z u a S1 ks Sw G1 w'){i}(hi:i<z.np):∃p v,z.pl[i]? =Y p/\Has z.C i v w'/\bI w' z.Ba 119 5 v (z.Ql i).length ((z.Ql i).flatMap Ms.cs)/\(∀b,dw v=Y b->Sw i b)/\ ∃v',iY (Sw i) w' z.B p.lb p.bm (z.n+(z.marks i).length) v' (if p.out then p.s else(z.marks i).foldl (λs m=>s.closed m.p m.t m.c) p.s)/\∀b,dw v=Y b->¬pK p.lb p.bm v' b:=by
 have AU:i<ks:=by rwa[hW.len]
 have hk:ks[i]? =ks[i]:=Zv;have⟨p,nb,cb,c,hp,Fp⟩:=hW.F9 i _ hk;have⟨v,⟨lm,hl,hA⟩,ajy⟩:=hW.res i _ hk;rw[Fp]at hA;have TW:=(List.map_inj_right (λx y Hu=>by have⟨a1,a2,a3,a4,a5⟩:=x;have⟨b1,b2,b3,b4,b5⟩:=y;simp[nP]at Hu;grind)).1 hl.s;subst TW;have ha:(z.wx i p nb cb c).p.yI (z.marks i)=z.Ql i:=by simp only[Pl.yI,Gs.wx,Gs.Ql,hp];rfl
 have H:=hA.yI;rw[ha]at H;have⟨v',h2,h3⟩:=hA.log;exact⟨p,v,hp,ajy,H.row,H.r,v',h2,h3⟩
def Qj.rows{Sw}(hW:Qj fo s w B xb n h ma mc ms z u a S1 ks Sw G1 w'):∃rows:Fe,rows=z.np/\w'.heap[z.C]? =Y (.cells (rows.map (·.1)).toArray 107 (0,0))/\(∀x∈rows,∃Bm,bI w' Bm 119 5 x.1 x.2 (x.2.flatMap Ms.cs)/\∀b,x.1.ownBlock=Y b->∃i,i<z.np/\Sw i b)/\rows.all=z.nT:=by have⟨cs,hc,gV⟩:=hW.pay;refine⟨(List.range z.np).map λi=>(cs.getD i F,z.Ql i),Xy,?_,?_,?_⟩;{rw[hc];(have e:cs=(((List.range z.np).map λi=>(cs.getD i F,z.Ql i)).map (·.1)).toArray:=by apply Array.ext;{grind};simp_all);rw[<-e];rfl};{intro x hx;simp only[Dz,List.mem_range]at hx;obtain⟨i,hi,rfl⟩:=hx;have⟨p,v,_,H,fD,Un,_⟩:=hW.one hi;(have hv:cs.getD i F=v:=by have h1:w' _=v:=H;rw[aJ hc]at h1;simp_all);grind};simp[Fe.all,Gs.nT,List.flatMap_map]
end Twin
end
section
namespace Twin
open Go Go.Proofs Go.Conc Go.RowKit Go.Maps gy
open Go.ConcR (WgAt KK DC0)
open Go.ConcN (WgLive PayAt Has)
variable{B P}{b:bK}{a ops i rest k cs cs2 w Q o v}
def ajz{f fn c args qI vs post}
 (ho:ops[i]? =Y o)(hw:Region.wanted o (yielded ops a.tmps)=A)(hk:b.kind≠.early)(bu:o.op=.call {callee:=.value<|.func f,args,argTypes:=qI})(hf:P.funcs[f]? =Y fn)(OD:(fn.name== "runtime.NumGoroutine")=ah)(hb:fn.body=Y c)(hv:args.map a.eval=vs)
 (QY:∀d,xQ B P f vs (w.at d) post)(hn:∀B' v w',post B' v w'->ag.Reach B' P (b.at (a.put o.dst v)<|dm ops rest::k) cs w' Q cs2):ag.Reach B P (b.at a<|dm ops (i::rest)::k) cs w Q cs2:=by
 refine ag.Reach.ok λbY=>ag.Reach.step λd=>?_;have H:=goes_call (main:=A) (K:=λg w1 es=>g=G ((base f).at {tmps:=args.map a.eval++iD (fn.ntmps-(args.map a.eval).size) F,defers:=[]} [.code c]) (b.at a (dm ops (i::rest)::k)::cs)/\w1=w.at d/\es=#[]) ho hw hk bu hf OD hb ⟨J,J,J⟩;obtain⟨g,w1,es,e,rfl,rfl,rfl⟩:=goes_elim H;refine⟨_,_,_,_,e,{bY with},fC _,Xy,?_⟩;have h2:=QY d (b.at a<|dm ops (i::rest)::k) cs;grind[enter_at,ag.Reach.t,Frame.finish_at]
def aE8:Oc=.seq (qh Oc) .ret:=rfl
noncomputable def aaY:Array Oper:=match qh Oc with| .region _ o _=>o|_=>#[]
def aE9:qh Oc=.region 25 aaY false:=rfl
def aFa{z:Gs}{u:Nat->ai}{t9 t10 t33 t34 t35 t36 t37 t38 t39 t40 t41 t42 t13 t46 t47 t48 t49 t50 t51 t52 t53 t54 t55 t56 t57 t58 t59 t60 t61 t62 t63 t64 t65 H:ai}{S:aS}(hO:z.Ok)(hK:z.eu w):az aj A z.E2 (λS' g' w'=>S'=S/\bg S z.E2 w w'/\g'=G ((base 54).at ⟨#[ak<|Y ⟨z.xb,0,U⟩,.slice z.ma (O z.ms) z.mc,ak<|Y ⟨z.hv,0,U⟩,u 3,u 4,aP (Y ⟨z.mr,0,U⟩) z.np z.np,ak<|Y ⟨z.sv,0,U⟩,ak<|Y ⟨z.ob,0,U⟩,ak<|Y ⟨z.Wg,0,U⟩,t9,t10,H,u 12,t13,u 14,u 15,u 16,u 17,u 18,u 19,u 20,u 21,u 22,u 23,u 24,u 25,u 26,u 27,u 28,u 29,u 30,V Z z.np,V Z z.np,t33,t34,t35,t36,t37,t38,t39,t40,t41,t42,.slice z.ma (O z.ms) z.mc,V Z (O z.ms),V Z (O z.ms),t46,t47,t48,t49,t50,t51,t52,t53,t54,t55,t56,t57,t58,t59,t60,t61,t62,t63,t64,t65,.chan<|Y z.ov,dZ #[],H,aP (Y ⟨z.C,0,U⟩) z.np z.np,u 70,u 71],[]⟩<|dm aaY [2,3,4]::k) cs) S (G ((base 54).at ⟨#[ak<|Y ⟨z.xb,0,U⟩,.slice z.ma (O z.ms) z.mc,ak<|Y ⟨z.hv,0,U⟩,u 3,u 4,aP (Y ⟨z.mr,0,U⟩) z.np z.np,ak<|Y ⟨z.sv,0,U⟩,ak<|Y ⟨z.ob,0,U⟩,ak<|Y ⟨z.Wg,0,U⟩,t9,t10,H,u 12,t13,u 14,u 15,u 16,u 17,u 18,u 19,u 20,u 21,u 22,u 23,u 24,u 25,u 26,u 27,u 28,u 29,u 30,V Z z.np,V Z z.np,t33,t34,t35,t36,t37,t38,t39,t40,t41,t42,.slice z.ma (O z.ms) z.mc,V Z (O z.ms),V Z (O z.ms),t46,t47,t48,t49,t50,t51,t52,t53,t54,t55,t56,t57,t58,t59,t60,t61,t62,t63,t64,t65,.chan<|Y z.ov,dZ #[],u 68,u 69,u 70,u 71],[]⟩<|dm aaY [0,1,2,3,4]::k) cs) w:=by simp only[aaY,Oc,Lp,Fb,CZ,yJ,Tryz.f54,iT,jA,qh];apply az.mute H J J Xa (λ_=>aQs) (λ_=>aQq);walk_nrm;refine az.val (aP z.C z.np z.np) J J Xa (λw1 aX=>?_) (λw1 aX e he=>?_) ?_;{have q0:=(hK.aW hO (λb hb=>hb) aX).sv;go_simp};{have q0:=(hK.aW hO (λb hb=>hb) aX).sv;simp[go_sem,q0]at he;subst he;exact .inr ⟨hO.XI,J⟩};walk_nrm;exact az.stop Zv
def arz{α ok t w'}{v:α}(h:ag.Clean B aj ok t)(hw:OkW B w)(hr:t.run aj w=.ok v w'):∀e∈t.events aj w #[],Jg B w' e:=by have⟨n,r,gs,h1,h2⟩:=h.OY hw;have H:=agy h1;rw[hr]at H;have h3:=h1 w.tape w.drawn Zv #[];have he:t.events aj w #[]=gs:=Y0;rw[he];cases r with|halt x w1=>simp[Result.re]at H|ok v1 w1=>obtain⟨_,rfl⟩:=H;exact h2.2.2.2.2.2
def aFb{H s}(x y)(ho:ops[i]? =Y o)(hw:Region.wanted o (yielded ops a.tmps)=A)(hk:b.kind≠.early)(bu:o.op=.call {callee:=.builtin .append,args:=#[x,y],argTypes:=#[107,107]})(hty:o.type=107){u}(hx:a.eval x=v)(hy:a.eval y=u)
 (arA:aK ((bz H s).cut (M (R w))) v)(arB:aK ((bz H s).cut w) u)(hr:∀d,∃v' w',(Builtin.append_ #[107,107] 107 #[v,u]).run aj (w.at d)=.ok v' w'/\(aK ((bz H s).cut w') v'->ag.Reach (bz H s) aj (b.at (a.put o.dst v')<|dm ops rest::k) cs w' Q cs2)):ag.Reach (bz H s) aj (b.at a<|dm ops (i::rest)::k) cs w Q cs2:=by
 refine ag.Reach.ok λbY=>ag.Reach.step λd=>?_;have⟨v',w',hr,hn⟩:=hr d;have hz:w<=M (R w'):=amF (w:=w.at d) hr;have h5:∀q,(s q\/H q)->1<=q:=λq hq=>(bY.low q hq).1;have GY:∀q,(s q\/H q)\/w'<=q->1<=q:=(by grind[cases pz]);have kX:=(UL (B:=(bz H s).cut w') (O3 GY).toFit<|ok_two (arA.z (B:=(bz H s).cut w') (B':=(bz H s).cut w) (by grind[UM]) J)<|arB.z (B:=(bz H s).cut w') (B':=(bz H s).cut w) (by grind[UM]) J).Jh (YJ (B:=bz H s) (w:=w.at d) bY.obj hz) hr λq hq=>hq.e (λz=>.inl (bY.low q z).2) .inr;have oH:=UL (ts:=#[107,107]) (t:=107) (lets h5).toFit<|ok_two (arA.z (B:=bz H s) (B':=(bz H s).cut w) (λ_ z=>Or.inl z) J)<|arB.z (B:=bz H s) (B':=(bz H s).cut w) (λ_ z=>Or.inl z) J;have pO:=arz oH (w:=w.at d) ⟨bY.okW.obj,bY.okW.low⟩ hr;refine⟨_,_,w',_,stepG_value ho hw hk<|by grind[aey],(by grind[pz.of]),hz,λe he=>?_,hn kX.1⟩;have hm:=aQW he;grind[events_append_op,Rq]
theorem Ir{α:Type}(f:Nat->List α){aPV:Nat}(H:∀i,(f i).length<=aPV):∀{n:Nat},((List.range n).flatMap f).length<=n*aPV|0=>Xy|n+1=>by have:=Ir f H (n:=n);grind[List.range_succ]
def aaZ{main}(ho:ops[i]? =Y o)(hw:Region.wanted o (yielded ops a.tmps)=A)(hk:b.kind≠.early)(hr:(eG a.eval o).run P w=.ok (.value v) w)(he:(eG a.eval o).events P w #[]=#[]):bQ P main (G (b.at a<|dm ops (i::rest)::k) cs) w=.go (G (b.at (a.put o.dst v)<|dm ops rest::k) cs) w #[]:=by rw[stepG_value ho hw hk hr];unfold listed;rw[he,seen_none]
structure ajA(fo s:Nat->Prop)(w:ae)(B xb n:Nat)(h:HS)(ma:Option Addr)(mc:Nat)(ms:List Ms)(z:Gs)(v:ai)(w':ae):Prop where
 waited:∃u a S1 ks Sw G1 w1 av,Qj fo s w B xb n h ma mc ms z u a S1 ks Sw G1 w1/\Own S1 w1 z.Ba 119 5 av (dK z.ms).length ((dK z.ms).flatMap Ms.cs)/\Fr (λb=>dw av=Y b\/s b\/b=z.Wg) w1 w'
 row:bI w' z.Ba 119 5 v ((dK z.ms).length+O z.nT) ((dK z.ms).flatMap Ms.cs++z.nT.flatMap Ms.cs)
 vok:aK ((bz fo λb=>s b\/b=z.Wg).cut (M (R w'))) v
theorem aFd{fo s w B Bm xb n h ma mc ms}(hC:Tm (λb=>s b\/fo b) w B Bm xb n h ma mc ms)(auu:O ms*5*40<=2^47):xQ (bz fo s) aj 54 #[ak xb,.slice ma ms mc] w (λB' v w'=>∃z,B'=bz fo (λb=>s b\/b=z.Wg)/\ajA fo s w B xb n h ma mc ms z v w'):=by
 intro c cs;refine ag.Reach.ok λUo=>(aEX (cs:=c::cs) hC).t ?_;rintro B' fr' w1 ⟨z,u,a,S1,ks,Sw,G1,rfl,rfl,hW⟩;obtain⟨t9,t10,t33,t34,t35,t36,t37,t38,t39,t40,t41,t42,t13,t46,t47,t48,t49,t50,t51,t52,t53,t54,t55,t56,t57,t58,t59,t60,t61,t62,t63,t64,t65,av,rfl,hK,Tn⟩:=hW.mid;have hO:=hW.ok;have⟨rows,yl,hrC,tX,hra⟩:=hW.rows;have⟨E1,ajB⟩:=hW.mem;have⟨FP,Dt,xI,uh,aNe⟩:z.jF=s/\z.ms=ms/\z.pl=h.pl/\z.mG.E7=(λb=>s b\/fo b)/\∀b,fo b->¬s b->z.aPX b:=by have⟨_,_,_,_,_,_,_,_,_,_,_,_,hz,_⟩:=hW.sp;rw[hz];exact⟨J,J,J,J,λb h1 h2=>.inl ⟨(Uo.low b<|.inr h1).2,h2,λ⟨p,hp,H⟩=>(hC.ns b h1).2.2.1 p hp H⟩⟩
 have aFe:z.np<=4:=by have:=hC.at_.hQ;show (O z.pl)<=4;rw[xI];omega
 have zX:(dK z.ms).length<=ms:=by rw[Dt];exact AX _ _
 have Yf:z.nT<=z.np*ms:=Ir _ λi=>by unfold Gs.Ql;split;{split;{simp};rw[OW];exact dX (AX _ _) (by rw[Dt];exact fC _)};simp
 have aFf:z.np*ms<=4*ms:=Yw _ aFe;have Eu:∀b,S1 b->b<M (R w1)/\¬((s b\/b=z.Wg)\/fo b):=λb H=>by have⟨k1,_,k3,k4⟩:=ajB.xm b H;rw[uh]at k4;exact⟨k1,λzz=>zz.e (λzz=>zz.e (λy=>k4 y) λe=>k3<|.inl e) λy=>k4 y⟩
 have hCn:z.C<M (R w1)/\¬((s z.C\/z.C=z.Wg)\/fo z.C):=by have hk:=ajB.aau z.C<|.inr<|.inl J;grind[Gs.Ok.dWC]
 have hRd:∀b,z.aPX b->b<w1/\¬(s b\/b=z.Wg):=λb H=>⟨(hW.rd b H).1,λzz=>zz.e (hW.rd b H).2 λe=>hO.II<|e▸H⟩;rw[aE8,aE9];walk_nrm;refine JL λd1=>?_;refine kz λd2=>?_;refine yZ λd3=>?_;rw[show List.range aaY.size=[0,1,2,3,4]from rfl];have hK3:z.eu (w1.at d3):=⟨hK.sv,hK.hv,hK.ps,hK.ob,hK.c0,hK.c1,hK.ms,hK.fr,hK.tape,hK.os,hK.output⟩;change ag.Reach _ _ _ _ (w1.at d3) _ _;apply aq4 (aFa (S:=λb=>b<w1/\¬z.aPX b/\¬((s b\/b=z.Wg)\/fo b)) hO hK3) (λb H=>⟨H.1,H.2.2⟩) hRd;rintro S' g' w2 ⟨rfl,jH,rfl⟩;refine⟨_,_,J,?_⟩;have abS:∀b,b<M (R w1)->¬(s b\/b=z.Wg)->w2.heap[b]? =w1.heap[b]? :=λb h1 h2=>by by_cases hR:z.aPX b;{exact jH.ro b hR};{exact jH.own b Zv}
 have FU:w2.heap[z.C]? =Y (.cells (rows.map (·.1)).toArray 107 (0,0)):=Zv;have aFh:∀x∈rows,∃Bm,bI w2 Bm 119 5 x.1 x.2 (x.2.flatMap Ms.cs):=λx hx=>by have⟨Bm,h1,h2⟩:=tX x hx;refine⟨Bm,(Own.of (S:=λb=>x.1.ownBlock=b) ⟨h1,λ_ y=>y⟩ (λ_ y=>y) λb H=>?_).row⟩;have⟨i,hi,Un⟩:=h2 b H;have⟨k1,_,k3,k4,_⟩:=ajB.oQ i (by rw[hW.len];exact hi) b Un;rw[uh]at k4;exact abS b k1 λzz=>zz.e (λy=>k4 y) λe=>k3<|.inl e
 have fV:M (R w1)<=M (R w2):=jH.size;have hBa:z.Ba<=w1:=by have⟨_,_,_,_,hv,_,_,_,_,_,_,_,hz,hle,_⟩:=hW.sp;have h1:=(hW.rd hv (by rw[hz];exact .inr<|.inl J)).1;(have h2:z.Ba=w:=by rw[hz];rfl);omega
 have aFi:Own S1 w2 z.Ba 119 5 av (dK z.ms).length ((dK z.ms).flatMap Ms.cs):=Tn.of (λ_ y=>y) λb H=>abS b (Eu b<|Tn.r b H).1 λzz=>(Eu b<|Tn.r b H).2 zz;have h5:∀b,(s b\/b=z.Wg)\/fo b->1<=b:=λb H=>(hW.okt.low b H).1;have aFj:∀d t d',aH aj 116 #[aP z.C z.np z.np] (re (w2.at d) t d') (λe w'=>∃v,e=aU v/\bI w' w2 119 5 v z.nT (z.nT.flatMap Ms.cs)/\Fr aB (re (w2.at d) t d') w'):=λd t d'=>by have:=aE6 (w:=re (w2.at d) t d') FU aFh (by rw[hra];omega) YV;rw[hra,yl]at this;exact this
 apply ajz (f:=116) (post:=λB' v w'=>B'=(bz fo λb=>s b\/b=z.Wg)/\aK ((bz fo λb=>s b\/b=z.Wg).cut w') v/\On w2 w'/\bI w' w2 119 5 v z.nT (z.nT.flatMap Ms.cs)/\∀b,b<M (R w2)->w'.heap[b]? =w2.heap[b]?) J J Xa J func116 J J (vs:=#[aP z.C z.np z.np]) (by walk_nrm) (λd=>(awn (f:=116) (B:=bz fo λb=>s b\/b=z.Wg) (lets h5) (λm hm=>O3 λb H=>H.e (h5 b) YV) (show kC 116=A by decide) (λx hx=>by simp at hx;subst hx;exact .slice λy hy zz=>by cases hy;rcases zz with zz|zz;{exact hCn.2 zz};have:w2<=z.C:=zz;have:=hCn.1;omega) (aFj d) Zv).z (by rintro B' v w' ⟨rfl,h1,h2,t0,d0,t1,k1,v',e,h3,h4⟩;cases e;exact⟨J,h1,⟨h2.tape,h2.size,h2.os,h2.output⟩,h3,λb H=>h4.block b H id⟩));rintro B' v w3 ⟨rfl,aeI,uu,jO,jJ⟩;have hz3:M (R w2)<=M (R w3):=uu.size;have arD:Own S1 w3 z.Ba 119 5 av (dK z.ms).length ((dK z.ms).flatMap Ms.cs):=aFi.of (λ_ y=>y) λb H=>jJ b (by have:=(Eu b<|Tn.r b H).1;omega);walk_nrm;refine aFb (.tmp 68) (.tmp 70) J J Xa J J (v:=av) (u:=v) J J (aaJ arD.row λb H zz=>?_) aeI λd=>?_;{have h6:=Eu b<|Tn.r b H;rcases zz with zz|zz;{exact h6.2 zz};have:w3<=b:=zz;omega};have⟨v4,w4,jU,IZ,aa0⟩:=aru (w:=w3.at d) arD.row jO (art _) YV (show z.Ba<=M (R w3) by omega);refine⟨v4,w4,jU,λhv4=>?_⟩;have Ei:Fr (λb=>dw av=b\/s b\/b=z.Wg) w1 w4:=by refine⟨aa0.os.t<|uu.os.t jH.os,aa0.tape.t<|uu.tape.t jH.tape,aa0.output.t<|uu.output.t jH.output,?_,λb H hn=>?_⟩;{have h7:M (R w3)<=M (R w4):=aa0.size;omega};refine(aa0.block b (show b<M (R w3) by omega) λe=>hn e.s).t<|(jJ b YV).t<|abS b H λzz=>hn zz
 walk_nrm;refine jM (λw=>aaZ (v:=v4) J J Xa J J) λd5=>?_;walk_nrm;refine JL λd6=>?_;refine jM (λ_=>aQ7) λd7=>?_;refine jM (λw=>aRZ (v:=v4) J J func54 KG KG) λd8=>?_;exact ag.Reach.here λ_=>⟨v4,J,z,J,⟨⟨u,_,S1,ks,Sw,G1,w1,av,hW,Tn,⟨Ei.os,Ei.tape,Ei.output,Ei.size,Ei.block⟩⟩,IZ,hv4⟩⟩
end Twin
end
section
namespace Twin
open Go Go.Proofs Go.Conc Go.RowKit Go.Maps gy
def GR(ms:List Ms)(i:Nat)(p:PL):aN:=if p.out then p.s else(ms.filter λm:Ms=>decide<|m.k=1/\m.q=(i:Int)).foldl (λs m=>s.closed m.p m.t m.c) p.s
def nT(ms:List Ms)(pl:List PL):List Ms:=(List.range pl).flatMap λi=>match pl[i]? with|some p=>if p.out then[]else(ms.filter λm:Ms=>decide<|m.k=1/\m.q=(i:Int)).map Ms.oN|none=>[]
variable{w w' B n v}
theorem eY.same{H bm n' s}(h:eY w B H bm v n s)(hn:n<=n')(hb:∀b,pK H bm v b->w'.heap[b]? =w.heap[b]?):eY w' B H bm v n' s:=have h1:=(iY.aaI (S:=pK H bm v) ⟨h,.inl J,.inr<|.inl J,λ_ hk=>.inr<|.inr hk⟩ hb).log;h1.z hn
def aFk{t size xs}(h:bI w B t size v n xs){b}(H:dw v=Y b):b<w/\∃cs fr,w.heap[b]? =Y (.cells cs t fr):=by rcases h.2 with⟨rfl,_⟩|⟨g,cap,cur,rfl,_,hg,_⟩;{simp[Value.ownBlock]at H};simp only[Value.ownBlock,iR]at H;grind
def aFl{fo s Bm xb h ma mc ms z}(hC:Tm (λb=>s b\/fo b) w B Bm xb n h ma mc ms)(hG:ajA fo s w B xb n h ma mc ms z v w')(hj:∀b,s b->h.jv.ownBlock≠b/\h.fv.ownBlock≠b):
 ∃iV,O iV=h.pl/\(∀i (p:PL),h.pl[i]? =p->∃v',iV[i]? =Y {p with v:=v',s:=GR ms i p})/\aG w' B xb (n+ms) {h with pl:=iV}/\mP iV/\(∀p∈iV,∀b,pK p.lb p.bm p.v b->(C9 h.pl b\/w<=b)/\¬s b)/\
  w'.ownsRow w 119 5 v ((dK ms).length+(nT ms h.pl).length) ((dK ms).flatMap Ms.cs++(nT ms h.pl).flatMap Ms.cs)/\(∀b,b<M (R w)->¬s b->¬C9 h.pl b->w'.heap[b]? =w.heap[b]?)/\w<=M (R w')/\w<=z.Wg/\w'.tape=w.tape/\w'.os=w.os/\w'.output=w.output:=by
 have⟨u,a,S1,ks,Sw,G1,w1,av,hW,Tn,hF⟩:=hG.waited
 have⟨E1,hM⟩:=hW.mem
 have⟨w2,pb,pc,mb,hv,mr,C,sv,ov,ob,Wg,m0,H,hle,l1,l2,l3,l4,l5,l6,hK⟩:=hW.sp
 have hQ:=hC.at_.hQ
 have SX:z.np=O h.pl:=by rw[H];rfl
 have FP:z.mG.E7=λb=>s b\/fo b:=by rw[H];rfl
 have tY:0<z.np:=by rw[SX];omega
 have hRG:∀b,z.aPX b->G1 b:=λb hb=>by
  have AU:0<O ks:=by rw[hW.len];exact tY
  exact hM.Gz 0 ks[0] Zv b<|.inl hb
 have aFm:∀b,b<M (R w)->¬s b->¬C9 h.pl b->z.aPX b:=λb h1 h2 h3=>by rw[H];exact .inl ⟨h1,h2,h3⟩
 have aFn:w<=z.Wg:=by
  have:z.Wg=Wg:=by rw[H];rfl
  omega
 have ajC:∀b,b<M (R w)->¬s b->¬C9 h.pl b->w'.heap[b]? =w.heap[b]? :=λb h1 h2 h3=>by
  have hR:=aFm b h1 h2 h3;have e1:w1.heap[b]? =w2.heap[b]? :=by
   have:=hW.mid.gK.fr b hR;rw[this,H];rfl
  have e2:w2.heap[b]? =w.heap[b]? :=hK.own b h1;refine(hF.block b (hW.rd b hR).1 λzz=>?_).t<|e1.t e2;grind[cases aT.Mem,cases Own]
 have aa1:∀i,∃v',∀p,h.pl[i]? =Y p->iY (Sw i) w1 z.B p.lb p.bm (z.n+(z.marks i).length) v' (GR ms i p):=λi=>by
  by_cases hi:i<z.np
  ·have⟨p,_,hp,_,_,_,v',h1,_⟩:=hW.one hi;refine⟨v',λp' IW=>?_⟩;have hpe:p'=p:=by
    rw[H]at hp;have jI:h.pl[i]? =Y p:=hp;grind
   subst hpe;have e:GR ms i p'=(if p'.out then p'.s else(z.marks i).foldl (λs m=>s.closed m.p m.t m.c) p'.s):=by rw[H];rfl
   rw[e];exact h1
  simp_all
 have⟨f,hf⟩:=Yu aa1
 have Ox:∀i (p:PL),h.pl[i]? =Y p->(h.pl.mapIdx λi p=>({p with v:=f i,s:=GR ms i p}:PL))[i]? =Y {p with v:=f i,s:=GR ms i p}:=λi p hp=>by simp[hp]
 have hof:∀(i:Nat) (q:PL),(h.pl.mapIdx λi p=>({p with v:=f i,s:=GR ms i p}:PL))[i]? =Y q->∃p,h.pl[i]? =Y p/\q={p with v:=f i,s:=GR ms i p}:=(by grind)
 have Un:∀i p,h.pl[i]? =Y p->∀b,pK p.lb p.bm (f i) b->Sw i b:=λi p hp=>(hf i p hp).sub
 have iy:∀i p,h.pl[i]? =Y p->i<O ks:=(by grind[cases Qj])
 have⟨_,_,_,jB,ug,aNg,aNh,iZ,AA,hxg,_,_,_⟩:=arn hC
 have aK4:w<=M (R w1):=by
  have hR:z.aPX hv:=by rw[H];exact .inr<|.inl J
  have:=(hW.rd hv hR).1;omega
 have gV:M (R w)<=M (R w'):=dX aK4 hF.size
 have fD:∀{t:dB} {k:Nat} {x:ai} {m:Nat} {xs:List ai},bI w B t k x m xs->t≠163->55≠t->(∀b,s b->dw x≠b)->bI w' B t k x m xs:=λ{t k x m xs} hr h1 h2 h3=>by
  refine(Own.of (S:=λ_=>True) (S':=λ_=>True) ⟨hr,λ_ _=>trivial⟩ (λ_ h=>h) λb hb=>?_).row;have⟨hl,cs,fr,hc⟩:=aFk hr hb;exact ajC b hl (λz=>h3 b z hb) λ⟨p,hp,ug⟩=>aeH (hC.at_.dO p hp) hc h1 h2 ug
 have Ef:∀i p,h.pl[i]? =Y p->∀b,pK p.lb p.bm (f i) b->b<w1/\¬G1 b/\¬s b/\b≠z.Wg/\¬S1 b:=λi p hp b hb=>by
  have⟨q1,q2,q3,q4,q5⟩:=hM.oQ i (iy i p hp) b<|Un i p hp b hb;rw[FP]at q4;exact⟨q1,q2,λe=>q4 e,λe=>q3<|.inl e,q5⟩
 have hpc:vz (h.pl.mapIdx λi p=>({p with v:=f i,s:=GR ms i p}:PL))=vz h.pl:=by
  unfold vz;rw[List.flatMap_def,List.flatMap_def];congr 1;refine af1 λi=>?_;simp only[List.getElem?_map,alV,Option.map_map];rfl
 refine⟨h.pl.mapIdx λi p=>{p with v:=f i,s:=GR ms i p},List.length_mapIdx,Zv,?_,?_,?_,?_,ajC,gV,aFn,?_,?_,?_⟩
 ·refine⟨(ajC xb iZ (λz=>AA z) hxg).t hC.at_.blk,fD hC.at_.pG Xa Xa λb hb=>(hj b hb).1,?_,fD hC.at_.tC Xa Xa λb hb=>(hj b hb).2,?_,hC.at_.hx,hC.at_.hP,?_,hC.at_.h6⟩
  ·grind[aG.qK,cases Tm]
  ·intro q hq
   have⟨i,hi⟩:=List.getElem?_of_mem hq
   obtain⟨p,hp,rfl⟩:=hof i q hi
   have Ep:(z.marks i).length<=O ms:=by rw[H];exact AX _ _
   have hzn:z.n=n:=by rw[H];rfl
   have hzB:z.B=B:=by rw[H];rfl
   have hL:=(hf i p hp).log
   rw[hzB,hzn]at hL
   refine eY.same hL (by omega) λb hb=>?_
   grind[Fr.block,Own.r]
  grind
 ·intro i j p q BN hp hq k hk gI
  obtain⟨p0,Mc,rfl⟩:=hof i p hp
  obtain⟨q0,oJ,rfl⟩:=hof j q hq
  exact BN<|hM.apart i j (iy i p0 Mc) (iy j q0 oJ) k (Un i p0 Mc k hk)<|Un j q0 oJ k gI
 ·intro q hq b hb
  have⟨i,hi⟩:=List.getElem?_of_mem hq
  grind
 ·have e1:z.ms=ms:=by rw[H];rfl
  have e2:z.nT=nT ms h.pl:=by rw[H];rfl
  have e3:z.Ba=w:=by rw[H];rfl
  have:=hG.row
  grind
 ·have e0:z.w0=w2:=by rw[H];rfl
  have:=hW.mid.gK.tape
  rw[e0]at this
  exact hF.tape.t<|this.t hK.tape
 ·have e0:z.w0=w2:=by rw[H];rfl
  have:=hW.mid.gK.os
  rw[e0]at this
  exact hF.os.t<|this.t hK.os
 ·have e0:z.w0=w2:=by rw[H];rfl
  have:=hW.mid.gK.output
  rw[e0]at this
  exact hF.output.t<|this.t hK.output
end Twin
end
section
section
variable{N h h' y y' j}
def arE(h r):∃ok h',jy h r ok h':=by cases H:h.br with|false=>exact⟨_,_,.ok h.jv H⟩|true=>exact⟨_,_,.lC h.jv H⟩
def aFp(y r):∃ok y',ni y r ok y':=by cases H:y.br with|false=>exact⟨_,_,.ok y.lv H⟩|true=>by_cases h1:16<=y.kp;{exact⟨_,_,.whole y.lv H h1⟩};by_cases h2:0<y.kp;{exact⟨_,_,.qx ⟨((dQ r).take y.kp.toNat).toArray⟩ H h2 YV ⟨Xy,by simp[ByteArray.size]⟩⟩};exact⟨_,_,.none H YV⟩
def aFq(h i x m):∃h',Ai h i x m h':=by by_cases H:h.up=A/\(x.s=2\/x.s=3)/\x.t=m.t;{by_cases ht:dH x.bU 2 4=[m.q];{have⟨ok,h',hw⟩:=arE h ⟨4,i,0,x.t⟩;exact⟨h',.done H ht hw⟩};exact⟨_,.tie H ht⟩};exact⟨_,.idle H⟩
def aFr(y m):∃y',zJ y m y':=by by_cases H:y.dn=ah/\2<=(aF y.L m.p).s/\(aF y.L m.p).t=m.t;{by_cases hs:∃d∈y.D.filter (Du.stays m.p m.q),d.p=m.p;{exact⟨_,.tie H y.dv hs⟩};have⟨ok,y',hw⟩:=aFp (y.ik y.dv<|y.D.filter<|Du.stays m.p m.q) ⟨4,m.p,0,(aF y.L m.p).t⟩;exact⟨y',.done H _ Zv hw⟩};exact⟨_,.idle H⟩
def aFs(h i x):∃ok h',xe h i x ok h':=by
 by_cases h1:x.s=1
 ·by_cases ht:x.si+1<h.T
  ·exact⟨_,_,.Bv h1 ht⟩
  ·have⟨ok,h',H⟩:=arE (h.gq i {x with si:=x.si+1}) ⟨3,i,0,x.t⟩;exact⟨ok,h',.timeout h1 YV H⟩
 ·by_cases h2:x.s=2\/x.s=3
  ·by_cases H:1<x.wa
   ·exact⟨_,_,.rem h2<|.wait H⟩
   ·exact⟨_,_,.rem h2<|.due h.fv YV⟩
  ·exact⟨_,_,.idle YV⟩
def aFt(c:Core N h y [])(u:kR h y)(h6:O h.ps=6){y1}(b:um y j y1):(j:Int)<=h.P->∃H,sH h j H:=by induction b with|zero=>exact λ_=>⟨_,.zero⟩| @succ j y1 y2 b hl ih=>intro hj;have⟨H,a⟩:=ih YV;have t:=Xx c u h6 a b YV;have hP:=c.P1;(have Dj:j<H.ps:=by rw[t.Ik];omega);have hx:H.ps[j]? =H.ps[j]:=Zv;have⟨ok,h2,la⟩:=aFs H j H.ps[j];have⟨e,_⟩:=aiM t.core t.up t.Ik (by rw[t.p];omega) hx (t.low _ _ YV hx) la hl;subst e;exact⟨h2,.succ a hx la⟩
theorem arF(c:Core N h y [])(u:kR h y)(h6:O h.ps=6)(hN:N<=90000000){y1}(hj:j<y.P.toNat)(b:um y j y1):PO y1 j:=by
 have hP:=c.P1;have hyP:=c.P;have⟨h1,a⟩:=aFt c u h6 b YV;have t:=Xx c u h6 a b YV;have SQ:=t.core.tm;have Yk:(y1.H:Int)=h1.P:=t.core.hl;have hp:=t.p;have Dj:j<y1.H:=YV
 have hj6:j<h1.ps:=by rw[t.Ik];omega
 have hx:h1.ps[j]? =h1.ps[j]:=Zv;have zt:(h1.pJ j).ps[j]? =h1.ps[j].pJ:=by have:=NQ (j:=j) hx;rwa[if_pos YV]at this
 have pr:=t.up.rel j _ y1.H[j] zt Zv;have⟨f1,f2,f3⟩:=t.up.fin _<|iO zt;have e1:=pr.s;have hT1:1<=h1.T/\h1.T<=50:=t.core.T1;have Ud:1<=h1.K/\h1.K<=16:=t.core.K1;have hT:y1.T=h1.T:=t.core.T;have hK:y1.K=h1.K:=t.core.K;refine⟨t.core.pY YV,λhs=>?_,λhi hh hs=>?_,λd hd=>?_,YV,YV,YV⟩;{exact t.core.ok YV ⟨by show(0:Int)<=j;omega,by show(j:Int)<h1.P;omega,.inr<|.inr<|.inl ⟨J,.inl J,hs,J⟩⟩};{grind[jk.si]};have AV:=t.up.dr d hd;have aNi:d.p<h1.P:=AV.2;have⟨i,hi⟩:=lW AV.1;(have kM:i<h1.ps:=by rw[t.Ik];omega);(have AU:i<y1.H:=YV);have hxi:=NQ (j:=j)<|gG kM;have pri:=t.up.rel i _ y1.H[i] hxi Zv;have fi:=t.up.fin _<|iO hxi;have:d∈y1.D.filter (λd=>decide<|d.p=(i:Int)):=Zv;rw[pri.due]at this;obtain⟨q,_,rfl⟩:=Dz.1 this;exact fi.ga
end
inductive rQ:HS->List Ms->HS->Prop
 |nil (h:HS):rQ h [] h
 |cons {h h1 h2:HS} {m:Ms} {l:List Ms} {i:Nat} {x:PS} (hi:m.p=(i:Int)) (hx:h.ps[i]? =Y x) (a:Ai h i x m h1) (r:rQ h1 l h2):rQ h (m::l) h2
inductive vH:RS->List Ms->RS->Prop
 |nil (y:RS):vH y [] y
 |cons {y y1 y2:RS} {m:Ms} {l:List Ms} (a:zJ y m y1) (r:vH y1 l y2):vH y (m::l) y2
section
variable{N h h' y y' j}
variable{i:Nat}{x m l}
theorem Ai.rest(a:Ai h i x m h'):h'.P=h.P/\h'.Q=h.Q/\h'.pl=h.pl/\(O h.ps=6->O h'.ps=6)/\h'.fv=h.fv/\h'.fl=h.fl:=by cases a with|idle=>grind|tie=>exact⟨J,J,J,λe=>by show(h.ps.set i _).length=6;grind,J,J⟩|done _ _ H=>cases H with|ok=>exact⟨J,J,J,λe=>by simp[mQ,e],J,J⟩|lC=>exact⟨J,J,J,λ_=>J,J,J⟩
theorem zJ.rest(a:zJ y m y'):y'.P=y.P/\y'.Q=y.Q/\y'.G=y.G/\y'.aPW=y.aPW/\y'.nv=y.nv/\y'.N=y.N:=by cases a with|idle=>grind|tie=>exact⟨J,J,J,J,J,J⟩|done _ _ _ H=>cases H<;>exact⟨J,J,J,J,J,J⟩
theorem zJ.mok{P Q m'}(a:zJ y m y')(hm:yD P Q y.L m)(H:yD P Q y.L m'):yD P Q y'.L m':=by cases a with|idle=>exact H|tie=>exact H|done hb dv _ hw=>have hn:Next P Q y.L ⟨4,m.p,0,(aF y.L m.p).t⟩:=⟨hm.p.1,hm.p.2,Zv⟩;cases hw with|ok=>exact H.snoc hn|whole=>exact H.snoc hn|qx=>exact H|none=>exact H
def Qm(h:HS)(y:RS)(l:List Ms):Prop:=∀m∈l,yD h.P h.Q y.L m/\AOk h.pl m
def Qm.next(ok:Qm h y (m::l))(a:Ai h i x m h')(b:zJ y m y'):Qm h' y' l:=λm' Fq=>by have⟨r1,r2,H,_⟩:=a.rest;have⟨k1,k2⟩:=ok m' Zv;rw[r1,r2,H];exact⟨b.mok (ok m Xy).1 k1,k2⟩
def aa3:∀{N:Nat} {h h':HS} {y y':RS},eu N h y->O h.ps=6->Qm h y l->rQ h l h'->vH y l y'->eu (N+l) h' y'/\O h'.ps=6:=by induction l with|nil=>grind[cases rQ,cases vH]|cons m l ih=>intro N h h' y y' k H ok a b;cases a with|cons hi hx a ra=>cases b with|cons b rb=>have k1:=apJ k H (ok m Xy).1 (ok m Xy).2 hi hx a b;have⟨r1,r2⟩:=ih k1 (a.rest.2.2.2.1 H) (ok.next a b) ra rb;grind
theorem arG(k:eu N h y)(hN:N<=100000000)(hi:(i:Int)<h.P)(hx:h.ps[i]? =Y x):qB h ⟨4,i,0,x.t⟩:=by (have key:∀tl,Core N h y tl->(0<=x.t/\x.t<=y.L)->qB h ⟨4,i,0,x.t⟩:=λtl c ht=>by have:=c.P1;have:=c.ny;refine⟨⟨y.L,YV,⟨Xy,Xy,Zv,Zv,Xy,Xy,Zv,Zv⟩⟩,c.kp,?_,Zv⟩;grind[cases Core,Jv,Ir]);cases k with|up c u=>have hl:=c.hl;have pr:=u.rel i x y.H[i] hx Zv;have hf:=c.valid.pY i;grind[cases jk,cases St.iH]|down tl c d=>apply key _ c;have:=iO hx;rw[d.ps]at this;simp only[ET,zA,Dy,DC,or_self]at this;subst this;simp[yz]
def arH(k:eu N h y)(H:N<=100000000)(hm:yD h.P h.Q y.L m):y.iH/\O y.D<=24/\(2<=(aF y.L m.p).s->(⟨4,m.p,0,(aF y.L m.p).t⟩:Rc).Ok):=have⟨tl,c⟩:=k.core;⟨c.pY H,c.dl,λh2=>c.ok H ⟨hm.p.1,hm.p.2,Zv⟩⟩
def aFu{aPV iV G'}(k:eu N h y)(hM:N<=aPV)(hl:O iV=h.pl)(hg:O G'=y.G)
 (hp:∀(q:Nat) p',iV[q]? =Y p'->∃p,h.pl[q]? =Y p/\p'.out=p.out/\∀i t,p'.s.nw i=Y (t,A)->p.s.nw i=(t,A))
 (hr:∀(q:Nat) p' g',iV[q]? =Y p'->G'[q]? =Y g'->Rel p'.s g'.L/\g'.L<=aPV):eu aPV {h with pl:=iV} {y with G:=G'}:=by
 have H:∀tl,Core N h y tl->Core aPV {h with pl:=iV} {y with G:=G'} tl:=λtl c=>by
  have SQ:=c.tm;refine{c with ny:=dX c.ny hM,dO:=⟨?_,hr,λq p' hq=>?_⟩,opn:=λq p' hq i t hi=>?_,tm:=Zv,ms:=λm hm=>⟨(c.ms m hm).1,λh2 q p' hq hmq hi=>?_⟩}
  ·rw[hl,hg];exact c.dO.len
  ·grind[E5.out,cases Core]
  ·have⟨p,h1,_,h3⟩:=hp q p' hq;exact c.opn q p h1 i t<|h3 i t hi
  ·have⟨p,h1,_,h3⟩:=hp q p' hq;exact(c.ms m hm).2 h2 q p h1 hmq<|h3 _ _ hi
 cases k with
 |up c u=>
  refine .up (H _ c) {u with tie:=⟨λq p' i t hq hi h2=>?_,u.tie.PK⟩}
  grind[DY.opn,cases kR]
 |down tl c d=>exact .down tl (H _ c) {d with}
def ajD(l:List Ms)(s:aN):aN:=l.foldl (λs m=>s.closed m.p m.t m.c) s
def LD(l:List Ms)(L:List dF):List dF:=l.foldl (λL m=>qW L m.p m.t m.c) L
theorem aeJ:∀(l:List Ms) {s:aN} {i t:Int},(ajD l s).nw i=Y (t,A)->s.nw i=Y (t,A)/\∀m∈l,¬(m.p=i/\m.t=t)|[],_,_,_,h=>⟨h,Xy⟩|m::l,s,i,t,h=>by have⟨h1,h2⟩:=aeJ l h;grind[aai]
def arI:∀(l:List Ms) {s:aN} {L:List dF},Rel s L->(∀m∈l,fF m.p/\fF m.t)->Rel (ajD l s) (LD l L)/\(LD l L).length<=O L+O l|[],_,_,h,_=>⟨h,by simp[LD]⟩|m::l,s,L,h,hi=>by have⟨h1,h2⟩:=arI l (h.closed m.p m.t m.c Zv Zv) Zv;refine⟨h1,?_⟩;have:=ahk L m.p m.t m.c;show(LD l _).length<=_;grind
end
end
section
namespace Twin
open Go Go.Proofs Go.Conc Go.RowKit Go.Maps gy
section
variable{w w' B xb n h}
theorem aG.same(H:aG w B xb n h)(hb:∀b,h.dJ xb b->w'.heap[b]? =w.heap[b]?)(_:w<=M (R w')):aG w' B xb n h:=by (have row:∀{ty:dB} {wd:Nat} {v:ai} {k:Nat} {xs:List _},bI w B ty wd v k xs->(∀b,dw v=Y b->h.dJ xb b)->bI w' B ty wd v k xs:=λ{ty wd v k xs} ho hf=>by refine⟨ho.1,?_⟩;rcases ho.2 with⟨e,h0⟩|⟨g,cap,cur,e,h1,h2,h3⟩;{grind};exact .inr ⟨g,cap,cur,e,h1,(hb g<|hf g (by rw[e];rfl)).t h2,h3⟩);exact⟨(hb xb<|.inl J).t H.blk,row H.pG λb e=>.inr<|.inl e,row H.qK λb e=>.inr Zv,row H.tC λb e=>.inr Zv,λp hp=>eY.same (H.dO p hp) YV λb hbf=>hb b<|.inr<|.inr<|.inr<|.inr ⟨p,hp,hbf⟩,H.hx,H.hP,H.hQ,H.h6⟩
theorem aG.re(H:aG w B xb n h)(t d):aG (re w t d) B xb n h:=aG.same H (λ_ _=>J)<|fC _
def aG.Tq{t d}(H:aG (ag.re w t d) B xb n h):aG w B xb n h:=aG.same H (λ_ _=>J)<|fC _
def aa5{Bn v b}(h:aK Bn v)(H:dw v=Y b):¬Bn.dI b:=by cases h with|slice h=>(rename_i a n m;cases a with|none=>simp[Value.ownBlock]at H|some a=>simp only[Value.ownBlock]at H;grind)|_=>simp[Value.ownBlock]at H
def aG.free{fo s}(hh:aG w B xb n h)(bY:pz (bz fo s) w)(hx:¬(s xb\/fo xb)):∀b,h.dJ xb b->¬(s b\/fo b):=by have iZ:=(uZ.1 hh.blk).1;have ns:∀{a:Nat},¬(s a\/fo a)->a<w->¬((bz fo s).cut w).dI a:=λ{a} h1 h2 z=>z.e h1 YV;have up:∀{a:Nat},¬((bz fo s).cut w).dI a->¬(s a\/fo a):=λz hs=>z<|.inl hs;have H:∀{a:Addr} {v:ai},¬(s a.block\/fo a.block)->a.block<w->w a=v->aK ((bz fo s).cut w) v:=(by grind[mM.cell,pz.obj]);have jB:∀b,h.pv.ownBlock=Y b->¬(s b\/fo b):=λb e=>up<|aa5 (H hx iZ hh.cV) e;rintro b (rfl|e|e|e|⟨p,hp,e⟩);(any_goals grind);{exact up<|aa5 (H hx iZ hh.cJ) e};{exact up<|aa5 (H hx iZ hh.cF) e};have⟨k,hk⟩:=Yv.1 hp;have⟨g,cap,e1,hg,_,c0,_⟩:=hh.place hk;have Dw:=jB g (by rw[e1];rfl);(have mD:¬(s p.lb\/fo p.lb):=have:=H (a:=(g,k*2)) Dw hg c0;up this.ptr);have aa1:=hh.dO p hp;have rE:=(uZ.1 aa1.blk).1;have c1:=cc aa1.blk 0;have c2:=cc aa1.blk 2;rcases e with e|e|e;{grind};{grind[aK.mp]};exact up<|aa5 Zv e
end
end Twin
end
section
namespace Twin
open Go Go.Proofs Go.Conc Go.RowKit Go.Maps gy
noncomputable def rb:Code:=Tryz.f20.body.getD .skip
noncomputable def rR1:Code:=qh<|jA rb
noncomputable def rX:Code:=qh<|jA<|jA rb
noncomputable def rLB:Code:=jA rX
noncomputable def rY:Code:=jA<|jA<|jA rb
def aFv:rb=.seq (qh rb) (.seq rR1<|.seq (.seq (qh rX) rLB) rY):=rfl
def ok0:codeOk aj kC (qh rb)=true:=KG
def JM:codeOk aj kC rR1=true:=KG
def aFx:codeOk aj kC rLB=true:=KG
def okY:codeOk aj kC rY=true:=KG
def rt(xb:Nat)(t2 t3 t5 t6 t7 t8 t9 t10 t11 t12 t13 t14 t15 t16 t17 t18 t19 t20 t21 t22 t23 t24 t25 t26 t27:ai):Array Value:=#[ak xb,F,t2,t3,F,t5,t6,t7,t8,t9,t10,t11,t12,t13,t14,t15,t16,t17,t18,t19,t20,t21,t22,t23,t24,t25,t26,t27]
section
variable{W w':ae}{B xb n:Nat}{h:HS}
def aFz(hh:aG W B xb n h):rR1.wp aj (λe a' w'=>e=.normal/\(∃t6 t7 t8 t9,a'=⟨rt xb (V Z 0) h.fv F t6 t7 t8 t9 F F F F F F F F F F F F F F F F F F,[]⟩)/\bW W w' B xb n h n (h.dV (aP U 0 0) [])/\Fr (λq=>q=xb) W w') ⟨rt xb (V Z 0) F F F F F F F F F F F F F F F F F F F F F F F F,[]⟩ W:=by have HH:=aQe hh;simp only[rR1,rb,Tryz.f20,iT,qh,jA,rt];go_wp2_with ((apply(aAf HH).z;rintro e w1 ⟨rfl,xG,H⟩;have M1:=aQe xG;have F1:=aQe H;clear xG H));exact⟨M1,F1⟩
theorem _root_.Go.Proofs.YtkelpcjiediamaaGreat.rQ.snoc{l m}{i:Nat}{x}:∀{h H h2:HS},rQ h l H->m.p=(i:Int)->H.ps[i]? =Y x->Ai H i x m h2->rQ h (l++[m]) h2:=by induction l with|nil=>intro h H h2 a e hx b;cases a;exact .cons e hx b<|.nil _|cons z l ih=>intro h H h2 a e hx b;cases a with|cons e1 x1 a ra=>exact .cons e1 x1 a<|ih ra e hx b
theorem aG.aeL(hh:aG W B xb n h)(hn:h.fv=aP U 0 0){k}(H:tag W k=119):¬h.dJ xb k:=λe=>by rcases hh.Js e with t|t|t|⟨_,t⟩|t|t|t;all_goals first|(rw[H]at t;cases t)|(rw[hn]at t;simp[Value.ownBlock]at t)
inductive LG(h:HS):HS->Prop
 |down (hu:h.up=ah):LG h h
 |up {ok:Bool} {h':HS} (hu:h.up=A) (t:ZC h ok h'):LG h h'
def aFA{H Bm aa ac}(hh:aG W B xb n h)(TZ:h.fv=aP U 0 0)(fD:bI W Bm 119 5 (.slice aa (O H) ac) H (H.flatMap Ms.cs))(uy:O H<=1000) (hp:∀k h2 m,rQ h (H.take k) h2->H[k]? =Y m->∃(i:Nat) (x:PS) (q:Nat),m.p=(i:Int)/\i<6/\h2.ps[i]? =x/\m.q=(q:Int)/\q<4/\qB h2 ⟨4,i,0,x.t⟩)(t2 t3 t5 t6 t7 t8 t9 t10 t11 t15 t16 t17 t18 t19 t20 t21 t22 t23 t24 t25 t26 t27):rLB.wp aj (λe a' w'=>e=.normal/\(∃t5 t14 t15 t16 t17 t18 t19 t20 t21 t22 t23,a'=⟨rt xb t2 t3 t5 t6 t7 t8 t9 t10 t11 (.slice aa H ac) (H) t14 t15 t16 t17 t18 t19 t20 t21 t22 t23 t24 t25 t26 t27,[]⟩)/\∃h2,rQ h H h2/\bW W w' B xb n h n h2) ⟨rt xb t2 t3 t5 t6 t7 t8 t9 t10 t11 (.slice aa H ac) (H) (V Z 0) t15 t16 t17 t18 t19 t20 t21 t22 t23 t24 t25 t26 t27,[]⟩ W:=by have HH:=aQe hh;have HFV:=aQe TZ;have ROW:=aQe fD;have HP:=aQe hp;clear hh fD hp TZ;simp only[rLB,rX,rb,Tryz.f20,iT,qh,jA,rt];go_wp2_with fail;go_loopw [14] (λiv w'=>∃k h2,k<=O H/\iv=V Z k/\rQ h (H.take k) h2/\bW W w' B xb n h n h2/\h2.fv=aP U 0 0/\bI w' Bm 119 5 (.slice aa (O H) ac) (O H) (H.flatMap Ms.cs)) (λiv _=>O H-(bM iv).toNat);(case atStart=>exact⟨0,h,jQ _,J,.nil _,bW.refl HH,HFV,ROW⟩);case round=>obtain⟨k,h2,hk,rfl,zX,bn,arJ,fD⟩:=hrel;have MV:=aQe bn;have AL:=aQe zX;have FV2:=aQe arJ;have AR:=aQe fD;have ajE:=bF bn.at_.blk;clear zX bn arJ fD;by_cases aO:k<O H;{have⟨x,hx⟩:∃x,H[k]? =Y x:=Y0;have HX:=aQe hx;have⟨i,px,q,p1,p2,p3,p4,p5,p6⟩:=HP k h2 x AL hx;have PX:I (x.p=(i:Int)/\i<6/\h2.ps[i]? =Y px/\x.q=(q:Int)/\q<4/\qB h2 ⟨4,i,0,px.t⟩):=Zv;have⟨g,cap,e,hg,oH,kX,r0,r1,r2,r3,r4⟩:=DU AR hx;simp only[aQQ,OX]at e;obtain⟨rfl,rfl⟩:=e;(have aX:(k:Int)<(O H:Int):=by omega);clear hx p1 p2 p3 p4 p5 p6;go_wp2_with fail;(have S0:I (∀aPZ,Fr aB (wr.alloc<|aC #[V Z x.k,V Z x.q,V Z x.p,V Z x.t,aA x.c] 119) aPZ->aPZ.cell? (M (R wr))=Y (V Z x.k)/\aPZ.cell? (M (R wr),1)=Y (V Z x.q)/\aPZ.cell? (M (R wr),2)=Y (V Z x.p)/\aPZ.cell? (M (R wr),3)=Y (V Z x.t)/\aPZ.cell? (M (R wr),4)=Y (aA x.c)):=λaPZ f=>by have zq:aPZ.heap[M (R wr)]? =Y (aC #[V Z x.k,V Z x.q,V Z x.p,V Z x.t,aA x.c] 119 (0,0)):=(by grind[cases Fr,heap_alloc_new]);exact⟨aJ zq 0,aJ zq 1,aJ zq 2,aJ zq 3,aJ zq 4⟩);go_region_held3 (λaPZ=>aPZ.cell? (M (R wr))=Y (V Z x.k)/\aPZ.cell? (M (R wr),1)=Y (V Z x.q)/\aPZ.cell? (M (R wr),2)=Y (V Z x.p)/\aPZ.cell? (M (R wr),3)=Y (V Z x.t)/\aPZ.cell? (M (R wr),4)=Y (aA x.c)) (first|simp_all|simp_all|simp_all|go_keep) ((go_at_call 55;apply(aoP (MV.at_.a<|(aQ _).drew) PX.2.1 PX.2.2.1 x PX.2.2.2.1 PX.2.2.2.2.1 PX.1 PX.2.2.2.2.2).z;rintro e w3 ⟨rfl,h3,Q3,Au⟩;have Y3:=aQe Q3;have M3:=aQe<|MV.t<|Au.behind<|(aQ _).drew;(have ra:((wr.alloc<|aC #[V Z x.k,V Z x.q,V Z x.p,V Z x.t,aA x.c] 119).drew).ownsRow Bm 119 5 (aP g (O H) ac) (O H) (H.flatMap Ms.cs):=((aQ _).drew).ownsRow AR Zv);have A3:=aQe<|Au.fr.ownsRow ra λb hb hS=>aG.aeL (MV.at_.a<|(aQ _).drew) FV2 (ig ra hb) hS;(have C1:au w3 (M (R wr))=Y (V Z x.k)/\au w3 (M (R wr),1)=Y (V Z x.q)/\au w3 (M (R wr),2)=Y (V Z x.p)/\au w3 (M (R wr),3)=Y (V Z x.t)/\au w3 (M (R wr),4)=Y (aA x.c):=have zq:w3.heap[M (R wr)]? =Y (aC #[V Z x.k,V Z x.q,V Z x.p,V Z x.t,aA x.c] 119 (0,0)):=(Au.fr.block (M (R wr)) Xy (λe=>by have:=(MV.at_.lZ e).1;omega)).t (((Fr.refl (λ_=>False) _).drew.block (M (R wr)) Xy id).t<|heap_alloc_new _ _);⟨aJ zq 0,aJ zq 1,aJ zq 2,aJ zq 3,aJ zq 4⟩);clear Q3 Au ra));all_goals go_wp2;go_roundw;(case rel=>refine⟨k+1,h3,YV,Y4,?_,M3,Y3.rest.2.2.2.2.1.t FV2,A3⟩;grind[List.take_add_one,Hid,rQ.snoc]);case measure=>simp[bM]<;>omega};(have AF:I (rQ h H h2):=Zv);go_wp2;exact⟨h2,AF,MV⟩
def aFC{l:Nat}{na nc}(hh:aG W B xb n h)(hp:h.up=A->∀j h1 x,j<h.P.toNat->sH h j h1->h1.ps[j]? =Y x->x.iH/\qB h1 ⟨3,j,0,x.t⟩)(t2 t5 t6 t7 t8 t9 t10 t11 t12 t13 t14 t15 t16 t17 t18 t19 t20 t21 t22 t23 t24 t25 t26 t27):rY.wp aj (λe a' w'=>e=.ret/\a'.tmps.getD 2 F=l/\∃h2,LG h h2/\bW W w' B xb n h n h2) ⟨rt xb t2 (.slice na l nc) t5 t6 t7 t8 t9 t10 t11 t12 t13 t14 t15 t16 t17 t18 t19 t20 t21 t22 t23 t24 t25 t26 t27,[]⟩ W:=by have HH:=aQe hh;have HP:=aQe hp;clear hh hp;cases hu:h.up;{have H:=aQe hu;clear hu;simp only[rY,rb,Tryz.f20,iT,jA,rt];go_wp2_with ((go_at_call 56;apply(aoR HH H).z;rintro e w5 ⟨rfl,rfl⟩));exact⟨h,.down H,bW.refl HH⟩};{have H:=aQe hu;clear hu;simp only[rY,rb,Tryz.f20,iT,jA,rt];go_wp2_with ((go_at_call 56;apply(aoS HH H<|HP H).z;rintro e w5 ⟨ok,h5,rfl,ho5,uG⟩;have O5:=aQe ho5;have M5:=aQe uG));all_goals exact⟨h5,.up H O5,M5⟩}
end
end Twin
end
section
namespace Twin
open Go Go.Proofs Go.Conc Go.RowKit Go.Maps gy
def aFD(a):#[a]++iD (Tryz.f20.ntmps- #[a].size) F=#[a,F,F,F,F,F,F,F,F,F,F,F,F,F,F,F,F,F,F,F,F,F,F,F,F,F,F,F]:=Y0
def aFE(xb):Frame.enter aj 20 #[ak<|Y ⟨xb,0,U⟩] .normal=(base 20).at ⟨rt xb F F F F F F F F F F F F F F F F F F F F F F F F F,[]⟩ [.code rb]:=by rw[enter_at _ func20 rfl,aFD];rfl
def aFF{W}(xb):(qh rb).wp aj (λe H w'=>e=.normal/\H=⟨rt xb (.int .i64 0) F F F F F F F F F F F F F F F F F F F F F F F F,[]⟩/\w'=W) ⟨rt xb F F F F F F F F F F F F F F F F F F F F F F F F F,[]⟩ W:=by simp only[rb,Tryz.f20,iT,qh,rt];go_wp2
noncomputable def Ea:Array Oper:=match qh rX with| .region _ o _=>o|_=>#[]
def aFG:qh rX=.region 2 Ea false:=rfl
def aFH(xb v t6 t7 t8 t9 k cs w):bQ aj A (G ((base 20).at ⟨rt xb (.int .i64 0) v F t6 t7 t8 t9 F F F F F F F F F F F F F F F F F F,[]⟩<|dm Ea [0,1,2,3,4]::k) cs) w=.go (G ((base 20).at ⟨rt xb (.int .i64 0) v F t6 t7 t8 t9 (ak xb) F F F F F F F F F F F F F F F F F,[]⟩<|dm Ea [1,2,3,4]::k) cs) w #[]:=have e:=aaZ (P:=aj) (main:=A) (b:=base 20) (a:=⟨rt xb (.int .i64 0) v F t6 t7 t8 t9 F F F F F F F F F F F F F F F F F F,[]⟩) (ops:=Ea) (i:=0) (rest:=[1,2,3,4]) (k:=k) (cs:=cs) (w:=w) J J Xa J J;e
def aFI(xb v t6 t7 t8 t9 k cs w):bQ aj A (G ((base 20).at ⟨rt xb (.int .i64 0) v F t6 t7 t8 t9 (ak xb) F F F F F F F F F F F F F F F F F,[]⟩<|dm Ea [1,2,3,4]::k) cs) w=.go (G ((base 20).at ⟨rt xb (.int .i64 0) v F t6 t7 t8 t9 (ak xb) v F F F F F F F F F F F F F F F F,[]⟩<|dm Ea [2,3,4]::k) cs) w #[]:=have e:=aaZ (P:=aj) (main:=A) (b:=base 20) (a:=⟨rt xb (.int .i64 0) v F t6 t7 t8 t9 (ak xb) F F F F F F F F F F F F F F F F F,[]⟩) (ops:=Ea) (i:=1) (rest:=[2,3,4]) (k:=k) (cs:=cs) (w:=w) J J Xa J J;e
def aFJ(xb v u t6 t7 t8 t9 a l c k cs w):bQ aj A (G ((base 20).at ⟨rt xb (.int .i64 0) v F t6 t7 t8 t9 u v (.slice a l c) F F F F F F F F F F F F F F F,[]⟩<|dm Ea [3,4]::k) cs) w=.go (G ((base 20).at ⟨rt xb (.int .i64 0) v F t6 t7 t8 t9 u v (.slice a l c) l F F F F F F F F F F F F F F,[]⟩<|dm Ea [4]::k) cs) w #[]:=have e:=aaZ (P:=aj) (main:=A) (b:=base 20) (a:=⟨rt xb (.int .i64 0) v F t6 t7 t8 t9 u v (.slice a l c) F F F F F F F F F F F F F F F,[]⟩) (ops:=Ea) (i:=3) (rest:=[4]) (k:=k) (cs:=cs) (w:=w) (v:=l) J J Xa KG KG;e
def aFK(xb v u t6 t7 t8 t9 a l c k cs w):bQ aj A (G ((base 20).at ⟨rt xb (.int .i64 0) v F t6 t7 t8 t9 u v (.slice a l c) l F F F F F F F F F F F F F F,[]⟩<|dm Ea [4]::k) cs) w=.go (G ((base 20).at ⟨rt xb (.int .i64 0) v F t6 t7 t8 t9 u v (.slice a l c) l (.int .i64 0) F F F F F F F F F F F F F,[]⟩<|dm Ea []::k) cs) w #[]:=have e:=aaZ (P:=aj) (main:=A) (b:=base 20) (a:=⟨rt xb (.int .i64 0) v F t6 t7 t8 t9 u v (.slice a l c) l F F F F F F F F F F F F F F,[]⟩) (ops:=Ea) (i:=4) (rest:=[]) (k:=k) (cs:=cs) (w:=w) J J Xa J J;e
structure IJ(h:HS)(ms:List Ms)(iV:List PL):Prop where
 len:O iV=O h.pl
 get:∀(i:Nat) (p:PL),h.pl[i]? =Y p->∃v',iV[i]? =Y {p with v:=v',s:=GR ms i p}
def HS.taken(h:HS)(H:List PL):HS:={h with fv:=aP U 0 0,fl:=[],pl:=H}
structure ajF(s:Nat->Prop)(w w':ae)(B xb n:Nat)(h:HS)(Wg:Nat)(h3:HS):Prop where
 ex:∃iV h2,IJ h h.fl iV/\mP iV/\rQ (HS.taken h iV) (dK h.fl++nT h.fl h.pl) h2/\LG h2 h3
 at_:aG w' B xb (n+O h.fl) h3
 apart:mP h3.pl
 fr:∀b,b<M (R w)->¬s b->¬h.dJ xb b->w'.heap[b]? =w.heap[b]?
 sub:∀b,h3.dJ xb b->h.dJ xb b\/M (R w)<=b
 size:M (R w)<=M (R w')
 wg:M (R w)<=Wg
 tape:w'.tape=w.tape
 os:w'.os=w.os
 output:w'.output=w.output
def rQ.pl{l}:∀{h H:HS},rQ h l H->H.pl=h.pl/\H.fv=h.fv:=by induction l with|nil=>intro h H a;cases a;grind|cons m l ih=>intro h H a;cases a with|cons _ _ a ra=>have⟨r1,r2⟩:=ih ra;exact⟨r1.t a.rest.2.2.1,r2.t a.rest.2.2.2.2.1⟩
variable{h h'}
def xe.pl{i x ok}(l:xe h i x ok h'):h'.pl=h.pl:=by cases l with|Bv=>rfl|timeout _ _ hw=>cases hw<;>rfl|rem _ H=>cases H<;>rfl|idle=>rfl
def sH.pl{j}(t:sH h j h'):h'.pl=h.pl:=by induction t with|zero=>rfl|succ _ _ H ih=>exact(xe.pl H).t ih
def LG.pl(t:LG h h'):h'.pl=h.pl:=by cases t with|down=>rfl|up _ t=>cases t with|all t=>exact sH.pl t|lC _ t _ l=>exact(xe.pl l).t<|sH.pl t
theorem aFL{fo s w B xb n}(hh:aG w B xb n h)(ha:mP h.pl)(hx:¬(s xb\/fo xb))(Ah:O h.fl<=100)(hn:n+100<=1000000000000)(FN:∀p∈h.pl,(O p.s.es+100)*40<=2^47)(zh:∀m∈h.fl,(Lit.int .i64 m.p).wf=A)(hq:∀m∈h.fl,m.k=1->∃i:Nat,m.q=i/\i<h.pl) (lV:∀iV k h2 m,IJ h h.fl iV->rQ (HS.taken h iV) ((dK h.fl++nT h.fl h.pl).take k) h2->(dK h.fl++nT h.fl h.pl)[k]? =Y m->∃(i:Nat) (x:PS) (q:Nat),m.p=(i:Int)/\i<6/\h2.ps[i]? =x/\m.q=(q:Int)/\q<4/\qB h2 ⟨4,i,0,x.t⟩) (jI:∀iV h2,IJ h h.fl iV->rQ (HS.taken h iV) (dK h.fl++nT h.fl h.pl) h2->h2.up=A->∀j h1 x,j<h2.P.toNat->sH h2 j h1->h1.ps[j]? =Y x->x.iH/\qB h1 ⟨3,j,0,x.t⟩) (zX:(dK h.fl++nT h.fl h.pl).length<=1000):xQ (bz fo s) aj 20 #[ak xb] w (λB' v w'=>∃Wg h3,B'=bz fo (λb=>s b\/b=Wg)/\v=h.fl/\ajF s w w' B xb n h Wg h3):=by
 intro c cs;refine ag.Reach.ok λbY=>?_;have h5:=λb H=>(bY.low b H).1;have L:=lets h5;have C:Gf (bz fo s) prog:=λk hk=>O3 Zv;have iZ:=bF hh.blk;have OE:=aG.free hh bY hx;rw[aFE,aFv];refine kz λd1=>?_;have Uo:bZ ((bz fo s).cut (M (R w))) (rt xb F F F F F F F F F F F F F F F F F F F F F F F F F):=λv hv=>by simp only[rt,MQ,zA,Dy,DC]at hv;rcases hv with rfl|hv;{exact .Ia λz=>z.e hx Zv};(have:v=undef:=Zv);rw[this];exact yw
 refine UW (w:=w.at d1) (K:=λt d e a' w'=>e=.normal/\a'=⟨rt xb (.int .i64 0) F F F F F F F F F F F F F F F F F F F F F F F F,[]⟩/\w'=re (w.at d1) t d) L C ok0 Uo J ⟨_,func20⟩ J (λt d=>aQ3 (aFF xb) Zv) ?_ ?_;rotate_left;{grind};rintro a1 w1 sQ aa7 _ ⟨t,d,t',j,_,rfl,l7⟩;have e1:w1.heap=w.heap:=show(re w1 t' j).heap=(re (w.at d1) t d).heap from Zv;clear l7;refine kz λd2=>?_;refine UW (w:=w1.at d2) (K:=λt d e a' w'=>e=.normal/\(∃t6 t7 t8 t9,a'=⟨rt xb (.int .i64 0) h.fv F t6 t7 t8 t9 F F F F F F F F F F F F F F F F F F,[]⟩)/\bW (re (w1.at d2) t d) w' B xb n h n (h.dV (aP U 0 0) [])/\Fr (λq=>q=xb) (re (w1.at d2) t d) w') L C JM aa7 J ⟨_,func20⟩ J (λt d=>aQ3 (aFz<|aG.same hh (λb _=>by show w1.heap[b]? =_;rw[e1]) (by show (M (R w))<=M (R w1);grind)) Zv) ?_ ?_;rotate_left;{grind};rintro a2 w2 Tt arL _ ⟨t,d,t',j,_,⟨t6,t7,t8,t9,rfl⟩,JO,ql⟩;have GZ:=aG.Tq JO.at_;have f2:∀b,b<M (R w)->b≠xb->w2.heap[b]? =w.heap[b]? :=λb H fE=>by have:=ql.block b (by show b<M (R w1);grind) fE;have h2:w2.heap[b]? =w1.heap[b]? :=this;grind
 have z2:M (R w)<=M (R w2):=by have:M (R w1)<=M (R w2):=ql.size;grind
 have ajG:w2.tape=w.tape/\w2.os=w.os/\w2.output=w.output:=⟨Tt.tape.t sQ.tape,Tt.os.t sQ.os,Tt.output.t sQ.output⟩;clear JO ql;have⟨na,nc,TZ,_⟩:=jR hh.tC;have hfx:∀b,h.fv.ownBlock=Y b->b≠xb:=λb H e=>hh.ahr<|e▸H;have arM:bI w2 B 119 5 (.slice na (O h.fl) nc) (O h.fl) (h.fl.flatMap Ms.cs):=by have h0:=hh.tC;refine⟨h0.1,?_⟩;rcases h0.2 with⟨q1,q2⟩|⟨g,cap,cur,q1,q2,q3,q4⟩;{grind};exact .inr ⟨g,cap,cur,Zv,q2,(f2 g Zv<|hfx g (by rw[q1];rfl)).t q3,q4⟩
 have hC:∀aPZ,aPZ.heap=w2.heap->Tm (λb=>s b\/fo b) aPZ B B xb n (h.dV (aP U 0 0) []) na nc h.fl:=λaPZ hV=>by refine⟨aG.same GZ Zv Zv,ha,?_,by unfold cZ;omega,YV,λp hp=>by have:=FN p hp;omega,zh,hq,λb H=>⟨Zv,λe=>OE b (.inr<|.inr<|.inl e) H,λp hp e=>OE b (.inr<|.inr<|.inr<|.inr ⟨p,hp,e⟩) H,λe=>OE b (.inr Zv) H⟩⟩;refine⟨arM.1,?_⟩;rcases arM.2 with⟨q1,q2⟩|⟨g,cap,cur,q1,q2,q3,q4⟩;{grind};exact .inr ⟨g,cap,cur,q1,q2,Zv,q4⟩
 refine kz λd3=>?_;refine kz λd4=>?_;rw[aFG];refine yZ λd5=>?_;rw[show List.range Ea.size=[0,1,2,3,4]from rfl];rw[TZ]at arL⊢;refine jM (λw=>aFH xb _ t6 t7 t8 t9 _ _ w) λd6=>?_;refine jM (λw=>aFI xb _ t6 t7 t8 t9 _ _ w) λd7=>?_;apply ajz (f:=54) (post:=λB' v w'=>∃d z,B'=bz fo (λb=>s b\/b=z.Wg)/\ajA fo s ((((((w2.at d3).at d4).at d5).at d6).at d7).at d) B xb n (h.dV (aP U 0 0) []) na nc h.fl z v w') J J Xa J func54 J J (vs:=#[ak xb,.slice na (O h.fl) nc]) KG (λd=>(aFd (hC ((((((w2.at d3).at d4).at d5).at d6).at d7).at d) J) YV).z Zv);rintro B' v w3 ⟨dd,z,rfl,hG⟩;have⟨iV,nX,FK,lX,aNj,hlf,acA,yh,aK8,dD,ht3,zS,hu3⟩:=aFl (hC ((((((w2.at d3).at d4).at d5).at d6).at d7).at dd) J) hG (λb H=>⟨λe=>OE b (.inr<|.inl e)<|.inl H,λe=>by simp[HS.dV,Value.ownBlock]at e⟩);have aeI:=hG.vok;clear hG;have FP:IJ h h.fl iV:=⟨nX,FK⟩;refine ag.Reach.ok λaFM=>?_;have h53:=λb H=>(aFM.low b H).1;have L3:=lets h53;have C3:Gf (bz fo λb=>s b\/b=z.Wg) prog:=λk hk=>O3 λb H=>H.e (h53 b) YV;obtain⟨va,vc,rfl,_⟩:=jR acA;rw[<-kZ,<-ED]at acA;rw[<-kZ]at aeI⊢;generalize hA:dK h.fl++nT h.fl (h.dV (aP U 0 0) []).pl=aPS at acA aeI⊢;have hA':dK h.fl++nT h.fl h.pl=aPS:=hA;rw[hA']at lV jI zX;have aFN:=lX;have hz3:M (R w2)<=M (R w3):=aK8;have Hq:M (R w2)<=z.Wg:=dD;have hold:∀v,aK ((bz fo s).cut w2) v->aK ((bz fo λb=>s b\/b=z.Wg).cut w3) v:=λv hv=>hv.z (B:=(bz fo λb=>s b\/b=z.Wg).cut w3) (B':=(bz fo s).cut (M (R w2))) (λb H=>by rcases H with((H|rfl)|H)|H;{exact .inl<|.inl H};{exact .inr Hq};{exact .inl<|.inr H};{exact .inr YV}) J;have aFO:bZ ((bz fo λb=>s b\/b=z.Wg).cut w3) (rt xb (.int .i64 0) (.slice na (O h.fl) nc) F t6 t7 t8 t9 (ak xb) (.slice na (O h.fl) nc) (.slice va (O aPS) vc) (O aPS) (.int .i64 0) F F F F F F F F F F F F F):=λv hv=>by simp only[rt,MQ,zA,Dy,DC]at hv;have old:v∈rt xb (.int .i64 0) (.slice na (O h.fl) nc) F t6 t7 t8 t9 F F F F F F F F F F F F F F F F F F->aK ((bz fo λb=>s b\/b=z.Wg).cut w3) v:=λhm=>hold v<|arL v hm;(have acB:v∈rt xb (.int .i64 0) (.slice na (O h.fl) nc) F t6 t7 t8 t9 F F F F F F F F F F F F F F F F F F\/v=.slice va (O aPS) vc\/v=O aPS:=by simp only[rt,MQ,zA,Dy,DC];grind);rcases acB with hm|rfl|rfl;{grind};{omega};exact .int
 change ag.Reach _ _ ((base 20).at ⟨rt xb (.int .i64 0) (.slice na (O h.fl) nc) F t6 t7 t8 t9 (ak xb) (.slice na (O h.fl) nc) (.slice va (O aPS) vc) F F F F F F F F F F F F F F F,[]⟩<|dm Ea [3,4]:: .code rLB:: .code rY::[]) _ _ _ _;refine jM (λw=>aFJ xb _ _ t6 t7 t8 t9 _ _ _ _ _ w) λd8=>?_;refine jM (λw=>aFK xb _ _ t6 t7 t8 t9 _ _ _ _ _ w) λd9=>?_;refine JL λd10=>?_;have atV:∀aPZ h1 N,aG w3 B xb N h1->aPZ.heap=w3.heap->aG aPZ B xb N h1:=λaPZ h1 N ht hV=>aG.same ht Zv Zv;refine UW (w:=((w3.at d8).at d9).at d10) (K:=λt d e a' w'=>e=.normal/\(∃t5 t14 t15 t16 t17 t18 t19 t20 t21 t22 t23,a'=⟨rt xb (.int .i64 0) (.slice na (O h.fl) nc) t5 t6 t7 t8 t9 (ak xb) (.slice na (O h.fl) nc) (.slice va (O aPS) vc) (O aPS) t14 t15 t16 t17 t18 t19 t20 t21 t22 t23 F F F F,[]⟩)/\∃h2,rQ (HS.taken h iV) aPS h2/\bW (re (((w3.at d8).at d9).at d10) t d) w' B xb (n+O h.fl) (HS.taken h iV) (n+O h.fl) h2) L3 C3 aFx aFO J ⟨_,func20⟩ J (λt d=>aQ3 (aFA (W:=re (((w3.at d8).at d9).at d10) t d) (Bm:=w2) (h:=HS.taken h iV) (atV (re (((w3.at d8).at d9).at d10) t d) _ _ aFN J) J (by refine⟨acA.1,?_⟩;rcases acA.2 with⟨q1,q2⟩|⟨g,cap,cur,q1,q2,q3,q4⟩;{grind};exact .inr ⟨g,cap,cur,q1,q2,q3,q4⟩) zX Zv _ _ _ _ _ _ _ _ _ _ _ _ _ _ _ _ _ _ _ _ _ _) Zv) ?_ ?_;rotate_left;{grind};rintro a4 w4 BI aFQ _ ⟨t,d,t',j,_,⟨s5,s14,s15,s16,s17,s18,s19,s20,s21,s22,s23,rfl⟩,h2,hkr,Jz⟩;have arO:aG w4 B xb (n+O h.fl) h2:=aG.Tq Jz.at_;have f4:∀b,b<M (R w3)->¬(HS.taken h iV).dJ xb b->w4.heap[b]? =w3.heap[b]? :=λb H fE=>Jz.fr.block b H fE;have s4:∀b,h2.dJ xb b->(HS.taken h iV).dJ xb b\/w3<=b:=Jz.sub;have z4:M (R w3)<=M (R w4):=Jz.fr.size;clear Jz;refine UW (w:=w4) (K:=λt d e a' w'=>e=.ret/\a'.tmps.getD 2 F=O h.fl/\∃h3,LG h2 h3/\bW (re w4 t d) w' B xb (n+O h.fl) h2 (n+O h.fl) h3) L3 C3 okY aFQ J ⟨_,func20⟩ J (λt d=>aQ3 (aFC (l:=O h.fl) (aG.re arO t d) Zv _ _ _ _ _ _ _ _ _ _ _ _ _ _ _ _ _ _ _ _ _ _ _ _) Zv) ?_ ?_;{grind};rintro a5 w5 todo zQ aNp hd5 ⟨t,d,t',j,_,rU,h3,Fv,uG⟩;have ES:aG w5 B xb (n+O h.fl) h3:=aG.Tq uG.at_;have f5:∀b,b<M (R w4)->¬h2.dJ xb b->w5.heap[b]? =w4.heap[b]? :=λb H fE=>uG.fr.block b H fE;have s5:∀b,h3.dJ xb b->h2.dJ xb b\/w4<=b:=uG.sub;have z5:M (R w4)<=M (R w5):=uG.fr.size;clear uG;have aFf:h3.pl=iV:=(LG.pl Fv).t (rQ.pl hkr).1;have ft:∀b,(HS.taken h iV).dJ xb b->h.dJ xb b\/w<=b:=λb H=>by rcases H with e|e|e|e|⟨p,hp,e⟩;{exact .inl<|.inl e};{exact .inl<|.inr<|.inl e};{exact .inl<|.inr<|.inr<|.inl e};{simp[HS.taken,Value.ownBlock]at e};rcases(hlf p hp b e).1 with⟨p0,Mc,e0⟩|e0;{exact .inl<|.inr<|.inr<|.inr<|.inr ⟨p0,Mc,e0⟩};have e0':w2<=b:=e0;omega
 refine jM (λw=>aRZ (v:=O h.fl) J hd5 func20 (by rw[<-rU];exact aRm J _ _ _) KG) λd11=>?_;refine ag.Reach.here λ_=>⟨_,J,z.Wg,h3,J,J,⟨Zv,aG.same ES (λb _=>J)<|fC _,Zv,λb H hs hf=>?_,λb H=>?_,?_,YV,?_,?_,?_⟩⟩;{have Jb:b≠xb:=λe=>hf<|.inl e;have Yn:¬(HS.taken h iV).dJ xb b:=Zv;have qP:¬C9 h.pl b:=λ⟨p,hp,e⟩=>hf<|.inr<|.inr<|.inr<|.inr ⟨p,hp,e⟩;have uV:¬h2.dJ xb b:=Zv;exact(f5 b YV uV).t<|(f4 b YV Yn).t<|(yh b (by show b<w2;omega) hs qP).t<|f2 b H Jb};{grind};{show (M (R w))<=M (R w5);omega};{exact zQ.tape.t<|BI.tape.t<|ht3.t ajG.1};{exact zQ.os.t<|BI.os.t<|zS.t ajG.2.1};exact zQ.output.t<|BI.output.t<|hu3.t ajG.2.2
end Twin
end
section
def ru(l:List Ms)(q:Nat):List Ms:=l.filter λm:Ms=>decide<|m.k=1/\m.q=(q:Int)
def aeN{l:List Ms}{i q x}(hx:l[i]? =Y x):ru (l.take<|i+1) q=ru (l.take i) q++if x.k=1/\x.q=(q:Int)then[x]else[]:=by unfold ru;grind[List.take_add_one]
def uO(l:List Ms)(p i q:Nat):List Ms:=if q<p then l else if q=p then l.take i else[]
def aFW(l p):uO l p l=uO l (p+1) 0:=by unfold uO;grind
structure ry(y:RS)(D:Nat->List Ms)(G':List GL):Prop where
 len:O G'=O y.G
 get:∀(q:Nat) (g:GL),y.G[q]? =Y g->∃u',G'[q]? =Y ⟨g.yb,u',if y.aPW[q]? =Y A then g.L else LD (ru (D q) q) g.L⟩
def ry.nil(y):ry y (λ_=>[]) y.G:=⟨J,λq g H=>⟨g.u,by rw[H];split<;>rfl⟩⟩
def aFX(y l):ry y (uO l 0 0) y.G:=by (have:uO l 0 0=λ_=>[]:=by unfold uO;grind);rw[this];exact ry.nil y
variable{y:RS}{l:List Ms}{p i:Nat}{x:Ms}{G':List GL}{aPW:List Bool}
theorem ry.same(h:ry y (uO l p i) G')(hx:l[i]? =x)(H:¬(x.k=1/\x.q=(p:Int))\/y.aPW[p]? =A):ry y (uO l p<|i+1) G':=by refine⟨h.len,λq g hg=>?_⟩;have⟨u',h1⟩:=h.get q g hg;refine⟨u',?_⟩;rw[h1];by_cases hq:q=p;{subst hq;unfold uO;simp;rcases H with H|H;{rw[aeN hx,if_neg H,pV]};grind};unfold uO;grind
def ry.one{g' u'}(h:ry y (uO l p i) G')(hx:l[i]? =x)(hk:x.k=1/\x.q=(p:Int))(ho:¬y.aPW[p]? =A)(H:G'[p]? =Y g'):ry y (uO l p<|i+1) (G'.set p ⟨g'.yb,u',qW g'.L x.p x.t x.c⟩):=by refine⟨by rw[Je];exact h.len,λq g hg=>?_⟩;have⟨u0,h1⟩:=h.get q g hg;by_cases hq:q=p;{subst hq;rw[h1]at H;cases H;refine⟨u',?_⟩;congr 2;unfold uO;simp;rw[aeN hx,if_pos hk];unfold LD;grind};refine⟨u0,?_⟩;rw[afX YV,h1];unfold uO;grind
def kD(aPW:List Bool)(l:List Ms)(p i:Nat):List Ms:=((List.range p).flatMap λq=>if aPW[q]? =A then[]else(ru l q).map Ms.oN)++if aPW[p]? =A then[]else(ru (l.take i) p).map Ms.oN
def aFY(aPW l p):kD aPW l p l=kD aPW l (p+1) 0:=by unfold kD;rw[Yz,ED,alZ];simp[ru]
def ajJ(hx:l[i]? =x)(H:¬(x.k=1/\x.q=(p:Int))\/aPW[p]? =A):kD aPW l p (i+1)=kD aPW l p i:=by unfold kD;rcases H with H|H;{rw[aeN hx,if_neg H,pV]};grind
def aFZ(hx:l[i]? =x)(hk:x.k=1/\x.q=(p:Int))(H:¬aPW[p]? =A):kD aPW l p (i+1)=kD aPW l p i++[x.oN]:=by unfold kD;rw[aeN hx,if_pos hk,if_neg H,if_neg H,acM,Jd];rfl
theorem arU(l q):(ru l q).length<=l:=AX _ _
def aF0(aPW l):kD aPW l 0 0=[]:=by unfold kD;simp[ru]
def aF1(hx:l[i]? =x):Twin.dK (l.take<|i+1)=Twin.dK (l.take i)++if x.k=2 then[x]else[]:=by unfold Twin.dK;grind[List.take_add_one]
theorem aF2(l p):((List.range p).flatMap λq=>ru l q).length<=l:=by induction l with|nil=>(have:∀r:List _,(r.flatMap λq=>ru [] q)=[]:=λr=>by induction r with|nil=>rfl|cons q r ih=>rw[Ad,ih];rfl);grind|cons x l ih=>(have H:∀p,((List.range p).flatMap λq=>ru (x::l) q).length=((List.range p).flatMap λq=>ru l q).length+if x.k=1/\0<=x.q/\x.q<(p:Int)then 1 else 0:=by intro p;induction p with|zero=>grind|succ p ihp=>rw[Yz,ED,ED,kZ,kZ,ihp];simp;(have e:(ru (x::l) p).length=(ru l p).length+if x.k=1/\x.q=(p:Int)then 1 else 0:=by unfold ru;grind);grind);rw[H p];simp only[Cc];split<;>omega
def arV(aPW l p i):(kD aPW l p i).length<=l:=by (have h1:(kD aPW l p i).length<=((List.range<|p+1).flatMap λq=>ru l q).length:=by unfold kD;rw[Yz,ED,kZ,kZ];(have a1:((List.range p).flatMap λq=>if aPW[q]? =A then[]else(ru l q).map Ms.oN).length<=((List.range p).flatMap λq=>ru l q).length:=by generalize List.range p=r;induction r with|nil=>simp|cons q r ih=>grind);(have a2:(if aPW[p]? =A then[]else(ru (l.take i) p).map Ms.oN).length<=(ru l p).length:=by split;{simp};rw[OW];unfold ru;grind[List.take_sublist]);grind);grind[aF2]
end
section
def RS.taken(y:RS)(G':List GL):RS:={y with nv:=aP U 0 0,N:=[],G:=G'}
inductive XU(y:RS):RS->Prop
 |down (h:y.dn=A):XU y y
 |up {ok:Bool} {y':RS} (h:y.dn=ah) (t:SS y ok y'):XU y y'
inductive LH(w w':ae)(B yb:Nat)(y:RS):RS->Prop
 |mk {G':List GL} {y2 y3:RS} (sh:ry y (λ_=>y.N) G') (ga:lN G') (al:vH (y.taken G') (Twin.dK y.N++kD y.aPW y.N (O y.G) 0) y2) (tk:XU y2 y3) (mv:dG w w' B yb y y3):LH w w' B yb y y3
section
variable{w w' B yb y}
def aY.aF4(h:aY w B yb y):dG w (aZ w (yb,14)<|aP U 0 0) B yb y (y.taken y.G):=h.ahJ eH (aQS _ _ _ _) (λq H=>by simp[Value.ownBlock]at H)
theorem aY.aeL(h:aY w B yb y)(hn:y.nv=aP U 0 0){k}(H:tag w k=119):¬y.dJ yb k:=λe=>by rcases h.Js e with t|t|t|t|t|t|⟨_,t⟩|t|t;all_goals first|(rw[H]at t;cases t)|(rw[hn]at t;simp[Value.ownBlock]at t)
variable{w1 y1 v l G'}
def dG.ajK(m:dG w w1 B yb y y1)(hy:aY w B yb y)(hn:y.nv=aP U 0 0){B'}(h:bI w B' 119 5 v (O l) (l.flatMap Ms.cs)):bI w1 B' 119 5 v l (l.flatMap Ms.cs):=(by grind[Fr.ownsRow,cases dG,aY.aeL,ig])
def arW:∀(l:List Ms) (L:List dF),(LD l L).length<=O L+O l|[],L=>(by simp[LD])|m::l,L=>by have h1:=arW l<|qW L m.p m.t m.c;have h2:=ahk L m.p m.t m.c;show(LD l _).length<=_;grind
def ry.bound{p i}(h:ry y (uO l p i) G'){q:Nat}{g g'}(hg:y.G[q]? =Y g)(H:G'[q]? =Y g'):g'.L<=g.L+O l:=by have⟨u',h1⟩:=h.get q g hg;rw[h1]at H;cases H;simp only;split;{omega};have h2:=arW (ru (uO l p i q) q) g.L;have h3:=arU (uO l p i q) q;(have h4:(uO l p i q).length<=l:=by unfold uO;grind);omega
def ry.full(h:ry y (uO l y.G 0) G'):ry y (λ_=>l) G':=by refine⟨h.len,λq g H=>?_⟩;have:=h.get q g H;unfold uO at this;grind
theorem vH.snoc{l m}:∀{y y1 H:RS},vH y l y1->zJ y1 m H->vH y (l++[m]) H:=by induction l with|nil=>intro y y1 H a b;cases a;exact .cons b<|.nil _|cons x l ih=>intro y y1 H a b;cases a with|cons a ra=>exact .cons a<|ih ra b
def dG.aF5{H n xs}(m:dG w w1 B yb y y1)(f:Fr (λq=>dw v=Y q) w1 H)(hr:bI w1 w 119 5 v n xs)(hn:y1.nv=aP U 0 0:=by rfl):dG w H B yb y y1:=⟨(by grind[aY.stay,cases dG,aY.aeL,ig]),m.fr.t f λq hq=>(hr.lt q hq).1,m.sub⟩
theorem aF6(h:aY w B yb y)(nI:lN y.G)(Ah:O y.N<=100)(zk:∀g∈y.G,(O g.L+102)*40<=2^47) (lV:∀G' k y2 m,ry y (λ_=>y.N) G'->vH (y.taken G') ((Twin.dK y.N++kD y.aPW y.N y.G 0).take k) y2->(Twin.dK y.N++kD y.aPW y.N y.G 0)[k]? =Y m->y2.iH/\O y2.D<=24/\(2<=(aF y2.L m.p).s->(⟨4,m.p,0,(aF y2.L m.p).t⟩:Rc).Ok)) (jI:∀G' y2,ry y (λ_=>y.N) G'->vH (y.taken G') (Twin.dK y.N++kD y.aPW y.N y.G 0) y2->y2.dn=ah->(0<=y2.tm/\y2.tm<=1000000000000)/\∀j y3,j<y2.P.toNat->um y2 j y3->PO y3 j):aH aj 91 #[ak yb] w λe w'=>e=(y.N)/\∃y3,LH w w' B yb y y3:=by
 have⟨i0,dL,fM,ed,fV⟩:=aQX ahI;have H:=aQe h;have DW:=aQe nI;have Bi:=aQe Ah;have HGL:=aQe zk;have HP1:=aQe lV;have HP2:=aQe jI;have kQ:=h.k 14;have⟨na,nc,hnv,qP⟩:=jR h.kL;rw[hnv]at kQ;have NET:I (bI w B 119 5 (.slice na (O y.N) nc) (O y.N)<|y.N.flatMap Ms.cs):=by have:=h.kL;rw[hnv]at this;exact this
 have cf:∀o,w.frozen? ⟨yb,o,U⟩=false:=gJ h.blk;have aO:=bF h.blk;have M0:=aQe h.aF4;have N0:I ((aZ w (yb,14)<|aP U 0 0).ownsRow B 119 5 (.slice na (O y.N) nc) (O y.N)<|y.N.flatMap Ms.cs):=have f:Fr (λk=>k=yb) w (aZ w (yb,14)<|aP U 0 0):=(Fr.refl (λk=>k=yb) w).setCell (p:=(yb,14)) (.inl J) _;f.ownsRow NET (λk hk e=>by have t:=ig NET hk;rw[e,lM h.blk]at t;cases t)
 unfold cZ at qP;have hQ:=h.hQ;have⟨w0,hw0⟩:∃w0,aZ w (yb,14) (aP U 0 0)=w0:=⟨_,J⟩;rw[hw0]at M0 N0;have W0:=aQe hw0;clear h nI zk lV jI hnv;go_enter func91,ntmps91;go_wp2_with fail;clear hw0;go_loopw [4,5] (λav iv w'=>∃i,i<=O y.N/\iv=i/\Fr aB w0 w'/\bI w' w0 119 5 av (Twin.dK<|y.N.take i).length ((Twin.dK<|y.N.take i).flatMap Ms.cs)) λ_ iv _=>O y.N-(bM iv).toNat;case atStart=>exact⟨0,jQ _,J,Fr.refl _ _,by simpa[Twin.dK]using aQS _ _ _ _⟩
 case round=>obtain⟨i,hi,rfl,bT,fD⟩:=hrel;have HF:=aQe bT;have HR:=aQe fD;have HG:I ((Twin.dK<|y.N.take i).length<=i):=dX (AX _ _) (by simp<;>omega);have NR:=aQe<|bT.ownsRow N0 λ_ _=>id;have gV:=bT.size;clear bT fD;by_cases jD:i<O y.N;{have⟨x,hx⟩:∃x,y.N[i]? =Y x:=Y0;have HX:=aQe<|aF1 hx;have⟨g,cap,e,hg,oH,kX,r0,r1,r2,r3,r4⟩:=DU NR hx;simp only[aQQ,OX]at e;obtain⟨rfl,rfl⟩:=e;(have lU:(i:Int)<(O y.N:Int):=YV);clear hx;by_cases hk:x.k=2;{(have eb:(x.k==2)=true:=by simpa using hk);have HK:=aQe hk;clear hk;go_wp2_with (at_builtin;apply aQU _ J _ _ 107 J w0 119 i0 _ 5 40 underlying107 dL fM ed fV J Xa _ (Twin.dK<|y.N.take i).length ((Twin.dK<|y.N.take i).flatMap Ms.cs) J (HR.o.alloc _) wr 1 1 [x.k,x.q,x.p,x.t,x.c] J J (World.news_of_block (cs:=#[x.k,x.q,x.p,x.t,x.c]) (t:=119) (fr:=(0,0))<|heap_alloc_new _ _) Y7 Xa (by have:=HG.o;omega) (by have:=HG.o;have:=Bi.o;omega) Xz (wr+1) Xy;intro gg jG w3 jO gW lX mW);go_roundw;(case rel=>have yh:Fr (λq=>dw u4=Y q) wr w3:=(eH.alloc _).grown gW λq ex=>.inl ex;refine⟨i+1,YV,Y4,HF.o.t yh λq hq=>.inr (HR.o.lt q hq).1,?_⟩;rw[HX.o,if_pos HK.o,ED,kZ];simpa[Ms.cs]using jO);case measure=>simp[bM]<;>omega};{(have eb:(x.k==2)=false:=by simpa using hk);go_wp2;go_roundw;(case rel=>exact⟨i+1,YV,Y4,HF.o,by rw[HX.o,if_neg hk,pV];exact HR.o⟩);case measure=>simp[bM]<;>omega}};{(obtain rfl:i=O y.N:=YV);rw[alZ]at HR HG;go_wp2_with fail;have wA_:True:=trivial;have⟨wA,hwA⟩:∃wA,wr=wA:=⟨_,J⟩;subst hwA;have MA:=aQe<|(dG.refl M0.o.at_).a HF.o;go_loopw [4,6] (λav iv w'=>∃p G',p<=O y.G/\iv=p/\dG w0 w' B yb (y.taken y.G) (y.taken G')/\lN G'/\ry y (uO y.N p 0) G'/\bI w' w0 119 5 av (Twin.dK y.N++kD y.aPW y.N p 0).length ((Twin.dK y.N++kD y.aPW y.N p 0).flatMap Ms.cs)) (λ_ iv _=>O y.G-(bM iv).toNat);(case atStart=>exact⟨0,y.G,jQ _,J,MA.o,DW.o,aFX y y.N,by rw[aF0,pV];exact HR.o⟩);case round=>obtain⟨p,G',hp,rfl,bn,xB,FP,fD⟩:=hrel;have MV:=aQe bn;have GA:=aQe xB;have SH:=aQe FP;have AR:=aQe fD;(have cQ:au wr (yb,1)=Y (V Z (O y.G)):=by rw[<-hQ.1];exact bn.at_.c 1);have Sr:=bF bn.at_.blk;clear bn xB FP fD;by_cases mW:p<O y.G;{(have lV:(p:Int)<(O y.G:Int):=YV);go_wp2_with fail;go_loopw [4,7] (λav iv w'=>∃i G',i<=O y.N/\iv=i/\dG w0 w' B yb (y.taken y.G) (y.taken G')/\lN G'/\ry y (uO y.N p i) G'/\bI w' w0 119 5 av (Twin.dK y.N++kD y.aPW y.N p i).length ((Twin.dK y.N++kD y.aPW y.N p i).flatMap Ms.cs)) (λ_ iv _=>O y.N-(bM iv).toNat);(case atStart=>exact⟨0,G',jQ _,J,MV.o,GA.o,SH.o,AR.o⟩);case round=>obtain⟨i,G2,hi,rfl,bn,xB,FP,fD⟩:=hrel;have Dc:=aQe bn;have GA2:=aQe xB;have Tu:=aQe FP;have Qq:=aQe fD;(have AL:I ((Twin.dK y.N++kD y.aPW y.N p i).length<=200):=by have h1:=arV y.aPW y.N p i;have h2:(Twin.dK y.N).length<=O y.N:=AX _ _;have h3:=Bi.o;show(Twin.dK y.N++kD y.aPW y.N p i).length<=200;rw[kZ];omega);have NR2:=aQe<|bn.ajK M0.o.at_ J N0.o;have ajE:=bF bn.at_.blk;have gV:=bn.fr.size;clear bn xB FP fD;by_cases auT:i<O y.N;{have⟨x,hx⟩:∃x,y.N[i]? =Y x:=Y0;have HX:=aQe hx;have⟨g,cap,e,hg,oH,kX,r0,r1,r2,r3,r4⟩:=DU NR2.o hx;simp only[aQQ,OX]at e;obtain⟨rfl,rfl⟩:=e;(have lU:(i:Int)<(O y.N:Int):=YV);clear hx;(have acB:((x.k==1)=ah/\I (¬(x.k=1/\x.q=(p:Int))))\/((x.k==1)=A/\(x.q==(p:Int))=ah/\I (¬(x.k=1/\x.q=(p:Int))))\/((x.k==1)=A/\(x.q==(p:Int))=A/\I (x.k=1/\x.q=(p:Int))):=by by_cases g1:x.k=1;{by_cases g2:x.q=(p:Int);{simp_all};simp_all};simp_all);rcases acB with⟨f1,ff⟩|⟨f1,f2,ff⟩|⟨f1,f2,ff⟩;{go_wp2;go_roundw;(case rel=>exact⟨i+1,G2,YV,Y4,Dc.o,GA2.o,Tu.o.same HX.o<|.inl ff.out,by rw[ajJ HX.o<|.inl ff.out];exact Qq.o⟩);case measure=>simp[bM]<;>omega};{go_wp2;go_roundw;(case rel=>exact⟨i+1,G2,YV,Y4,Dc.o,GA2.o,Tu.o.same HX.o<|.inl ff.out,by rw[ajJ HX.o<|.inl ff.out];exact Qq.o⟩);case measure=>simp[bM]<;>omega};(have hpO:p<O y.aPW:=YV);have⟨o,ho⟩:∃o,y.aPW[p]? =Y o:=⟨_,gG hpO⟩;have HO:=aQe ho;clear ho;cases o;{(have hpG:p<O G2:=by rw[Tu.o.len];exact mW);have⟨g2,JZ⟩:∃g2,G2[p]? =Y g2:=⟨_,gG hpG⟩;have HG2:=aQe JZ;(have yt:I ((O g2.L+1)*40<=2^47):=by have⟨g0,QJ⟩:∃g0,y.G[p]? =Y g0:=Y0;have h1:=Tu.o.bound QJ JZ;have h2:=HGL.o g0<|iO QJ;have h3:=Bi.o;show(O g2.L+1)*40<=2^47;omega);have NO:I (¬y.aPW[p]? =Y A):=(by simp_all);clear JZ;go_wp2_with (first|(at_builtin;apply aQU _ J _ _ 107 J w0 119 i0 _ 5 40 underlying107 dL fM ed fV J Xa _ (Twin.dK y.N++kD y.aPW y.N p i).length ((Twin.dK y.N++kD y.aPW y.N p i).flatMap Ms.cs) J ((A3.o.alloc _).alloc _) ⟨M (R w3)+1,0,U⟩ 1 1 [V Z 2,x.q,x.p,x.t,x.c] J J (World.news_of_block (cs:=#[V Z 2,x.q,x.p,x.t,x.c]) (t:=119) (fr:=(0,0))<|rM _ Xy) Y7 Xa (by have:=AL.o;exact aQp) (by have:=AL.o;omega) Xz (w3+1+1) Xy;intro gg jG w4 IZ aLk arO auT)|(go_at_call 144;apply(apM Dc.o.at_ GA2.o HO.o HG2.o x ff.out.2 yt.o).z;rintro e w3 ⟨rfl,u',Au,ga3⟩;have M3:=aQe<|Dc.o.t Au;have G3:=aQe ga3;have A3:=aQe<|Au.ajK Dc.o.at_ J Qq.o;have zo:w0<=M (R w3):=M3.o.fr.size;unfold DZ;clear Au ga3));go_roundw;(case rel=>have aGc:Fr (λq=>dw u4=Y q) w3 w4:=((eH.alloc _).alloc _).grown aLk λq ex=>.inl ex;refine⟨i+1,_,YV,Y4,dG.aF5 M3.o aGc A3.o,G3.o,Tu.o.one HX.o ff.out NO.o HG2.o,?_⟩;rw[aFZ HX.o ff.out NO.o,<-Jd,ED,kZ];simpa[Ms.cs,Ms.oN]using IZ);case measure=>simp[bM]<;>omega};{go_wp2_with ((go_at_call 144;apply(apL Dc.o.at_ HO.o x ff.out.2).z;rintro e w3 ⟨rfl,iL⟩;have M3:=aQe<|Dc.o.a iL;have A3:=aQe<|iL.ownsRow Qq.o λ_ _=>id;unfold DZ;clear iL));go_roundw;(case rel=>exact⟨i+1,G2,YV,Y4,M3.o.a<|aQ _,GA2.o,Tu.o.same HX.o<|.inr HO.o,by rw[ajJ HX.o<|.inr HO.o];exact A3.o.alloc _⟩);case measure=>simp[bM]<;>omega}};{(obtain rfl:i=O y.N:=YV);go_wp2_with fail;go_roundw;(case rel=>exact⟨p+1,G2,YV,Y4,Dc.o,GA2.o,by rw[<-aFW];exact Tu.o,by rw[<-aFY];exact Qq.o⟩);case measure=>simp[bM]<;>omega}};{(obtain rfl:p=O y.G:=YV);have⟨aPS,hA⟩:∃aPS,Twin.dK y.N++kD y.aPW y.N (O y.G) 0=aPS:=⟨_,J⟩;have HA:=aQe hA;rw[hA]at AR;clear hA;obtain⟨aa,ac,rfl,zX⟩:=jR AR.o;unfold cZ at zX;have SF:=aQe SH.o.full;go_wp2_with fail;go_loopw [10] (λiv w'=>∃k y2,k<=O aPS/\iv=k/\vH (y.taken G') (aPS.take k) y2/\dG w0 w' B yb (y.taken y.G) y2/\y2.nv=aP U 0 0/\bI w' w0 119 5 (.slice aa (O aPS) ac) (O aPS) (aPS.flatMap Ms.cs)) (λiv _=>O aPS-(bM iv).toNat);(case atStart=>exact⟨0,_,jQ _,J,.nil _,MV.o,J,AR.o⟩);case round=>obtain⟨k,y2,hk,rfl,auU,bn,arY,fD⟩:=hrel;have Dc:=aQe bn;have AL2:=aQe auU;have NV2:=aQe arY;have Qq:=aQe fD;have ajE:=bF bn.at_.blk;clear auU bn arY fD;by_cases auT:k<O aPS;{have⟨x,hx⟩:∃x,aPS[k]? =Y x:=Y0;have HX:=aQe hx;have PX:=HP1.o G' k y2 x SF.o (by rw[HA.o];exact AL2.o) (by rw[HA.o];exact hx);have PX':=aQe PX;have⟨g,cap,e,hg,oH,kX,r0,r1,r2,r3,r4⟩:=DU Qq.o hx;simp only[aQQ,OX]at e;obtain⟨rfl,rfl⟩:=e;(have aX:(k:Int)<(O aPS:Int):=YV);clear hx PX;go_wp2_with ((go_at_call 143;apply(apQ Dc.o.at_ PX'.o.1 x PX'.o.2.1 PX'.o.2.2).z;rintro e w3 ⟨rfl,y3,Q3,Au⟩;have Y3:=aQe Q3;have M3:=aQe<|Dc.o.t Au;have A3:=aQe<|Au.ajK Dc.o.at_ NV2.o Qq.o;clear Q3 Au));go_roundw;(case rel=>refine⟨k+1,y3,YV,Y4,?_,M3.o,Y3.o.rest.2.2.2.2.1.t NV2.o,A3.o⟩;rw[uz,HX.o];exact AL2.o.snoc Y3.o);case measure=>simp[bM]<;>omega};(have AF:I (vH (y.taken G') aPS y2):=by have:=AL2.o;rw[xN YV]at this;exact this);cases MK:y2.dn;{have PT:=HP2.o G' y2 SF.o (by rw[HA.o];exact AF.o) MK;have PT':=aQe PT;have DN:=aQe MK;clear PT MK;go_wp2_with ((go_at_call 89;apply(arR Dc.o.at_ DN.o PT'.o.1 PT'.o.2).z;rintro e w5 ⟨ok,y5,rfl,ho5,uG⟩;have O5:=aQe ho5;have M5:=aQe<|(M0.o.t Dc.o).t uG;clear ho5 uG));all_goals go_ret;exact⟨J,y5,.mk SF.o GA.o (by rw[HA.o];exact AF.o) (.up DN.o O5.o) M5.o⟩};have DN:=aQe MK;clear MK;go_wp2_with ((go_at_call 89;apply(ap5 Dc.o.at_ DN.o).z;rintro e w5 ⟨rfl,rfl⟩));go_ret;exact⟨J,y2,.mk SF.o GA.o (by rw[HA.o];exact AF.o) (.down DN.o)<|M0.o.t Dc.o⟩}}
end
end
section
open Twin (dK nT GR IJ LG)
section
variable{N:Nat}{h h' h2 h3:HS}{y y' y2 y3:RS}{iV:List PL}{G':List GL}
theorem aeP(ms i p):GR ms i p=if p.out then p.s else ajD (ru ms i) p.s:=rfl
variable{tl:List UInt8}{l:List Ms}{j:Nat}{m:Ms}
theorem aeQ(c:Core N h y tl)(ms):nT ms h.pl=kD y.aPW ms y.G 0:=by
 unfold nT kD;have e:∀q,q<O h.pl->(match h.pl[q]? with|some p=>if p.out then[]else(ms.filter λm:Ms=>decide<|m.k=1/\m.q=(q:Int)).map _|none=>[])=(if y.aPW[q]? =Y _ then[]else(ru ms q).map Ms.oN):=λq hq=>by have H:=gG hq;rw[H,c.dO.out q _ H];simp only[iR];rfl
 rw[<-c.dO.len];have hz:(if y.aPW[O h.pl]? =A then[]else(ru (ms.take 0) h.pl).map Ms.oN)=[]:=by split;{rfl};simp[ru]
 rw[hz,pV];have:∀n,n<=O h.pl->((List.range n).flatMap λi=>match h.pl[i]? with|some p=>if p.out then[]else(ms.filter λm:Ms=>decide<|m.k=1/\m.q=(i:Int)).map Ms.oN|none=>[])=(List.range n).flatMap λq=>if y.aPW[q]? =A then[]else(ru ms q).map Ms.oN:=λn=>by induction n with|zero=>grind|succ n ih=>grind[List.range_succ]
 exact this _ YV
def XV(c:Core N h y tl):(dK h.fl++nT h.fl h.pl).length<=200:=by have h1:(dK _).length<=h.fl:=AX _ _;have h2:=arV y.aPW h.fl y.G 0;grind[cases Core,aeQ]
def abb(k:eu N h y)(hN:N<=90000000)(H:IJ h h.fl iV)(hy:ry y (λ_=>y.N) G'):eu (N+100) (Twin.HS.taken h iV) (y.taken G'):=have⟨tl,c⟩:=k.core;have He:=c.fl;have Ah:=c.E6;have hp6:=c.P1.2;have k1:=aFu k (show N<=N+100 by omega) H.len hy.len (by grind[cases Twin.IJ,aeP,aeJ]) (λq p' g' hq hg=>by (have hl:q<h.pl:=by rw[<-H.len];grind);(have FK:q<y.G:=by rw[<-hy.len];grind);have⟨v',h1⟩:=H.get q _<|gG hl;have⟨u',h2⟩:=hy.get q _<|gG FK;rw[hq]at h1;rw[hg]at h2;cases h1;cases h2;have hr:=c.dO.rel q _ _ (gG hl)<|gG FK;have ho:=c.dO.out q _<|gG hl;rw[aeP,ho,He];simp;split;{grind};have h5:=arI (ru y.N q) hr.1 (λm hm=>by have⟨h6,_⟩:=EE.1 hm;have mo:=(c.ms m h6).1;have hf:=c.valid.pY m.p;have:=mo.p;have:=mo.t;have:=hf.t1;grind[cases Core,yY]);grind[arU]);aaj k1 _ _ Xy λm hm=>Zv
def abd(k:eu N h y)(hs:IJ h h.fl iV):Qm (Twin.HS.taken h iV) (y.taken G') (dK h.fl++nT h.fl h.pl):=by
 have⟨tl,c⟩:=k.core;have He:=c.fl;intro m H;rcases yu.1 H with H|H
 ·have⟨h1,h2⟩:=EE.1 H;rw[He]at h1;have mo:=c.ms m h1;refine⟨mo.1,λq p' hq hmq hi=>?_⟩;have hl:q<h.pl:=by rw[<-hs.len];exact(kY.1 hq).1
  have⟨v',h3⟩:=hs.get q _<|gG hl;have AO:iV[q]? =p':=hq;rw[AO]at h3;cases h3;have jC:=hi;rw[aeP]at jC;have lG:h.pl[q].s.nw m.p=(m.t,A):=by
   split at jC
   ·exact jC
   ·exact(aeJ _ jC).1
  exact mo.2 Zv q _ Zv hmq lG
 ·unfold nT at H;have⟨q0,oJ,H⟩:=List.mem_flatMap.1 H;have zl:q0<h.pl:=Zv;rw[gG zl]at H;simp only at H;split at H
  ·grind
  ·rename_i ho;obtain⟨x,hx,rfl⟩:=Dz.1 H;have⟨h1,h2⟩:=EE.1 hx;have h2':x.k=1/\x.q=(q0:Int):=Zv
   have BK:=h1;rw[He]at h1;have mo:=(c.ms x h1).1;refine⟨{mo with k:=.inr J},λq p' hq hmq hi=>?_⟩;have aNu:x.q=(q:Int):=hmq;have hqq:q=q0:=YV
   subst hqq;have⟨v',h3⟩:=hs.get q _<|gG zl;have AO:iV[q]? =p':=hq;rw[AO]at h3;cases h3;have jC:=hi;rw[aeP,if_neg ho]at jC;exact(aeJ _ jC).2 x (EE.2 ⟨BK,h2⟩) ⟨J,J⟩
def aGd(k:eu N h y)(hN:N<=90000000)(h6:O h.ps=6)(hs:IJ h h.fl iV)(kr:rQ (Twin.HS.taken h iV) (dK h.fl++nT h.fl h.pl) h2)(tk:LG h2 h3)(hy:ry y (λ_=>y.N) G')(yr:vH (y.taken G') (dK y.N++kD y.aPW y.N y.G 0) y2)(ytk:XU y2 y3):eu (N+308) h3 y3:=by have⟨tl,c⟩:=k.core;have He:=c.fl;(have e:dK y.N++kD y.aPW y.N y.G 0=dK h.fl++nT h.fl h.pl:=by rw[aeQ c,He]);rw[e]at yr;have⟨k2,h62⟩:=aa3 (abb k hN hs hy) h6 (abd k hs) kr yr;have zX:=XV c;have H:eu (N+300) h2 y2:=k2.z YV;cases tk with|down hu=>grind[cases XU,eu.z,cases eu,kR.up,aah.dn]|up hu t=>have⟨c2,u2⟩:=H.aiO hu;grind[cases XU,cases kR,apZ]
def ar1(h):∃iV,IJ h h.fl iV:=
 ⟨h.pl.mapIdx λi p=>{p with s:=GR h.fl i p},Xy,Y0⟩
def ar2(y):∃G',ry y (λ_=>y.N) G':=
 ⟨y.G.mapIdx λq g=>{g with L:=if y.aPW[q]? =A then g.L else LD (ru y.N q) g.L},Xy,Y0⟩
def ar4(l):∀y,∃y',vH y l y':=by induction l with|nil=>exact λy=>⟨y,.nil y⟩|cons m l H=>intro y;have⟨y1,a⟩:=aFr y m;have⟨y2,r⟩:=H y1;exact⟨y2,.cons a r⟩
def ar5(l):∀h,O h.ps=6->(∀m∈l,0<=m.p/\m.p<6)->∃h',rQ h l h':=by induction l with|nil=>exact λh _ _=>⟨h,.nil h⟩|cons m l ih=>intro h h6 H;have hp:=H m Xy;have⟨i,hi⟩:=lW hp.1;have⟨h1,a⟩:=aFq h i h.ps[i] m;have⟨h2,r⟩:=ih h1 (a.rest.2.2.2.1 h6) Zv;exact⟨h2,.cons hi Zv a r⟩
theorem vH.mok{P Q}:∀{y y':RS} {m:Ms},vH y l y'->(∀x∈l,yD P Q y.L x)->yD P Q y.L m->yD P Q y'.L m:=by induction l with|nil=>grind[cases vH]|cons x l ih=>intro y y' m a hl H;cases a with|cons a ra=>exact ih ra (by grind[zJ.mok])<|a.mok Zv H
theorem rQ.gU:∀{h h':HS},rQ h l h'->h'.P=h.P/\h'.Q=h.Q:=by induction l with|nil=>intro h h' a;cases a;omega|cons m l ih=>grind[cases rQ,Ai.rest]
def Qm.take{H}(ok:Qm h y H)(k):Qm h y (H.take k):=λm hm=>ok m Zv
theorem aGe(k:eu N h y)(hN:N<=90000000)(h6:O h.ps=6)(hs:IJ h h.fl iV)(kr:rQ (Twin.HS.taken h iV) ((dK h.fl++nT h.fl h.pl).take j) h2)(hm:(dK h.fl++nT h.fl h.pl)[j]? =m):∃(i:Nat) (x:PS) (q:Nat),m.p=(i:Int)/\i<6/\h2.ps[i]? =x/\m.q=(q:Int)/\q<4/\qB h2 ⟨4,i,0,x.t⟩:=by have⟨tl,c⟩:=k.core;have⟨G',hy⟩:=ar2 y;have⟨y2,yr⟩:=ar4 ((dK h.fl++nT h.fl h.pl).take j)<|y.taken G';have ok:=abd (G':=G') k hs;have⟨k2,h62⟩:=aa3 (abb k hN hs hy) h6 (ok.take j) kr yr;have zX:=XV c;have H:=(ok m Zv).1;have⟨i,hi⟩:=lW H.p.1;have⟨q,hq⟩:=lW H.q.1;have hP:(Twin.HS.taken h iV).P=h.P:=J;have hQ:(Twin.HS.taken h iV).Q=h.Q:=J;have p1:=H.p.2;have q1:=H.q.2;rw[hQ]at q1;have:=c.P1.2;have:=c.Q1.2;refine⟨i,h2.ps[i],q,hi,YV,Zv,hq,YV,arG k2 ?_ ?_ Zv⟩;{grind};rw[kr.gU.1];omega
theorem aGf(k:eu N h y)(hN:N<=90000000)(h6:O h.ps=6)(hs:IJ h h.fl iV)(kr:rQ (Twin.HS.taken h iV) (dK h.fl++nT h.fl h.pl) h2)(hu:h2.up=A){H x}(hj:j<h2.P.toNat)(t:sH h2 j H)(hx:H.ps[j]? =Y x):x.iH/\qB H ⟨3,j,0,x.t⟩:=by have⟨tl,c⟩:=k.core;have⟨G',hy⟩:=ar2 y;have⟨y2,yr⟩:=ar4 (dK h.fl++nT h.fl h.pl)<|y.taken G';have⟨k2,h62⟩:=aa3 (abb k hN hs hy) h6 (abd k hs) kr yr;have zX:=XV c;have⟨c2,u2⟩:=k2.aiO hu;grind[apY]
theorem aGg(k:eu N h y)(hN:N<=90000000)(h6:O h.ps=6)(hy:ry y (λ_=>y.N) G')(yr:vH (y.taken G') ((dK y.N++kD y.aPW y.N y.G 0).take j) y2)(hm:(dK y.N++kD y.aPW y.N y.G 0)[j]? =m):y2.iH/\O y2.D<=24/\(2<=(aF y2.L m.p).s->(⟨4,m.p,0,(aF y2.L m.p).t⟩:Rc).Ok):=by
 have⟨tl,c⟩:=k.core;have e:dK y.N++kD y.aPW y.N y.G 0=dK h.fl++nT h.fl h.pl:=by rw[aeQ c,c.fl]
 rw[e]at yr hm;have⟨iV,hs⟩:=ar1 h;have ok:=abd (G':=G') k hs;have Jy:=c.P1.2;have⟨h2,kr⟩:=ar5 ((dK h.fl++nT h.fl h.pl).take j) (Twin.HS.taken h iV) h6 (λx hx=>have H:=(ok x Zv).1;have p1:x.p<h.P:=H.p.2;⟨H.p.1,YV⟩);have⟨k2,h62⟩:=aa3 (abb k hN hs hy) h6 (ok.take j) kr yr;have zX:=XV c;have H:=(ok m Zv).1;have mo2:yD h2.P h2.Q y2.L m:=by rw[kr.gU.1,kr.gU.2];exact yr.mok (λx hx=>(ok x Zv).1) H
 refine arH k2 ?_ mo2;grind
def aGi(k:eu N h y)(hN:N<=80000000)(h6:O h.ps=6)(hy:ry y (λ_=>y.N) G')(yr:vH (y.taken G') (dK y.N++kD y.aPW y.N y.G 0) y2)(hd:y2.dn=ah):(0<=y2.tm/\y2.tm<=1000000000000)/\∀j y3,j<y2.P.toNat->um y2 j y3->PO y3 j:=by have⟨tl,c⟩:=k.core;(have e:dK y.N++kD y.aPW y.N y.G 0=dK h.fl++nT h.fl h.pl:=by rw[aeQ c,c.fl]);rw[e]at yr;have⟨iV,H⟩:=ar1 h;have ok:=abd (G':=G') k H;have Jy:=c.P1.2;have⟨h2,kr⟩:=ar5 (dK h.fl++nT h.fl h.pl) (Twin.HS.taken h iV) h6 (λx hx=>have mo:=(ok x hx).1;have p1:x.p<h.P:=mo.p.2;⟨mo.p.1,YV⟩);have⟨k2,h62⟩:=aa3 (abb k YV H hy) h6 ok kr yr;have zX:=XV c;grind[cases eu,cases Core,aah.dn,arF]
end
end
section
structure rC(w w':ae)(B xb yb:Nat)(h:HS)(y:RS)(N:Nat)(h':HS)(y':RS):Prop where
 to:fH w' B xb yb N h' y'
 fr:Fr (λk=>h.dJ xb k\/y.dJ yb k) w w'
 sub:∀k,h'.dJ xb k\/y'.dJ yb k->(h.dJ xb k\/y.dJ yb k)\/M (R w)<=k
def vI(B xb yb:Nat)(h:HS)(y:RS)(N:Nat)(w:ae)(r r2:ai)(w':ae):Prop:=(∃a,r=V Z a/\r2=a)/\∃h' H,rC w w' B xb yb h y N h' H
section
variable{w w' w2 w3 B xb yb N h h'}{y y':RS}
def tJ.go(t:tJ w w' B xb yb h y N h' y'):rC w w' B xb yb h y N h' y':={t with}
variable{aPV n' f g k:Nat}{ax ay a m}
theorem rC.z(t:rC w w' B xb yb h y N h' y')(H:N<=aPV):rC w w' B xb yb h y aPV h' y':={t with to:=t.to.z H}
def fH.asj(b:fH w B xb yb N h y)(m:bW w w2 B xb N h n' h')(ym:dG w2 w3 B yb y y')(hx:mP h'.pl)(hy:lN y'.G)(hM:n'<=aPV)(H:eu aPV h' y'):rC w w3 B xb yb h y aPV h' y':=by have aO:∀k,y.dJ yb k->k<w:=λk H=>(b.ya.lZ H).1;(have nI:∀k,h'.dJ xb k->y'.dJ yb k->False:=λk h1 h2=>by have h3:=(m.at_.lZ h1).1;grind[cases dG,cases bW,fH.apart]);refine⟨⟨(m.at_.stay ym.fr λk e hf=>?_).z hM,ym.at_,hx,hy,λk h1 h2=>nI k (.inr Zv)<|.inr Zv,H⟩,?_,λk H=>?_⟩;{grind[cases bW,fH.apart]};{exact(m.fr.z Zv).t ym.fr Zv};rcases H with H|H;{grind[cases bW]};rcases ym.sub k H with a|a;{grind};exact .inr<|dX m.fr.size a
def bW.frB(m:bW w w2 B xb N h n' h'):Fr (λk=>h.dJ xb k\/y.dJ yb k) w w2:=(by grind[Fr.z,cases bW])
def fH.goE(b:fH w B xb yb N h y)(hx:aH aj f ax w λe w'=>e=V Z a/\Fr aB w w')(hy:∀w2,aY w2 B yb y->aH aj g ay w2 λe w'=>e=a/\Fr aB w2 w'):lS f g ax ay xb yb h y w (vI B xb yb h y (N+1) w):=(b.y7 hx hy).z λ_ _ ⟨r,h1,H,h3⟩=>⟨r,h1,H,λW fW=>(h3 W fW).z λ_ _ ⟨r2,k1,k2,h',y',t⟩=>⟨r2,k1,k2,h',y',t.go⟩⟩
theorem fH.two(b:fH w B xb yb N h y){P:HS->Prop}{Q:RS->Prop}(hx:aH aj f ax w λe w'=>e=V Z a/\∃h',P h'/\bW w w' B xb N h n' h')(hy:∀W,aY W B yb y->aH aj g ay W λe w'=>e=a/\∃y',Q y'/\dG W w' B yb y y') (hM:n'<=aPV)(hk:∀h' y',P h'->Q y'->eu aPV h' y'/\mP h'.pl/\lN y'.G):lS f g ax ay xb yb h y w (vI B xb yb h y aPV w):=hx.z λ_ w2 ⟨h1,h',hP,mv⟩=>⟨_,h1,mv.frB,λW H=>(hy W<|(b.Eb mv).a H).z λ_ w3 ⟨k1,y',hQ,ym⟩=>⟨_,k1,Zv,h',y',(have⟨g1,g2,g3⟩:=hk h' y' hP hQ;b.asj (mv.a H) ym g2 g3 hM g1)⟩⟩
theorem xh.erase{pl P Q L H}(hm:xh pl P Q L H)(k):xh pl P Q L (H.eraseIdx k):=λm hx=>hm m<|List.mem_of_mem_eraseIdx hx
theorem fH.drop(b:fH w B xb yb N h y)(hk:y.N[k]? =Y m):lS 83 84 #[ptr xb,k] #[ptr yb,k] xb yb h y w (vI B xb yb h y N w):=by have⟨tl,c⟩:=b.gK.core;(have gI:h.fl[k]? =m:=by rwa[c.fl]);apply b.two (P:=λh'=>∃fv,h'=h.dV fv (h.fl.eraseIdx k)) (Q:=λy'=>∃H,y'=y.dV H (y.N.eraseIdx k)) ((aAe b.xa gI).z λe w' ⟨h1,fv,mv⟩=>⟨h1,_,⟨fv,J⟩,mv⟩) (λW hW=>(aGM hW c.E6 hk).z Zv) YV;rintro _ _ ⟨fv,rfl⟩ ⟨H,rfl⟩;exact⟨(by grind[aaj,cases fH,xh.erase,cases Core]),b.ax,b.ay⟩
def fH.copy(b:fH w B xb yb N h y)(hk:y.N[k]? =Y m):lS 85 86 #[ptr xb,k] #[ptr yb,k] xb yb h y w (vI B xb yb h y N w):=by have⟨tl,c⟩:=b.gK.core;(have gI:h.fl[k]? =m:=by rwa[c.fl]);apply b.two (P:=λh'=>∃fv,h'=h.dV fv (oP h.fl m)) (Q:=λy'=>∃H,y'=y.dV H (oP y.N m)) ((az5 b.xa gI).z<|by grind[Bq.going,cases fH]) (λW hW=>(aGL hW hk).z λe w' ⟨h1,hs⟩=>(let ⟨H,mv⟩:=hs.goes hW;⟨h1,_,⟨H,J⟩,mv⟩)) (fC _);rintro _ _ ⟨fv,rfl⟩ ⟨H,rfl⟩;rw[c.fl];have mo:=c.ms m Zv;exact⟨aaj b.gK fv H (aiH c.E6 m)<|c.ms.send mo.1 mo.2,b.ax,b.ay⟩
theorem fH.tick(b:fH w B xb yb N h y)(hN:N<=80000000):lS 56 89 #[ptr xb] #[ptr yb] xb yb h y w (vI B xb yb h y (N+8) w):=by have h6:=b.xa.h6;(have key:∀(hk:eu N h y),lS 56 89 _ _ xb yb h y w (vI B xb yb h y (N+8) w):=λhk=>by cases hk with|down tl c d=>have:=b.goE (a:=5) ((aoR b.xa d.up).z<|by grind[Fr.refl]) (λW hW=>(ap5 hW d.dn).z<|by grind[Fr.refl]);exact this.z λ_ _ ⟨r,h1,h2,h3⟩=>⟨r,h1,h2,λW fW=>(h3 W fW).z λ_ _ ⟨r2,k1,k2,h',y',t⟩=>⟨r2,k1,k2,h',y',t.z YV⟩⟩|up c u=>have SQ:=c.tm;refine(aoS b.xa u.up<|by grind[apY]).z λe w2 ⟨ok,h',h1,ho,mv⟩=>⟨_,h1,mv.frB,λW fW=>(arR ((b.Eb mv).a fW) u.dn YV<|by grind[arF]).z λ_ w3 ⟨tV,y',k1,hy,ym⟩=>⟨_,k1,?_⟩⟩;have⟨e1,kn⟩:=apZ c u h6 ho hy;refine⟨Zv,h',y',b.asj (mv.a fW) ym ?_ ?_ YV kn⟩;{(have:h'.pl=h.pl:=by cases ho with|all t=>exact Twin.sH.pl t|lC _ t _ l=>exact(Twin.xe.pl l).t<|Twin.sH.pl t);rw[this];exact b.ax};(have lk:∀{y1 H:RS} {j:Nat} {o:Bool},CW y1 j o H->H.G=y1.G:=λl=>by cases l with|rem=>rfl|out _ _ hd=>exact hd.rest.2);(have tt:∀{j:Nat} {H:RS},um y j H->H.G=y.G:=λt=>by induction t with|zero=>rfl|succ _ hl ih=>grind);grind[cases SS,cases fH]);exact key b.gK
end
end
section
section
variable{w w' w3:ae}{B xb yb wb N:Nat}{h h':HS}{y y':RS}
def fH.aGN(b:fH w B xb yb N h y)(hN:N<=80000000){k:Nat}{m}(hk:y.N[k]? =Y m):lS 81 82 #[ptr xb,k] #[ptr yb,k] xb yb h y w (vI B xb yb h y (N+1) w):=by
 have⟨tl,c⟩:=b.gK.core;have h6:=b.xa.h6;have gI:h.fl[k]? =m:=by rwa[c.fl]
 have TQ:=c.ms m Zv;have mo:=TQ.1;have Jy:=c.P1.2;have hQ4:=c.Q1.2;have QQ:=c.ny;have⟨i,hi⟩:=lW mo.p.1;have⟨q,hq⟩:=lW mo.q.1;have lV:=mo.p.2;have lF:=mo.q.2;have AU:i<h.ps:=YV
 have zI:(q:Int)<h.pl:=by have:=b.xa.hQ.1;omega
 have hlen:=c.E6;have G7:(y.N.eraseIdx k).length<=100:=Zv;have kn0:=λfv H=>aaj b.gK fv H G7<|c.ms.erase k;rcases mo.k with aX|jH
 ·have⟨p,g,hp,hg,ho,hr,zk,_,_,_⟩:=b.part c zI;have hip:fF m.p:=yY YV YV;have hf:=c.valid.pY m.p;have ht0:=mo.t;have ht1:=hf.t1;have lH:fF m.t:=yY YV YV;cases zY:p.out with
  |true=>
   rw[zY]at ho;apply b.two (n':=N) (P:=λh'=>∃fv,h'=h.dV fv (h.fl.eraseIdx k)) (Q:=λy'=>∃H,y'=y.dV H (y.N.eraseIdx k)) ((aGI b.xa gI aX hq hp zY).z λe w' ⟨h1,fv,mv⟩=>⟨h1,_,⟨fv,J⟩,mv⟩) (λW hW=>(aGl hW hlen hk aX hq ho).z Zv) YV;rintro _ _ ⟨fv,rfl⟩ ⟨H,rfl⟩;rw[c.fl];exact⟨(kn0 fv H).z YV,b.ax,b.ay⟩
  |false=>
   rw[zY]at ho;have FN:=XW hr;apply b.two (n':=N+1) (P:=λh'=>∃fv v' Sz,mP ((h.dV fv<|h.fl.eraseIdx k).l9 q {p with v:=v',s:=p.s.closed m.p m.t m.c}).pl/\h'=((h.dV fv<|h.fl.eraseIdx k).l9 q {p with v:=v',s:=p.s.closed m.p m.t m.c}).dV Sz (oP (h.fl.eraseIdx k) m.oN))
    (Q:=λy'=>∃H u' Qo,lN (y.jZ q ⟨g.yb,u',qW g.L m.p m.t m.c⟩).G/\y'=((y.dV H<|y.N.eraseIdx k).jZ q ⟨g.yb,u',qW g.L m.p m.t m.c⟩).dV Qo (oP (y.N.eraseIdx k) {m with k:=2}))
    ((aGJ b.xa b.ax gI aX hq hp zY hip (by unfold cZ;omega) YV).z λe w' ⟨h1,fv,v',w3,mv,nI,hs⟩=>(let ⟨Sz,mv'⟩:=hs.going mv.at_;⟨h1,_,⟨fv,v',Sz,nI,J⟩,mv.t mv'⟩))
    (λW hW=>(aGm hW b.ay hlen hk aX hq ho hg YV).z Zv) YV
   rintro _ _ ⟨fv,v',Sz,nI,rfl⟩ ⟨H,u',Qo,ga,rfl⟩;rw[c.fl]at nI⊢
   have k1:=aCl (v':=v') (u':=u') (cm:=m.c) (kn0 fv H) (q:=q) (p:=p) (g:=g) hp hg ⟨mo.p.1,lV⟩ lH;have⟨a1,a2⟩:=aCm (pl:=h.pl) (v':=v') mo (p:=p) hq;exact⟨aaj k1 Sz Qo (aiH G7 m.oN)<|k1.ms.send a1 λ_=>a2,nI,ga⟩
 ·have hx:=gG AU;have⟨aGP,aLm,aGQ⟩:=arH b.gK YV mo;apply b.two (n':=N) (P:=λh'=>∃fv,Ai (h.dV fv<|h.fl.eraseIdx k) i h.ps[i] m h') (Q:=λy'=>∃H,zJ (y.dV H<|y.N.eraseIdx k) m y') ((aGH b.xa gI jH YV hx hq YV hi<|by grind[arG,cases fH]).z λe w' ⟨h1,fv,h',a,mv⟩=>⟨h1,h',⟨fv,a⟩,mv⟩) (λW hW=>(aGk hW aGP hlen aLm hk jH aGQ).z Zv) YV;rintro h' y' ⟨fv,a⟩ ⟨H,a'⟩;rw[c.fl]at a;refine⟨apJ (kn0 fv H) h6 mo (TQ.2 jH) hi hx a a',?_,?_⟩
  ·rw[a.rest.2.2.1];exact b.ax
  ·rw[a'.rest.2.2.1];exact b.ay
variable{m:Int}
def aGR(h:aY w B yb y)(hm:¬(0<=m/\m<y.N)):aH aj 88 #[ak yb,m] w λr w'=>r=dZ #[jf #[V Z 0,V Z 0,V Z 0,V Z 0,ah],V Z 8]/\Fr aB w w':=by have HM:I (decide (0<=m/\m<=(y.N:Int)-1)=ah):=jr YV;have kQ:=h.k 14;have⟨a,c,e,hl⟩:=jR h.kL;unfold cZ at hl;have aO:=bF h.blk;go_enter func88,ntmps88;go_wp2_with (apply(jS _ _ _ _).z;rw[HM];rintro e w1 ⟨rfl,rfl⟩);apply aQY (Bf J _ _ _ _ _ _ _ J (heap_alloc_new _ _) underlying119 J KG) J;exact⟨J,aQ _⟩
def aGS(h:aY w B yb y)(hm:¬(0<=m/\m<y.N)):aH aj 82 #[ak yb,m] w λr w'=>r=V Z 8/\Fr aB w w':=by have HM:I (decide (0<=m/\m<=(y.N:Int)-1)=ah):=jr YV;have kQ:=h.k 14;have⟨a,c,e,hl⟩:=jR h.kL;unfold cZ at hl;go_enter func82,ntmps82;go_wp2_with (apply(jS _ _ _ _).z;rw[HM];rintro e w1 ⟨rfl,rfl⟩);go_ret;exact⟨J,by grind[Fr.refl]⟩
def aGT(h:aY w B yb y)(hm:¬(0<=m/\m<y.N)):aH aj 84 #[ak yb,m] w λr w'=>r=V Z 8/\Fr aB w w':=by have HM:I (decide (0<=m/\m<=(y.N:Int)-1)=ah):=jr YV;have kQ:=h.k 14;have⟨a,c,e,hl⟩:=jR h.kL;unfold cZ at hl;go_enter func84,ntmps84;go_wp2_with (apply(jS _ _ _ _).z;rw[HM];rintro e w1 ⟨rfl,rfl⟩);go_ret;exact⟨J,by grind[Fr.refl]⟩
def aGU(h:aY w B yb y)(hm:¬(0<=m/\m<y.N)):aH aj 86 #[ak yb,m] w λr w'=>r=V Z 8/\Fr aB w w':=by have HM:I (decide (0<=m/\m<=(y.N:Int)-1)=ah):=jr YV;have kQ:=h.k 14;have⟨a,c,e,H⟩:=jR h.kL;unfold cZ at H;go_enter func86,ntmps86;go_wp2_with (apply(jS _ _ _ _).z;rw[HM];rintro e w1 ⟨rfl,rfl⟩);go_ret;exact⟨J,by grind[Fr.refl]⟩
def fH.Zl(b:fH w B xb yb N h y):∀k,fF k->∃a b c d er f,∀w1,bg (Ag wb xb yb h y) w w1->adw (ptr xb) (ptr yb) k w1 a b c d er f:=by have⟨tl,c⟩:=b.gK.core;intro m hm;by_cases hr:0<=m/\m<y.N;{obtain⟨k,rfl⟩:=lW hr.1;have e:y.N[k]? =y.N[k]:=Zv;exact⟨_,_,_,_,0,_,λw1 H=>⟨az4 (b.sU H).xa<|by rwa[c.fl],azC (b.sU H).ya e⟩⟩};exact⟨0,0,0,0,8,ah,λw1 H=>⟨ayu (b.sU H).xa<|by rwa[c.fl],aGR (b.sU H).ya hr⟩⟩
theorem lS.up{f g H ay aPV M'}(hM:aPV<=M')(t:lS f g H ay xb yb h y w (vI B xb yb h y aPV w)):lS f g H ay xb yb h y w (vI B xb yb h y M' w):=t.z λ_ _ ⟨r,h1,h2,h3⟩=>⟨r,h1,h2,λW fW=>(h3 W fW).z λ_ _ ⟨r2,k1,k2,h',y',t⟩=>⟨r2,k1,k2,h',y',t.z hM⟩⟩
def fH.asn(b:fH w B xb yb N h y)(hN:N<=80000000)(k):lS 81 82 #[ptr xb,V Z k] #[ptr yb,k] xb yb h y w (vI B xb yb h y (N+1) w):=by have⟨tl,c⟩:=b.gK.core;by_cases H:0<=k/\k<y.N;{obtain⟨j,rfl⟩:=lW H.1;exact b.aGN hN<|gG (YV:j<y.N)};exact b.goE (aGE b.xa<|by rwa[c.fl]) λW hW=>aGS hW H
def fH.aGV(b:fH w B xb yb N h y)(k):lS 83 84 #[ptr xb,V Z k] #[ptr yb,k] xb yb h y w (vI B xb yb h y (N+1) w):=by have⟨tl,c⟩:=b.gK.core;by_cases H:0<=k/\k<y.N;{obtain⟨j,rfl⟩:=lW H.1;exact lS.up YV<|b.drop<|gG (YV:j<y.N)};exact b.goE (aGF b.xa<|by rwa[c.fl]) λW hW=>aGT hW H
def fH.aGW(b:fH w B xb yb N h y)(k):lS 85 86 #[ptr xb,V Z k] #[ptr yb,k] xb yb h y w (vI B xb yb h y (N+1) w):=by have⟨tl,c⟩:=b.gK.core;by_cases H:0<=k/\k<y.N;{obtain⟨j,rfl⟩:=lW H.1;exact lS.up YV<|b.copy<|gG (YV:j<y.N)};exact b.goE (aGG b.xa<|by rwa[c.fl]) λW hW=>aGU hW H
end
end
section
section
variable{w w' B wb xb yb bb N n h h' y y' o}
def Qs(w:ae)(B xb yb:Nat)(h:HS)(y:RS)(N:Nat)(e:Ending)(w':ae):Prop:=e=A/\∃h' y',rC w w' B xb yb h y N h' y'
variable{w1 aPV}
def rC.behind(f:Fr aB w w1)(t:rC w1 w' B xb yb h y aPV h' y'):rC w w' B xb yb h y aPV h' y':=⟨t.to,(f.z dA).t t.fr λ_=>.inl,λk H=>by rcases t.sub k H with e|e;{exact .inl e};exact .inr<|dX f.size e⟩
theorem rC.a(t:rC w w1 B xb yb h y aPV h' y')(f:Fr aB w1 w'):rC w w' B xb yb h y aPV h' y':=⟨(t.to.still f).to,t.fr.t f dA,t.sub⟩
theorem rC.t{M2 h1 y1}(a:rC w w1 B xb yb h y aPV h1 y1)(t:rC w1 w' B xb yb h1 y1 M2 h' y'):rC w w' B xb yb h y M2 h' y':=⟨t.to,a.fr.t t.fr λk H=>a.sub k H,λk H=>by rcases t.sub k H with e|e;{exact a.sub k e};exact .inr<|dX a.fr.size e⟩
theorem fJ.goes(g:fJ w B wb xb yb bb N n h y o)(t:rC w w' B xb yb h y aPV h' y'):fJ w' B wb xb yb bb aPV n h' y' o:=by have hl:=g.lt;refine⟨t.to,g.iK.nM ⟨t.fr.z λk H=>.inl ⟨.inr H,λe=>?_⟩,λk H=>?_,.inl J,λk H=>?_⟩,λe=>?_,λe=>?_⟩;{subst e;rcases H with H|H;{exact g.l7 H};exact g.mO H};{rcases H with H|H;{exact .inl<|.inl H};rcases t.sub k H with a|a;{exact .inl<|.inr a};exact .inr a};{rcases H with rfl|H|H;{exact gZ g.lt t.fr.size};{exact(t.to.xa.lZ H).1};exact(t.to.ya.lZ H).1};{rcases t.sub wb (.inl e)with(a|a)|a;{exact g.l7 a};{exact g.mO a};omega};rcases t.sub wb (.inr e)with(a|a)|a;{exact g.l7 a};{exact g.mO a};omega
def aeV{g:Nat}{ay W0 w2 r}(hc:∀W,Fr aB w2 W->aH aj g ay W λe w3=>∃H,e=aU H/\vI B xb yb h y aPV W0 r H w3):∃a,r=V Z a:=have⟨_,_,_,⟨H,_,⟨⟨a,h1,_⟩,_⟩⟩,_⟩:=hc w2 eH [];⟨a,h1⟩
end
end
section
section
variable{w w':ae}{B wb xb yb bb N n:Nat}{h h':HS}{y y':RS}{o:jY}
def aGX(g:fJ w B wb xb yb bb N n h y o)(hN:N<=70000000)(p q m)(hm:fF m){ts}(fl):aH aj 34 #[ptr wb,kV 9 p q m ts fl] w (Qs w B xb yb h y<|N+30):=by
 have HI:=aQe hm;clear hm;have G:=aQe g;have HN:=aQe hN;have HF:I (∀w1,Fr aB w w1->aH aj 37 #[ptr yb] w1 λr w'=>r=(O y.N:Int)/\Fr aB w1 w'):=λw1 f=>Zn (g.a f).both.ya;have Bi:I (O y.N<=100):=have⟨tl,c⟩:=g.both.gK.core;c.E6
 have⟨c0,c1,c2⟩:=g.iK.cells;have qC:=g.lt;unfold ptr at c0 c1 HF⊢;unfold kV;clear g c2 hN;go_enter func34,ntmps34;go_wp2_with fail;go_region_held3 (λw'=>au w' (wb,1)=Y (ak yb)/\au w' (M (R w),3)=Y (m)) (first|go_keep|exact⟨Uc,Z7⟩) (first|(go_at_call 37;apply(HF.o _<|(aQ _).drew).z;rintro e w1 ⟨rfl,aI⟩;have F1:=aQe<|((aQ _).drew).t aI dA;have BX:=aQe<|(aI.block _ Xy id).t<|((Fr.refl (λ_=>False) _).drew.block w Xy id).t<|heap_alloc_new _ _;have Uc:au w1 (wb,1)=Y (ak yb):=(F1.o.cell (p:=(wb,1)) qC id).t c1;(have Z7:au w1 (M (R w),3)=Y (V Z m):=(aI.cell (p:=(M (R w),3)) Xy id).t Xy);(have c1c:au w1 (M (R w))=Y (V Z 9):=(aI.cell (p:=(M (R w))) Xy id).t Xy);have l7:wb<M (R w1):=gZ qC F1.o.size;clear aI)|(go_at_call 80;apply(ait _ _ _ Bi.o).z;rintro e w2 ⟨rfl,rfl⟩));go_wp2_with fail;go_loopw [6,7,12] (λa b iv w'=>∃(i:Nat) (ra:Int) (hi:HS) (yi:RS),a=V Z ra/\b=V Z ra/\iv=V Z i/\i<=21/\rC w w' B xb yb h y (N+i) hi yi/\w'.heap[M (R w)]? =Y (aC #[V Z 9,V Z p,V Z q,V Z m,dN ts,aA fl] 28 (0,0))) (λ_ _ iv _=>22-(bM iv).toNat);case atStart=>exact⟨0,0,h,y,J,J,J,by omega,(G.o.both.still F1.o).go,BX.o⟩
 case round=>obtain⟨i,ra,hi,yi,rfl,rfl,rfl,hle,H,qQ⟩:=hrel;have GO:I (rC w wr B xb yb h y (N+i) hi yi):=H;have GI:I (fJ wr B wb xb yb bb (N+i) n hi yi o):=G.o.goes H;have BX2:I (wr.heap[M (R w)]? =Y (aC #[V Z 9,V Z p,V Z q,V Z m,dN ts,aA fl] 28 (0,0))):=qQ;obtain⟨a0,a1,_⟩:=(G.o.goes H).iK.cells;have hwr:=(G.o.goes H).lt;have b3:au wr (M (R w),3)=Y (V Z m):=aJ qQ 3;have iM:=bF qQ;unfold ptr at a0 a1;clear H qQ;go_wp2_with (first|(go_at_call 49;refine(aGD m HI.o _).z ?_;rintro e w5 ⟨k,hk,rfl,rfl⟩;by_cases hik:(i:Int)<=k)|(go_at_call 37;refine(Zn GI.o.both.ya).z ?_;rintro e w3 ⟨rfl,iL⟩;have F3:I (Fr aB wr w3):=iL;have d0:=(iL.cell (p:=wb) hwr id).t a0;have d1:=(iL.cell (p:=(wb,1)) hwr id).t a1;have Yi:wb<M (R w3):=gZ hwr iL.size;clear iL;by_cases tY:(0:Int)<(O yi.N:Int))|(go_at_call 81;refine(show lS 81 82 #[ptr xb,V Z 0] #[ptr yb,V Z 0] xb yb hi yi _ (vI B xb yb hi yi (N+i+1) _)from(GI.o.a F3.o).both.asn (by have:=HN.o;omega) 0).z ?_;rintro e w4 ⟨r,rfl,pU,ajX⟩;obtain⟨rb,rfl⟩:=aeV (g:=82) ajX;have HC4:I (∀W,Fr aB w4 W->aH aj 82 #[ptr yb,V Z 0] W λe w5=>∃r2,e=aU r2/\vI B xb yb hi yi (N+i+1) w3 (V Z rb) r2 w5):=ajX;have e1:=(GI.o.a F3.o).XX (W:=w3) (j:=1) Yi d1 pU;clear ajX pU)|(go_at_call 82;refine(HC4.o w4 eH).z ?_;rintro e w5 ⟨r2,rfl,aLn⟩;obtain⟨⟨rb2,zU,rfl⟩,h',y',xK⟩:=aLn;simp only[aRw,OX]at zU;subst zU;have T5:I (rC w w5 B xb yb h y (N+i+1) h' y'):=GO.o.t<|xK.behind F3.o;(have B5:I (w5.heap[M (R w)]? =Y (aC #[V Z 9,V Z p,V Z q,V Z m,dN ts,aA fl] 28 (0,0))):=by have b3':=(F3.o.block _ iM id).t BX2.o;refine(xK.fr.block _ (bF b3') λe=>?_).t b3';have t:=lM b3';rcases e with e|e;{rcases(GI.o.a F3.o).both.xa.Js e with t2|t2|t2|⟨t2,_⟩|t2|t2|t2<;>(rw[t]at t2;cases t2)};rcases(GI.o.a F3.o).both.ya.Js e with t2|t2|t2|t2|t2|t2|⟨t2,_⟩|t2|t2<;>(rw[t]at t2;cases t2));clear xK));{go_roundw;(case rel=>exact⟨i+1,rb,h',y',J,J,by go_num,by omega,T5.o,B5.o⟩);case measure=>simp[bM]<;>omega};{go_ret;exact⟨by simp,hi,yi,(GO.o.a F3.o).z<|by omega⟩};go_ret;exact⟨by simp,hi,yi,GO.o.z<|by omega⟩
end
end
section
set_option linter.all false
noncomputable def b35:Code:=cutAt (.refuse "") [A,A,A,ah,A,A,A,A,A,A,ah,ah]<|Tryz.f35.body.getD .skip
def aG0:codeOk aj kC b35=true:=KG
def ajZ(args:Array ai)(w:ae)(aPX:Ending->ae->Prop):Prop:=
 b35.wp aj (bodyPost aj Tryz.f35 aPX) {tmps:=args++iD (Tryz.f35.ntmps-args.size) F,defers:=[]} w
section
variable{w B wb xb yb bb N n h h' y y' o}
abbrev aeW(wb xb yb b:Nat)(q m:Int)(fl:Bool)(w:ae):Prop:=au w ⟨wb,0,U⟩=Y (ak<|Y ⟨xb,0,U⟩)/\au w ⟨wb,1,U⟩=Y (ak<|Y ⟨yb,0,U⟩)/\au w ⟨b,2,U⟩=Y (V Z q)/\au w ⟨b,3,U⟩=Y (V Z m)/\au w ⟨b,5,U⟩=Y (aA fl)
def lS.oK{f g aPV K H ay}(hM:aPV<=K)(t:lS f g H ay xb yb h y w (Ec B xb yb h y aPV w)):lS f g H ay xb yb h y w (vI B xb yb h y K w):=t.z λ_ _ ⟨r,h1,h2,h3⟩=>⟨r,h1,h2,λW fW=>(h3 W fW).z λ_ _ ⟨r2,k1,k2,h',y',t⟩=>⟨r2,k1,k2,h',y',t.go.z hM⟩⟩
theorem aG1(g:fJ w B wb xb yb bb N n h y o)(hN:N<=80000000){k}(hk:k=5\/k=10\/k=12\/k=13\/k=14)(p q m){ts}(H):ajZ #[ptr wb,kV k p q m ts H] w (Qs w B xb yb h y<|N+8):=by have G:=aQe g;have HK:=aQe hk;have T5:I (∀W,Fr aB w W->lS 56 89 #[ak xb] #[ak yb] xb yb h y W (vI B xb yb h y (N+8) W)):=λW f=>(g.a f).both.tick hN;have T13:I (∀W,Fr aB w W->lS 44 45 #[ak xb] #[ak yb] xb yb h y W (vI B xb yb h y (N+8) W)):=λW f=>(g.a f).both.asc.oK YV;have Ed:I (∀W,Fr aB w W->lS 29 46 #[ak xb] #[ak yb] xb yb h y W (vI B xb yb h y (N+8) W)):=λW f=>((g.a f).both.ase YV).oK YV;have tN:I (∀W,Fr aB w W->lS 52 90 #[ak xb,q,H] #[ak yb,q,H] xb yb h y W (vI B xb yb h y (N+8) W)):=λW f=>((g.a f).both.out q H).oK YV;have T12:I (∀W,Fr aB w W->lS 27 92 #[ak xb,m] #[ak yb,m] xb yb h y W (vI B xb yb h y (N+8) W)):=λW f=>((g.a f).both.aGs m).oK YV;have⟨c0,c1,c2⟩:=g.iK.cells;have qC:=g.lt;unfold ptr at c0 c1⊢;unfold kV;clear g c2 hN hk;have ZW:I (∃w1,w1=bH w (aC #[k,p,q,m,ts,H] 28 (0,0))/\Fr aB w w1/\w1.heap[M (R w)]? =Y (aC #[k,p,q,m,ts,H] 28 (0,0))):=⟨_,J,aQ _,heap_alloc_new _ _⟩;unfold ajZ;simp only[ntmps35,F7,Cc,EF,Nat.reduceAdd,Nat.reduceSub,OM,OL,OV,OO,zy,qV];have⟨Q0,iw⟩:∃Q0,bodyPost aj Tryz.f35 (Qs w B xb yb h y<|N+8)=Q0:=⟨_,J⟩;rw[iw];simp only[b35,Tryz.f35,iT,cutAt,if_true,jX,kG];rw[<-iw];clear iw;rcases HK.o with rfl|rfl|rfl|rfl|rfl;all_goals clear HK;go_wp2_with fail;have⟨w1,e1,f1,bx⟩:=ZW;rw[<-e1];have F1:=aQe f1;have l7:wb<w1:=gZ qC f1.size;have d0:=(f1.cell (p:=wb) qC id).t c0;have d1:=(f1.cell (p:=(wb,1)) qC id).t c1;have D:I (aeW wb xb yb w q m H w1):=⟨d0,d1,aJ bx 2,aJ bx 3,aJ bx 5⟩;(have KP:I (∀{W w2:ae},Fr (λk=>h.dJ xb k\/y.dJ yb k) W w2->W.heap=w1.heap->aeW wb xb yb w q m H w2):=λ{W w2} f e=>have b2:=G.boxed (fC _) (W:=W) (by rw[e];exact bx) f;⟨G.XX (by rw[e];exact l7) (by unfold World.cell?;rw[e];exact d0) f,G.XX (by rw[e];exact l7) (by unfold World.cell?;rw[e];exact d1) f,aJ b2 2,aJ b2 3,aJ b2 5⟩);clear ZW e1 f1 bx;first|((first|apply(T5 _ F1).z|apply(T13 _ F1).z|apply(Ed _ F1).z);rintro e w2 ⟨r,rfl,bJ,hc⟩;obtain⟨ra,rfl⟩:=aeV hc;have HC:=@id (I (∀W,Fr aB w2 W->_)) hc;have e1:=(KP bJ J).2.1;clear hc bJ;go_wp2_with fail;apply(HC _ eH).z;rintro e w3 ⟨r2,rfl,⟨ra2,zU,rfl⟩,h',y',xK⟩;simp only[aRw,OX]at zU;subst zU;have T3:=aQe<|xK.behind F1;clear xK;go_wp2_with fail;go_ret;exact⟨Xy,h',y',T3⟩)|(go_region_held3 (aeW wb xb yb w q m H) (first|with_reducible exact C2|exact D|go_keep) (((first|(go_at_call 52;apply(tN w1.drew F1.drew).z)|(go_at_call 27;apply(T12 w1.drew F1.drew).z));rintro e w2 ⟨r,rfl,bJ,hc⟩;obtain⟨ra,rfl⟩:=aeV hc;have HC:=@id (I (∀W,Fr aB w2 W->_)) hc;have C2:=KP bJ J;have CC:=@id (I _) C2;clear hc bJ));go_wp2_with fail;go_region_held3 (aeW wb xb yb w q m H) (first|with_reducible exact C3|exact CC|go_keep) (((first|go_at_call 90|go_at_call 92);apply(HC w2.drew<|eH.drew).z;rintro e w3 ⟨r2,rfl,⟨ra2,zU,rfl⟩,h',y',xK⟩;simp only[aRw,OX]at zU;subst zU;have T3:=aQe<|xK.behind F1.drew;have C3:=KP xK.fr J;clear xK));all_goals go_wp2_with fail;go_ret;exact⟨Xy,h',y',T3⟩)
end
end
section
section
variable{w w' B wb xb yb bb N n aPV h h' y y' o t t' d d'}
variable{w1}
theorem aY.same(a:aY w B yb y)(e:w1.heap=w.heap):aY w1 B yb y:=by (have H:∀{ty:dB} {wd:Nat} {v:ai} {k:Nat} {xs:List _},bI w B ty wd v k xs->bI w1 B ty wd v k xs:=λ{ty wd v k xs} ho=>by refine⟨ho.1,?_⟩;rcases ho.2 with⟨q1,q2⟩|⟨g,cap,cur,q1,q2,q3,q4⟩;{grind};exact .inr ⟨g,cap,cur,q1,q2,Zv,q4⟩);exact⟨by rw[e];exact a.blk,H a.tH,H a.ik,H a.heard,H a.dO,H a.outs,H a.kL,λg hg=>(let r:=a.refs g hg;⟨by rw[e];exact r.blk,H r.row,r.hy⟩),a.hy,a.hP,a.hQ⟩
theorem fH.same(b:fH w B xb yb N h y)(e:w1.heap=w.heap):fH w1 B xb yb N h y:=
 {b with xa:=(by grind[Twin.aG.same,cases fH]),ya:=b.ya.same e}
theorem jw.same{aPT}(s:jw w B aPT wb xb yb bb n o)(e:w1.heap=w.heap):jw w1 B aPT wb xb yb bb n o:=by
 have row:∀{ty:dB} {H:Nat} {v:ai} {k:Nat} {xs:List _},bI w B ty H v k xs->bI w1 B ty H v k xs:=λ{ty H v k xs} ho=>by
  refine⟨ho.1,?_⟩;rcases ho.2 with⟨q1,q2⟩|⟨g,cap,cur,q1,q2,q3,q4⟩
  ·grind
  ·exact .inr ⟨g,cap,cur,q1,q2,Zv,q4⟩
 have Jm:∀{rH ty:dB} {H:Nat} {mk:Nat->List _} {v:ai} {outs:List _},Shelf w B _ ty H mk v _->Shelf w1 B rH ty H mk v outs:=λq=>⟨row q.row,(by grind[cases Shelf])⟩;exact{s with blk:=by rw[e];exact s.blk,book:=⟨by rw[e];exact s.book.blk,Jm s.book.si,Jm s.book.se,Jm s.book.sr,s.book.hb⟩,Gl:=by rw[e];exact s.Gl}
theorem fJ.same(g:fJ w B wb xb yb bb N n h y o)(e:w1.heap=w.heap):fJ w1 B wb xb yb bb N n h y o:=⟨g.both.same e,g.iK.same e,g.l7,g.mO⟩
theorem fJ.re(g:fJ w B wb xb yb bb N n h y o)(t d):fJ (re w t d) B wb xb yb bb N n h y o:=g.same J
def rC.Tq(b:rC (re w t d) (re w' t' d') B xb yb h y aPV h' y')(H:On w w'):rC w w' B xb yb h y aPV h' y':=
 ⟨b.to.same J,{H with block:=b.fr.block},b.sub⟩
theorem Oe{Bn}(k p q m ts fl):aK Bn (kV k p q m ts fl):=.agg λx H=>by simp at H;rcases H with rfl|rfl|rfl|rfl|rfl|rfl;{exact .int};{exact .int};{exact .int};{exact .int};{exact .string};exact .bool
def aG2{H s k p q m ts fl}(hwb:¬(s wb\/H wb))(hwl:wb<M (R w))(hK:∀t d,ajZ #[ptr wb,kV k p q m ts fl] (re w t d)<|Qs (re w t d) B xb yb h y aPV):xQ (bz H s) aj 35 #[ptr wb,kV k p q m ts fl] w (λB' v w'=>B'=bz H s/\v=A/\∃h' y',rC w w' B xb yb h y aPV h' y'):=by intro c cs;refine ag.Reach.ok λbY=>?_;have h5:=λb hb=>(bY.low b hb).1;have L:=lets h5;have C:Gf (bz H s) _:=λk hk=>O3 Zv;have ha:bZ ((bz H s).cut w) #[ptr wb,kV k p q m ts fl]:=bZ.two (.Ia λz=>z.e hwb Zv)<|Oe k p q m ts fl;apply(amU (aPX:=λt d=>Qs (re w t d) B xb yb h y aPV) L C func35 J (agS [A,A,A,ah,A,A,A,A,A,A,ah,ah] _) aG0 ha hK (λt d e w' hq=>⟨_,hq.1⟩) c cs).z;rintro B' fr' w' ⟨v,rfl,rfl,_,on,t,d,t',j,hq⟩;refine⟨v,J,J,?_,?_⟩;{have:=hq.1;grind};have⟨h',y',hb⟩:=hq.2;exact⟨h',y',hb.Tq on⟩
end
end
section
section
variable{w:ae}{B wb xb yb bb N n:Nat}{h:HS}{y:RS}{o:jY}{fo s:Nat->Prop}
variable{a:Addr}{v:ai}{b:Nat}
def aso(bY:pz (bz fo s) w)(h1:¬(s a.block\/fo a.block))(H:w a=v):aK ((bz fo s).cut w) v:=bY.obj.cell (λz=>z.e h1 λy=>by have:=uD H;omega) H
def aeY(bY:pz (bz fo s) w){H}(h1:¬(s a.block\/fo a.block))(hc:w a=(ak<|Y ⟨b,H,U⟩)):¬(s b\/fo b):=λz=>(aso bY h1 hc).ptr<|.inl z
def JQ(H:pz (bz fo s) w)(h1:¬(s a.block\/fo a.block))(hc:w a=v)(hb:dw v=b):¬(s b\/fo b):=λz=>Twin.aa5 (aso H h1 hc) hb<|.inl z
def aY.free(a:aY w B yb y)(H:pz (bz fo s) w)(hy:¬(s yb\/fo yb)):∀b,y.dJ yb b->¬(s b\/fo b):=by have Dp:∀b,y.gv.ownBlock=Y b->¬(s b\/fo b):=λb e=>JQ H hy (a.c 12) e;rintro b (rfl|e|e|e|e|e|e|⟨g,hg,e⟩);(any_goals grind);{exact JQ H hy (a.c 8) e};{exact JQ H hy (a.c 10) e};{exact JQ H hy (a.c 11) e};{exact JQ H hy (a.c 13) e};{exact JQ H hy (a.c 14) e};have⟨k,hk⟩:=Yv.1 hg;have⟨gg,cap,e1,_,_,c0⟩:=a.Pn hk;have MN:=Dp gg (by rw[e1];rfl);have hgy:=aeY H MN c0;rcases e with e|e;{grind};exact JQ H hgy (aJ (a.refs g hg).blk 0) e
def fJ.free(g:fJ w B wb xb yb bb N n h y o)(H:pz (bz fo s) w)(hw:¬(s wb\/fo wb)):(∀b,h.dJ xb b->¬(s b\/fo b))/\(∀b,y.dJ yb b->¬(s b\/fo b))/\¬(s xb\/fo xb)/\¬(s yb\/fo yb)/\¬(s bb\/fo bb):=have⟨c0,c1,c2⟩:=g.iK.cells;have hx:=aeY H hw c0;have hy:=aeY H hw c1;⟨Twin.aG.free g.both.xa H hx,g.both.ya.free H hy,hx,hy,aeY H hw c2⟩
end
end
section
section
variable{w w':ae}{B wb xb yb bb N n:Nat}{h h':HS}{y y':RS}{o:jY}{fo s aP0:Nat->Prop}
def Shelf.free(bY:pz (bz fo s) w){rH ty wd mk v H}(h:Shelf w B rH ty wd mk v H)(hv:∀k,dw v=Y k->¬(s k\/fo k)):∀q∈H,∀k,q.1.ownBlock=Y k->¬(s k\/fo k):=by intro q hq k hk;have⟨i,hi⟩:=Yv.1 hq;have hl:=(kY.1 hi).1;have⟨r1,r2⟩:=h.row;have row:=h.row;rcases r2 with⟨_,h0⟩|⟨g,cap,cur,rfl,_⟩;{omega};have hc:=row.cells J _ _ (ag9 _ i q hi).1;rw[Addr.add_lit]at hc;exact JQ bY (hv g J) hc hk
theorem fJ.asr(g:fJ w B wb xb yb bb N n h y o)(H:pz (bz fo s) w)(hw:¬(s wb\/fo wb)):∀k,o.all bb k->¬(s k\/fo k):=by have hb:=(g.free H hw).2.2.2.2;have bk:=g.iK.book;have f0:=λk=>JQ (b:=k) H hb<|aJ bk.blk 0;have f1:=λk=>JQ (b:=k) H hb<|aJ bk.blk 1;have f2:=λk=>JQ (b:=k) H hb<|aJ bk.blk 2;rintro k ((rfl|hk|hk|hk)|⟨q,hq|hq|hq,hk⟩);(any_goals grind);{exact bk.si.free H f0 q hq k hk};{exact bk.se.free H f1 q hq k hk};exact bk.sr.free H f2 q hq k hk
def gF(wb xb yb bb:Nat)(h:HS)(y:RS)(o:jY)(k:Nat):Prop:=Ag wb xb yb h y k\/o.all bb k
theorem aeZ{b}(H:∀k,h'.dJ xb k\/y'.dJ yb k->(h.dJ xb k\/y.dJ yb k)\/b<=k):∀k,gF wb xb yb bb h' y' o k->gF wb xb yb bb h y o k\/b<=k:=λk hk=>hk.e (λa=>a.e (λa=>.inl<|.inl<|.inl a) λa=>(H k a).imp (λa=>.inl<|.inr a) id) λa=>.inl<|.inr a
structure Aw(fo s aP0:Nat->Prop)(w w':ae)(B wb xb yb bb N n:Nat)(B':dE):Prop where
 ex:∃s1 h' y' o',B'=bz fo s1/\(∀k,s1 k->s k\/M (R w)<=k)/\fJ w' B wb xb yb bb N n h' y' o'/\∀k,gF wb xb yb bb h' y' o' k->aP0 k
 eU:Fr aP0 w w'
def fJ.ass{S:Nat->Prop}(g:fJ w B wb xb yb bb N n h y o)(hS:∀k,S k->¬Ag wb xb yb h y k/\¬o.all bb k){aPV}(t:fH w' B xb yb aPV h' y')(fr:Fr (λk=>(h.dJ xb k\/y.dJ yb k)\/S k) w w')(sub:∀k,h'.dJ xb k\/y'.dJ yb k->(h.dJ xb k\/y.dJ yb k)\/w<=k):fJ w' B wb xb yb bb aPV n h' y' o:=by
 have hl:=g.lt;have off:∀k,((h.dJ xb k\/y.dJ yb k)\/S k)->k≠wb/\¬o.all bb k:=λk hk=>hk.e (λH=>⟨(by grind[cases fJ]),λha=>g.iK.ap k (.inr H) ha⟩) λz=>⟨λe=>(hS k z).1<|.inl e,(hS k z).2⟩;have lt:∀k,h'.dJ xb k\/y'.dJ yb k->k<w'/\B<=k:=λk hk=>hk.e (λa=>t.xa.lZ a) λa=>t.ya.lZ a;refine⟨t,{g.iK with blk:=(by grind[cases Fr,jw.blk,cases fJ]),hw:=.inl J,book:=g.iK.book.stay fr (λk e hb=>(off k e).2<|.inl hb) (λq hq k hk e=>(off k e).2<|.inr Zv),ap:=λk H ha=>?_,Gl:=λk H=>H.e (by grind[cases Fr]) Zv,fB:=λk H=>H.e (λe=>e▸g.iK.fB wb (.inl J)) Zv},Zv,Zv⟩;rcases H with rfl|H
 ·exact g.iK.ap k (.inl J) ha
 ·rcases sub k H with a|a
  ·grind
  ·have:=(g.iK.book.Pj ha).1;omega
structure abg(s:Nat->Prop)(w w':ae)(B xb yb N:Nat)(h:HS)(y:RS)(Wg:Nat)(h3:HS):Prop where
 r:Twin.ajF s w w' B xb N h Wg h3
 ya:aY w' B yb y
 fr:Fr (λk=>h.dJ xb k\/s k) w w'
def eu.gl(k:eu N h y):∀g∈y.G,g.L<=N:=λg hg=>have⟨tl,c⟩:=k.core;have⟨q,H⟩:=Yv.1 hg;have hl:=(kY.1 H).1;have hp:=gG (by rwa[c.dO.len]);(c.dO.rel q _ g hp H).2
def eu.es(k:eu N h y):∀p∈h.pl,p.s.es<=N:=λp hp=>have⟨tl,c⟩:=k.core;have⟨q,H⟩:=Yv.1 hp;have hl:=(kY.1 H).1;have hg:=gG (by rwa[<-c.dO.len]);have:=c.dO.rel q p _ H hg;dX (XW this.1) this.2
def fJ.half(g:fJ w B wb xb yb bb N n h y o)(hN:N<=70000000)(hw:¬(s wb\/fo wb)):
 xQ (bz fo s) aj 20 #[ptr xb] w (λB' v w'=>∃H h3,B'=bz fo (λb=>s b\/b=H)/\v=y.N/\abg s w w' B xb yb N h y H h3):=by
 intro c cs;refine ag.Reach.ok λbY=>?_;have⟨fx,fy,hx,_,_⟩:=g.free bY hw;have k:=g.both.gK;have h6:=g.both.xa.h6;have⟨tl,co⟩:=k.core;have zX:=XV co;have He:O h.fl<=100:=by rw[co.fl];exact co.E6
 have ms:=co.ms;rw[<-co.fl]at ms;have key:=Twin.aFL g.both.xa g.both.ax hx He YV (λp hp=>by have:=k.es p hp;omega) (λm hm=>have mo:=(ms m hm).1;have:=mo.p;have:=co.P1;yY YV YV) (λm hm _=>have h1:=(ms m hm).1.q;have h2:=g.both.xa.hQ.1;⟨m.q.toNat,YV,YV⟩) (by grind[aGe]) (by grind[aGf]) YV
 apply(key c cs).z;rintro B' fr' w' ⟨v,rfl,H,h3,rfl,rfl,pr⟩;have f:Fr (λk=>h.dJ xb k\/s k) w w':={pr with block:=(by grind[cases Twin.ajF])}
 exact⟨_,J,H,h3,J,by rw[co.fl],pr,g.both.ya.stay f (by grind[fH.apart,cases fJ]),f⟩
theorem LH.apart{y3}(r:LH w w' B yb y y3):lN y3.G:=by
 have⟨sh,ga,al,tk,mv⟩:=r;have e1:∀{l:List Ms} {a b:RS},vH a l b->b.G=a.G:=λ{l}=>by induction l with|nil=>intro a b h;cases h;rfl|cons m l ih=>intro a b h;cases h with|cons h1 h2=>exact(ih h2).t h1.rest.2.2.1
 have lk:∀{y1 H:RS} {j:Nat} {o:Bool},CW y1 j o H->H.G=y1.G:=λl=>by cases l with|rem=>rfl|out _ _ hd=>exact hd.rest.2
 have tt:∀{y:RS} {j:Nat} {H:RS},um y j H->H.G=y.G:=λt=>by induction t with|zero=>rfl|succ _ hl ih=>grind
 have e2:=e1 al;cases tk with|down=>rwa[e2]|up _ t=>cases t with|all t=>rwa[tt t,e2]|lC _ t l=>rwa[lk l,tt t,e2]
def abg.done(g:fJ w B wb xb yb bb N n h y o)(hN:N<=70000000){Wg h3}(d:abg s w w' B xb yb N h y Wg h3)(hs:∀k,s k->¬Ag wb xb yb h y k/\¬o.all bb k){w2 w3}(f:Fr aB w' w2){y3}(r:LH w2 w3 B yb y y3):fJ w3 B wb xb yb bb (N+308) n h3 y3 o/\Fr (λk=>(h.dJ xb k\/y.dJ yb k)\/s k) w w3/\∀k,h3.dJ xb k\/y3.dJ yb k->(h.dJ xb k\/y.dJ yb k)\/w<=k:=by
 have ga:=r.apart;have⟨sh,_,al,tk,mv⟩:=r;have⟨iV,h2,ps,_,kr,ptk⟩:=d.r.ex;have aO:∀k,y.dJ yb k->k<w:=λk H=>(g.both.ya.lZ H).1;have Hu:=λk h1 h2=>(d.r.sub k h1).e (λa=>g.both.apart a h2) Zv;have nI:=λk h1 h2=>(mv.sub k h2).e (Hu k h1) λa=>by have:=(d.r.at_.lZ h1).1;have:=f.size;omega
 have x2:=(d.r.at_.stay f Zv).stay mv.fr Zv;have fl:O h.fl<=100:=by have⟨tl,c⟩:=g.both.gK.core;rw[c.fl];exact c.E6
 have kn:=aGd g.both.gK YV g.both.xa.h6 ps kr ptk sh al tk;have fr:Fr (λk=>(h.dJ xb k\/y.dJ yb k)\/s k) w w3:=((d.fr.z Zv).t f Zv).t mv.fr Zv;have sub:∀k,h3.dJ xb k\/y3.dJ yb k->(h.dJ xb k\/y.dJ yb k)\/w<=k:=λk H=>H.e (λH=>(d.r.sub k H).imp .inl id) λH=>(mv.sub k H).imp .inr (by grind[cases abg,cases Fr]);exact⟨g.ass hs ⟨x2.z YV,mv.at_,d.r.apart,ga,λk h1 h2=>nI k (.inr Zv)<|.inr Zv,kn⟩ fr sub,fr,sub⟩
end
end
def ast(k p q m:Int)(ts:ByteArray)(fl:Bool):Value:=jf #[V Z k,V Z p,V Z q,V Z m,dN ts,aA fl]
section
open Go Go.Conc Twin gy
def aG4{H s}{b:bK}{a ops i rest k cs cs2 w Q o v}
 (ho:ops[i]? =Y o)(hw:Region.wanted o (yielded ops a.tmps)=A)(hk:b.kind≠.early)(bu:vS aj (bz H s).let_ o.op=A)(hf:∃fn,prog.funcs[b.fn]? =Y fn)(TP:bZ (bz H s) a.tmps)
 (hr:∀d,(eG a.eval o).run aj (w.at d)=.ok (.value v) (w.at d))
 (hn:∀d,ag.Reach (bz H s) aj (b.at (a.put o.dst v)<|dm ops rest::k) cs (w.at d) Q cs2):ag.Reach (bz H s) aj (b.at a<|dm ops (i::rest)::k) cs w Q cs2:=by
 refine ag.Reach.ok λbY=>ag.Reach.step λd=>?_;have h5:∀q,s q\/H q->1<=q:=λq hq=>(bY.low q hq).1;have L:=lets h5;have⟨fn,qL⟩:=hf;let fr:Frame:={(default:bK)with fn:=b.fn,kind:=.normal,tmps:=a.tmps}
 have hF:iG (bz H s) aj fr:=⟨⟨fn,qL⟩,TP,(λit lH=>absurd lH<|by simp[fr,default,instInhabitedFrame.default]),J,.inl J,J,J⟩;have hE:Env (bz H s) aj a.eval:=hF.env L.toFit;have hc:=agx L.toFit L.agz hE (o:=o) bu;have pO:=arz hc (w:=w.at d) ⟨bY.okW.obj,bY.okW.low⟩<|hr d;refine⟨_,_,w.at d,_,stepG_value ho hw hk<|hr d,⟨bY.obj,bY.low,bY.uB⟩,fC _,λe he=>?_,hn d⟩;exact Rq<|pO e<|aQW he
end
section
open Go Go.Conc
open Twin gy
def aG5{a:Act}{i j:Nat}{v}(h:i≠j):(a.put (Y i) v).tmps.getD j F=a.tmps.getD j undef:=by simp[Act.put,Uy,BZ h]
def put_eq{a:Act}{i v}(h:i<a.tmps.size):(a.put (Y i) v).tmps.getD i F=v:=by simp[Act.put,Uy,h]
def aG6{a:Act}{i:Nat}{v}:(a.put (Y i) v).tmps.size=a.tmps.size:=by simp[Act.put]
structure qi(a:Act)(i:Nat)(v:ai)(a':Act):Prop where
 sz:a'.tmps.size=a.tmps.size
 at_:i<a.tmps.size->a'.tmps.getD i F=v
 ne:∀j,i≠j->a'.tmps.getD j F=a.tmps.getD j F
 df:a'.defers=a.defers
 ok:∀B:dE,bZ B a.tmps->aK B v->bZ B a'.tmps
theorem qi.of(a i v):qi a i v (a.put (Y i) v):=⟨aG6,put_eq,λ_ h=>aG5 h,J,λ_ h hv=>h.set hv i⟩
section
variable{fo s}{b:bK}{a:Act}{ops i rest k cs cs2 w Q}{o:fA}{v}{d:Nat}
def aG7(ho:ops[i]? =o)(hg:o.guard=U)(hd:o.dst=d)(hk:b.kind≠.early)(bu:vS aj (bz fo s).let_ o.op=A)(hf:∃fn,prog.funcs[b.fn]? =Y fn)(TP:bZ (bz fo s) a.tmps) (hr:∀d,(eG a.eval o).run aj (w.at d)=.ok (.value v) (w.at d)) (hn:∀H dd,qi a d v H->ag.Reach (bz fo s) aj (b.at H<|dm ops rest::k) cs (w.at dd) Q cs2):ag.Reach (bz fo s) aj (b.at a<|dm ops (i::rest)::k) cs w Q cs2:=aG4 ho (by simp[Region.wanted,hg]) hk bu hf TP hr λdd=>by rw[hd];exact hn _ dd<|.of a d v
variable{f n s0 s1}
def aG8{fn c args qI vs post}(ho:ops[i]? =o)(hg:o.guard=U)(hd:o.dst=d)(hk:b.kind≠.early)(bu:o.op=.call {callee:=.value<|.func f,args,argTypes:=qI})(hf:prog.funcs[f]? =Y fn)(OD:(fn.name== "runtime.NumGoroutine")=ah)(hb:fn.body=Y c)(hv:args.map a.eval=vs)
 (QY:∀d,xQ (bz fo s) aj f vs (w.at d) post)(hn:∀B' v w' H,qi a d v H->post B' v w'->ag.Reach B' aj (b.at H<|dm ops rest::k) cs w' Q cs2):ag.Reach (bz fo s) aj (b.at a<|dm ops (i::rest)::k) cs w Q cs2:=
 ajz ho (by simp[Region.wanted,hg]) hk bu hf OD hb hv QY λB' v w' hp=>by rw[hd];exact hn B' v w' _ (.of a d v) hp
theorem asu{W}(h:a.tmps.getD n F=v)(H:o.op=.move (.tmp n)\/o.op=.assign (.tmp n)):(eG a.eval o).run aj W=.ok (.value v) W:=by subst h;rcases H with H|H<;>(unfold eG;rw[H];rfl)
def step_ret{l w1}:bQ aj A (G ((base f).at a<|.code .ret::l) cs) w1=.go (G {(base f).at a (.code .ret::l)with mode:=.returning} cs) w1 #[]:=by
 simp[bQ,stepG.exec,Frame.at,G,base]
def Og{fo m}(g:∀k,s1 k->s0 k\/n<=k)(hm:n<=m)(hv:aK ((bz fo s0).cut n) v):aK ((bz fo s1).cut m) v:=aK.z (B:=(bz fo s1).cut m) (B':=(bz fo s0).cut n) (λb (z:(s1 b\/fo b)\/m<=b)=>show(s0 b\/fo b)\/n<=b from Zv) J hv
def aG9{fo}(g:∀k,s1 k->s0 k\/n<=k)(hv:aK ((bz fo s0).cut n) v):aK (bz fo s1) v:=aK.z (B:=bz fo s1) (B':=(bz fo s0).cut n) (λb (z:s1 b\/fo b)=>show(s0 b\/fo b)\/n<=b from Zv) J hv
end
end
section
section
variable{w pb fo s0}
def Fg(H:¬(s0 pb\/fo pb))(hl:pb<M (R w)):aK ((bz fo s0).cut w) (ak pb):=.Ia λz=>z.e H λy=>by have:w<=pb:=y;omega
def JR(H:∀b,s0 b\/fo b->1<=b):Gf (bz fo s0) prog:=λk hk=>O3 λb hb=>hb.e (H b) λz=>YV
end
end
section
set_option linter.all false
section
variable{w w' B wb xb yb bb N n h h' y y' o}
def aHI(g:fJ w B wb xb yb bb N n h y o)(hN:N<=80000000){k}(hk:k=6\/k=7\/k=8)(p q m){ts}(fl):aH aj 34 #[ptr wb,kV k p q m ts fl] w (Qs w B xb yb h y<|N+1):=by have G:=aQe g;have HK:=aQe hk;have HF:I (∀w1,Fr aB w w1->aH aj 37 #[ptr yb] w1 λr w'=>r=aU (V Z (O y.N:Int))/\Fr aB w1 w'):=λw1 f=>Zn (g.a f).both.ya;(have Bi:I (O y.N<=100):=have⟨tl,c⟩:=g.both.gK.core;c.E6);have H6:I (∀W i,Fr aB w W->lS 81 82 #[ak xb,V Z i] #[ak yb,V Z i] xb yb h y W (vI B xb yb h y (N+1) W)):=λW i f=>(g.a f).both.asn hN i;have H7:I (∀W i,Fr aB w W->lS 83 84 #[ak xb,V Z i] #[ak yb,V Z i] xb yb h y W (vI B xb yb h y (N+1) W)):=λW i f=>(g.a f).both.aGV i;have H8:I (∀W i,Fr aB w W->lS 85 86 #[ak xb,V Z i] #[ak yb,V Z i] xb yb h y W (vI B xb yb h y (N+1) W)):=λW i f=>(g.a f).both.aGW i;have⟨c0,c1,c2⟩:=g.iK.cells;have qC:=g.lt;unfold ptr at c0 c1 HF⊢;unfold kV;clear g c2 hN hk;go_enter func34,ntmps34;go_wp2_with fail;go_region_held3 (λw'=>au w' (wb,1)=Y (ak yb)/\au w' (M (R w),3)=Y (V Z m)) (first|go_keep|exact⟨Uc,Z7⟩) (first|(go_at_call 37;apply(HF _<|(aQ _).drew).z;rintro e w1 ⟨rfl,aI⟩;have H:=aQe<|((aQ _).drew).t aI dA;have Uc:au w1 (wb,1)=Y (ak yb):=(H.cell (p:=(wb,1)) qC id).t c1;(have Z7:au w1 (M (R w),3)=Y (V Z m):=(aI.cell (p:=(M (R w),3)) Xy id).t Xy);(have c1c:au w1 (M (R w))=Y (V Z k):=(aI.cell (p:=(M (R w))) Xy id).t Xy);have c1d:au w1 wb=Y (ak xb):=(H.cell (p:=wb) qC id).t c0;have l7:wb<M (R w1):=gZ qC H.size;clear aI)|(go_at_call 80;apply(ait _ _ _ Bi).z;rintro e w2 ⟨rfl,rfl⟩));rcases HK.o with rfl|rfl|rfl;all_goals clear HK;go_wp2_with fail;(first|apply(H6 _ _ H).z|apply(H7 _ _ H).z|apply(H8 _ _ H).z);rintro e w2 ⟨r,rfl,bJ,hc⟩;obtain⟨ra,rfl⟩:=aeV hc;have HC:=@id (I (∀W,Fr aB w2 W->_)) hc;have e1:=(G.a H).XX (W:=w1) (j:=1) l7 Uc bJ;clear hc bJ;go_wp2_with fail;apply(HC _ eH).z;rintro e w3 ⟨r2,rfl,⟨ra2,zU,rfl⟩,h',y',xK⟩;simp only[aRw,OX]at zU;subst zU;have T3:=aQe<|xK.behind H;clear xK;go_wp2_with fail;go_ret;exact⟨Xy,h',y',T3⟩
end
end
noncomputable def LP:Code:=Tryz.f19.body.getD .skip
section
open Go.RowKit Go.Maps Go.Conc
open Twin gy
def opsOf:Code->Array fA| .region _ o _=>o| .block _ c=>opsOf c|_=>#[]
section
variable{a:Act}{o W}
theorem asR{v}(bu:o.op=.assign (.const v)):(eG a.eval o).run aj W=.ok (.value v) W:=by unfold eG;rw[bu];rfl
end
end
