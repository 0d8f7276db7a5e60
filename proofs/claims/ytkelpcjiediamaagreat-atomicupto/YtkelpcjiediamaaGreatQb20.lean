import Derived.Test.YtkelpcjiediamaaGreatQb19
import Derived.Laws.ResultCell
set_option maxRecDepth 100000
set_option maxHeartbeats 0
set_option linter.all false
namespace Go.Proofs.YtkelpcjiediamaaGreat
def aCk:=@Go.bodyPost_ret
def aDn:=@Go.World.cell?_alloc_past
open Go renaming Calls→aK,TypeId→bW,Value→aj,World→ah,maxLen→dH,undef→ag
open Go.RowKit renaming intOf→dX
open Option renaming none→af,some→ae
open Go.Proofs.Tryz
open Go.RowKit Go.Maps
section
section
variable{w:ah}{B xb n:Nat}{h:HS}
def ay.cP(hh:ay w B xb n h):w.cell? ⟨xb,0,af⟩=ae (.int .i64 h.P):=by rw[aG hh.blk];rfl
def ay.cJ(hh:ay w B xb n h):w.cell? ⟨xb,4,af⟩=ae h.jv:=by rw[aG hh.blk];rfl
def ay.cU(hh:ay w B xb n h):w.cell? ⟨xb,5,af⟩=ae (.bool h.up):=by rw[aG hh.blk];rfl
def HS.c4{h:HS}(h6:h.ps.length=6):h.cells.toArray[66]? =ae (.bool h.br)/\h.cells.toArray[67]? =ae (.int .i64 h.kp)/\h.cells.toArray[68]? =ae h.pv/\h.cells.toArray[69]? =ae h.fv:=by
 obtain⟨P,Q,T,K,jv,jb,up,ps,br,kp,pv,pl,fv,fl⟩:=h;obtain⟨p0,p1,p2,p3,p4,p5,rfl⟩:=Ze h6;exact⟨rfl,rfl,rfl,rfl⟩
def ay.cB(hh:ay w B xb n h):w.cell? ⟨xb,66,af⟩=ae (.bool h.br):=by rw[aG hh.blk];exact(HS.c4 hh.h6).1
def ay.cK(hh:ay w B xb n h):w.cell? ⟨xb,67,af⟩=ae (.int .i64 h.kp):=by rw[aG hh.blk];exact(HS.c4 hh.h6).2.1
def ay.cV(hh:ay w B xb n h):w.cell? ⟨xb,68,af⟩=ae h.pv:=by rw[aG hh.blk];exact(HS.c4 hh.h6).2.2.1
def ay.cF(hh:ay w B xb n h):w.cell? ⟨xb,69,af⟩=ae h.fv:=by rw[aG hh.blk];exact(HS.c4 hh.h6).2.2.2
def Zi{m:Int}(h:¬0<=m):decide (0<=m)=false:=qC h
def zT(hh:ay w B xb n h)(m:Int):
 aK prog 64 #[.pointer<|ae ⟨xb,0,af⟩,.int .i64 m] w fun e w'=>e=.returned (.bool<|decide<|0<=m/\m<h.P)/\w=w':=by
 have c0:=hh.cP;clear hh;by_cases h1:0<=m
 ·by_cases h2:m<h.P
  ·go_enter func64,ntmps64
   go_wp2
   go_ret;exact⟨by simp[h1,h2],rfl⟩
  ·go_enter func64,ntmps64
   go_wp2
   go_ret;exact⟨by simp[h2],rfl⟩
 ·go_enter func64,ntmps64
  go_wp2
  go_ret;exact⟨by rw[Zi<|by omega]<;>rfl,rfl⟩
def JW(hh:ay w B xb n h)(m:Int):
 aK prog 50 #[.pointer<|ae ⟨xb,0,af⟩,.int .i64 m] w fun e w'=>e=.returned (.bool<|decide<|0<=m/\m<h.pl.length)/\w=w':=by
 have c0:=hh.cV;obtain⟨pa,pc,hp,_⟩:=oL hh.jD;rw[hp]at c0;clear hh;by_cases h1:0<=m
 ·by_cases h2:m<h.pl.length
  ·go_enter func50,ntmps50
   go_wp2
   go_ret;exact⟨by simp[h1,h2],rfl⟩
  ·go_enter func50,ntmps50
   go_wp2
   go_ret;exact⟨by simp[h2],rfl⟩
 ·go_enter func50,ntmps50
  go_wp2
  go_ret;exact⟨by rw[Zi<|by omega]<;>rfl,rfl⟩
def PS.aT(p:PS):List Int:=[p.a,p.b,p.c,p.d]
def bF(ts:List Int)(l:Int)(k:Nat):List Int:=((List.range k).filter fun i=>decide<|l<=ts.getD i 0).map Int.ofNat
def al8(ts:List Int)(l:Int)(k:Nat):bF ts l (k+1)=bF ts l k++(if l<=ts.getD k 0 then[(k:Int)]else[]):=by
 unfold bF;rw[YL,yJ,MS];congr 1;by_cases hl:l<=ts.getD k 0
 ·rw[if_pos hl,adF<|by simpa using hl];rfl
 ·rw[if_neg hl,Ur<|by simpa using hl];rfl
def Zj(ts:List Int)(l:Int)(k:Nat):(bF ts l k).length<=k:=by
 unfold bF;rw[Ib];exact dP (Fj _ _)<|by simp
def al9(w:ah)(a b c d:Int):(Instr.index 100 (.agg #[.int .i64 a,.int .i64 b,.int .i64 c,.int .i64 d])<|.int .i64 0).run prog w=.ok (.int .i64 a) w:=by kernel_rfl
def ama(w:ah)(a b c d:Int):(Instr.index 100 (.agg #[.int .i64 a,.int .i64 b,.int .i64 c,.int .i64 d])<|.int .i64 1).run prog w=.ok (.int .i64 b) w:=by kernel_rfl
def amb(w:ah)(a b c d:Int):(Instr.index 100 (.agg #[.int .i64 a,.int .i64 b,.int .i64 c,.int .i64 d])<|.int .i64 2).run prog w=.ok (.int .i64 c) w:=by kernel_rfl
def amc(w:ah)(a b c d:Int):(Instr.index 100 (.agg #[.int .i64 a,.int .i64 b,.int .i64 c,.int .i64 d])<|.int .i64 3).run prog w=.ok (.int .i64 d) w:=by kernel_rfl
def amd(w:ah)(p:PS){k:Nat}(hk:k<4):(Instr.index 100 (.agg #[.int .i64 p.a,.int .i64 p.b,.int .i64 p.c,.int .i64 p.d])<|.int .i64 k).run prog w=.ok (.int .i64<|p.aT.getD k 0) w:=by
 match k,hk with
 |0,_=>exact al9 w _ _ _ _
 |1,_=>exact ama w _ _ _ _
 |2,_=>exact amb w _ _ _ _
 |3,_=>exact amc w _ _ _ _
def JX{b o:Nat}{p:PS}(hr:∀j v,p.cs[j]? =ae v->w.cell? ⟨b,o+j,af⟩=ae v)(l:Int):
 aK prog 69 #[.pointer<|ae ⟨b,o,af⟩,.int .i64 l] w fun e w'=>∃v,e=.returned v/\zQ w w' v (bF p.aT l 4)/\Fr aH w w':=by
 obtain⟨i0,dF,gG,fO,iH⟩:=aCf UK;have k3:w.cell? ⟨b,o+3,af⟩=ae (.int .i64 p.a):=hr 3 _ rfl;have k4:w.cell? ⟨b,o+3+1,af⟩=ae (.int .i64 p.b):=hr 4 _ rfl;have k5:w.cell? ⟨b,o+3+2,af⟩=ae (.int .i64 p.c):=hr 5 _ rfl;have k6:w.cell? ⟨b,o+3+3,af⟩=ae (.int .i64 p.d):=hr 6 _ rfl;clear hr;go_enter func69,ntmps69
 go_wp2_with fail
 go_loopw [5,12] (fun v i w'=>∃k:Nat,k<=4/\i=.int .i64 k/\zQ w w' v (bF p.aT l k)/\Fr aH w w') (fun _ i _=>(4-dX i).toNat)
 case atStart=>exact⟨0,by omega,rfl,aCb _ _ _ _,Fr.refl _ _⟩
 case round=>
  obtain⟨k,hk,rfl,hv,dA⟩:=hrel
  have HF:Hid (Fr aH w wr):=dA
  obtain⟨va,vc,rfl,BL⟩:=lC hv
  have HV:Hid (wr.ownsRow w.heap.size 3 1 (.slice va (bF p.aT l k).length vc) (bF p.aT l k).length<|fK<|bF p.aT l k):=hv
  have HL:Hid ((bF p.aT l k).length<=k):=Zj _ _ _
  have HT:Hid (bF p.aT l (k+1)=bF p.aT l k++(if l<=p.aT.getD k 0 then[(k:Int)]else[])):=al8 _ _ _
  have dS:=dA.size
  clear dA hv BL
  by_cases aB:k<4
  ·have axd:=amd wr p aB
   generalize p.aT.getD k 0=x at axd HT
   have yh:(k:Int)<4:=by omega
   by_cases hle:l<=x
   ·have LH:Hid (bF p.aT l (k+1)=bF p.aT l k++[(k:Int)]):=by have:=HT.out;rw[if_pos hle]at this;exact this
    clear HT
    go_wp2_with (at_builtin;refine aCv _ rfl _ _ 43 rfl w.heap.size 3 i0 _ 1 8 underlying43 dF gG fO iH rfl (by decide) _ _ (fK<|bF p.aT l k) rfl (by exact HV.out.alloc _) ⟨wr.heap.size,0,af⟩ 1 1 [.int .i64 k] rfl rfl (aB9 (cs:=#[.int .i64 k]) (t:=3) (fr:=(0,0))<|aB0 _ _) (by simp[Value.oneCell']) (by decide) (by have:=HL.out;simp only[dH];omega) (by have:=HL.out;omega) (by simp<;>omega) (wr.heap.size+1) (by simp) ?_;intro gg Nh w3 o9 lV uF uT)
    go_roundw
    case rel=>
     have BK:Fr (fun x=>Value.ownBlock (.slice va (bF p.aT l k).length vc)=ae x) wr w3:=((Fr.refl _ _).alloc _).grown lV fun x ex=>.inl ex
     refine⟨k+1,by omega,by go_num,?_,HF.out.trans BK fun x hx=>.inr (HV.out.lt x hx).1⟩
     show w3.ownsRow _ _ _ _ _ _
     rw[LH.out]
     simpa[fK]using o9
    case measure=>simp[dX]<;>omega
   ·have LH:Hid (bF p.aT l (k+1)=bF p.aT l k):=by have:=HT.out;rw[if_neg hle,qh]at this;exact this
    clear HT
    go_wp2_with fail
    go_roundw
    case rel=>exact⟨k+1,by omega,by go_num,by rw[LH.out];exact HV.out,HF.out⟩
    case measure=>simp[dX]<;>omega
  ·have wY:k=4:=by omega
   subst wY
   go_wp2
   go_ret
   exact⟨_,rfl,HV.out,HF.out⟩
end
end
section
def Ij{fn:Func}{p u:Tmp}{ty:bW}(h:fn.results=#[.cell p ty,.tmp u])(tmps:Array aj)(w:ah)(g:Nat)(t:bW)(cs:Array aj)(fr:Nat×Nat)(d:TypeDesc)
 (hp:tmps.getD p ag=.pointer (ae ⟨g,0,af⟩))(hg:w.heap[g]? =ae (.cells cs t fr))
 (hu:prog.underlying ty=ae d)(hd:d.isRow=true)(hi:(prog.info? ty).map (·.size)=ae cs.size):
 (results fn tmps).run prog w=.ok (.tuple #[.agg cs,tmps.getD u ag]) w:=by
 have:=run_loadVar_mid w g 0 ty cs.toList d (fun j v hv=>by rw[aG hg];simpa using hv) hu hd (by simpa using hi);rw[results_cell_tmp h,hp];simp[asAddr,Result.andThen,this]
def aeo(w:ah){b b' o o':Nat}(u:aj)(h:b≠b'):(w.setCell ⟨b',o',af⟩ u).cell? ⟨b,o,af⟩=w.cell? ⟨b,o,af⟩:=
 aB4 (aB5 w ⟨b',o',af⟩ u b h)
def Ik:(prog.info? 58).map (·.size)=ae 5:=by kernel_rfl
section
variable{w:ah}{B xb n:Nat}{h:HS}
def aep:∀(l:List PS) (k:Nat) (e:PS) (j:Nat),l[k]? =ae e->j<10->(l.flatMap PS.cs)[k*10+j]? =e.cs[j]?
 |[],k,e,j,h,_=>by simp at h
 |x::r,0,e,j,h,hj=>by
  simp only[xA,fJ]at h;subst h;simp only[nZ];rw[tJ (by simp[PS.cs]<;>omega)];simp
 |x::r,k+1,e,j,h,hj=>by
  simp only[zJ]at h;have:=aep r k e j h hj;simp only[nZ]at this⊢
  rw[wG (by simp[PS.cs]<;>omega),<-this];congr 1;simp[PS.cs]<;>omega
variable{k:Nat}{p:PS}
def HS.ame{h:HS}(hp:h.ps[k]? =ae p)(j:Nat)(v:aj)(hv:p.cs[j]? =ae v):h.cells.toArray[6+k*10+j]? =ae v:=by
 have hj:j<10:=(dD.1 hv).1;have hk:=(dD.1 hp).1;rw[ald,<-hv,<-aep h.ps k p j hp hj];unfold HS.cells;rw[wG (by simp<;>omega),tJ (by rw[UM];simp only[ny,vC];omega)];congr 1;simp<;>omega
def ay.iJ(hh:ay w B xb n h)(hp:h.ps[k]? =ae p)(j:Nat)(v:aj)(hv:p.cs[j]? =ae v):w.cell? ⟨xb,6+k*10+j,af⟩=ae v:=by
 rw[aG hh.blk];exact HS.ame hp j v hv
def aeq{w2:ah}{b o:Nat}{l:List aj}(f:Fr aH w w2)(hb:b<w.heap.size)(hr:∀j v,l[j]? =ae v->w.cell? ⟨b,o+j,af⟩=ae v):∀j v,l[j]? =ae v->w2.cell? ⟨b,o+j,af⟩=ae v:=
 fun j v hv=>(f.cell (p:=⟨b,o+j,af⟩) hb id).trans<|hr j v hv
def amf(hh:ay w B xb n h){m:Int}(hm:0<=m/\m<h.P)(hu:h.up=false):
 aK prog 30 #[.pointer<|ae ⟨xb,0,af⟩,.int .i64 m] w fun r w'=>r=.returned (.tuple #[.agg #[.int .i64 0,.int .i64 0,.int .i64 0,.slice af 0 0,.slice af 0 0],.int .i64 5])/\Fr aH w w':=by
 have HH:Hid (ay w B xb n h):=hh;have HM:Hid (decide (0<=m/\m<h.P)=true):=jI hm;have c5:=hh.cU;rw[hu]at c5;have aB:=aS hh.blk;clear hh hm hu;go_enter func30,ntmps30
 go_wp2_with (go_at_call 64;refine(zT (by exact HH.out.after<|aZ _) m).mono ?_;rw[HM.out];rintro e w1 ⟨rfl,rfl⟩)
 refine aCk (Ij rfl _ _ _ 58 _ (0,0) _ rfl (aB0 _ _) underlying58 rfl Ik) rfl ?_;exact⟨rfl,aZ _⟩
def aer(hh:ay w B xb n h)(hm:(k:Int)<h.P)(hu:h.up=true)(hp:h.ps[k]? =ae p):
 aK prog 30 #[.pointer<|ae ⟨xb,0,af⟩,.int .i64 k] w fun r w'=>∃va vb,r=.returned (.tuple #[.agg #[.int .i64 p.e,.int .i64 p.t,.int .i64 p.s,va,vb],.int .i64 0])/\zQ w w' va (bF p.aT 1 4)/\zQ w w' vb (bF p.aT 2 4)/\(∀k,va.ownBlock=ae k->vb.ownBlock≠ae k)/\Fr aH w w':=by
 have HH:Hid (ay w B xb n h):=hh;have qR:k<6:=by have:=hh.hP.2;omega
 have HM:Hid (decide (0<=(k:Int)/\(k:Int)<h.P)=true):=jI ⟨by omega,hm⟩;have HR:Hid (∀j v,p.cs[j]? =ae v->w.cell? ⟨xb,6+k*10+j,af⟩=ae v):=fun j v hv=>hh.iJ hp j v hv;have c5:=hh.cU;rw[hu]at c5;have aB:=aS hh.blk;have azm:(0:Int)<=(k:Int):=by omega
 have azn:(k:Int)<6:=by omega
 have e0:w.cell? ⟨xb,6+k*10,af⟩=ae (.int .i64 p.e):=HR.out 0 _ rfl;have e1:w.cell? ⟨xb,6+k*10+1,af⟩=ae (.int .i64 p.t):=HR.out 1 _ rfl;have e2:w.cell? ⟨xb,6+k*10+2,af⟩=ae (.int .i64 p.s):=HR.out 2 _ rfl;clear hh hm hu hp;go_enter func30,ntmps30
 go_wp2_with (go_at_call 64;refine(zT (by exact HH.out.after<|aZ _) k).mono ?_;rw[HM.out];rintro e w1 ⟨rfl,rfl⟩)
 have g0:(w.alloc<|.cells #[.int .i64 0,.int .i64 0,.int .i64 0,.slice af 0 0,.slice af 0 0] 58).cell? ⟨xb,6+k*10,af⟩=ae (.int .i64 p.e):=(aDn _ _ _ aB).trans e0;go_region_held3 (fun w'=>w'.cell? ⟨xb,6+k*10,af⟩=ae (.int .i64 p.e)/\w'.cell? ⟨xb,6+k*10+1,af⟩=ae (.int .i64 p.t)/\w'.cell? ⟨xb,6+k*10+2,af⟩=ae (.int .i64 p.s))
  (first|with_reducible exact⟨h0,h1,h2⟩|with_reducible exact⟨f0,f1,f2⟩|go_keep|(simp only[aeo _ _ bx];with_reducible exact⟨h0,h1,h2⟩))
  (first
    |(go_at_call 69;have _:=F1.out;refine(JX (p:=p) (by exact aeq F1.out aB HR.out) 2).mono ?_;rintro e w2 ⟨vb,rfl,DL,jB⟩
      obtain⟨ba,bc,rfl,_⟩:=lC DL
      have F2:Hid (Fr aH w w2):=F1.out.trans jB fun _ h=>h.elim
      have V2:Hid (w2.ownsRow w1.heap.size 3 1 (.slice ba (bF p.aT 2 4).length bc) (bF p.aT 2 4).length<|fK<|bF p.aT 2 4):=DL
      have U2:Hid (w2.ownsRow (w.heap.size+1) 3 1 (.slice aa (bF p.aT 1 4).length ac) (bF p.aT 1 4).length<|fK<|bF p.aT 1 4):=jB.ownsRow V1.out fun _ _=>id
      have h0:w2.cell? ⟨xb,6+k*10,af⟩=ae (.int .i64 p.e):=(F2.out.cell (p:=⟨xb,6+k*10,af⟩) aB id).trans e0
      have h1:w2.cell? ⟨xb,6+k*10+1,af⟩=ae (.int .i64 p.t):=(F2.out.cell (p:=⟨xb,6+k*10+1,af⟩) aB id).trans e1
      have h2:w2.cell? ⟨xb,6+k*10+2,af⟩=ae (.int .i64 p.s):=(F2.out.cell (p:=⟨xb,6+k*10+2,af⟩) aB id).trans e2
      have B2:Hid (w2.heap[w.heap.size]? =ae (.cells #[.int .i64 0,.int .i64 0,.int .i64 0,.slice af 0 0,.slice af 0 0] 58 (0,0))):=(jB.block _ (aS B1.out) id).trans B1.out
      have b0:w2.cell? ⟨w.heap.size,0,af⟩=ae (.int .i64 0):=by rw[aG B2.out];rfl
      have b1:w2.cell? ⟨w.heap.size,1,af⟩=ae (.int .i64 0):=by rw[aG B2.out];rfl
      have b2:w2.cell? ⟨w.heap.size,2,af⟩=ae (.int .i64 0):=by rw[aG B2.out];rfl
      have b3:w2.cell? ⟨w.heap.size,3,af⟩=ae (.slice af 0 0):=by rw[aG B2.out];rfl
      have b4:w2.cell? ⟨w.heap.size,4,af⟩=ae (.slice af 0 0):=by rw[aG B2.out];rfl
      have bf:∀o,w2.frozen? ⟨w.heap.size,o,af⟩=false:=jP B2.out
      have bx:xb≠w.heap.size:=by omega
      clear jB DL)
    |(go_at_call 69;refine(JX (p:=p) (by exact aeq ((aZ _).drew) aB HR.out) 1).mono ?_;rintro e w1 ⟨va,rfl,jf,bg⟩
      obtain⟨aa,ac,rfl,_⟩:=lC jf
      have F1:Hid (Fr aH w w1):=((aZ _).drew).trans bg fun _ h=>h.elim
      have V1:Hid (w1.ownsRow (w.heap.size+1) 3 1 (.slice aa (bF p.aT 1 4).length ac) (bF p.aT 1 4).length<|fK<|bF p.aT 1 4):=AX jf<|by simp
      have f0:w1.cell? ⟨xb,6+k*10,af⟩=ae (.int .i64 p.e):=(F1.out.cell (p:=⟨xb,6+k*10,af⟩) aB id).trans e0
      have f1:w1.cell? ⟨xb,6+k*10+1,af⟩=ae (.int .i64 p.t):=(F1.out.cell (p:=⟨xb,6+k*10+1,af⟩) aB id).trans e1
      have f2:w1.cell? ⟨xb,6+k*10+2,af⟩=ae (.int .i64 p.s):=(F1.out.cell (p:=⟨xb,6+k*10+2,af⟩) aB id).trans e2
      have B1:Hid (w1.heap[w.heap.size]? =ae (.cells #[.int .i64 0,.int .i64 0,.int .i64 0,.slice af 0 0,.slice af 0 0] 58 (0,0))):=(bg.block _ (by simp) id).trans (by show(w.alloc _).heap[w.heap.size]? =_;exact aB0 _ _)
      clear bg jf))
 go_wp2
 have hb:=jQ (jQ (jQ (jQ (jQ B2.out 0<|.int .i64 p.e) 1<|.int .i64 p.t) 2<|.int .i64 p.s) 3<|.slice aa (bF p.aT 1 4).length ac) 4<|.slice ba (bF p.aT 2 4).length bc;have fs:=(((((Fr.refl (fun x=>x=w.heap.size) w2).setCell (p:=⟨w.heap.size,0,af⟩) (.inl rfl)<|.int .i64 p.e).setCell (p:=⟨w.heap.size,1,af⟩) (.inl rfl)<|.int .i64 p.t).setCell (p:=⟨w.heap.size,2,af⟩) (.inl rfl)<|.int .i64 p.s).setCell (p:=⟨w.heap.size,3,af⟩) (.inl rfl)<|.slice aa (bF p.aT 1 4).length ac).setCell (p:=⟨w.heap.size,4,af⟩) (.inl rfl)<|.slice ba (bF p.aT 2 4).length bc;have hz:w.heap.size<w1.heap.size:=aS B1.out;refine aCk (Ij rfl _ _ _ 58 _ (0,0) _ rfl hb underlying58 rfl Ik) rfl ?_;refine⟨_,_,rfl,?_,?_,fun x hx hy=>?_,F2.out.trans fs fun x hx=>.inr<|by omega⟩
 ·exact AX (fs.ownsRow U2.out (fun x hx e=>by have:=(U2.out.lt x hx).1;omega))<|by omega
 ·exact AX (fs.ownsRow V2.out (fun x hx e=>by have:=(V2.out.lt x hx).1;omega))<|by omega
 ·have h3:=(V1.out.lt x hx).2;have h4:=(V2.out.lt x hy).1;omega
end
end
section
def aes:∀(l:List PL) (k:Nat) (e:PL) (j:Nat),l[k]? =ae e->j<2->(oP l)[k*2+j]? =e.cs[j]?
 |[],k,e,j,h,_=>by simp at h
 |x::r,0,e,j,h,hj=>by
  simp only[xA,fJ]at h;subst h;simp only[oP,nZ];rw[tJ (by simp[PL.cs]<;>omega)];simp
 |x::r,k+1,e,j,h,hj=>by
  simp only[zJ]at h;have:=aes r k e j h hj;simp only[oP,nZ]at this⊢
  rw[wG (by simp[PL.cs]<;>omega),<-this];congr 1;simp[PL.cs]<;>omega
def Zk{w:ah}{B g n cap:Nat}{l:List PL}(h:w.ownsRow B 98 2 (.slice (ae ⟨g,0,af⟩) n cap) l.length (oP l)){k:Nat}{e:PL}(hk:l[k]? =ae e):
 w.cell? ⟨g,k*2,af⟩=ae (.pointer<|ae ⟨e.lb,0,af⟩)/\w.cell? ⟨g,k*2+1,af⟩=ae (.bool e.out):=by
 have hc:=h.cells (g:=g) rfl;have key:∀j u,j<2->e.cs[j]? =ae u->w.cell? ⟨g,k*2+j,af⟩=ae u:=fun j u hj hu=>by
  have:=hc (k*2+j) u<|(aes l k e j hk hj).trans hu;rw[aCo]at this;simpa using this
 exact⟨key 0 _ (by omega) rfl,key 1 _ (by omega) rfl⟩
def aet:(prog.info? 62).map (·.size)=ae 4:=by kernel_rfl
section
variable{w:ah}{B xb n:Nat}{h:HS}
variable{k:Nat}{p:PL}
def ay.place(hh:ay w B xb n h)(hk:h.pl[k]? =ae p):∃g cap,h.pv=.slice (ae ⟨g,0,af⟩) h.pl.length cap/\g<w.heap.size/\h.pl.length<=cap/\
 w.cell? ⟨g,k*2,af⟩=ae (.pointer<|ae ⟨p.lb,0,af⟩)/\w.cell? ⟨g,k*2+1,af⟩=ae (.bool p.out):=by
 have aB:=(dD.1 hk).1;rcases hh.jD.2 with⟨hv,h0⟩|⟨g,cap,cur,hv,hb,hg,h1,h2,_⟩
 ·omega
 ·have:=hh.jD;rw[hv]at this;exact⟨g,cap,hv,aS hg,h1,Zk this hk⟩
def azo(hh:ay w B xb n h){m:Int}(hm:¬(0<=m/\m<h.pl.length)):
 aK prog 23 #[.pointer<|ae ⟨xb,0,af⟩,.int .i64 m] w fun r w'=>r=.returned (.tuple #[.agg #[.bool false,.int .i64 0,.int .i64 0,.slice af 0 0],.int .i64 3])/\Fr aH w w':=by
 have HH:Hid (ay w B xb n h):=hh;have HM:Hid (decide (0<=m/\m<h.pl.length)=false):=qC hm;clear hh hm;go_enter func23,ntmps23
 go_wp2_with (go_at_call 50;refine(JW (by exact HH.out.after<|aZ _) m).mono ?_;rw[HM.out];rintro e w1 ⟨rfl,rfl⟩)
 refine aCk (Ij rfl _ _ _ 62 _ (0,0) _ rfl (aB0 _ _) underlying62 rfl aet) rfl ?_;exact⟨rfl,aZ _⟩
def amg(hh:ay w B xb n h)(hk:h.pl[k]? =ae p)(f1 f2:Int)(hi:Inv p.s)(hb:p.s.es.length*40<=140737488355328):
 aK prog 57 #[.pointer<|ae ⟨xb,0,af⟩,.int .i64 k,.int .i64 f1,.int .i64 f2] w fun r w'=>∃va,r=.returned (.tuple #[va,.int .i64 0])/\w'.ownsRow w.heap.size 94 3 va (p.s.AV f1 f2).length (qi<|p.s.AV f1 f2)/\Fr aH w w':=by
 have mM:=(dD.1 hk).1;have HH:Hid (ay w B xb n h):=hh;have HM:Hid (decide (0<=(k:Int)/\(k:Int)<h.pl.length)=true):=jI ⟨by omega,by omega⟩;obtain⟨g,cap,hv,hg,uU,p0,p1⟩:=hh.place hk;have JY:Hid (dK w B p.lb p.bm p.v n p.s):=hh.dG p<|fD hk;have HI:Hid (Inv p.s):=hi;have HB:Hid (p.s.es.length*40<=140737488355328):=hb;have c5:=hh.cV;rw[hv]at c5;have sV:(0:Int)<=(k:Int):=by omega
 have aI:(k:Int)<(h.pl.length:Int):=by omega
 clear hh hk hi hb;go_enter func57,ntmps57
 go_wp2_with (first
  |(go_at_call 50;refine(JW HH.out k).mono ?_;rw[HM.out];rintro e w1 ⟨rfl,rfl⟩)
  |(go_at_call 121;refine(alL JY.out HI.out.wf HB.out f1 f2).mono ?_;rintro e w1 ⟨va,rfl,jf,bg⟩
    have V1:Hid (w1.ownsRow w.heap.size 94 3 va (p.s.AV f1 f2).length<|qi<|p.s.AV f1 f2):=jf
    have F1:Hid (Fr aH w w1):=bg
    clear jf bg))
 go_ret2
 exact⟨_,rfl,V1.out,F1.out⟩
def amh(hh:ay w B xb n h)(hk:h.pl[k]? =ae p)(hb:p.s.es.length*40<=140737488355328):
 aK prog 17 #[.pointer<|ae ⟨xb,0,af⟩,.int .i64 k] w fun r w'=>∃va,r=.returned (.tuple #[va,.int .i64 0])/\w'.ownsRow w.heap.size 55 4 va p.s.es.length (oh p.s.es)/\Fr aH w w':=by
 have mM:=(dD.1 hk).1;have HH:Hid (ay w B xb n h):=hh;have HM:Hid (decide (0<=(k:Int)/\(k:Int)<h.pl.length)=true):=jI ⟨by omega,by omega⟩;obtain⟨g,cap,hv,hg,uU,p0,p1⟩:=hh.place hk;have JY:Hid (dK w B p.lb p.bm p.v n p.s):=hh.dG p<|fD hk;have HB:Hid (p.s.es.length*40<=140737488355328):=hb;have c5:=hh.cV;rw[hv]at c5;have sV:(0:Int)<=(k:Int):=by omega
 have aI:(k:Int)<(h.pl.length:Int):=by omega
 clear hh hk hb;go_enter func17,ntmps17
 go_wp2_with (first
  |(go_at_call 50;refine(JW HH.out k).mono ?_;rw[HM.out];rintro e w1 ⟨rfl,rfl⟩)
  |(go_at_call 51;refine(adT JY.out HB.out).mono ?_;rintro e w1 ⟨va,rfl,jf,bg⟩
    have V1:Hid (w1.ownsRow w.heap.size 55 4 va p.s.es.length<|oh p.s.es):=jf
    have F1:Hid (Fr aH w w1):=bg
    clear jf bg))
 go_ret2
 exact⟨_,rfl,V1.out,F1.out⟩
def Nl(hh:ay w B xb n h)(m:Int):
 aK prog 139 #[.pointer<|ae ⟨xb,69,af⟩,.int .i64 m] w fun e w'=>e=.returned (.bool<|decide<|0<=m/\m<h.fl.length)/\w=w':=by
 have c0:=hh.cF;obtain⟨pa,pc,hp,_⟩:=oL hh.lY;rw[hp]at c0;clear hh;by_cases h1:0<=m
 ·by_cases h2:m<h.fl.length
  ·go_enter func139,ntmps139
   go_wp2
   go_ret;exact⟨by simp[h1,h2],rfl⟩
  ·go_enter func139,ntmps139
   go_wp2
   go_ret;exact⟨by simp[h2],rfl⟩
 ·go_enter func139,ntmps139
  go_wp2
  go_ret;exact⟨by rw[Zi<|by omega]<;>rfl,rfl⟩
def ami(hh:ay w B xb n h):aK prog 36 #[.pointer<|ae ⟨xb,0,af⟩] w fun r w'=>r=.returned (.int .i64 h.fl.length)/\Fr aH w w':=by
 have c0:=hh.cF;obtain⟨pa,pc,hp,_⟩:=oL hh.lY;rw[hp]at c0;clear hh;go_enter func36,ntmps36
 go_wp2
 go_ret;exact⟨rfl,Fr.refl _ _⟩
end
end
section
def aeu(n:Nat)(s:aA)(S:List Int):Prop:=S.Pairwise (· < ·)/\S.length<=n/\(∀x∈S,dQ x)/\∀x,dQ x->(x∈S↔∃t,s.nw x=ae (t,true))
section
variable{w:ah}{B xb n:Nat}{h:HS}
def amj(hh:ay w B xb n h){k:Nat}{p:PL}(hk:h.pl[k]? =ae p)(hi:Inv p.s)(hb:p.s.es.length*40<=140737488355328)(hn:(n+1)*8<=140737488355328):
 aK prog 23 #[.pointer<|ae ⟨xb,0,af⟩,.int .i64 k] w fun r w'=>∃va S,r=.returned (.tuple #[.agg #[.bool p.out,.int .i64 p.s.es.length,.int .i64 p.s.bZ,va],.int .i64 0])/\aeu n p.s S/\zQ w w' va S/\Fr aH w w':=by
 have mM:=(dD.1 hk).1;have HH:Hid (ay w B xb n h):=hh;have HM:Hid (decide (0<=(k:Int)/\(k:Int)<h.pl.length)=true):=jI ⟨by omega,by omega⟩;obtain⟨g,cap,hv,hg,uU,p0,p1⟩:=hh.place hk;have JY:Hid (dK w B p.lb p.bm p.v n p.s):=hh.dG p<|fD hk;have HI:Hid (Inv p.s):=hi;have HB:Hid (p.s.es.length*40<=140737488355328):=hb;have HN:Hid ((n+1)*8<=140737488355328):=hn;have c5:=hh.cV;rw[hv]at c5;have sV:(0:Int)<=(k:Int):=by omega
 have aI:(k:Int)<(h.pl.length:Int):=by omega
 have aB:=aS hh.blk;have bx:g≠w.heap.size:=by omega
 clear hh hk hi hb hn;go_enter func23,ntmps23
 go_wp2_with (go_at_call 50;refine(JW (by exact HH.out.after<|aZ _) k).mono ?_;rw[HM.out];rintro e w1 ⟨rfl,rfl⟩)
 go_region_held3 (fun w'=>w'.cell? ⟨g,k*2,af⟩=ae (.pointer<|ae ⟨p.lb,0,af⟩)/\w'.cell? ⟨g,k*2+1,af⟩=ae (.bool p.out))
  (first|with_reducible exact⟨i0,i1⟩|with_reducible exact⟨h0,h1⟩|with_reducible exact⟨f0,f1⟩|go_keep|(simp only[aeo _ _ bx];with_reducible exact⟨i0,i1⟩))
  (first
    |(go_at_call 51;refine(adT (by exact((aZ _).drew).logAt JY.out id id fun _ _=>id) HB.out).mono ?_;rintro e w1 ⟨va,rfl,jf,bg⟩
      obtain⟨ea,ec,rfl,_⟩:=oL jf
      have F1:Hid (Fr aH w w1):=((aZ _).drew).trans bg fun _ h=>h.elim
      have f0:w1.cell? ⟨g,k*2,af⟩=ae (.pointer<|ae ⟨p.lb,0,af⟩):=(F1.out.cell (p:=⟨g,k*2,af⟩) hg id).trans p0
      have f1:w1.cell? ⟨g,k*2+1,af⟩=ae (.bool p.out):=(F1.out.cell (p:=⟨g,k*2+1,af⟩) hg id).trans p1
      have B1:Hid (w1.heap[w.heap.size]? =ae (.cells #[.bool false,.int .i64 0,.int .i64 0,.slice af 0 0] 62 (0,0))):=(bg.block _ (by simp) id).trans (by show(w.alloc _).heap[w.heap.size]? =_;exact aB0 _ _)
      clear bg jf)
    |(go_at_call 59;refine(adS (by exact F1.out.logAt JY.out id id fun _ _=>id) HI.out.wf).mono ?_;rintro e w2 ⟨rfl,jB⟩
      have F2:Hid (Fr aH w w2):=F1.out.trans jB fun _ h=>h.elim
      have h0:w2.cell? ⟨g,k*2,af⟩=ae (.pointer<|ae ⟨p.lb,0,af⟩):=(F2.out.cell (p:=⟨g,k*2,af⟩) hg id).trans p0
      have h1:w2.cell? ⟨g,k*2+1,af⟩=ae (.bool p.out):=(F2.out.cell (p:=⟨g,k*2+1,af⟩) hg id).trans p1
      have B2:Hid (w2.heap[w.heap.size]? =ae (.cells #[.bool false,.int .i64 0,.int .i64 0,.slice af 0 0] 62 (0,0))):=(jB.block _ (aS B1.out) id).trans B1.out
      clear jB)
    |(go_at_call 60;refine(aej (by exact F2.out.logAt JY.out id id fun _ _=>id) HN.out).mono ?_;rintro e w3 ⟨vb,S,rfl,O0,lG,hs⟩
      obtain⟨ba,bc,rfl,_⟩:=lC O0
      have F3:Hid (Fr aH w w3):=F2.out.trans lG fun _ h=>h.elim
      have HSS:Hid (aeu n p.s S):=hs
      have V3:Hid (w3.ownsRow w2.heap.size 3 1 (.slice ba S.length bc) S.length<|fK S):=O0
      have i0:w3.cell? ⟨g,k*2,af⟩=ae (.pointer<|ae ⟨p.lb,0,af⟩):=(F3.out.cell (p:=⟨g,k*2,af⟩) hg id).trans p0
      have i1:w3.cell? ⟨g,k*2+1,af⟩=ae (.bool p.out):=(F3.out.cell (p:=⟨g,k*2+1,af⟩) hg id).trans p1
      have B3:Hid (w3.heap[w.heap.size]? =ae (.cells #[.bool false,.int .i64 0,.int .i64 0,.slice af 0 0] 62 (0,0))):=(lG.block _ (aS B2.out) id).trans B2.out
      have b0:w3.cell? ⟨w.heap.size,0,af⟩=ae (.bool false):=by rw[aG B3.out];rfl
      have b1:w3.cell? ⟨w.heap.size,1,af⟩=ae (.int .i64 0):=by rw[aG B3.out];rfl
      have b2:w3.cell? ⟨w.heap.size,2,af⟩=ae (.int .i64 0):=by rw[aG B3.out];rfl
      have b3:w3.cell? ⟨w.heap.size,3,af⟩=ae (.slice af 0 0):=by rw[aG B3.out];rfl
      have bf:∀o,w3.frozen? ⟨w.heap.size,o,af⟩=false:=jP B3.out
      clear lG O0 hs))
 go_wp2
 have hb:=jQ (jQ (jQ (jQ B3.out 0<|.bool p.out) 1<|.int .i64 p.s.es.length) 2<|.int .i64 p.s.bZ) 3<|.slice ba S.length bc;have fs:=((((Fr.refl (fun x=>x=w.heap.size) w3).setCell (p:=⟨w.heap.size,0,af⟩) (.inl rfl)<|.bool p.out).setCell (p:=⟨w.heap.size,1,af⟩) (.inl rfl)<|.int .i64 p.s.es.length).setCell (p:=⟨w.heap.size,2,af⟩) (.inl rfl)<|.int .i64 p.s.bZ).setCell (p:=⟨w.heap.size,3,af⟩) (.inl rfl)<|.slice ba S.length bc;have hz:w.heap.size<w2.heap.size:=aS B2.out;refine aCk (Ij rfl _ _ _ 62 _ (0,0) _ rfl hb underlying62 rfl aet) rfl ?_;refine⟨_,S,rfl,HSS.out,?_,F3.out.trans fs fun x hx=>.inr<|by omega⟩;exact AX (fs.ownsRow V3.out (fun x hx e=>by have:=(V3.out.lt x hx).1;omega))<|by omega
def aml(hh:ay w B xb n h):
 aK prog 44 #[.pointer<|ae ⟨xb,0,af⟩] w fun r w'=>r=.returned (.int .i64<|if h.up then 0 else 5)/\ay w' B xb n (if h.up then h.zS else h)/\Fr (fun k=>k=xb) w w':=by
 have HH:Hid (ay w B xb n h):=hh;have c5:=hh.cU;clear hh;cases hu:h.up
 ·rw[hu]at c5;go_enter func44,ntmps44
  go_wp2
  go_ret;exact⟨rfl,HH.out,Fr.refl _ _⟩
 ·rw[hu]at c5;go_enter func44,ntmps44
  go_wp2_with (go_at_call 104;refine(Zh HH.out).mono ?_;rintro e w1 ⟨rfl,bg⟩;have H1:Hid (ay w1 B xb n h.zS/\Fr (fun k=>k=xb) w w1):=bg;clear bg)
  go_ret;exact⟨rfl,H1.out⟩
end
end
section
def qF(b:Nat):Array Value:=#[.nilFunc,.func (.func 179) #[] #[.pointer<|ae ⟨b,0,af⟩],.func (.func 180) #[] #[.pointer<|ae ⟨b,0,af⟩],.func (.func 181) #[] #[.pointer<|ae ⟨b,0,af⟩],.func (.func 182) #[] #[.pointer<|ae ⟨b,0,af⟩]]
def UO:(prog.info? 193).map (·.size)=ae 5:=by kernel_rfl
def aev{fn:Func}{p:Tmp}{ty:bW}(h:fn.results=#[.cell p ty])(tmps:Array aj)(w:ah)(g:Nat)(t:bW)(cs:Array aj)(fr:Nat×Nat)(d:TypeDesc)
 (hp:tmps.getD p ag=.pointer (ae ⟨g,0,af⟩))(hg:w.heap[g]? =ae (.cells cs t fr))
 (hu:prog.underlying ty=ae d)(hd:d.isRow=true)(hi:(prog.info? ty).map (·.size)=ae cs.size):
 (results fn tmps).run prog w=.ok (.agg cs) w:=by
 have:=run_loadVar_mid w g 0 ty cs.toList d (fun j v hv=>by rw[aG hg];simpa using hv) hu hd (by simpa using hi);have Am:tmps[p]?.getD ag=.pointer (ae ⟨g,0,af⟩):=by simpa using hp
 simp[results,h,Am,asAddr,this]
section
variable{w:ah}{B xb n:Nat}{h:HS}
def Np(kv:Option Addr):aK prog 128 #[.pointer kv] w fun r w'=>r=.returned (.agg<|qF w.heap.size)/\w'.heap[w.heap.size]? =ae (.cells #[.pointer kv] 181 (0,0))/\Fr aH w w':=by
 have hb:((w.alloc<|.cells #[.pointer kv] 181).alloc<|.cells #[.nilFunc,.nilFunc,.nilFunc,.nilFunc,.nilFunc] 193).heap[w.heap.size+1]? =ae (.cells #[.nilFunc,.nilFunc,.nilFunc,.nilFunc,.nilFunc] 193 (0,0)):=by
  have:=aB0 (w.alloc<|.cells #[.pointer kv] 181)<|.cells #[.nilFunc,.nilFunc,.nilFunc,.nilFunc,.nilFunc] 193;simpa using this
 have hth:=JU hb (o:=0) (n:=5) (by simp);have HB:Hid (((w.alloc<|.cells #[.pointer kv] 181).alloc<|.cells #[.nilFunc,.nilFunc,.nilFunc,.nilFunc,.nilFunc] 193).heap[w.heap.size+1]? =ae (.cells #[.nilFunc,.nilFunc,.nilFunc,.nilFunc,.nilFunc] 193 (0,0))):=hb;have HT:Hid (((w.alloc<|.cells #[.pointer kv] 181).alloc<|.cells #[.nilFunc,.nilFunc,.nilFunc,.nilFunc,.nilFunc] 193).there (w.heap.size+1) 0 5):=hth;clear hb hth;go_enter func128,ntmps128
 go_wp2_with (refine aCz rfl 193 _ _ rfl (w.heap.size+1) 0 (qF w.heap.size) rfl rfl HT.out UO (by simp[qF,Value.oneCell']) ?_)
 have hb:=Ii (qF w.heap.size).toList 0 HB.out;have fs:Fr aH w _:=Fr.setCells (S:=fun _=>False) (b:=w.heap.size+1) (.inr<|by omega) (qF w.heap.size).toList 0<|((Fr.refl (fun _=>False) w).alloc<|.cells #[.pointer kv] 181).alloc<|.cells #[.nilFunc,.nilFunc,.nilFunc,.nilFunc,.nilFunc] 193;have f1:Fr (fun k=>k=w.heap.size+1) (w.alloc<|.cells #[.pointer kv] 181) _:=Fr.setCells (S:=fun k=>k=w.heap.size+1) (b:=w.heap.size+1) (.inl rfl) (qF w.heap.size).toList 0<|(Fr.refl (fun k=>k=w.heap.size+1) _).alloc<|.cells #[.nilFunc,.nilFunc,.nilFunc,.nilFunc,.nilFunc] 193;refine aCk (aev rfl _ _ _ 193 (qF w.heap.size) (0,0) _ rfl hb underlying193 rfl UO) rfl ?_;exact⟨rfl,(f1.block _ (by simp)<|by omega).trans<|aB0 _ _,fs⟩
def amm(w:ah):aK prog 177 #[.slice af 0 0] w fun r w'=>r=.returned (.bool false)/\Fr aH w w':=by
 go_enter func177,ntmps177
 go_wp2_with fail
 go_quiet (fail)
 go_wp2
 go_ret;exact⟨rfl,(Fr.refl _ _).drewN _⟩
def amn(w:ah):aK prog 127 #[.slice af 0 0] w fun r w'=>r=.returned (.slice af 0 0)/\Fr aH w w':=by
 go_enter func127,ntmps127
 go_wp2_with fail
 go_loopw [0,3] (fun a b w'=>a=.slice af 0 0/\b=.slice af 0 0/\w'=w) (fun _ _ _=>0)
 case atStart=>exact⟨rfl,rfl,rfl⟩
 case round=>
  obtain⟨rfl,rfl,rfl⟩:=hrel
  go_wp2_with (go_at_call 177;refine(amm _).mono ?_;rintro e w1 ⟨rfl,hf⟩;have HF:Hid (Fr aH wr w1):=hf;clear hf)
  go_ret
  exact⟨rfl,HF.out⟩
def HS.xB(h:HS):HS:={h with up:=true}
def HS.aew(h:HS):h.cells.toArray.setIfInBounds 5 (.bool true)=h.xB.cells.toArray:=by
 obtain⟨P,Q,T,K,jv,jb,up,ps,br,kp,pv,pl,fv,fl⟩:=h;simp[HS.cells,HS.xB]
def HS.aex(h:HS):h.cells.toArray.setIfInBounds 4 h.jv=h.cells.toArray:=by
 obtain⟨P,Q,T,K,jv,jb,up,ps,br,kp,pv,pl,fv,fl⟩:=h;simp[HS.cells]
def amo(w:ah):(Instr.slice 99 (.slice af 0 0) af (ae<|.int .i64 0) af).run prog w=.ok (.slice af 0 0) w:=by kernel_rfl
def amq(hh:ay w B xb n h)(hj:h.jv=.slice af 0 0):
 aK prog 68 #[.pointer<|ae ⟨xb,4,af⟩] w fun r w'=>r=.returned (.tuple #[])/\ay w' B xb n h.xB/\Fr (fun k=>k=xb) w w':=by
 have HH:Hid (ay w B xb n h):=hh;have HJ:Hid (h.jv=.slice af 0 0):=hj;have c4:=hh.cJ;rw[hj]at c4;have c5:=hh.cU;have aB:=aS hh.blk;have Jn:=amo;clear hh hj;go_enter func68,ntmps68
 go_wp2_with (first
  |(go_at_call 127;refine(amn w).mono ?_;rintro e w1 ⟨rfl,bg⟩
    have F1:Hid (Fr aH w w1):=bg
    have B1:Hid (w1.heap[xb]? =ae (.cells h.cells.toArray 111 (0,0))):=(bg.block xb aB id).trans HH.out.blk
    have d4:w1.cell? ⟨xb,4,af⟩=ae (.slice af 0 0):=(bg.cell (p:=⟨xb,4,af⟩) aB id).trans c4
    have d5:w1.cell? ⟨xb,5,af⟩=ae (.bool h.up):=(bg.cell (p:=⟨xb,5,af⟩) aB id).trans c5
    have df:∀o,w1.frozen? ⟨xb,o,af⟩=false:=jP B1.out
    have fO:xb<w1.heap.size:=dY aB bg.size
    clear bg)
  |(go_at_call 128;refine(Np _).mono ?_;rintro e w2 ⟨rfl,qU,jB⟩
    have S2:Hid (Fr aH (w1.setCell ⟨xb,4,af⟩<|.slice af 0 0) w2):=jB
    have T2:Hid ((w2.alloc<|.cells #[.nilFunc,.nilFunc,.nilFunc,.nilFunc,.nilFunc] 193).there w2.heap.size 0 5):=JU (aB0 _ _)<|by simp
    clear qU jB)
  |(refine aCz rfl 193 _ _ rfl w2.heap.size 0 (qF w1.heap.size) rfl rfl T2.out UO (by simp[qF,Value.oneCell']) ?_
    have hW:Fr aH w2 _:=Fr.setCells (S:=fun _=>False) (b:=w2.heap.size) (.inr<|bV _) (qF w1.heap.size).toList 0<|(Fr.refl (fun _=>False) w2).alloc<|.cells #[.nilFunc,.nilFunc,.nilFunc,.nilFunc,.nilFunc] 193
    generalize((w2.alloc<|.cells #[.nilFunc,.nilFunc,.nilFunc,.nilFunc,.nilFunc] 193).setCells w2.heap.size 0 (qF w1.heap.size).toList)=w3 at hW⊢
    have S3:Hid (Fr aH (w1.setCell ⟨xb,4,af⟩<|.slice af 0 0) w3):=S2.out.trans hW fun _ h=>h.elim
    have B3:Hid (w3.heap[xb]? =ae (.cells h.cells.toArray 111 (0,0))):=by
     refine(S3.out.block xb (by simpa using fO) id).trans<|(jQ B1.out 4<|.slice af 0 0).trans ?_;have:=h.aex;rw[HJ.out]at this;rw[this]
    have m5:w3.cell? ⟨xb,5,af⟩=ae (.bool h.up):=by rw[aG B3.out];rfl
    have mf:∀o,w3.frozen? ⟨xb,o,af⟩=false:=jP B3.out
    clear hW))
 go_loopw [26] (fun i w'=>i=.int .i64 0/\w'=w3) (fun _ _=>0)
 case atStart=>exact⟨rfl,rfl⟩
 case round=>
  obtain⟨rfl,rfl⟩:=hrel
  go_wp2
  go_end0
  have f1:Fr (fun k=>k=xb) w (w1.setCell ⟨xb,4,af⟩<|.slice af 0 0):=(F1.out.mono (fun _ h=>h.elim):Fr (fun k=>k=xb) w w1).setCell (p:=⟨xb,4,af⟩) (.inl rfl) _
  have f2:Fr (fun k=>k=xb) w (wr.setCell ⟨xb,5,af⟩<|.bool true):=(f1.trans S3.out fun _ h=>h.elim).setCell (p:=⟨xb,5,af⟩) (.inl rfl) _
  refine⟨rfl,HH.out.put f2 ?_ rfl rfl rfl rfl rfl rfl rfl rfl HH.out.h6,f2⟩
  rw[jQ B3.out,h.aew]
def amr(hh:ay w B xb n h)(hu:h.up=true):
 aK prog 29 #[.pointer<|ae ⟨xb,0,af⟩] w fun r w'=>r=.returned (.int .i64 6)/\w=w':=by
 have c5:=hh.cU;rw[hu]at c5;clear hh;go_enter func29,ntmps29
 go_wp2
 go_ret;exact⟨rfl,rfl⟩
end
end
structure Rc where
 k:Int
 p:Int
 a:Int
 m:Int
structure Du where
 p:Int
 q:Int
 t:Int
 g:Int
def Rc.cs(r:Rc):List Value:=[.int .i64 r.k,.int .i64 r.p,.int .i64 r.a,.int .i64 r.m]
section
section
variable{w:ah}
def Fr.dr(w:ah):Fr aH w w.drew:=(Fr.refl _ _).drew
end
end
section
section
variable{w:ah}{B:Nat}
def UR{ty:bW}{wd:Nat}{v:aj}{n:Nat}{xs:List aj}{b:Nat}{cs:Array aj}{t:bW}{fr:Nat×Nat}(h:w.ownsRow B ty wd v n xs)(hb:w.heap[b]? =ae (.cells cs t fr))(bM:ty≠t):v.ownBlock≠ae b:=fun e=>by
 have h1:=ig h e;rw[lD hb]at h1;exact bM h1.symm
end
end
end Go.Proofs.YtkelpcjiediamaaGreat
