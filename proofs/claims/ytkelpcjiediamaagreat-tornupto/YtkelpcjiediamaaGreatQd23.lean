import Derived.Test.YtkelpcjiediamaaGreatQd18
import Derived.Test.YtkelpcjiediamaaGreatQd22
set_option maxRecDepth 100000
set_option maxHeartbeats 0
set_option linter.all false
namespace Go.Proofs.YtkelpcjiediamaaGreat
def aEX:=@Go.Conc.enter_at
open Go renaming Calls→aU,Frame→bu,Goroutine→bF,Program→eF,TypeId→dw,Value→az,World→aj,execOp→dP,maxLen→dU,stepG→bD,undef→ai
open Go.Ending renaming returned→aT
open Go.IntKind renaming i64→ah
open Go.Item renaming inRegion→bQ
open Go.Obj renaming cells→aC
open Go.RowKit renaming intOf→fH
open Go.Value renaming agg→gY,bool→aB,int→ag,pointer→ay,slice→aJ,tuple→dK
open Option renaming none→af,some→ae
open Go.Proofs.Tryz
section
namespace Twin
open Go Go.Proofs Go.Conc Go.RowKit Go.Maps fJ
open Go.ConcR (WgAt KK)
def fC(l:List Ms):List Ms:=l.filter fun m=>decide<|m.k=2
variable{z:Gs}{ks:List Kd}{S:aN}{w w':aj}
def Gs.oJ.grown{row:Option Nat}(h:z.oJ ks S w)(hl:ks.length=z.np)(hO:z.Ok)(hW:z.Wg<w.heap.size)(hg:w.grownBy w' row)(hr:∀k,row=ae k->S k/\k≠z.mr):z.oJ ks (grow S w w') w':=by
 have hz:=hg.size;have hb:∀b,b<w.heap.size->(∀k,row=ae k->b≠k)->w'.heap[b]? =w.heap[b]? :=fun b h1 h2=>hg.block b h1 fun e=>h2 b e.symm rfl;have hk:z.Bf w':=by
  have key:∀{a:Addr} {v:az},w.cell? a=ae v->z.R a.block->w'.cell? a=ae v:=fun hc hr'=>(aD2<|hb _ (nU hc) fun k hk e=>h.zT _ hr'<|e▸(hr k hk).1).trans hc;exact⟨key h.jM.sv hO.Pm,key h.jM.hv hO.Pn,key h.jM.ps hO.Po,key h.jM.ob hO.Pq,fun i p hp=>key (h.jM.c0 i p hp) hO.FK,fun i p hp=>key (h.jM.c1 i p hp) hO.FK,fun i m hm j v hv=>key (h.jM.ms i m hm j v hv) (hO.Tm fun e=>by rw[e]at hm;simp at hm).1,fun b iT=>(hb b (h.yU b iT) fun k hk e=>h.zT _ iT<|e▸(hr k hk).1).trans<|h.jM.fr b iT,hg.tape.trans h.jM.tape,hg.os.trans h.jM.os,hg.output.trans h.jM.output⟩
 refine⟨hk,fun i p h1 h2=>?_,?_,fun i p h1 h2=>?_,fun b iT=>?_,fun b iT hx=>?_,by have:=h.base;omega,fun b iT=>by have:=h.yU b iT;omega,fun hx=>?_,fun hx=>hx.elim h.uO.1 fun y=>by have:=h.uO.2;omega,by have:=h.uO.2;omega⟩
 ·have:i<z.np:=(dM.1 h2).1;omega
 ·obtain⟨cs,h1,h2⟩:=h.row;exact⟨cs,⟨.inl h1.1,by rw[hb _ (h.low _ h1.1) fun k hk e=>(hr k hk).2 e.symm];exact h1.2⟩,h2⟩
 ·have:i<z.np:=(dM.1 h2).1;omega
 ·rcases iT with iT|iT
  ·have:=h.low b iT;omega
  ·exact iT.2
 ·rcases hx with hx|hx
  ·exact h.zT b iT hx
  ·have:=h.yU b iT;omega
 ·rcases hx with hx|hx
  ·exact h.CS hx
  ·omega
def Gs.oJ.only{b:Nat}(h:z.oJ ks S w)(hO:z.Ok)(hl:ks.length=z.np)(ho:oI (fun x=>x=b) w w')(hb:S b)(hm:b≠z.mr):z.oJ ks S w':=by
 have hz:=ho.size;have key:∀{a:Addr} {v:az},w.cell? a=ae v->z.R a.block->w'.cell? a=ae v:=fun hc hr=>(aD2<|ho.still _ fun e=>h.zT _ hr<|e▸hb).trans hc;refine⟨⟨key h.jM.sv hO.Pm,key h.jM.hv hO.Pn,key h.jM.ps hO.Po,key h.jM.ob hO.Pq,fun i p hp=>key (h.jM.c0 i p hp) hO.FK,fun i p hp=>key (h.jM.c1 i p hp) hO.FK,fun i m hm j v hv=>key (h.jM.ms i m hm j v hv) (hO.Tm fun e=>by rw[e]at hm;simp at hm).1,fun x hx=>(ho.still x fun e=>h.zT _ hx<|e▸hb).trans<|h.jM.fr x hx,ho.tape.trans h.jM.tape,ho.os.trans h.jM.os,ho.output.trans h.jM.output⟩,fun i p h1 h2=>?_,?_,fun i p h1 h2=>?_,fun x hx=>by have:=h.low x hx;omega,h.zT,by have:=h.base;omega,fun x hx=>by have:=h.yU x hx;omega,h.CS,h.uO.1,by have:=h.uO.2;omega⟩
 ·have:i<z.np:=(dM.1 h2).1;omega
 ·obtain⟨cs,h1,h2⟩:=h.row;exact⟨cs,⟨h1.1,by rw[ho.still _<|iW hm];exact h1.2⟩,h2⟩
 ·have:i<z.np:=(dM.1 h2).1;omega
def aA.send{K:Type}{X:bK K}{End:List K->dD->aN->bF->aj->Prop}{ts:List qP}{ks:List K}{E:dD}{g:bF}{i:Nat}{v z:az}{sh:CommShape}{κ:K}(hr:g.status=.running)(hk:ks[i]? =ae κ)(hs:∀w1,bD X.P true g w1=.comm g #[scase (X.ch κ) v z] true sh w1 #[])
 (h:aA X.P true E (X.jY End ts ks 0 E) S (g.finishComm X.P #[scase (X.ch κ) v z] sh 0 ai false) w):aA X.P true E (X.jY End (.send i v::ts) ks 0 E) S g w:=
 aA.stop fun w1 aQ=>⟨rfl,hr,κ,z,sh,hk,hs w1,h.rely aQ⟩
def atD{End:List Kd->dD->aN->bF->aj->Prop}{u:Nat->az}{t9 t10 t33 t34 t35 t36 t37 t38 t39 t40 t41 t42:az}{cs:List bu}(hO:z.Ok)(hl:ks.length=z.np)
 (hn:∀(t13 t46 t47 t48 t49 t50 t51 t52 t53 t54 t55 t56 t57 t58 t59 t60 t61 t62 t63 t64 t65 av:az) (S:aN) (w:aj),z.oJ ks S w->WgAt 177 z.Wg w ((z.np:Int)*KK) 0->Own S w z.Ba 119 5 av (fC z.ms).length ((fC z.ms).flatMap Ms.cs)->(∀b,av.ownBlock=ae b->b≠z.mr)->
   aA prog true z.E (z.iM.jY End [] ks 0 z.E) S (G ((base 54).at ⟨#[ay<|ae ⟨z.xb,0,af⟩,.slice z.ma z.ms.length z.mc,ay<|ae ⟨z.hv,0,af⟩,u 3,u 4,aJ (ae ⟨z.mr,0,af⟩) z.np z.np,ay<|ae ⟨z.sv,0,af⟩,ay<|ae ⟨z.ob,0,af⟩,ay<|ae ⟨z.Wg,0,af⟩,t9,t10,av,u 12,t13,u 14,u 15,u 16,u 17,u 18,u 19,u 20,u 21,u 22,u 23,u 24,u 25,u 26,u 27,u 28,u 29,u 30,ag ah z.np,ag ah z.np,t33,t34,t35,t36,t37,t38,t39,t40,t41,t42,.slice z.ma z.ms.length z.mc,ag ah z.ms.length,ag ah z.ms.length,t46,t47,t48,t49,t50,t51,t52,t53,t54,t55,t56,t57,t58,t59,t60,t61,t62,t63,t64,t65,u 66,u 67,u 68,u 69,u 70,u 71],[]⟩ [.code Ed]) cs) w):
 ∀(r l:List Ms) (t13 t46 t47 t48 t49 t50 t51 t52 t53 t54 t55 t56 t57 t58 t59 t60 t61 t62 t63 t64 t65 av:az) (S:aN) (w:aj),z.ms=l++r->z.oJ ks S w->WgAt 177 z.Wg w ((z.np:Int)*KK) 0->Own S w z.Ba 119 5 av (fC l).length ((fC l).flatMap Ms.cs)->(∀b,av.ownBlock=ae b->b≠z.mr)->
  aA prog true z.E (z.iM.jY End (uP r) ks 0 z.E) S (G ((base 54).at ⟨#[ay<|ae ⟨z.xb,0,af⟩,.slice z.ma z.ms.length z.mc,ay<|ae ⟨z.hv,0,af⟩,u 3,u 4,aJ (ae ⟨z.mr,0,af⟩) z.np z.np,ay<|ae ⟨z.sv,0,af⟩,ay<|ae ⟨z.ob,0,af⟩,ay<|ae ⟨z.Wg,0,af⟩,t9,t10,av,u 12,t13,u 14,u 15,u 16,u 17,u 18,u 19,u 20,u 21,u 22,u 23,u 24,u 25,u 26,u 27,u 28,u 29,u 30,ag ah z.np,ag ah z.np,t33,t34,t35,t36,t37,t38,t39,t40,t41,t42,.slice z.ma z.ms.length z.mc,ag ah z.ms.length,ag ah l.length,t46,t47,t48,t49,t50,t51,t52,t53,t54,t55,t56,t57,t58,t59,t60,t61,t62,t63,t64,t65,u 66,u 67,u 68,u 69,u 70,u 71],[]⟩ [.code Ec,.inLoop Ec,.inBlock 2,.code Ed]) cs) w:=by
 intro r
 induction r with
 |nil=>
  intro l t13 t46 t47 t48 t49 t50 t51 t52 t53 t54 t55 t56 t57 t58 t59 t60 t61 t62 t63 t64 t65 av S w xu h bV hA I5
  obtain rfl:z.ms=l:=by rw[xu,ql]
  clear xu
  have I7:=hn t13 (aB false) t47 t48 t49 t50 t51 t52 t53 t54 t55 t56 t57 t58 t59 t60 t61 t62 t63 t64 t65 av S w h bV hA I5
  simp only[uP]
  generalize z.iM.jY End [] ks 0 z.E=St at I7⊢
  generalize Item.code Ed=IR at I7⊢
  generalize CQ:Item.inLoop Ec=IL
  simp only[Ec,yT,wQ,qE,Tryz.f54,ik,fU,iQ,wO]
  refine aA.sq ?_
  refine aA.reg [0] rfl ?_
  refine aA.mute (aB false) rfl rfl (by decide) (fun _=>by go_simp) (fun _=>by simp[go_sem]) ?_
  walk_nrm
  refine aA.fQ ?_
  refine aA.sq ?_
  refine aA.ctl rfl (fun _=>aEc (t:=false)<|by rfl) ?_
  refine aA.ctl rfl (fun _=>aFh (k':=[IR]) (by rw[<-CQ];rfl)) ?_
  exact I7
 |cons m r ih=>
  intro l t13 t46 t47 t48 t49 t50 t51 t52 t53 t54 t55 t56 t57 t58 t59 t60 t61 t62 t63 t64 t65 av S w xu h bV hA I5
  have pU:∀b,z.R b->z.E.ro b:=fun b hb=>.inl hb
  have aI:l.length<z.ms.length:=by rw[xu];simp
  have hm:z.ms[l.length]? =ae m:=by rw[xu];simp
  have o7:m∈z.ms:=gz hm
  have atE:Hid (z.ms=l++m::r):=xu
  clear xu
  obtain⟨atF,hma⟩:=hO.Tm fun e=>by rw[e]at hm;simp at hm
  have qV:=hO.len
  have aBH:=hO.small
  generalize Pv:Item.code Ed=IR
  generalize CQ:Item.inLoop Ec=IL
  simp only[Ec,yT,wQ,qE,Tryz.f54,ik,fU,iQ,wO]
  refine aA.sq ?_
  refine aA.reg [0] rfl ?_
  refine aA.mute (aB true) rfl rfl (by decide) (fun _=>by go_simp) (fun _=>by simp[go_sem]) ?_
  walk_nrm
  refine aA.fQ ?_
  refine aA.sq ?_
  refine aA.ctl rfl (fun _=>aEc (t:=true)<|by rfl) ?_
  refine aA.ctl rfl (fun _=>aEe) ?_
  refine aA.sq ?_
  refine aA.ctl rfl (fun _=>aEg) ?_
  refine aA.sq ?_
  refine aA.reg [0,1,2,3] rfl ?_
  rw[hma]
  refine aA.mute (ay<|ae ⟨z.mb,l.length*5,af⟩) rfl rfl (by decide) (fun _=>by go_simp) (fun _=>by simp[go_sem];rw[aEE _ _ _ _ _ _ (by kernel_rfl) ⟨by omega,by omega⟩]) ?_
  walk_nrm
  refine aA.val (gY #[ag ah m.k,ag ah m.q,ag ah m.p,ag ah m.t,aB m.c]) rfl rfl (by decide) (fun w1 aQ=>?_) (fun w1 aQ e he=>?_) ?_
  ·have hx:=(h.aY hO pU aQ).jM.ms l.length m hm
   have g0:=hx 0 _ rfl
   have g1:=hx 1 _ rfl
   have g2:=hx 2 _ rfl
   have g3:=hx 3 _ rfl
   have g4:=hx 4 _ rfl
   simp only[KW]at g0
   go_simp
  ·have hx:=(h.aY hO pU aQ).jM.ms l.length m hm
   have g0:=hx 0 _ rfl
   have g1:=hx 1 _ rfl
   have g2:=hx 2 _ rfl
   have g3:=hx 3 _ rfl
   have g4:=hx 4 _ rfl
   simp only[KW]at g0
   simp[go_sem,g0,g1,g2,g3,g4]at he
   rcases he with rfl|rfl|rfl|rfl|rfl<;>exact .inr ⟨atF,rfl⟩
  walk_nrm
  refine aA.kC rfl rfl (by decide) fun w1 aQ=>?_
  replace h:=h.aY hO pU aQ
  replace bV:=bV.of_block<|aQ.ro z.Wg<|.inr rfl
  replace hA:=hA.aY aQ
  have Me:=Ij bV
  refine⟨ay<|ae ⟨w1.heap.size,0,af⟩,w1.alloc<|aC #[ag ah 0,ag ah 0,ag ah 0,ag ah 0,aB false] 119,.inl<|by go_simp,wL (by simp[go_sem])<|uN _,?_⟩
  have KH:∀b,av.ownBlock=ae b->b<w1.heap.size:=fun b hb=>h.low b<|hA.r b hb
  have ZU:z.mr<w1.heap.size:=let ⟨_,h1,_⟩:=h.row;h.low _ h1.1
  have hY:=dZ.new S w1 #[ag ah 0,ag ah 0,ag ah 0,ag ah 0,aB false] 119
  replace bV:=bV.of_block (w₁:=w1.alloc<|aC #[ag ah 0,ag ah 0,ag ah 0,ag ah 0,aB false] 119)<|aD1 w1 _ _ Me
  replace hA:Own (grow S w1<|w1.alloc<|aC #[ag ah 0,ag ah 0,ag ah 0,ag ah 0,aB false] 119) (w1.alloc<|aC #[ag ah 0,ag ah 0,ag ah 0,ag ah 0,aB false] 119) z.Ba 119 5 av (fC l).length ((fC l).flatMap Ms.cs):=hA.of (fun b hb=>.inl hb) fun b hb=>aD1 w1 _ _<|KH b hb
  replace h:=h.alloc hO Me (aC #[ag ah 0,ag ah 0,ag ah 0,ag ah 0,aB false] 119) fun _=>Si rfl
  clear aQ
  generalize grow S w1 (w1.alloc<|aC #[ag ah 0,ag ah 0,ag ah 0,ag ah 0,aB false] 119)=S at*
  generalize w1.alloc (aC #[ag ah 0,ag ah 0,ag ah 0,ag ah 0,aB false] 119)=w at*
  generalize w1.heap.size=bb at*
  walk_nrm
  refine aA.kC rfl rfl (by decide) fun w1 aQ=>?_
  replace h:=h.aY hO pU aQ
  replace bV:=bV.of_block<|aQ.ro z.Wg<|.inr rfl
  replace hA:=hA.aY aQ
  replace hY:=hY.aY aQ
  have q0:=hY.cell (o:=0) rfl
  have q1:=hY.cell (o:=1) rfl
  have q2:=hY.cell (o:=2) rfl
  have q3:=hY.cell (o:=3) rfl
  have q4:=hY.cell (o:=4) rfl
  have r0:=hY.free 0
  have r1:=hY.free 1
  have r2:=hY.free 2
  have r3:=hY.free 3
  have r4:=hY.free 4
  have Tq:oI (fun x=>x=bb) w1 (((((w1.setCell ⟨bb,0,af⟩<|ag ah m.k).setCell ⟨bb,1,af⟩<|ag ah m.q).setCell ⟨bb,2,af⟩<|ag ah m.p).setCell ⟨bb,3,af⟩<|ag ah m.t).setCell ⟨bb,4,af⟩<|aB m.c):=((((((oI.refl (fun x=>x=bb) w1).set rfl 0 _).set rfl 1 _).set rfl 2 _).set rfl 3 _).set rfl 4 _)
  have hOS:oI S w1 (((((w1.setCell ⟨bb,0,af⟩<|ag ah m.k).setCell ⟨bb,1,af⟩<|ag ah m.q).setCell ⟨bb,2,af⟩<|ag ah m.p).setCell ⟨bb,3,af⟩<|ag ah m.t).setCell ⟨bb,4,af⟩<|aB m.c):=Tq.mono fun b hb=>hb▸hY.1
  refine⟨ai,((((w1.setCell ⟨bb,0,af⟩<|ag ah m.k).setCell ⟨bb,1,af⟩<|ag ah m.q).setCell ⟨bb,2,af⟩<|ag ah m.p).setCell ⟨bb,3,af⟩<|ag ah m.t).setCell ⟨bb,4,af⟩<|aB m.c,.inr ⟨rfl,by go_simp⟩,hOS.nH fun e he=>?_,?_⟩
  ·simp[go_sem,acF,storedEv,q0,q1,q2,q3,q4,r0,r1,r2,r3,r4]at he
   rcases he with rfl|rfl|rfl|rfl|rfl<;>exact .inl hY.1
  rw[hOS.grow]
  have Px:=Ij bV
  replace bV:=bV.of_block<|Tq.still z.Wg<|by omega
  replace hA:Own S (((((w1.setCell ⟨bb,0,af⟩<|ag ah m.k).setCell ⟨bb,1,af⟩<|ag ah m.q).setCell ⟨bb,2,af⟩<|ag ah m.p).setCell ⟨bb,3,af⟩<|ag ah m.t).setCell ⟨bb,4,af⟩<|aB m.c) z.Ba 119 5 av (fC l).length ((fC l).flatMap Ms.cs):=hA.of (fun b hb=>hb) fun b hb=>Tq.still b<|aao<|KH b hb
  replace h:=h.only hO hl Tq hY.1<|Nat.ne_of_gt ZU
  replace hY:=(((((hY.set 0<|ag ah m.k).set 1<|ag ah m.q).set 2<|ag ah m.p).set 3<|ag ah m.t).set 4<|aB m.c)
  change dZ S _ bb #[ag ah m.k,ag ah m.q,ag ah m.p,ag ah m.t,aB m.c] 119 at hY
  clear aQ q0 q1 q2 q3 q4 r0 r1 r2 r3 r4 Tq hOS
  generalize((((w1.setCell ⟨bb,0,af⟩<|ag ah m.k).setCell ⟨bb,1,af⟩<|ag ah m.q).setCell ⟨bb,2,af⟩<|ag ah m.p).setCell ⟨bb,3,af⟩<|ag ah m.t).setCell ⟨bb,4,af⟩ (aB m.c)=w at*
  walk_nrm
  refine aA.fQ ?_
  refine aA.sq ?_
  refine aA.reg [0,1] rfl ?_
  refine aA.mu rfl rfl ?_
  walk_nrm
  refine aA.val (ag ah m.k) rfl rfl (by decide) (fun w1 aQ=>?_) (fun w1 aQ e he=>?_) ?_
  ·have q0:=(hY.aY aQ).cell (o:=0) rfl
   go_simp
  ·have q0:=(hY.aY aQ).cell (o:=0) rfl
   simp[go_sem,q0]at he
   subst he
   exact .inl hY.1
  walk_nrm
  refine aA.fQ ?_
  refine aA.ctl rfl (fun _=>aEg) ?_
  refine aA.sq ?_
  refine aA.reg [0,1] rfl ?_
  have sW:∀(t13 t46 t47 t48 t49 t50 t51 t52 t53 t54 t55 t56 t57 t58 t59 t60 t61 t62 t63 t64 t65 FI:az) (S':aN) (w':aj),z.oJ ks S' w'->WgAt 177 z.Wg w' ((z.np:Int)*KK) 0->Own S' w' z.Ba 119 5 FI (fC<|l++[m]).length ((fC<|l++[m]).flatMap Ms.cs)->(∀b,FI.ownBlock=ae b->b≠z.mr)->
   aA prog true z.E (z.iM.jY End (uP r) ks 0 z.E) S' (G ((base 54).at ⟨#[ay<|ae ⟨z.xb,0,af⟩,aJ (ae ⟨z.mb,0,af⟩) z.ms.length z.mc,ay<|ae ⟨z.hv,0,af⟩,u 3,u 4,aJ (ae ⟨z.mr,0,af⟩) z.np z.np,ay<|ae ⟨z.sv,0,af⟩,ay<|ae ⟨z.ob,0,af⟩,ay<|ae ⟨z.Wg,0,af⟩,t9,t10,FI,u 12,t13,u 14,u 15,u 16,u 17,u 18,u 19,u 20,u 21,u 22,u 23,u 24,u 25,u 26,u 27,u 28,u 29,u 30,ag ah z.np,ag ah z.np,t33,t34,t35,t36,t37,t38,t39,t40,t41,t42,aJ (ae ⟨z.mb,0,af⟩) z.ms.length z.mc,ag ah z.ms.length,ag ah l.length,t46,t47,t48,t49,t50,t51,t52,t53,t54,t55,t56,t57,t58,t59,t60,t61,t62,t63,t64,t65,u 66,u 67,u 68,u 69,u 70,u 71],[]⟩ [.inBlock 4,.inBlock 3,.code<|fU<|fU<|fU Ec,IL,.inBlock 2,IR]) cs) w':=by
   intro t13 t46 t47 t48 t49 t50 t51 t52 t53 t54 t55 t56 t57 t58 t59 t60 t61 t62 t63 t64 t65 FI S' w' h1 h2 h3 h4;have hi:=fun t46 t47 t48 t49 t50 t51 t52 t53 t54 t55 t56 t57 t58 t59 t60 t61 t62 t63 t64 t65=>ih (l++[m]) t13 t46 t47 t48 t49 t50 t51 t52 t53 t54 t55 t56 t57 t58 t59 t60 t61 t62 t63 t64 t65 FI S' w' (by rw[atE];simp) h1 h2 h3 h4;have hlen:(l++[m]).length=l.length+1:=by simp
   rw[hlen]at hi;clear hlen h1 h2 h3 h4 ih hn h bV hA hY;generalize z.iM.jY End (uP r) ks 0 z.E=St at hi⊢
   rw[Pv,CQ,hma]at hi;rw[<-CQ];generalize atG:Item.inLoop Ec=IL2;simp only[Ec,yT,wQ,qE,Tryz.f54,ik,fU,iQ,wO];refine aA.ctl rfl (fun _=>aEy) ?_;refine aA.ctl rfl (fun _=>aEy) ?_;refine aA.reg [0,1] rfl ?_;refine aA.mute (ag ah ((l.length+1:Nat):Int)) rfl rfl (by decide) (fun _=>by go_simp;exact wrap_i64 (by omega)<|by omega) (fun _=>by simp[go_sem]) ?_;walk_nrm;refine aA.mu rfl rfl ?_;walk_nrm;refine aA.fQ ?_;rw[<-atG];refine aA.ctl rfl (fun _=>aEI) ?_;rw[CQ];exact hi _ _ _ _ _ _ _ _ _ _ _ _ _ _ _ _ _ _ _ _
  simp only[Ec,yT,wQ,qE,Tryz.f54,ik,fU,iQ,wO]at sW
  by_cases aQ:m.k=1
  ·have XL:Hid (m.k=1):=aQ
   refine aA.mute (aB true) rfl rfl (by decide) (fun _=>by go_simp) (fun _=>by simp[go_sem]) ?_
   clear aQ
   walk_nrm
   refine aA.mu rfl rfl ?_
   walk_nrm
   refine aA.fQ ?_
   refine aA.ctl rfl (fun _=>aEc (t:=true)<|by rfl) ?_
   obtain⟨qn,Tt,aBJ⟩:=hO.q m o7 XL
   obtain⟨κ,jC⟩:∃κ,ks[qn]? =ae κ:=⟨_,eY<|by omega⟩
   obtain⟨cells,hM,hMs,XJ⟩:=h.row
   have hts:uP (m::r)=.send qn (kH m)::uP r:=by
    show(if m.k=1 then .send m.q.toNat (kH m)::uP r else uP r)=_;rw[if_pos<|show m.k=1 from XL,Tt,Oc]
   rw[hts]
   have hcell:cells[m.q.toNat]? =ae (.chan<|ae κ.x.p.c):=by rw[Tt,Oc];exact XJ qn κ jC
   have rV:0<=m.q:=by omega
   have vV:m.q<z.np:=by omega
   have Tu:fC (l++[m])=fC l:=by
    unfold fC;rw[zD,VM (by rw[show m.k=1 from XL];decide)];simp
   clear Tt hts XJ
   refine aA.drawn (X:=fun zz a S' w'=>zz=6/\a=⟨#[ay<|ae ⟨z.xb,0,af⟩,aJ (ae ⟨z.mb,0,af⟩) z.ms.length z.mc,ay<|ae ⟨z.hv,0,af⟩,u 3,u 4,aJ (ae ⟨z.mr,0,af⟩) z.np z.np,ay<|ae ⟨z.sv,0,af⟩,ay<|ae ⟨z.ob,0,af⟩,ay<|ae ⟨z.Wg,0,af⟩,t9,t10,av,u 12,ay<|ae ⟨bb,0,af⟩,u 14,u 15,u 16,u 17,u 18,u 19,u 20,u 21,u 22,u 23,u 24,u 25,u 26,u 27,u 28,u 29,u 30,ag ah z.np,ag ah z.np,t33,t34,t35,t36,t37,t38,t39,t40,t41,t42,aJ (ae ⟨z.mb,0,af⟩) z.ms.length z.mc,ag ah z.ms.length,ag ah l.length,aB true,ay<|ae ⟨z.mb,l.length*5,af⟩,gY #[ag ah m.k,ag ah m.q,ag ah m.p,ag ah m.t,aB m.c],ay<|ae ⟨bb,0,af⟩,ag ah m.k,aB true,aB true,aJ (ae ⟨z.mr,0,af⟩) z.np z.np,ay<|ae ⟨bb,1,af⟩,ag ah m.q,ay<|ae ⟨z.mr,m.q.toNat,af⟩,.chan<|ae κ.x.p.c,gY #[ag ah m.k,ag ah m.q,ag ah m.p,ag ah m.t,aB m.c],t59,t60,t61,t62,t63,t64,t65,u 66,u 67,u 68,u 69,u 70,u 71],[]⟩/\z.oJ ks S' w'/\WgAt 177 z.Wg w' ((z.np:Int)*KK) 0/\Own S' w' z.Ba 119 5 av (fC l).length ((fC l).flatMap Ms.cs)) (I:=fun S' w'=>dZ S' w' bb #[ag ah m.k,ag ah m.q,ag ah m.p,ag ah m.t,aB m.c] 119/\dZ S' w' z.mr cells 178) (Q:=fun _ _ _=>False) rfl (by decide) (by kernel_rfl) (fun _ _ _ h=>h.elim) ?_ ?_
   ·rintro zz a S' w' ⟨rfl,rfl,h1,h2,h3⟩
    refine aA.send (X:=z.iM) (κ:=κ) (z:=dK #[]) (sh:=.send) rfl jC (fun w1=>?_) ?_
    ·rw[stepG_comm (cases:=#[scase κ.x.p.c (kH m)<|dK #[]]) (blocking:=true) (shape:=.send) (w':=w1) rfl rfl (by decide) (by go_simp;rfl)]
     congr 1
    ·rw[XG]
     walk_nrm
     refine aA.fQ ?_
     exact sW _ _ _ _ _ _ _ _ _ _ _ _ _ _ _ _ _ _ _ _ _ _ S' w' h1 h2 (by rw[Tu];exact h3) I5
   intro w1 hk
   have hI:∀(S':aN) (x1 y1:aj),(dZ S' x1 bb #[ag ah m.k,ag ah m.q,ag ah m.p,ag ah m.t,aB m.c] 119/\dZ S' x1 z.mr cells 178)->bg S' z.E x1 y1->(dZ S' y1 bb #[ag ah m.k,ag ah m.q,ag ah m.p,ag ah m.t,aB m.c] 119/\dZ S' y1 z.mr cells 178):=fun _ _ _ h1 h2=>⟨h1.1.aY h2,h1.2.aY h2⟩
   have hQ:∀(_:Act) (S':aN) (x1 y1:aj),False->bg S' z.E x1 y1->False:=fun _ _ _ _ h _=>h
   have hX:Hid (∀(zz:Nat) (a:Act) (S':aN) (w' y1:aj),(zz=6/\a=⟨#[ay<|ae ⟨z.xb,0,af⟩,aJ (ae ⟨z.mb,0,af⟩) z.ms.length z.mc,ay<|ae ⟨z.hv,0,af⟩,u 3,u 4,aJ (ae ⟨z.mr,0,af⟩) z.np z.np,ay<|ae ⟨z.sv,0,af⟩,ay<|ae ⟨z.ob,0,af⟩,ay<|ae ⟨z.Wg,0,af⟩,t9,t10,av,u 12,ay<|ae ⟨bb,0,af⟩,u 14,u 15,u 16,u 17,u 18,u 19,u 20,u 21,u 22,u 23,u 24,u 25,u 26,u 27,u 28,u 29,u 30,ag ah z.np,ag ah z.np,t33,t34,t35,t36,t37,t38,t39,t40,t41,t42,aJ (ae ⟨z.mb,0,af⟩) z.ms.length z.mc,ag ah z.ms.length,ag ah l.length,aB true,ay<|ae ⟨z.mb,l.length*5,af⟩,gY #[ag ah m.k,ag ah m.q,ag ah m.p,ag ah m.t,aB m.c],ay<|ae ⟨bb,0,af⟩,ag ah m.k,aB true,aB true,aJ (ae ⟨z.mr,0,af⟩) z.np z.np,ay<|ae ⟨bb,1,af⟩,ag ah m.q,ay<|ae ⟨z.mr,m.q.toNat,af⟩,.chan<|ae κ.x.p.c,gY #[ag ah m.k,ag ah m.q,ag ah m.p,ag ah m.t,aB m.c],t59,t60,t61,t62,t63,t64,t65,u 66,u 67,u 68,u 69,u 70,u 71],[]⟩/\z.oJ ks S' w'/\WgAt 177 z.Wg w' ((z.np:Int)*KK) 0/\Own S' w' z.Ba 119 5 av (fC l).length ((fC l).flatMap Ms.cs))->bg S' z.E w' y1->(zz=6/\a=⟨#[ay<|ae ⟨z.xb,0,af⟩,aJ (ae ⟨z.mb,0,af⟩) z.ms.length z.mc,ay<|ae ⟨z.hv,0,af⟩,u 3,u 4,aJ (ae ⟨z.mr,0,af⟩) z.np z.np,ay<|ae ⟨z.sv,0,af⟩,ay<|ae ⟨z.ob,0,af⟩,ay<|ae ⟨z.Wg,0,af⟩,t9,t10,av,u 12,ay<|ae ⟨bb,0,af⟩,u 14,u 15,u 16,u 17,u 18,u 19,u 20,u 21,u 22,u 23,u 24,u 25,u 26,u 27,u 28,u 29,u 30,ag ah z.np,ag ah z.np,t33,t34,t35,t36,t37,t38,t39,t40,t41,t42,aJ (ae ⟨z.mb,0,af⟩) z.ms.length z.mc,ag ah z.ms.length,ag ah l.length,aB true,ay<|ae ⟨z.mb,l.length*5,af⟩,gY #[ag ah m.k,ag ah m.q,ag ah m.p,ag ah m.t,aB m.c],ay<|ae ⟨bb,0,af⟩,ag ah m.k,aB true,aB true,aJ (ae ⟨z.mr,0,af⟩) z.np z.np,ay<|ae ⟨bb,1,af⟩,ag ah m.q,ay<|ae ⟨z.mr,m.q.toNat,af⟩,.chan<|ae κ.x.p.c,gY #[ag ah m.k,ag ah m.q,ag ah m.p,ag ah m.t,aB m.c],t59,t60,t61,t62,t63,t64,t65,u 66,u 67,u 68,u 69,u 70,u 71],[]⟩/\z.oJ ks S' y1/\WgAt 177 z.Wg y1 ((z.np:Int)*KK) 0/\Own S' y1 z.Ba 119 5 av (fC l).length ((fC l).flatMap Ms.cs))):=by
    rintro zz a S' w' y1 ⟨h1,h2,h3,h4,h5⟩ hk;exact⟨h1,h2,h3.aY hO pU hk,h4.of_block<|hk.ro z.Wg<|.inr rfl,h5.aY hk⟩
   have vT:=hk.trans<|bg.at S z.E w1<|w1.drawn+1
   have h2:=h.aY hO pU vT
   have ai3:=bV.of_block<|vT.ro z.Wg<|.inr rfl
   have DD:=hA.aY vT
   have qj:=hI S w _ ⟨hY,hM⟩ vT
   change qQ _ _ _ _ _ _ _ _ _ _ _ _ _ (w1.at<|w1.drawn+1)
   generalize w1.at (w1.drawn+1)=w2 at h2 ai3 DD qj⊢
   clear hk vT h bV hA hY hM sW
   simp only[GK,oq,wB,Nat.reduceAdd,DK]
   refine pR hI hQ hX (i:=0) rfl (by kernel_rfl) (by kernel_rfl) (by kernel_rfl) (by kernel_rfl) (v:=_) ⟨rfl,fun S' w' hi=>⟨by go_simp<;>rfl,fun e he=>?_⟩⟩ qj ?_
   ·have hm:=aD4 he;simp[go_sem]at hm
   walk_nrm
   refine pR hI hQ hX (i:=1) rfl (by kernel_rfl) (by kernel_rfl) (by kernel_rfl) (by kernel_rfl) (v:=ay<|ae ⟨bb,1,af⟩) ⟨rfl,fun S' w' hi=>⟨by go_simp<;>rfl,fun e he=>?_⟩⟩ qj ?_
   ·have hm:=aD4 he;simp[go_sem]at hm
   walk_nrm
   refine pR hI hQ hX (i:=2) rfl (by kernel_rfl) (by kernel_rfl) (by kernel_rfl) (by kernel_rfl) (v:=ag ah m.q) ⟨rfl,fun S' w' hi=>⟨?_,fun e he=>?_⟩⟩ qj ?_
   ·have g0:=hi.1.cell (o:=1) rfl
    go_simp
   ·have g0:=hi.1.cell (o:=1) rfl
    have hm:=aD4 he
    simp[go_sem,g0]at hm
    subst hm
    exact .inl hi.1.1
   walk_nrm
   refine pR hI hQ hX (i:=3) rfl (by kernel_rfl) (by kernel_rfl) (by kernel_rfl) (by kernel_rfl) (v:=ay<|ae ⟨z.mr,m.q.toNat,af⟩) ⟨rfl,fun S' w' hi=>⟨?_,fun e he=>?_⟩⟩ qj ?_
   ·go_simp
   ·have hm:=aD4 he
    simp[go_sem]at hm
    rw[aEE _ _ _ _ _ _ (by kernel_rfl) ⟨rV,vV⟩]at hm
    simp at hm
   walk_nrm
   refine pR hI hQ hX (i:=4) rfl (by kernel_rfl) (by kernel_rfl) (by kernel_rfl) (by kernel_rfl) (v:=.chan<|ae κ.x.p.c) ⟨rfl,fun S' w' hi=>⟨?_,fun e he=>?_⟩⟩ qj ?_
   ·have g0:=hi.2.cell (o:=m.q.toNat) hcell
    go_simp
   ·have g0:=hi.2.cell (o:=m.q.toNat) hcell
    have hm:=aD4 he
    simp[go_sem,g0]at hm
    subst hm
    exact .inl hi.2.1
   walk_nrm
   refine pR hI hQ hX (i:=5) rfl (by kernel_rfl) (by kernel_rfl) (by kernel_rfl) (by kernel_rfl) (v:=gY #[ag ah m.k,ag ah m.q,ag ah m.p,ag ah m.t,aB m.c]) ⟨rfl,fun S' w' hi=>⟨?_,fun e he=>?_⟩⟩ qj ?_
   ·have g0:=hi.1.cell (o:=0) rfl
    have g1:=hi.1.cell (o:=1) rfl
    have g2:=hi.1.cell (o:=2) rfl
    have g3:=hi.1.cell (o:=3) rfl
    have g4:=hi.1.cell (o:=4) rfl
    go_simp
   ·have g0:=hi.1.cell (o:=0) rfl
    have g1:=hi.1.cell (o:=1) rfl
    have g2:=hi.1.cell (o:=2) rfl
    have g3:=hi.1.cell (o:=3) rfl
    have g4:=hi.1.cell (o:=4) rfl
    have hm:=aD4 he
    simp[go_sem,g0,g1,g2,g3,g4]at hm
    rcases hm with rfl|rfl|rfl|rfl|rfl<;>exact .inl hi.1.1
   walk_nrm
   exact aiB (by kernel_rfl) (by kernel_rfl) ⟨rfl,rfl,h2,ai3,DD⟩
  ·have XL:Hid (m.k≠1):=aQ
   rw[show uP (m::r)=uP r from if_neg aQ]
   refine aA.mute (aB false) rfl rfl (by decide) (fun _=>by go_simp) (fun _=>by simp[go_sem]) ?_
   clear aQ
   walk_nrm
   refine aA.mu rfl rfl ?_
   walk_nrm
   refine aA.fQ ?_
   refine aA.ctl rfl (fun _=>aEc (t:=false)<|by rfl) ?_
   refine aA.sq ?_
   refine aA.reg [0,1] rfl ?_
   by_cases kL:m.k=2
   ·have acS:Hid (m.k=2):=kL
    refine aA.mute (aB true) rfl rfl (by decide) (fun _=>by go_simp) (fun _=>by simp[go_sem]) ?_
    clear kL
    walk_nrm
    refine aA.mu rfl rfl ?_
    walk_nrm
    refine aA.fQ ?_
    refine aA.ctl rfl (fun _=>aEc (t:=true)<|by rfl) ?_
    refine aA.reg [0,1,2,3,4] rfl ?_
    refine aA.mu rfl rfl ?_
    walk_nrm
    refine aA.val (gY #[ag ah m.k,ag ah m.q,ag ah m.p,ag ah m.t,aB m.c]) rfl rfl (by decide) (fun w1 aQ=>?_) (fun w1 aQ e he=>?_) ?_
    ·have hx:=hY.aY aQ
     have g0:=hx.cell (o:=0) rfl
     have g1:=hx.cell (o:=1) rfl
     have g2:=hx.cell (o:=2) rfl
     have g3:=hx.cell (o:=3) rfl
     have g4:=hx.cell (o:=4) rfl
     go_simp
    ·have hx:=hY.aY aQ
     have g0:=hx.cell (o:=0) rfl
     have g1:=hx.cell (o:=1) rfl
     have g2:=hx.cell (o:=2) rfl
     have g3:=hx.cell (o:=3) rfl
     have g4:=hx.cell (o:=4) rfl
     simp[go_sem,g0,g1,g2,g3,g4]at he
     rcases he with rfl|rfl|rfl|rfl|rfl<;>exact .inl hY.1
    walk_nrm
    refine aA.kC rfl rfl (by decide) fun w1 aQ=>?_
    replace h:=h.aY hO pU aQ
    replace bV:=bV.of_block<|aQ.ro z.Wg<|.inr rfl
    replace hA:=hA.aY aQ
    have Px:=Ij bV
    have ai4:∀b,av.ownBlock=ae b->b<w1.heap.size:=fun b hb=>h.low b<|hA.r b hb
    have atH:z.mr<w1.heap.size:=let ⟨_,h1,_⟩:=h.row;h.low _ h1.1
    refine⟨aJ (ae ⟨w1.heap.size,0,af⟩) 1 1,w1.alloc<|aC #[ag ah m.k,ag ah m.q,ag ah m.p,ag ah m.t,aB m.c] 119,.inl<|by go_simp,wL (by simp[go_sem])<|uN _,?_⟩
    have hN:=dZ.new S w1 #[ag ah m.k,ag ah m.q,ag ah m.p,ag ah m.t,aB m.c] 119
    replace bV:=bV.of_block (w₁:=w1.alloc<|aC #[ag ah m.k,ag ah m.q,ag ah m.p,ag ah m.t,aB m.c] 119)<|aD1 w1 _ _ Px
    replace hA:Own (grow S w1<|w1.alloc<|aC #[ag ah m.k,ag ah m.q,ag ah m.p,ag ah m.t,aB m.c] 119) (w1.alloc<|aC #[ag ah m.k,ag ah m.q,ag ah m.p,ag ah m.t,aB m.c] 119) z.Ba 119 5 av (fC l).length ((fC l).flatMap Ms.cs):=hA.of (fun b hb=>.inl hb) fun b hb=>aD1 w1 _ _<|ai4 b hb
    replace h:=h.alloc hO Px (aC #[ag ah m.k,ag ah m.q,ag ah m.p,ag ah m.t,aB m.c] 119) fun _=>Si rfl
    clear aQ hY ai4 atH
    generalize grow S w1 (w1.alloc<|aC #[ag ah m.k,ag ah m.q,ag ah m.p,ag ah m.t,aB m.c] 119)=S2 at*
    generalize w1.alloc (aC #[ag ah m.k,ag ah m.q,ag ah m.p,ag ah m.t,aB m.c] 119)=w at*
    generalize w1.heap.size=cc at*
    walk_nrm
    refine aA.kC rfl rfl (by decide) fun w6 rP=>?_
    have qC:=hA.aY rP
    have wM:=hN.aY rP
    replace h:=h.aY hO pU rP
    replace bV:=bV.of_block<|rP.ro z.Wg<|.inr rfl
    have IW:=h.base
    obtain⟨i0,dR,lu,NT,Vr⟩:=aEd Jo
    have DC:(fC l).length<=l.length:=GH _ _
    have Vs:((fC l).length+1)*40<=140737488355328:=by omega
    obtain⟨g,cap,w7,JF,SX,Bd,Ic,JG⟩:=aFl (P:=prog) w6 107 107 z.Ba 119 i0 _ 5 40 underlying107 dR lu NT Vr rfl (by omega) av (fC l).length ((fC l).flatMap Ms.cs) qC.row ⟨cc,0,af⟩ 1 1 m.cs rfl (aD7 wM.2) (by simp[Ms.cs,Value.oneCell']) (by omega) (by simp only[dU];omega) Vs IW _ rfl
    have Vp:=aE5 (P:=prog) w6 z.Ba 107 107 119 i0 _ 5 40 underlying107 dR lu NT Vr av (fC l).length ((fC l).flatMap Ms.cs) qC.row ⟨cc,0,af⟩ 1 1 m.cs rfl (aD7 wM.2) (by simp[Ms.cs,Value.oneCell']) (by simp only[dU];omega) Vs
    have JH:je S2 z.E w6 w7 ((Builtin.append_ #[107,107] 107 #[av,aJ (ae ⟨cc,0,af⟩) 1 1]).events prog w6 #[]):=acz Bd qC.r (fun s h5 hs hw=>((au.OT (au.Xq h5).toFit<|ok_two (SS qC.row fun k hk zz=>(hs k zz).1<|qC.r k hk) (.slice fun y hy zz=>by cases hy;exact(hs _ zz).1 wM.1)).DY hw JF fun b hb=>(hs b hb).2).2) fun e he=>by
     rcases Vp e he with⟨ad,h1,h2|h2⟩|⟨m,rfl,h2⟩
     ·exact(show mM _ _ _ by unfold mM;rw[h1];exact .inl<|.inl<|h2.2▸wM.1)
     ·exact(show mM _ _ _ by unfold mM;rw[h1];exact .inl<|.inl<|qC.r _ h2.symm)
     ·exact h2
    refine⟨aJ (ae ⟨g,0,af⟩) ((fC l).length+1) cap,w7,.inl ?_,?_,?_⟩
    ·exact XD (.tmp 61) (.tmp 63) 107 rfl rfl rfl JF
    ·rw[aEW (.tmp 61) (.tmp 63) 107 rfl rfl rfl]
     exact JH
    have ai5:=Ij bV
    have aBK:z.mr<w6.heap.size:=let ⟨_,h1,_⟩:=h.row;h.low _ h1.1
    have SY:(grow S2 w6 w7) g:=by
     rcases Ic with h1|h1
     ·exact .inl<|qC.r g h1
     ·exact .inr ⟨by omega,JG⟩
    have h7:=h.grown hl hO ai5 Bd fun k hk=>⟨qC.r k hk,I5 k hk⟩
    have hgm:g≠z.mr:=by
     rcases Ic with h1|h1
     ·exact I5 g h1
     ·omega
    have atI:WgAt 177 z.Wg w7 ((z.np:Int)*KK) 0:=bV.of_block<|Bd.block _ ai5 fun e=>h.CS<|qC.r _ e.symm
    have Tu:fC (l++[m])=fC l++[m]:=by
     unfold fC;rw[zD,ae9 (by simp;exact acS)];rfl
    have hA7:Own (grow S2 w6 w7) w7 z.Ba 119 5 (aJ (ae ⟨g,0,af⟩) ((fC l).length+1) cap) (fC<|l++[m]).length ((fC<|l++[m]).flatMap Ms.cs):=by
     rw[Tu];exact⟨by simpa using SX,fun b hb=>by simp only[Value.ownBlock,gu]at hb;exact hb▸SY⟩
    generalize grow S2 w6 w7=S7 at*
    walk_nrm
    refine aA.mu rfl rfl ?_
    walk_nrm
    refine aA.fQ ?_
    exact sW _ _ _ _ _ _ _ _ _ _ _ _ _ _ _ _ _ _ _ _ _ _ S7 w7 h7 atI hA7 (fun b hb=>by simp only[Value.ownBlock,gu]at hb;exact hb▸hgm)
   ·have acS:Hid (m.k≠2):=kL
    refine aA.mute (aB false) rfl rfl (by decide) (fun _=>by go_simp) (fun _=>by simp[go_sem]) ?_
    clear kL
    walk_nrm
    refine aA.mu rfl rfl ?_
    walk_nrm
    refine aA.fQ ?_
    refine aA.ctl rfl (fun _=>aEc (t:=false)<|by rfl) ?_
    refine aA.ctl rfl (fun _=>aEe) ?_
    have Tu:fC (l++[m])=fC l:=by
     unfold fC;rw[zD,VM (by simp;exact acS)];simp
    refine sW _ _ _ _ _ _ _ _ _ _ _ _ _ _ _ _ _ _ _ _ _ _ S w h bV (by rw[Tu];exact hA) I5
end Twin
end
section
namespace Twin
open Go Go.Proofs Go.Conc Go.RowKit Go.Maps fJ
open Go.ConcR (WgAt KK DC0)
open Go.ConcN (WgLive)
noncomputable def MB:Array Oper:=match iQ (fU Ed)with| .region _ o _=>o|_=>#[]
noncomputable def Ee:Code:=fU<|fU Ed
noncomputable def dH(cs:List bu)(a:Act):Goroutine:=G ((base 54).at (a.put (ae 67)<|dK #[]) [bQ MB [],.code Ee]) cs
noncomputable def CU(z:Gs)(cs:List bu)(a:Act):bF->aj->Prop:=SK link z.Wg ((base 54).at a [bQ MB [0],.code Ee]) cs
def Gs.Mid(z:Gs)(u:Nat->az)(a:Act)(S:aN)(w:aj):Prop:=
 ∃t9 t10 t33 t34 t35 t36 t37 t38 t39 t40 t41 t42 t13 t46 t47 t48 t49 t50 t51 t52 t53 t54 t55 t56 t57 t58 t59 t60 t61 t62 t63 t64 t65 av:az,a=⟨#[ay<|ae ⟨z.xb,0,af⟩,.slice z.ma z.ms.length z.mc,ay<|ae ⟨z.hv,0,af⟩,u 3,u 4,aJ (ae ⟨z.mr,0,af⟩) z.np z.np,ay<|ae ⟨z.sv,0,af⟩,ay<|ae ⟨z.ob,0,af⟩,ay<|ae ⟨z.Wg,0,af⟩,t9,t10,av,u 12,t13,u 14,u 15,u 16,u 17,u 18,u 19,u 20,u 21,u 22,u 23,u 24,u 25,u 26,u 27,u 28,u 29,u 30,ag ah z.np,ag ah z.np,t33,t34,t35,t36,t37,t38,t39,t40,t41,t42,.slice z.ma z.ms.length z.mc,ag ah z.ms.length,ag ah z.ms.length,t46,t47,t48,t49,t50,t51,t52,t53,t54,t55,t56,t57,t58,t59,t60,t61,t62,t63,t64,t65,.chan<|ae z.ov,u 67,u 68,u 69,u 70,u 71],[]⟩/\z.Bf w/\Own S w z.Ba 119 5 av (fC z.ms).length ((fC z.ms).flatMap Ms.cs)
def Gs.cZ(z:Gs)(k:Kd)(l:List az)(v:az)(S:aN)(w:aj):Prop:=∃lm:List Ms,l=lm.map kH/\k.x.p.At (Md z.R k.x) lm v S w
variable{z:Gs}{k:Kd}{l:List az}{v:az}{S:aN}{w:aj}
def Gs.cZ.aY{w1:aj}(h:z.cZ k l v S w)(hk:bg S (Md z.R k.x) w w1):z.cZ k l v S w1:=let ⟨lm,h1,h2⟩:=h;⟨lm,h1,h2.aY hk⟩
def Gs.cZ.named(h:z.cZ k l v S w)(B:au.cO)(hB:∀b,B.bZ b->¬S b):au.aG B v:=let ⟨_,_,h2⟩:=h;SS h2.oV.row fun b hb hx=>hB b hx<|h2.oV.r b hb
def Gs.fin{z:Gs}(hO:z.Ok){ks:List Kd}(hg:z.Good ks)(i:Nat)(k:Kd)(hk:ks[i]? =ae k)(l:List az)(S:aN)(g:bF)(w:aj)(h:z.iM.Fin k l S g w):∃v,z.iM.Bc 177 z.np i v g w/\z.cZ k l v S w:=by
 obtain⟨p,nb,cb,c,hp,rfl⟩:=hg i k hk;obtain⟨lm,v,rfl,rfl,hA,_⟩:=h;have hi:i<z.np:=(dM.1 hp).1;refine⟨v,?_,lm,rfl,hA⟩;rcases hA.oV.row.2 with h2|⟨g,cap,cur,rfl,_⟩
 ·obtain rfl:=h2.1;exact aiU (X:=z.iM) (x:=z.wx i p nb cb c) rfl rfl rfl hO.XI hi
 ·exact aiU (X:=z.iM) (x:=z.wx i p nb cb c) rfl rfl rfl hO.XI hi
open Go.Conc.Lib Go.ConcR.Gen Go.ConcN.Gen in
def atK(v1:az):#[v1]++Array.replicate ((waitFn link).ntmps- #[v1].size) ai=#[v1]++Array.replicate 83 undef:=by
 kernel_rfl
open Go.ConcR (Payload)in
def atL [Payload]{K:Type}{X:bK K}{ty:dw}{n:Nat}{Anch:bF->aj->Prop}{Mid:aN->aj->Prop}{cZ:K->List az->az->aN->aj->Prop}{Good:List K->Prop}{ks:List K}{E E2:dD}{S:aN}{w:aj}{b:bu}{a:Act}{k:List Item}{cs:List bu}{ops:Array Oper}{i:Nat}{rest:List Nat}{o:Oper}{x:Operand}{lK:Array dw}
 (ho:ops[i]? =ae o)(hw:Region.wanted o (yielded ops a.tmps)=true)(hk:b.kind≠.early)(hq:(X.P.funcs[b.fn]?).any (·.norace)=false)(aO:o.op=.call {callee:=.builtin .close,args:=#[x],argTypes:=lK})(hx:a.eval x=.chan (ae X.ov))
 (hlen:ks.length=n)(ZA:Good ks)(bV:WgAt ty X.Wg w (n*KK) 0)(zt:∀(i:Nat) (k:K),ks[i]? =ae k->∀l S g w,X.Fin k l S g w->∃v,X.Bc ty n i v g w/\cZ k l v S w)
 (IQ:∀b,E2.ro b->E.ro b/\b≠X.Wg)(Vb:∀b,E2.rd b->E.rd b)(hR:∀cap s r,w.heap[X.ov]? =ae (.chan cap #[] false s r false)->aA X.P true E2 (fun S g w=>X.AtKd ty Anch g w/\Mid S w) S (G (b.at (a.put o.dst<|dK #[])<|bQ ops rest::k) cs) {w with heap:=w.heap.setIfInBounds X.ov<|.chan cap #[] true s r false}):
 X.AtClose ty n Anch Mid cZ Good ks E S (G (b.at a<|bQ ops (i::rest)::k) cs) w:=by
 refine⟨hlen,ZA,bV,?_,zt,G (b.at (a.put o.dst<|dK #[])<|bQ ops rest::k) cs,E2,rfl,IQ,Vb,fun cap s r Ak=>⟨?_,hR cap s r Ak⟩⟩
 ·simp[mayWake,G,Frame.at,ho,aO]
 ·have gU:(dP a.eval o).run X.P w=.ok (.value<|dK #[]) {w with heap:=w.heap.setIfInBounds X.ov<|.chan cap #[] true s r false}:=by
   unfold dP;simp only[aO,resolve,invoke,builtin,Sem.run_bind,Sem.run_pure,Result.andThen_ok,afh,uF,wC,hx,run_close_open _ _ Ak]
  have dS:(dP a.eval o).events X.P w #[]=#[⟨.obj X.ov,false,true⟩,⟨.obj X.ov,true,true⟩]:=by
   unfold dP;simp[aO,resolve,invoke,builtin,hx,events_close_open _ _ Ak]
  rw[aEF ho hw hk gU];congr 1;unfold listed;rw[dS];exact seen_eq hq<|by simp
open Go.Conc.Lib Go.ConcR.Gen Go.ConcN.Gen in
def atM{K:Type}{X:bK K}{E:dD}{S:aN}{w:aj}{Mid:aN->aj->Prop}{b:bu}{a:Act}{ops:Array Oper}{i:Nat}{rest:List Nat}{k:List Item}{cs:List bu}{o:Oper}{args:Array Operand}{lK:Array dw}(hP:X.P=prog)(ho:ops[i]? =ae o)(hw:Region.wanted o (yielded ops a.tmps)=true)(hk:b.kind≠.early)(aO:o.op=.call {callee:=.value<|.func 115,args,argTypes:=lK})(hv:args.map a.eval=#[ay<|ae ⟨X.Wg,0,af⟩])(hM:∀w1,bg S E w w1->Mid S w1):
 aA X.P true E (fun S g w=>X.AtKd 177 (SK link X.Wg (b.at a<|bQ ops (i::rest)::k) cs) g w/\Mid S w) S (G (b.at a<|bQ ops (i::rest)::k) cs) w:=by
 have H:WgLib X.P link:=hP▸SI;refine aA.call ho hw hk aO H.f_wait (nm_wait link) rfl ?_;rw[hv,atK];exact atm (L:=link) H hM
def Gs.E2(z:Gs):dD:=⟨z.R,z.R,fun _ h=>h⟩
open Go.Conc.Lib Go.ConcR.Gen Go.ConcN.Gen in
def atN{z:Gs}{ks:List Kd}{u:Nat->az}{cs:List bu}(hO:z.Ok)(hl:ks.length=z.np)(hg:z.Good ks)(t9 t10 t33 t34 t35 t36 t37 t38 t39 t40 t41 t42 t13 t46 t47 t48 t49 t50 t51 t52 t53 t54 t55 t56 t57 t58 t59 t60 t61 t62 t63 t64 t65 av:az)(S:aN)(w:aj)(h:z.oJ ks S w)(bV:WgAt 177 z.Wg w ((z.np:Int)*KK) 0)(hA:Own S w z.Ba 119 5 av (fC z.ms).length ((fC z.ms).flatMap Ms.cs)):
 aA prog true z.E (z.iM.jY (fun ks E S g w=>∃a,z.iM.AtClose 177 z.np (CU z cs a) (z.Mid u a) z.cZ z.Good ks E S g w) [] ks 0 z.E) S (G ((base 54).at ⟨#[ay<|ae ⟨z.xb,0,af⟩,.slice z.ma z.ms.length z.mc,ay<|ae ⟨z.hv,0,af⟩,u 3,u 4,aJ (ae ⟨z.mr,0,af⟩) z.np z.np,ay<|ae ⟨z.sv,0,af⟩,ay<|ae ⟨z.ob,0,af⟩,ay<|ae ⟨z.Wg,0,af⟩,t9,t10,av,u 12,t13,u 14,u 15,u 16,u 17,u 18,u 19,u 20,u 21,u 22,u 23,u 24,u 25,u 26,u 27,u 28,u 29,u 30,ag ah z.np,ag ah z.np,t33,t34,t35,t36,t37,t38,t39,t40,t41,t42,.slice z.ma z.ms.length z.mc,ag ah z.ms.length,ag ah z.ms.length,t46,t47,t48,t49,t50,t51,t52,t53,t54,t55,t56,t57,t58,t59,t60,t61,t62,t63,t64,t65,u 66,u 67,u 68,u 69,u 70,u 71],[]⟩ [.code Ed]) cs) w:=by
 have pU:∀b,z.R b->z.E.ro b:=fun b hb=>.inl hb;have xB:∀(S:aN) (w:aj),z.Bf w->Own S w z.Ba 119 5 av (fC z.ms).length ((fC z.ms).flatMap Ms.cs)->z.Mid u ⟨#[ay<|ae ⟨z.xb,0,af⟩,.slice z.ma z.ms.length z.mc,ay<|ae ⟨z.hv,0,af⟩,u 3,u 4,aJ (ae ⟨z.mr,0,af⟩) z.np z.np,ay<|ae ⟨z.sv,0,af⟩,ay<|ae ⟨z.ob,0,af⟩,ay<|ae ⟨z.Wg,0,af⟩,t9,t10,av,u 12,t13,u 14,u 15,u 16,u 17,u 18,u 19,u 20,u 21,u 22,u 23,u 24,u 25,u 26,u 27,u 28,u 29,u 30,ag ah z.np,ag ah z.np,t33,t34,t35,t36,t37,t38,t39,t40,t41,t42,.slice z.ma z.ms.length z.mc,ag ah z.ms.length,ag ah z.ms.length,t46,t47,t48,t49,t50,t51,t52,t53,t54,t55,t56,t57,t58,t59,t60,t61,t62,t63,t64,t65,.chan<|ae z.ov,u 67,u 68,u 69,u 70,u 71],[]⟩ S w:=fun S w h1 h2=>⟨t9,t10,t33,t34,t35,t36,t37,t38,t39,t40,t41,t42,t13,t46,t47,t48,t49,t50,t51,t52,t53,t54,t55,t56,t57,t58,t59,t60,t61,t62,t63,t64,t65,av,rfl,h1,h2⟩;have di:∀(S:aN) (g:bF) (w:aj),g.status=.running->(∃a,z.iM.AtClose 177 z.np (CU z cs a) (z.Mid u a) z.cZ z.Good ks z.E S g w)->z.iM.jY (fun ks E S g w=>∃a,z.iM.AtClose 177 z.np (CU z cs a) (z.Mid u a) z.cZ z.Good ks E S g w) [] ks 0 z.E S g w:=fun S g w h1 h2=>⟨rfl,h1,h2⟩;generalize z.iM.jY (fun ks E S g w=>∃a,z.iM.AtClose 177 z.np (CU z cs a) (z.Mid u a) z.cZ z.Good ks E S g w) [] ks 0 z.E=St at di⊢
 simp only[CU,MB,Ee,Ed,yT,wQ,qE,Tryz.f54,ik,fU,iQ]at di⊢
 refine aA.sq ?_;refine aA.reg [0,1] rfl ?_;refine aA.val (.chan<|ae z.ov) rfl rfl (by decide) (fun w1 aQ=>?_) (fun w1 aQ e he=>?_) ?_
 ·have q0:=(h.aY hO pU aQ).jM.ob;go_simp
 ·have q0:=(h.aY hO pU aQ).jM.ob;simp[go_sem,q0]at he;subst he;exact .inr ⟨hO.Pq,rfl⟩
 walk_nrm;refine aA.stop fun w1 aQ=>di _ _ _ rfl ⟨⟨#[ay<|ae ⟨z.xb,0,af⟩,.slice z.ma z.ms.length z.mc,ay<|ae ⟨z.hv,0,af⟩,u 3,u 4,aJ (ae ⟨z.mr,0,af⟩) z.np z.np,ay<|ae ⟨z.sv,0,af⟩,ay<|ae ⟨z.ob,0,af⟩,ay<|ae ⟨z.Wg,0,af⟩,t9,t10,av,u 12,t13,u 14,u 15,u 16,u 17,u 18,u 19,u 20,u 21,u 22,u 23,u 24,u 25,u 26,u 27,u 28,u 29,u 30,ag ah z.np,ag ah z.np,t33,t34,t35,t36,t37,t38,t39,t40,t41,t42,.slice z.ma z.ms.length z.mc,ag ah z.ms.length,ag ah z.ms.length,t46,t47,t48,t49,t50,t51,t52,t53,t54,t55,t56,t57,t58,t59,t60,t61,t62,t63,t64,t65,.chan<|ae z.ov,u 67,u 68,u 69,u 70,u 71],[]⟩,atL (X:=z.iM) (E2:=z.E2) rfl rfl (by decide) (by kernel_rfl) rfl rfl hl hg (bV.of_block<|aQ.ro z.Wg<|.inr rfl) (Gs.fin hO hg) (fun b hb=>⟨.inl hb,fun e=>hO.CS<|show z.R z.Wg from(show b=z.Wg from e)▸hb⟩) (fun b hb=>hb) fun cap s r Ak=>?_⟩;have h1:=(h.aY hO pU aQ).jM;have Dz:=hA.aY aQ;have Az:¬S z.ov:=h.uO.1;have zn:bg S z.E2 w1 ({w1 with heap:=w1.heap.setIfInBounds z.iM.ov<|.chan cap #[] true s r false}:aj):=⟨rfl,rfl,rfl,by simp,fun b hb=>iw fun e=>Az<|show S z.ov from(show z.ov=b from e)▸hb,fun b hb=>iw fun e=>hO.uO<|show z.R z.ov from(show z.ov=b from e)▸hb⟩;have h2:=h1.aY hO (E:=z.E2) (fun b hb=>hb) zn;have DD:=Dz.aY zn;generalize({w1 with heap:=w1.heap.setIfInBounds z.iM.ov<|.chan cap #[] true s r false}:aj)=w2 at h2 DD⊢
 clear zn Ak;have ED:∀w3,bg S z.E2 w2 w3->z.Mid u ⟨#[ay<|ae ⟨z.xb,0,af⟩,.slice z.ma z.ms.length z.mc,ay<|ae ⟨z.hv,0,af⟩,u 3,u 4,aJ (ae ⟨z.mr,0,af⟩) z.np z.np,ay<|ae ⟨z.sv,0,af⟩,ay<|ae ⟨z.ob,0,af⟩,ay<|ae ⟨z.Wg,0,af⟩,t9,t10,av,u 12,t13,u 14,u 15,u 16,u 17,u 18,u 19,u 20,u 21,u 22,u 23,u 24,u 25,u 26,u 27,u 28,u 29,u 30,ag ah z.np,ag ah z.np,t33,t34,t35,t36,t37,t38,t39,t40,t41,t42,.slice z.ma z.ms.length z.mc,ag ah z.ms.length,ag ah z.ms.length,t46,t47,t48,t49,t50,t51,t52,t53,t54,t55,t56,t57,t58,t59,t60,t61,t62,t63,t64,t65,.chan<|ae z.ov,u 67,u 68,u 69,u 70,u 71],[]⟩ S w3:=fun w3 hk=>xB S w3 (h2.aY hO (fun b hb=>hb) hk)<|DD.aY hk;walk_nrm;refine aA.fQ ?_;refine aA.sq ?_;refine aA.reg [0] rfl ?_;exact atM (X:=z.iM) rfl rfl rfl (by decide) rfl (by walk_nrm;rfl) ED
end Twin
end
section
namespace Twin
open Go Go.Proofs Go.Conc Go.RowKit Go.Maps fJ
open Go.ConcR (WgAt KK DC0)
variable{z:Gs}{u:Nat->az}{cs:List bu}{S:aN}{w:aj}
def atO(hO:z.Ok)(h:z.oJ [] S w)(bV:WgAt 177 z.Wg w 0 0):
 aA prog true z.E (z.iM.jY (fun ks E S g w=>∃a,z.iM.AtClose 177 z.np (CU z cs a) (z.Mid u a) z.cZ z.Good ks E S g w) (FM 0 z.np++uP z.ms) [] 0 z.E) S (G ((base 54).at ⟨#[ay<|ae ⟨z.xb,0,af⟩,.slice z.ma z.ms.length z.mc,ay<|ae ⟨z.hv,0,af⟩,u 3,u 4,aJ (ae ⟨z.mr,0,af⟩) z.np z.np,ay<|ae ⟨z.sv,0,af⟩,ay<|ae ⟨z.ob,0,af⟩,ay<|ae ⟨z.Wg,0,af⟩,u 9,u 10,u 11,u 12,u 13,u 14,u 15,u 16,u 17,u 18,u 19,u 20,u 21,u 22,u 23,u 24,u 25,u 26,u 27,u 28,u 29,u 30,ag ah z.np,ag ah 0,u 33,u 34,u 35,u 36,u 37,u 38,u 39,u 40,u 41,u 42,u 43,u 44,u 45,u 46,u 47,u 48,u 49,u 50,u 51,u 52,u 53,u 54,u 55,u 56,u 57,u 58,u 59,u 60,u 61,u 62,u 63,u 64,u 65,u 66,u 67,u 68,u 69,u 70,u 71],[]⟩ [.code Ii,.inLoop Ii,.inBlock 0,.code yT]) cs) w:=by
 have hR:=atu (End:=fun ks E S g w=>∃a,z.iM.AtClose 177 z.np (CU z cs a) (z.Mid u a) z.cZ z.Good ks E S g w) (ts:=uP z.ms) (u:=u) (cs:=cs) hO (fun i=>acP i z.ms fun m hm hk=>let ⟨j,hj,_⟩:=hO.q m hm hk;⟨j,hj⟩) ?_ z.np [] (u 9) (u 10) (u 33) (u 34) (u 35) (u 36) (u 37) (u 38) (u 39) (u 40) (u 41) (u 42) S w (by simp) (fun i k hk=>by simp at hk) h<|by simpa using bV
 ·exact hR
 intro ks t9 t10 t33 t34 t35 t36 t37 t38 t39 t40 t41 t42 S w hl hg h bV;have sW:=fun t13 t46 t47 t48 t49 t50 t51 t52 t53 t54 t55 t56 t57 t58 t59 t60 t61 t62 t63 t64 t65 av S w h1 h2 h3=>atN (u:=u) (cs:=cs) hO hl hg t9 t10 t33 t34 t35 t36 t37 t38 t39 t40 t41 t42 t13 t46 t47 t48 t49 t50 t51 t52 t53 t54 t55 t56 t57 t58 t59 t60 t61 t62 t63 t64 t65 av S w h1 h2 h3;have Gv:=atD (End:=fun ks E S g w=>∃a,z.iM.AtClose 177 z.np (CU z cs a) (z.Mid u a) z.cZ z.Good ks E S g w) (ks:=ks) (u:=u) (t9:=t9) (t10:=t10) (t33:=t33) (t34:=t34) (t35:=t35) (t36:=t36) (t37:=t37) (t38:=t38) (t39:=t39) (t40:=t40) (t41:=t41) (t42:=t42) (cs:=cs) hO hl (fun t13 t46 t47 t48 t49 t50 t51 t52 t53 t54 t55 t56 t57 t58 t59 t60 t61 t62 t63 t64 t65 av S w h1 h2 h3 _=>sW t13 t46 t47 t48 t49 t50 t51 t52 t53 t54 t55 t56 t57 t58 t59 t60 t61 t62 t63 t64 t65 av S w h1 h2 h3) z.ms [] (u 13) (u 46) (u 47) (u 48) (u 49) (u 50) (u 51) (u 52) (u 53) (u 54) (u 55) (u 56) (u 57) (u 58) (u 59) (u 60) (u 61) (u 62) (u 63) (u 64) (u 65) (aJ af 0 0) S w rfl h bV ⟨aD9 _ _ _ _,by simp[Value.ownBlock]⟩ (by simp[Value.ownBlock]);generalize z.iM.jY (fun ks E S g w=>∃a,z.iM.AtClose 177 z.np (CU z cs a) (z.Mid u a) z.cZ z.Good ks E S g w) (uP z.ms) ks 0 z.E=St at Gv⊢
 clear sW;generalize hI2:Item.code Ed=I2 at Gv;simp only[Ec,Ed,yT,wQ,qE,Tryz.f54,ik,fU,iQ,wO]at Gv hI2⊢
 refine aA.sq ?_;refine aA.reg [0] rfl ?_;refine aA.mu rfl rfl ?_;walk_nrm;refine aA.fQ ?_;refine aA.sq ?_;refine aA.sq ?_;refine aA.reg [0,1,2] rfl ?_;refine aA.mu rfl rfl ?_;walk_nrm;refine aA.mu rfl rfl ?_;walk_nrm;refine aA.mu rfl rfl ?_;walk_nrm;refine aA.fQ ?_;refine aA.ctl rfl (fun _=>aEg) ?_;refine aA.ctl rfl (fun _=>aEO) ?_;rw[hI2];exact Gv
noncomputable def Ik:Array Oper:=match iQ (fU<|fU<|fU<|fU qE)with| .region _ o _=>o|_=>#[]
def fM(z:Gs)(u:Nat->az):Nat->Value:=(fun i=>match i with|27=>ay (ae ⟨z.xb,0,af⟩)|28=>ay (ae ⟨z.xb,0,af⟩)|29=>ay (ae ⟨z.xb,68,af⟩)|30=>aJ (ae ⟨z.pb,0,af⟩) z.np z.pc|i=>u i)
def atP(z:Gs)(u:Nat->az):#[ay<|ae ⟨z.xb,0,af⟩,.slice z.ma z.ms.length z.mc,ay<|ae ⟨z.hv,0,af⟩,u 3,u 4,aJ (ae ⟨z.mr,0,af⟩) z.np z.np,ay<|ae ⟨z.sv,0,af⟩,ay<|ae ⟨z.ob,0,af⟩,ay<|ae ⟨z.Wg,0,af⟩,u 9,u 10,u 11,u 12,u 13,u 14,u 15,u 16,u 17,u 18,u 19,u 20,u 21,u 22,u 23,u 24,u 25,u 26,ay<|ae ⟨z.xb,0,af⟩,ay<|ae ⟨z.xb,0,af⟩,ay<|ae ⟨z.xb,68,af⟩,aJ (ae ⟨z.pb,0,af⟩) z.np z.pc,ag ah z.np,ag ah 0,u 33,u 34,u 35,u 36,u 37,u 38,u 39,u 40,u 41,u 42,u 43,u 44,u 45,u 46,u 47,u 48,u 49,u 50,u 51,u 52,u 53,u 54,u 55,u 56,u 57,u 58,u 59,u 60,u 61,u 62,u 63,u 64,u 65,u 66,u 67,u 68,u 69,u 70,u 71]=#[ay<|ae ⟨z.xb,0,af⟩,.slice z.ma z.ms.length z.mc,ay<|ae ⟨z.hv,0,af⟩,fM z u 3,fM z u 4,aJ (ae ⟨z.mr,0,af⟩) z.np z.np,ay<|ae ⟨z.sv,0,af⟩,ay<|ae ⟨z.ob,0,af⟩,ay<|ae ⟨z.Wg,0,af⟩,fM z u 9,fM z u 10,fM z u 11,fM z u 12,fM z u 13,fM z u 14,fM z u 15,fM z u 16,fM z u 17,fM z u 18,fM z u 19,fM z u 20,fM z u 21,fM z u 22,fM z u 23,fM z u 24,fM z u 25,fM z u 26,fM z u 27,fM z u 28,fM z u 29,fM z u 30,ag ah z.np,ag ah 0,fM z u 33,fM z u 34,fM z u 35,fM z u 36,fM z u 37,fM z u 38,fM z u 39,fM z u 40,fM z u 41,fM z u 42,fM z u 43,fM z u 44,fM z u 45,fM z u 46,fM z u 47,fM z u 48,fM z u 49,fM z u 50,fM z u 51,fM z u 52,fM z u 53,fM z u 54,fM z u 55,fM z u 56,fM z u 57,fM z u 58,fM z u 59,fM z u 60,fM z u 61,fM z u 62,fM z u 63,fM z u 64,fM z u 65,fM z u 66,fM z u 67,fM z u 68,fM z u 69,fM z u 70,fM z u 71]:=by kernel_rfl
def atQ(hO:z.Ok)(h:z.oJ [] S w)(bV:WgAt 177 z.Wg w 0 0):
 aA prog true z.E (z.iM.jY (fun ks E S g w=>∃a,z.iM.AtClose 177 z.np (CU z cs a) (z.Mid (fM z u) a) z.cZ z.Good ks E S g w) (FM 0 z.np++uP z.ms) [] 0 z.E) S (G ((base 54).at ⟨#[ay<|ae ⟨z.xb,0,af⟩,.slice z.ma z.ms.length z.mc,ay<|ae ⟨z.hv,0,af⟩,u 3,u 4,aJ (ae ⟨z.mr,0,af⟩) z.np z.np,ay<|ae ⟨z.sv,0,af⟩,ay<|ae ⟨z.ob,0,af⟩,ay<|ae ⟨z.Wg,0,af⟩,u 9,u 10,u 11,u 12,u 13,u 14,u 15,u 16,u 17,u 18,u 19,u 20,u 21,u 22,u 23,u 24,u 25,u 26,u 27,u 28,u 29,u 30,u 31,u 32,u 33,u 34,u 35,u 36,u 37,u 38,u 39,u 40,u 41,u 42,u 43,u 44,u 45,u 46,u 47,u 48,u 49,u 50,u 51,u 52,u 53,u 54,u 55,u 56,u 57,u 58,u 59,u 60,u 61,u 62,u 63,u 64,u 65,u 66,u 67,u 68,u 69,u 70,u 71],[]⟩ [bQ Ik [],.code wQ]) cs) w:=by
 have ZV:=atO (u:=fM z u) (cs:=cs) hO h bV;rw[<-atP]at ZV;generalize z.iM.jY (fun ks E S g w=>∃a,z.iM.AtClose 177 z.np (CU z cs a) (z.Mid (fM z u) a) z.cZ z.Good ks E S g w) (FM 0 z.np++uP z.ms) [] 0 z.E=St at ZV⊢
 have pU:∀b,z.R b->z.E.ro b:=fun b hb=>.inl hb;simp only[Ii,yT,wQ,Ik,qE,Tryz.f54,ik,fU,iQ,wO]at ZV⊢
 refine aA.fQ ?_;refine aA.sq ?_;refine aA.sq ?_;refine aA.reg [0,1,2,3,4,5] rfl ?_;refine aA.val (ay<|ae ⟨z.xb,0,af⟩) rfl rfl (by decide) (fun w1 aQ=>?_) (fun w1 aQ e he=>?_) ?_
 ·have q0:=(h.aY hO pU aQ).jM.hv;go_simp
 ·have q0:=(h.aY hO pU aQ).jM.hv;simp[go_sem,q0]at he;subst he;exact .inr ⟨hO.Pn,rfl⟩
 walk_nrm;refine aA.mu rfl rfl ?_;walk_nrm;refine aA.mute (ay<|ae ⟨z.xb,68,af⟩) rfl rfl (by decide) (fun _=>by go_simp<;>rfl) (fun _=>by simp[go_sem]) ?_;walk_nrm;refine aA.val (aJ (ae ⟨z.pb,0,af⟩) z.np z.pc) rfl rfl (by decide) (fun w1 aQ=>?_) (fun w1 aQ e he=>?_) ?_
 ·have q0:=(h.aY hO pU aQ).jM.ps;go_simp
 ·have q0:=(h.aY hO pU aQ).jM.ps;simp[go_sem,q0]at he;subst he;exact .inr ⟨hO.Po,rfl⟩
 walk_nrm;refine aA.mute (ag ah z.np) rfl rfl (by decide) (fun _=>by go_simp<;>rfl) (fun _=>by simp[go_sem]) ?_;walk_nrm;refine aA.mu rfl rfl ?_;walk_nrm;refine aA.fQ ?_;refine aA.ctl rfl (fun _=>aEg) ?_;refine aA.ctl rfl (fun _=>aEO) ?_;exact ZV
end Twin
end
section
namespace Twin
open Go Go.Proofs Go.Conc Go.RowKit Go.Maps fJ
open Go.ConcR (WgAt KK DC0)
open Go.ConcN (WgLive PayAt Has)
def ai6(fo s:Nat->Prop):au.tV (au.bJ fo s)=lh s:=by
 funext l;cases l<;>first|rfl|exact propext ⟨fun h=>h.1,fun h=>⟨h,.inl h⟩⟩
structure Gs.ai7(z:Gs)(S:aN)(w:aj):Prop where
 PD:z.oJ [] S w
 own:∀b,S b->b≠z.Wg/\b≠z.C/\b≠z.ov/\¬(z.iG b\/z.zO b)
 rd:∀b,z.R b->¬z.iG b
 cl:z.C<w.heap.size
 ns:¬(z.iG z.Wg\/z.zO z.Wg)/\¬(z.iG z.C\/z.zO z.C)/\¬(z.iG z.ov\/z.zO z.ov)
 ne:z.Wg≠z.ov/\z.C≠z.ov
 over:∃cap s r,w.heap[z.ov]? =ae (.chan cap #[] false s r false)
 pay:∃cs:Array az,w.heap[z.C]? =ae (.cells cs 107)/\cs.size=z.np
 wg:WgAt 177 z.Wg w 0 0
 pM:au.jB (fun b=>(z.iG b\/z.zO b)\/b=z.Wg) w
def atS{z:Gs}{u:Nat->az}{cs:List bu}{S:aN}{w:aj}{gs:Array bF}{sl:Option (Nat×Nat)}{t:Trace}{q:Nat->Nat}(hO:z.Ok)(h:z.ai7 S w)(hm:z.m0=gs.size)
 (ha:gs[0]? =ae (G ((base 54).at ⟨#[ay<|ae ⟨z.xb,0,af⟩,.slice z.ma z.ms.length z.mc,ay<|ae ⟨z.hv,0,af⟩,u 3,u 4,aJ (ae ⟨z.mr,0,af⟩) z.np z.np,ay<|ae ⟨z.sv,0,af⟩,ay<|ae ⟨z.ob,0,af⟩,ay<|ae ⟨z.Wg,0,af⟩,u 9,u 10,u 11,u 12,u 13,u 14,u 15,u 16,u 17,u 18,u 19,u 20,u 21,u 22,u 23,u 24,u 25,u 26,u 27,u 28,u 29,u 30,u 31,u 32,u 33,u 34,u 35,u 36,u 37,u 38,u 39,u 40,u 41,u 42,u 43,u 44,u 45,u 46,u 47,u 48,u 49,u 50,u 51,u 52,u 53,u 54,u 55,u 56,u 57,u 58,u 59,u 60,u 61,u 62,u 63,u 64,u 65,u 66,u 67,u 68,u 69,u 70,u 71],[]⟩ [bQ Ik [],.code wQ]) cs))(hL:Leavers prog t gs q)(hP:Past (au.tV<|au.bJ z.zO z.iG) w.heap.size t):
 ∃a M gs1 w1 kM t1 q1 ks S1 Sw G1,runNT prog M (crowd gs w sl) t=(.next<|crowd gs1 w1 kM,t1)/\gs1[0]? =ae (dH cs a)/\Leavers prog t1 gs1 q1/\Past (au.tV<|au.bJ z.zO fun b=>z.iG b\/b=z.Wg) w1.heap.size t1/\z.Mid (fM z u) a S1 w1/\ks.length=z.np/\z.Good ks/\(∃E1,z.iM.Mem ks E1 S1 G1 Sw w1)/\
  PayAt z.C z.np w1/\au.jB (fun b=>(z.iG b\/b=z.Wg)\/z.zO b) w1/\∀(i:Nat) (k:Kd),ks[i]? =ae k->∃v,z.cZ k ((z.marks i).map kH) v (Sw i) w1/\Has z.C i v w1:=by
 have hR:=atQ (u:=u) (cs:=cs) hO h.PD h.wg
 have sW:∀a,dH cs a=G ((base 54).at (a.put ((MB[0]?).bind (·.dst))<|dK #[])<|bQ MB []::[.code Ee]) cs:=fun a=>rfl
 have di:z.iM.Start z.np z.E S gs w t q:=⟨hm,hL,by rw[<-ai6 z.zO];exact hP,fun b hb=>(h.pM.low b<|.inl hb).2,fun b hb=>⟨h.PD.low b hb,fun hx=>h.PD.zT b hx hb,(h.own b hb).1,(h.own b hb).2.1,(h.own b hb).2.2.1,(h.own b hb).2.2.2⟩,
  fun b hb=>⟨h.PD.yU b hb,fun e=>hO.CS<|(show b=z.Wg from e)▸hb,fun e=>hO.nC<|(show b=z.C from e)▸hb,fun e=>hO.uO<|(show b=z.ov from e)▸hb,h.rd b hb⟩,fun b hb=>hb,⟨Ij h.wg,h.cl,h.PD.uO.2,h.ns.1,h.ns.2.1,h.ns.2.2,hO.XI,h.ne.1,h.ne.2⟩,h.over,h.pay,h.pM⟩
 obtain⟨a,M,gs1,w1,kM,t1,q1,ks,S1,Sw,G1,r1,r2,r3,r4,r5,r6,r7,r8,_,r9,ZX,r11⟩:=bK.atj (X:=z.iM) (ty:=177) (n:=z.np) (sl:=sl) (dH:=dH cs) (Anch:=CU z cs) (Mid:=z.Mid<|fM z u) (cZ:=z.cZ) (Good:=z.Good) z.fit (fun _ _ _ _ _ hr=>hr.named) (fun _ _ _ hx=>by obtain⟨T,rfl,_⟩:=hx;rfl) (fun _=>rfl) (fun _ _ _ _ _ _ hr hk=>hr.aY hk) hO.np (fun a g w hx hl=>by
  rw[sW];exact asr (X:=z.iM) (L:=link) SI g w hx hl) di ha hR
 refine⟨a,M,gs1,w1,kM,t1,q1,ks,S1,Sw,G1,r1,r2,r3,by rw[ai6];exact r4,r5,r6,r7,r8,r9,ZX.iff fun b=>or_right_comm,fun i k hk=>?_⟩
 have:=r11 i k hk
 rw[acO,acP i z.ms fun m hm hk=>let ⟨j,hj,_⟩:=hO.q m hm hk;⟨j,hj⟩]at this
 exact this
end Twin
end
section
namespace Twin
open Go Go.Proofs Go.Conc Go.RowKit Go.Maps fJ
open Go.ConcR (WgAt KK DC0)
def ai8(w:aj):∀n:Nat,1<=n->n<=4->(Instr.makeSlice 165 (ag ah n)<|ag ah n).run prog w=.ok (aJ (ae ⟨w.heap.size,0,af⟩) n n) (w.alloc<|.cells (Array.replicate n<|.chan af) 178)/\(Instr.makeSlice 165 (ag ah n)<|ag ah n).events prog w #[]=#[]
 |0,h,_=>absurd h<|by omega
 |1,_,_=>⟨by kernel_rfl,by kernel_rfl⟩
 |2,_,_=>⟨by kernel_rfl,by kernel_rfl⟩
 |3,_,_=>⟨by kernel_rfl,by kernel_rfl⟩
 |4,_,_=>⟨by kernel_rfl,by kernel_rfl⟩
 |n+5,_,h=>absurd h<|by omega
def ai9(w:aj):∀n:Nat,1<=n->n<=4->(Instr.makeSlice 166 (ag ah n)<|ag ah n).run prog w=.ok (aJ (ae ⟨w.heap.size,0,af⟩) n n) (w.alloc<|.cells (Array.replicate n<|aJ af 0 0) 107)/\(Instr.makeSlice 166 (ag ah n)<|ag ah n).events prog w #[]=#[]
 |0,h,_=>absurd h<|by omega
 |1,_,_=>⟨by kernel_rfl,by kernel_rfl⟩
 |2,_,_=>⟨by kernel_rfl,by kernel_rfl⟩
 |3,_,_=>⟨by kernel_rfl,by kernel_rfl⟩
 |4,_,_=>⟨by kernel_rfl,by kernel_rfl⟩
 |n+5,_,h=>absurd h<|by omega
def atT(w:aj):(Instr.makeChan 167<|ag ah 0).run prog w=.ok (.chan<|ae w.heap.size) (w.alloc<|.chan 0 #[] false 0 0 false):=by kernel_rfl
def atU(w:aj):(Instr.makeChan 167<|ag ah 0).events prog w #[]=#[]:=by kernel_rfl
def aja{v:az}(hv:∀B:au.cO,au.aG B v)(t:dw)(B:au.cO):au.mF B (aC #[v] t):=fun x hx=>by
 simp at hx;subst hx;exact hv B
def ajb{v:az}(hv:∀B:au.cO,au.aG B v)(n:Nat)(t:dw)(B:au.cO):au.mF B (.cells (Array.replicate n v) t):=fun x hx=>by
 obtain⟨_,rfl⟩:=Oa.1 hx;exact hv B
structure Laid(xb np:Nat)(S:aN)(w:aj)(hv mr C sv ov ob:Nat):Prop where
 bh:dZ S w hv #[ay<|ae ⟨xb,0,af⟩] 33
 bm:dZ S w mr (Array.replicate np<|.chan af) 178
 bC:dZ S w C (Array.replicate np<|aJ af 0 0) 107
 bs:dZ S w sv #[aJ (ae ⟨C,0,af⟩) np np] 166
 bo:S ov/\w.heap[ov]? =ae (.chan 0 #[] false 0 0 false)
 bb:dZ S w ob #[.chan<|ae ov] 167
 lt:hv<mr/\mr<C/\C<sv/\sv<ov/\ov<ob
noncomputable def JK:Array Oper:=match iQ qE with| .region _ o _=>o|_=>#[]
def atW{xb hv pb np pc:Nat}{mv:az}{E:dD}{S:aN}{w:aj}{cs:List bu}(h1:1<=np)(h4:np<=4)(xA:E.rd xb){w0:Nat}(iE:w0<=w.heap.size)(Az:¬S xb)(hS:∀b,S b->b<w.heap.size)(hH:dZ S w hv #[ay<|ae ⟨xb,0,af⟩] 33)(gI:w.cell? ⟨xb,68,af⟩=ae (aJ (ae ⟨pb,0,af⟩) np pc)):
 aA prog true E (fun S' g' w'=>∃(u:Nat->az) (mr C sv ov ob:Nat),Laid xb np S' w' hv mr C sv ov ob/\w0<=mr/\g'=G ((base 54).at ⟨#[ay<|ae ⟨xb,0,af⟩,mv,ay<|ae ⟨hv,0,af⟩,u 3,u 4,aJ (ae ⟨mr,0,af⟩) np np,ay<|ae ⟨sv,0,af⟩,ay<|ae ⟨ob,0,af⟩,u 8,u 9,u 10,u 11,u 12,u 13,u 14,u 15,u 16,u 17,u 18,u 19,u 20,u 21,u 22,u 23,u 24,u 25,u 26,u 27,u 28,u 29,u 30,u 31,u 32,u 33,u 34,u 35,u 36,u 37,u 38,u 39,u 40,u 41,u 42,u 43,u 44,u 45,u 46,u 47,u 48,u 49,u 50,u 51,u 52,u 53,u 54,u 55,u 56,u 57,u 58,u 59,u 60,u 61,u 62,u 63,u 64,u 65,u 66,u 67,u 68,u 69,u 70,u 71],[]⟩ [bQ Ik [0],.code wQ]) cs)
  S (G ((base 54).at ⟨#[ay<|ae ⟨xb,0,af⟩,mv,ay<|ae ⟨hv,0,af⟩,ai,ai,ai,ai,ai,ai,ai,ai,ai,ai,ai,ai,ai,ai,ai,ai,ai,ai,ai,ai,ai,ai,ai,ai,ai,ai,ai,ai,ai,ai,ai,ai,ai,ai,ai,ai,ai,ai,ai,ai,ai,ai,ai,ai,ai,ai,ai,ai,ai,ai,ai,ai,ai,ai,ai,ai,ai,ai,ai,ai,ai,ai,ai,ai,ai,ai,ai,ai,ai],[]⟩ [bQ JK [1],.code<|fU qE]) cs) w:=by
 generalize Pv:Item.code wQ=IR
 generalize hI1:Item.inRegion Ik [0]=I1
 simp only[wQ,Ik,JK,qE,Tryz.f54,ik,fU,iQ]at Pv hI1⊢
 refine aA.mu rfl rfl ?_
 walk_nrm
 refine aA.fQ ?_
 refine aA.sq ?_
 refine aA.reg [0,1,2,3,4,5,6] rfl ?_
 refine aA.val (ay<|ae ⟨xb,0,af⟩) rfl rfl (by decide) (fun w1 aQ=>?_) (fun w1 aQ e he=>?_) ?_
 ·have q0:=(hH.aY aQ).cell (o:=0) rfl
  go_simp
 ·have q0:=(hH.aY aQ).cell (o:=0) rfl
  simp[go_sem,q0]at he
  subst he
  exact .inl hH.1
 walk_nrm
 refine aA.mu rfl rfl ?_
 walk_nrm
 refine aA.mute (ay<|ae ⟨xb,68,af⟩) rfl rfl (by decide) (fun _=>by go_simp<;>rfl) (fun _=>by simp[go_sem]) ?_
 walk_nrm
 refine aA.val (aJ (ae ⟨pb,0,af⟩) np pc) rfl rfl (by decide) (fun w1 aQ=>?_) (fun w1 aQ e he=>?_) ?_
 ·have q0:=nI gI xA aQ
  go_simp
 ·have q0:=nI gI xA aQ
  simp[go_sem,q0]at he
  subst he
  exact .inr ⟨xA,rfl⟩
 walk_nrm
 refine aA.mute (ag ah np) rfl rfl (by decide) (fun _=>by go_simp<;>rfl) (fun _=>by simp[go_sem]) ?_
 walk_nrm
 refine aA.kC rfl rfl (by decide) fun w1 aQ=>?_
 have gG:=aQ.size
 replace hH:=hH.aY aQ
 replace gI:=nI gI xA aQ
 replace hS:=xU hS aQ
 refine⟨aJ (ae ⟨w1.heap.size,0,af⟩) np np,w1.alloc<|.cells (Array.replicate np<|.chan af) 178,.inl (by go_simp;rw[(ai8 w1 np h1 h4).1];rfl),wL (by simp[go_sem];exact(ai8 w1 np h1 h4).2) (JJ _<|ajb (fun _=>.chan fun x hx=>by cases hx) np 178),?_⟩
 have atX:hv<w1.heap.size:=hS _ hH.1
 have atY:w0<=w1.heap.size:=by omega
 have gW:=nU gI
 simp only at gW
 have hM:=dZ.new S w1 (Array.replicate np<|.chan af) 178
 replace hH:=hH.alloc<|.cells (Array.replicate np<|.chan af) 178
 replace gI:(w1.alloc<|.cells (Array.replicate np<|.chan af) 178).cell? ⟨xb,68,af⟩=ae (aJ (ae ⟨pb,0,af⟩) np pc):=(aD2<|aD1 w1 _ _<|nU gI).trans gI
 replace Az:¬grow S w1 (w1.alloc<|.cells (Array.replicate np<|.chan af) 178) xb:=fun hx=>hx.elim Az fun y=>by omega
 replace hS:=Ig hS<|.cells (Array.replicate np<|.chan af) 178
 replace iE:w0<=(w1.alloc<|.cells (Array.replicate np<|.chan af) 178).heap.size:=by simp<;>omega
 clear aQ gW gG
 generalize grow S w1 (w1.alloc<|.cells (Array.replicate np<|.chan af) 178)=S at*
 generalize w1.alloc (.cells (Array.replicate np<|.chan af) 178)=w at*
 generalize w1.heap.size=mr at*
 walk_nrm
 refine aA.mu rfl rfl ?_
 walk_nrm
 refine aA.fQ ?_
 refine aA.sq ?_
 refine aA.reg [0,1,2,3,4,5,6,7] rfl ?_
 refine aA.val (ay<|ae ⟨xb,0,af⟩) rfl rfl (by decide) (fun w1 aQ=>?_) (fun w1 aQ e he=>?_) ?_
 ·have q0:=(hH.aY aQ).cell (o:=0) rfl
  go_simp
 ·have q0:=(hH.aY aQ).cell (o:=0) rfl
  simp[go_sem,q0]at he
  subst he
  exact .inl hH.1
 walk_nrm
 refine aA.mu rfl rfl ?_
 walk_nrm
 refine aA.mute (ay<|ae ⟨xb,68,af⟩) rfl rfl (by decide) (fun _=>by go_simp<;>rfl) (fun _=>by simp[go_sem]) ?_
 walk_nrm
 refine aA.val (aJ (ae ⟨pb,0,af⟩) np pc) rfl rfl (by decide) (fun w1 aQ=>?_) (fun w1 aQ e he=>?_) ?_
 ·have q0:=nI gI xA aQ
  go_simp
 ·have q0:=nI gI xA aQ
  simp[go_sem,q0]at he
  subst he
  exact .inr ⟨xA,rfl⟩
 walk_nrm
 refine aA.mute (ag ah np) rfl rfl (by decide) (fun _=>by go_simp<;>rfl) (fun _=>by simp[go_sem]) ?_
 walk_nrm
 refine aA.kC rfl rfl (by decide) fun w1 aQ=>?_
 have gG:=aQ.size
 replace hH:=hH.aY aQ
 replace hM:=hM.aY aQ
 replace gI:=nI gI xA aQ
 replace hS:=xU hS aQ
 refine⟨aJ (ae ⟨w1.heap.size,0,af⟩) np np,w1.alloc<|.cells (Array.replicate np<|aJ af 0 0) 107,.inl (by go_simp;rw[(ai9 w1 np h1 h4).1];rfl),wL (by simp[go_sem];exact(ai9 w1 np h1 h4).2) (JJ _<|ajb (fun _=>.slice fun x hx=>by cases hx) np 107),?_⟩
 have atZ:mr<w1.heap.size:=hS _ hM.1
 have aBL:w0<=w1.heap.size:=by omega
 have gW:=nU gI
 simp only at gW
 have hC:=dZ.new S w1 (Array.replicate np<|aJ af 0 0) 107
 replace hH:=hH.alloc<|.cells (Array.replicate np<|aJ af 0 0) 107
 replace hM:=hM.alloc<|.cells (Array.replicate np<|aJ af 0 0) 107
 replace gI:(w1.alloc<|.cells (Array.replicate np<|aJ af 0 0) 107).cell? ⟨xb,68,af⟩=ae (aJ (ae ⟨pb,0,af⟩) np pc):=(aD2<|aD1 w1 _ _<|nU gI).trans gI
 replace Az:¬grow S w1 (w1.alloc<|.cells (Array.replicate np<|aJ af 0 0) 107) xb:=fun hx=>hx.elim Az fun y=>by omega
 replace hS:=Ig hS<|.cells (Array.replicate np<|aJ af 0 0) 107
 replace iE:w0<=(w1.alloc<|.cells (Array.replicate np<|aJ af 0 0) 107).heap.size:=by simp<;>omega
 clear aQ gW gG
 generalize grow S w1 (w1.alloc<|.cells (Array.replicate np<|aJ af 0 0) 107)=S at*
 generalize w1.alloc (.cells (Array.replicate np<|aJ af 0 0) 107)=w at*
 generalize w1.heap.size=C at*
 walk_nrm
 refine aA.kC rfl rfl (by decide) fun w1 aQ=>?_
 have gG:=aQ.size
 replace hH:=hH.aY aQ
 replace hM:=hM.aY aQ
 replace hC:=hC.aY aQ
 replace gI:=nI gI xA aQ
 replace hS:=xU hS aQ
 refine⟨ay<|ae ⟨w1.heap.size,0,af⟩,w1.alloc<|aC #[aJ af 0 0] 166,.inl<|by go_simp,wL (by simp[go_sem]) (JJ _<|aja (fun _=>.slice fun x hx=>by cases hx) 166),?_⟩
 have at6:C<w1.heap.size:=hS _ hC.1
 have aBM:w0<=w1.heap.size:=by omega
 have gW:=nU gI
 simp only at gW
 have hV:=dZ.new S w1 (#[aJ af 0 0]) 166
 replace hH:=hH.alloc<|aC #[aJ af 0 0] 166
 replace hM:=hM.alloc<|aC #[aJ af 0 0] 166
 replace hC:=hC.alloc<|aC #[aJ af 0 0] 166
 replace gI:(w1.alloc<|aC #[aJ af 0 0] 166).cell? ⟨xb,68,af⟩=ae (aJ (ae ⟨pb,0,af⟩) np pc):=(aD2<|aD1 w1 _ _<|nU gI).trans gI
 replace Az:¬grow S w1 (w1.alloc<|aC #[aJ af 0 0] 166) xb:=fun hx=>hx.elim Az fun y=>by omega
 replace hS:=Ig hS<|aC #[aJ af 0 0] 166
 replace iE:w0<=(w1.alloc<|aC #[aJ af 0 0] 166).heap.size:=by simp<;>omega
 clear aQ gW gG
 generalize grow S w1 (w1.alloc<|aC #[aJ af 0 0] 166)=S at*
 generalize w1.alloc (aC #[aJ af 0 0] 166)=w at*
 generalize w1.heap.size=sv at*
 walk_nrm
 refine aA.kC rfl rfl (by decide) fun w1 aQ=>?_
 have gG:=aQ.size
 replace hH:=hH.aY aQ
 replace hM:=hM.aY aQ
 replace hC:=hC.aY aQ
 replace hV:=hV.aY aQ
 replace gI:=nI gI xA aQ
 replace hS:=xU hS aQ
 have q0:=hV.cell (o:=0) rfl
 have r0:=hV.free 0
 have oU:∀B:au.cO,(∀b,B.bZ b->¬S b)->au.aG B (aJ (ae ⟨C,0,af⟩) np np):=fun B hB=>.slice fun y hy zz=>by cases hy;exact hB _ zz hC.1
 refine⟨ai,w1.setCell ⟨sv,0,af⟩<|aJ (ae ⟨C,0,af⟩) np np,.inr ⟨rfl,by go_simp⟩,Ib hV.1 oU fun e he=>?_,?_⟩
 ·simp[go_sem,aEH,storedEv,q0,r0]at he
  subst he
  exact .inl hV.1
 rw[sK<|by simp]
 replace hH:dZ S (w1.setCell ⟨sv,0,af⟩<|aJ (ae ⟨C,0,af⟩) np np) hv (#[ay<|ae ⟨xb,0,af⟩]) 33:=⟨hH.1,by rw[aD3 w1 _ _ _ (by simp<;>omega)];exact hH.2⟩
 replace hM:dZ S (w1.setCell ⟨sv,0,af⟩<|aJ (ae ⟨C,0,af⟩) np np) mr (Array.replicate np<|.chan af) 178:=⟨hM.1,by rw[aD3 w1 _ _ _ (by simp<;>omega)];exact hM.2⟩
 replace hC:dZ S (w1.setCell ⟨sv,0,af⟩<|aJ (ae ⟨C,0,af⟩) np np) C (Array.replicate np<|aJ af 0 0) 107:=⟨hC.1,by rw[aD3 w1 _ _ _ (by simp<;>omega)];exact hC.2⟩
 have Vw:xb≠sv:=fun e=>Az<|e▸hV.1
 replace gI:(w1.setCell ⟨sv,0,af⟩<|aJ (ae ⟨C,0,af⟩) np np).cell? ⟨xb,68,af⟩=ae (aJ (ae ⟨pb,0,af⟩) np pc):=(aD2<|aD3 w1 ⟨sv,0,af⟩ (aJ (ae ⟨C,0,af⟩) np np) xb Vw).trans gI
 clear Vw
 replace hS:∀b,S b->b<(w1.setCell ⟨sv,0,af⟩<|aJ (ae ⟨C,0,af⟩) np np).heap.size:=fun b hb=>by simpa using hS b hb
 replace iE:w0<=(w1.setCell ⟨sv,0,af⟩<|aJ (ae ⟨C,0,af⟩) np np).heap.size:=by simp<;>omega
 replace hV:=hV.set 0<|aJ (ae ⟨C,0,af⟩) np np
 change dZ S _ sv (#[aJ (ae ⟨C,0,af⟩) np np]) 166 at hV
 clear gG aQ q0 r0 oU
 generalize w1.setCell ⟨sv,0,af⟩ (aJ (ae ⟨C,0,af⟩) np np)=w at*
 walk_nrm
 refine aA.fQ ?_
 refine aA.sq ?_
 refine aA.reg [0,1,2] rfl ?_
 refine aA.kC rfl rfl (by decide) fun w1 aQ=>?_
 have gG:=aQ.size
 replace hH:=hH.aY aQ
 replace hM:=hM.aY aQ
 replace hC:=hC.aY aQ
 replace hV:=hV.aY aQ
 replace gI:=nI gI xA aQ
 replace hS:=xU hS aQ
 refine⟨.chan<|ae w1.heap.size,w1.alloc<|.chan 0 #[] false 0 0 false,.inl (by go_simp;rw[atT];rfl),wL (by simp[go_sem];exact atU w1) (JJ _ fun _ v hv=>by simp at hv),?_⟩
 have at7:sv<w1.heap.size:=hS _ hV.1
 have aBN:w0<=w1.heap.size:=by omega
 have gW:=nU gI
 simp only at gW
 have uw:grow S w1 (w1.alloc<|.chan 0 #[] false 0 0 false) w1.heap.size/\(w1.alloc<|.chan 0 #[] false 0 0 false).heap[w1.heap.size]? =ae (.chan 0 #[] false 0 0 false):=⟨.inr ⟨dm _,by simp⟩,aDY _ _⟩
 replace hH:=hH.alloc<|.chan 0 #[] false 0 0 false
 replace hM:=hM.alloc<|.chan 0 #[] false 0 0 false
 replace hC:=hC.alloc<|.chan 0 #[] false 0 0 false
 replace hV:=hV.alloc<|.chan 0 #[] false 0 0 false
 replace gI:(w1.alloc<|.chan 0 #[] false 0 0 false).cell? ⟨xb,68,af⟩=ae (aJ (ae ⟨pb,0,af⟩) np pc):=(aD2<|aD1 w1 _ _<|nU gI).trans gI
 replace Az:¬grow S w1 (w1.alloc<|.chan 0 #[] false 0 0 false) xb:=fun hx=>hx.elim Az fun y=>by omega
 replace hS:=Ig hS<|.chan 0 #[] false 0 0 false
 replace iE:w0<=(w1.alloc<|.chan 0 #[] false 0 0 false).heap.size:=by simp<;>omega
 clear aQ gW gG
 generalize grow S w1 (w1.alloc<|.chan 0 #[] false 0 0 false)=S at*
 generalize w1.alloc (.chan 0 #[] false 0 0 false)=w at*
 generalize w1.heap.size=ov at*
 walk_nrm
 refine aA.kC rfl rfl (by decide) fun w1 aQ=>?_
 have gG:=aQ.size
 replace hH:=hH.aY aQ
 replace hM:=hM.aY aQ
 replace hC:=hC.aY aQ
 replace hV:=hV.aY aQ
 replace gI:=nI gI xA aQ
 replace hS:=xU hS aQ
 replace uw:S ov/\w1.heap[ov]? =ae (.chan 0 #[] false 0 0 false):=⟨uw.1,by rw[aQ.own ov uw.1];exact uw.2⟩
 refine⟨ay<|ae ⟨w1.heap.size,0,af⟩,w1.alloc<|aC #[.chan af] 167,.inl<|by go_simp,wL (by simp[go_sem]) (JJ _<|aja (fun _=>.chan fun x hx=>by cases hx) 167),?_⟩
 have aua:ov<w1.heap.size:=hS _ uw.1
 have aBO:w0<=w1.heap.size:=by omega
 have gW:=nU gI
 simp only at gW
 have hB:=dZ.new S w1 (#[.chan af]) 167
 replace hH:=hH.alloc<|aC #[.chan af] 167
 replace hM:=hM.alloc<|aC #[.chan af] 167
 replace hC:=hC.alloc<|aC #[.chan af] 167
 replace hV:=hV.alloc<|aC #[.chan af] 167
 replace gI:(w1.alloc<|aC #[.chan af] 167).cell? ⟨xb,68,af⟩=ae (aJ (ae ⟨pb,0,af⟩) np pc):=(aD2<|aD1 w1 _ _<|nU gI).trans gI
 replace uw:grow S w1 (w1.alloc<|aC #[.chan af] 167) ov/\(w1.alloc<|aC #[.chan af] 167).heap[ov]? =ae (.chan 0 #[] false 0 0 false):=⟨.inl uw.1,by rw[aD1 w1 _ _<|hS ov uw.1];exact uw.2⟩
 replace Az:¬grow S w1 (w1.alloc<|aC #[.chan af] 167) xb:=fun hx=>hx.elim Az fun y=>by omega
 replace hS:=Ig hS<|aC #[.chan af] 167
 replace iE:w0<=(w1.alloc<|aC #[.chan af] 167).heap.size:=by simp<;>omega
 clear aQ gW gG
 generalize grow S w1 (w1.alloc<|aC #[.chan af] 167)=S at*
 generalize w1.alloc (aC #[.chan af] 167)=w at*
 generalize w1.heap.size=ob at*
 walk_nrm
 refine aA.kC rfl rfl (by decide) fun w1 aQ=>?_
 have gG:=aQ.size
 replace hH:=hH.aY aQ
 replace hM:=hM.aY aQ
 replace hC:=hC.aY aQ
 replace hV:=hV.aY aQ
 replace hB:=hB.aY aQ
 replace gI:=nI gI xA aQ
 replace hS:=xU hS aQ
 replace uw:S ov/\w1.heap[ov]? =ae (.chan 0 #[] false 0 0 false):=⟨uw.1,by rw[aQ.own ov uw.1];exact uw.2⟩
 have q0:=hB.cell (o:=0) rfl
 have r0:=hB.free 0
 have oU:∀B:au.cO,(∀b,B.bZ b->¬S b)->au.aG B (.chan<|ae ov):=fun B hB'=>.chan fun y hy zz=>by cases hy;exact hB' _ zz uw.1
 refine⟨ai,w1.setCell ⟨ob,0,af⟩<|.chan<|ae ov,.inr ⟨rfl,by go_simp⟩,Ib hB.1 oU fun e he=>?_,?_⟩
 ·simp[go_sem,aFe,storedEv,q0,r0]at he
  subst he
  exact .inl hB.1
 rw[sK<|by simp]
 replace hH:dZ S (w1.setCell ⟨ob,0,af⟩<|.chan<|ae ov) hv (#[ay<|ae ⟨xb,0,af⟩]) 33:=⟨hH.1,by rw[aD3 w1 _ _ _ (by simp<;>omega)];exact hH.2⟩
 replace hM:dZ S (w1.setCell ⟨ob,0,af⟩<|.chan<|ae ov) mr (Array.replicate np<|.chan af) 178:=⟨hM.1,by rw[aD3 w1 _ _ _ (by simp<;>omega)];exact hM.2⟩
 replace hC:dZ S (w1.setCell ⟨ob,0,af⟩<|.chan<|ae ov) C (Array.replicate np<|aJ af 0 0) 107:=⟨hC.1,by rw[aD3 w1 _ _ _ (by simp<;>omega)];exact hC.2⟩
 replace hV:dZ S (w1.setCell ⟨ob,0,af⟩<|.chan<|ae ov) sv (#[aJ (ae ⟨C,0,af⟩) np np]) 166:=⟨hV.1,by rw[aD3 w1 _ _ _ (by simp<;>omega)];exact hV.2⟩
 replace uw:S ov/\(w1.setCell ⟨ob,0,af⟩<|.chan<|ae ov).heap[ov]? =ae (.chan 0 #[] false 0 0 false):=⟨uw.1,by rw[aD3 w1 _ _ _ (by simp<;>omega)];exact uw.2⟩
 have Vw:xb≠ob:=fun e=>Az<|e▸hB.1
 replace gI:(w1.setCell ⟨ob,0,af⟩<|.chan<|ae ov).cell? ⟨xb,68,af⟩=ae (aJ (ae ⟨pb,0,af⟩) np pc):=(aD2<|aD3 w1 ⟨ob,0,af⟩ (.chan<|ae ov) xb Vw).trans gI
 clear Vw
 replace hS:∀b,S b->b<(w1.setCell ⟨ob,0,af⟩<|.chan<|ae ov).heap.size:=fun b hb=>by simpa using hS b hb
 replace iE:w0<=(w1.setCell ⟨ob,0,af⟩<|.chan<|ae ov).heap.size:=by simp<;>omega
 replace hB:=hB.set 0<|.chan<|ae ov
 change dZ S _ ob (#[.chan<|ae ov]) 167 at hB
 clear gG aQ q0 r0 oU
 generalize w1.setCell ⟨ob,0,af⟩ (.chan<|ae ov)=w at*
 walk_nrm
 refine aA.fQ ?_
 refine aA.sq ?_
 refine aA.reg [0] rfl ?_
 subst Pv hI1
 refine aA.stop fun w1 hk=>⟨(fun i=>match i with|4=>aJ af 0 0|14=>ay (ae ⟨xb,0,af⟩)|15=>ay (ae ⟨xb,0,af⟩)|16=>ay (ae ⟨xb,68,af⟩)|17=>aJ (ae ⟨pb,0,af⟩) np pc|18=>ag ah np|19=>aJ (ae ⟨mr,0,af⟩) np np|20=>ay (ae ⟨xb,0,af⟩)|21=>ay (ae ⟨xb,0,af⟩)|22=>ay (ae ⟨xb,68,af⟩)|23=>aJ (ae ⟨pb,0,af⟩) np pc|24=>ag ah np|25=>aJ (ae ⟨C,0,af⟩) np np|26=>.chan (ae ov)|_=>ai),mr,C,sv,ov,ob,⟨hH.aY hk,hM.aY hk,hC.aY hk,hV.aY hk,⟨uw.1,by rw[hk.own ov uw.1];exact uw.2⟩,hB.aY hk,⟨atX,atZ,at6,at7,aua⟩⟩,atY,?_⟩
 kernel_rfl
end Twin
end
section
namespace Twin
open Go Go.Proofs Go.Conc Go.RowKit Go.Maps fJ
open Go.ConcR (WgAt KK DC0)
def XM{w:aj}{B lb bm n:Nat}{v:az}{s:aH}(hl:dY w B lb bm v n s){b:Nat}{cs:Array az}{t:dw}{fr:Nat×Nat}(hb:w.heap[b]? =ae (.cells cs t fr))(h1:t≠163)(h2:55≠t):¬lG lb bm v b:=by
 rintro(rfl|rfl|e)
 ·have:=hl.blk;rw[hb]at this;simp only[gu,Obj.cells.injEq]at this;exact h1 this.2.1
 ·obtain⟨D,⟨es,clock,hm,_⟩,_⟩:=hl.map;rw[hb]at hm;cases hm
 ·exact GY hl.row hb h2 e
structure PE(s:Nat->Prop)(w:aj)(B Bm xb n:Nat)(h:HS)(ma:Option Addr)(mc:Nat)(ms:List Ms):Prop where
 at_:aF w B xb n h
 apart:iP h.pl
 row:w.ownsRow Bm 119 5 (.slice ma ms.length mc) ms.length (ms.flatMap Ms.cs)
 fits:n+ms.length<=dU
 small:ms.length<2147483648
 es:∀p∈h.pl,(p.s.es.length+ms.length)*40<=140737488355328
 wf:∀m∈ms,(Lit.int .i64 m.p).wf=true
 q:∀m∈ms,m.k=1->∃i:Nat,m.q=i/\i<h.pl.length
 ns:∀b,s b->b≠xb/\h.pv.ownBlock≠ae b/\(∀p∈h.pl,¬lG p.lb p.bm p.v b)/\Value.ownBlock (.slice ma ms.length mc)≠ae b
def wR(pl:List PL):aN:=fun b=>∃p∈pl,lG p.lb p.bm p.v b
def pV(fo s:Nat->Prop)(w w2:aj)(B xb n:Nat)(h:HS)(ma:Option Addr)(mc:Nat)(ms:List Ms)(pb pc mb hv mr C sv ov ob Wg m0:Nat):Gs:=
 {R:=fun b=>(b<w.heap.size/\¬s b/\¬wR h.pl b)\/b=hv\/b=sv\/b=ob,iG:=s,zO:=fo,xb:=xb,hv:=hv,mr:=mr,C:=C,sv:=sv,ov:=ov,ob:=ob,Wg:=Wg,pb:=pb,pc:=pc,B:=B,Ba:=w.heap.size,n:=n,N:=ms.length,m0:=m0,mb:=mb,mc:=mc,ma:=ma,pl:=h.pl,ms:=ms,w0:=w2}
variable{s:Nat->Prop}{w:aj}{B Bm xb n mc:Nat}{h:HS}{ma:Option Addr}{ms:List Ms}
def ajc(hC:PE s w B Bm xb n h ma mc ms):
 ∃pb pc mb,h.pv=aJ (ae ⟨pb,0,af⟩) h.pl.length pc/\pb<w.heap.size/\¬s pb/\¬wR h.pl pb/\xb<w.heap.size/\¬s xb/\¬wR h.pl xb/\(ms≠[]->ma=ae ⟨mb,0,af⟩/\mb<w.heap.size/\¬s mb/\¬wR h.pl mb)/\1<=h.pl.length/\h.pl.length<=4:=by
 have hQ:=hC.at_.hQ;have hx:=(jk.1 hC.at_.blk).1;have hlx:¬wR h.pl xb:=fun⟨p,hp,hb⟩=>XM (hC.at_.ed p hp) hC.at_.blk (by decide) (by decide) hb;have Qz:¬s xb:=fun z=>(hC.ns xb z).1 rfl;have aub:∃mb,ms≠[]->ma=ae ⟨mb,0,af⟩/\mb<w.heap.size/\¬s mb/\¬wR h.pl mb:=by
  rcases hC.row.2 with⟨e,h0⟩|⟨g,cap,cur,e,_,hg,_⟩
  ·exact⟨0,fun dh=>absurd (QK.1 h0) dh⟩
  ·simp only[aD6]at e;obtain⟨rfl,_,rfl⟩:=e;exact⟨g,fun _=>⟨rfl,(jk.1 hg).1,fun z=>(hC.ns g z).2.2.2 rfl,fun⟨p,hp,hb⟩=>XM (hC.at_.ed p hp) hg (by decide) (by decide) hb⟩⟩
 obtain⟨mb,BH⟩:=aub;rcases hC.at_.jU.2 with⟨_,h0⟩|⟨g,cap,cur,e,_,hg,_⟩
 ·omega
 ·exact⟨g,cap,mb,e,(jk.1 hg).1,fun z=>(hC.ns g z).2.1 (by rw[e];rfl),fun⟨p,hp,hb⟩=>XM (hC.at_.ed p hp) hg (by decide) (by decide) hb,hx,Qz,hlx,BH,by omega,by omega⟩
def ajd(h6:h.ps.length=6):h.cells.toArray[68]? =ae h.pv:=by
 have h60:(h.ps.flatMap PS.cs).length=60:=by rw[V8,h6]
 simp only[HS.cells,afd];rw[xC<|by simp,xC (by rw[h60];simp),h60];rfl
def auc{fo:Nat->Prop}{w2:aj}(hC:PE (fun b=>s b\/fo b) w B Bm xb n h ma mc ms){pb pc mb:Nat}(iJ:h.pv=aJ (ae ⟨pb,0,af⟩) h.pl.length pc)(iR:pb<w.heap.size)(gI:¬(s pb\/fo pb))(acT:¬wR h.pl pb)(gW:xb<w.heap.size)(BC:¬(s xb\/fo xb))(Vx:¬wR h.pl xb)
 (BH:ms≠[]->ma=ae ⟨mb,0,af⟩/\mb<w.heap.size/\¬(s mb\/fo mb)/\¬wR h.pl mb)(hn4:h.pl.length<=4){S:aN}{hv mr C sv ov ob Wg m0:Nat}(hL:Laid xb h.pl.length S w2 hv mr C sv ov ob)(Ey:w.heap.size<=hv)(hWo:ob<Wg)(bV:WgAt 177 Wg w2 0 0)(hold:bg (fun b=>b<w.heap.size) ⟨fun _=>False,fun _=>False,fun _ z=>z⟩ w w2)(bP:au.jB (fun b=>(s b\/fo b)\/b=Wg) w2)(Kr:∀b,s b\/fo b->b<w.heap.size):
 (pV fo s w w2 B xb n h ma mc ms pb pc mb hv mr C sv ov ob Wg m0).Ok/\(pV fo s w w2 B xb n h ma mc ms pb pc mb hv mr C sv ov ob Wg m0).ai7 (fun b=>b=mr\/wR h.pl b) w2:=by
 obtain⟨l1,l2,l3,l4,l5⟩:=hL.lt;have Me:=Ij bV;have BZ:∀b,wR h.pl b->b<w.heap.size:=fun b ⟨p,hp,hb⟩=>(hC.at_.ed p hp).qK hb;have hcell:∀{a:Addr} {x:az},w.cell? a=ae x->w2.cell? a=ae x:=fun hc=>(aD2<|hold.own _<|nU hc).trans hc;have hP:=hC.at_.jU;rw[iJ]at hP;have hO:(pV fo s w w2 B xb n h ma mc ms pb pc mb hv mr C sv ov ob Wg m0).Ok:=by
  refine⟨.inr<|.inr<|.inl rfl,.inr<|.inl rfl,.inl ⟨gW,fun z=>BC<|.inl z,Vx⟩,.inr<|.inr<|.inr rfl,.inl ⟨iR,fun z=>gI<|.inl z,acT⟩,fun dh=>⟨.inl ⟨(BH dh).2.1,fun z=>(BH dh).2.2.1<|.inl z,(BH dh).2.2.2⟩,(BH dh).1⟩,fun hx=>?_,fun hx=>?_,fun hx=>?_,?_,?_,dm _,hC.small,hC.fits,hC.es,hC.wf,hC.apart,hC.q⟩
  ·simp only[pV]at hx;omega
  ·simp only[pV]at hx;omega
  ·simp only[pV]at hx;omega
  ·simp only[pV];omega
  ·simp only[Gs.np,pV];omega
 refine⟨hO,⟨⟨⟨hL.bs.cell rfl,hL.bh.cell rfl,?_,hL.bb.cell rfl,fun i p hp=>?_,fun i p hp=>?_,fun i m hm j v hvv=>?_,fun _ _=>rfl,rfl,rfl,rfl⟩,fun i p _ hp=>?_,⟨_,⟨.inl rfl,hL.bm.2⟩,by simp[Gs.np,pV],by simp⟩,fun i p _ hp hx=>?_,fun b hb=>?_,fun b hb hx=>?_,?_,fun b hb=>?_,fun hx=>?_,fun hx=>?_,?_⟩,fun b hb=>?_,fun b hb hx=>?_,?_,⟨fun hx=>?_,fun hx=>?_,fun hx=>?_⟩,⟨?_,?_⟩,⟨0,0,0,hL.bo.2⟩,⟨_,hL.bC.2,by simp[Gs.np,pV]⟩,bV,bP⟩⟩
 ·have h68:w.cell? ⟨xb,68,af⟩=ae (aJ (ae ⟨pb,0,af⟩) h.pl.length pc):=by rw[aK hC.at_.blk,ajd hC.at_.h6,iJ]
  exact hcell h68
 ·exact hcell (aaR hP hp).1
 ·exact hcell (aaR hP hp).2
 ·replace hm:ms[i]? =ae m:=hm;have dh:ms≠[]:=fun e=>by rw[e]at hm;simp at hm
  have hr:=hC.row;rw[(BH dh).1]at hr;have hj:j<5:=by
   have:=(dM.1 hvv).1;simpa[Ms.cs]using this
  have:=hr.cells (g:=mb) rfl (i*5+j) v<|(abl ms i m j hm hj).trans hvv;rw[aEn]at this;have h9:w.cell? ⟨mb,i*5+j,af⟩=ae v:=by simpa using this
  exact hcell h9
 ·have qU:p∈h.pl:=gz hp;have hl:=hC.at_.ed p qU;exact⟨acu (S:=fun b=>b<w.heap.size) hl (hl.qK<|.inl rfl) (hl.qK<|.inr<|.inl rfl) (fun k hk=>hl.qK<|.inr<|.inr hk) hold,.inr ⟨p,qU,.inl rfl⟩,.inr ⟨p,qU,.inr<|.inl rfl⟩,fun k hk=>.inr ⟨p,qU,.inr<|.inr hk⟩⟩
 ·have:=BZ _ ⟨p,gz hp,hx⟩;simp only[pV]at this;omega
 ·rcases hb with rfl|hb
  ·exact(jk.1 hL.bm.2).1
  ·exact fK (BZ b hb) hold.size
 ·simp only[pV]at hb;rcases hx with rfl|hx
  ·omega
  ·have:=BZ b hx;rcases hb with hb|hb
   ·exact hb.2.2 hx
   ·omega
 ·exact hold.size
 ·have hz:=hold.size;simp only[pV]at hb;have:=(jk.1 hL.bb.2).1;rcases hb with hb|hb
  ·omega
  ·omega
 ·rcases hx with hx|hx
  ·simp only[pV]at hx;omega
  ·have:=BZ _ hx;simp only[pV]at this;omega
 ·rcases hx with hx|hx
  ·simp only[pV]at hx;omega
  ·have:=BZ _ hx;simp only[pV]at this;omega
 ·exact(jk.1 hL.bo.2).1
 ·simp only[pV];rcases hb with rfl|hb
  ·exact⟨by omega,by omega,by omega,fun z=>by have:=Kr _ z;omega⟩
  ·have:=BZ b hb;exact⟨by omega,by omega,by omega,fun z=>by obtain⟨p,hp,hb⟩:=hb;exact(hC.ns b z).2.2.1 p hp hb⟩
 ·simp only[pV]at hb hx;have:=Kr b<|.inl hx;rcases hb with hb|hb
  ·exact hb.2.1 hx
  ·omega
 ·exact(jk.1 hL.bC.2).1
 ·have:=Kr _ hx;simp only[pV]at this;omega
 ·have:=Kr _ hx;simp only[pV]at this;omega
 ·have:=Kr _ hx;simp only[pV]at this;omega
 ·simp only[pV];omega
 ·simp only[pV];omega
end Twin
end
section
namespace Twin
open Go Go.Proofs Go.Conc Go.RowKit Go.Maps fJ
open Go.ConcR (WgAt KK DC0)
open Go.ConcN (WgLive PayAt Has)
def jD{B:au.cO}{P:eF}{fr fr':bu}{cs cs' cs2:List bu}{w:aj}{Q:au.cO->bu->aj->Prop}(h:∀w1,bD P true (G fr cs) w1=.go (G fr' cs') w1 #[])(k:∀d,au.Reach B P fr' cs' (w.at d) Q cs2):au.Reach B P fr cs w Q cs2:=
 au.Reach.ok fun bP=>au.Reach.step fun d=>⟨fr',cs',w.at d,#[],h _,⟨bP.obj,bP.low,bP.mG⟩,dm _,by simp,k d⟩
section
variable{B:au.cO}{P:eF}{b:bu}{a:Act}{l:List Item}{cs cs2:List bu}{w:aj}{Q:au.cO->bu->aj->Prop}
def jO{x y:Code}(k:∀d,au.Reach B P (b.at a<|.code x:: .code y::l) cs (w.at d) Q cs2):au.Reach B P (b.at a<|.code (.seq x y)::l) cs w Q cs2:=jD (fun _=>aD0) k
variable{ops:Array Oper}
def vK{id:Nat}(k:∀d,au.Reach B P (b.at a<|bQ ops (List.range ops.size)::l) cs (w.at d) Q cs2):au.Reach B P (b.at a<|.code (.region id ops false)::l) cs w Q cs2:=jD (fun _=>stepG_region) k
def vM(k:∀d,au.Reach B P (b.at a l) cs (w.at d) Q cs2):au.Reach B P (b.at a<|bQ ops []::l) cs w Q cs2:=jD (fun _=>aDX) k
end
def aud(a b:az):#[a,b]++Array.replicate (Tryz.f54.ntmps- #[a,b].size) ai=#[a,b,ai,ai,ai,ai,ai,ai,ai,ai,ai,ai,ai,ai,ai,ai,ai,ai,ai,ai,ai,ai,ai,ai,ai,ai,ai,ai,ai,ai,ai,ai,ai,ai,ai,ai,ai,ai,ai,ai,ai,ai,ai,ai,ai,ai,ai,ai,ai,ai,ai,ai,ai,ai,ai,ai,ai,ai,ai,ai,ai,ai,ai,ai,ai,ai,ai,ai,ai,ai,ai,ai]:=by kernel_rfl
def aue(a b:az):Frame.enter prog 54 #[a,b] .normal=(base 54).at ⟨#[a,b,ai,ai,ai,ai,ai,ai,ai,ai,ai,ai,ai,ai,ai,ai,ai,ai,ai,ai,ai,ai,ai,ai,ai,ai,ai,ai,ai,ai,ai,ai,ai,ai,ai,ai,ai,ai,ai,ai,ai,ai,ai,ai,ai,ai,ai,ai,ai,ai,ai,ai,ai,ai,ai,ai,ai,ai,ai,ai,ai,ai,ai,ai,ai,ai,ai,ai,ai,ai,ai,ai],[]⟩ [.code qE]:=by
 rw[aEX (c:=qE) _ func54 rfl,aud]
def auf(xb:Nat)(mv:az)(k:List Item)(cs:List bu)(w:aj):bD prog true (G ((base 54).at ⟨#[ay<|ae ⟨xb,0,af⟩,mv,ai,ai,ai,ai,ai,ai,ai,ai,ai,ai,ai,ai,ai,ai,ai,ai,ai,ai,ai,ai,ai,ai,ai,ai,ai,ai,ai,ai,ai,ai,ai,ai,ai,ai,ai,ai,ai,ai,ai,ai,ai,ai,ai,ai,ai,ai,ai,ai,ai,ai,ai,ai,ai,ai,ai,ai,ai,ai,ai,ai,ai,ai,ai,ai,ai,ai,ai,ai,ai,ai],[]⟩<|bQ JK [0,1]::k) cs) w=
 .go (G ((base 54).at ⟨#[ay<|ae ⟨xb,0,af⟩,mv,ay<|ae ⟨w.heap.size,0,af⟩,ai,ai,ai,ai,ai,ai,ai,ai,ai,ai,ai,ai,ai,ai,ai,ai,ai,ai,ai,ai,ai,ai,ai,ai,ai,ai,ai,ai,ai,ai,ai,ai,ai,ai,ai,ai,ai,ai,ai,ai,ai,ai,ai,ai,ai,ai,ai,ai,ai,ai,ai,ai,ai,ai,ai,ai,ai,ai,ai,ai,ai,ai,ai,ai,ai,ai,ai,ai,ai],[]⟩<|bQ JK [1]::k) cs) (w.alloc<|aC #[ay<|ae ⟨xb,0,af⟩] 33) #[]:=by
 simp only[JK,qE,Tryz.f54,ik,iQ];rw[aEF (v:=ay<|ae ⟨w.heap.size,0,af⟩) (w':=w.alloc<|aC #[ay<|ae ⟨xb,0,af⟩] 33) rfl rfl (by decide)<|by go_simp];congr 1
def aug(xb hv mr sv ob np:Nat)(mv:az)(u:Nat->az)(k:List Item)(cs:List bu)(w:aj):bD prog true (G ((base 54).at ⟨#[ay<|ae ⟨xb,0,af⟩,mv,ay<|ae ⟨hv,0,af⟩,u 3,u 4,aJ (ae ⟨mr,0,af⟩) np np,ay<|ae ⟨sv,0,af⟩,ay<|ae ⟨ob,0,af⟩,u 8,u 9,u 10,u 11,u 12,u 13,u 14,u 15,u 16,u 17,u 18,u 19,u 20,u 21,u 22,u 23,u 24,u 25,u 26,u 27,u 28,u 29,u 30,u 31,u 32,u 33,u 34,u 35,u 36,u 37,u 38,u 39,u 40,u 41,u 42,u 43,u 44,u 45,u 46,u 47,u 48,u 49,u 50,u 51,u 52,u 53,u 54,u 55,u 56,u 57,u 58,u 59,u 60,u 61,u 62,u 63,u 64,u 65,u 66,u 67,u 68,u 69,u 70,u 71],[]⟩<|bQ Ik [0]::k) cs) w=
 .go (G ((base 54).at ⟨#[ay<|ae ⟨xb,0,af⟩,mv,ay<|ae ⟨hv,0,af⟩,u 3,u 4,aJ (ae ⟨mr,0,af⟩) np np,ay<|ae ⟨sv,0,af⟩,ay<|ae ⟨ob,0,af⟩,ay<|ae ⟨w.heap.size,0,af⟩,u 9,u 10,u 11,u 12,u 13,u 14,u 15,u 16,u 17,u 18,u 19,u 20,u 21,u 22,u 23,u 24,u 25,u 26,u 27,u 28,u 29,u 30,u 31,u 32,u 33,u 34,u 35,u 36,u 37,u 38,u 39,u 40,u 41,u 42,u 43,u 44,u 45,u 46,u 47,u 48,u 49,u 50,u 51,u 52,u 53,u 54,u 55,u 56,u 57,u 58,u 59,u 60,u 61,u 62,u 63,u 64,u 65,u 66,u 67,u 68,u 69,u 70,u 71],[]⟩<|bQ Ik []::k) cs) (w.alloc<|aC #[.int .u64 0,.int .u32 0] 177) #[]:=by
 simp only[Ik,qE,Tryz.f54,ik,iQ,fU];rw[aEF (v:=ay<|ae ⟨w.heap.size,0,af⟩) (w':=w.alloc<|aC #[.int .u64 0,.int .u32 0] 177) rfl rfl (by decide)<|by go_simp];congr 1
def auh(B:au.cO):au.mF B (aC #[.int .u64 0,.int .u32 0] 177):=Si rfl
variable{xb np hv mr C sv ov ob:Nat}{S:aN}
def Laid.alloc{w:aj}(h:Laid xb np S w hv mr C sv ov ob)(o:Obj):Laid xb np (grow S w<|w.alloc o) (w.alloc o) hv mr C sv ov ob:=
 ⟨h.bh.alloc o,h.bm.alloc o,h.bC.alloc o,h.bs.alloc o,⟨.inl h.bo.1,by rw[aD1 w o _ (jk.1 h.bo.2).1];exact h.bo.2⟩,h.bb.alloc o,h.lt⟩
def Laid.at{w:aj}(h:Laid xb np S w hv mr C sv ov ob)(d:Nat):Laid xb np S (w.at d) hv mr C sv ov ob:=⟨h.bh,h.bm,h.bC,h.bs,h.bo,h.bb,h.lt⟩
def Gs.Mid.jM{z:Gs}{u:Nat->az}{a:Act}{w:aj}(h:z.Mid u a S w):z.Bf w:=by
 obtain⟨_,_,_,_,_,_,_,_,_,_,_,_,_,_,_,_,_,_,_,_,_,_,_,_,_,_,_,_,_,_,_,_,_,_,_,hk,_⟩:=h;exact hk
structure MC(fo s:Nat->Prop)(w:aj)(B xb n:Nat)(h:HS)(ma:Option Addr)(mc:Nat)(ms:List Ms)(z:Gs)(u:Nat->az)(a:Act)(S1:aN)(ks:List Kd)(Sw:Nat->aN)(G1:aN)(w':aj):Prop where
 ok:z.Ok
 sp:∃w2 pb pc mb hv mr C sv ov ob Wg m0,z=pV fo s w w2 B xb n h ma mc ms pb pc mb hv mr C sv ov ob Wg m0/\w.heap.size<=hv/\hv<mr/\mr<C/\C<sv/\sv<ov/\ov<ob/\ob<Wg/\bg (fun b=>b<w.heap.size) ⟨fun _=>False,fun _=>False,fun _ x=>x⟩ w w2
 mid:z.Mid u a S1 w'
 len:ks.length=z.np
 A7:z.Good ks
 mem:∃E1,z.iM.Mem ks E1 S1 G1 Sw w'
 pay:PayAt z.C z.np w'
 res:∀(i:Nat) (k:Kd),ks[i]? =ae k->∃v,z.cZ k ((z.marks i).map kH) v (Sw i) w'/\Has z.C i v w'
 okt:au.jB (fun b=>(s b\/b=z.Wg)\/fo b) w'
 rd:∀b,z.R b->b<w'.heap.size/\¬s b
def auj{fo s:Nat->Prop}{w:aj}{B Bm xb n:Nat}{h:HS}{ma:Option Addr}{mc:Nat}{ms:List Ms}{cs:List bu}(hC:PE (fun b=>s b\/fo b) w B Bm xb n h ma mc ms):
 au.Reach (au.bJ fo s) prog (Frame.enter prog 54 #[ay<|ae ⟨xb,0,af⟩,.slice ma ms.length mc] .normal) cs w
  (fun B' fr' w'=>∃z u a S1 ks Sw G1,B'=au.bJ fo (fun b=>s b\/b=z.Wg)/\fr'=(base 54).at (a.put (ae 67)<|dK #[]) [bQ MB [],.code Ee]/\MC fo s w B xb n h ma mc ms z u a S1 ks Sw G1 w') cs:=by
 refine au.Reach.ok fun bP=>?_
 obtain⟨pb,pc,mb,iJ,iR,gI,acT,gW,BC,Vx,BH,yj,hn4⟩:=ajc hC
 rw[aue]
 generalize hQ:(fun(B':au.cO) (fr':bu) (w':aj)=>∃z u a S1 ks Sw G1,B'=au.bJ fo (fun b=>s b\/b=z.Wg)/\fr'=(base 54).at (a.put (ae 67)<|dK #[]) [bQ MB [],.code Ee]/\MC fo s w B xb n h ma mc ms z u a S1 ks Sw G1 w')=Q
 have hb:qE=.seq (iQ qE) (fU qE):=rfl
 have hr:iQ qE=.region 0 JK false:=rfl
 rw[hb]
 refine jO fun d1=>?_
 rw[hr]
 refine vK fun d2=>?_
 rw[show List.range JK.size=[0,1]from rfl]
 refine au.Reach.step fun d3=>⟨_,_,_,_,auf xb _ _ _ _,?_,by simp;exact Nat.le_succ _,by simp,?_⟩
 ·have Vy:w.heap.size<=(w.heap.push<|aC #[ay<|ae ⟨xb,0,af⟩] 33).size:=by simp
  refine au.oQ.of (w:=w.at d3) ⟨bP.obj,bP.low,bP.mG⟩ Vy<|au.jX.push (au.RS (w:=w.at d3) bP.obj Vy) fun v hv=>?_
  simp at hv
  subst hv
  exact .pointer fun x hx zz=>by
   cases hx;rcases zz with zz|zz
   ·exact BC zz
   ·have zz':(w.heap.push<|aC #[ay<|ae ⟨xb,0,af⟩] 33).size<=xb:=zz;simp at zz';omega
 have gG:((w.at d3).alloc<|aC #[ay<|ae ⟨xb,0,af⟩] 33).heap.size=w.heap.size+1:=by simp;rfl
 have Ae:((w.at d3).alloc<|aC #[ay<|ae ⟨xb,0,af⟩] 33).heap[w.heap.size]? =ae (aC #[ay<|ae ⟨xb,0,af⟩] 33 (0,0)):=aDY _ _
 have aje:∀b,b<w.heap.size->((w.at d3).alloc<|aC #[ay<|ae ⟨xb,0,af⟩] 33).heap[b]? =w.heap[b]? :=fun b hb=>aD1 (w.at d3) _ b hb
 have aeS:((w.at d3).alloc<|aC #[ay<|ae ⟨xb,0,af⟩] 33).tape=w.tape/\((w.at d3).alloc<|aC #[ay<|ae ⟨xb,0,af⟩] 33).os=w.os/\((w.at d3).alloc<|aC #[ay<|ae ⟨xb,0,af⟩] 33).output=w.output:=⟨rfl,rfl,rfl⟩
 change au.Reach _ _ _ _ ((w.at d3).alloc<|aC #[ay<|ae ⟨xb,0,af⟩] 33) _ _
 change au.Reach _ _ ((base 54).at ⟨#[ay<|ae ⟨xb,0,af⟩,.slice ma ms.length mc,ay<|ae ⟨w.heap.size,0,af⟩,ai,ai,ai,ai,ai,ai,ai,ai,ai,ai,ai,ai,ai,ai,ai,ai,ai,ai,ai,ai,ai,ai,ai,ai,ai,ai,ai,ai,ai,ai,ai,ai,ai,ai,ai,ai,ai,ai,ai,ai,ai,ai,ai,ai,ai,ai,ai,ai,ai,ai,ai,ai,ai,ai,ai,ai,ai,ai,ai,ai,ai,ai,ai,ai,ai,ai,ai,ai,ai],[]⟩<|bQ JK [1]::[.code<|fU qE]) _ _ _ _
 generalize(w.at d3).alloc (aC #[ay<|ae ⟨xb,0,af⟩] 33)=wa at*
 have h68:wa.cell? ⟨xb,68,af⟩=ae (aJ (ae ⟨pb,0,af⟩) h.pl.length pc):=by
  refine(aD2<|aje xb gW).trans ?_;rw[aK hC.at_.blk,ajd hC.at_.h6,iJ]
 have gU:=(atW (xb:=xb) (hv:=w.heap.size) (mv:=.slice ma ms.length mc) (E:=⟨fun b=>b<w.heap.size,fun b=>b<w.heap.size/\¬s b,fun _ hx=>hx.1⟩) (S:=fun b=>b=w.heap.size) (w:=wa) (cs:=cs) (w0:=w.heap.size) yj hn4 ⟨gW,fun z=>BC<|.inl z⟩ (by omega) (fun e=>by have:xb=w.heap.size:=e;omega) (fun b hb=>by have:b=w.heap.size:=hb;omega) ⟨rfl,Ae⟩ h68).more
 refine aiW gU (fun b hb=>⟨by have:b=w.heap.size:=hb;omega,fun zz=>by have:=(bP.low b zz).2;have:b=w.heap.size:=hb;omega⟩) (fun b hb=>⟨by have:=hb.1;omega,hb.2⟩) ?_
 rintro S' g' wb ⟨⟨u,mr,C,sv,ov,ob,hL,Ey,rfl⟩,hB⟩
 refine⟨_,cs,rfl,?_⟩
 refine au.Reach.ok fun JL=>au.Reach.step fun d4=>⟨_,_,_,_,aug xb w.heap.size mr sv ob h.pl.length _ u _ _ _,?_,by simp;exact Nat.le_succ _,by simp,?_⟩
 ·have Vy:wb.heap.size<=(wb.heap.push<|aC #[.int .u64 0,.int .u32 0] 177).size:=by simp
  exact au.oQ.of (w:=wb.at d4) ⟨JL.obj,JL.low,JL.mG⟩ Vy<|au.jX.push (au.RS (w:=wb.at d4) JL.obj Vy)<|auh _
 intro gs sl t q hh
 have eH:=hB.size
 have ajf:ob<wb.heap.size:=(jk.1 hL.bb.2).1
 have hold:bg (fun b=>b<w.heap.size) ⟨fun _=>False,fun _=>False,fun _ x=>x⟩ w ((wb.at d4).alloc<|aC #[.int .u64 0,.int .u32 0] 177):=by
  refine⟨hB.tape.trans aeS.1,hB.os.trans aeS.2.1,hB.output.trans aeS.2.2,?_,fun b hb=>?_,fun _ hx=>hx.elim⟩
  ·show w.heap.size<=(wb.heap.push _).size;simp<;>omega
  ·rw[aD1 (wb.at d4) _ b<|show b<wb.heap.size by omega];exact(hB.ro b hb (by omega) (fun e=>by have:b=w.heap.size:=e;omega)).trans<|aje b hb
 have acU:((wb.at d4).alloc<|aC #[.int .u64 0,.int .u32 0] 177).heap.size=wb.heap.size+1:=by simp;rfl
 have aul:au.jB (fun b=>(s b\/fo b)\/b=wb.heap.size) ((wb.at d4).alloc<|aC #[.int .u64 0,.int .u32 0] 177):=by
  refine⟨fun b o hb ho=>?_,fun b hb=>?_,by have:=JL.mG;omega⟩
  ·have aI:=(jk.1 ho).1;rw[acU]at aI;have dh:b≠wb.heap.size:=fun e=>hb<|.inl<|.inr e;have rQ:b<wb.heap.size:=by omega
   rw[aD1 (wb.at d4) _ b rQ]at ho;refine(JL.obj b o (fun zz=>?_) ho).mono (B:=au.uK<|au.beyond (fun b=>(s b\/fo b)\/b=wb.heap.size) _) (B':=(au.bJ fo s).cut wb.heap.size) (fun c zz=>?_) rfl
   ·rcases zz with zz|zz
    ·exact hb<|.inl<|.inl zz
    ·omega
   ·rcases zz with(zz|zz)|zz
    ·exact .inl zz
    ·exact .inr<|BM zz.symm
    ·exact .inr (by rw[acU]at zz;omega)
  ·rw[acU];rcases hb with hb|hb
   ·have:=JL.low b hb;exact⟨this.1,by omega⟩
   ·have:=JL.mG;exact⟨by omega,by omega⟩
 obtain⟨hO,acV⟩:=auc (m0:=gs.size) hC iJ iR gI acT gW BC Vx BH hn4 ((hL.at d4).alloc<|aC #[.int .u64 0,.int .u32 0] 177) (dm _) ajf (aDY _ _) hold aul fun b hb=>(bP.low b hb).2
 obtain⟨a,M,gs1,w1,kM,t1,q1,ks,S1,Sw,G1,r1,r2,r3,r4,r5,r6,r7,r8,r9,ZX,r11⟩:=atS (u:=u) (cs:=cs) (sl:=sl) hO acV rfl hh.own hh.OV hh.Jt
 subst hQ
 obtain⟨l1,l2,l3,l4,l5⟩:=hL.lt
 refine⟨M,_,gs1,_,w1,kM,t1,q1,r1,⟨r2,r3,r4,ZX.okB⟩,_,_,a,S1,ks,Sw,G1,rfl,rfl,⟨hO,⟨_,pb,pc,mb,_,mr,C,sv,ov,ob,_,_,rfl,dm _,l1,l2,l3,l4,l5,ajf,hold⟩,r5,r6,r7,r8,r9,r11,ZX,fun b hb=>⟨?_,acV.rd b hb⟩⟩⟩
 have iF:=acV.PD.yU b hb
 have dO:=r5.jM.fr b hb
 exact(jk.1<|dO.trans<|GG iF).1
end Twin
end
section
namespace Twin
open Go Go.Proofs Go.Conc Go.RowKit Go.Maps fJ
open Go.ConcR (WgAt KK DC0)
open Go.ConcN (WgLive PayAt Has)
def Gs.JM(z:Gs)(i:Nat):List Ms:=match z.pl[i]? with
 |some p=>if p.out then[]else(z.marks i).map Ms.kZ
 |none=>[]
def Gs.kJ(z:Gs):List Ms:=(List.range z.np).flatMap z.JM
variable{fo s:Nat->Prop}{w w':aj}{B xb n mc:Nat}{h:HS}{ma:Option Addr}{ms:List Ms}{z:Gs}{u:Nat->az}{a:Act}{S1 G1:aN}{ks:List Kd}
def MC.one{Sw:Nat->aN}(hW:MC fo s w B xb n h ma mc ms z u a S1 ks Sw G1 w'){i:Nat}(hi:i<z.np):
 ∃p v,z.pl[i]? =ae p/\Has z.C i v w'/\w'.ownsRow z.Ba 119 5 v (z.JM i).length ((z.JM i).flatMap Ms.cs)/\(∀b,v.ownBlock=ae b->Sw i b)/\
  ∃v',iD (Sw i) w' z.B p.lb p.bm (z.n+(z.marks i).length) v' (if p.out then p.s else(z.marks i).foldl (fun s m=>s.closed m.p m.t m.c) p.s)/\∀b,v.ownBlock=ae b->¬lG p.lb p.bm v' b:=by
 have lL:i<ks.length:=by rw[hW.len];exact hi
 have hk:ks[i]? =ae ks[i]:=eY lL
 obtain⟨p,nb,cb,c,hp,xm⟩:=hW.A7 i _ hk
 obtain⟨v,⟨lm,hl,hA⟩,acZ⟩:=hW.res i _ hk
 rw[xm]at hA
 have hlm:lm=z.marks i:=(List.map_inj_right (fun x y zx=>by
  obtain⟨a1,a2,a3,a4,a5⟩:=x;obtain⟨b1,b2,b3,b4,b5⟩:=y;simp[kH]at zx;obtain⟨rfl,rfl,rfl,rfl,rfl⟩:=zx;rfl)).1 hl.symm
 subst hlm
 have ha:(z.wx i p nb cb c).p.oV (z.marks i)=z.JM i:=by
  simp only[Pl.oV,Gs.wx,Gs.JM,hp];rfl
 have BZ:(z.wx i p nb cb c).p.log (z.marks i)=(if p.out then p.s else(z.marks i).foldl (fun s m=>s.closed m.p m.t m.c) p.s):=rfl
 have h1:=hA.oV
 rw[ha]at h1
 obtain⟨v',h2,h3⟩:=hA.log
 rw[BZ]at h2
 exact⟨p,v,hp,acZ,h1.row,h1.r,v',h2,h3⟩
def MC.rows{Sw:Nat->aN}(hW:MC fo s w B xb n h ma mc ms z u a S1 ks Sw G1 w'):
 ∃rows:zU,rows.length=z.np/\w'.heap[z.C]? =ae (.cells (rows.map (·.1)).toArray 107 (0,0))/\(∀x∈rows,∃Bm,w'.ownsRow Bm 119 5 x.1 x.2.length (x.2.flatMap Ms.cs)/\∀b,x.1.ownBlock=ae b->∃i,i<z.np/\Sw i b)/\rows.all=z.kJ:=by
 obtain⟨cs,hc,eH⟩:=hW.pay;refine⟨(List.range z.np).map fun i=>(cs.getD i ai,z.JM i),by simp,?_,?_,?_⟩
 ·rw[hc];have e:cs=(((List.range z.np).map fun i=>(cs.getD i ai,z.JM i)).map (·.1)).toArray:=by
   apply Array.ext
   ·simp[eH]
   ·intro i h1 h2;simp[Array.getD,h1]
  rw[<-e];rfl
 ·intro x hx;simp only[Je,GN]at hx;obtain⟨i,hi,rfl⟩:=hx;obtain⟨p,v,_,acZ,dF,NW,_⟩:=hW.one hi;have hv:cs.getD i ai=v:=by
   have h1:w'.cell? ⟨z.C,i,af⟩=ae v:=acZ;rw[aK hc]at h1;simp[Array.getD,eH,hi]at h1⊢
   simpa[GG<|show i<cs.size by omega]using h1
  exact⟨z.Ba,by simpa[hv]using dF,fun b hb=>⟨i,hi,NW b<|by simpa[hv]using hb⟩⟩
 ·simp[zU.all,Gs.kJ,List.flatMap_map]
end Twin
end
section
namespace Twin
open Go Go.Proofs Go.Conc Go.RowKit Go.Maps fJ
open Go.ConcR (WgAt KK DC0)
open Go.ConcN (WgLive PayAt Has)
variable{B:au.cO}{P:eF}{b:bu}{a:Act}{ops:Array Oper}{i:Nat}{rest:List Nat}{k:List Item}{cs cs2:List bu}{w:aj}{Q:au.cO->bu->aj->Prop}{o:Oper}{v:az}
def XP{f:FuncId}{fn:Func}{c:Code}{args:Array Operand}{lK:Array dw}{vs:Array az}{post:au.cO->az->aj->Prop}
 (ho:ops[i]? =ae o)(hw:Region.wanted o (yielded ops a.tmps)=true)(hk:b.kind≠.early)(aO:o.op=.call {callee:=.value<|.func f,args,argTypes:=lK})(hf:P.funcs[f]? =ae fn)(IZ:(fn.name== "runtime.NumGoroutine")=false)(hb:fn.body=ae c)(hv:args.map a.eval=vs)
 (QD:∀d,au.tX B P f vs (w.at d) post)(hn:∀B' v w',post B' v w'->au.Reach B' P (b.at (a.put o.dst v)<|bQ ops rest::k) cs w' Q cs2):au.Reach B P (b.at a<|bQ ops (i::rest)::k) cs w Q cs2:=by
 refine au.Reach.ok fun bP=>au.Reach.step fun d=>?_;have hg:=goes_call (P:=P) (main:=true) (b:=b) (a:=a) (k:=k) (cs:=cs) (rest:=rest) (w:=w.at d) (K:=fun g w1 es=>g=G ((base f).at {tmps:=args.map a.eval++Array.replicate (fn.ntmps-(args.map a.eval).size) ai,defers:=[]} [.code c]) (b.at a (bQ ops (i::rest)::k)::cs)/\w1=w.at d/\es=#[]) ho hw hk aO hf IZ hb ⟨rfl,rfl,rfl⟩;obtain⟨g,w1,es,e,rfl,rfl,rfl⟩:=aFk hg;refine⟨_,_,_,_,e,⟨bP.obj,bP.low,bP.mG⟩,dm _,by simp,?_⟩;have h2:=QD d (b.at a<|bQ ops (i::rest)::k) cs;rw[aEX vs hf hb]at h2;rw[hv];refine h2.trans ?_;rintro B' fr' w' ⟨v,rfl,hp⟩;have e2:(b.at a<|bQ ops (i::rest)::k).finish v=b.at (a.put o.dst v) (bQ ops rest::k):=by rw[Frame.finish_at,ho];rfl
 rw[e2];exact hn B' v w' hp
def auu:Ee=.seq (iQ Ee) .ret:=rfl
noncomputable def Tv:Array Oper:=match iQ Ee with| .region _ o _=>o|_=>#[]
def auv:iQ Ee=.region 25 Tv false:=rfl
def auw{z:Gs}{u:Nat->az}{t9 t10 t33 t34 t35 t36 t37 t38 t39 t40 t41 t42 t13 t46 t47 t48 t49 t50 t51 t52 t53 t54 t55 t56 t57 t58 t59 t60 t61 t62 t63 t64 t65 av:az}{S:aN}(hO:z.Ok)(hK:z.Bf w):
 aA prog true z.E2 (fun S' g' w'=>S'=S/\bg S z.E2 w w'/\g'=G ((base 54).at ⟨#[ay<|ae ⟨z.xb,0,af⟩,.slice z.ma z.ms.length z.mc,ay<|ae ⟨z.hv,0,af⟩,u 3,u 4,aJ (ae ⟨z.mr,0,af⟩) z.np z.np,ay<|ae ⟨z.sv,0,af⟩,ay<|ae ⟨z.ob,0,af⟩,ay<|ae ⟨z.Wg,0,af⟩,t9,t10,av,u 12,t13,u 14,u 15,u 16,u 17,u 18,u 19,u 20,u 21,u 22,u 23,u 24,u 25,u 26,u 27,u 28,u 29,u 30,ag ah z.np,ag ah z.np,t33,t34,t35,t36,t37,t38,t39,t40,t41,t42,.slice z.ma z.ms.length z.mc,ag ah z.ms.length,ag ah z.ms.length,t46,t47,t48,t49,t50,t51,t52,t53,t54,t55,t56,t57,t58,t59,t60,t61,t62,t63,t64,t65,.chan<|ae z.ov,dK #[],av,aJ (ae ⟨z.C,0,af⟩) z.np z.np,u 70,u 71],[]⟩<|bQ Tv [2,3,4]::k) cs) S (G ((base 54).at ⟨#[ay<|ae ⟨z.xb,0,af⟩,.slice z.ma z.ms.length z.mc,ay<|ae ⟨z.hv,0,af⟩,u 3,u 4,aJ (ae ⟨z.mr,0,af⟩) z.np z.np,ay<|ae ⟨z.sv,0,af⟩,ay<|ae ⟨z.ob,0,af⟩,ay<|ae ⟨z.Wg,0,af⟩,t9,t10,av,u 12,t13,u 14,u 15,u 16,u 17,u 18,u 19,u 20,u 21,u 22,u 23,u 24,u 25,u 26,u 27,u 28,u 29,u 30,ag ah z.np,ag ah z.np,t33,t34,t35,t36,t37,t38,t39,t40,t41,t42,.slice z.ma z.ms.length z.mc,ag ah z.ms.length,ag ah z.ms.length,t46,t47,t48,t49,t50,t51,t52,t53,t54,t55,t56,t57,t58,t59,t60,t61,t62,t63,t64,t65,.chan<|ae z.ov,dK #[],u 68,u 69,u 70,u 71],[]⟩<|bQ Tv [0,1,2,3,4]::k) cs) w:=by
 simp only[Tv,Ee,Ed,yT,wQ,qE,Tryz.f54,ik,fU,iQ];refine aA.mute av rfl rfl (by decide) (fun _=>by go_simp<;>rfl) (fun _=>by simp[go_sem]) ?_;walk_nrm;refine aA.val (aJ (ae ⟨z.C,0,af⟩) z.np z.np) rfl rfl (by decide) (fun w1 aQ=>?_) (fun w1 aQ e he=>?_) ?_
 ·have q0:=(hK.aY hO (fun b hb=>hb) aQ).sv;go_simp
 ·have q0:=(hK.aY hO (fun b hb=>hb) aQ).sv;simp[go_sem,q0]at he;subst he;exact .inr ⟨hO.Pm,rfl⟩
 walk_nrm;exact aA.stop fun w1 hk=>⟨rfl,hk,rfl⟩
def ajn{α:Type}{ok:α->Prop}{t:Sem α}{w':aj}{v:α}(h:au.Clean B prog ok t)(hw:au.OkW B w)(hr:t.run prog w=.ok v w'):∀e∈t.events prog w #[],au.Fg B w'.heap.size e:=by
 obtain⟨n,r,gs,h1,h2⟩:=h.Jr hw;have oL:=au.abN h1;rw[hr]at oL;have h3:=h1 w.tape w.drawn (fun i _=>rfl) #[];rw[show au.re w w.tape w.drawn=w from rfl,uB]at h3;have he:t.events prog w #[]=gs:=fG Prod.snd h3;rw[he];cases r with
 |halt x w1=>simp[Result.re]at oL
 |ok v1 w1=>
  simp only[Result.re,aEL]at oL;obtain⟨_,rfl⟩:=oL;exact h2.2.2.2.2.2
def auy{fo s:Nat->Prop}(x y:Operand)(ho:ops[i]? =ae o)(hw:Region.wanted o (yielded ops a.tmps)=true)(hk:b.kind≠.early)(aO:o.op=.call {callee:=.builtin .append,args:=#[x,y],argTypes:=#[107,107]})(IK:o.type=107){u:az}(hx:a.eval x=v)(hy:a.eval y=u)
 (ajo:au.aG ((au.bJ fo s).cut w.heap.size) v)(ajp:au.aG ((au.bJ fo s).cut w.heap.size) u)(hr:∀d,∃v' w',(Builtin.append_ #[107,107] 107 #[v,u]).run prog (w.at d)=.ok v' w'/\(au.aG ((au.bJ fo s).cut w'.heap.size) v'->au.Reach (au.bJ fo s) prog (b.at (a.put o.dst v')<|bQ ops rest::k) cs w' Q cs2)):au.Reach (au.bJ fo s) prog (b.at a<|bQ ops (i::rest)::k) cs w Q cs2:=by
 refine au.Reach.ok fun bP=>au.Reach.step fun d=>?_;obtain⟨v',w',hr,hn⟩:=hr d;have hz:w.heap.size<=w'.heap.size:=au.ahF (w:=w.at d) hr;have h5:∀q,(s q\/fo q)->1<=q:=fun q hq=>(bP.low q hq).1;have yl:∀q,(s q\/fo q)\/w'.heap.size<=q->1<=q:=fun q hq=>hq.elim (h5 q) fun z=>by have:=bP.mG;omega
 have lI:=(au.OT (B:=(au.bJ fo s).cut w'.heap.size) (ts:=#[107,107]) (t:=107) (au.LQ yl).toFit<|ok_two (ajo.mono (B:=(au.bJ fo s).cut w'.heap.size) (B':=(au.bJ fo s).cut w.heap.size) (au.OU (B:=au.bJ fo s) hz) rfl)<|ajp.mono (B:=(au.bJ fo s).cut w'.heap.size) (B':=(au.bJ fo s).cut w.heap.size) (au.OU (B:=au.bJ fo s) hz) rfl).DY (w:=w.at d) (au.RS (B:=au.bJ fo s) (w:=w.at d) bP.obj hz) hr fun q hq=>hq.elim (fun z=>.inl (bP.low q z).2) .inr;have o6:=au.OT (B:=au.bJ fo s) (ts:=#[107,107]) (t:=107) (au.lets h5).toFit<|ok_two (ajo.mono (B:=au.bJ fo s) (B':=(au.bJ fo s).cut w.heap.size) (fun _ z=>Or.inl z) rfl)<|ajp.mono (B:=au.bJ fo s) (B':=(au.bJ fo s).cut w.heap.size) (fun _ z=>Or.inl z) rfl;have dS:=ajn o6 (w:=w.at d) ⟨bP.okW.obj,bP.okW.low⟩ hr;refine⟨_,_,w',_,aEF ho hw hk<|XD x y 107 aO hx hy<|IK▸hr,au.oQ.of (w:=w.at d) ⟨bP.obj,bP.low,bP.mG⟩ hz lI.2,hz,fun e he=>?_,hn lI.1⟩;have hm:=aD4 he;rw[aEW x y 107 aO hx hy,IK]at hm;exact au.LM<|dS e hm
def Cb{α:Type}(f:Nat->List α){M:Nat}(hf:∀i,(f i).length<=M):∀{n:Nat},((List.range n).flatMap f).length<=n*M
 |0=>by simp
 |n+1=>by
  have:=Cb f hf (n:=n);have h2:=hf n;rw[aan,EW,iV,Nat.add_mul];simp only[oO,List.flatMap_nil,ql];omega
def Il{main:Bool}(ho:ops[i]? =ae o)(hw:Region.wanted o (yielded ops a.tmps)=true)(hk:b.kind≠.early)(hr:(dP a.eval o).run P w=.ok (.value v) w)(he:(dP a.eval o).events P w #[]=#[]):
 bD P main (G (b.at a<|bQ ops (i::rest)::k) cs) w=.go (G (b.at (a.put o.dst v)<|bQ ops rest::k) cs) w #[]:=by
 rw[aEF ho hw hk hr];unfold listed;rw[he,seen_none]
structure ac0(fo s:Nat->Prop)(w:aj)(B xb n:Nat)(h:HS)(ma:Option Addr)(mc:Nat)(ms:List Ms)(z:Gs)(v:az)(w':aj):Prop where
 waited:∃u a S1 ks Sw G1 w1 av,MC fo s w B xb n h ma mc ms z u a S1 ks Sw G1 w1/\Own S1 w1 z.Ba 119 5 av (fC z.ms).length ((fC z.ms).flatMap Ms.cs)/\Fr (fun b=>av.ownBlock=ae b\/s b\/b=z.Wg) w1 w'
 row:w'.ownsRow z.Ba 119 5 v ((fC z.ms).length+z.kJ.length) ((fC z.ms).flatMap Ms.cs++z.kJ.flatMap Ms.cs)
 vok:au.aG ((au.bJ fo fun b=>s b\/b=z.Wg).cut w'.heap.size) v
def auA{fo s:Nat->Prop}{w:aj}{B Bm xb n:Nat}{h:HS}{ma:Option Addr}{mc:Nat}{ms:List Ms}(hC:PE (fun b=>s b\/fo b) w B Bm xb n h ma mc ms)(ZF:ms.length*5*40<=140737488355328):
 au.tX (au.bJ fo s) prog 54 #[ay<|ae ⟨xb,0,af⟩,.slice ma ms.length mc] w (fun B' v w'=>∃z,B'=au.bJ fo (fun b=>s b\/b=z.Wg)/\ac0 fo s w B xb n h ma mc ms z v w'):=by
 intro c cs;refine au.Reach.ok fun Vz=>(auj (cs:=c::cs) hC).trans ?_;rintro B' fr' w1 ⟨z,u,a,S1,ks,Sw,G1,rfl,rfl,hW⟩;obtain⟨t9,t10,t33,t34,t35,t36,t37,t38,t39,t40,t41,t42,t13,t46,t47,t48,t49,t50,t51,t52,t53,t54,t55,t56,t57,t58,t59,t60,t61,t62,t63,t64,t65,av,rfl,hK,Io⟩:=hW.mid;have hO:=hW.ok;obtain⟨rows,UO,hrC,oL,hra⟩:=hW.rows;obtain⟨E1,XQ⟩:=hW.mem;obtain⟨EO,xu,iR,aeT,auC⟩:z.iG=s/\z.ms=ms/\z.pl=h.pl/\z.iM.zQ=(fun b=>s b\/fo b)/\∀b,fo b->¬s b->z.R b:=by
  obtain⟨_,_,_,_,_,_,_,_,_,_,_,_,hz,_⟩:=hW.sp;rw[hz];exact⟨rfl,rfl,rfl,rfl,fun b h1 h2=>.inl ⟨(Vz.low b<|.inr h1).2,h2,fun⟨p,hp,hb⟩=>(hC.ns b<|.inr h1).2.2.1 p hp hb⟩⟩
 have auD:z.np<=4:=by
  have:=hC.at_.hQ;show z.pl.length<=4;rw[iR];omega
 have DC:(fC z.ms).length<=ms.length:=by rw[xu];exact GH _ _
 have Qr:z.kJ.length<=z.np*ms.length:=Cb _ fun i=>by
  unfold Gs.JM;split
  ·split
   ·simp
   ·rw[EZ];exact eG (GH _ _) (by rw[xu];exact dm _)
  ·simp
 have ajq:z.np*ms.length<=4*ms.length:=Nat.mul_le_mul_right _ auD;have vX:∀b,S1 b->b<w1.heap.size/\¬((s b\/b=z.Wg)\/fo b):=fun b hb=>by
  obtain⟨k1,_,k3,k4⟩:=XQ.rG b hb;rw[aeT]at k4;exact⟨k1,fun zz=>zz.elim (fun zz=>zz.elim (fun y=>k4<|.inl y) fun e=>k3<|.inl e) fun y=>k4<|.inr y⟩
 have XR:z.C<w1.heap.size/\¬((s z.C\/z.C=z.Wg)\/fo z.C):=by
  have hk:=XQ.LX z.C<|.inr<|.inl rfl;rw[aeT]at hk;exact⟨XQ.low _<|.inr<|.inl rfl,fun zz=>zz.elim (fun zz=>zz.elim (fun y=>hk<|.inl y) fun e=>hO.XI e.symm) fun y=>hk<|.inr y⟩
 have hRd:∀b,z.R b->b<w1.heap.size/\¬(s b\/b=z.Wg):=fun b hb=>⟨(hW.rd b hb).1,fun zz=>zz.elim (hW.rd b hb).2 fun e=>hO.CS<|e▸hb⟩;rw[auu,auv];walk_nrm;refine vM fun d1=>?_;refine jO fun d2=>?_;refine vK fun d3=>?_;rw[show List.range Tv.size=[0,1,2,3,4]from rfl];have hK3:z.Bf (w1.at d3):=⟨hK.sv,hK.hv,hK.ps,hK.ob,hK.c0,hK.c1,hK.ms,hK.fr,hK.tape,hK.os,hK.output⟩;change au.Reach _ _ _ _ (w1.at d3) _ _;refine aiW (auw (S:=fun b=>b<w1.heap.size/\¬z.R b/\¬((s b\/b=z.Wg)\/fo b)) hO hK3) (fun b hb=>⟨hb.1,hb.2.2⟩) hRd ?_;rintro S' g' w2 ⟨rfl,kL,rfl⟩;refine⟨_,_,rfl,?_⟩;have F9:∀b,b<w1.heap.size->¬(s b\/b=z.Wg)->w2.heap[b]? =w1.heap[b]? :=fun b h1 h2=>by
  by_cases hR:z.R b
  ·exact kL.ro b hR
  ·exact kL.own b ⟨h1,hR,fun zz=>zz.elim h2 fun y=>hR<|auC b y fun x=>h2<|.inl x⟩
 have Aw:w2.heap[z.C]? =ae (.cells (rows.map (·.1)).toArray 107 (0,0)):=(F9 z.C XR.1 fun zz=>XR.2<|.inl zz).trans hrC;have auF:∀x∈rows,∃Bm,w2.ownsRow Bm 119 5 x.1 x.2.length (x.2.flatMap Ms.cs):=fun x hx=>by
  obtain⟨Bm,h1,h2⟩:=oL x hx;refine⟨Bm,(Own.of (S:=fun b=>x.1.ownBlock=ae b) ⟨h1,fun _ y=>y⟩ (fun _ y=>y) fun b hb=>?_).row⟩;obtain⟨i,hi,NW⟩:=h2 b hb;obtain⟨k1,_,k3,k4,_⟩:=XQ.lN i (by rw[hW.len];exact hi) b NW;rw[aeT]at k4;exact F9 b k1 fun zz=>zz.elim (fun y=>k4<|.inl y) fun e=>k3<|.inl e
 have iU:w1.heap.size<=w2.heap.size:=kL.size;have hBa:z.Ba<=w1.heap.size:=by
  obtain⟨_,_,_,_,hv,_,_,_,_,_,_,_,hz,hle,_⟩:=hW.sp;have h1:=(hW.rd hv (by rw[hz];exact .inr<|.inl rfl)).1;have h2:z.Ba=w.heap.size:=by rw[hz];rfl
  omega
 have auG:Own S1 w2 z.Ba 119 5 av (fC z.ms).length ((fC z.ms).flatMap Ms.cs):=Io.of (fun _ y=>y) fun b hb=>F9 b (vX b<|Io.r b hb).1 fun zz=>(vX b<|Io.r b hb).2<|.inl zz;have h5:∀b,(s b\/b=z.Wg)\/fo b->1<=b:=fun b hb=>(hW.okt.low b hb).1;have auH:∀d t d',aU prog 116 #[aJ (ae ⟨z.C,0,af⟩) z.np z.np] (au.re (w2.at d) t d') (fun e w'=>∃v,e=aT v/\w'.ownsRow w2.heap.size 119 5 v z.kJ.length (z.kJ.flatMap Ms.cs)/\Fr aP (au.re (w2.at d) t d') w'):=fun d t d'=>by
  have:=aus (w:=au.re (w2.at d) t d') Aw auF (by rw[hra];omega) (by omega);rw[hra,UO]at this;exact this
 refine XP (f:=116) (post:=fun B' v w'=>B'=(au.bJ fo fun b=>s b\/b=z.Wg)/\au.aG ((au.bJ fo fun b=>s b\/b=z.Wg).cut w'.heap.size) v/\au.On w2 w'/\w'.ownsRow w2.heap.size 119 5 v z.kJ.length (z.kJ.flatMap Ms.cs)/\∀b,b<w2.heap.size->w'.heap[b]? =w2.heap[b]?) rfl rfl (by decide) rfl func116 rfl rfl (vs:=#[aJ (ae ⟨z.C,0,af⟩) z.np z.np]) (by walk_nrm) (fun d=>(au.ahL (f:=116) (B:=au.bJ fo fun b=>s b\/b=z.Wg) (au.lets h5) (fun m hm=>au.LQ fun b hb=>hb.elim (h5 b) fun y=>eG (by decide:1<=5)<|eG hm y) (show au.lF 116=true by decide) (fun x hx=>by
  simp at hx;subst hx;exact .slice fun y hy zz=>by
   cases hy;rcases zz with zz|zz
   ·exact XR.2 zz
   ·have:w2.heap.size<=z.C:=zz;have:=XR.1;omega) (auH d) (by rintro t d e w' ⟨v,rfl,_⟩;exact⟨v,rfl⟩)).mono (by
  rintro B' v w' ⟨rfl,h1,h2,t0,d0,t1,k1,v',e,h3,h4⟩;cases e;exact⟨rfl,h1,⟨h2.tape,h2.size,h2.os,h2.output⟩,h3,fun b hb=>h4.block b hb id⟩)) ?_
 rintro B' v w3 ⟨rfl,Tz,oM,pY,l7⟩;have hz3:w2.heap.size<=w3.heap.size:=oM.size;have ajr:Own S1 w3 z.Ba 119 5 av (fC z.ms).length ((fC z.ms).flatMap Ms.cs):=auG.of (fun _ y=>y) fun b hb=>l7 b (by have:=(vX b<|Io.r b hb).1;omega);walk_nrm;refine auy (.tmp 68) (.tmp 70) rfl rfl (by decide) rfl rfl (v:=av) (u:=v) rfl rfl (SS ajr.row fun b hb zz=>?_) Tz fun d=>?_
 ·have h6:=vX b<|Io.r b hb;rcases zz with zz|zz
  ·exact h6.2 zz
  ·have:w3.heap.size<=b:=zz;omega
 obtain⟨v4,w4,gU,aAc,TA⟩:=aji (w:=w3.at d) ajr.row pY (ajh _) (by omega) (show z.Ba<=w3.heap.size by omega);refine⟨v4,w4,gU,fun hv4=>?_⟩;have zt:Fr (fun b=>av.ownBlock=ae b\/s b\/b=z.Wg) w1 w4:=by
  refine⟨TA.os.trans<|oM.os.trans kL.os,TA.tape.trans<|oM.tape.trans kL.tape,TA.output.trans<|oM.output.trans kL.output,?_,fun b hb hn=>?_⟩
  ·have h7:w3.heap.size<=w4.heap.size:=TA.size;omega
  ·refine(TA.block b (show b<w3.heap.size by omega) fun e=>hn<|.inl e.symm).trans<|(l7 b<|by omega).trans<|F9 b hb fun zz=>hn<|.inr zz
 walk_nrm;refine jD (fun w=>Il (v:=v4) rfl rfl (by decide) rfl rfl) fun d5=>?_;walk_nrm;refine vM fun d6=>?_;refine jD (fun _=>aEh) fun d7=>?_;refine jD (fun w=>stepG_leave (v:=v4) rfl rfl func54 (by kernel_rfl)<|by kernel_rfl) fun d8=>?_;exact au.Reach.here fun _=>⟨v4,rfl,z,rfl,⟨⟨u,_,S1,ks,Sw,G1,w1,av,hW,Io,⟨zt.os,zt.tape,zt.output,zt.size,zt.block⟩⟩,aAc,hv4⟩⟩
end Twin
end
section
namespace Twin
open Go Go.Proofs Go.Conc Go.RowKit Go.Maps fJ
def yV(ms:List Ms)(i:Nat)(p:PL):aH:=if p.out then p.s else(ms.filter fun m:Ms=>decide<|m.k=1/\m.q=(i:Int)).foldl (fun s m=>s.closed m.p m.t m.c) p.s
def kJ(ms:List Ms)(pl:List PL):List Ms:=(List.range pl.length).flatMap fun i=>match pl[i]? with
 |some p=>if p.out then[]else(ms.filter fun m:Ms=>decide<|m.k=1/\m.q=(i:Int)).map Ms.kZ
 |none=>[]
variable{w w':aj}{B n:Nat}{v:az}
def dY.same{lb bm n':Nat}{s:aH}(h:dY w B lb bm v n s)(hn:n<=n')(hb:∀b,lG lb bm v b->w'.heap[b]? =w.heap[b]?):dY w' B lb bm v n' s:=by
 have h1:=(iD.SQ (S:=lG lb bm v) (w':=w') ⟨h,.inl rfl,.inr<|.inl rfl,fun _ hk=>.inr<|.inr hk⟩ hb).log;exact h1.mono hn
def auI{t:dw}{size:Nat}{xs:List az}(h:w.ownsRow B t size v n xs){b:Nat}(hb:v.ownBlock=ae b):b<w.heap.size/\∃cs fr,w.heap[b]? =ae (.cells cs t fr):=by
 rcases h.2 with⟨rfl,_⟩|⟨g,cap,cur,rfl,_,hg,_⟩
 ·simp[Value.ownBlock]at hb
 ·simp only[Value.ownBlock,gu]at hb;subst hb;exact⟨(jk.1 hg).1,_,_,hg⟩
def auJ{fo s:Nat->Prop}{Bm xb:Nat}{h:HS}{ma:Option Addr}{mc:Nat}{ms:List Ms}{z:Gs}(hC:PE (fun b=>s b\/fo b) w B Bm xb n h ma mc ms)(hG:ac0 fo s w B xb n h ma mc ms z v w')(hj:∀b,s b->h.jv.ownBlock≠ae b/\h.fv.ownBlock≠ae b):
 ∃fZ:List PL,fZ.length=h.pl.length/\(∀(i:Nat) (p:PL),h.pl[i]? =ae p->∃v',fZ[i]? =ae {p with v:=v',s:=yV ms i p})/\aF w' B xb (n+ms.length) {h with pl:=fZ}/\iP fZ/\(∀p∈fZ,∀b,lG p.lb p.bm p.v b->(wR h.pl b\/w.heap.size<=b)/\¬s b)/\
  w'.ownsRow w.heap.size 119 5 v ((fC ms).length+(kJ ms h.pl).length) ((fC ms).flatMap Ms.cs++(kJ ms h.pl).flatMap Ms.cs)/\(∀b,b<w.heap.size->¬s b->¬wR h.pl b->w'.heap[b]? =w.heap[b]?)/\w.heap.size<=w'.heap.size/\w.heap.size<=z.Wg/\w'.tape=w.tape/\w'.os=w.os/\w'.output=w.output:=by
 obtain⟨u,a,S1,ks,Sw,G1,w1,av,hW,Io,hF⟩:=hG.waited
 obtain⟨E1,hM⟩:=hW.mem
 obtain⟨w2,pb,pc,mb,hv,mr,C,sv,ov,ob,Wg,m0,hz,hle,l1,l2,l3,l4,l5,l6,hK⟩:=hW.sp
 have hQ:=hC.at_.hQ
 have D8:z.np=h.pl.length:=by rw[hz];rfl
 have EO:z.iM.zQ=fun b=>s b\/fo b:=by rw[hz];rfl
 have o8:0<z.np:=by rw[D8];omega
 have hRG:∀b,z.R b->G1 b:=fun b hb=>by
  have lL:0<ks.length:=by rw[hW.len];exact o8
  exact hM.yO 0 ks[0] (eY lL) b<|.inl hb
 have ajt:∀b,b<w.heap.size->¬s b->¬wR h.pl b->z.R b:=fun b h1 h2 h3=>by rw[hz];exact .inl ⟨h1,h2,h3⟩
 have auK:w.heap.size<=z.Wg:=by
  have:z.Wg=Wg:=by rw[hz];rfl
  omega
 have ac1:∀b,b<w.heap.size->¬s b->¬wR h.pl b->w'.heap[b]? =w.heap[b]? :=fun b h1 h2 h3=>by
  have hR:=ajt b h1 h2 h3;have e1:w1.heap[b]? =w2.heap[b]? :=by
   have:=hW.mid.jM.fr b hR;rw[this,hz];rfl
  have e2:w2.heap[b]? =w.heap[b]? :=hK.own b h1;refine(hF.block b (hW.rd b hR).1 fun zz=>?_).trans<|e1.trans e2;rcases zz with zz|zz|zz
  ·exact(hM.rG b<|Io.r b zz).2.1<|hRG b hR
  ·exact h2 zz
  ·omega
 have TB:∀i,∃v',∀p,h.pl[i]? =ae p->iD (Sw i) w1 z.B p.lb p.bm (z.n+(z.marks i).length) v' (yV ms i p):=fun i=>by
  by_cases hi:i<z.np
  ·obtain⟨p,_,hp,_,_,_,v',h1,_⟩:=hW.one hi;refine⟨v',fun p' vU=>?_⟩;have hpe:p'=p:=by
    rw[hz]at hp;have yz:h.pl[i]? =ae p:=hp;rw[vU]at yz;exact qX yz
   subst hpe;have e:yV ms i p'=(if p'.out then p'.s else(z.marks i).foldl (fun s m=>s.closed m.p m.t m.c) p'.s):=by rw[hz];rfl
   rw[e];exact h1
  ·exact⟨ai,fun p hp=>absurd (dM.1 hp).1 (by rw[<-D8];exact hi)⟩
 obtain⟨f,hf⟩:=QL TB
 have Nv:∀(i:Nat) (p:PL),h.pl[i]? =ae p->(h.pl.mapIdx fun i p=>({p with v:=f i,s:=yV ms i p}:PL))[i]? =ae {p with v:=f i,s:=yV ms i p}:=fun i p hp=>by simp[hp]
 have ZY:∀(i:Nat) (q:PL),(h.pl.mapIdx fun i p=>({p with v:=f i,s:=yV ms i p}:PL))[i]? =ae q->∃p,h.pl[i]? =ae p/\q={p with v:=f i,s:=yV ms i p}:=fun i q hq=>by
  simp only[List.getElem?_mapIdx,zC]at hq;obtain⟨p,hp,rfl⟩:=hq;exact⟨p,hp,rfl⟩
 have NW:∀(i:Nat) (p:PL),h.pl[i]? =ae p->∀b,lG p.lb p.bm (f i) b->Sw i b:=fun i p hp=>(hf i p hp).sub
 have fE:∀(i:Nat) (p:PL),h.pl[i]? =ae p->i<ks.length:=fun i p hp=>by rw[hW.len,D8];exact(dM.1 hp).1
 obtain⟨_,_,_,iJ,sU,aBQ,aBR,gW,BC,Vx,_,_,_⟩:=ajc hC
 have aAe:w.heap.size<=w1.heap.size:=by
  have hR:z.R hv:=by rw[hz];exact .inr<|.inl rfl
  have:=(hW.rd hv hR).1;omega
 have eH:w.heap.size<=w'.heap.size:=eG aAe hF.size
 have dF:∀{t:dw} {k:Nat} {x:az} {m:Nat} {xs:List az},w.ownsRow B t k x m xs->t≠163->55≠t->(∀b,s b->x.ownBlock≠ae b)->w'.ownsRow B t k x m xs:=fun{t k x m xs} hr h1 h2 h3=>by
  refine(Own.of (S:=fun _=>True) (S':=fun _=>True) ⟨hr,fun _ _=>trivial⟩ (fun _ h=>h) fun b hb=>?_).row;obtain⟨hl,cs,fr,hc⟩:=auI hr hb;exact ac1 b hl (fun z=>h3 b z hb) fun⟨p,hp,sU⟩=>XM (hC.at_.ed p hp) hc h1 h2 sU
 have Ae:∀(i:Nat) (p:PL),h.pl[i]? =ae p->∀b,lG p.lb p.bm (f i) b->b<w1.heap.size/\¬G1 b/\¬s b/\b≠z.Wg/\¬S1 b:=fun i p hp b hb=>by
  obtain⟨q1,q2,q3,q4,q5⟩:=hM.lN i (fE i p hp) b<|NW i p hp b hb;rw[EO]at q4;exact⟨q1,q2,fun e=>q4<|.inl e,fun e=>q3<|.inl e,q5⟩
 have hpc:pI (h.pl.mapIdx fun i p=>({p with v:=f i,s:=yV ms i p}:PL))=pI h.pl:=by
  unfold pI;rw[List.flatMap_def,List.flatMap_def];congr 1;refine List.ext_getElem? fun i=>?_;simp only[afg,List.getElem?_mapIdx,Option.map_map];rfl
 refine⟨h.pl.mapIdx fun i p=>{p with v:=f i,s:=yV ms i p},List.length_mapIdx,fun i p hp=>⟨f i,Nv i p hp⟩,?_,?_,?_,?_,ac1,eH,auK,?_,?_,?_⟩
 ·refine⟨(ac1 xb gW (fun z=>BC<|.inl z) Vx).trans hC.at_.blk,dF hC.at_.kT (by decide) (by decide) fun b hb=>(hj b hb).1,?_,dF hC.at_.mV (by decide) (by decide) fun b hb=>(hj b hb).2,?_,hC.at_.hx,hC.at_.hP,?_,hC.at_.h6⟩
  ·show w'.ownsRow B 98 2 h.pv (h.pl.mapIdx _).length (pI _)
   rw[List.length_mapIdx,hpc]
   exact dF hC.at_.jU (by decide) (by decide) fun b hb=>(hC.ns b<|.inl hb).2.1
  ·intro q hq
   obtain⟨i,hi⟩:=List.getElem?_of_mem hq
   obtain⟨p,hp,rfl⟩:=ZY i q hi
   have hml:(z.marks i).length<=ms.length:=by rw[hz];exact GH _ _
   have hzn:z.n=n:=by rw[hz];rfl
   have hzB:z.B=B:=by rw[hz];rfl
   have hL:=(hf i p hp).log
   rw[hzB,hzn]at hL
   refine dY.same hL (by omega) fun b hb=>?_
   obtain⟨q1,_,q3,q4,q5⟩:=Ae i p hp b hb
   exact hF.block b q1 fun zz=>zz.elim (fun e=>q5<|Io.r b e) fun zz=>zz.elim q3 q4
  ·show h.Q=(h.pl.mapIdx _).length/\_
   rw[List.length_mapIdx]
   exact hQ
 ·intro i j p q zi hp hq k hk dN
  obtain⟨p0,vW,rfl⟩:=ZY i p hp
  obtain⟨q0,rV,rfl⟩:=ZY j q hq
  exact zi<|hM.apart i j (fE i p0 vW) (fE j q0 rV) k (NW i p0 vW k hk)<|NW j q0 rV k dN
 ·intro q hq b hb
  obtain⟨i,hi⟩:=List.getElem?_of_mem hq
  obtain⟨p,hp,rfl⟩:=ZY i q hi
  obtain⟨_,q2,q3,_,_⟩:=Ae i p hp b hb
  refine⟨?_,q3⟩
  by_cases h1:wR h.pl b
  ·exact .inl h1
  ·refine .inr<|Nat.le_of_not_lt fun h2=>q2<|hRG b<|ajt b h2 q3 h1
 ·have e1:z.ms=ms:=by rw[hz];rfl
  have e2:z.kJ=kJ ms h.pl:=by rw[hz];rfl
  have e3:z.Ba=w.heap.size:=by rw[hz];rfl
  have:=hG.row
  rw[e1,e2,e3]at this
  exact this
 ·have e0:z.w0=w2:=by rw[hz];rfl
  have:=hW.mid.jM.tape
  rw[e0]at this
  exact hF.tape.trans<|this.trans hK.tape
 ·have e0:z.w0=w2:=by rw[hz];rfl
  have:=hW.mid.jM.os
  rw[e0]at this
  exact hF.os.trans<|this.trans hK.os
 ·have e0:z.w0=w2:=by rw[hz];rfl
  have:=hW.mid.jM.output
  rw[e0]at this
  exact hF.output.trans<|this.trans hK.output
end Twin
end
section
open Go.RowKit Go.Maps
section
variable{h h':HS}
end
inductive pW:HS->List Ms->HS->Prop
 |nil (h:HS):pW h [] h
 |cons {h h1 h2:HS} {m:Ms} {l:List Ms} {i:Nat} {x:PS} (hi:m.p=(i:Int)) (hx:h.ps[i]? =ae x) (a:yM h i x m h1) (r:pW h1 l h2):pW h (m::l) h2
section
variable{h h':HS}
def yM.rest{i:Nat}{x:PS}{m:Ms}(a:yM h i x m h'):h'.P=h.P/\h'.Q=h.Q/\h'.pl=h.pl/\(h.ps.length=6->h'.ps.length=6)/\h'.fv=h.fv/\h'.fl=h.fl:=by
 cases a with
 |idle=>exact⟨rfl,rfl,rfl,id,rfl,rfl⟩
 |tie=>exact⟨rfl,rfl,rfl,fun e=>by show(h.ps.set i _).length=6;rw[zF];exact e,rfl,rfl⟩
 |done _ _ hw=>
  cases hw with
  |ok=>exact⟨rfl,rfl,rfl,fun e=>by show(jV h.ps _).length=6;simp[jV,e],rfl,rfl⟩
  |ru=>exact⟨rfl,rfl,rfl,fun _=>rfl,rfl,rfl⟩
def JO(l:List Ms)(s:aH):aH:=l.foldl (fun s m=>s.closed m.p m.t m.c) s
def aju:∀(l:List Ms) {s:aH} {i t:Int},(JO l s).nw i=ae (t,true)->s.nw i=ae (t,true)/\∀m∈l,¬(m.p=i/\m.t=t)
 |[],_,_,_,h=>⟨h,by simp⟩
 |m::l,s,i,t,h=>by
  obtain⟨h1,h2⟩:=aju l (s:=s.closed m.p m.t m.c) h;obtain⟨h3,h4⟩:=abp h1;refine⟨h3,fun x hx=>?_⟩;rcases jR.1 hx with rfl|hx
  ·exact fun e=>h4 ⟨e.1.symm,e.2.symm⟩
  ·exact h2 x hx
end
end
section
namespace Twin
open Go Go.Proofs Go.Conc Go.RowKit Go.Maps fJ
section
variable{w w':aj}{B xb n:Nat}{h:HS}
def aF.same(hh:aF w B xb n h)(hb:∀b,h.fA xb b->w'.heap[b]? =w.heap[b]?)(_:w.heap.size<=w'.heap.size):aF w' B xb n h:=by
 have row:∀{ty:dw} {wd:Nat} {v:az} {k:Nat} {xs:List az},w.ownsRow B ty wd v k xs->(∀b,v.ownBlock=ae b->h.fA xb b)->w'.ownsRow B ty wd v k xs:=fun{ty wd v k xs} ho hf=>by
  refine⟨ho.1,?_⟩;rcases ho.2 with⟨e,h0⟩|⟨g,cap,cur,e,h1,h2,h3⟩
  ·exact .inl ⟨e,h0⟩
  ·exact .inr ⟨g,cap,cur,e,h1,(hb g<|hf g (by rw[e];rfl)).trans h2,h3⟩
 exact⟨(hb xb<|.inl rfl).trans hh.blk,row hh.kT fun b e=>.inr<|.inl e,row hh.jU fun b e=>.inr<|.inr<|.inl e,row hh.mV fun b e=>.inr<|.inr<|.inr<|.inl e,fun p hp=>dY.same (hh.ed p hp) (dm _) fun b hbf=>hb b<|.inr<|.inr<|.inr<|.inr ⟨p,hp,hbf⟩,hh.hx,hh.hP,hh.hQ,hh.h6⟩
def aF.re(hh:aF w B xb n h)(t:Nat->Question->Nat)(d:Nat):aF (au.re w t d) B xb n h:=aF.same hh (fun _ _=>rfl)<|dm _
def aF.JP{t:Nat->Question->Nat}{d:Nat}(hh:aF (au.re w t d) B xb n h):aF w B xb n h:=aF.same hh (fun _ _=>rfl)<|dm _
def TC{Bn:au.cO}{v:az}{b:Nat}(h:au.aG Bn v)(hb:v.ownBlock=ae b):¬Bn.bZ b:=by
 cases h with
 |slice h=>
  rename_i a n m;cases a with
  |none=>simp[Value.ownBlock]at hb
  |some a=>
   have:=h a rfl;simp only[Value.ownBlock]at hb;cases hb;exact this
 |_=>simp[Value.ownBlock]at hb
def aF.free{fo s:Nat->Prop}(hh:aF w B xb n h)(bP:au.oQ (au.bJ fo s) w)(hx:¬(s xb\/fo xb)):∀b,h.fA xb b->¬(s b\/fo b):=by
 have gW:=(jk.1 hh.blk).1;have ns:∀{a:Nat},¬(s a\/fo a)->a<w.heap.size->¬((au.bJ fo s).cut w.heap.size).bZ a:=fun{a} h1 h2 z=>z.elim h1 fun y=>by omega
 have up:∀{a:Nat},¬((au.bJ fo s).cut w.heap.size).bZ a->¬(s a\/fo a):=fun z hs=>z<|.inl hs;have cell:∀{a:Addr} {v:az},¬(s a.block\/fo a.block)->a.block<w.heap.size->w.cell? a=ae v->au.aG ((au.bJ fo s).cut w.heap.size) v:=fun h1 h2 hc=>bP.obj.cell (ns h1 h2) hc;have iJ:∀b,h.pv.ownBlock=ae b->¬(s b\/fo b):=fun b e=>up<|TC (cell hx gW hh.cV) e;rintro b (rfl|e|e|e|⟨p,hp,e⟩)
 ·exact hx
 ·exact up<|TC (cell hx gW hh.cJ) e
 ·exact iJ b e
 ·exact up<|TC (cell hx gW hh.cF) e
 ·obtain⟨k,hk⟩:=VN.1 hp;obtain⟨g,cap,e1,hg,_,c0,_⟩:=hh.place hk;have uu:¬(s g\/fo g):=iJ g (by rw[e1];rfl);have iF:¬(s p.lb\/fo p.lb):=by
   have:=cell (a:=⟨g,k*2,af⟩) uu hg c0;exact up this.ptr
  have TB:=hh.ed p hp;have Dq:=(jk.1 TB.blk).1;have c1:w.cell? ⟨p.lb,0,af⟩=ae p.v:=aK TB.blk 0;have c2:w.cell? ⟨p.lb,2,af⟩=ae (.map<|ae p.bm):=aK TB.blk 2;rcases e with e|e|e
  ·rw[e];exact iF
  ·rw[e];exact up (cell (a:=⟨p.lb,2,af⟩) iF Dq c2).mp
  ·exact up<|TC (cell (a:=⟨p.lb,0,af⟩) iF Dq c1) e
end
end Twin
end
section
namespace Twin
open Go Go.Proofs Go.Conc Go.RowKit Go.Maps fJ
noncomputable def rb:Code:=Tryz.f20.body.getD .skip
noncomputable def XU:Code:=iQ<|fU rb
noncomputable def rX:Code:=iQ<|fU<|fU rb
noncomputable def TD:Code:=fU rX
noncomputable def rY:Code:=fU<|fU<|fU rb
def auM:rb=.seq (iQ rb) (.seq XU<|.seq (.seq (iQ rX) TD) rY):=rfl
def ok0:au.codeOk prog au.lF (iQ rb)=true:=by kernel_rfl
def PH:au.codeOk prog au.lF XU=true:=by kernel_rfl
def auO:au.codeOk prog au.lF TD=true:=by kernel_rfl
def okY:au.codeOk prog au.lF rY=true:=by kernel_rfl
def rt(xb:Nat)(t2 t3 t5 t6 t7 t8 t9 t10 t11 t12 t13 t14 t15 t16 t17 t18 t19 t20 t21 t22 t23 t24 t25 t26 t27:az):Array Value:=
 #[ay<|ae ⟨xb,0,af⟩,ai,t2,t3,ai,t5,t6,t7,t8,t9,t10,t11,t12,t13,t14,t15,t16,t17,t18,t19,t20,t21,t22,t23,t24,t25,t26,t27]
section
variable{W w':aj}{B xb n:Nat}{h:HS}
def auQ(hh:aF W B xb n h):XU.wp prog (fun e a' w'=>e=.normal/\(∃t6 t7 t8 t9,a'=⟨rt xb (ag ah 0) h.fv ai t6 t7 t8 t9 ai ai ai ai ai ai ai ai ai ai ai ai ai ai ai ai ai ai,[]⟩)/\bU W w' B xb n h n (h.ig (aJ af 0 0) [])/\Fr (fun q=>q=xb) W w')
 ⟨rt xb (ag ah 0) ai ai ai ai ai ai ai ai ai ai ai ai ai ai ai ai ai ai ai ai ai ai ai ai,[]⟩ W:=by
 have HH:Hid (aF W B xb n h):=hh;have aI:=aX hh.blk;clear hh;simp only[XU,rb,Tryz.f20,ik,iQ,fU,rt];go_wp2_with
  ((go_at_call 53;refine(apJ HH.o).mono ?_;rintro e w1 ⟨rfl,qR,bM⟩
    have M1:Hid (bU W w1 B xb n h n<|h.ig (aJ af 0 0) []):=qR
    have F1:Hid (Fr (fun q=>q=xb) W w1):=bM
    clear qR bM))
 exact⟨M1.o,F1.o⟩
def _root_.Go.Proofs.YtkelpcjiediamaaGreat.pW.snoc{l:List Ms}{m:Ms}{i:Nat}{x:PS}:∀{h h1 h2:HS},pW h l h1->m.p=(i:Int)->h1.ps[i]? =ae x->yM h1 i x m h2->pW h (l++[m]) h2:=by
 induction l with
 |nil=>intro h h1 h2 a e hx b;cases a;exact .cons e hx b<|.nil _
 |cons z l ih=>
  intro h h1 h2 a e hx b;cases a with
  |cons e1 x1 a ra=>exact .cons e1 x1 a<|ih ra e hx b
def aF.auR(hh:aF W B xb n h)(hn:h.fv=aJ af 0 0){k:Nat}(hk:tag W k=119):¬h.fA xb k:=fun e=>by
 rcases hh.aaS e with t|t|t|⟨_,t⟩|t|t|t;all_goals first
  |(rw[hk]at t;cases t;done)
  |(rw[hn]at t;simp[Value.ownBlock]at t)
inductive Bg(h:HS):HS->Prop
 |down (hu:h.up=false):Bg h h
 |up {ok:Bool} {h':HS} (hu:h.up=true) (t:OI h ok h'):Bg h h'
def auS{A:List Ms}{Bm:Nat}{aa:Option Addr}{ac:Nat}(hh:aF W B xb n h)(pz:h.fv=aJ af 0 0)(dF:W.ownsRow Bm 119 5 (.slice aa A.length ac) A.length (A.flatMap Ms.cs))(qV:A.length<=1000)
 (hp:∀(k:Nat) (h2:HS) (m:Ms),pW h (A.take k) h2->A[k]? =ae m->∃(i:Nat) (x:PS) (q:Nat),m.p=(i:Int)/\i<6/\h2.ps[i]? =ae x/\m.q=(q:Int)/\q<4/\mD h2 ⟨4,i,0,x.t⟩)(t2 t3 t5 t6 t7 t8 t9 t10 t11 t15 t16 t17 t18 t19 t20 t21 t22 t23 t24 t25 t26 t27:az):
 TD.wp prog (fun e a' w'=>e=.normal/\(∃t5 t14 t15 t16 t17 t18 t19 t20 t21 t22 t23,a'=⟨rt xb t2 t3 t5 t6 t7 t8 t9 t10 t11 (.slice aa A.length ac) (ag ah A.length) t14 t15 t16 t17 t18 t19 t20 t21 t22 t23 t24 t25 t26 t27,[]⟩)/\∃h2,pW h A h2/\bU W w' B xb n h n h2)
  ⟨rt xb t2 t3 t5 t6 t7 t8 t9 t10 t11 (.slice aa A.length ac) (ag ah A.length) (ag ah 0) t15 t16 t17 t18 t19 t20 t21 t22 t23 t24 t25 t26 t27,[]⟩ W:=by
 have HH:Hid (aF W B xb n h):=hh
 have Ef:Hid (h.fv=aJ af 0 0):=pz
 have ROW:Hid (W.ownsRow Bm 119 5 (.slice aa A.length ac) A.length<|A.flatMap Ms.cs):=dF
 have HP:Hid (∀(k:Nat) (h2:HS) (m:Ms),pW h (A.take k) h2->A[k]? =ae m->∃(i:Nat) (x:PS) (q:Nat),m.p=(i:Int)/\i<6/\h2.ps[i]? =ae x/\m.q=(q:Int)/\q<4/\mD h2 ⟨4,i,0,x.t⟩):=hp
 clear hh dF hp pz
 simp only[TD,rX,rb,Tryz.f20,ik,iQ,fU,rt]
 go_wp2_with fail
 go_loopw [14] (fun iv w'=>∃(k:Nat) (h2:HS),k<=A.length/\iv=ag ah k/\pW h (A.take k) h2/\bU W w' B xb n h n h2/\h2.fv=aJ af 0 0/\w'.ownsRow Bm 119 5 (.slice aa A.length ac) A.length (A.flatMap Ms.cs)) (fun iv _=>A.length-(fH iv).toNat)
 case atStart=>exact⟨0,h,mi _,rfl,.nil _,bU.refl HH.o,Ef.o,ROW.o⟩
 case round=>
  obtain⟨k,h2,hk,rfl,DC,dI,ajv,dF⟩:=hrel
  have MV:Hid (bU W wr B xb n h n h2):=dI
  have AL:Hid (pW h (A.take k) h2):=DC
  have FV2:Hid (h2.fv=aJ af 0 0):=ajv
  have AR:Hid (wr.ownsRow Bm 119 5 (.slice aa A.length ac) A.length<|A.flatMap Ms.cs):=dF
  have aBS:=aX dI.at_.blk
  clear DC dI ajv dF
  by_cases aI:k<A.length
  ·obtain⟨x,hx⟩:∃x,A[k]? =ae x:=⟨_,eY aI⟩
   have HX:Hid (A[k]? =ae x):=hx
   obtain⟨i,px,q,p1,p2,p3,p4,p5,p6⟩:=HP.o k h2 x AL.o hx
   have PX:Hid (x.p=(i:Int)/\i<6/\h2.ps[i]? =ae px/\x.q=(q:Int)/\q<4/\mD h2 ⟨4,i,0,px.t⟩):=⟨p1,p2,p3,p4,p5,p6⟩
   obtain⟨g,cap,e,hg,o6,lI,r0,r1,r2,r3,r4⟩:=WL AR.o hx
   simp only[aD6,true_and]at e
   obtain⟨rfl,rfl⟩:=e
   have aQ:(k:Int)<(A.length:Int):=by omega
   clear hx p1 p2 p3 p4 p5 p6
   go_wp2_with fail
   have S0:Hid (∀V,Fr aP (wr.alloc<|aC #[ag ah x.k,ag ah x.q,ag ah x.p,ag ah x.t,aB x.c] 119) V->V.cell? ⟨wr.heap.size,0,af⟩=ae (ag ah x.k)/\V.cell? ⟨wr.heap.size,1,af⟩=ae (ag ah x.q)/\V.cell? ⟨wr.heap.size,2,af⟩=ae (ag ah x.p)/\V.cell? ⟨wr.heap.size,3,af⟩=ae (ag ah x.t)/\V.cell? ⟨wr.heap.size,4,af⟩=ae (aB x.c)):=fun V f=>by
    have Ag:V.heap[wr.heap.size]? =ae (aC #[ag ah x.k,ag ah x.q,ag ah x.p,ag ah x.t,aB x.c] 119 (0,0)):=(f.block wr.heap.size (by simp) id).trans<|aDY _ _;exact⟨aK Ag 0,aK Ag 1,aK Ag 2,aK Ag 3,aK Ag 4⟩
   go_region_held3 (fun V=>V.cell? ⟨wr.heap.size,0,af⟩=ae (ag ah x.k)/\V.cell? ⟨wr.heap.size,1,af⟩=ae (ag ah x.q)/\V.cell? ⟨wr.heap.size,2,af⟩=ae (ag ah x.p)/\V.cell? ⟨wr.heap.size,3,af⟩=ae (ag ah x.t)/\V.cell? ⟨wr.heap.size,4,af⟩=ae (aB x.c))
    (first|with_reducible exact C1|exact S0.o _ (Fr.refl _ _)|exact S0.o _ ((Fr.refl _ _).drew)|go_keep)
    ((go_at_call 55;refine(agT (MV.o.at_.after<|(bG _).drew) PX.o.2.1 PX.o.2.2.1 x PX.o.2.2.2.1 PX.o.2.2.2.2.1 PX.o.1 PX.o.2.2.2.2.2).mono ?_;rintro e w3 ⟨rfl,h3,hy3,XV⟩
      have Y3:Hid (yM h2 i px x h3):=hy3
      have M3:Hid (bU W w3 B xb n h n h3):=MV.o.trans<|XV.behind<|(bG _).drew
      have ra:((wr.alloc<|aC #[ag ah x.k,ag ah x.q,ag ah x.p,ag ah x.t,aB x.c] 119).drew).ownsRow Bm 119 5 (aJ (ae ⟨g,0,af⟩) A.length ac) A.length (A.flatMap Ms.cs):=((bG _).drew).ownsRow AR.o fun _ _=>id
      have A3:Hid (w3.ownsRow Bm 119 5 (aJ (ae ⟨g,0,af⟩) A.length ac) A.length<|A.flatMap Ms.cs):=XV.fr.ownsRow ra fun b hb hS=>aF.auR (MV.o.at_.after<|(bG _).drew) FV2.o (iK ra hb) hS
      have C1:w3.cell? ⟨wr.heap.size,0,af⟩=ae (ag ah x.k)/\w3.cell? ⟨wr.heap.size,1,af⟩=ae (ag ah x.q)/\w3.cell? ⟨wr.heap.size,2,af⟩=ae (ag ah x.p)/\w3.cell? ⟨wr.heap.size,3,af⟩=ae (ag ah x.t)/\w3.cell? ⟨wr.heap.size,4,af⟩=ae (aB x.c):=by
       have Ag:w3.heap[wr.heap.size]? =ae (aC #[ag ah x.k,ag ah x.q,ag ah x.p,ag ah x.t,aB x.c] 119 (0,0)):=(XV.fr.block wr.heap.size (by simp) (fun e=>by have:=(MV.o.at_.qK e).1;omega)).trans (((Fr.refl (fun _=>False) _).drew.block wr.heap.size (by simp) id).trans<|aDY _ _);exact⟨aK Ag 0,aK Ag 1,aK Ag 2,aK Ag 3,aK Ag 4⟩
      clear hy3 XV ra))
   all_goals
    go_wp2
    go_roundw
    case rel=>
     refine⟨k+1,h3,by omega,by go_num,?_,M3.o,Y3.o.rest.2.2.2.2.1.trans FV2.o,A3.o⟩
     rw[AP,HX.o]
     exact AL.o.snoc PX.o.1 PX.o.2.2.1 Y3.o
    case measure=>simp[fH]<;>omega
  ·have AF:Hid (pW h A h2):=by
    have:=AL.o;rw[DJ<|by omega]at this;exact this
   go_wp2
   exact⟨h2,AF.o,MV.o⟩
def auT{l:Nat}{na:Option Addr}{nc:Nat}(hh:aF W B xb n h)(hp:h.up=true->∀(j:Nat) (h1:HS) (x:PS),j<h.P.toNat->qM h j h1->h1.ps[j]? =ae x->x.DT/\mD h1 ⟨3,j,0,x.t⟩)(t2 t5 t6 t7 t8 t9 t10 t11 t12 t13 t14 t15 t16 t17 t18 t19 t20 t21 t22 t23 t24 t25 t26 t27:az):
 rY.wp prog (fun e a' w'=>e=.ret/\a'.tmps.getD 2 ai=ag ah l/\∃h2,Bg h h2/\bU W w' B xb n h n h2)
  ⟨rt xb t2 (.slice na l nc) t5 t6 t7 t8 t9 t10 t11 t12 t13 t14 t15 t16 t17 t18 t19 t20 t21 t22 t23 t24 t25 t26 t27,[]⟩ W:=by
 have HH:Hid (aF W B xb n h):=hh
 have HP:Hid (h.up=true->∀(j:Nat) (h1:HS) (x:PS),j<h.P.toNat->qM h j h1->h1.ps[j]? =ae x->x.DT/\mD h1 ⟨3,j,0,x.t⟩):=hp
 clear hh hp
 cases hu:h.up
 ·have HU:Hid (h.up=false):=hu
  clear hu
  simp only[rY,rb,Tryz.f20,ik,fU,rt]
  go_wp2_with ((go_at_call 56;refine(agW HH.o HU.o).mono ?_;rintro e w5 ⟨rfl,rfl⟩))
  exact⟨h,.down HU.o,bU.refl HH.o⟩
 ·have HU:Hid (h.up=true):=hu
  clear hu
  simp only[rY,rb,Tryz.f20,ik,fU,rt]
  go_wp2_with
   ((go_at_call 56;refine(agX HH.o HU.o<|HP.o HU.o).mono ?_;rintro e w5 ⟨ok,h5,rfl,ho5,JQ⟩
     have O5:Hid (OI h ok h5):=ho5
     have M5:Hid (bU W w5 B xb n h n h5):=JQ
     clear ho5 JQ))
  all_goals exact⟨h5,.up HU.o O5.o,M5.o⟩
end
end Twin
end
end Go.Proofs.YtkelpcjiediamaaGreat
