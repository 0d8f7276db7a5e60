import Derived.Test.YtkelpcjiediamaaGreatQb36
set_option maxRecDepth 100000
set_option maxHeartbeats 0
set_option linter.all false
namespace Go.Proofs.YtkelpcjiediamaaGreat
open Go renaming Frame→aV,Goroutine→aX,Value→aj,World→ah,maxLen→dH,stepG→aW,undef→ag
open Option renaming none→af,some→ae
open Go.Proofs.Tryz
namespace Twin
open Go Go.Proofs Go.Conc Go.RowKit Go.Maps eX
open Go.ConcR (WgAt KK)
def dU(l:List Ms):List Ms:=l.filter fun m=>decide<|m.k=2
variable{z:Gs}{ks:List Kd}{S:aC}{w w':ah}
def Gs.nP.grown{row:Option Nat}(h:z.nP ks S w)(hl:ks.length=z.np)(hO:z.Ok)(hW:z.Wg<w.heap.size)(hg:w.grownBy w' row)(hr:∀k,row=ae k->S k/\k≠z.mr):z.nP ks (grow S w w') w':=by
 have hz:=hg.size;have hb:∀b,b<w.heap.size->(∀k,row=ae k->b≠k)->w'.heap[b]? =w.heap[b]? :=fun b h1 h2=>hg.block b h1 fun e=>h2 b e.symm rfl;have hk:z.Aa w':=by
  have key:∀{a:Addr} {v:aj},w.cell? a=ae v->z.R a.block->w'.cell? a=ae v:=fun hc hr'=>(aB4<|hb _ (mX hc) fun k hk e=>h.yZ _ hr'<|e▸(hr k hk).1).trans hc;exact⟨key h.jA.sv hO.Oa,key h.jA.hv hO.Ob,key h.jA.ps hO.Oc,key h.jA.ob hO.Oe,fun i p hp=>key (h.jA.c0 i p hp) hO.Ez,fun i p hp=>key (h.jA.c1 i p hp) hO.Ez,fun i m hm j v hv=>key (h.jA.ms i m hm j v hv) (hO.Rk fun e=>by rw[e]at hm;simp at hm).1,fun b iG=>(hb b (h.xQ b iG) fun k hk e=>h.yZ _ iG<|e▸(hr k hk).1).trans<|h.jA.fr b iG,hg.tape.trans h.jA.tape,hg.os.trans h.jA.os,hg.output.trans h.jA.output⟩
 refine⟨hk,fun i p h1 h2=>?_,?_,fun i p h1 h2=>?_,fun b iG=>?_,fun b iG hx=>?_,by have:=h.base;omega,fun b iG=>by have:=h.xQ b iG;omega,fun hx=>?_,fun hx=>hx.elim h.uk.1 fun y=>by have:=h.uk.2;omega,by have:=h.uk.2;omega⟩
 ·have:i<z.np:=(dD.1 h2).1;omega
 ·obtain⟨cs,h1,h2⟩:=h.row;exact⟨cs,⟨.inl h1.1,by rw[hb _ (h.low _ h1.1) fun k hk e=>(hr k hk).2 e.symm];exact h1.2⟩,h2⟩
 ·have:i<z.np:=(dD.1 h2).1;omega
 ·rcases iG with iG|iG
  ·have:=h.low b iG;omega
  ·exact iG.2
 ·rcases hx with hx|hx
  ·exact h.yZ b iG hx
  ·have:=h.xQ b iG;omega
 ·rcases hx with hx|hx
  ·exact h.Bz hx
  ·omega
def Gs.nP.only{b:Nat}(h:z.nP ks S w)(hO:z.Ok)(hl:ks.length=z.np)(ho:nN (fun x=>x=b) w w')(hb:S b)(hm:b≠z.mr):z.nP ks S w':=by
 have hz:=ho.size;have key:∀{a:Addr} {v:aj},w.cell? a=ae v->z.R a.block->w'.cell? a=ae v:=fun hc hr=>(aB4<|ho.still _ fun e=>h.yZ _ hr<|e▸hb).trans hc;refine⟨⟨key h.jA.sv hO.Oa,key h.jA.hv hO.Ob,key h.jA.ps hO.Oc,key h.jA.ob hO.Oe,fun i p hp=>key (h.jA.c0 i p hp) hO.Ez,fun i p hp=>key (h.jA.c1 i p hp) hO.Ez,fun i m hm j v hv=>key (h.jA.ms i m hm j v hv) (hO.Rk fun e=>by rw[e]at hm;simp at hm).1,fun x hx=>(ho.still x fun e=>h.yZ _ hx<|e▸hb).trans<|h.jA.fr x hx,ho.tape.trans h.jA.tape,ho.os.trans h.jA.os,ho.output.trans h.jA.output⟩,fun i p h1 h2=>?_,?_,fun i p h1 h2=>?_,fun x hx=>by have:=h.low x hx;omega,h.yZ,by have:=h.base;omega,fun x hx=>by have:=h.xQ x hx;omega,h.Bz,h.uk.1,by have:=h.uk.2;omega⟩
 ·have:i<z.np:=(dD.1 h2).1;omega
 ·obtain⟨cs,h1,h2⟩:=h.row;exact⟨cs,⟨h1.1,by rw[ho.still _<|iI hm];exact h1.2⟩,h2⟩
 ·have:i<z.np:=(dD.1 h2).1;omega
def au.send{K:Type}{X:bn K}{End:List K->cO->aC->aX->ah->Prop}{ts:List qw}{ks:List K}{E:cO}{g:aX}{i:Nat}{v z:aj}{sh:CommShape}{κ:K}(hr:g.status=.running)(hk:ks[i]? =ae κ)(hs:∀w1,aW X.P true g w1=.comm g #[scase (X.ch κ) v z] true sh w1 #[])
 (h:au X.P true E (X.jH End ts ks 0 E) S (g.finishComm X.P #[scase (X.ch κ) v z] sh 0 ag false) w):au X.P true E (X.jH End (.send i v::ts) ks 0 E) S g w:=
 au.stop fun w1 aI=>⟨rfl,hr,κ,z,sh,hk,hs w1,h.rely aI⟩
def arO{End:List Kd->cO->aC->aX->ah->Prop}{u:Nat->aj}{t9 t10 t33 t34 t35 t36 t37 t38 t39 t40 t41 t42:aj}{cs:List aV}(hO:z.Ok)(hl:ks.length=z.np)
 (hn:∀(t13 t46 t47 t48 t49 t50 t51 t52 t53 t54 t55 t56 t57 t58 t59 t60 t61 t62 t63 t64 t65 av:aj) (S:aC) (w:ah),z.nP ks S w->WgAt 177 z.Wg w ((z.np:Int)*KK) 0->Own S w z.Ba 119 5 av (dU z.ms).length ((dU z.ms).flatMap Ms.cs)->(∀b,av.ownBlock=ae b->b≠z.mr)->
   au prog true z.E (z.iw.jH End [] ks 0 z.E) S (G ((base 54).at ⟨#[.pointer<|ae ⟨z.xb,0,af⟩,.slice z.ma z.ms.length z.mc,.pointer<|ae ⟨z.hv,0,af⟩,u 3,u 4,.slice (ae ⟨z.mr,0,af⟩) z.np z.np,.pointer<|ae ⟨z.sv,0,af⟩,.pointer<|ae ⟨z.ob,0,af⟩,.pointer<|ae ⟨z.Wg,0,af⟩,t9,t10,av,u 12,t13,u 14,u 15,u 16,u 17,u 18,u 19,u 20,u 21,u 22,u 23,u 24,u 25,u 26,u 27,u 28,u 29,u 30,.int .i64 z.np,.int .i64 z.np,t33,t34,t35,t36,t37,t38,t39,t40,t41,t42,.slice z.ma z.ms.length z.mc,.int .i64 z.ms.length,.int .i64 z.ms.length,t46,t47,t48,t49,t50,t51,t52,t53,t54,t55,t56,t57,t58,t59,t60,t61,t62,t63,t64,t65,u 66,u 67,u 68,u 69,u 70,u 71],[]⟩ [.code Dj]) cs) w):
 ∀(r l:List Ms) (t13 t46 t47 t48 t49 t50 t51 t52 t53 t54 t55 t56 t57 t58 t59 t60 t61 t62 t63 t64 t65 av:aj) (S:aC) (w:ah),z.ms=l++r->z.nP ks S w->WgAt 177 z.Wg w ((z.np:Int)*KK) 0->Own S w z.Ba 119 5 av (dU l).length ((dU l).flatMap Ms.cs)->(∀b,av.ownBlock=ae b->b≠z.mr)->
  au prog true z.E (z.iw.jH End (um r) ks 0 z.E) S (G ((base 54).at ⟨#[.pointer<|ae ⟨z.xb,0,af⟩,.slice z.ma z.ms.length z.mc,.pointer<|ae ⟨z.hv,0,af⟩,u 3,u 4,.slice (ae ⟨z.mr,0,af⟩) z.np z.np,.pointer<|ae ⟨z.sv,0,af⟩,.pointer<|ae ⟨z.ob,0,af⟩,.pointer<|ae ⟨z.Wg,0,af⟩,t9,t10,av,u 12,t13,u 14,u 15,u 16,u 17,u 18,u 19,u 20,u 21,u 22,u 23,u 24,u 25,u 26,u 27,u 28,u 29,u 30,.int .i64 z.np,.int .i64 z.np,t33,t34,t35,t36,t37,t38,t39,t40,t41,t42,.slice z.ma z.ms.length z.mc,.int .i64 z.ms.length,.int .i64 l.length,t46,t47,t48,t49,t50,t51,t52,t53,t54,t55,t56,t57,t58,t59,t60,t61,t62,t63,t64,t65,u 66,u 67,u 68,u 69,u 70,u 71],[]⟩ [.code Di,.inLoop Di,.inBlock 2,.code Dj]) cs) w:=by
 intro r
 induction r with
 |nil=>
  intro l t13 t46 t47 t48 t49 t50 t51 t52 t53 t54 t55 t56 t57 t58 t59 t60 t61 t62 t63 t64 t65 av S w wB h bH hA Hw
  obtain rfl:z.ms=l:=by rw[wB,qh]
  clear wB
  have Hy:=hn t13 (.bool false) t47 t48 t49 t50 t51 t52 t53 t54 t55 t56 t57 t58 t59 t60 t61 t62 t63 t64 t65 av S w h bH hA Hw
  simp only[um]
  generalize z.iw.jH End [] ks 0 z.E=St at Hy⊢
  generalize Item.code Dj=IR at Hy⊢
  generalize Bv:Item.inLoop Di=IL
  simp only[Di,xP,vT,pW,Tryz.f54,gQ,fB,iD,vP]
  refine au.sq ?_
  refine au.reg [0] rfl ?_
  refine au.mute (.bool false) rfl rfl (by decide) (fun _=>by go_simp) (fun _=>by simp[go_sem]) ?_
  walk_nrm
  refine au.fA ?_
  refine au.sq ?_
  refine au.ctl rfl (fun _=>aCe (t:=false)<|by rfl) ?_
  refine au.ctl rfl (fun _=>stepG_exit (k':=[IR]) (by rw[<-Bv];rfl)) ?_
  exact Hy
 |cons m r ih=>
  intro l t13 t46 t47 t48 t49 t50 t51 t52 t53 t54 t55 t56 t57 t58 t59 t60 t61 t62 t63 t64 t65 av S w wB h bH hA Hw
  have o5:∀b,z.R b->z.E.ro b:=fun b hb=>.inl hb
  have aB:l.length<z.ms.length:=by rw[wB];simp
  have hm:z.ms[l.length]? =ae m:=by rw[wB];simp
  have oI:m∈z.ms:=fD hm
  have arP:Hid (z.ms=l++m::r):=wB
  clear wB
  obtain⟨arQ,hma⟩:=hO.Rk fun e=>by rw[e]at hm;simp at hm
  have qB:=hO.len
  have azQ:=hO.small
  generalize Og:Item.code Dj=IR
  generalize Bv:Item.inLoop Di=IL
  simp only[Di,xP,vT,pW,Tryz.f54,gQ,fB,iD,vP]
  refine au.sq ?_
  refine au.reg [0] rfl ?_
  refine au.mute (.bool true) rfl rfl (by decide) (fun _=>by go_simp) (fun _=>by simp[go_sem]) ?_
  walk_nrm
  refine au.fA ?_
  refine au.sq ?_
  refine au.ctl rfl (fun _=>aCe (t:=true)<|by rfl) ?_
  refine au.ctl rfl (fun _=>aCg) ?_
  refine au.sq ?_
  refine au.ctl rfl (fun _=>aCm) ?_
  refine au.sq ?_
  refine au.reg [0,1,2,3] rfl ?_
  rw[hma]
  refine au.mute (.pointer<|ae ⟨z.mb,l.length*5,af⟩) rfl rfl (by decide) (fun _=>by go_simp) (fun _=>by simp[go_sem];rw[aCF _ _ _ _ _ _ (by kernel_rfl) ⟨by omega,by omega⟩]) ?_
  walk_nrm
  refine au.val (.agg #[.int .i64 m.k,.int .i64 m.q,.int .i64 m.p,.int .i64 m.t,.bool m.c]) rfl rfl (by decide) (fun w1 aI=>?_) (fun w1 aI e he=>?_) ?_
  ·have hx:=(h.aP hO o5 aI).jA.ms l.length m hm
   have g0:=hx 0 _ rfl
   have g1:=hx 1 _ rfl
   have g2:=hx 2 _ rfl
   have g3:=hx 3 _ rfl
   have g4:=hx 4 _ rfl
   simp only[JM]at g0
   go_simp
  ·have hx:=(h.aP hO o5 aI).jA.ms l.length m hm
   have g0:=hx 0 _ rfl
   have g1:=hx 1 _ rfl
   have g2:=hx 2 _ rfl
   have g3:=hx 3 _ rfl
   have g4:=hx 4 _ rfl
   simp only[JM]at g0
   simp[go_sem,g0,g1,g2,g3,g4]at he
   rcases he with rfl|rfl|rfl|rfl|rfl<;>exact .inr ⟨arQ,rfl⟩
  walk_nrm
  refine au.jM rfl rfl (by decide) fun w1 aI=>?_
  replace h:=h.aP hO o5 aI
  replace bH:=bH.of_block<|aI.ro z.Wg<|.inr rfl
  replace hA:=hA.aP aI
  have KO:=GH bH
  refine⟨.pointer<|ae ⟨w1.heap.size,0,af⟩,w1.alloc<|.cells #[.int .i64 0,.int .i64 0,.int .i64 0,.int .i64 0,.bool false] 119,.inl<|by go_simp,vN (by simp[go_sem])<|uj _,?_⟩
  have JB:∀b,av.ownBlock=ae b->b<w1.heap.size:=fun b hb=>h.low b<|hA.r b hb
  have Yq:z.mr<w1.heap.size:=let ⟨_,h1,_⟩:=h.row;h.low _ h1.1
  have hY:=dN.new S w1 #[.int .i64 0,.int .i64 0,.int .i64 0,.int .i64 0,.bool false] 119
  replace bH:=bH.of_block (w₁:=w1.alloc<|.cells #[.int .i64 0,.int .i64 0,.int .i64 0,.int .i64 0,.bool false] 119)<|aB3 w1 _ _ KO
  replace hA:Own (grow S w1<|w1.alloc<|.cells #[.int .i64 0,.int .i64 0,.int .i64 0,.int .i64 0,.bool false] 119) (w1.alloc<|.cells #[.int .i64 0,.int .i64 0,.int .i64 0,.int .i64 0,.bool false] 119) z.Ba 119 5 av (dU l).length ((dU l).flatMap Ms.cs):=hA.of (fun b hb=>.inl hb) fun b hb=>aB3 w1 _ _<|JB b hb
  replace h:=h.alloc hO KO (.cells #[.int .i64 0,.int .i64 0,.int .i64 0,.int .i64 0,.bool false] 119) fun _=>QI rfl
  clear aI
  generalize grow S w1 (w1.alloc<|.cells #[.int .i64 0,.int .i64 0,.int .i64 0,.int .i64 0,.bool false] 119)=S at*
  generalize w1.alloc (.cells #[.int .i64 0,.int .i64 0,.int .i64 0,.int .i64 0,.bool false] 119)=w at*
  generalize w1.heap.size=bb at*
  walk_nrm
  refine au.jM rfl rfl (by decide) fun w1 aI=>?_
  replace h:=h.aP hO o5 aI
  replace bH:=bH.of_block<|aI.ro z.Wg<|.inr rfl
  replace hA:=hA.aP aI
  replace hY:=hY.aP aI
  have q0:=hY.cell (o:=0) rfl
  have q1:=hY.cell (o:=1) rfl
  have q2:=hY.cell (o:=2) rfl
  have q3:=hY.cell (o:=3) rfl
  have q4:=hY.cell (o:=4) rfl
  have r0:=hY.free 0
  have r1:=hY.free 1
  have r2:=hY.free 2
  have r3:=hY.free 3
  have r4:=hY.free 4
  have Rn:nN (fun x=>x=bb) w1 (((((w1.setCell ⟨bb,0,af⟩<|.int .i64 m.k).setCell ⟨bb,1,af⟩<|.int .i64 m.q).setCell ⟨bb,2,af⟩<|.int .i64 m.p).setCell ⟨bb,3,af⟩<|.int .i64 m.t).setCell ⟨bb,4,af⟩<|.bool m.c):=((((((nN.refl (fun x=>x=bb) w1).set rfl 0 _).set rfl 1 _).set rfl 2 _).set rfl 3 _).set rfl 4 _)
  have hOS:nN S w1 (((((w1.setCell ⟨bb,0,af⟩<|.int .i64 m.k).setCell ⟨bb,1,af⟩<|.int .i64 m.q).setCell ⟨bb,2,af⟩<|.int .i64 m.p).setCell ⟨bb,3,af⟩<|.int .i64 m.t).setCell ⟨bb,4,af⟩<|.bool m.c):=Rn.mono fun b hb=>hb▸hY.1
  refine⟨ag,((((w1.setCell ⟨bb,0,af⟩<|.int .i64 m.k).setCell ⟨bb,1,af⟩<|.int .i64 m.q).setCell ⟨bb,2,af⟩<|.int .i64 m.p).setCell ⟨bb,3,af⟩<|.int .i64 m.t).setCell ⟨bb,4,af⟩<|.bool m.c,.inr ⟨rfl,by go_simp⟩,hOS.mG fun e he=>?_,?_⟩
  ·simp[go_sem,aa8,storedEv,q0,q1,q2,q3,q4,r0,r1,r2,r3,r4]at he
   rcases he with rfl|rfl|rfl|rfl|rfl<;>exact .inl hY.1
  rw[hOS.grow]
  have Oh:=GH bH
  replace bH:=bH.of_block<|Rn.still z.Wg<|by omega
  replace hA:Own S (((((w1.setCell ⟨bb,0,af⟩<|.int .i64 m.k).setCell ⟨bb,1,af⟩<|.int .i64 m.q).setCell ⟨bb,2,af⟩<|.int .i64 m.p).setCell ⟨bb,3,af⟩<|.int .i64 m.t).setCell ⟨bb,4,af⟩<|.bool m.c) z.Ba 119 5 av (dU l).length ((dU l).flatMap Ms.cs):=hA.of (fun b hb=>hb) fun b hb=>Rn.still b<|YM<|JB b hb
  replace h:=h.only hO hl Rn hY.1<|Nat.ne_of_gt Yq
  replace hY:=(((((hY.set 0<|.int .i64 m.k).set 1<|.int .i64 m.q).set 2<|.int .i64 m.p).set 3<|.int .i64 m.t).set 4<|.bool m.c)
  change dN S _ bb #[.int .i64 m.k,.int .i64 m.q,.int .i64 m.p,.int .i64 m.t,.bool m.c] 119 at hY
  clear aI q0 q1 q2 q3 q4 r0 r1 r2 r3 r4 Rn hOS
  generalize((((w1.setCell ⟨bb,0,af⟩<|.int .i64 m.k).setCell ⟨bb,1,af⟩<|.int .i64 m.q).setCell ⟨bb,2,af⟩<|.int .i64 m.p).setCell ⟨bb,3,af⟩<|.int .i64 m.t).setCell ⟨bb,4,af⟩ (.bool m.c)=w at*
  walk_nrm
  refine au.fA ?_
  refine au.sq ?_
  refine au.reg [0,1] rfl ?_
  refine au.mu rfl rfl ?_
  walk_nrm
  refine au.val (.int .i64 m.k) rfl rfl (by decide) (fun w1 aI=>?_) (fun w1 aI e he=>?_) ?_
  ·have q0:=(hY.aP aI).cell (o:=0) rfl
   go_simp
  ·have q0:=(hY.aP aI).cell (o:=0) rfl
   simp[go_sem,q0]at he
   subst he
   exact .inl hY.1
  walk_nrm
  refine au.fA ?_
  refine au.ctl rfl (fun _=>aCm) ?_
  refine au.sq ?_
  refine au.reg [0,1] rfl ?_
  have uw:∀(t13 t46 t47 t48 t49 t50 t51 t52 t53 t54 t55 t56 t57 t58 t59 t60 t61 t62 t63 t64 t65 Ey:aj) (S':aC) (w':ah),z.nP ks S' w'->WgAt 177 z.Wg w' ((z.np:Int)*KK) 0->Own S' w' z.Ba 119 5 Ey (dU<|l++[m]).length ((dU<|l++[m]).flatMap Ms.cs)->(∀b,Ey.ownBlock=ae b->b≠z.mr)->
   au prog true z.E (z.iw.jH End (um r) ks 0 z.E) S' (G ((base 54).at ⟨#[.pointer<|ae ⟨z.xb,0,af⟩,.slice (ae ⟨z.mb,0,af⟩) z.ms.length z.mc,.pointer<|ae ⟨z.hv,0,af⟩,u 3,u 4,.slice (ae ⟨z.mr,0,af⟩) z.np z.np,.pointer<|ae ⟨z.sv,0,af⟩,.pointer<|ae ⟨z.ob,0,af⟩,.pointer<|ae ⟨z.Wg,0,af⟩,t9,t10,Ey,u 12,t13,u 14,u 15,u 16,u 17,u 18,u 19,u 20,u 21,u 22,u 23,u 24,u 25,u 26,u 27,u 28,u 29,u 30,.int .i64 z.np,.int .i64 z.np,t33,t34,t35,t36,t37,t38,t39,t40,t41,t42,.slice (ae ⟨z.mb,0,af⟩) z.ms.length z.mc,.int .i64 z.ms.length,.int .i64 l.length,t46,t47,t48,t49,t50,t51,t52,t53,t54,t55,t56,t57,t58,t59,t60,t61,t62,t63,t64,t65,u 66,u 67,u 68,u 69,u 70,u 71],[]⟩ [.inBlock 4,.inBlock 3,.code<|fB<|fB<|fB Di,IL,.inBlock 2,IR]) cs) w':=by
   intro t13 t46 t47 t48 t49 t50 t51 t52 t53 t54 t55 t56 t57 t58 t59 t60 t61 t62 t63 t64 t65 Ey S' w' h1 h2 h3 h4;have hi:=fun t46 t47 t48 t49 t50 t51 t52 t53 t54 t55 t56 t57 t58 t59 t60 t61 t62 t63 t64 t65=>ih (l++[m]) t13 t46 t47 t48 t49 t50 t51 t52 t53 t54 t55 t56 t57 t58 t59 t60 t61 t62 t63 t64 t65 Ey S' w' (by rw[arP];simp) h1 h2 h3 h4;have hlen:(l++[m]).length=l.length+1:=by simp
   rw[hlen]at hi;clear hlen h1 h2 h3 h4 ih hn h bH hA hY;generalize z.iw.jH End (um r) ks 0 z.E=St at hi⊢
   rw[Og,Bv,hma]at hi;rw[<-Bv];generalize arR:Item.inLoop Di=IL2;simp only[Di,xP,vT,pW,Tryz.f54,gQ,fB,iD,vP];refine au.ctl rfl (fun _=>aCE) ?_;refine au.ctl rfl (fun _=>aCE) ?_;refine au.reg [0,1] rfl ?_;refine au.mute (.int .i64 ((l.length+1:Nat):Int)) rfl rfl (by decide) (fun _=>by go_simp;exact wrap_i64 (by omega)<|by omega) (fun _=>by simp[go_sem]) ?_;walk_nrm;refine au.mu rfl rfl ?_;walk_nrm;refine au.fA ?_;rw[<-arR];refine au.ctl rfl (fun _=>aCN) ?_;rw[Bv];exact hi _ _ _ _ _ _ _ _ _ _ _ _ _ _ _ _ _ _ _ _
  simp only[Di,xP,vT,pW,Tryz.f54,gQ,fB,iD,vP]at uw
  by_cases aI:m.k=1
  ·have Wu:Hid (m.k=1):=aI
   refine au.mute (.bool true) rfl rfl (by decide) (fun _=>by go_simp) (fun _=>by simp[go_sem]) ?_
   clear aI
   walk_nrm
   refine au.mu rfl rfl ?_
   walk_nrm
   refine au.fA ?_
   refine au.ctl rfl (fun _=>aCe (t:=true)<|by rfl) ?_
   obtain⟨qn,Ro,azS⟩:=hO.q m oI Wu
   obtain⟨κ,jd⟩:∃κ,ks[qn]? =ae κ:=⟨_,dR<|by omega⟩
   obtain⟨cells,hM,hMs,Wq⟩:=h.row
   have hts:um (m::r)=.send qn (jS m)::um r:=by
    show(if m.k=1 then .send m.q.toNat (jS m)::um r else um r)=_;rw[if_pos<|show m.k=1 from Wu,Ro,MR]
   rw[hts]
   have hcell:cells[m.q.toNat]? =ae (.chan<|ae κ.x.p.c):=by rw[Ro,MR];exact Wq qn κ jd
   have qV:0<=m.q:=by omega
   have uV:m.q<z.np:=by omega
   have Rq:dU (l++[m])=dU l:=by
    unfold dU;rw[yJ,Ur (by rw[show m.k=1 from Wu];decide)];simp
   clear Ro hts Wq
   refine au.drawn (X:=fun zz a S' w'=>zz=6/\a=⟨#[.pointer<|ae ⟨z.xb,0,af⟩,.slice (ae ⟨z.mb,0,af⟩) z.ms.length z.mc,.pointer<|ae ⟨z.hv,0,af⟩,u 3,u 4,.slice (ae ⟨z.mr,0,af⟩) z.np z.np,.pointer<|ae ⟨z.sv,0,af⟩,.pointer<|ae ⟨z.ob,0,af⟩,.pointer<|ae ⟨z.Wg,0,af⟩,t9,t10,av,u 12,.pointer<|ae ⟨bb,0,af⟩,u 14,u 15,u 16,u 17,u 18,u 19,u 20,u 21,u 22,u 23,u 24,u 25,u 26,u 27,u 28,u 29,u 30,.int .i64 z.np,.int .i64 z.np,t33,t34,t35,t36,t37,t38,t39,t40,t41,t42,.slice (ae ⟨z.mb,0,af⟩) z.ms.length z.mc,.int .i64 z.ms.length,.int .i64 l.length,.bool true,.pointer<|ae ⟨z.mb,l.length*5,af⟩,.agg #[.int .i64 m.k,.int .i64 m.q,.int .i64 m.p,.int .i64 m.t,.bool m.c],.pointer<|ae ⟨bb,0,af⟩,.int .i64 m.k,.bool true,.bool true,.slice (ae ⟨z.mr,0,af⟩) z.np z.np,.pointer<|ae ⟨bb,1,af⟩,.int .i64 m.q,.pointer<|ae ⟨z.mr,m.q.toNat,af⟩,.chan<|ae κ.x.p.c,.agg #[.int .i64 m.k,.int .i64 m.q,.int .i64 m.p,.int .i64 m.t,.bool m.c],t59,t60,t61,t62,t63,t64,t65,u 66,u 67,u 68,u 69,u 70,u 71],[]⟩/\z.nP ks S' w'/\WgAt 177 z.Wg w' ((z.np:Int)*KK) 0/\Own S' w' z.Ba 119 5 av (dU l).length ((dU l).flatMap Ms.cs)) (I:=fun S' w'=>dN S' w' bb #[.int .i64 m.k,.int .i64 m.q,.int .i64 m.p,.int .i64 m.t,.bool m.c] 119/\dN S' w' z.mr cells 178) (Q:=fun _ _ _=>False) rfl (by decide) (by kernel_rfl) (fun _ _ _ h=>h.elim) ?_ ?_
   ·rintro zz a S' w' ⟨rfl,rfl,h1,h2,h3⟩
    refine au.send (X:=z.iw) (κ:=κ) (z:=.tuple #[]) (sh:=.send) rfl jd (fun w1=>?_) ?_
    ·rw[stepG_comm (cases:=#[scase κ.x.p.c (jS m)<|.tuple #[]]) (blocking:=true) (shape:=.send) (w':=w1) rfl rfl (by decide) (by go_simp;rfl)]
     congr 1
    ·rw[Wj]
     walk_nrm
     refine au.fA ?_
     exact uw _ _ _ _ _ _ _ _ _ _ _ _ _ _ _ _ _ _ _ _ _ _ S' w' h1 h2 (by rw[Rq];exact h3) Hw
   intro w1 hk
   have hI:∀(S':aC) (x1 y1:ah),(dN S' x1 bb #[.int .i64 m.k,.int .i64 m.q,.int .i64 m.p,.int .i64 m.t,.bool m.c] 119/\dN S' x1 z.mr cells 178)->aQ S' z.E x1 y1->(dN S' y1 bb #[.int .i64 m.k,.int .i64 m.q,.int .i64 m.p,.int .i64 m.t,.bool m.c] 119/\dN S' y1 z.mr cells 178):=fun _ _ _ h1 h2=>⟨h1.1.aP h2,h1.2.aP h2⟩
   have hQ:∀(_:Act) (S':aC) (x1 y1:ah),False->aQ S' z.E x1 y1->False:=fun _ _ _ _ h _=>h
   have hX:Hid (∀(zz:Nat) (a:Act) (S':aC) (w' y1:ah),(zz=6/\a=⟨#[.pointer<|ae ⟨z.xb,0,af⟩,.slice (ae ⟨z.mb,0,af⟩) z.ms.length z.mc,.pointer<|ae ⟨z.hv,0,af⟩,u 3,u 4,.slice (ae ⟨z.mr,0,af⟩) z.np z.np,.pointer<|ae ⟨z.sv,0,af⟩,.pointer<|ae ⟨z.ob,0,af⟩,.pointer<|ae ⟨z.Wg,0,af⟩,t9,t10,av,u 12,.pointer<|ae ⟨bb,0,af⟩,u 14,u 15,u 16,u 17,u 18,u 19,u 20,u 21,u 22,u 23,u 24,u 25,u 26,u 27,u 28,u 29,u 30,.int .i64 z.np,.int .i64 z.np,t33,t34,t35,t36,t37,t38,t39,t40,t41,t42,.slice (ae ⟨z.mb,0,af⟩) z.ms.length z.mc,.int .i64 z.ms.length,.int .i64 l.length,.bool true,.pointer<|ae ⟨z.mb,l.length*5,af⟩,.agg #[.int .i64 m.k,.int .i64 m.q,.int .i64 m.p,.int .i64 m.t,.bool m.c],.pointer<|ae ⟨bb,0,af⟩,.int .i64 m.k,.bool true,.bool true,.slice (ae ⟨z.mr,0,af⟩) z.np z.np,.pointer<|ae ⟨bb,1,af⟩,.int .i64 m.q,.pointer<|ae ⟨z.mr,m.q.toNat,af⟩,.chan<|ae κ.x.p.c,.agg #[.int .i64 m.k,.int .i64 m.q,.int .i64 m.p,.int .i64 m.t,.bool m.c],t59,t60,t61,t62,t63,t64,t65,u 66,u 67,u 68,u 69,u 70,u 71],[]⟩/\z.nP ks S' w'/\WgAt 177 z.Wg w' ((z.np:Int)*KK) 0/\Own S' w' z.Ba 119 5 av (dU l).length ((dU l).flatMap Ms.cs))->aQ S' z.E w' y1->(zz=6/\a=⟨#[.pointer<|ae ⟨z.xb,0,af⟩,.slice (ae ⟨z.mb,0,af⟩) z.ms.length z.mc,.pointer<|ae ⟨z.hv,0,af⟩,u 3,u 4,.slice (ae ⟨z.mr,0,af⟩) z.np z.np,.pointer<|ae ⟨z.sv,0,af⟩,.pointer<|ae ⟨z.ob,0,af⟩,.pointer<|ae ⟨z.Wg,0,af⟩,t9,t10,av,u 12,.pointer<|ae ⟨bb,0,af⟩,u 14,u 15,u 16,u 17,u 18,u 19,u 20,u 21,u 22,u 23,u 24,u 25,u 26,u 27,u 28,u 29,u 30,.int .i64 z.np,.int .i64 z.np,t33,t34,t35,t36,t37,t38,t39,t40,t41,t42,.slice (ae ⟨z.mb,0,af⟩) z.ms.length z.mc,.int .i64 z.ms.length,.int .i64 l.length,.bool true,.pointer<|ae ⟨z.mb,l.length*5,af⟩,.agg #[.int .i64 m.k,.int .i64 m.q,.int .i64 m.p,.int .i64 m.t,.bool m.c],.pointer<|ae ⟨bb,0,af⟩,.int .i64 m.k,.bool true,.bool true,.slice (ae ⟨z.mr,0,af⟩) z.np z.np,.pointer<|ae ⟨bb,1,af⟩,.int .i64 m.q,.pointer<|ae ⟨z.mr,m.q.toNat,af⟩,.chan<|ae κ.x.p.c,.agg #[.int .i64 m.k,.int .i64 m.q,.int .i64 m.p,.int .i64 m.t,.bool m.c],t59,t60,t61,t62,t63,t64,t65,u 66,u 67,u 68,u 69,u 70,u 71],[]⟩/\z.nP ks S' y1/\WgAt 177 z.Wg y1 ((z.np:Int)*KK) 0/\Own S' y1 z.Ba 119 5 av (dU l).length ((dU l).flatMap Ms.cs))):=by
    rintro zz a S' w' y1 ⟨h1,h2,h3,h4,h5⟩ hk;exact⟨h1,h2,h3.aP hO o5 hk,h4.of_block<|hk.ro z.Wg<|.inr rfl,h5.aP hk⟩
   have uu:=hk.trans<|aQ.at S z.E w1<|w1.drawn+1
   have h2:=h.aP hO o5 uu
   have ahw:=bH.of_block<|uu.ro z.Wg<|.inr rfl
   have Cf:=hA.aP uu
   have pJ:=hI S w _ ⟨hY,hM⟩ uu
   change qx _ _ _ _ _ _ _ _ _ _ _ _ _ (w1.at<|w1.drawn+1)
   generalize w1.at (w1.drawn+1)=w2 at h2 ahw Cf pJ⊢
   clear hk uu h bH hA hY hM uw
   simp only[Fv,ny,vC,Nat.reduceAdd,Cm]
   refine oZ hI hQ hX (i:=0) rfl (by kernel_rfl) (by kernel_rfl) (by kernel_rfl) (by kernel_rfl) (v:=_) ⟨rfl,fun S' w' hi=>⟨by go_simp<;>rfl,fun e he=>?_⟩⟩ pJ ?_
   ·have hm:=aB6 he;simp[go_sem]at hm
   walk_nrm
   refine oZ hI hQ hX (i:=1) rfl (by kernel_rfl) (by kernel_rfl) (by kernel_rfl) (by kernel_rfl) (v:=.pointer<|ae ⟨bb,1,af⟩) ⟨rfl,fun S' w' hi=>⟨by go_simp<;>rfl,fun e he=>?_⟩⟩ pJ ?_
   ·have hm:=aB6 he;simp[go_sem]at hm
   walk_nrm
   refine oZ hI hQ hX (i:=2) rfl (by kernel_rfl) (by kernel_rfl) (by kernel_rfl) (by kernel_rfl) (v:=.int .i64 m.q) ⟨rfl,fun S' w' hi=>⟨?_,fun e he=>?_⟩⟩ pJ ?_
   ·have g0:=hi.1.cell (o:=1) rfl
    go_simp
   ·have g0:=hi.1.cell (o:=1) rfl
    have hm:=aB6 he
    simp[go_sem,g0]at hm
    subst hm
    exact .inl hi.1.1
   walk_nrm
   refine oZ hI hQ hX (i:=3) rfl (by kernel_rfl) (by kernel_rfl) (by kernel_rfl) (by kernel_rfl) (v:=.pointer<|ae ⟨z.mr,m.q.toNat,af⟩) ⟨rfl,fun S' w' hi=>⟨?_,fun e he=>?_⟩⟩ pJ ?_
   ·go_simp
   ·have hm:=aB6 he
    simp[go_sem]at hm
    rw[aCF _ _ _ _ _ _ (by kernel_rfl) ⟨qV,uV⟩]at hm
    simp at hm
   walk_nrm
   refine oZ hI hQ hX (i:=4) rfl (by kernel_rfl) (by kernel_rfl) (by kernel_rfl) (by kernel_rfl) (v:=.chan<|ae κ.x.p.c) ⟨rfl,fun S' w' hi=>⟨?_,fun e he=>?_⟩⟩ pJ ?_
   ·have g0:=hi.2.cell (o:=m.q.toNat) hcell
    go_simp
   ·have g0:=hi.2.cell (o:=m.q.toNat) hcell
    have hm:=aB6 he
    simp[go_sem,g0]at hm
    subst hm
    exact .inl hi.2.1
   walk_nrm
   refine oZ hI hQ hX (i:=5) rfl (by kernel_rfl) (by kernel_rfl) (by kernel_rfl) (by kernel_rfl) (v:=.agg #[.int .i64 m.k,.int .i64 m.q,.int .i64 m.p,.int .i64 m.t,.bool m.c]) ⟨rfl,fun S' w' hi=>⟨?_,fun e he=>?_⟩⟩ pJ ?_
   ·have g0:=hi.1.cell (o:=0) rfl
    have g1:=hi.1.cell (o:=1) rfl
    have g2:=hi.1.cell (o:=2) rfl
    have g3:=hi.1.cell (o:=3) rfl
    have g4:=hi.1.cell (o:=4) rfl
    go_simp
   ·have g0:=hi.1.cell (o:=0) rfl
    have g1:=hi.1.cell (o:=1) rfl
    have g2:=hi.1.cell (o:=2) rfl
    have g3:=hi.1.cell (o:=3) rfl
    have g4:=hi.1.cell (o:=4) rfl
    have hm:=aB6 he
    simp[go_sem,g0,g1,g2,g3,g4]at hm
    rcases hm with rfl|rfl|rfl|rfl|rfl<;>exact .inl hi.1.1
   walk_nrm
   exact ag4 (by kernel_rfl) (by kernel_rfl) ⟨rfl,rfl,h2,ahw,Cf⟩
  ·have Wu:Hid (m.k≠1):=aI
   rw[show um (m::r)=um r from if_neg aI]
   refine au.mute (.bool false) rfl rfl (by decide) (fun _=>by go_simp) (fun _=>by simp[go_sem]) ?_
   clear aI
   walk_nrm
   refine au.mu rfl rfl ?_
   walk_nrm
   refine au.fA ?_
   refine au.ctl rfl (fun _=>aCe (t:=false)<|by rfl) ?_
   refine au.sq ?_
   refine au.reg [0,1] rfl ?_
   by_cases jU:m.k=2
   ·have abm:Hid (m.k=2):=jU
    refine au.mute (.bool true) rfl rfl (by decide) (fun _=>by go_simp) (fun _=>by simp[go_sem]) ?_
    clear jU
    walk_nrm
    refine au.mu rfl rfl ?_
    walk_nrm
    refine au.fA ?_
    refine au.ctl rfl (fun _=>aCe (t:=true)<|by rfl) ?_
    refine au.reg [0,1,2,3,4] rfl ?_
    refine au.mu rfl rfl ?_
    walk_nrm
    refine au.val (.agg #[.int .i64 m.k,.int .i64 m.q,.int .i64 m.p,.int .i64 m.t,.bool m.c]) rfl rfl (by decide) (fun w1 aI=>?_) (fun w1 aI e he=>?_) ?_
    ·have hx:=hY.aP aI
     have g0:=hx.cell (o:=0) rfl
     have g1:=hx.cell (o:=1) rfl
     have g2:=hx.cell (o:=2) rfl
     have g3:=hx.cell (o:=3) rfl
     have g4:=hx.cell (o:=4) rfl
     go_simp
    ·have hx:=hY.aP aI
     have g0:=hx.cell (o:=0) rfl
     have g1:=hx.cell (o:=1) rfl
     have g2:=hx.cell (o:=2) rfl
     have g3:=hx.cell (o:=3) rfl
     have g4:=hx.cell (o:=4) rfl
     simp[go_sem,g0,g1,g2,g3,g4]at he
     rcases he with rfl|rfl|rfl|rfl|rfl<;>exact .inl hY.1
    walk_nrm
    refine au.jM rfl rfl (by decide) fun w1 aI=>?_
    replace h:=h.aP hO o5 aI
    replace bH:=bH.of_block<|aI.ro z.Wg<|.inr rfl
    replace hA:=hA.aP aI
    have Oh:=GH bH
    have ahx:∀b,av.ownBlock=ae b->b<w1.heap.size:=fun b hb=>h.low b<|hA.r b hb
    have arS:z.mr<w1.heap.size:=let ⟨_,h1,_⟩:=h.row;h.low _ h1.1
    refine⟨.slice (ae ⟨w1.heap.size,0,af⟩) 1 1,w1.alloc<|.cells #[.int .i64 m.k,.int .i64 m.q,.int .i64 m.p,.int .i64 m.t,.bool m.c] 119,.inl<|by go_simp,vN (by simp[go_sem])<|uj _,?_⟩
    have hN:=dN.new S w1 #[.int .i64 m.k,.int .i64 m.q,.int .i64 m.p,.int .i64 m.t,.bool m.c] 119
    replace bH:=bH.of_block (w₁:=w1.alloc<|.cells #[.int .i64 m.k,.int .i64 m.q,.int .i64 m.p,.int .i64 m.t,.bool m.c] 119)<|aB3 w1 _ _ Oh
    replace hA:Own (grow S w1<|w1.alloc<|.cells #[.int .i64 m.k,.int .i64 m.q,.int .i64 m.p,.int .i64 m.t,.bool m.c] 119) (w1.alloc<|.cells #[.int .i64 m.k,.int .i64 m.q,.int .i64 m.p,.int .i64 m.t,.bool m.c] 119) z.Ba 119 5 av (dU l).length ((dU l).flatMap Ms.cs):=hA.of (fun b hb=>.inl hb) fun b hb=>aB3 w1 _ _<|ahx b hb
    replace h:=h.alloc hO Oh (.cells #[.int .i64 m.k,.int .i64 m.q,.int .i64 m.p,.int .i64 m.t,.bool m.c] 119) fun _=>QI rfl
    clear aI hY ahx arS
    generalize grow S w1 (w1.alloc<|.cells #[.int .i64 m.k,.int .i64 m.q,.int .i64 m.p,.int .i64 m.t,.bool m.c] 119)=S2 at*
    generalize w1.alloc (.cells #[.int .i64 m.k,.int .i64 m.q,.int .i64 m.p,.int .i64 m.t,.bool m.c] 119)=w at*
    generalize w1.heap.size=cc at*
    walk_nrm
    refine au.jM rfl rfl (by decide) fun w6 qR=>?_
    have pV:=hA.aP qR
    have vO:=hN.aP qR
    replace h:=h.aP hO o5 qR
    replace bH:=bH.of_block<|qR.ro z.Wg<|.inr rfl
    have Hm:=h.base
    obtain⟨i0,dF,kG,MI,TU⟩:=aCf Iu
    have Ce:(dU l).length<=l.length:=Fj _ _
    have TV:((dU l).length+1)*40<=140737488355328:=by omega
    obtain⟨g,cap,w7,IV,Q5,zY,Gv,KJ⟩:=aDl (P:=prog) w6 107 107 z.Ba 119 i0 _ 5 40 underlying107 dF kG MI TU rfl (by omega) av (dU l).length ((dU l).flatMap Ms.cs) pV.row ⟨cc,0,af⟩ 1 1 m.cs rfl (aB9 vO.2) (by simp[Ms.cs,Value.oneCell']) (by omega) (by simp only[dH];omega) TV Hm _ rfl
    have TQ:=aC6 (P:=prog) w6 z.Ba 107 107 119 i0 _ 5 40 underlying107 dF kG MI TU av (dU l).length ((dU l).flatMap Ms.cs) pV.row ⟨cc,0,af⟩ 1 1 m.cs rfl (aB9 vO.2) (by simp[Ms.cs,Value.oneCell']) (by simp only[dH];omega) TV
    have IW:iO S2 z.E w6 w7 ((Builtin.append_ #[107,107] 107 #[av,.slice (ae ⟨cc,0,af⟩) 1 1]).events prog w6 #[]):=aa2 zY pV.r (fun s h5 hs hw=>((ai.NJ (ai.VU h5).toFit<|ok_two (Q3 pV.row fun k hk zz=>(hs k zz).1<|pV.r k hk) (.slice fun y hy zz=>by cases hy;exact(hs _ zz).1 vO.1)).CV hw IV fun b hb=>(hs b hb).2).2) fun e he=>by
     rcases TQ e he with⟨ad,h1,h2|h2⟩|⟨m,rfl,h2⟩
     ·exact(show lT _ _ _ by unfold lT;rw[h1];exact .inl<|.inl<|h2.2▸vO.1)
     ·exact(show lT _ _ _ by unfold lT;rw[h1];exact .inl<|.inl<|pV.r _ h2.symm)
     ·exact h2
    refine⟨.slice (ae ⟨g,0,af⟩) ((dU l).length+1) cap,w7,.inl ?_,?_,?_⟩
    ·exact We (.tmp 61) (.tmp 63) 107 rfl rfl rfl IV
    ·rw[aCW (.tmp 61) (.tmp 63) 107 rfl rfl rfl]
     exact IW
    have ahy:=GH bH
    have azT:z.mr<w6.heap.size:=let ⟨_,h1,_⟩:=h.row;h.low _ h1.1
    have Q7:(grow S2 w6 w7) g:=by
     rcases Gv with h1|h1
     ·exact .inl<|pV.r g h1
     ·exact .inr ⟨by omega,KJ⟩
    have h7:=h.grown hl hO ahy zY fun k hk=>⟨pV.r k hk,Hw k hk⟩
    have hgm:g≠z.mr:=by
     rcases Gv with h1|h1
     ·exact Hw g h1
     ·omega
    have arT:WgAt 177 z.Wg w7 ((z.np:Int)*KK) 0:=bH.of_block<|zY.block _ ahy fun e=>h.Bz<|pV.r _ e.symm
    have Rq:dU (l++[m])=dU l++[m]:=by
     unfold dU;rw[yJ,adF (by simp;exact abm)];rfl
    have hA7:Own (grow S2 w6 w7) w7 z.Ba 119 5 (.slice (ae ⟨g,0,af⟩) ((dU l).length+1) cap) (dU<|l++[m]).length ((dU<|l++[m]).flatMap Ms.cs):=by
     rw[Rq];exact⟨by simpa using Q5,fun b hb=>by simp only[Value.ownBlock,fJ]at hb;exact hb▸Q7⟩
    generalize grow S2 w6 w7=S7 at*
    walk_nrm
    refine au.mu rfl rfl ?_
    walk_nrm
    refine au.fA ?_
    exact uw _ _ _ _ _ _ _ _ _ _ _ _ _ _ _ _ _ _ _ _ _ _ S7 w7 h7 arT hA7 (fun b hb=>by simp only[Value.ownBlock,fJ]at hb;exact hb▸hgm)
   ·have abm:Hid (m.k≠2):=jU
    refine au.mute (.bool false) rfl rfl (by decide) (fun _=>by go_simp) (fun _=>by simp[go_sem]) ?_
    clear jU
    walk_nrm
    refine au.mu rfl rfl ?_
    walk_nrm
    refine au.fA ?_
    refine au.ctl rfl (fun _=>aCe (t:=false)<|by rfl) ?_
    refine au.ctl rfl (fun _=>aCg) ?_
    have Rq:dU (l++[m])=dU l:=by
     unfold dU;rw[yJ,Ur (by simp;exact abm)];simp
    refine uw _ _ _ _ _ _ _ _ _ _ _ _ _ _ _ _ _ _ _ _ _ _ S w h bH (by rw[Rq];exact hA) Hw
end Twin
end Go.Proofs.YtkelpcjiediamaaGreat
