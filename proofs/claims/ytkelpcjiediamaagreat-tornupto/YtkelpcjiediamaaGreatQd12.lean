import Derived.Test.YtkelpcjiediamaaGreatQd11
import Derived.Deep.RegionLaw
set_option maxRecDepth 100000
set_option maxHeartbeats 0
set_option linter.all false
namespace Go.Proofs.YtkelpcjiediamaaGreat
def aD7:=@Go.World.news_of_block
def aEd:=@Go.info_parts
def aEn:=@Go.Addr.add_lit
def aEt:=@Go.step_append_lies
def aEu:=@Go.wpList_append_lies
open Go renaming Calls→aU,Program→eF,TypeId→dw,Value→az,World→aj,maxLen→dU
open Go.Ending renaming returned→aT
open Go.IntKind renaming i64→ah
open Go.Obj renaming cells→aC
open Go.RowKit renaming intOf→fH
open Go.Value renaming agg→gY,bool→aB,int→ag,pointer→ay,slice→aJ,string→dA,tuple→dK
open Option renaming none→af,some→ae
open Go.Proofs.Tryz
open Go.RowKit Go.Maps
section
attribute [local go_sem ↓] Go.wp_at_zero Go.wp_at_succ
def aat:(prog.info? 55).map (fun i=>(i.zero,i.size,i.bytes))=ae (ae<|gY #[ag ah 0,ag ah 0,ag ah 0,dA ⟨#[]⟩],4,40):=by kernel_rfl
def aH.put(s:aH)(x:iy):aH:={s with es:=s.es++[x]}
def QQ(w:aj)(o o':Obj):((w.alloc o).alloc o').drew.heap[w.heap.size+1]? =ae o':=by
 have:=aDY (w.alloc o) o';rw[show(w.alloc o).heap.size=w.heap.size+1 by simp]at this;exact this
variable{w:aj}{B lb bm n:Nat}{v:az}{s:aH}
def KZ{a:Addr}(h:a.block<w.heap.size)(o:Obj):(w.alloc o).frozen? a=w.frozen? a:=World.frozen?_of_block (w:=w)<|aD1 w o a.block h
def afm(l:List iy)(x:iy):qo (l++[x])=qo l++x.cs:=by simp[qo]
def dY.am4{W w1:aj}{v':az}{x:iy}(h:dY w B lb bm v n s)(hW:Fr aP w W)(hg:W.grownBy w1 v.ownBlock)
 (iO:w1.ownsRow B 55 4 v' (s.es.length+1) (qo s.es++x.cs))(dX:∀k,v'.ownBlock=ae k->v.ownBlock=ae k\/w.heap.size<=k):
 dY (w1.setCell ⟨lb,0,af⟩ v') B lb bm v' n (s.put x)/\Fr (fun k=>k=lb\/v.ownBlock=ae k) w (w1.setCell ⟨lb,0,af⟩ v'):=by
 have f1:Fr (fun k=>v.ownBlock=ae k) w w1:=(hW.mono fun _ h=>h.elim).grown hg fun k e=>.inl e;have f2:Fr (fun k=>k=lb\/v.ownBlock=ae k) w (w1.setCell ⟨lb,0,af⟩ v'):=(f1.mono fun k h=>.inl<|.inr h).setCell (.inl<|.inl rfl) _;have b1:w1.heap[lb]? =ae (aC #[v,ag ah s.d,.map<|ae bm] 163 (0,0)):=(f1.block lb h.lt h.KY).trans h.blk;refine⟨⟨?_,?_,?_,h.hl,h.hm⟩,f2⟩
 ·rw[jT b1];rfl
 ·have hr:Fr (fun k=>k=lb) w1 (w1.setCell ⟨lb,0,af⟩ v'):=(Fr.refl (fun k=>k=lb) w1).setCell (p:=⟨lb,0,af⟩) (.inl rfl) _;have:=hr.ownsRow iO (fun k hk e=>by
   subst e;rcases dX _ hk with h1|h1
   ·exact h.KY h1
   ·have:=h.lt;omega)
  simpa[aH.put,afm]using this
 ·exact f2.AU h.map (fun e=>by
   rcases e with e|e
   ·exact h.ne e.symm
   ·exact h.aas e)
def aau(h:dY w B lb bm v n s)(x:iy)(hb:(s.es.length+1)*40<=140737488355328):
 aU prog 184 #[ay<|ae ⟨lb,0,af⟩,gY #[ag ah x.k,ag ah x.p,ag ah x.t,dA x.s]] w fun e w'=>e=aT (dK #[])/\
  ∃v',dY w' B lb bm v' n (s.put x)/\Fr (fun k=>k=lb\/v.ownBlock=ae k) w w'/\(∀k,v'.ownBlock=ae k->v.ownBlock=ae k\/w.heap.size<=k):=by
 obtain⟨xk,xp,xt,xs⟩:=x
 obtain⟨i0,dR,iE,gG,iU⟩:=aEd aat
 have c0:w.cell? ⟨lb,0,af⟩=ae v:=by rw[aK h.blk];rfl
 have f0:w.frozen? ⟨lb,0,af⟩=false:=jS h.blk 0
 have aI:=h.lt
 have Nj:=h.KY
 have nb:=aFt w ⟨lb,0,af⟩ c0
 have f1:∀o,(w.alloc o).frozen? ⟨lb,0,af⟩=false:=fun o=>(KZ aI o).trans f0
 have f2:∀o o',((w.alloc o).alloc o').frozen? ⟨lb,0,af⟩=false:=fun o o'=>(KZ (by simp<;>omega) o').trans<|f1 o
 have H:Hid (dY w B lb bm v n s):=h
 have HB:Hid ((s.es.length+1)*40<=140737488355328):=hb
 clear h hb
 go_enter func184,ntmps184
 go_wp2_with fail
 go_region_law
  ((refine aEt _ (by rfl) _ _ _ (by rfl) B 55 i0 _ 4 40 underlying49 dR iE gG iU rfl (by omega) v s.es.length (qo s.es) (by rfl) (((H.o.row.alloc _).alloc _).drew)
     ⟨w.heap.size+1,0,af⟩ 1 1 [ag ah xk,ag ah xp,ag ah xt,dA xs] (by rfl) (by rfl) (aD7 (cs:=#[ag ah xk,ag ah xp,ag ah xt,dA xs]) (t:=55) (fr:=(0,0))<|QQ _ _ _) (by simp[Value.oneCell'])
     (by omega) (by have:=HB.o;simp only[dU];omega) HB.o (by have:=H.o.hl;simp<;>omega) (w.heap.size+2) (by simp) ?_;intro gg cap w1 Zc pX dX aI;have k0:=(pX.cell_far ⟨lb,0,af⟩ (by simp<;>omega)<|iW Nj);have k1:=(pX.frozen_far ⟨lb,0,af⟩ (by simp<;>omega)<|iW Nj);simp only[World.cell?_drew,World.frozen?_drew,f2]at k0 k1))
 all_goals
  go_end0
  obtain⟨r1,r2⟩:=H.o.am4 (x:=⟨xk,xp,xt,xs⟩) (((bG _).alloc _).drew) pX Zc (fun k hk=>by
   simp only[Value.ownBlock,gu]at hk;subst hk;rcases dX with h1|h1
   ·exact .inl h1
   ·exact .inr<|by omega)
  refine⟨rfl,_,r1,r2,fun k hk=>?_⟩
  simp only[Value.ownBlock,gu]at hk
  subst hk
  rcases dX with h1|h1
  ·exact .inl h1
  ·exact .inr<|by omega
end
def aH.ou(s:aH)(p t:Int)(x:ByteArray):Int:=
 if s.isOpen p t=false then 11 else if 8<x.size then 4 else if 200<=s.d then 12 else 0
def aH.lC(s:aH)(p t:Int)(x:ByteArray):aH:=
 if s.ou p t x=0 then{(s.put ⟨1,p,t,x⟩)with d:=s.d+1}else s
def aH.xI(c:Bool):Int:=if c then 2 else 3
def aH.closed(s:aH)(p t:Int)(c:Bool):aH:=
 if s.isOpen p t then(s.put ⟨aH.xI c,p,t,⟨#[]⟩⟩).set p t false else s
def dY.am5{w:aj}{B lb bm n d:Nat}{v:az}{s:aH}(h:dY w B lb bm v n s):
 dY (w.setCell ⟨lb,1,af⟩<|.int .i64 d) B lb bm v n {s with d:=d}/\Fr (fun k=>k=lb) w (w.setCell ⟨lb,1,af⟩<|.int .i64 d):=by
 have hr:Fr (fun k=>k=lb) w (w.setCell ⟨lb,1,af⟩<|.int .i64 d):=(Fr.refl (fun k=>k=lb) w).setCell (p:=⟨lb,1,af⟩) (.inl rfl) _;refine⟨⟨?_,hr.ownsRow h.row (fun k hk e=>h.KY<|by rw[hk,e]),hr.AU h.map fun e=>h.ne e.symm,h.hl,h.hm⟩,hr⟩;rw[jT h.blk];rfl
structure Left(w w':aj)(B lb bm:Nat)(v v':az)(n:Nat)(s':aH):Prop where
 log:dY w' B lb bm v' n s'
 fr:Fr (fun k=>k=lb\/k=bm\/v.ownBlock=ae k) w w'
 Om:∀k,v'.ownBlock=ae k->v.ownBlock=ae k\/w.heap.size<=k
def am6{w:aj}{B lb bm n:Nat}{v:az}{s:aH}(h:dY w B lb bm v n s)(p t:Int)(x:ByteArray)(hp:(Lit.int .i64 p).wf=true)(hx:x.size<=dU)(hb:(s.es.length+1)*40<=140737488355328):
 aU prog 136 #[ay<|ae ⟨lb,0,af⟩,.int .i64 p,.int .i64 t,.string x] w fun e w'=>e=aT (.int .i64<|s.ou p t x)/\
  ∃v',Left w w' B lb bm v v' n (s.lC p t x):=by
 unfold dU at hx
 have c1:w.cell? ⟨lb,1,af⟩=ae (.int .i64 s.d):=by rw[aK h.blk];rfl
 have H:Hid (dY w B lb bm v n s):=h
 have HP:Hid ((Lit.int .i64 p).wf=true):=hp
 have HB:Hid ((s.es.length+1)*40<=140737488355328):=hb
 clear h hp hb
 by_cases ho:s.isOpen p t=true
 ·by_cases h8:8<x.size
  ·have hc:s.ou p t x=4:=by simp[aH.ou,ho,h8]
   have hs:s.lC p t x=s:=by simp[aH.lC,hc]
   rw[hc,hs]
   clear hc hs
   go_enter func136,ntmps136
   go_wp2_with (go_at_call 122;refine(GU H.o _ _ HP.o).mono ?_;rintro e w' ⟨rfl,rfl⟩)
   go_ret
   exact⟨rfl,v,H.o,Fr.refl _ _,fun k hk=>.inl hk⟩
  ·by_cases hd:200<=s.d
   ·have hc:s.ou p t x=12:=by simp[aH.ou,ho,h8,hd]
    have hs:s.lC p t x=s:=by simp[aH.lC,hc]
    rw[hc,hs]
    clear hc hs
    go_enter func136,ntmps136
    go_wp2_with (go_at_call 122;refine(GU H.o _ _ HP.o).mono ?_;rintro e w' ⟨rfl,rfl⟩)
    go_ret
    exact⟨rfl,v,H.o,Fr.refl _ _,fun k hk=>.inl hk⟩
   ·have hc:s.ou p t x=0:=by simp[aH.ou,ho,h8,hd]
    have hs:s.lC p t x={(s.put ⟨1,p,t,x⟩)with d:=s.d+1}:=by simp[aH.lC,hc]
    rw[hc,hs]
    clear hc hs
    go_enter func136,ntmps136
    go_wp2_with (first
     |(go_at_call 122;refine(GU H.o _ _ HP.o).mono ?_;rintro e w' ⟨rfl,rfl⟩)
     |(go_at_call 184;refine(aau H.o ⟨1,p,t,x⟩ HB.o).mono ?_;rintro e w1 ⟨rfl,v',kY,bM,jJ⟩
       have k1:w1.cell? ⟨lb,1,af⟩=ae (.int .i64 s.d):=by rw[aK kY.blk];rfl
       have k2:w1.frozen? ⟨lb,1,af⟩=false:=jS kY.blk 1))
    go_ret
    obtain⟨r1,r2⟩:=kY.am5 (d:=s.d+1)
    refine⟨rfl,v',r1,?_,jJ⟩
    exact(bM.mono fun k hk=>.inl (by rcases hk with e|e;exact .inl e;exact .inr<|.inr e)).trans r2 fun k hk=>.inl<|.inl hk
 ·have hc:s.ou p t x=11:=by simp[aH.ou,ho]
  have hs:s.lC p t x=s:=by simp[aH.lC,hc]
  rw[hc,hs]
  have ui:s.isOpen p t=false:=by simpa using ho
  clear hc hs ho
  go_enter func136,ntmps136
  go_wp2_with (go_at_call 122;refine(GU H.o _ _ HP.o).mono ?_;rintro e w' ⟨rfl,rfl⟩)
  go_ret
  exact⟨rfl,v,H.o,Fr.refl _ _,fun k hk=>.inl hk⟩
section
def am7(l:List iy):(qo l).length=4*l.length:=by
 induction l with
 |nil=>rfl
 |cons x r ih=>simp only[qo,oO,iV]at ih⊢;rw[ih];simp[iy.cs]<;>omega
def afn:∀(l:List iy) (k:Nat) (e:iy) (j:Nat),l[k]? =ae e->j<4->(qo l)[k*4+j]? =e.cs[j]?
 |[],k,e,j,h,_=>by simp at h
 |x::r,0,e,j,h,hj=>by
  simp only[xE,gu]at h;subst h;simp only[qo,oO];rw[uz (by simp[iy.cs]<;>omega)];simp
 |x::r,k+1,e,j,h,hj=>by
  simp only[zB]at h;have:=afn r k e j h hj;simp only[qo,oO]at this⊢
  rw[xC (by simp[iy.cs]<;>omega),<-this];congr 1;simp[iy.cs]<;>omega
variable{w:aj}{B n:Nat}{es:List iy}{v:az}
def aav{g cap:Nat}(h:w.ownsRow B 55 4 (aJ (ae ⟨g,0,af⟩) n cap) es.length (qo es)){k:Nat}{e:iy}(hk:es[k]? =ae e):
 w.cell? ⟨g,k*4,af⟩=ae (.int .i64 e.k)/\w.cell? ⟨g,k*4+1,af⟩=ae (.int .i64 e.p)/\w.cell? ⟨g,k*4+2,af⟩=ae (.int .i64 e.t)/\w.cell? ⟨g,k*4+3,af⟩=ae (.string e.s):=by
 have hc:=h.cells (g:=g) rfl;have key:∀j u,j<4->e.cs[j]? =ae u->w.cell? ⟨g,k*4+j,af⟩=ae u:=fun j u hj hu=>by
  have:=hc (k*4+j) u<|(afn es k e j hk hj).trans hu;rw[aEn]at this;simpa using this
 exact⟨key 0 _ (by omega) rfl,key 1 _ (by omega) rfl,key 2 _ (by omega) rfl,key 3 _ (by omega) rfl⟩
def VZ(h:w.ownsRow B 55 4 v es.length (qo es)):
 (v=aJ af 0 0/\es=[])\/∃g cap,v=aJ (ae ⟨g,0,af⟩) es.length cap/\es.length<=cap/\cap<=dU/\B<=g/\g<w.heap.size:=by
 rcases h.2 with⟨hv,h0⟩|⟨g,cap,cur,hv,hb,hg,h1,h2,_⟩
 ·exact .inl ⟨hv,aaf h0⟩
 ·exact .inr ⟨g,cap,hv,h1,h2,hb,aX hg⟩
def aH.blocked(s:aH)(e:iy):Bool:=decide (e.k=1)&&s.isOpen e.p e.t
def aH.dC(s:aH):Nat:=s.es.findIdx s.blocked
def aH.Wf(s:aH):Prop:=∀e∈s.es,(Lit.int .i64 e.p).wf=true/\(Lit.int .i64 e.t).wf=true
def afo{α:Type}(p:α->Bool):∀(l:List α) (k:Nat) (e:α),(∀j x,j<k->l[j]? =ae x->p x=false)->l[k]? =ae e->p e=true->l.findIdx p=k
 |[],k,e,_,h,_=>by simp at h
 |x::r,0,e,_,h,hp=>by
  simp only[xE,gu]at h;subst h;simp[VV,hp]
 |x::r,k+1,e,ha,h,hp=>by
  have h0:=ha 0 x (by omega) (by simp);have:=afo p r k e (fun j y hj hy=>ha (j+1) y (by omega)<|by simpa using hy) (by simpa using h) hp;simp[VV,h0,this]
def am8{α:Type}(p:α->Bool)(l:List α)(ha:∀(j:Nat) x,l[j]? =ae x->p x=false):l.findIdx p=l.length:=by
 apply List.findIdx_eq_length.2;intro x hx;obtain⟨j,hj,rfl⟩:=List.getElem_of_mem hx;exact ha j _<|eY hj
def afp{lb bm:Nat}{s:aH}(h:dY w B lb bm v n s)(uj:s.Wf):
 aU prog 59 #[ay<|ae ⟨lb,0,af⟩] w fun e w'=>e=aT (.int .i64 s.dC)/\Fr aP w w':=by
 have c0:w.cell? ⟨lb,0,af⟩=ae v:=by rw[aK h.blk];rfl
 have aI:=h.lt;rcases VZ h.row with⟨rfl,he⟩|⟨g,cap,rfl,Qn,Bz,hBg,hg⟩
 ·have hs:s.dC=0:=by simp[aH.dC,he]
  rw[hs];clear h uj hs he;go_enter func59,ntmps59
  go_wp2_with fail
  go_loopw [10] (fun i w'=>i=.int .i64 0/\w'=w) (fun _ _=>0)
  case atStart=>exact⟨rfl,rfl⟩
  case round=>
   obtain⟨rfl,rfl⟩:=hrel
   go_wp2
   go_ret
   exact⟨rfl,Fr.refl _ _⟩
 ·unfold dU at Bz;have H:Hid (dY w B lb bm (aJ (ae ⟨g,0,af⟩) s.es.length cap) n s):=h;have HW:Hid s.Wf:=uj;clear h uj;go_enter func59,ntmps59
  go_wp2_with fail
  go_loopw [10] (fun i w'=>∃k:Nat,k<=s.es.length/\i=.int .i64 k/\Fr aP w w'/\∀j x,j<k->s.es[j]? =ae x->s.blocked x=false) (fun i _=>s.es.length-(fH i).toNat)
  case atStart=>exact⟨0,mi _,rfl,Fr.refl _ _,fun j x hj=>by omega⟩
  case round=>
   obtain⟨k,hk,rfl,dO,jF⟩:=hrel
   have HL:Hid (dY wr B lb bm (aJ (ae ⟨g,0,af⟩) s.es.length cap) n s):=dO.logAt H.o id id fun _ _=>id
   have k0:wr.cell? ⟨lb,0,af⟩=ae (aJ (ae ⟨g,0,af⟩) s.es.length cap):=by rw[aK HL.o.blk];rfl
   have eH:=dO.size
   have HF:Hid (Fr aP w wr):=dO
   have HA:Hid (∀j x,j<k->s.es[j]? =ae x->s.blocked x=false):=jF
   clear dO jF
   by_cases lU:k<s.es.length
   ·obtain⟨e,he⟩:∃e,s.es[k]? =ae e:=⟨_,eY lU⟩
    obtain⟨r0,r1,r2,r3⟩:=aav HL.o.row he
    have Ez:Hid ((Lit.int .i64 e.p).wf=true):=(HW.o e<|gz he).1
    have HE:Hid (s.es[k]? =ae e):=he
    have Ae:∀o:Obj,(wr.alloc o).heap.size=wr.heap.size+1:=fun o=>by simp
    clear he
    by_cases h1:e.k=1
    ·by_cases ho:s.isOpen e.p e.t=true
     ·have HS:Hid (s.dC=k):=afo _ _ k e HA.o HE.o (by simp[aH.blocked,h1,ho])
      go_wp2_with (go_at_call 122;refine(GU (by exact(bG _).logAt HL.o id id fun _ _=>id) _ _ Ez.o).mono ?_;rintro e w' ⟨rfl,rfl⟩)
      go_ret
      exact⟨by rw[HS.o]<;>rfl,HF.o.alloc _⟩
     ·have hb:s.blocked e=false:=by simp[aH.blocked,ho]
      have ui:s.isOpen e.p e.t=false:=by simpa using ho
      have Ko:Hid (∀j x,j<k+1->s.es[j]? =ae x->s.blocked x=false):=fun j x hj hx=>by
       by_cases ej:j=k
       ·subst ej;have:=HE.o.symm.trans hx;cases this;exact hb
       ·exact HA.o j x (by omega) hx
      clear hb ho
      go_wp2_with (go_at_call 122;refine(GU (by exact(bG _).logAt HL.o id id fun _ _=>id) _ _ Ez.o).mono ?_;rintro e w' ⟨rfl,rfl⟩)
      go_roundw
      case rel=>exact⟨k+1,by omega,by go_num,HF.o.alloc _,Ko.o⟩
      case measure=>simp[fH]<;>omega
    ·have hb:s.blocked e=false:=by simp[aH.blocked,h1]
     have EC:(e.k==1)=false:=by simpa using h1
     have Ko:Hid (∀j x,j<k+1->s.es[j]? =ae x->s.blocked x=false):=fun j x hj hx=>by
      by_cases ej:j=k
      ·subst ej;have:=HE.o.symm.trans hx;cases this;exact hb
      ·exact HA.o j x (by omega) hx
     clear hb
     go_wp2
     go_roundw
     case rel=>exact⟨k+1,by omega,by go_num,HF.o.alloc _,Ko.o⟩
     case measure=>simp[fH]<;>omega
   ·have HS:Hid (s.dC=s.es.length):=am8 _ _ (fun j x hx=>HA.o j x (by have:=(dM.1 hx).1;omega) hx)
    go_wp2
    go_ret
    exact⟨by rw[HS.o]<;>rfl,HF.o⟩
end
section
def am9(l:List iy):∀u∈qo l,u.oneCell'=true:=by
 intro u hu;simp only[qo,aal]at hu;obtain⟨e,_,he⟩:=hu;simp only[iy.cs,jR,pF,pG]at he;rcases he with rfl|rfl|rfl|rfl<;>rfl
variable{w:aj}{B:Nat}{v:az}
def ana{es:List iy}(h:w.ownsRow B 55 4 v es.length (qo es))(hb:es.length*40<=140737488355328):
 aU prog 110 #[v] w fun e w'=>∃v',e=aT v'/\w'.ownsRow w.heap.size 55 4 v' es.length (qo es)/\Fr aP w w':=by
 obtain⟨i0,dR,iE,gG,iU⟩:=aEd aat;have ale:∀(wx:aj) (a:Option Addr) (n c:Nat),(binOp .eql 49 (.slice a n c)<|aJ af 0 0).run prog wx=.ok (aB a.isNone) wx:=fun wx a n c=>Lib.run_eql_slice_nil wx 49 55 a n c 0 0 underlying49;rcases VZ h with⟨rfl,he⟩|⟨g,cap,rfl,Qn,Bz,hBg,hg⟩
 ·subst he;clear h hb;go_enter func110,ntmps110
  go_wp2
  go_ret;exact⟨_,rfl,aD9 _ _ _ _,Fr.refl _ _⟩
 ·have H:Hid (w.ownsRow B 55 4 (aJ (ae ⟨g,0,af⟩) es.length cap) es.length<|qo es):=h;have HB:Hid (es.length*40<=140737488355328):=hb;have HM:Hid (es.length<=dU):=eG Qn Bz;clear h hb Bz;go_enter func110,ntmps110
  go_wp2_with (at_builtin;refine wpList_append_own_at _ rfl _ _ 49 rfl w.heap.size 55 i0 _ 4 40 underlying49 dR iE gG iU rfl (by decide) _ 0 [] rfl (by exact World.ownsRow_made w #[] 0 (dm _) (mi _) rfl) ⟨g,0,af⟩ es.length cap (qo es) rfl (by rw[am7,aap]) (by exact(H.o.alloc _).cells rfl) (am9 es) (by simpa using HM.o) (by simpa using HB.o) (by simp) ?_;intro v' w1 Zc ay3 aCl aBb)
  go_ret;simp only[DK,xH]at Zc;exact⟨_,rfl,Zc,(bG _).grown ay3 (fun k e=>by cases e;exact .inr<|dm _)⟩
def anb{lb bm n:Nat}{s:aH}(h:dY w B lb bm v n s)(hb:s.es.length*40<=140737488355328):
 aU prog 51 #[ay<|ae ⟨lb,0,af⟩] w fun e w'=>∃v',e=aT v'/\w'.ownsRow w.heap.size 55 4 v' s.es.length (qo s.es)/\Fr aP w w':=by
 have c0:w.cell? ⟨lb,0,af⟩=ae v:=by rw[aK h.blk];rfl
 have H:Hid (dY w B lb bm v n s):=h;have HB:Hid (s.es.length*40<=140737488355328):=hb;clear h hb;go_enter func51,ntmps51
 go_wp2_with (go_at_call 110;refine(ana H.o.row HB.o).mono ?_;rintro e w1 ⟨v',rfl,Kq,bM⟩)
 go_ret;exact⟨_,rfl,Kq,bM⟩
end
def oz(es:List iy)(p t:Int):Option Int:=es.foldl (fun o e=>if e.k≠1/\e.p=p/\e.t=t then ae e.k else o) af
def QR(es:List iy)(x:iy)(p t:Int):oz (es++[x]) p t=if x.k≠1/\x.p=p/\x.t=t then ae x.k else oz es p t:=by
 simp[oz,VU]
def tC(es:List iy):az->Option az
 | .agg cs=>match cs.toList with
   |[.int .i64 p,.int .i64 t]=>(oz es p t).map<|Value.int .i64
   |_=>af
 |_=>af
def afq(es:List iy)(p t:Int):tC es (gY #[.int .i64 p,.int .i64 t])=(oz es p t).map (Value.int .i64):=rfl
def anc(es:List iy)(x:iy)(h:x.k=1):tC (es++[x])=tC es:=by
 funext v;unfold tC;split
 ·split
  ·rw[QR,if_neg<|by simp[h]]
  ·rfl
 ·rfl
def ane(es:List iy)(x:iy)(h:x.k≠1):tC (es++[x]) (gY #[.int .i64 x.p,.int .i64 x.t])=ae (.int .i64 x.k):=by
 rw[afq,QR,if_pos ⟨h,rfl,rfl⟩];rfl
def anf(es:List iy)(x:iy)(v:az)(hv:v≠gY #[.int .i64 x.p,.int .i64 x.t]):tC (es++[x]) v=tC es v:=by
 unfold tC;split
 ·split
  ·rename_i cs _ p t hcs;rw[QR,if_neg];rintro⟨_,rfl,rfl⟩;exact hv<|by rw[show cs=#[.int .i64 x.p,.int .i64 x.t]from by rw[<-Array.toList_inj,hcs]]
  ·rfl
 ·rfl
def laidOut:laidOutB prog=true:=by kernel_rfl
def ang:(231:dw)<prog.types.size:=QN<|by kernel_rfl
def anh:prog.types.size=282:=by kernel_rfl
def aaw:prog.cellsOf 3=1:=by kernel_rfl
def afr:prog.cellsOf 231=2:=by kernel_rfl
def ani:(match prog.underlying 231 with|some (.array _ _)|some (.struct _)=>true|_=>false)=true:=by rw[underlying231]
def anj:prog.keyTypeAt 3 231=true:=by kernel_rfl
def afs:Keyed prog 231:=Keyed.of_law<|deep_law_laid (P:=prog) laidOut (m:=3) (by decide) (k:=231) ang anj ani
def ank(w:aj):(zeroValue 3).run prog w=.ok (.int .i64 0) w:=by kernel_rfl
def anl:prog.keyType 231=true:=by kernel_rfl
def anm(d:Nat){p t:Int}(hp:(Lit.int .i64 p).wf=true)(ht:(Lit.int .i64 t).wf=true):prog.keyLits (d+2) 231 [.int .i64 p,.int .i64 t]=ae [.int .i64 p,.int .i64 t]:=by
 simp[Program.keyLits,underlying231,aaw,afr,underlying3,hp,ht]
def aft{p t:Int}(hp:(Lit.int .i64 p).wf=true)(ht:(Lit.int .i64 t).wf=true):∃kl,keyOf prog 231 (gY #[.int .i64 p,.int .i64 t])=ae kl:=by
 have hf:(Value.agg #[.int .i64 p,.int .i64 t]).formed prog 231=true:=by
  simp[Value.formed,underlying231,afr]
 have hl:=anm 281 hp ht;unfold keyOf;rw[underlying231,anl,hf,anh];exact⟨_,by
  simp only[Bool.and_self,if_true];rw[show(Value.agg #[.int .i64 p,.int .i64 t]).cells.toList=[.int .i64 p,.int .i64 t]from rfl,hl];rfl⟩
def ann{w:aj}{B lb bm n:Nat}{v:az}{s:aH}(h:dY w B lb bm v n s)(uj:s.Wf):
 aU prog 174 #[ay<|ae ⟨lb,0,af⟩] w fun e w'=>e=aT (.map<|ae w.heap.size)/\jo w' prog 231 w.heap.size s.es.length (tC s.es)/\Fr aP w w':=by
 have c0:w.cell? ⟨lb,0,af⟩=ae v:=by rw[aK h.blk];rfl
 have aI:=h.lt;have Zb:=@run_makeMap prog;have nb:=aFt w ⟨lb,0,af⟩ c0;have HM0:Hid (jo (w.alloc<|.map #[] 0) prog 231 w.heap.size 0<|tC []):=(jo.made w prog 231).congr (fun key kl _=>by
  unfold tC;split
  ·split<;>rfl
  ·rfl)
 rcases VZ h.row with⟨rfl,he⟩|⟨g,cap,rfl,Qn,Bz,hBg,hg⟩
 ·rw[he];clear h uj he;go_enter func174,ntmps174
  go_wp2_with fail
  go_loopw [12] (fun i w'=>i=.int .i64 0/\w'=w.alloc (.map #[] 0)) (fun _ _=>0)
  case atStart=>exact⟨rfl,rfl⟩
  case round=>
   obtain⟨rfl,rfl⟩:=hrel
   go_wp2
   go_ret
   exact⟨rfl,HM0.o,bG _⟩
 ·have HC:Hid (cap<=dU):=Bz;unfold dU at Bz;have H:Hid (dY w B lb bm (aJ (ae ⟨g,0,af⟩) s.es.length cap) n s):=h;have HW:Hid s.Wf:=uj;clear h uj;go_enter func174,ntmps174
  go_wp2_with fail
  go_loopw [12] (fun i w'=>∃k:Nat,k<=s.es.length/\i=.int .i64 k/\Fr aP w w'/\jo w' prog 231 w.heap.size k (tC<|s.es.take k)) (fun i _=>s.es.length-(fH i).toNat)
  case atStart=>exact⟨0,mi _,rfl,bG _,by simpa using HM0.o⟩
  case round=>
   obtain⟨k,hk,rfl,dO,UH⟩:=hrel
   have HL:Hid (dY wr B lb bm (aJ (ae ⟨g,0,af⟩) s.es.length cap) n s):=dO.logAt H.o id id fun _ _=>id
   have k0:wr.cell? ⟨lb,0,af⟩=ae (aJ (ae ⟨g,0,af⟩) s.es.length cap):=by rw[aK HL.o.blk];rfl
   have eH:=dO.size
   have HF:Hid (Fr aP w wr):=dO
   have HM:Hid (jo wr prog 231 w.heap.size k<|tC<|s.es.take k):=UH
   clear dO UH
   by_cases lU:k<s.es.length
   ·obtain⟨e,he⟩:∃e,s.es[k]? =ae e:=⟨_,eY lU⟩
    obtain⟨r0,r1,r2,r3⟩:=aav HL.o.row he
    have HT:Hid (s.es.take (k+1)=s.es.take k++[e]):=by
     show s.es.take (k+1)=s.es.take k++[e];rw[AP,he];rfl
    obtain⟨kl,nZ⟩:=aft (HW.o e<|gz he).1 (HW.o e<|gz he).2
    have HK:Hid (keyOf prog 231 (gY #[.int .i64 e.p,.int .i64 e.t])=ae kl):=nZ
    clear he nZ
    by_cases h1:e.k=1
    ·have HM2:Hid (jo wr prog 231 w.heap.size (k+1)<|tC<|s.es.take<|k+1):=by
      show jo wr prog 231 w.heap.size (k+1) (tC<|s.es.take<|k+1);rw[HT.o,anc _ _ h1];exact HM.o.mono<|by omega
     go_wp2
     go_roundw
     case rel=>exact⟨k+1,by omega,by go_num,HF.o.alloc _,(bG _).AU HM2.o id⟩
     case measure=>simp[fH]<;>omega
    ·have EC:(e.k==1)=false:=by simpa using h1
     have HN:Hid (k<dU):=fK lU<|eG Qn HC.o
     go_wp2_with (at_mapUpdate;refine QP _ rfl _ _ _ 228 rfl 231 3 afs underlying228 w.heap.size k (tC<|s.es.take k) rfl (by exact(bG _).AU HM.o id) HN.o _ _ kl rfl rfl HK.o (tC<|s.es.take k++[e]) (ane _ _ h1) (anf _ _) ?_;intro w2 ED Nh)
     go_roundw
     case rel=>exact⟨k+1,by omega,by go_num,(HF.o.alloc _).KX Nh<|.inr<|dm _,by rw[HT.o];exact ED⟩
     case measure=>simp[fH]<;>omega
   ·have HT:Hid (s.es.take k=s.es):=DJ (by omega)
    have HK:Hid (k=s.es.length):=by show k=s.es.length;omega
    go_wp2
    go_ret
    exact⟨rfl,by have:=HM.o;rw[HT.o,HK.o]at this;exact this,HF.o⟩
section
structure Rec where
 o:Int
 p:Int
 s:ByteArray
def Rec.cs(e:Rec):List Value:=[.int .i64 e.o,.int .i64 e.p,.string e.s]
def qJ(l:List Rec):List Value:=l.flatMap Rec.cs
def anp(l:List Rec)(x:Rec):qJ (l++[x])=qJ l++x.cs:=by simp[qJ]
def anq:(prog.info? 94).map (fun i=>(i.zero,i.size,i.bytes))=ae (ae<|gY #[.int .i64 0,.int .i64 0,.string ⟨#[]⟩],3,32):=by kernel_rfl
def aH.DL(s:aH)(e:iy):Bool:=decide (e.k=1)&&decide (oz s.es e.p e.t=ae 2)
def aH.pick(s:aH)(i:Nat):List Rec:=
 match s.es[i]? with
 |some e=>if s.DL e then[⟨i,e.p,e.s⟩]else[]
 |none=>[]
def aH.bn(s:aH)(a b:Nat):List Rec:=(List.range' a<|b-a).flatMap s.pick
def aH.afv(s:aH)(a:Nat):s.bn a a=[]:=by simp[aH.bn]
variable{a k n B:Nat}{w:aj}{e:iy}{v:az}{rs:List Rec}{s:aH}
def aH.GV(s:aH)(h:a<=k):s.bn a (k+1)=s.bn a k++s.pick k:=by
 unfold aH.bn;rw[show k+1-a=(k-a)+1 by omega,List.range'_concat,EW];simp[show a+(k-a)=k by omega]
def aH.afw(s:aH)(a:Nat):∀k,a<=k->(s.bn a k).length<=k-a
 |0,h=>by
  have:a=0:=by omega
  subst this;simp[aH.bn]
 |k+1,h=>by
  by_cases e:a=k+1
  ·subst e;simp[aH.bn]
  ·rw[s.GV<|by omega,iV];have:=aH.afw s a k (by omega);have h2:(s.pick k).length<=1:=by
    unfold aH.pick;split
    ·split<;>simp
    ·simp
   omega
def aH.start(f:Int):Nat:=(max f 0).toNat
def aH.BN(s:aH)(f m:Int):List Rec:=(s.bn (aH.start f) s.dC).take m.toNat
def jo.KY{P:eF}{k:dw}{b:Nat}{f:az->Option az}(h:jo w P k b n f){e:dw}{size:Nat}{m:Nat}{xs:List az}(ho:w.ownsRow B e size v m xs):v.ownBlock≠ae b:=by
 intro ev;obtain⟨D,⟨es,clock,hb,_⟩,_⟩:=h;rcases ho.2 with⟨rfl,_⟩|⟨g,cap,cur,rfl,_,hg,_⟩
 ·simp[Value.ownBlock]at ev
 ·simp[Value.ownBlock]at ev;rw[<-ev,hg]at hb;cases hb
def afx(h:w.ownsRow B 94 3 v rs.length (qJ rs)):
 (v=aJ af 0 0/\rs=[])\/∃g cap,v=aJ (ae ⟨g,0,af⟩) rs.length cap/\rs.length<=cap/\cap<=dU/\B<=g/\g<w.heap.size:=by
 rcases h.2 with⟨hv,h0⟩|⟨g,cap,cur,hv,hb,hg,h1,h2,_⟩
 ·exact .inl ⟨hv,aaf h0⟩
 ·exact .inr ⟨g,cap,hv,h1,h2,hb,aX hg⟩
def aax(h:w.ownsRow B 94 3 v rs.length (qJ rs)):∃a cap,v=.slice a rs.length cap:=by
 rcases afx h with⟨rfl,rfl⟩|⟨g,cap,rfl,_⟩
 ·exact⟨af,0,rfl⟩
 ·exact⟨_,_,rfl⟩
def aH.Oo(s:aH):s.dC<=s.es.length:=List.findIdx_le_length
def aH.aay(s:aH)(h:a<=k):∀d,∃t,s.bn a (k+d)=s.bn a k++t
 |0=>⟨[],by simp⟩
 |d+1=>by
  obtain⟨t,ht⟩:=aH.aay s h d;exact⟨t++s.pick (k+d),by rw[<-zG,s.GV<|by omega,ht,AQ]⟩
def aH.afy(s:aH){f m:Int}(h1:aH.start f<=k)(h2:k<=aH.start f\/k<=s.dC)(h3:((s.bn (aH.start f) k).length:Int)<=max m 0)(h4:s.dC<=k\/m<=(s.bn (aH.start f) k).length):
 s.BN f m=s.bn (aH.start f) k:=by
 unfold aH.BN;generalize aH.start f=a at*
 have aaz:s.dC<=k->s.bn a s.dC=s.bn a k:=by
  intro h;rcases h2 with h2|h2
  ·have:k=a:=by omega
   subst this;simp only[aH.bn];rw[show s.dC-k=0 by omega,Nat.sub_self]
  ·rw[show s.dC=k by omega]
 by_cases hk:s.dC<=k
 ·rw[aaz hk];exact DJ<|by omega
 ·obtain⟨t,ht⟩:=s.aay h1<|s.dC-k;rw[show k+(s.dC-k)=s.dC by omega]at ht;rw[ht];have:m.toNat=(s.bn a k).length:=by omega
  rw[this];exact List.take_left
def aH.anr(he:s.es[k]? =ae e)(h1:e.k=1)(h2:(oz s.es e.p e.t).getD 0=2):s.pick k=[⟨k,e.p,e.s⟩]:=by
 have:oz s.es e.p e.t=ae 2:=by
  cases hq:oz s.es e.p e.t with
  |none=>rw[hq]at h2;simp at h2
  |some q=>rw[hq]at h2;simp at h2;rw[h2]
 simp[aH.pick,he,aH.DL,h1,this]
def aH.afz(he:s.es[k]? =ae e)(h2:e.k≠1\/(oz s.es e.p e.t).getD 0≠2):s.pick k=[]:=by
 have:s.DL e=false:=by
  simp only[aH.DL,Bool.and_eq_false_iff,decide_eq_false_iff_not];rcases h2 with h2|h2
  ·exact .inl h2
  ·exact .inr fun e2=>h2 (by rw[e2];rfl)
 simp[aH.pick,he,this]
def afA(w:aj)(o o':Obj):((w.alloc o).alloc o').heap[w.heap.size+1]? =ae o':=QQ w o o'
def ant(s:aH)(w:aj)(f m:Int)(r i:az)(w':aj):Prop:=
 ∃k:Nat,aH.start f<=k/\i=.int .i64 k/\(k<=aH.start f\/k<=s.dC)/\Fr aP w w'/\
  w'.ownsRow w.heap.size 94 3 r (s.bn (aH.start f) k).length (qJ<|s.bn (aH.start f) k)/\
  jo w' prog 231 w.heap.size s.es.length (tC s.es)/\((s.bn (aH.start f) k).length:Int)<=max m 0
def anu{lb bm:Nat}(h:dY w B lb bm v n s)(uj:s.Wf)(hb:s.es.length*40<=140737488355328)(f m:Int):
 aU prog 121 #[ay<|ae ⟨lb,0,af⟩,.int .i64 f,.int .i64 m] w fun e w'=>∃v',e=aT v'/\w'.ownsRow w.heap.size 94 3 v' (s.BN f m).length (qJ<|s.BN f m)/\Fr aP w w':=by
 obtain⟨i0,dR,iE,gG,iU⟩:=aEd anq;have H:Hid (dY w B lb bm v n s):=h;have HW:Hid s.Wf:=uj;have HB:Hid (s.es.length*40<=140737488355328):=hb;have HS:Hid (s.dC<=s.es.length):=s.Oo;have hlw:=h.lt;clear h uj hb;go_enter func121,ntmps121
 go_wp2_with (first
  |(go_at_call 174;refine(ann H.o HW.o).mono ?_;rintro e w1 ⟨rfl,qR,bM⟩;have HM1:Hid (jo w1 prog 231 w.heap.size s.es.length<|tC s.es):=qR;have La:Hid (Fr aP w w1):=bM;clear qR bM)
  |(go_at_call 59;refine(afp (by exact La.o.logAt H.o id id fun _ _=>id) HW.o).mono ?_;rintro e w2 ⟨rfl,jP⟩;have HF2:Hid (Fr aP w1 w2):=jP;clear jP))
 all_goals
  go_loopw [9,10] (fun r i w'=>ant s w f m r i w') (fun _ i _=>s.dC-(fH i).toNat)
  case atStart=>exact⟨aH.start f,dm _,by simp[aH.start]<;>omega,.inl<|dm _,La.o.trans HF2.o fun _ h=>h.elim,by rw[s.afv];exact aD9 _ _ _ _,HF2.o.AU HM1.o id,by rw[s.afv];simp<;>omega⟩
  case round=>
   obtain⟨k,aQ,rfl,kL,dO,iO,UH,hlen⟩:=hrel
   obtain⟨ra,aaA,rfl⟩:=aax iO
   have HO:Hid (wr.ownsRow w.heap.size 94 3 (.slice ra (s.bn (aH.start f) k).length aaA) (s.bn (aH.start f) k).length<|qJ<|s.bn (aH.start f) k):=iO
   have HF:Hid (Fr aP w wr):=dO
   have HM:Hid (jo wr prog 231 w.heap.size s.es.length<|tC s.es):=UH
   have HL:Hid (dY wr B lb bm v n s):=dO.logAt H.o id id fun _ _=>id
   have HN:Hid (((s.bn (aH.start f) k).length:Int)<=max m 0):=hlen
   have HG:Hid ((s.bn (aH.start f) k).length<=k-aH.start f):=s.afw _ _ aQ
   have eH:=dO.size
   have k0:wr.cell? ⟨lb,0,af⟩=ae v:=by rw[aK HL.o.blk];rfl
   clear iO dO UH hlen
   by_cases di:k<s.dC
   ·by_cases ED:((s.bn (aH.start f) k).length:Int)<m
    ·have xm:k<s.es.length:=fK di HS.o
     obtain⟨e,he⟩:∃e,s.es[k]? =ae e:=⟨_,eY xm⟩
     rcases VZ HL.o.row with⟨_,h0⟩|⟨g,cap,rfl,Qn,Bz,hBg,hg⟩
     ·rw[h0]at xm;simp at xm
     ·unfold dU at Bz
      obtain⟨r0,r1,r2,r3⟩:=aav HL.o.row he
      obtain⟨kl,nZ⟩:=aft (HW.o e<|gz he).1 (HW.o e<|gz he).2
      have uQ:∀o,(Instr.lookup 228 (.map<|ae w.heap.size) (gY #[.int .i64 e.p,.int .i64 e.t]) false).run prog (wr.alloc o)=.ok (.int .i64<|(oz s.es e.p e.t).getD 0) (wr.alloc o):=fun o=>by
       have:=((bG o).AU HM.o id).look afs underlying228 (ank _) nZ;rw[afq]at this;rw[this];cases oz s.es e.p e.t<;>rfl
      have HE:Hid (s.es[k]? =ae e):=he
      clear he nZ
      by_cases h1:e.k=1
      ·by_cases h2:(oz s.es e.p e.t).getD 0=2
       ·have HP:Hid (s.bn (aH.start f) (k+1)=s.bn (aH.start f) k++[⟨k,e.p,e.s⟩]):=by
         show s.bn (aH.start f) (k+1)=s.bn (aH.start f) k++[⟨k,e.p,e.s⟩];rw[s.GV aQ,aH.anr HE.o h1 h2]
        rw[h2]at uQ
        have HK:Hid (k<s.es.length):=xm
        clear h2
        go_wp2_with (at_builtin;refine aEu _ rfl _ _ 67 rfl w.heap.size 94 i0 _ 3 32 underlying67 dR iE gG iU rfl (by decide) _ (s.bn (aH.start f) k).length (qJ<|s.bn (aH.start f) k) rfl (by exact(HO.o.alloc _).alloc _) ⟨wr.heap.size+1,0,af⟩ 1 1 [.int .i64 k,.int .i64 e.p,.string e.s] rfl rfl (aD7 (cs:=#[.int .i64 k,.int .i64 e.p,.string e.s]) (t:=94) (fr:=(0,0))<|afA _ _ _) (by simp[Value.oneCell']) (by decide) (by have:=HG.o;have:=HB.o;have:=HK.o;simp only[dU];omega) (by have:=HG.o;have:=HB.o;have:=HK.o;omega) (by simp<;>omega) (wr.heap.size+2) (by simp) ?_;intro gg Oq w3 pY mO vk uk)
        go_roundw
        case rel=>
         have Di:Fr (fun x=>Value.ownBlock (.slice ra (s.bn (aH.start f) k).length aaA)=ae x) wr w3:=(((Fr.refl _ _).alloc _).alloc _).grown mO fun x ex=>.inl ex
         refine⟨k+1,by omega,by go_num,.inr<|by omega,HF.o.trans Di fun x hx=>.inr (HO.o.lt x hx).1,?_,Di.AU HM.o<|HM.o.KY HO.o,?_⟩
         ·rw[HP.o,anp];simpa[Rec.cs]using pY
         ·rw[HP.o];simp<;>omega
        case measure=>simp[fH]<;>omega
       ·have Qo:((oz s.es e.p e.t).getD 0==2)=false:=by simpa using h2
        have HP:Hid (s.bn (aH.start f) (k+1)=s.bn (aH.start f) k):=by
         show s.bn (aH.start f) (k+1)=s.bn (aH.start f) k;rw[s.GV aQ,aH.afz HE.o<|.inr h2,ql]
        clear h2
        generalize(oz s.es e.p e.t).getD 0=q at uQ Qo
        go_wp2
        go_roundw
        case rel=>exact⟨k+1,by omega,by go_num,.inr<|by omega,HF.o.alloc _,by rw[HP.o];exact HO.o.alloc _,(bG _).AU HM.o id,by rw[HP.o];exact HN.o⟩
        case measure=>simp[fH]<;>omega
      ·have EC:(e.k==1)=false:=by simpa using h1
       have HP:Hid (s.bn (aH.start f) (k+1)=s.bn (aH.start f) k):=by
        show s.bn (aH.start f) (k+1)=s.bn (aH.start f) k;rw[s.GV aQ,aH.afz HE.o<|.inl h1,ql]
       clear uQ
       go_wp2
       go_roundw
       case rel=>exact⟨k+1,by omega,by go_num,.inr<|by omega,HF.o.alloc _,by rw[HP.o];exact HO.o.alloc _,(bG _).AU HM.o id,by rw[HP.o];exact HN.o⟩
       case measure=>simp[fH]<;>omega
    ·have HD:Hid (s.BN f m=s.bn (aH.start f) k):=s.afy aQ kL HN.o (.inr<|by omega)
     go_wp2
     go_ret
     exact⟨_,rfl,by rw[HD.o];exact HO.o,HF.o⟩
   ·have HD:Hid (s.BN f m=s.bn (aH.start f) k):=s.afy aQ kL HN.o (.inl<|by omega)
    go_wp2
    go_ret
    exact⟨_,rfl,by rw[HD.o];exact HO.o,HF.o⟩
end
end Go.Proofs.YtkelpcjiediamaaGreat
