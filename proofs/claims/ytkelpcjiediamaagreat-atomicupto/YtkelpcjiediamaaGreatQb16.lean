import Derived.Test.YtkelpcjiediamaaGreatQb15
import Derived.Deep.RegionLaw
set_option maxRecDepth 100000
set_option maxHeartbeats 0
set_option linter.all false
namespace Go.Proofs.YtkelpcjiediamaaGreat
def aB9:=@Go.World.news_of_block
def aCf:=@Go.info_parts
def aCo:=@Go.Addr.add_lit
def aCu:=@Go.step_append_lies
def aCv:=@Go.wpList_append_lies
open Go renaming Calls→aK,Program→dO,TypeId→bW,Value→aj,World→ah,maxLen→dH
open Go.RowKit renaming intOf→dX
open Option renaming none→af,some→ae
open Go.Proofs.Tryz
open Go.RowKit Go.Maps
section
attribute [local go_sem ↓] Go.wp_at_zero Go.wp_at_succ
def YR:(prog.info? 55).map (fun i=>(i.zero,i.size,i.bytes))=ae (ae<|.agg #[.int .i64 0,.int .i64 0,.int .i64 0,.string ⟨#[]⟩],4,40):=by kernel_rfl
def aA.put(s:aA)(x:gm):aA:={s with es:=s.es++[x]}
def PN(w:ah)(o o':Obj):((w.alloc o).alloc o').drew.heap[w.heap.size+1]? =ae o':=by
 have:=aB0 (w.alloc o) o';rw[show(w.alloc o).heap.size=w.heap.size+1 by simp]at this;exact this
variable{w:ah}{B lb bm n:Nat}{v:aj}{s:aA}
def JQ{a:Addr}(h:a.block<w.heap.size)(o:Obj):(w.alloc o).frozen? a=w.frozen? a:=World.frozen?_of_block (w:=w)<|aB3 w o a.block h
def adP(l:List gm)(x:gm):oh (l++[x])=oh l++x.cs:=by simp[oh]
def dK.alm{W w1:ah}{v':aj}{x:gm}(h:dK w B lb bm v n s)(hW:Fr aH w W)(hg:W.grownBy w1 v.ownBlock)
 (iy:w1.ownsRow B 55 4 v' (s.es.length+1) (oh s.es++x.cs))(dM:∀k,v'.ownBlock=ae k->v.ownBlock=ae k\/w.heap.size<=k):
 dK (w1.setCell ⟨lb,0,af⟩ v') B lb bm v' n (s.put x)/\Fr (fun k=>k=lb\/v.ownBlock=ae k) w (w1.setCell ⟨lb,0,af⟩ v'):=by
 have f1:Fr (fun k=>v.ownBlock=ae k) w w1:=(hW.mono fun _ h=>h.elim).grown hg fun k e=>.inl e;have f2:Fr (fun k=>k=lb\/v.ownBlock=ae k) w (w1.setCell ⟨lb,0,af⟩ v'):=(f1.mono fun k h=>.inl<|.inr h).setCell (.inl<|.inl rfl) _;have b1:w1.heap[lb]? =ae (.cells #[v,.int .i64 s.d,.map<|ae bm] 163 (0,0)):=(f1.block lb h.lt h.JP).trans h.blk;refine⟨⟨?_,?_,?_,h.hl,h.hm⟩,f2⟩
 ·rw[jQ b1];rfl
 ·have hr:Fr (fun k=>k=lb) w1 (w1.setCell ⟨lb,0,af⟩ v'):=(Fr.refl (fun k=>k=lb) w1).setCell (p:=⟨lb,0,af⟩) (.inl rfl) _;have:=hr.ownsRow iy (fun k hk e=>by
   subst e;rcases dM _ hk with h1|h1
   ·exact h.JP h1
   ·have:=h.lt;omega)
  simpa[aA.put,adP]using this
 ·exact f2.zM h.map (fun e=>by
   rcases e with e|e
   ·exact h.ne e.symm
   ·exact h.YQ e)
def YS(h:dK w B lb bm v n s)(x:gm)(hb:(s.es.length+1)*40<=140737488355328):
 aK prog 184 #[.pointer<|ae ⟨lb,0,af⟩,.agg #[.int .i64 x.k,.int .i64 x.p,.int .i64 x.t,.string x.s]] w fun e w'=>e=.returned (.tuple #[])/\
  ∃v',dK w' B lb bm v' n (s.put x)/\Fr (fun k=>k=lb\/v.ownBlock=ae k) w w'/\(∀k,v'.ownBlock=ae k->v.ownBlock=ae k\/w.heap.size<=k):=by
 obtain⟨xk,xp,xt,xs⟩:=x
 obtain⟨i0,dF,gG,fO,iH⟩:=aCf YR
 have c0:w.cell? ⟨lb,0,af⟩=ae v:=by rw[aG h.blk];rfl
 have f0:w.frozen? ⟨lb,0,af⟩=false:=jP h.blk 0
 have aB:=h.lt
 have LD:=h.JP
 have nb:=aDt w ⟨lb,0,af⟩ c0
 have f1:∀o,(w.alloc o).frozen? ⟨lb,0,af⟩=false:=fun o=>(JQ aB o).trans f0
 have f2:∀o o',((w.alloc o).alloc o').frozen? ⟨lb,0,af⟩=false:=fun o o'=>(JQ (by simp<;>omega) o').trans<|f1 o
 have H:Hid (dK w B lb bm v n s):=h
 have HB:Hid ((s.es.length+1)*40<=140737488355328):=hb
 clear h hb
 go_enter func184,ntmps184
 go_wp2_with fail
 go_region_law
  ((refine aCu _ (by rfl) _ _ _ (by rfl) B 55 i0 _ 4 40 underlying49 dF gG fO iH rfl (by omega) v s.es.length (oh s.es) (by rfl) (((H.out.row.alloc _).alloc _).drew)
     ⟨w.heap.size+1,0,af⟩ 1 1 [.int .i64 xk,.int .i64 xp,.int .i64 xt,.string xs] (by rfl) (by rfl) (aB9 (cs:=#[.int .i64 xk,.int .i64 xp,.int .i64 xt,.string xs]) (t:=55) (fr:=(0,0))<|PN _ _ _) (by simp[Value.oneCell'])
     (by omega) (by have:=HB.out;simp only[dH];omega) HB.out (by have:=H.out.hl;simp<;>omega) (w.heap.size+2) (by simp) ?_;intro gg cap w1 XI o8 dM aB;have k0:=(o8.cell_far ⟨lb,0,af⟩ (by simp<;>omega)<|iI LD);have k1:=(o8.frozen_far ⟨lb,0,af⟩ (by simp<;>omega)<|iI LD);simp only[World.cell?_drew,World.frozen?_drew,f2]at k0 k1))
 all_goals
  go_end0
  obtain⟨r1,r2⟩:=H.out.alm (x:=⟨xk,xp,xt,xs⟩) (((aZ _).alloc _).drew) o8 XI (fun k hk=>by
   simp only[Value.ownBlock,fJ]at hk;subst hk;rcases dM with h1|h1
   ·exact .inl h1
   ·exact .inr<|by omega)
  refine⟨rfl,_,r1,r2,fun k hk=>?_⟩
  simp only[Value.ownBlock,fJ]at hk
  subst hk
  rcases dM with h1|h1
  ·exact .inl h1
  ·exact .inr<|by omega
end
def aA.nD(s:aA)(p t:Int)(x:ByteArray):Int:=
 if s.isOpen p t=false then 11 else if 8<x.size then 4 else if 200<=s.d then 12 else 0
def aA.kH(s:aA)(p t:Int)(x:ByteArray):aA:=
 if s.nD p t x=0 then{(s.put ⟨1,p,t,x⟩)with d:=s.d+1}else s
def aA.wJ(c:Bool):Int:=if c then 2 else 3
def aA.closed(s:aA)(p t:Int)(c:Bool):aA:=
 if s.isOpen p t then(s.put ⟨aA.wJ c,p,t,⟨#[]⟩⟩).set p t false else s
def dK.aln{w:ah}{B lb bm n d:Nat}{v:aj}{s:aA}(h:dK w B lb bm v n s):
 dK (w.setCell ⟨lb,1,af⟩<|.int .i64 d) B lb bm v n {s with d:=d}/\Fr (fun k=>k=lb) w (w.setCell ⟨lb,1,af⟩<|.int .i64 d):=by
 have hr:Fr (fun k=>k=lb) w (w.setCell ⟨lb,1,af⟩<|.int .i64 d):=(Fr.refl (fun k=>k=lb) w).setCell (p:=⟨lb,1,af⟩) (.inl rfl) _;refine⟨⟨?_,hr.ownsRow h.row (fun k hk e=>h.JP<|by rw[hk,e]),hr.zM h.map fun e=>h.ne e.symm,h.hl,h.hm⟩,hr⟩;rw[jQ h.blk];rfl
structure Left(w w':ah)(B lb bm:Nat)(v v':aj)(n:Nat)(s':aA):Prop where
 log:dK w' B lb bm v' n s'
 fr:Fr (fun k=>k=lb\/k=bm\/v.ownBlock=ae k) w w'
 Nb:∀k,v'.ownBlock=ae k->v.ownBlock=ae k\/w.heap.size<=k
def alo{w:ah}{B lb bm n:Nat}{v:aj}{s:aA}(h:dK w B lb bm v n s)(p t:Int)(x:ByteArray)(hp:(Lit.int .i64 p).wf=true)(hx:x.size<=dH)(hb:(s.es.length+1)*40<=140737488355328):
 aK prog 136 #[.pointer<|ae ⟨lb,0,af⟩,.int .i64 p,.int .i64 t,.string x] w fun e w'=>e=.returned (.int .i64<|s.nD p t x)/\
  ∃v',Left w w' B lb bm v v' n (s.kH p t x):=by
 unfold dH at hx
 have c1:w.cell? ⟨lb,1,af⟩=ae (.int .i64 s.d):=by rw[aG h.blk];rfl
 have H:Hid (dK w B lb bm v n s):=h
 have HP:Hid ((Lit.int .i64 p).wf=true):=hp
 have HB:Hid ((s.es.length+1)*40<=140737488355328):=hb
 clear h hp hb
 by_cases ho:s.isOpen p t=true
 ·by_cases h8:8<x.size
  ·have hc:s.nD p t x=4:=by simp[aA.nD,ho,h8]
   have hs:s.kH p t x=s:=by simp[aA.kH,hc]
   rw[hc,hs]
   clear hc hs
   go_enter func136,ntmps136
   go_wp2_with (go_at_call 122;refine(FC H.out _ _ HP.out).mono ?_;rintro e w' ⟨rfl,rfl⟩)
   go_ret
   exact⟨rfl,v,H.out,Fr.refl _ _,fun k hk=>.inl hk⟩
  ·by_cases hd:200<=s.d
   ·have hc:s.nD p t x=12:=by simp[aA.nD,ho,h8,hd]
    have hs:s.kH p t x=s:=by simp[aA.kH,hc]
    rw[hc,hs]
    clear hc hs
    go_enter func136,ntmps136
    go_wp2_with (go_at_call 122;refine(FC H.out _ _ HP.out).mono ?_;rintro e w' ⟨rfl,rfl⟩)
    go_ret
    exact⟨rfl,v,H.out,Fr.refl _ _,fun k hk=>.inl hk⟩
   ·have hc:s.nD p t x=0:=by simp[aA.nD,ho,h8,hd]
    have hs:s.kH p t x={(s.put ⟨1,p,t,x⟩)with d:=s.d+1}:=by simp[aA.kH,hc]
    rw[hc,hs]
    clear hc hs
    go_enter func136,ntmps136
    go_wp2_with (first
     |(go_at_call 122;refine(FC H.out _ _ HP.out).mono ?_;rintro e w' ⟨rfl,rfl⟩)
     |(go_at_call 184;refine(YS H.out ⟨1,p,t,x⟩ HB.out).mono ?_;rintro e w1 ⟨rfl,v',kz,bg,jf⟩
       have k1:w1.cell? ⟨lb,1,af⟩=ae (.int .i64 s.d):=by rw[aG kz.blk];rfl
       have k2:w1.frozen? ⟨lb,1,af⟩=false:=jP kz.blk 1))
    go_ret
    obtain⟨r1,r2⟩:=kz.aln (d:=s.d+1)
    refine⟨rfl,v',r1,?_,jf⟩
    exact(bg.mono fun k hk=>.inl (by rcases hk with e|e;exact .inl e;exact .inr<|.inr e)).trans r2 fun k hk=>.inl<|.inl hk
 ·have hc:s.nD p t x=11:=by simp[aA.nD,ho]
  have hs:s.kH p t x=s:=by simp[aA.kH,hc]
  rw[hc,hs]
  have sS:s.isOpen p t=false:=by simpa using ho
  clear hc hs ho
  go_enter func136,ntmps136
  go_wp2_with (go_at_call 122;refine(FC H.out _ _ HP.out).mono ?_;rintro e w' ⟨rfl,rfl⟩)
  go_ret
  exact⟨rfl,v,H.out,Fr.refl _ _,fun k hk=>.inl hk⟩
section
def alp(l:List gm):(oh l).length=4*l.length:=by
 induction l with
 |nil=>rfl
 |cons x r ih=>simp only[oh,nZ,iQ]at ih⊢;rw[ih];simp[gm.cs]<;>omega
def adQ:∀(l:List gm) (k:Nat) (e:gm) (j:Nat),l[k]? =ae e->j<4->(oh l)[k*4+j]? =e.cs[j]?
 |[],k,e,j,h,_=>by simp at h
 |x::r,0,e,j,h,hj=>by
  simp only[xA,fJ]at h;subst h;simp only[oh,nZ];rw[tJ (by simp[gm.cs]<;>omega)];simp
 |x::r,k+1,e,j,h,hj=>by
  simp only[zJ]at h;have:=adQ r k e j h hj;simp only[oh,nZ]at this⊢
  rw[wG (by simp[gm.cs]<;>omega),<-this];congr 1;simp[gm.cs]<;>omega
variable{w:ah}{B n:Nat}{es:List gm}{v:aj}
def YT{g cap:Nat}(h:w.ownsRow B 55 4 (.slice (ae ⟨g,0,af⟩) n cap) es.length (oh es)){k:Nat}{e:gm}(hk:es[k]? =ae e):
 w.cell? ⟨g,k*4,af⟩=ae (.int .i64 e.k)/\w.cell? ⟨g,k*4+1,af⟩=ae (.int .i64 e.p)/\w.cell? ⟨g,k*4+2,af⟩=ae (.int .i64 e.t)/\w.cell? ⟨g,k*4+3,af⟩=ae (.string e.s):=by
 have hc:=h.cells (g:=g) rfl;have key:∀j u,j<4->e.cs[j]? =ae u->w.cell? ⟨g,k*4+j,af⟩=ae u:=fun j u hj hu=>by
  have:=hc (k*4+j) u<|(adQ es k e j hk hj).trans hu;rw[aCo]at this;simpa using this
 exact⟨key 0 _ (by omega) rfl,key 1 _ (by omega) rfl,key 2 _ (by omega) rfl,key 3 _ (by omega) rfl⟩
def UI(h:w.ownsRow B 55 4 v es.length (oh es)):
 (v=.slice af 0 0/\es=[])\/∃g cap,v=.slice (ae ⟨g,0,af⟩) es.length cap/\es.length<=cap/\cap<=dH/\B<=g/\g<w.heap.size:=by
 rcases h.2 with⟨hv,h0⟩|⟨g,cap,cur,hv,hb,hg,h1,h2,_⟩
 ·exact .inl ⟨hv,YD h0⟩
 ·exact .inr ⟨g,cap,hv,h1,h2,hb,aS hg⟩
def aA.blocked(s:aA)(e:gm):Bool:=decide (e.k=1)&&s.isOpen e.p e.t
def aA.bZ(s:aA):Nat:=s.es.findIdx s.blocked
def aA.Wf(s:aA):Prop:=∀e∈s.es,(Lit.int .i64 e.p).wf=true/\(Lit.int .i64 e.t).wf=true
def adR{α:Type}(p:α->Bool):∀(l:List α) (k:Nat) (e:α),(∀j x,j<k->l[j]? =ae x->p x=false)->l[k]? =ae e->p e=true->l.findIdx p=k
 |[],k,e,_,h,_=>by simp at h
 |x::r,0,e,_,h,hp=>by
  simp only[xA,fJ]at h;subst h;simp[UD,hp]
 |x::r,k+1,e,ha,h,hp=>by
  have h0:=ha 0 x (by omega) (by simp);have:=adR p r k e (fun j y hj hy=>ha (j+1) y (by omega)<|by simpa using hy) (by simpa using h) hp;simp[UD,h0,this]
def alq{α:Type}(p:α->Bool)(l:List α)(ha:∀(j:Nat) x,l[j]? =ae x->p x=false):l.findIdx p=l.length:=by
 apply List.findIdx_eq_length.2;intro x hx;obtain⟨j,hj,rfl⟩:=List.getElem_of_mem hx;exact ha j _<|dR hj
def adS{lb bm:Nat}{s:aA}(h:dK w B lb bm v n s)(sU:s.Wf):
 aK prog 59 #[.pointer<|ae ⟨lb,0,af⟩] w fun e w'=>e=.returned (.int .i64 s.bZ)/\Fr aH w w':=by
 have c0:w.cell? ⟨lb,0,af⟩=ae v:=by rw[aG h.blk];rfl
 have aB:=h.lt;rcases UI h.row with⟨rfl,he⟩|⟨g,cap,rfl,OX,Ai,hBg,hg⟩
 ·have hs:s.bZ=0:=by simp[aA.bZ,he]
  rw[hs];clear h sU hs he;go_enter func59,ntmps59
  go_wp2_with fail
  go_loopw [10] (fun i w'=>i=.int .i64 0/\w'=w) (fun _ _=>0)
  case atStart=>exact⟨rfl,rfl⟩
  case round=>
   obtain⟨rfl,rfl⟩:=hrel
   go_wp2
   go_ret
   exact⟨rfl,Fr.refl _ _⟩
 ·unfold dH at Ai;have H:Hid (dK w B lb bm (.slice (ae ⟨g,0,af⟩) s.es.length cap) n s):=h;have HW:Hid s.Wf:=sU;clear h sU;go_enter func59,ntmps59
  go_wp2_with fail
  go_loopw [10] (fun i w'=>∃k:Nat,k<=s.es.length/\i=.int .i64 k/\Fr aH w w'/\∀j x,j<k->s.es[j]? =ae x->s.blocked x=false) (fun i _=>s.es.length-(dX i).toNat)
  case atStart=>exact⟨0,lK _,rfl,Fr.refl _ _,fun j x hj=>by omega⟩
  case round=>
   obtain⟨k,hk,rfl,dA,ji⟩:=hrel
   have HL:Hid (dK wr B lb bm (.slice (ae ⟨g,0,af⟩) s.es.length cap) n s):=dA.logAt H.out id id fun _ _=>id
   have k0:wr.cell? ⟨lb,0,af⟩=ae (.slice (ae ⟨g,0,af⟩) s.es.length cap):=by rw[aG HL.out.blk];rfl
   have dS:=dA.size
   have HF:Hid (Fr aH w wr):=dA
   have HA:Hid (∀j x,j<k->s.es[j]? =ae x->s.blocked x=false):=ji
   clear dA ji
   by_cases nU:k<s.es.length
   ·obtain⟨e,he⟩:∃e,s.es[k]? =ae e:=⟨_,dR nU⟩
    obtain⟨r0,r1,r2,r3⟩:=YT HL.out.row he
    have DI:Hid ((Lit.int .i64 e.p).wf=true):=(HW.out e<|fD he).1
    have HE:Hid (s.es[k]? =ae e):=he
    have zn:∀o:Obj,(wr.alloc o).heap.size=wr.heap.size+1:=fun o=>by simp
    clear he
    by_cases h1:e.k=1
    ·by_cases ho:s.isOpen e.p e.t=true
     ·have HS:Hid (s.bZ=k):=adR _ _ k e HA.out HE.out (by simp[aA.blocked,h1,ho])
      go_wp2_with (go_at_call 122;refine(FC (by exact(aZ _).logAt HL.out id id fun _ _=>id) _ _ DI.out).mono ?_;rintro e w' ⟨rfl,rfl⟩)
      go_ret
      exact⟨by rw[HS.out]<;>rfl,HF.out.alloc _⟩
     ·have hb:s.blocked e=false:=by simp[aA.blocked,ho]
      have sS:s.isOpen e.p e.t=false:=by simpa using ho
      have Jl:Hid (∀j x,j<k+1->s.es[j]? =ae x->s.blocked x=false):=fun j x hj hx=>by
       by_cases ej:j=k
       ·subst ej;have:=HE.out.symm.trans hx;cases this;exact hb
       ·exact HA.out j x (by omega) hx
      clear hb ho
      go_wp2_with (go_at_call 122;refine(FC (by exact(aZ _).logAt HL.out id id fun _ _=>id) _ _ DI.out).mono ?_;rintro e w' ⟨rfl,rfl⟩)
      go_roundw
      case rel=>exact⟨k+1,by omega,by go_num,HF.out.alloc _,Jl.out⟩
      case measure=>simp[dX]<;>omega
    ·have hb:s.blocked e=false:=by simp[aA.blocked,h1]
     have DJ:(e.k==1)=false:=by simpa using h1
     have Jl:Hid (∀j x,j<k+1->s.es[j]? =ae x->s.blocked x=false):=fun j x hj hx=>by
      by_cases ej:j=k
      ·subst ej;have:=HE.out.symm.trans hx;cases this;exact hb
      ·exact HA.out j x (by omega) hx
     clear hb
     go_wp2
     go_roundw
     case rel=>exact⟨k+1,by omega,by go_num,HF.out.alloc _,Jl.out⟩
     case measure=>simp[dX]<;>omega
   ·have HS:Hid (s.bZ=s.es.length):=alq _ _ (fun j x hx=>HA.out j x (by have:=(dD.1 hx).1;omega) hx)
    go_wp2
    go_ret
    exact⟨by rw[HS.out]<;>rfl,HF.out⟩
end
section
def alr(l:List gm):∀u∈oh l,u.oneCell'=true:=by
 intro u hu;simp only[oh,YJ]at hu;obtain⟨e,_,he⟩:=hu;simp only[gm.cs,jC,oN,oO]at he;rcases he with rfl|rfl|rfl|rfl<;>rfl
variable{w:ah}{B:Nat}{v:aj}
def als{es:List gm}(h:w.ownsRow B 55 4 v es.length (oh es))(hb:es.length*40<=140737488355328):
 aK prog 110 #[v] w fun e w'=>∃v',e=.returned v'/\w'.ownsRow w.heap.size 55 4 v' es.length (oh es)/\Fr aH w w':=by
 obtain⟨i0,dF,gG,fO,iH⟩:=aCf YR;have ajB:∀(wx:ah) (a:Option Addr) (n c:Nat),(binOp .eql 49 (.slice a n c)<|.slice af 0 0).run prog wx=.ok (.bool a.isNone) wx:=fun wx a n c=>Lib.run_eql_slice_nil wx 49 55 a n c 0 0 underlying49;rcases UI h with⟨rfl,he⟩|⟨g,cap,rfl,OX,Ai,hBg,hg⟩
 ·subst he;clear h hb;go_enter func110,ntmps110
  go_wp2
  go_ret;exact⟨_,rfl,aCb _ _ _ _,Fr.refl _ _⟩
 ·have H:Hid (w.ownsRow B 55 4 (.slice (ae ⟨g,0,af⟩) es.length cap) es.length<|oh es):=h;have HB:Hid (es.length*40<=140737488355328):=hb;have HM:Hid (es.length<=dH):=dP OX Ai;clear h hb Ai;go_enter func110,ntmps110
  go_wp2_with (at_builtin;refine wpList_append_own_at _ rfl _ _ 49 rfl w.heap.size 55 i0 _ 4 40 underlying49 dF gG fO iH rfl (by decide) _ 0 [] rfl (by exact World.ownsRow_made w #[] 0 (bV _) (lK _) rfl) ⟨g,0,af⟩ es.length cap (oh es) rfl (by rw[alp,YN]) (by exact(H.out.alloc _).cells rfl) (alr es) (by simpa using HM.out) (by simpa using HB.out) (by simp) ?_;intro v' w1 XI aw8 aAn azk)
  go_ret;simp only[Cm,wI]at XI;exact⟨_,rfl,XI,(aZ _).grown aw8 (fun k e=>by cases e;exact .inr<|bV _)⟩
def adT{lb bm n:Nat}{s:aA}(h:dK w B lb bm v n s)(hb:s.es.length*40<=140737488355328):
 aK prog 51 #[.pointer<|ae ⟨lb,0,af⟩] w fun e w'=>∃v',e=.returned v'/\w'.ownsRow w.heap.size 55 4 v' s.es.length (oh s.es)/\Fr aH w w':=by
 have c0:w.cell? ⟨lb,0,af⟩=ae v:=by rw[aG h.blk];rfl
 have H:Hid (dK w B lb bm v n s):=h;have HB:Hid (s.es.length*40<=140737488355328):=hb;clear h hb;go_enter func51,ntmps51
 go_wp2_with (go_at_call 110;refine(als H.out.row HB.out).mono ?_;rintro e w1 ⟨v',rfl,Jm,bg⟩)
 go_ret;exact⟨_,rfl,Jm,bg⟩
end
def nH(es:List gm)(p t:Int):Option Int:=es.foldl (fun o e=>if e.k≠1/\e.p=p/\e.t=t then ae e.k else o) af
def PO(es:List gm)(x:gm)(p t:Int):nH (es++[x]) p t=if x.k≠1/\x.p=p/\x.t=t then ae x.k else nH es p t:=by
 simp[nH,UC]
def rQ(es:List gm):aj->Option aj
 | .agg cs=>match cs.toList with
   |[.int .i64 p,.int .i64 t]=>(nH es p t).map<|Value.int .i64
   |_=>af
 |_=>af
def adU(es:List gm)(p t:Int):rQ es (.agg #[.int .i64 p,.int .i64 t])=(nH es p t).map (Value.int .i64):=rfl
def alu(es:List gm)(x:gm)(h:x.k=1):rQ (es++[x])=rQ es:=by
 funext v;unfold rQ;split
 ·split
  ·rw[PO,if_neg<|by simp[h]]
  ·rfl
 ·rfl
def alv(es:List gm)(x:gm)(h:x.k≠1):rQ (es++[x]) (.agg #[.int .i64 x.p,.int .i64 x.t])=ae (.int .i64 x.k):=by
 rw[adU,PO,if_pos ⟨h,rfl,rfl⟩];rfl
def alx(es:List gm)(x:gm)(v:aj)(hv:v≠.agg #[.int .i64 x.p,.int .i64 x.t]):rQ (es++[x]) v=rQ es v:=by
 unfold rQ;split
 ·split
  ·rename_i cs _ p t hcs;rw[PO,if_neg];rintro⟨_,rfl,rfl⟩;exact hv<|by rw[show cs=#[.int .i64 x.p,.int .i64 x.t]from by rw[<-Array.toList_inj,hcs]]
  ·rfl
 ·rfl
def laidOut:laidOutB prog=true:=by kernel_rfl
def aly:(231:bW)<prog.types.size:=YH<|by kernel_rfl
def alz:prog.types.size=282:=by kernel_rfl
def YU:prog.cellsOf 3=1:=by kernel_rfl
def adV:prog.cellsOf 231=2:=by kernel_rfl
def alA:(match prog.underlying 231 with|some (.array _ _)|some (.struct _)=>true|_=>false)=true:=by rw[underlying231]
def alB:prog.keyTypeAt 3 231=true:=by kernel_rfl
def adW:Keyed prog 231:=Keyed.of_law<|deep_law_laid (P:=prog) laidOut (m:=3) (by decide) (k:=231) aly alB alA
def alC(w:ah):(zeroValue 3).run prog w=.ok (.int .i64 0) w:=by kernel_rfl
def alD:prog.keyType 231=true:=by kernel_rfl
def alE(d:Nat){p t:Int}(hp:(Lit.int .i64 p).wf=true)(ht:(Lit.int .i64 t).wf=true):prog.keyLits (d+2) 231 [.int .i64 p,.int .i64 t]=ae [.int .i64 p,.int .i64 t]:=by
 simp[Program.keyLits,underlying231,YU,adV,underlying3,hp,ht]
def adX{p t:Int}(hp:(Lit.int .i64 p).wf=true)(ht:(Lit.int .i64 t).wf=true):∃kl,keyOf prog 231 (.agg #[.int .i64 p,.int .i64 t])=ae kl:=by
 have hf:(Value.agg #[.int .i64 p,.int .i64 t]).formed prog 231=true:=by
  simp[Value.formed,underlying231,adV]
 have hl:=alE 281 hp ht;unfold keyOf;rw[underlying231,alD,hf,alz];exact⟨_,by
  simp only[Bool.and_self,if_true];rw[show(Value.agg #[.int .i64 p,.int .i64 t]).cells.toList=[.int .i64 p,.int .i64 t]from rfl,hl];rfl⟩
def alF{w:ah}{B lb bm n:Nat}{v:aj}{s:aA}(h:dK w B lb bm v n s)(sU:s.Wf):
 aK prog 174 #[.pointer<|ae ⟨lb,0,af⟩] w fun e w'=>e=.returned (.map<|ae w.heap.size)/\iV w' prog 231 w.heap.size s.es.length (rQ s.es)/\Fr aH w w':=by
 have c0:w.cell? ⟨lb,0,af⟩=ae v:=by rw[aG h.blk];rfl
 have aB:=h.lt;have XH:=@run_makeMap prog;have nb:=aDt w ⟨lb,0,af⟩ c0;have HM0:Hid (iV (w.alloc<|.map #[] 0) prog 231 w.heap.size 0<|rQ []):=(iV.made w prog 231).congr (fun key kl _=>by
  unfold rQ;split
  ·split<;>rfl
  ·rfl)
 rcases UI h.row with⟨rfl,he⟩|⟨g,cap,rfl,OX,Ai,hBg,hg⟩
 ·rw[he];clear h sU he;go_enter func174,ntmps174
  go_wp2_with fail
  go_loopw [12] (fun i w'=>i=.int .i64 0/\w'=w.alloc (.map #[] 0)) (fun _ _=>0)
  case atStart=>exact⟨rfl,rfl⟩
  case round=>
   obtain⟨rfl,rfl⟩:=hrel
   go_wp2
   go_ret
   exact⟨rfl,HM0.out,aZ _⟩
 ·have HC:Hid (cap<=dH):=Ai;unfold dH at Ai;have H:Hid (dK w B lb bm (.slice (ae ⟨g,0,af⟩) s.es.length cap) n s):=h;have HW:Hid s.Wf:=sU;clear h sU;go_enter func174,ntmps174
  go_wp2_with fail
  go_loopw [12] (fun i w'=>∃k:Nat,k<=s.es.length/\i=.int .i64 k/\Fr aH w w'/\iV w' prog 231 w.heap.size k (rQ<|s.es.take k)) (fun i _=>s.es.length-(dX i).toNat)
  case atStart=>exact⟨0,lK _,rfl,aZ _,by simpa using HM0.out⟩
  case round=>
   obtain⟨k,hk,rfl,dA,SS⟩:=hrel
   have HL:Hid (dK wr B lb bm (.slice (ae ⟨g,0,af⟩) s.es.length cap) n s):=dA.logAt H.out id id fun _ _=>id
   have k0:wr.cell? ⟨lb,0,af⟩=ae (.slice (ae ⟨g,0,af⟩) s.es.length cap):=by rw[aG HL.out.blk];rfl
   have dS:=dA.size
   have HF:Hid (Fr aH w wr):=dA
   have HM:Hid (iV wr prog 231 w.heap.size k<|rQ<|s.es.take k):=SS
   clear dA SS
   by_cases nU:k<s.es.length
   ·obtain⟨e,he⟩:∃e,s.es[k]? =ae e:=⟨_,dR nU⟩
    obtain⟨r0,r1,r2,r3⟩:=YT HL.out.row he
    have HT:Hid (s.es.take (k+1)=s.es.take k++[e]):=by
     show s.es.take (k+1)=s.es.take k++[e];rw[zK,he];rfl
    obtain⟨kl,mM⟩:=adX (HW.out e<|fD he).1 (HW.out e<|fD he).2
    have HK:Hid (keyOf prog 231 (.agg #[.int .i64 e.p,.int .i64 e.t])=ae kl):=mM
    clear he mM
    by_cases h1:e.k=1
    ·have HM2:Hid (iV wr prog 231 w.heap.size (k+1)<|rQ<|s.es.take<|k+1):=by
      show iV wr prog 231 w.heap.size (k+1) (rQ<|s.es.take<|k+1);rw[HT.out,alu _ _ h1];exact HM.out.mono<|by omega
     go_wp2
     go_roundw
     case rel=>exact⟨k+1,by omega,by go_num,HF.out.alloc _,(aZ _).zM HM2.out id⟩
     case measure=>simp[dX]<;>omega
    ·have DJ:(e.k==1)=false:=by simpa using h1
     have HN:Hid (k<dH):=dY nU<|dP OX HC.out
     go_wp2_with (at_mapUpdate;refine PM _ rfl _ _ _ 228 rfl 231 3 adW underlying228 w.heap.size k (rQ<|s.es.take k) rfl (by exact(aZ _).zM HM.out id) HN.out _ _ kl rfl rfl HK.out (rQ<|s.es.take k++[e]) (alv _ _ h1) (alx _ _) ?_;intro w2 DK LC)
     go_roundw
     case rel=>exact⟨k+1,by omega,by go_num,(HF.out.alloc _).JO LC<|.inr<|bV _,by rw[HT.out];exact DK⟩
     case measure=>simp[dX]<;>omega
   ·have HT:Hid (s.es.take k=s.es):=D8 (by omega)
    have HK:Hid (k=s.es.length):=by show k=s.es.length;omega
    go_wp2
    go_ret
    exact⟨rfl,by have:=HM.out;rw[HT.out,HK.out]at this;exact this,HF.out⟩
section
structure Rec where
 o:Int
 p:Int
 s:ByteArray
def Rec.cs(e:Rec):List Value:=[.int .i64 e.o,.int .i64 e.p,.string e.s]
def qi(l:List Rec):List Value:=l.flatMap Rec.cs
def alH(l:List Rec)(x:Rec):qi (l++[x])=qi l++x.cs:=by simp[qi]
def alI:(prog.info? 94).map (fun i=>(i.zero,i.size,i.bytes))=ae (ae<|.agg #[.int .i64 0,.int .i64 0,.string ⟨#[]⟩],3,32):=by kernel_rfl
def aA.CB(s:aA)(e:gm):Bool:=decide (e.k=1)&&decide (nH s.es e.p e.t=ae 2)
def aA.pick(s:aA)(i:Nat):List Rec:=
 match s.es[i]? with
 |some e=>if s.CB e then[⟨i,e.p,e.s⟩]else[]
 |none=>[]
def aA.aU(s:aA)(a b:Nat):List Rec:=(List.range' a<|b-a).flatMap s.pick
def aA.adZ(s:aA)(a:Nat):s.aU a a=[]:=by simp[aA.aU]
variable{a k n B:Nat}{w:ah}{e:gm}{v:aj}{rs:List Rec}{s:aA}
def aA.FH(s:aA)(h:a<=k):s.aU a (k+1)=s.aU a k++s.pick k:=by
 unfold aA.aU;rw[show k+1-a=(k-a)+1 by omega,List.range'_concat,Fq];simp[show a+(k-a)=k by omega]
def aA.ad1(s:aA)(a:Nat):∀k,a<=k->(s.aU a k).length<=k-a
 |0,h=>by
  have:a=0:=by omega
  subst this;simp[aA.aU]
 |k+1,h=>by
  by_cases e:a=k+1
  ·subst e;simp[aA.aU]
  ·rw[s.FH<|by omega,iQ];have:=aA.ad1 s a k (by omega);have h2:(s.pick k).length<=1:=by
    unfold aA.pick;split
    ·split<;>simp
    ·simp
   omega
def aA.start(f:Int):Nat:=(max f 0).toNat
def aA.AV(s:aA)(f m:Int):List Rec:=(s.aU (aA.start f) s.bZ).take m.toNat
def iV.JP{P:dO}{k:bW}{b:Nat}{f:aj->Option aj}(h:iV w P k b n f){e:bW}{size:Nat}{m:Nat}{xs:List aj}(ho:w.ownsRow B e size v m xs):v.ownBlock≠ae b:=by
 intro ev;obtain⟨D,⟨es,clock,hb,_⟩,_⟩:=h;rcases ho.2 with⟨rfl,_⟩|⟨g,cap,cur,rfl,_,hg,_⟩
 ·simp[Value.ownBlock]at ev
 ·simp[Value.ownBlock]at ev;rw[<-ev,hg]at hb;cases hb
def ad2(h:w.ownsRow B 94 3 v rs.length (qi rs)):
 (v=.slice af 0 0/\rs=[])\/∃g cap,v=.slice (ae ⟨g,0,af⟩) rs.length cap/\rs.length<=cap/\cap<=dH/\B<=g/\g<w.heap.size:=by
 rcases h.2 with⟨hv,h0⟩|⟨g,cap,cur,hv,hb,hg,h1,h2,_⟩
 ·exact .inl ⟨hv,YD h0⟩
 ·exact .inr ⟨g,cap,hv,h1,h2,hb,aS hg⟩
def YV(h:w.ownsRow B 94 3 v rs.length (qi rs)):∃a cap,v=.slice a rs.length cap:=by
 rcases ad2 h with⟨rfl,rfl⟩|⟨g,cap,rfl,_⟩
 ·exact⟨af,0,rfl⟩
 ·exact⟨_,_,rfl⟩
def aA.Nc(s:aA):s.bZ<=s.es.length:=List.findIdx_le_length
def aA.YW(s:aA)(h:a<=k):∀d,∃t,s.aU a (k+d)=s.aU a k++t
 |0=>⟨[],by simp⟩
 |d+1=>by
  obtain⟨t,ht⟩:=aA.YW s h d;exact⟨t++s.pick (k+d),by rw[<-yL,s.FH<|by omega,ht,Cj]⟩
def aA.ad3(s:aA){f m:Int}(h1:aA.start f<=k)(h2:k<=aA.start f\/k<=s.bZ)(h3:((s.aU (aA.start f) k).length:Int)<=max m 0)(h4:s.bZ<=k\/m<=(s.aU (aA.start f) k).length):
 s.AV f m=s.aU (aA.start f) k:=by
 unfold aA.AV;generalize aA.start f=a at*
 have YX:s.bZ<=k->s.aU a s.bZ=s.aU a k:=by
  intro h;rcases h2 with h2|h2
  ·have:k=a:=by omega
   subst this;simp only[aA.aU];rw[show s.bZ-k=0 by omega,Nat.sub_self]
  ·rw[show s.bZ=k by omega]
 by_cases hk:s.bZ<=k
 ·rw[YX hk];exact D8<|by omega
 ·obtain⟨t,ht⟩:=s.YW h1<|s.bZ-k;rw[show k+(s.bZ-k)=s.bZ by omega]at ht;rw[ht];have:m.toNat=(s.aU a k).length:=by omega
  rw[this];exact List.take_left
def aA.alJ(he:s.es[k]? =ae e)(h1:e.k=1)(h2:(nH s.es e.p e.t).getD 0=2):s.pick k=[⟨k,e.p,e.s⟩]:=by
 have:nH s.es e.p e.t=ae 2:=by
  cases hq:nH s.es e.p e.t with
  |none=>rw[hq]at h2;simp at h2
  |some q=>rw[hq]at h2;simp at h2;rw[h2]
 simp[aA.pick,he,aA.CB,h1,this]
def aA.ad4(he:s.es[k]? =ae e)(h2:e.k≠1\/(nH s.es e.p e.t).getD 0≠2):s.pick k=[]:=by
 have:s.CB e=false:=by
  simp only[aA.CB,Bool.and_eq_false_iff,decide_eq_false_iff_not];rcases h2 with h2|h2
  ·exact .inl h2
  ·exact .inr fun e2=>h2 (by rw[e2];rfl)
 simp[aA.pick,he,this]
def ad5(w:ah)(o o':Obj):((w.alloc o).alloc o').heap[w.heap.size+1]? =ae o':=PN w o o'
def alK(s:aA)(w:ah)(f m:Int)(r i:aj)(w':ah):Prop:=
 ∃k:Nat,aA.start f<=k/\i=.int .i64 k/\(k<=aA.start f\/k<=s.bZ)/\Fr aH w w'/\
  w'.ownsRow w.heap.size 94 3 r (s.aU (aA.start f) k).length (qi<|s.aU (aA.start f) k)/\
  iV w' prog 231 w.heap.size s.es.length (rQ s.es)/\((s.aU (aA.start f) k).length:Int)<=max m 0
def alL{lb bm:Nat}(h:dK w B lb bm v n s)(sU:s.Wf)(hb:s.es.length*40<=140737488355328)(f m:Int):
 aK prog 121 #[.pointer<|ae ⟨lb,0,af⟩,.int .i64 f,.int .i64 m] w fun e w'=>∃v',e=.returned v'/\w'.ownsRow w.heap.size 94 3 v' (s.AV f m).length (qi<|s.AV f m)/\Fr aH w w':=by
 obtain⟨i0,dF,gG,fO,iH⟩:=aCf alI;have H:Hid (dK w B lb bm v n s):=h;have HW:Hid s.Wf:=sU;have HB:Hid (s.es.length*40<=140737488355328):=hb;have HS:Hid (s.bZ<=s.es.length):=s.Nc;have hlw:=h.lt;clear h sU hb;go_enter func121,ntmps121
 go_wp2_with (first
  |(go_at_call 174;refine(alF H.out HW.out).mono ?_;rintro e w1 ⟨rfl,qy,bg⟩;have HM1:Hid (iV w1 prog 231 w.heap.size s.es.length<|rQ s.es):=qy;have JR:Hid (Fr aH w w1):=bg;clear qy bg)
  |(go_at_call 59;refine(adS (by exact JR.out.logAt H.out id id fun _ _=>id) HW.out).mono ?_;rintro e w2 ⟨rfl,jB⟩;have HF2:Hid (Fr aH w1 w2):=jB;clear jB))
 all_goals
  go_loopw [9,10] (fun r i w'=>alK s w f m r i w') (fun _ i _=>s.bZ-(dX i).toNat)
  case atStart=>exact⟨aA.start f,bV _,by simp[aA.start]<;>omega,.inl<|bV _,JR.out.trans HF2.out fun _ h=>h.elim,by rw[s.adZ];exact aCb _ _ _ _,HF2.out.zM HM1.out id,by rw[s.adZ];simp<;>omega⟩
  case round=>
   obtain⟨k,aI,rfl,jU,dA,iy,SS,hlen⟩:=hrel
   obtain⟨ra,YY,rfl⟩:=YV iy
   have HO:Hid (wr.ownsRow w.heap.size 94 3 (.slice ra (s.aU (aA.start f) k).length YY) (s.aU (aA.start f) k).length<|qi<|s.aU (aA.start f) k):=iy
   have HF:Hid (Fr aH w wr):=dA
   have HM:Hid (iV wr prog 231 w.heap.size s.es.length<|rQ s.es):=SS
   have HL:Hid (dK wr B lb bm v n s):=dA.logAt H.out id id fun _ _=>id
   have HN:Hid (((s.aU (aA.start f) k).length:Int)<=max m 0):=hlen
   have HG:Hid ((s.aU (aA.start f) k).length<=k-aA.start f):=s.ad1 _ _ aI
   have dS:=dA.size
   have k0:wr.cell? ⟨lb,0,af⟩=ae v:=by rw[aG HL.out.blk];rfl
   clear iy dA SS hlen
   by_cases bU:k<s.bZ
   ·by_cases DK:((s.aU (aA.start f) k).length:Int)<m
    ·have wu:k<s.es.length:=dY bU HS.out
     obtain⟨e,he⟩:∃e,s.es[k]? =ae e:=⟨_,dR wu⟩
     rcases UI HL.out.row with⟨_,h0⟩|⟨g,cap,rfl,OX,Ai,hBg,hg⟩
     ·rw[h0]at wu;simp at wu
     ·unfold dH at Ai
      obtain⟨r0,r1,r2,r3⟩:=YT HL.out.row he
      obtain⟨kl,mM⟩:=adX (HW.out e<|fD he).1 (HW.out e<|fD he).2
      have uo:∀o,(Instr.lookup 228 (.map<|ae w.heap.size) (.agg #[.int .i64 e.p,.int .i64 e.t]) false).run prog (wr.alloc o)=.ok (.int .i64<|(nH s.es e.p e.t).getD 0) (wr.alloc o):=fun o=>by
       have:=((aZ o).zM HM.out id).look adW underlying228 (alC _) mM;rw[adU]at this;rw[this];cases nH s.es e.p e.t<;>rfl
      have HE:Hid (s.es[k]? =ae e):=he
      clear he mM
      by_cases h1:e.k=1
      ·by_cases h2:(nH s.es e.p e.t).getD 0=2
       ·have HP:Hid (s.aU (aA.start f) (k+1)=s.aU (aA.start f) k++[⟨k,e.p,e.s⟩]):=by
         show s.aU (aA.start f) (k+1)=s.aU (aA.start f) k++[⟨k,e.p,e.s⟩];rw[s.FH aI,aA.alJ HE.out h1 h2]
        rw[h2]at uo
        have HK:Hid (k<s.es.length):=wu
        clear h2
        go_wp2_with (at_builtin;refine aCv _ rfl _ _ 67 rfl w.heap.size 94 i0 _ 3 32 underlying67 dF gG fO iH rfl (by decide) _ (s.aU (aA.start f) k).length (qi<|s.aU (aA.start f) k) rfl (by exact(HO.out.alloc _).alloc _) ⟨wr.heap.size+1,0,af⟩ 1 1 [.int .i64 k,.int .i64 e.p,.string e.s] rfl rfl (aB9 (cs:=#[.int .i64 k,.int .i64 e.p,.string e.s]) (t:=94) (fr:=(0,0))<|ad5 _ _ _) (by simp[Value.oneCell']) (by decide) (by have:=HG.out;have:=HB.out;have:=HK.out;simp only[dH];omega) (by have:=HG.out;have:=HB.out;have:=HK.out;omega) (by simp<;>omega) (wr.heap.size+2) (by simp) ?_;intro gg Nh w3 o9 lV uF uT)
        go_roundw
        case rel=>
         have BK:Fr (fun x=>Value.ownBlock (.slice ra (s.aU (aA.start f) k).length YY)=ae x) wr w3:=(((Fr.refl _ _).alloc _).alloc _).grown lV fun x ex=>.inl ex
         refine⟨k+1,by omega,by go_num,.inr<|by omega,HF.out.trans BK fun x hx=>.inr (HO.out.lt x hx).1,?_,BK.zM HM.out<|HM.out.JP HO.out,?_⟩
         ·rw[HP.out,alH];simpa[Rec.cs]using o9
         ·rw[HP.out];simp<;>omega
        case measure=>simp[dX]<;>omega
       ·have OY:((nH s.es e.p e.t).getD 0==2)=false:=by simpa using h2
        have HP:Hid (s.aU (aA.start f) (k+1)=s.aU (aA.start f) k):=by
         show s.aU (aA.start f) (k+1)=s.aU (aA.start f) k;rw[s.FH aI,aA.ad4 HE.out<|.inr h2,qh]
        clear h2
        generalize(nH s.es e.p e.t).getD 0=q at uo OY
        go_wp2
        go_roundw
        case rel=>exact⟨k+1,by omega,by go_num,.inr<|by omega,HF.out.alloc _,by rw[HP.out];exact HO.out.alloc _,(aZ _).zM HM.out id,by rw[HP.out];exact HN.out⟩
        case measure=>simp[dX]<;>omega
      ·have DJ:(e.k==1)=false:=by simpa using h1
       have HP:Hid (s.aU (aA.start f) (k+1)=s.aU (aA.start f) k):=by
        show s.aU (aA.start f) (k+1)=s.aU (aA.start f) k;rw[s.FH aI,aA.ad4 HE.out<|.inl h1,qh]
       clear uo
       go_wp2
       go_roundw
       case rel=>exact⟨k+1,by omega,by go_num,.inr<|by omega,HF.out.alloc _,by rw[HP.out];exact HO.out.alloc _,(aZ _).zM HM.out id,by rw[HP.out];exact HN.out⟩
       case measure=>simp[dX]<;>omega
    ·have HD:Hid (s.AV f m=s.aU (aA.start f) k):=s.ad3 aI jU HN.out (.inr<|by omega)
     go_wp2
     go_ret
     exact⟨_,rfl,by rw[HD.out];exact HO.out,HF.out⟩
   ·have HD:Hid (s.AV f m=s.aU (aA.start f) k):=s.ad3 aI jU HN.out (.inl<|by omega)
    go_wp2
    go_ret
    exact⟨_,rfl,by rw[HD.out];exact HO.out,HF.out⟩
end
end Go.Proofs.YtkelpcjiediamaaGreat
