import Derived.Test.YtkelpcjiediamaaGreatQf10
import Derived.Deep.RegionLaw
set_option maxRecDepth 100000
set_option maxHeartbeats 0
set_option linter.all false
namespace Go.Proofs.YtkelpcjiediamaaGreat
def aFk:=@Go.World.news_of_block
def aFq:=@Go.info_parts
def aFA:=@Go.Addr.add_lit
def aFE:=@Go.wpList_append_lies
def aFH:=@Go.step_append_lies
open Go renaming Calls→aW,Program→fJ,TypeId→dJ,Value→aA,World→ay,maxLen→eP
open Go.Ending renaming returned→aV
open Go.IntKind renaming i64→ah
open Go.Obj renaming cells→aG
open Go.RowKit renaming Hid→aj,intOf→eU
open Go.Value renaming agg→iF,bool→aF,int→ag,ownBlock→bY,pointer→az,slice→aN,string→dK,tuple→dU
open Go.World renaming alloc→bz,cell?→aB,ownsRow→bD,setCell→aX
open Option renaming none→af,some→ae
open Go.Proofs.Tryz
open Go.RowKit Go.Maps
section
attribute [local go_sem ↓] Go.wp_at_zero Go.wp_at_succ
def aaQ:(prog.info? 55).map (fun i=>(i.zero,i.size,i.bytes))=ae (ae<|iF #[ag ah 0,ag ah 0,ag ah 0,dK ⟨#[]⟩],4,40):=by kernel_rfl
def aJ.put(s:aJ)(x:iG):aJ:={s with es:=s.es++[x]}
def RP(w:ay)(o o':Obj):((bz w o).alloc o').drew.heap[w.heap.size+1]? =ae o':=by
 have:=aFb (bz w o) o';rw[show(bz w o).heap.size=w.heap.size+1 by simp]at this;exact this
variable{w:ay}{B lb bm n:Nat}{v:aA}{s:aJ}
def LI{a:Addr}(h:a.block<w.heap.size)(o:Obj):(bz w o).frozen? a=w.frozen? a:=World.frozen?_of_block (w:=w)<|aFe w o a.block h
def afU(l:List iG)(x:iG):pG (l++[x])=pG l++x.cs:=by simp[pG]
def fA.anO{W w1:ay}{v':aA}{x:iG}(h:fA w B lb bm v n s)(hW:Fr aS w W)(hg:W.grownBy w1 v.ownBlock)
 (jf:bD w1 B 55 4 v' (s.es.length+1) (pG s.es++x.cs))(fC:∀k,bY v'=ae k->bY v=ae k\/w.heap.size<=k):
 fA (aX w1 ⟨lb,0,af⟩ v') B lb bm v' n (s.put x)/\Fr (fun k=>k=lb\/bY v=ae k) w (aX w1 ⟨lb,0,af⟩ v'):=by
 have f1:Fr (fun k=>bY v=ae k) w w1:=(hW.z dw).grown hg fun k e=>.inl e;have f2:Fr (fun k=>k=lb\/bY v=ae k) w (aX w1 ⟨lb,0,af⟩ v'):=(f1.z fun k h=>.inl<|.inr h).setCell (.inl<|.inl rfl) _;have b1:w1.heap[lb]? =ae (aG #[v,ag ah s.d,.map<|ae bm] 163 (0,0)):=(f1.block lb h.lt h.LH).t h.blk;refine⟨⟨?_,?_,?_,h.hl,h.hm⟩,f2⟩
 ·rw[kU b1];rfl
 ·have hr:Fr (fun k=>k=lb) w1 (aX w1 ⟨lb,0,af⟩ v'):=(Fr.refl (fun k=>k=lb) w1).setCell (p:=⟨lb,0,af⟩) (.inl rfl) _;have:=hr.ownsRow jf (fun k hk e=>by
   subst e;rcases fC _ hk with h1|h1
   ·exact h.LH h1
   ·have:=h.lt;omega)
  simpa[aJ.put,afU]using this
 ·exact f2.Bj h.map (fun e=>by
   rcases e with e|e
   ·exact h.ne e.s
   ·exact h.aaP e)
def aaR(h:fA w B lb bm v n s)(x:iG)(hb:(s.es.length+1)*40<=140737488355328):
 aW prog 184 #[az<|ae ⟨lb,0,af⟩,iF #[ag ah x.k,ag ah x.p,ag ah x.t,dK x.s]] w fun e w'=>e=aV (dU #[])/\
  ∃v',fA w' B lb bm v' n (s.put x)/\Fr (fun k=>k=lb\/bY v=ae k) w w'/\(∀k,bY v'=ae k->bY v=ae k\/w.heap.size<=k):=by
 obtain⟨xk,xp,xt,xs⟩:=x
 obtain⟨i0,ed,iI,ig,jg⟩:=aFq aaQ
 have c0:aB w ⟨lb,0,af⟩=ae v:=by rw[aQ h.blk];rfl
 have f0:w.frozen? ⟨lb,0,af⟩=false:=kK h.blk 0
 have aK:=h.lt
 have NS:=h.LH
 have nb:=aGH w ⟨lb,0,af⟩ c0
 have f1:∀o,(bz w o).frozen? ⟨lb,0,af⟩=false:=fun o=>(LI aK o).t f0
 have f2:∀o o',((bz w o).alloc o').frozen? ⟨lb,0,af⟩=false:=fun o o'=>(LI (by simp<;>omega) o').t<|f1 o
 have H:aj (fA w B lb bm v n s):=h
 have HB:aj ((s.es.length+1)*40<=140737488355328):=hb
 clear h hb
 go_enter func184,ntmps184
 go_wp2_with fail
 go_region_law
  ((refine aFH _ (by rfl) _ _ _ (by rfl) B 55 i0 _ 4 40 underlying49 ed iI ig jg rfl (by omega) v s.es.length (pG s.es) (by rfl) (((H.o.row.alloc _).alloc _).drew)
     ⟨w.heap.size+1,0,af⟩ 1 1 [ag ah xk,ag ah xp,ag ah xt,dK xs] (by rfl) (by rfl) (aFk (cs:=#[ag ah xk,ag ah xp,ag ah xt,dK xs]) (t:=55) (fr:=(0,0))<|RP _ _ _) (by simp[Value.oneCell'])
     (by omega) (by have:=HB.o;simp only[eP];omega) HB.o (by have:=H.o.hl;simp<;>omega) (w.heap.size+2) (by simp) ?_;intro gg cap w1 ZI qG fC aK;have k0:=(qG.cell_far ⟨lb,0,af⟩ (by simp<;>omega)<|Ne.s NS);have k1:=(qG.frozen_far ⟨lb,0,af⟩ (by simp<;>omega)<|Ne.s NS);simp only[World.cell?_drew,World.frozen?_drew,f2]at k0 k1))
 all_goals
  go_end0
  obtain⟨r1,r2⟩:=H.o.anO (x:=⟨xk,xp,xt,xs⟩) (((bQ _).alloc _).drew) qG ZI (fun k hk=>by
   simp only[Value.ownBlock,gU]at hk;subst hk;rcases fC with h1|h1
   ·exact .inl h1
   ·exact .inr<|by omega)
  refine⟨rfl,_,r1,r2,fun k hk=>?_⟩
  simp only[Value.ownBlock,gU]at hk
  subst hk
  rcases fC with h1|h1
  ·exact .inl h1
  ·exact .inr<|by omega
end
def aJ.nK(s:aJ)(p t:Int)(x:ByteArray):Int:=
 if s.isOpen p t=false then 11 else if 8<x.size then 4 else if 200<=s.d then 12 else 0
def aJ.lQ(s:aJ)(p t:Int)(x:ByteArray):aJ:=
 if s.nK p t x=0 then{(s.put ⟨1,p,t,x⟩)with d:=s.d+1}else s
def aJ.xh(c:Bool):Int:=if c then 2 else 3
def aJ.closed(s:aJ)(p t:Int)(c:Bool):aJ:=
 if s.isOpen p t then(s.put ⟨aJ.xh c,p,t,⟨#[]⟩⟩).set p t false else s
def fA.anP{w:ay}{B lb bm n d:Nat}{v:aA}{s:aJ}(h:fA w B lb bm v n s):
 fA (aX w ⟨lb,1,af⟩<|.int .i64 d) B lb bm v n {s with d:=d}/\Fr (fun k=>k=lb) w (aX w ⟨lb,1,af⟩<|.int .i64 d):=by
 have hr:Fr (fun k=>k=lb) w (aX w ⟨lb,1,af⟩<|.int .i64 d):=(Fr.refl (fun k=>k=lb) w).setCell (p:=⟨lb,1,af⟩) (.inl rfl) _;refine⟨⟨?_,hr.ownsRow h.row (fun k hk e=>h.LH<|by rw[hk,e]),hr.Bj h.map fun e=>h.ne e.s,h.hl,h.hm⟩,hr⟩;rw[kU h.blk];rfl
structure Left(w w':ay)(B lb bm:Nat)(v v':aA)(n:Nat)(s':aJ):Prop where
 log:fA w' B lb bm v' n s'
 fr:Fr (fun k=>k=lb\/k=bm\/bY v=ae k) w w'
 OX:∀k,bY v'=ae k->bY v=ae k\/w.heap.size<=k
def anQ{w:ay}{B lb bm n:Nat}{v:aA}{s:aJ}(h:fA w B lb bm v n s)(p t:Int)(x:ByteArray)(hp:(Lit.int .i64 p).wf=true)(hx:x.size<=eP)(hb:(s.es.length+1)*40<=140737488355328):
 aW prog 136 #[az<|ae ⟨lb,0,af⟩,ag ah p,ag ah t,.string x] w fun e w'=>e=aV (.int .i64<|s.nK p t x)/\
  ∃v',Left w w' B lb bm v v' n (s.lQ p t x):=by
 unfold eP at hx
 have c1:aB w ⟨lb,1,af⟩=ae (.int .i64 s.d):=by rw[aQ h.blk];rfl
 have H:aj (fA w B lb bm v n s):=h
 have HP:aj ((Lit.int .i64 p).wf=true):=hp
 have HB:aj ((s.es.length+1)*40<=140737488355328):=hb
 clear h hp hb
 by_cases ho:s.isOpen p t=true
 ·by_cases h8:8<x.size
  ·have hc:s.nK p t x=4:=by simp[aJ.nK,ho,h8]
   have hs:s.lQ p t x=s:=by simp[aJ.lQ,hc]
   rw[hc,hs]
   clear hc hs
   go_enter func136,ntmps136
   go_wp2_with (go_at_call 122;refine(Ht H.o _ _ HP.o).z ?_;rintro e w' ⟨rfl,rfl⟩)
   go_ret
   exact⟨rfl,v,H.o,Fr.refl _ _,fun k hk=>.inl hk⟩
  ·by_cases hd:200<=s.d
   ·have hc:s.nK p t x=12:=by simp[aJ.nK,ho,h8,hd]
    have hs:s.lQ p t x=s:=by simp[aJ.lQ,hc]
    rw[hc,hs]
    clear hc hs
    go_enter func136,ntmps136
    go_wp2_with (go_at_call 122;refine(Ht H.o _ _ HP.o).z ?_;rintro e w' ⟨rfl,rfl⟩)
    go_ret
    exact⟨rfl,v,H.o,Fr.refl _ _,fun k hk=>.inl hk⟩
   ·have hc:s.nK p t x=0:=by simp[aJ.nK,ho,h8,hd]
    have hs:s.lQ p t x={(s.put ⟨1,p,t,x⟩)with d:=s.d+1}:=by simp[aJ.lQ,hc]
    rw[hc,hs]
    clear hc hs
    go_enter func136,ntmps136
    go_wp2_with (first
     |(go_at_call 122;refine(Ht H.o _ _ HP.o).z ?_;rintro e w' ⟨rfl,rfl⟩)
     |(go_at_call 184;refine(aaR H.o ⟨1,p,t,x⟩ HB.o).z ?_;rintro e w1 ⟨rfl,v',lH,bU,jP⟩
       have k1:aB w1 ⟨lb,1,af⟩=ae (.int .i64 s.d):=by rw[aQ lH.blk];rfl
       have k2:w1.frozen? ⟨lb,1,af⟩=false:=kK lH.blk 1))
    go_ret
    obtain⟨r1,r2⟩:=lH.anP (d:=s.d+1)
    refine⟨rfl,v',r1,?_,jP⟩
    exact(bU.z fun k hk=>.inl (by rcases hk with e|e;exact .inl e;exact .inr<|.inr e)).t r2 fun k hk=>.inl<|.inl hk
 ·have hc:s.nK p t x=11:=by simp[aJ.nK,ho]
  have hs:s.lQ p t x=s:=by simp[aJ.lQ,hc]
  rw[hc,hs]
  have uO:s.isOpen p t=false:=by simpa using ho
  clear hc hs ho
  go_enter func136,ntmps136
  go_wp2_with (go_at_call 122;refine(Ht H.o _ _ HP.o).z ?_;rintro e w' ⟨rfl,rfl⟩)
  go_ret
  exact⟨rfl,v,H.o,Fr.refl _ _,fun k hk=>.inl hk⟩
section
def anR(l:List iG):(pG l).length=4*l.length:=by
 induction l with
 |nil=>rfl
 |cons x r ih=>simp only[pG,pF,iW]at ih⊢;rw[ih];simp[iG.cs]<;>omega
def afV:∀(l:List iG) (k:Nat) (e:iG) (j:Nat),l[k]? =ae e->j<4->(pG l)[k*4+j]? =e.cs[j]?
 |[],k,e,j,h,_=>by simp at h
 |x::r,0,e,j,h,hj=>by
  simp only[yV,gU]at h;subst h;simp only[pG,pF];rw[vg (by simp[iG.cs]<;>omega)];simp
 |x::r,k+1,e,j,h,hj=>by
  simp only[Bi]at h;have:=afV r k e j h hj;simp only[pG,pF]at this⊢
  rw[yj (by simp[iG.cs]<;>omega),<-this];congr 1;simp[iG.cs]<;>omega
variable{w:ay}{B n:Nat}{es:List iG}{v:aA}
def aaS{g cap:Nat}(h:bD w B 55 4 (aN (ae ⟨g,0,af⟩) n cap) es.length (pG es)){k:Nat}{e:iG}(hk:es[k]? =ae e):
 w.cell? ⟨g,k*4,af⟩=ae (.int .i64 e.k)/\aB w ⟨g,k*4+1,af⟩=ae (.int .i64 e.p)/\aB w ⟨g,k*4+2,af⟩=ae (.int .i64 e.t)/\aB w ⟨g,k*4+3,af⟩=ae (.string e.s):=by
 have hc:=h.cells (g:=g) rfl;have key:∀j u,j<4->e.cs[j]? =ae u->aB w ⟨g,k*4+j,af⟩=ae u:=fun j u hj hu=>by
  have:=hc (k*4+j) u<|(afV es k e j hk hj).t hu;rw[aFA]at this;simpa using this
 exact⟨key 0 _ (by omega) rfl,key 1 _ (by omega) rfl,key 2 _ (by omega) rfl,key 3 _ (by omega) rfl⟩
def WU(h:bD w B 55 4 v es.length (pG es)):
 (v=aN af 0 0/\es=[])\/∃g cap,v=aN (ae ⟨g,0,af⟩) es.length cap/\es.length<=cap/\cap<=eP/\B<=g/\g<w.heap.size:=by
 rcases h.2 with⟨hv,h0⟩|⟨g,cap,cur,hv,hb,hg,h1,h2,_⟩
 ·exact .inl ⟨hv,aaC h0⟩
 ·exact .inr ⟨g,cap,hv,h1,h2,hb,bn hg⟩
def aJ.blocked(s:aJ)(e:iG):Bool:=decide (e.k=1)&&s.isOpen e.p e.t
def aJ.dC(s:aJ):Nat:=s.es.findIdx s.blocked
def aJ.Wf(s:aJ):Prop:=∀e∈s.es,(Lit.int .i64 e.p).wf=true/\(Lit.int .i64 e.t).wf=true
def afW{α:Type}(p:α->Bool):∀(l:List α) (k:Nat) (e:α),(∀j x,j<k->l[j]? =ae x->p x=false)->l[k]? =ae e->p e=true->l.findIdx p=k
 |[],k,e,_,h,_=>by simp at h
 |x::r,0,e,_,h,hp=>by
  simp only[yV,gU]at h;subst h;simp[WQ,hp]
 |x::r,k+1,e,ha,h,hp=>by
  have h0:=ha 0 x (by omega) (by simp);have:=afW p r k e (fun j y hj hy=>ha (j+1) y (by omega)<|by simpa using hy) (by simpa using h) hp;simp[WQ,h0,this]
def anS{α:Type}(p:α->Bool)(l:List α)(ha:∀(j:Nat) x,l[j]? =ae x->p x=false):l.findIdx p=l.length:=by
 apply List.findIdx_eq_length.2;intro x hx;obtain⟨j,hj,rfl⟩:=List.getElem_of_mem hx;exact ha j _<|eY hj
def afX{lb bm:Nat}{s:aJ}(h:fA w B lb bm v n s)(uP:s.Wf):
 aW prog 59 #[az<|ae ⟨lb,0,af⟩] w fun e w'=>e=aV (.int .i64 s.dC)/\Fr aS w w':=by
 have c0:aB w ⟨lb,0,af⟩=ae v:=by rw[aQ h.blk];rfl
 have aK:=h.lt;rcases WU h.row with⟨rfl,he⟩|⟨g,cap,rfl,QR,BU,hBg,hg⟩
 ·have hs:s.dC=0:=by simp[aJ.dC,he]
  rw[hs];clear h uP hs he;go_enter func59,ntmps59
  go_wp2_with fail
  go_loopw [10] (fun i w'=>i=.int .i64 0/\w'=w) (fun _ _=>0)
  case atStart=>exact⟨rfl,rfl⟩
  case round=>
   obtain⟨rfl,rfl⟩:=hrel
   go_wp2
   go_ret
   exact⟨rfl,Fr.refl _ _⟩
 ·unfold eP at BU;have H:aj (fA w B lb bm (aN (ae ⟨g,0,af⟩) s.es.length cap) n s):=h;have HW:aj s.Wf:=uP;clear h uP;go_enter func59,ntmps59
  go_wp2_with fail
  go_loopw [10] (fun i w'=>∃k:Nat,k<=s.es.length/\i=.int .i64 k/\Fr aS w w'/\∀j x,j<k->s.es[j]? =ae x->s.blocked x=false) (fun i _=>s.es.length-(eU i).toNat)
  case atStart=>exact⟨0,kH _,rfl,Fr.refl _ _,fun j x hj=>by omega⟩
  case round=>
   obtain⟨k,hk,rfl,dP,jR⟩:=hrel
   have HL:aj (fA wr B lb bm (aN (ae ⟨g,0,af⟩) s.es.length cap) n s):=dP.logAt H.o id id fun _ _=>id
   have k0:aB wr ⟨lb,0,af⟩=ae (aN (ae ⟨g,0,af⟩) s.es.length cap):=by rw[aQ HL.o.blk];rfl
   have fP:=dP.size
   have HF:aj (Fr aS w wr):=dP
   have HA:aj (∀j x,j<k->s.es[j]? =ae x->s.blocked x=false):=jR
   clear dP jR
   by_cases nH:k<s.es.length
   ·obtain⟨e,he⟩:∃e,s.es[k]? =ae e:=⟨_,eY nH⟩
    obtain⟨r0,r1,r2,r3⟩:=aaS HL.o.row he
    have EU:aj ((Lit.int .i64 e.p).wf=true):=(HW.o e<|gZ he).1
    have HE:aj (s.es[k]? =ae e):=he
    have AA:∀o:Obj,(bz wr o).heap.size=wr.heap.size+1:=fun o=>by simp
    clear he
    by_cases h1:e.k=1
    ·by_cases ho:s.isOpen e.p e.t=true
     ·have HS:aj (s.dC=k):=afW _ _ k e HA.o HE.o (by simp[aJ.blocked,h1,ho])
      go_wp2_with (go_at_call 122;refine(Ht (by exact(bQ _).logAt HL.o id id fun _ _=>id) _ _ EU.o).z ?_;rintro e w' ⟨rfl,rfl⟩)
      go_ret
      exact⟨by rw[HS.o]<;>rfl,HF.o.alloc _⟩
     ·have hb:s.blocked e=false:=by simp[aJ.blocked,ho]
      have uO:s.isOpen e.p e.t=false:=by simpa using ho
      have KJ:aj (∀j x,j<k+1->s.es[j]? =ae x->s.blocked x=false):=fun j x hj hx=>by
       by_cases ej:j=k
       ·subst ej;have:=HE.o.s.t hx;cases this;exact hb
       ·exact HA.o j x (by omega) hx
      clear hb ho
      go_wp2_with (go_at_call 122;refine(Ht (by exact(bQ _).logAt HL.o id id fun _ _=>id) _ _ EU.o).z ?_;rintro e w' ⟨rfl,rfl⟩)
      go_roundw
      case rel=>exact⟨k+1,by omega,by go_num,HF.o.alloc _,KJ.o⟩
      case measure=>simp[eU]<;>omega
    ·have hb:s.blocked e=false:=by simp[aJ.blocked,h1]
     have EW:(e.k==1)=false:=by simpa using h1
     have KJ:aj (∀j x,j<k+1->s.es[j]? =ae x->s.blocked x=false):=fun j x hj hx=>by
      by_cases ej:j=k
      ·subst ej;have:=HE.o.s.t hx;cases this;exact hb
      ·exact HA.o j x (by omega) hx
     clear hb
     go_wp2
     go_roundw
     case rel=>exact⟨k+1,by omega,by go_num,HF.o.alloc _,KJ.o⟩
     case measure=>simp[eU]<;>omega
   ·have HS:aj (s.dC=s.es.length):=anS _ _ (fun j x hx=>HA.o j x (by have:=(dS.1 hx).1;omega) hx)
    go_wp2
    go_ret
    exact⟨by rw[HS.o]<;>rfl,HF.o⟩
end
section
def anT(l:List iG):∀u∈pG l,u.oneCell'=true:=by
 intro u hu;simp only[pG,aaI]at hu;obtain⟨e,_,he⟩:=hu;simp only[iG.cs,jZ,qh,qi]at he;rcases he with rfl|rfl|rfl|rfl<;>rfl
variable{w:ay}{B:Nat}{v:aA}
def anU{es:List iG}(h:bD w B 55 4 v es.length (pG es))(hb:es.length*40<=140737488355328):
 aW prog 110 #[v] w fun e w'=>∃v',e=aV v'/\bD w' w.heap.size 55 4 v' es.length (pG es)/\Fr aS w w':=by
 obtain⟨i0,ed,iI,ig,jg⟩:=aFq aaQ;have alZ:∀(wx:ay) (a:Option Addr) (n c:Nat),(binOp .eql 49 (.slice a n c)<|aN af 0 0).run prog wx=.ok (aF a.isNone) wx:=fun wx a n c=>Lib.run_eql_slice_nil wx 49 55 a n c 0 0 underlying49;rcases WU h with⟨rfl,he⟩|⟨g,cap,rfl,QR,BU,hBg,hg⟩
 ·subst he;clear h hb;go_enter func110,ntmps110
  go_wp2
  go_ret;exact⟨_,rfl,aFm _ _ _ _,Fr.refl _ _⟩
 ·have H:aj (bD w B 55 4 (aN (ae ⟨g,0,af⟩) es.length cap) es.length<|pG es):=h;have HB:aj (es.length*40<=140737488355328):=hb;have HM:aj (es.length<=eP):=fG QR BU;clear h hb BU;go_enter func110,ntmps110
  go_wp2_with (at_builtin;refine wpList_append_own_at _ rfl _ _ 49 rfl w.heap.size 55 i0 _ 4 40 underlying49 ed iI ig jg rfl (by decide) _ 0 [] rfl (by exact World.ownsRow_made w #[] 0 (dI _) (kH _) rfl) ⟨g,0,af⟩ es.length cap (pG es) rfl (by rw[anR,aaM]) (by exact(H.o.alloc _).cells rfl) (anT es) (by simpa using HM.o) (by simpa using HB.o) (by simp) ?_;intro v' w1 ZI az8 aDr aCk)
  go_ret;simp only[D9,wY]at ZI;exact⟨_,rfl,ZI,(bQ _).grown az8 (fun k e=>by cases e;exact .inr<|dI _)⟩
def afY{lb bm n:Nat}{s:aJ}(h:fA w B lb bm v n s)(hb:s.es.length*40<=140737488355328):
 aW prog 51 #[az<|ae ⟨lb,0,af⟩] w fun e w'=>∃v',e=aV v'/\bD w' w.heap.size 55 4 v' s.es.length (pG s.es)/\Fr aS w w':=by
 have c0:aB w ⟨lb,0,af⟩=ae v:=by rw[aQ h.blk];rfl
 have H:aj (fA w B lb bm v n s):=h;have HB:aj (s.es.length*40<=140737488355328):=hb;clear h hb;go_enter func51,ntmps51
 go_wp2_with (go_at_call 110;refine(anU H.o.row HB.o).z ?_;rintro e w1 ⟨v',rfl,KL,bU⟩)
 go_ret;exact⟨_,rfl,KL,bU⟩
end
def oO(es:List iG)(p t:Int):Option Int:=es.foldl (fun o e=>if e.k≠1/\e.p=p/\e.t=t then ae e.k else o) af
def RQ(es:List iG)(x:iG)(p t:Int):oO (es++[x]) p t=if x.k≠1/\x.p=p/\x.t=t then ae x.k else oO es p t:=by
 simp[oO,WO]
def uw(es:List iG):aA->Option aA
 | .agg cs=>match cs.toList with
   |[.int .i64 p,.int .i64 t]=>(oO es p t).map<|Value.int .i64
   |_=>af
 |_=>af
def afZ(es:List iG)(p t:Int):uw es (iF #[ag ah p,ag ah t])=(oO es p t).map (Value.int .i64):=rfl
def anV(es:List iG)(x:iG)(h:x.k=1):uw (es++[x])=uw es:=by
 funext v;unfold uw;split
 ·split
  ·rw[RQ,if_neg<|by simp[h]]
  ·rfl
 ·rfl
def anW(es:List iG)(x:iG)(h:x.k≠1):uw (es++[x]) (iF #[ag ah x.p,ag ah x.t])=ae (.int .i64 x.k):=by
 rw[afZ,RQ,if_pos ⟨h,rfl,rfl⟩];rfl
def anX(es:List iG)(x:iG)(v:aA)(hv:v≠iF #[ag ah x.p,ag ah x.t]):uw (es++[x]) v=uw es v:=by
 unfold uw;split
 ·split
  ·rename_i cs _ p t hcs;rw[RQ,if_neg];rintro⟨_,rfl,rfl⟩;exact hv<|by rw[show cs=#[ag ah x.p,ag ah x.t]from by rw[<-Array.toList_inj,hcs]]
  ·rfl
 ·rfl
def laidOut:laidOutB prog=true:=by kernel_rfl
def anY:(231:dJ)<prog.types.size:=aaG<|by kernel_rfl
def anZ:prog.types.size=282:=by kernel_rfl
def aaT:prog.cellsOf 3=1:=by kernel_rfl
def af0:prog.cellsOf 231=2:=by kernel_rfl
def an0:(match prog.underlying 231 with|some (.array _ _)|some (.struct _)=>true|_=>false)=true:=by rw[underlying231]
def an1:prog.keyTypeAt 3 231=true:=by kernel_rfl
def af1:Keyed prog 231:=Keyed.of_law<|deep_law_laid (P:=prog) laidOut (m:=3) (by decide) (k:=231) anY an1 an0
def an2(w:ay):(zeroValue 3).run prog w=.ok (.int .i64 0) w:=by kernel_rfl
def an3:prog.keyType 231=true:=by kernel_rfl
def an4(d:Nat){p t:Int}(hp:(Lit.int .i64 p).wf=true)(ht:(Lit.int .i64 t).wf=true):prog.keyLits (d+2) 231 [.int .i64 p,.int .i64 t]=ae [.int .i64 p,.int .i64 t]:=by
 simp[Program.keyLits,underlying231,aaT,af0,underlying3,hp,ht]
def af2{p t:Int}(hp:(Lit.int .i64 p).wf=true)(ht:(Lit.int .i64 t).wf=true):∃kl,keyOf prog 231 (iF #[ag ah p,ag ah t])=ae kl:=by
 have hf:(Value.agg #[ag ah p,ag ah t]).formed prog 231=true:=by
  simp[Value.formed,underlying231,af0]
 have hl:=an4 281 hp ht;unfold keyOf;rw[underlying231,an3,hf,anZ];exact⟨_,by
  simp only[Bool.and_self,if_true];rw[show(Value.agg #[ag ah p,ag ah t]).cells.toList=[.int .i64 p,.int .i64 t]from rfl,hl];rfl⟩
def an5{w:ay}{B lb bm n:Nat}{v:aA}{s:aJ}(h:fA w B lb bm v n s)(uP:s.Wf):
 aW prog 174 #[az<|ae ⟨lb,0,af⟩] w fun e w'=>e=aV (.map<|ae w.heap.size)/\jG w' prog 231 w.heap.size s.es.length (uw s.es)/\Fr aS w w':=by
 have c0:aB w ⟨lb,0,af⟩=ae v:=by rw[aQ h.blk];rfl
 have aK:=h.lt;have ZH:=@run_makeMap prog;have nb:=aGH w ⟨lb,0,af⟩ c0;have HM0:aj (jG (w.alloc<|.map #[] 0) prog 231 w.heap.size 0<|uw []):=(jG.made w prog 231).congr (fun key kl _=>by
  unfold uw;split
  ·split<;>rfl
  ·rfl)
 rcases WU h.row with⟨rfl,he⟩|⟨g,cap,rfl,QR,BU,hBg,hg⟩
 ·rw[he];clear h uP he;go_enter func174,ntmps174
  go_wp2_with fail
  go_loopw [12] (fun i w'=>i=.int .i64 0/\w'=bz w (.map #[] 0)) (fun _ _=>0)
  case atStart=>exact⟨rfl,rfl⟩
  case round=>
   obtain⟨rfl,rfl⟩:=hrel
   go_wp2
   go_ret
   exact⟨rfl,HM0.o,bQ _⟩
 ·have HC:aj (cap<=eP):=BU;unfold eP at BU;have H:aj (fA w B lb bm (aN (ae ⟨g,0,af⟩) s.es.length cap) n s):=h;have HW:aj s.Wf:=uP;clear h uP;go_enter func174,ntmps174
  go_wp2_with fail
  go_loopw [12] (fun i w'=>∃k:Nat,k<=s.es.length/\i=.int .i64 k/\Fr aS w w'/\jG w' prog 231 w.heap.size k (uw<|s.es.take k)) (fun i _=>s.es.length-(eU i).toNat)
  case atStart=>exact⟨0,kH _,rfl,bQ _,by simpa using HM0.o⟩
  case round=>
   obtain⟨k,hk,rfl,dP,Vp⟩:=hrel
   have HL:aj (fA wr B lb bm (aN (ae ⟨g,0,af⟩) s.es.length cap) n s):=dP.logAt H.o id id fun _ _=>id
   have k0:aB wr ⟨lb,0,af⟩=ae (aN (ae ⟨g,0,af⟩) s.es.length cap):=by rw[aQ HL.o.blk];rfl
   have fP:=dP.size
   have HF:aj (Fr aS w wr):=dP
   have HM:aj (jG wr prog 231 w.heap.size k<|uw<|s.es.take k):=Vp
   clear dP Vp
   by_cases nH:k<s.es.length
   ·obtain⟨e,he⟩:∃e,s.es[k]? =ae e:=⟨_,eY nH⟩
    obtain⟨r0,r1,r2,r3⟩:=aaS HL.o.row he
    have HT:aj (s.es.take (k+1)=s.es.take k++[e]):=by
     show s.es.take (k+1)=s.es.take k++[e];rw[yu,he];rfl
    obtain⟨kl,oq⟩:=af2 (HW.o e<|gZ he).1 (HW.o e<|gZ he).2
    have HK:aj (keyOf prog 231 (iF #[ag ah e.p,ag ah e.t])=ae kl):=oq
    clear he oq
    by_cases h1:e.k=1
    ·have HM2:aj (jG wr prog 231 w.heap.size (k+1)<|uw<|s.es.take<|k+1):=by
      show jG wr prog 231 w.heap.size (k+1) (uw<|s.es.take<|k+1);rw[HT.o,anV _ _ h1];exact HM.o.z<|by omega
     go_wp2
     go_roundw
     case rel=>exact⟨k+1,by omega,by go_num,HF.o.alloc _,(bQ _).Bj HM2.o id⟩
     case measure=>simp[eU]<;>omega
    ·have EW:(e.k==1)=false:=by simpa using h1
     have HN:aj (k<eP):=gu nH<|fG QR HC.o
     go_wp2_with (at_mapUpdate;refine RN _ rfl _ _ _ 228 rfl 231 3 af1 underlying228 w.heap.size k (uw<|s.es.take k) rfl (by exact(bQ _).Bj HM.o id) HN.o _ _ kl rfl rfl HK.o (uw<|s.es.take k++[e]) (anW _ _ h1) (anX _ _) ?_;intro w2 EX NQ)
     go_roundw
     case rel=>exact⟨k+1,by omega,by go_num,(HF.o.alloc _).LG NQ<|.inr<|dI _,by rw[HT.o];exact EX⟩
     case measure=>simp[eU]<;>omega
   ·have HT:aj (s.es.take k=s.es):=Fp (by omega)
    have HK:aj (k=s.es.length):=by show k=s.es.length;omega
    go_wp2
    go_ret
    exact⟨rfl,by have:=HM.o;rw[HT.o,HK.o]at this;exact this,HF.o⟩
section
structure Rec where
 o:Int
 p:Int
 s:ByteArray
def Rec.cs(e:Rec):List Value:=[.int .i64 e.o,.int .i64 e.p,.string e.s]
def rq(l:List Rec):List Value:=l.flatMap Rec.cs
def an7(l:List Rec)(x:Rec):rq (l++[x])=rq l++x.cs:=by simp[rq]
def an8:(prog.info? 94).map (fun i=>(i.zero,i.size,i.bytes))=ae (ae<|iF #[ag ah 0,ag ah 0,.string ⟨#[]⟩],3,32):=by kernel_rfl
def aJ.Ea(s:aJ)(e:iG):Bool:=decide (e.k=1)&&decide (oO s.es e.p e.t=ae 2)
def aJ.pick(s:aJ)(i:Nat):List Rec:=
 match s.es[i]? with
 |some e=>if s.Ea e then[⟨i,e.p,e.s⟩]else[]
 |none=>[]
def aJ.bF(s:aJ)(a b:Nat):List Rec:=(List.range' a<|b-a).flatMap s.pick
def aJ.af5(s:aJ)(a:Nat):s.bF a a=[]:=by simp[aJ.bF]
variable{a k n B:Nat}{w:ay}{e:iG}{v:aA}{rs:List Rec}{s:aJ}
def aJ.Hu(s:aJ)(h:a<=k):s.bF a (k+1)=s.bF a k++s.pick k:=by
 unfold aJ.bF;rw[show k+1-a=(k-a)+1 by omega,List.range'_concat,Hl];simp[show a+(k-a)=k by omega]
def aJ.aaU(s:aJ)(a:Nat):∀k,a<=k->(s.bF a k).length<=k-a
 |0,h=>by
  have:a=0:=by omega
  subst this;simp[aJ.bF]
 |k+1,h=>by
  by_cases e:a=k+1
  ·subst e;simp[aJ.bF]
  ·rw[s.Hu<|by omega,iW];have:=aJ.aaU s a k (by omega);have h2:(s.pick k).length<=1:=by
    unfold aJ.pick;split
    ·split<;>simp
    ·simp
   omega
def aJ.start(f:Int):Nat:=(max f 0).toNat
def aJ.CS(s:aJ)(f m:Int):List Rec:=(s.bF (aJ.start f) s.dC).take m.toNat
def jG.LH{P:fJ}{k:dJ}{b:Nat}{f:aA->Option aA}(h:jG w P k b n f){e:dJ}{size:Nat}{m:Nat}{xs:List aA}(ho:bD w B e size v m xs):bY v≠ae b:=by
 intro ev;obtain⟨D,⟨es,clock,hb,_⟩,_⟩:=h;rcases ho.2 with⟨rfl,_⟩|⟨g,cap,cur,rfl,_,hg,_⟩
 ·simp[Value.ownBlock]at ev
 ·simp[Value.ownBlock]at ev;rw[<-ev,hg]at hb;cases hb
def af6(h:bD w B 94 3 v rs.length (rq rs)):
 (v=aN af 0 0/\rs=[])\/∃g cap,v=aN (ae ⟨g,0,af⟩) rs.length cap/\rs.length<=cap/\cap<=eP/\B<=g/\g<w.heap.size:=by
 rcases h.2 with⟨hv,h0⟩|⟨g,cap,cur,hv,hb,hg,h1,h2,_⟩
 ·exact .inl ⟨hv,aaC h0⟩
 ·exact .inr ⟨g,cap,hv,h1,h2,hb,bn hg⟩
def OY(h:bD w B 94 3 v rs.length (rq rs)):∃a cap,v=.slice a rs.length cap:=by
 rcases af6 h with⟨rfl,rfl⟩|⟨g,cap,rfl,_⟩
 ·exact⟨af,0,rfl⟩
 ·exact⟨_,_,rfl⟩
def aJ.LJ(s:aJ):s.dC<=s.es.length:=List.findIdx_le_length
def aJ.aaV(s:aJ)(h:a<=k):∀d,∃t,s.bF a (k+d)=s.bF a k++t
 |0=>⟨[],by simp⟩
 |d+1=>by
  obtain⟨t,ht⟩:=aJ.aaV s h d;exact⟨t++s.pick (k+d),by rw[<-Aa,s.Hu<|by omega,ht,CP]⟩
def aJ.af7(s:aJ){f m:Int}(h1:aJ.start f<=k)(h2:k<=aJ.start f\/k<=s.dC)(h3:((s.bF (aJ.start f) k).length:Int)<=max m 0)(h4:s.dC<=k\/m<=(s.bF (aJ.start f) k).length):
 s.CS f m=s.bF (aJ.start f) k:=by
 unfold aJ.CS;generalize aJ.start f=a at*
 have aaW:s.dC<=k->s.bF a s.dC=s.bF a k:=by
  intro h;rcases h2 with h2|h2
  ·have:k=a:=by omega
   subst this;simp only[aJ.bF];rw[show s.dC-k=0 by omega,Nat.sub_self]
  ·rw[show s.dC=k by omega]
 by_cases hk:s.dC<=k
 ·rw[aaW hk];exact Fp<|by omega
 ·obtain⟨t,ht⟩:=s.aaV h1<|s.dC-k;rw[show k+(s.dC-k)=s.dC by omega]at ht;rw[ht];have:m.toNat=(s.bF a k).length:=by omega
  rw[this];exact List.take_left
def aJ.an9(he:s.es[k]? =ae e)(h1:e.k=1)(h2:(oO s.es e.p e.t).getD 0=2):s.pick k=[⟨k,e.p,e.s⟩]:=by
 have:oO s.es e.p e.t=ae 2:=by
  cases hq:oO s.es e.p e.t with
  |none=>rw[hq]at h2;simp at h2
  |some q=>rw[hq]at h2;simp at h2;rw[h2]
 simp[aJ.pick,he,aJ.Ea,h1,this]
def aJ.af8(he:s.es[k]? =ae e)(h2:e.k≠1\/(oO s.es e.p e.t).getD 0≠2):s.pick k=[]:=by
 have:s.Ea e=false:=by
  simp only[aJ.Ea,Bool.and_eq_false_iff,decide_eq_false_iff_not];rcases h2 with h2|h2
  ·exact .inl h2
  ·exact .inr fun e2=>h2 (by rw[e2];rfl)
 simp[aJ.pick,he,this]
def af9(w:ay)(o o':Obj):((bz w o).alloc o').heap[w.heap.size+1]? =ae o':=RP w o o'
def aoa(s:aJ)(w:ay)(f m:Int)(r i:aA)(w':ay):Prop:=
 ∃k:Nat,aJ.start f<=k/\i=.int .i64 k/\(k<=aJ.start f\/k<=s.dC)/\Fr aS w w'/\
  w'.ownsRow w.heap.size 94 3 r (s.bF (aJ.start f) k).length (rq<|s.bF (aJ.start f) k)/\
  jG w' prog 231 w.heap.size s.es.length (uw s.es)/\((s.bF (aJ.start f) k).length:Int)<=max m 0
def aob{lb bm:Nat}(h:fA w B lb bm v n s)(uP:s.Wf)(hb:s.es.length*40<=140737488355328)(f m:Int):
 aW prog 121 #[az<|ae ⟨lb,0,af⟩,ag ah f,ag ah m] w fun e w'=>∃v',e=aV v'/\bD w' w.heap.size 94 3 v' (s.CS f m).length (rq<|s.CS f m)/\Fr aS w w':=by
 obtain⟨i0,ed,iI,ig,jg⟩:=aFq an8;have H:aj (fA w B lb bm v n s):=h;have HW:aj s.Wf:=uP;have HB:aj (s.es.length*40<=140737488355328):=hb;have HS:aj (s.dC<=s.es.length):=s.LJ;have hlw:=h.lt;clear h uP hb;go_enter func121,ntmps121
 go_wp2_with (first
  |(go_at_call 174;refine(an5 H.o HW.o).z ?_;rintro e w1 ⟨rfl,rH,bU⟩;have HM1:aj (jG w1 prog 231 w.heap.size s.es.length<|uw s.es):=rH;have LM:aj (Fr aS w w1):=bU;clear rH bU)
  |(go_at_call 59;refine(afX (by exact LM.o.logAt H.o id id fun _ _=>id) HW.o).z ?_;rintro e w2 ⟨rfl,jS⟩;have HF2:aj (Fr aS w1 w2):=jS;clear jS))
 all_goals
  go_loopw [9,10] (fun r i w'=>aoa s w f m r i w') (fun _ i _=>s.dC-(eU i).toNat)
  case atStart=>exact⟨aJ.start f,dI _,by simp[aJ.start]<;>omega,.inl<|dI _,LM.o.t HF2.o dw,by rw[s.af5];exact aFm _ _ _ _,HF2.o.Bj HM1.o id,by rw[s.af5];simp<;>omega⟩
  case round=>
   obtain⟨k,aT,rfl,lq,dP,jf,Vp,hlen⟩:=hrel
   obtain⟨ra,aaX,rfl⟩:=OY jf
   have HO:aj (bD wr w.heap.size 94 3 (.slice ra (s.bF (aJ.start f) k).length aaX) (s.bF (aJ.start f) k).length<|rq<|s.bF (aJ.start f) k):=jf
   have HF:aj (Fr aS w wr):=dP
   have HM:aj (jG wr prog 231 w.heap.size s.es.length<|uw s.es):=Vp
   have HL:aj (fA wr B lb bm v n s):=dP.logAt H.o id id fun _ _=>id
   have HN:aj (((s.bF (aJ.start f) k).length:Int)<=max m 0):=hlen
   have HG:aj ((s.bF (aJ.start f) k).length<=k-aJ.start f):=s.aaU _ _ aT
   have fP:=dP.size
   have k0:aB wr ⟨lb,0,af⟩=ae v:=by rw[aQ HL.o.blk];rfl
   clear jf dP Vp hlen
   by_cases dF:k<s.dC
   ·by_cases EX:((s.bF (aJ.start f) k).length:Int)<m
    ·have xR:k<s.es.length:=gu dF HS.o
     obtain⟨e,he⟩:∃e,s.es[k]? =ae e:=⟨_,eY xR⟩
     rcases WU HL.o.row with⟨_,h0⟩|⟨g,cap,rfl,QR,BU,hBg,hg⟩
     ·rw[h0]at xR;simp at xR
     ·unfold eP at BU
      obtain⟨r0,r1,r2,r3⟩:=aaS HL.o.row he
      obtain⟨kl,oq⟩:=af2 (HW.o e<|gZ he).1 (HW.o e<|gZ he).2
      have vO:∀o,(Instr.lookup 228 (.map<|ae w.heap.size) (iF #[ag ah e.p,ag ah e.t]) false).run prog (bz wr o)=.ok (.int .i64<|(oO s.es e.p e.t).getD 0) (bz wr o):=fun o=>by
       have:=((bQ o).Bj HM.o id).look af1 underlying228 (an2 _) oq;rw[afZ]at this;rw[this];cases oO s.es e.p e.t<;>rfl
      have HE:aj (s.es[k]? =ae e):=he
      clear he oq
      by_cases h1:e.k=1
      ·by_cases h2:(oO s.es e.p e.t).getD 0=2
       ·have HP:aj (s.bF (aJ.start f) (k+1)=s.bF (aJ.start f) k++[⟨k,e.p,e.s⟩]):=by
         show s.bF (aJ.start f) (k+1)=s.bF (aJ.start f) k++[⟨k,e.p,e.s⟩];rw[s.Hu aT,aJ.an9 HE.o h1 h2]
        rw[h2]at vO
        have HK:aj (k<s.es.length):=xR
        clear h2
        go_wp2_with (at_builtin;refine aFE _ rfl _ _ 67 rfl w.heap.size 94 i0 _ 3 32 underlying67 ed iI ig jg rfl (by decide) _ (s.bF (aJ.start f) k).length (rq<|s.bF (aJ.start f) k) rfl (by exact(HO.o.alloc _).alloc _) ⟨wr.heap.size+1,0,af⟩ 1 1 [.int .i64 k,.int .i64 e.p,.string e.s] rfl rfl (aFk (cs:=#[ag ah k,ag ah e.p,.string e.s]) (t:=94) (fr:=(0,0))<|af9 _ _ _) (by simp[Value.oneCell']) (by decide) (by have:=HG.o;have:=HB.o;have:=HK.o;simp only[eP];omega) (by have:=HG.o;have:=HB.o;have:=HK.o;omega) (by simp<;>omega) (wr.heap.size+2) (by simp) ?_;intro gg FC w3 o8 lX tH uQ)
        go_roundw
        case rel=>
         have DF:Fr (fun x=>Value.ownBlock (.slice ra (s.bF (aJ.start f) k).length aaX)=ae x) wr w3:=((dR.alloc _).alloc _).grown lX fun x ex=>.inl ex
         refine⟨k+1,by omega,by go_num,.inr<|by omega,HF.o.t DF fun x hx=>.inr (HO.o.lt x hx).1,?_,DF.Bj HM.o<|HM.o.LH HO.o,?_⟩
         ·rw[HP.o,an7];simpa[Rec.cs]using o8
         ·rw[HP.o];simp<;>omega
        case measure=>simp[eU]<;>omega
       ·have QS:((oO s.es e.p e.t).getD 0==2)=false:=by simpa using h2
        have HP:aj (s.bF (aJ.start f) (k+1)=s.bF (aJ.start f) k):=by
         show s.bF (aJ.start f) (k+1)=s.bF (aJ.start f) k;rw[s.Hu aT,aJ.af8 HE.o<|.inr h2,qM]
        clear h2
        generalize(oO s.es e.p e.t).getD 0=q at vO QS
        go_wp2
        go_roundw
        case rel=>exact⟨k+1,by omega,by go_num,.inr<|by omega,HF.o.alloc _,by rw[HP.o];exact HO.o.alloc _,(bQ _).Bj HM.o id,by rw[HP.o];exact HN.o⟩
        case measure=>simp[eU]<;>omega
      ·have EW:(e.k==1)=false:=by simpa using h1
       have HP:aj (s.bF (aJ.start f) (k+1)=s.bF (aJ.start f) k):=by
        show s.bF (aJ.start f) (k+1)=s.bF (aJ.start f) k;rw[s.Hu aT,aJ.af8 HE.o<|.inl h1,qM]
       clear vO
       go_wp2
       go_roundw
       case rel=>exact⟨k+1,by omega,by go_num,.inr<|by omega,HF.o.alloc _,by rw[HP.o];exact HO.o.alloc _,(bQ _).Bj HM.o id,by rw[HP.o];exact HN.o⟩
       case measure=>simp[eU]<;>omega
    ·have HD:aj (s.CS f m=s.bF (aJ.start f) k):=s.af7 aT lq HN.o (.inr<|by omega)
     go_wp2
     go_ret
     exact⟨_,rfl,by rw[HD.o];exact HO.o,HF.o⟩
   ·have HD:aj (s.CS f m=s.bF (aJ.start f) k):=s.af7 aT lq HN.o (.inl<|by omega)
    go_wp2
    go_ret
    exact⟨_,rfl,by rw[HD.o];exact HO.o,HF.o⟩
end
