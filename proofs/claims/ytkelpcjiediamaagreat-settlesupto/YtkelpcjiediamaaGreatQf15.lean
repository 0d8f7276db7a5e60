import Derived.Test.YtkelpcjiediamaaGreatQf14
import Derived.Deep.OwnRows
import Derived.Lib.SliceRun
import Derived.Laws.OwnMore
set_option maxRecDepth 100000
set_option maxHeartbeats 0
set_option linter.all false
namespace Go.Proofs.YtkelpcjiediamaaGreat
def aF4:=@Go.run_underlying
def aF7:=@Go.Lib.cell?_alloc_some
def aGg:=@Go.results_none
def aGD:=@Go.toList_madeCells_one
def aGI:=@Go.Sem.run_bind
open Go renaming Calls→aW,Program→fJ,TypeId→dJ,Value→aA,World→ay,execOp→dY,maxLen→eP
open Go.Ending renaming returned→aV
open Go.IntKind renaming i64→ah,wrap→eF
open Go.Obj renaming cells→aG
open Go.RowKit renaming Hid→aj,intOf→eU
open Go.Value renaming agg→iF,bool→aF,int→ag,ownBlock→bY,pointer→az,slice→aN,string→dK,tuple→dU
open Go.World renaming alloc→bz,cell?→aB,ownsRow→bD,setCell→aX
open Option renaming none→af,some→ae
open Go.Proofs.Tryz
open Go.RowKit Go.Maps
def aoV(w:ay)(p:Nat)(hp:p<=6):(Instr.makeSlice 43 (ag ah (p:Int))<|ag ah (p:Int)).run prog w=.ok (aN (ae ⟨w.heap.size,0,af⟩) p p) (w.alloc<|.cells (madeCells #[ag ah 0] p) 3):=
 run_make_row' 43 3 (ag ah 0) 8 underlying43 RV rfl .i64 .i64 p (by omega) (by omega) w
def agI(w:ay){B p:Nat}(hB:B<=w.heap.size)(hp:p<=6):(w.alloc<|.cells (madeCells #[ag ah 0] p) 3).ownsRow B 3 1 (aN (ae ⟨w.heap.size,0,af⟩) p p) (List.replicate p (0:Int)).length (gm<|List.replicate p 0):=by
 have:=aGq w (base:=B) (e:=3) (size:=1) (madeCells #[ag ah 0] p) p hB (by simp only[eP];omega) (by simp[size_madeCells]);rw[aGD]at this;simpa[gm]using this
section
def HS.eG(h:HS)(xb k:Nat):Prop:=k=xb\/h.jv.ownBlock=ae k\/h.pv.ownBlock=ae k\/h.fv.ownBlock=ae k\/∃p∈h.pl,CW p.lb p.bm p.v k
variable{w w':ay}{B xb n:Nat}{h:HS}{S:Nat->Prop}
def aH.stay(hh:aH w B xb n h)(f:Fr S w w')(hS:∀k,S k->h.eG xb k->False):aH w' B xb n h:=
 ⟨(f.block xb (bn hh.blk) fun e=>hS _ e<|.inl rfl).t hh.blk,f.ownsRow hh.mg fun k hk e=>hS k e<|.inr<|.inl hk,f.ownsRow hh.ku fun k hk e=>hS k e<|.inr<|.inr<|.inl hk,f.ownsRow hh.nM fun k hk e=>hS k e<|.inr<|.inr<|.inr<|.inl hk,
  fun p hp=>(hh.dZ p hp).stay f fun k e hf=>hS k e<|.inr<|.inr<|.inr<|.inr ⟨p,hp,hf⟩,hh.hx,hh.hP,hh.hQ,hh.h6⟩
def aH.uz(hh:aH w B xb n h){k:Nat}(hk:h.eG xb k):k<w.heap.size/\B<=k:=by
 rcases hk with rfl|hk|hk|hk|⟨p,hp,hk⟩
 ·exact⟨bn hh.blk,hh.hx⟩
 ·exact⟨(hh.mg.lt k hk).2,(hh.mg.lt k hk).1⟩
 ·exact⟨(hh.ku.lt k hk).2,(hh.ku.lt k hk).1⟩
 ·exact⟨(hh.nM.lt k hk).2,(hh.nM.lt k hk).1⟩
 ·have hl:=hh.dZ p hp;rcases hk with rfl|rfl|hk
  ·exact⟨hl.lt,hl.hl⟩
  ·exact⟨hl.map.lt,hl.hm⟩
  ·exact⟨(hl.row.lt k hk).2,(hl.row.lt k hk).1⟩
def aH.abj(hh:aH w B xb n h){k:Nat}(hk:h.eG xb k):tag w k=111\/tag w k=5\/tag w k=98\/(tag w k=119/\h.fv.ownBlock=ae k)\/tag w k=163\/tag w k=1000000\/tag w k=55:=by
 rcases hk with rfl|hk|hk|hk|⟨p,hp,hk⟩
 ·exact .inl<|mO hh.blk
 ·exact .inr<|.inl<|iY hh.mg hk
 ·exact .inr<|.inr<|.inl<|iY hh.ku hk
 ·exact .inr<|.inr<|.inr<|.inl ⟨iY hh.nM hk,hk⟩
 ·exact .inr<|.inr<|.inr<|.inr<|(hh.dZ p hp).tags hk
end
section
structure di(w w':ay)(B xb n:Nat)(h:HS)(n':Nat)(h':HS):Prop where
 at_:aH w' B xb n' h'
 fr:Fr (h.eG xb) w w'
 sub:∀k,h'.eG xb k->h.eG xb k\/w.heap.size<=k
variable{w w1 w2 w':ay}{B xb n n1 n2:Nat}{h h1 h2:HS}
def di.refl(hh:aH w B xb n h):di w w B xb n h n h:=⟨hh,Fr.refl _ _,fun _=>.inl⟩
def di.t(a:di w w1 B xb n h n1 h1)(b:di w1 w2 B xb n1 h1 n2 h2):di w w2 B xb n h n2 h2:=
 ⟨b.at_,a.fr.t b.fr fun k hk=>a.sub k hk,fun k hk=>by
  rcases b.sub k hk with e|e
  ·exact a.sub k e
  ·exact .inr<|fG a.fr.size e⟩
def di.a(a:di w w1 B xb n h n1 h1)(f:Fr aS w1 w2):di w w2 B xb n h n1 h1:=
 ⟨a.at_.a f,a.fr.t f dw,a.sub⟩
def di.behind(f:Fr aS w w1)(a:di w1 w2 B xb n h n1 h1):di w w2 B xb n h n1 h1:=
 ⟨a.at_,(f.z dw).t a.fr fun _=>.inl,fun k hk=>by
  rcases a.sub k hk with e|e
  ·exact .inl e
  ·exact .inr<|fG f.size e⟩
def di.own(f:Fr (fun k=>k=xb) w w'){h':HS}(hh:aH w' B xb n1 h')(hs:∀k,h'.eG xb k->h.eG xb k):di w w' B xb n h n1 h':=
 ⟨hh,f.z fun _ e=>.inl<|.inl e,fun k hk=>.inl<|hs k hk⟩
def di.mg{jv:aA}{h':HS}(f:Fr (fun k=>k=xb\/h.jv.ownBlock=ae k) w w')(hh:aH w' B xb n h')(hj:h'.jv=jv)(hl:∀k,bY jv=ae k->h.jv.ownBlock=ae k\/w.heap.size<=k)(iV:h'.pv=h.pv)(qg:h'.fv=h.fv)(iT:h'.pl=h.pl):di w w' B xb n h n h':=by
 refine⟨hh,f.z fun k e=>.inl ?_,fun k hk=>?_⟩
 ·rcases e with e|e
  ·exact .inl e
  ·exact .inr<|.inl e
 ·rcases hk with e|e|e|e|e
  ·exact .inl<|.inl e
  ·rw[hj]at e;rcases hl k e with a|a
   ·exact .inl<|.inr<|.inl a
   ·exact .inr a
  ·rw[iV]at e;exact .inl<|.inr<|.inr<|.inl e
  ·rw[qg]at e;exact .inl<|.inr<|.inr<|.inr<|.inl e
  ·rw[iT]at e;exact .inl<|.inr<|.inr<|.inr<|.inr e
inductive jU(h:HS)(r:Rc):Bool->HS->Prop
 |ok (jv:aA) (hb:h.br=false):jU h r true {h.qo jv (gp<|fB r)with ps:=kz h.ps r}
 |uC (jv:aA) (hb:h.br=true):jU h r false (h.qo jv<|gp<|(fB r).take h.kp.toNat).yx
structure mY(h:HS)(r:Rc):Prop where
 small:∃m,m<1000000000000/\r.Small m
 kp:0<=h.kp/\h.kp<=16
 room:h.jb.length+16<=140737488355328
 end_:r.k=3->r.a=0\/r.a=1
def O8(hh:aH w B xb n h){r:Rc}(hm:mY h r):
 aW prog 118 #[az<|ae ⟨xb,4,af⟩,xq r] w fun e w'=>∃ok h',e=aV (aF ok)/\jU h r ok h'/\di w w' B xb n h n h':=by
 obtain⟨⟨m,rH,hs⟩,NZ,amc,uj⟩:=hm;cases qI:h.br
 ·have key:aW prog 118 #[az<|ae ⟨xb,4,af⟩,xq r] w fun e w'=>e=aV (aF true)/\∃jv,ag3 w w' B xb n h r jv:=by
   have k0:=hs.k0;have k1:=hs.k1;refine apk hh qI hs rH ?_ amc;rcases(show r.k=1\/r.k=2\/r.k=3\/r.k=4 by omega)with e|e|e|e
   ·exact .inl e
   ·exact .inr<|.inl e
   ·exact .inr<|.inr<|.inl ⟨e,(uj e).e (fun a=>⟨false,by simpa using a⟩) fun a=>⟨true,by simpa using a⟩⟩
   ·exact .inr<|.inr<|.inr e
  refine key.z fun _ w2 ⟨h1,jv,h2⟩=>⟨true,_,h1,.ok jv qI,?_⟩;exact di.mg h2.fr h2.at_ rfl h2.OX rfl rfl rfl
 ·obtain⟨kk,uS⟩:=qY NZ.1;have key:aW prog 118 #[az<|ae ⟨xb,4,af⟩,xq r] w fun e w'=>e=aV (aF false)/\∃jv,abv w w' B xb n h r kk jv:=by
   rcases Ju kk with e|e
   ·subst e;exact apm hh qI uS hs rH
   ·exact apl hh qI uS (by omega) e hs rH amc
  refine key.z fun _ w2 ⟨h1,jv,h2⟩=>⟨false,_,h1,.uC jv qI,?_⟩;have e:h.kp.toNat=kk:=by omega
  rw[e];exact di.mg h2.fr h2.at_ rfl h2.OX rfl rfl rfl
def apn(hh:aH w B xb n h){i:Nat}{x:PS}(hx:h.ps[i]? =ae x)(hm:mY h ⟨1,i,0,x.e+1⟩):
 aW prog 129 #[az<|ae ⟨xb,4,af⟩,ag ah i] w fun e w'=>∃ok h',e=aV (aF ok)/\jU h ⟨1,i,0,x.e+1⟩ ok h'/\di w w' B xb n h n h':=by
 have HC:aj (∀W,aH W B xb n h->aW prog 118 #[az<|ae ⟨xb,4,af⟩,iF #[ag ah 1,ag ah i,ag ah 0,.int .i64<|x.e+1]] W fun e w'=>∃ok h',e=aV (aF ok)/\jU h ⟨1,i,0,x.e+1⟩ ok h'/\di W w' B xb n h n h'):=fun W hW=>O8 hW hm;have HH:aj (aH w B xb n h):=hh;obtain⟨⟨e0,e1,e2⟩,ef⟩:=hh.cellP hx;obtain⟨m,rH,hs⟩:=hm.small;have o9:0<=x.e+1:=hs.m0;have iJ:x.e+1<=m+1:=hs.m1;have lN:(i:Int)<6:=hs.p1;have ed:(0:Int)<=(i:Int):=by omega
 have iC:=bn hh.blk;clear hh hx hm hs e1 e2;go_enter func129,ntmps129
 go_wp2_with (first
  |(go_at_call 118;refine(HC.o _<|by exact HH.o).z ?_;rintro e w1 ⟨ok,h',rfl,ho,dQ⟩
    have R1:aj (jU h ⟨1,i,0,x.e+1⟩ ok h'/\di w w1 B xb n h n h'):=⟨ho,dQ⟩
    clear ho dQ))
 go_ret;exact⟨ok,h',rfl,R1.o⟩
end
section
variable{w w':ay}{B xb n:Nat}{h:HS}
inductive Ic(h:HS)(r:Rc)(w:ay)(B xb n:Nat):Ending->ay->Prop
 |mk {ok:Bool} {h':HS} {w':ay} (ho:jU h r ok h') (hm:di w w' B xb n h n h'):Ic h r w B xb n (aV<|aF ok) w'
def PS.next(x:PS):Int:=if x.s=0 then x.t+1 else x.t
variable{i:Nat}{x:PS}
def apo(hh:aH w B xb n h)(hx:h.ps[i]? =ae x){q:Int}(hm:mY h ⟨2,i,q,x.next⟩):
 aW prog 125 #[az<|ae ⟨xb,4,af⟩,ag ah i,ag ah q] w fun e w'=>∃ok h',e=aV (aF ok)/\jU h ⟨2,i,q,x.next⟩ ok h'/\di w w' B xb n h n h':=by
 have HH:aj (aH w B xb n h):=hh;have HM:aj (mY h ⟨2,i,q,x.next⟩):=hm;obtain⟨⟨e0,e1,e2⟩,ef⟩:=hh.cellP hx;obtain⟨m,rH,hs⟩:=hm.small;have o9:0<=x.next:=hs.m0;have iJ:x.next<=m+1:=hs.m1;have lN:(i:Int)<6:=hs.p1;have ed:(0:Int)<=(i:Int):=by omega
 have iC:=bn hh.blk;clear hh hx hm hs e0;by_cases h0:x.s=0
 ·have hn:x.next=x.t+1:=by simp[PS.next,h0]
  have HC:aj (∀W,aH W B xb n h->aW prog 118 #[az<|ae ⟨xb,4,af⟩,iF #[ag ah 2,ag ah i,ag ah q,.int .i64<|x.t+1]] W fun e w'=>∃ok h',e=aV (aF ok)/\jU h ⟨2,i,q,x.next⟩ ok h'/\di W w' B xb n h n h'):=fun W hW=>by
   have:=O8 hW HM.o;unfold xq at this;simp only[hn]at this⊢
   exact this
  rw[h0]at e2;rw[hn]at o9 iJ;clear hn h0;go_enter func125,ntmps125
  go_wp2_with (first
   |(go_at_call 118;refine(HC.o _<|by exact HH.o).z ?_;rintro e w1 ⟨ok,h',rfl,ho,dQ⟩
     have R1:aj (jU h ⟨2,i,q,x.next⟩ ok h'/\di w w1 B xb n h n h'):=⟨ho,dQ⟩
     clear ho dQ))
  go_ret;exact⟨ok,h',rfl,R1.o⟩
 ·have hn:x.next=x.t:=by simp[PS.next,h0]
  have HC:aj (∀W,aH W B xb n h->aW prog 118 #[az<|ae ⟨xb,4,af⟩,iF #[ag ah 2,ag ah i,ag ah q,ag ah x.t]] W fun e w'=>∃ok h',e=aV (aF ok)/\jU h ⟨2,i,q,x.next⟩ ok h'/\di W w' B xb n h n h'):=fun W hW=>by
   have:=O8 hW HM.o;unfold xq at this;simp only[hn]at this⊢
   exact this
  have hsb:(x.s==0)=false:=by simpa using h0
  clear hn h0;go_enter func125,ntmps125
  go_wp2_with (first
   |(go_at_call 118;refine(HC.o _<|by exact HH.o).z ?_;rintro e w1 ⟨ok,h',rfl,ho,dQ⟩
     have R1:aj (jU h ⟨2,i,q,x.next⟩ ok h'/\di w w1 B xb n h n h'):=⟨ho,dQ⟩
     clear ho dQ))
  go_ret;exact⟨ok,h',rfl,R1.o⟩
def abw(hh:aH w B xb n h)(hx:h.ps[i]? =ae x)(c:Bool)(hm:mY h ⟨3,i,if c then 1 else 0,x.t⟩):
 aW prog 67 #[az<|ae ⟨xb,4,af⟩,ag ah i,aF c] w (Ic h ⟨3,i,if c then 1 else 0,x.t⟩ w B xb n):=by
 have HH:aj (aH w B xb n h):=hh;have HM:aj (mY h ⟨3,i,if c then 1 else 0,x.t⟩):=hm;obtain⟨⟨e0,e1,e2⟩,ef⟩:=hh.cellP hx;obtain⟨m,rH,hs⟩:=hm.small;have lN:(i:Int)<6:=hs.p1;have ed:(0:Int)<=(i:Int):=by omega
 have iC:=bn hh.blk;clear hh hx hm hs e0;cases c
 ·have HC:aj (∀W,aH W B xb n h->aW prog 118 #[az<|ae ⟨xb,4,af⟩,iF #[ag ah 3,ag ah i,ag ah 0,ag ah x.t]] W fun e w'=>∃ok h',e=aV (aF ok)/\jU h ⟨3,i,0,x.t⟩ ok h'/\di W w' B xb n h n h'):=fun W hW=>O8 hW HM.o;go_enter func67,ntmps67
  go_wp2_with (first
   |(go_at_call 118;refine(HC.o _<|by exact HH.o.a<|bQ _).z ?_;rintro e w1 ⟨ok,h',rfl,ho,dQ⟩
     have R1:aj (jU h ⟨3,i,0,x.t⟩ ok h'/\di w w1 B xb n h n h'):=⟨ho,dQ.behind<|bQ _⟩
     clear ho dQ))
  go_ret;exact .mk R1.o.1 R1.o.2
 ·have HC:aj (∀W,aH W B xb n h->aW prog 118 #[az<|ae ⟨xb,4,af⟩,iF #[ag ah 3,ag ah i,ag ah 1,ag ah x.t]] W fun e w'=>∃ok h',e=aV (aF ok)/\jU h ⟨3,i,1,x.t⟩ ok h'/\di W w' B xb n h n h'):=fun W hW=>O8 hW HM.o;go_enter func67,ntmps67
  go_wp2_with (first
   |(go_at_call 118;refine(HC.o _<|by exact HH.o.a<|bQ _).z ?_;rintro e w1 ⟨ok,h',rfl,ho,dQ⟩
     have R1:aj (jU h ⟨3,i,1,x.t⟩ ok h'/\di w w1 B xb n h n h'):=⟨ho,dQ.behind<|bQ _⟩
     clear ho dQ))
  go_ret;exact .mk R1.o.1 R1.o.2
def HS.bars(h:HS)(x:PS)(e:Int):Int:=if h.up=false then 5 else if e=0\/e≠x.e then 7 else 0
def Ad(hh:aH w B xb n h)(hi:i<6)(hx:h.ps[i]? =ae x)(ep:Int):
 aW prog 65 #[az<|ae ⟨xb,4,af⟩,ag ah i,ag ah ep] w fun e w'=>e=aV (.int .i64<|h.bars x ep)/\w=w':=by
 obtain⟨⟨e0,e1,e2⟩,ef⟩:=hh.cellP hx;have c5:=hh.cU;have lN:(i:Int)<6:=by omega
 have ed:(0:Int)<=(i:Int):=by omega
 clear hh hx e1 e2;cases hu:h.up
 ·rw[hu]at c5;go_enter func65,ntmps65
  go_wp2
  go_ret;exact⟨by simp[HS.bars,hu],rfl⟩
 ·rw[hu]at c5;by_cases h1:ep=0
  ·subst h1;go_enter func65,ntmps65
   go_wp2
   go_ret;exact⟨by simp[HS.bars,hu],rfl⟩
  ·have b1:(ep==0)=false:=by simpa using h1
   by_cases h2:ep=x.e
   ·subst h2;go_enter func65,ntmps65
    go_wp2
    go_ret;exact⟨by simp[HS.bars,hu,h1],rfl⟩
   ·have b2:(ep==x.e)=false:=by simpa using h2
    go_enter func65,ntmps65
    go_wp2
    go_ret;exact⟨by simp[HS.bars,hu,h2],rfl⟩
def yA{o:Nat}(s:Int)(e2:aB w ⟨xb,o+2,af⟩=ae (ag ah s)):
 aW prog 66 #[az<|ae ⟨xb,o,af⟩] w fun e w'=>e=aV (.bool<|decide<|s=2\/s=3)/\w=w':=by
 by_cases h1:s=2
 ·subst h1;go_enter func66,ntmps66
  go_wp2
  go_ret;exact⟨rfl,rfl⟩
 ·have b1:(s==2)=false:=by simpa using h1
  by_cases h2:s=3
  ·subst h2;go_enter func66,ntmps66
   go_wp2
   go_ret;exact⟨rfl,rfl⟩
  ·have b2:(s==3)=false:=by simpa using h2
   go_enter func66,ntmps66
   go_wp2
   go_ret;exact⟨by simp[h1,h2],rfl⟩
def HS.tJ(h:HS)(p q:Int):Int:=if 0<=p/\p<h.P then(if 0<=q/\q<h.pl.length then 0 else 3)else 2
def FM(hh:aH w B xb n h)(p q:Int):
 aW prog 124 #[az<|ae ⟨xb,0,af⟩,ag ah p,ag ah q] w fun e w'=>e=aV (.int .i64<|h.tJ p q)/\w=w':=by
 have HH:aj (aH w B xb n h):=hh;by_cases h1:0<=p/\p<h.P
 ·have HP:aj (decide (0<=p/\p<h.P)=true):=jY h1;by_cases h2:0<=q/\q<h.pl.length
  ·have HQ:aj (decide (0<=q/\q<h.pl.length)=true):=jY h2;have HL:aj (h.tJ p q=0):=by show h.tJ p q=0;simp[HS.tJ,h1,h2]
   clear hh h1 h2;go_enter func124,ntmps124
   go_wp2_with (first
    |(go_at_call 64;refine(Bv HH.o p).z ?_;rw[HP.o];rintro e w1 ⟨rfl,rfl⟩)
    |(go_at_call 50;refine(LV HH.o q).z ?_;rw[HQ.o];rintro e w2 ⟨rfl,rfl⟩))
   go_ret;exact⟨by rw[HL.o]<;>rfl,rfl⟩
  ·have HQ:aj (decide (0<=q/\q<h.pl.length)=false):=qZ h2;have HL:aj (h.tJ p q=3):=by show h.tJ p q=3;simp only[HS.tJ,if_pos h1,if_neg h2]
   clear hh h1 h2;go_enter func124,ntmps124
   go_wp2_with (first
    |(go_at_call 64;refine(Bv HH.o p).z ?_;rw[HP.o];rintro e w1 ⟨rfl,rfl⟩)
    |(go_at_call 50;refine(LV HH.o q).z ?_;rw[HQ.o];rintro e w2 ⟨rfl,rfl⟩))
   go_ret;exact⟨by rw[HL.o]<;>rfl,rfl⟩
 ·have HP:aj (decide (0<=p/\p<h.P)=false):=qZ h1;have HL:aj (h.tJ p q=2):=by show h.tJ p q=2;simp only[HS.tJ,if_neg h1]
  clear hh h1;go_enter func124,ntmps124
  go_wp2_with (first
   |(go_at_call 64;refine(Bv HH.o p).z ?_;rw[HP.o];rintro e w1 ⟨rfl,rfl⟩))
  go_ret;exact⟨by rw[HL.o]<;>rfl,rfl⟩
end
section
variable{w w':ay}{B xb n:Nat}{h:HS}
variable{i:Nat}{x:PS}
def apq(hh:aH w B xb n h)(hx:h.ps[i]? =ae x)(hm:mY h ⟨1,i,0,x.e+1⟩):aW prog 129 #[az<|ae ⟨xb,4,af⟩,ag ah i] w (Ic h ⟨1,i,0,x.e+1⟩ w B xb n):=
 (apn hh hx hm).z fun _ _ ⟨ok,h',h1,h2,h3⟩=>by rw[h1];exact .mk h2 h3
def apr(hh:aH w B xb n h)(hx:h.ps[i]? =ae x){q:Int}(hm:mY h ⟨2,i,q,x.next⟩):aW prog 125 #[az<|ae ⟨xb,4,af⟩,ag ah i,ag ah q] w (Ic h ⟨2,i,q,x.next⟩ w B xb n):=
 (apo hh hx hm).z fun _ _ ⟨ok,h',h1,h2,h3⟩=>by rw[h1];exact .mk h2 h3
def aps(hh:aH w B xb n h){m:Int}(hm:0<=m/\m<h.P)(hu:h.up=false):
 aW prog 74 #[az<|ae ⟨xb,0,af⟩,ag ah m] w fun e w'=>e=aV (dU #[ag ah 0,ag ah 5])/\w=w':=by
 have HH:aj (aH w B xb n h):=hh;have HP:aj (decide (0<=m/\m<h.P)=true):=jY hm;have c5:=hh.cU;rw[hu]at c5;clear hh hm;go_enter func74,ntmps74
 go_wp2_with (go_at_call 64;refine(Bv HH.o m).z ?_;rw[HP.o];rintro e w1 ⟨rfl,rfl⟩)
 go_ret2
 exact⟨rfl,rfl⟩
inductive ag5(h:HS)(r:Rc)(w:ay)(B xb n:Nat):Ending->ay->Prop
 |mk {ok:Bool} {h':HS} {w':ay} (ho:jU h r ok h') (hm:di w w' B xb n h n h'):ag5 h r w B xb n (aV<|dU #[ag ah 0,ag ah 9]) w'
def apt(hh:aH w B xb n h)(hm:(i:Int)<h.P)(hu:h.up=true)(hx:h.ps[i]? =ae x)(hs:x.s=1)(hy:mY h ⟨3,i,0,x.t⟩):
 aW prog 74 #[az<|ae ⟨xb,0,af⟩,ag ah i] w (ag5 h ⟨3,i,0,x.t⟩ w B xb n):=by
 have HH:aj (aH w B xb n h):=hh;have HP:aj (decide (0<=(i:Int)/\(i:Int)<h.P)=true):=jY ⟨by omega,hm⟩;have HC:aj (aW prog 67 #[az<|ae ⟨xb,4,af⟩,ag ah i,aF false] w<|Ic h ⟨3,i,0,x.t⟩ w B xb n):=abw hh hx false hy;have c5:=hh.cU;rw[hu]at c5;obtain⟨⟨e0,e1,e2⟩,ef⟩:=hh.cellP hx;rw[hs]at e2;have lN:(i:Int)<6:=by have:=hh.hP.2;omega
 have ed:(0:Int)<=(i:Int):=by omega
 clear hh hm hx hy;go_enter func74,ntmps74
 go_wp2_with (first
  |(go_at_call 64;refine(Bv HH.o i).z ?_;rw[HP.o];rintro e w1 ⟨rfl,rfl⟩)
  |(go_at_call 67;refine HC.o.z ?_;rintro e w2 ⟨ho,dQ⟩
    rename_i ok h'
    have R2:aj (jU h ⟨3,i,0,x.t⟩ ok h'/\di w w2 B xb n h n h'):=⟨ho,dQ⟩
    clear ho dQ))
 go_ret2
 exact .mk R2.o.1 R2.o.2
def apu(hh:aH w B xb n h)(hm:(i:Int)<h.P)(hu:h.up=true)(hx:h.ps[i]? =ae x)(hs:x.s=2\/x.s=3):
 aW prog 74 #[az<|ae ⟨xb,0,af⟩,ag ah i] w fun e w'=>e=aV (dU #[ag ah 0,ag ah 9])/\w=w':=by
 have HH:aj (aH w B xb n h):=hh;have HP:aj (decide (0<=(i:Int)/\(i:Int)<h.P)=true):=jY ⟨by omega,hm⟩;have HE:aj (decide (x.s=2\/x.s=3)=true):=jY hs;have c5:=hh.cU;rw[hu]at c5;obtain⟨⟨e0,e1,e2⟩,ef⟩:=hh.cellP hx;have Jb:(x.s==1)=false:=by simp<;>omega
 have lN:(i:Int)<6:=by have:=hh.hP.2;omega
 have ed:(0:Int)<=(i:Int):=by omega
 have ou:aj (aB w ⟨xb,6+i*10+2,af⟩=ae (ag ah x.s)):=e2;clear hh hm hx hs;go_enter func74,ntmps74
 go_wp2_with (first
  |(go_at_call 64;refine(Bv HH.o i).z ?_;rw[HP.o];rintro e w1 ⟨rfl,rfl⟩)
  |(go_at_call 66;refine(yA x.s ou.o).z ?_;rw[HE.o];rintro e w1 ⟨rfl,rfl⟩))
 go_ret2
 exact⟨rfl,rfl⟩
inductive abx(h:HS)(r:Rc)(w:ay)(B xb n:Nat):Ending->ay->Prop
 |ok {h':HS} {w':ay} (ho:jU h r true h') (hm:di w w' B xb n h n h'):abx h r w B xb n (aV<|dU #[ag ah r.m,ag ah 0]) w'
 |uC {h':HS} {w':ay} (ho:jU h r false h') (hm:di w w' B xb n h n h'):abx h r w B xb n (aV<|dU #[ag ah 0,ag ah 5]) w'
variable{ep:Int}
def Xe{h h':HS}{r:Rc}(hx:h.ps[i]? =ae x)(hr:r.p=i)(ho:jU h r true h'):h'.ps[i]? =ae (x.dA r):=by
 cases ho with
 |ok jv hb=>
  have hi:i<h.ps.length:=(dS.1 hx).1;have e:r.p.toNat=i:=by omega
  show(kz h.ps r)[i]? =_;unfold kz;rw[e,nJ hi];simp[List.getD,hx]
def apv(hh:aH w B xb n h)(hm:(i:Int)<h.P)(hu:h.up=true)(hx:h.ps[i]? =ae x)(hs:x.s=0)(hy:mY h ⟨1,i,0,x.e+1⟩):
 aW prog 74 #[az<|ae ⟨xb,0,af⟩,ag ah i] w (abx h ⟨1,i,0,x.e+1⟩ w B xb n):=by
 have HH:aj (aH w B xb n h):=hh;have HX:aj (h.ps[i]? =ae x):=hx;have HP:aj (decide (0<=(i:Int)/\(i:Int)<h.P)=true):=jY ⟨by omega,hm⟩;have HC:aj (aW prog 129 #[az<|ae ⟨xb,4,af⟩,ag ah i] w<|Ic h ⟨1,i,0,x.e+1⟩ w B xb n):=apq hh hx hy;have c5:=hh.cU;rw[hu]at c5;obtain⟨⟨e0,e1,e2⟩,ef⟩:=hh.cellP hx;rw[hs]at e2;have ou:aj (aB w ⟨xb,6+i*10+2,af⟩=ae (ag ah 0)):=e2;have lN:(i:Int)<6:=by have:=hh.hP.2;omega
 have ed:(0:Int)<=(i:Int):=by omega
 clear hh hm hx hy;go_enter func74,ntmps74
 go_wp2_with (first
  |(go_at_call 64;refine(Bv HH.o i).z ?_;rw[HP.o];rintro e w1 ⟨rfl,rfl⟩)
  |(go_at_call 66;refine(yA 0 ou.o).z ?_;rintro e w1 ⟨rfl,rfl⟩)
  |(go_at_call 129;fail))
 refine HC.o.z ?_;rintro e w2 ⟨ho,dQ⟩;rename_i ok h';cases ok
 ·have R2:aj (jU h ⟨1,i,0,x.e+1⟩ false h'/\di w w2 B xb n h n h'):=⟨ho,dQ⟩;clear ho dQ;go_wp2_with fail
  go_ret2
  exact .uC R2.o.1 R2.o.2
 ·have R2:aj (jU h ⟨1,i,0,x.e+1⟩ true h'/\di w w2 B xb n h n h'):=⟨ho,dQ⟩;have d0:aB w2 ⟨xb,6+i*10,af⟩=ae (.int .i64<|x.e+1):=by
   have:=(dQ.at_.cellP<|Xe HX.o rfl ho).1.1;simpa[PS.dA]using this
  clear ho dQ e0;go_wp2_with fail
  go_ret2
  exact .ok R2.o.1 R2.o.2
def ag6(hh:aH w B xb n h)(hm:(i:Int)<h.P)(hx:h.ps[i]? =ae x)(hb:h.bars x ep≠0)(c:Bool):
 aW prog 28 #[az<|ae ⟨xb,0,af⟩,ag ah i,ag ah ep,aF c] w fun e w'=>e=aV (.int .i64<|h.bars x ep)/\w=w':=by
 have HH:aj (aH w B xb n h):=hh;have HX:aj (h.ps[i]? =ae x):=hx;have HP:aj (decide (0<=(i:Int)/\(i:Int)<h.P)=true):=jY ⟨by omega,hm⟩;have jW:i<6:=by have:=hh.hP.2;omega
 obtain⟨b,E6⟩:∃b,h.bars x ep=b:=⟨_,rfl⟩;have HB:aj (h.bars x ep=b):=E6;rw[E6]at hb⊢
 have AQ:(b==0)=false:=by simpa using hb
 clear hh hm hx E6;go_enter func28,ntmps28
 go_wp2_with (first
  |(go_at_call 64;refine(Bv HH.o i).z ?_;rw[HP.o];rintro e w1 ⟨rfl,rfl⟩)
  |(go_at_call 65;refine(Ad HH.o jW HX.o ep).z ?_;rw[HB.o];rintro e w1 ⟨rfl,rfl⟩))
 go_ret;exact⟨rfl,rfl⟩
def apw(hh:aH w B xb n h)(hm:(i:Int)<h.P)(hx:h.ps[i]? =ae x)(hb:h.bars x ep=0)(hs:x.s=0)(c:Bool):
 aW prog 28 #[az<|ae ⟨xb,0,af⟩,ag ah i,ag ah ep,aF c] w fun e w'=>e=aV (ag ah 8)/\w=w':=by
 have HH:aj (aH w B xb n h):=hh;have HX:aj (h.ps[i]? =ae x):=hx;have HP:aj (decide (0<=(i:Int)/\(i:Int)<h.P)=true):=jY ⟨by omega,hm⟩;have jW:i<6:=by have:=hh.hP.2;omega
 have HB:aj (h.bars x ep=0):=hb;obtain⟨⟨e0,e1,e2⟩,ef⟩:=hh.cellP hx;rw[hs]at e2;have lN:(i:Int)<6:=by omega
 have ed:(0:Int)<=(i:Int):=by omega
 clear hh hm hx hb;go_enter func28,ntmps28
 go_wp2_with (first
  |(go_at_call 64;refine(Bv HH.o i).z ?_;rw[HP.o];rintro e w1 ⟨rfl,rfl⟩)
  |(go_at_call 65;refine(Ad HH.o jW HX.o ep).z ?_;rw[HB.o];rintro e w1 ⟨rfl,rfl⟩))
 go_ret;exact⟨rfl,rfl⟩
def apx(hh:aH w B xb n h)(hm:(i:Int)<h.P)(hx:h.ps[i]? =ae x)(hb:h.bars x ep=0)(hs:x.s=2\/x.s=3)(c:Bool):
 aW prog 28 #[az<|ae ⟨xb,0,af⟩,ag ah i,ag ah ep,aF c] w fun e w'=>e=aV (ag ah 9)/\w=w':=by
 have HH:aj (aH w B xb n h):=hh;have HX:aj (h.ps[i]? =ae x):=hx;have HP:aj (decide (0<=(i:Int)/\(i:Int)<h.P)=true):=jY ⟨by omega,hm⟩;have jW:i<6:=by have:=hh.hP.2;omega
 have HB:aj (h.bars x ep=0):=hb;have HE:aj (decide (x.s=2\/x.s=3)=true):=jY hs;obtain⟨⟨e0,e1,e2⟩,ef⟩:=hh.cellP hx;have Jb:(x.s==0)=false:=by simp<;>omega
 have ou:aj (aB w ⟨xb,6+i*10+2,af⟩=ae (ag ah x.s)):=e2;have lN:(i:Int)<6:=by omega
 have ed:(0:Int)<=(i:Int):=by omega
 clear hh hm hx hb hs;go_enter func28,ntmps28
 go_wp2_with (first
  |(go_at_call 64;refine(Bv HH.o i).z ?_;rw[HP.o];rintro e w1 ⟨rfl,rfl⟩)
  |(go_at_call 65;refine(Ad HH.o jW HX.o ep).z ?_;rw[HB.o];rintro e w1 ⟨rfl,rfl⟩)
  |(go_at_call 66;refine(yA x.s ou.o).z ?_;rw[HE.o];rintro e w1 ⟨rfl,rfl⟩))
 go_ret;exact⟨rfl,rfl⟩
inductive aby(h:HS)(r:Rc)(w:ay)(B xb n:Nat):Ending->ay->Prop
 |ok {h':HS} {w':ay} (ho:jU h r true h') (hm:di w w' B xb n h n h'):aby h r w B xb n (aV<|ag ah 0) w'
 |uC {h':HS} {w':ay} (ho:jU h r false h') (hm:di w w' B xb n h n h'):aby h r w B xb n (aV<|ag ah 5) w'
def apy(hh:aH w B xb n h)(hm:(i:Int)<h.P)(hx:h.ps[i]? =ae x)(hb:h.bars x ep=0)(hs:x.s=1)(c:Bool)(hy:mY h ⟨3,i,if c then 1 else 0,x.t⟩):
 aW prog 28 #[az<|ae ⟨xb,0,af⟩,ag ah i,ag ah ep,aF c] w (aby h ⟨3,i,if c then 1 else 0,x.t⟩ w B xb n):=by
 have HH:aj (aH w B xb n h):=hh;have HX:aj (h.ps[i]? =ae x):=hx;have HP:aj (decide (0<=(i:Int)/\(i:Int)<h.P)=true):=jY ⟨by omega,hm⟩;have jW:i<6:=by have:=hh.hP.2;omega
 have HB:aj (h.bars x ep=0):=hb;obtain⟨r,hr⟩:∃r:Rc,(⟨3,i,if c then 1 else 0,x.t⟩:Rc)=r:=⟨_,rfl⟩;have HC:aj (aW prog 67 #[az<|ae ⟨xb,4,af⟩,ag ah i,aF c] w<|Ic h r w B xb n):=by have:=abw hh hx c hy;rw[hr]at this;exact this
 rw[hr];obtain⟨⟨e0,e1,e2⟩,ef⟩:=hh.cellP hx;rw[hs]at e2;have ou:aj (aB w ⟨xb,6+i*10+2,af⟩=ae (ag ah 1)):=e2;have lN:(i:Int)<6:=by omega
 have ed:(0:Int)<=(i:Int):=by omega
 clear hh hm hx hb hy hr;go_enter func28,ntmps28
 go_wp2_with (first
  |(go_at_call 64;refine(Bv HH.o i).z ?_;rw[HP.o];rintro e w1 ⟨rfl,rfl⟩)
  |(go_at_call 65;refine(Ad HH.o jW HX.o ep).z ?_;rw[HB.o];rintro e w1 ⟨rfl,rfl⟩)
  |(go_at_call 66;refine(yA 1 ou.o).z ?_;rintro e w1 ⟨rfl,rfl⟩)
  |(go_at_call 67;fail))
 refine HC.o.z ?_;rintro e w2 ⟨ho,dQ⟩;rename_i ok h';cases ok
 ·have R2:aj (jU h r false h'/\di w w2 B xb n h n h'):=⟨ho,dQ⟩;clear ho dQ;go_wp2_with fail
  go_ret;exact .uC R2.o.1 R2.o.2
 ·have R2:aj (jU h r true h'/\di w w2 B xb n h n h'):=⟨ho,dQ⟩;clear ho dQ;go_wp2_with fail
  go_ret;exact .ok R2.o.1 R2.o.2
end
section
def HS.iD(h:HS)(k:Nat)(p:PL):HS:={h with pl:=h.pl.set k p}
variable{w w':ay}{B xb n:Nat}{h:HS}
def ag7:∀(l:List PL) (k:Nat) (p p':PL),l[k]? =ae p->p'.lb=p.lb->p'.out=p.out->qj (l.set k p')=qj l
 |[],k,p,p',h,_,_=>by simp at h
 |x::r,0,p,p',h,h1,h2=>by
  simp only[yV,gU]at h;subst h;simp[qj,PL.cs,h1,h2]
 |x::r,k+1,p,p',h,h1,h2=>by
  simp only[Bi]at h;have:=ag7 r k p p' h h1 h2;simp only[qj,List.set_cons_succ,pF]at this⊢
  rw[this]
def aH.z(hh:aH w B xb n h){m:Nat}(hm:n<=m):aH w B xb m h:=
 ⟨hh.blk,hh.mg,hh.ku,hh.nM,fun p hp=>(hh.dZ p hp).z hm,hh.hx,hh.hP,hh.hQ,hh.h6⟩
def aH.Xf(hh:aH w B xb n h)(ha:jk h.pl){k:Nat}{p:PL}(hk:h.pl[k]? =ae p){v':aA}{s':aJ}{m:Nat}(hm:n<=m)(hl:Left w w' B p.lb p.bm p.v v' m s'):
 di w w' B xb n h m (h.iD k ⟨p.lb,p.bm,v',s',p.out⟩)/\jk (h.iD k ⟨p.lb,p.bm,v',s',p.out⟩).pl:=by
 have oq:=(dS.1 hk).1;have rJ:=gZ hk;have CY:=hh.dZ p rJ;have fr:Fr (CW p.lb p.bm p.v) w w':=hl.fr.z fun _ e=>.inl e;have row:∀{ty:dJ} {wd:Nat} {v:aA} {j:Nat} {xs:List aA},bD w B ty wd v j xs->ty≠163->ty≠1000000->ty≠55->bD w' B ty wd v j xs:=fun ho h1 h2 h3=>fr.ownsRow ho (fun q hq e=>by
  have t0:=iY ho hq;rcases CY.tags e with t1|t1|t1<;>rw[t0]at t1
  ·exact h1 t1
  ·exact h2 t1
  ·exact h3 t1)
 have mem:∀q,q∈(h.pl.set k ⟨p.lb,p.bm,v',s',p.out⟩)->q=⟨p.lb,p.bm,v',s',p.out⟩\/∃j,j≠k/\h.pl[j]? =ae q:=fun q hq=>by
  obtain⟨j,hj⟩:=WL.1 hq;by_cases e:j=k
  ·subst e;rw[nJ oq]at hj;exact .inl (rP hj).s
  ·rw[vZ fun e2=>e e2.s]at hj;exact .inr ⟨j,e,hj⟩
 have abz:∀x,CW p.lb p.bm v' x->CW p.lb p.bm p.v x\/w.heap.size<=x:=fun x hx=>by
  rcases hx with e|e|e
  ·exact .inl<|.inl e
  ·exact .inl<|.inr<|.inl e
  ·rcases hl.OX x e with a|a
   ·exact .inl<|.inr<|.inr a
   ·exact .inr a
 have hold:∀q∈h.pl,∀x,CW q.lb q.bm q.v x->x<w.heap.size:=fun q hq x hx=>(hh.uz<|.inr<|.inr<|.inr<|.inr ⟨q,hq,hx⟩).1;refine⟨⟨⟨(fr.block xb (bn hh.blk)<|hh.LU rJ).t hh.blk,row hh.mg (by decide) (by decide)<|by decide,?_,row hh.nM (by decide) (by decide)<|by decide,?_,hh.hx,hh.hP,?_,hh.h6⟩,?_,?_⟩,?_⟩
 ·show w'.ownsRow B 98 2 h.pv (h.pl.set k _).length (qj<|h.pl.set k _);rw[zZ,ag7 h.pl k p ⟨p.lb,p.bm,v',s',p.out⟩ hk rfl rfl];exact row hh.ku (by decide) (by decide)<|by decide
 ·intro q hq;rcases mem q hq with rfl|⟨j,hj,N7⟩
  ·exact hl.log
  ·exact((hh.dZ q<|gZ N7).stay fr fun x e hf=>ha k j p q (fun e2=>hj e2.s) hk N7 x e hf).z hm
 ·show h.Q=((h.pl.set k _).length:Int)/\_;rw[zZ];exact hh.hQ
 ·exact fr.z fun x e=>.inl<|.inr<|.inr<|.inr<|.inr ⟨p,rJ,e⟩
 ·intro x hx;rcases hx with e|e|e|e|⟨q,hq,hf⟩
  ·exact .inl<|.inl e
  ·exact .inl<|.inr<|.inl e
  ·exact .inl<|.inr<|.inr<|.inl e
  ·exact .inl<|.inr<|.inr<|.inr<|.inl e
  ·rcases mem q hq with rfl|⟨j,hj,N7⟩
   ·rcases abz x hf with a|a
    ·exact .inl<|.inr<|.inr<|.inr<|.inr ⟨p,rJ,a⟩
    ·exact .inr a
   ·exact .inl<|.inr<|.inr<|.inr<|.inr ⟨q,gZ N7,hf⟩
 ·intro i j a b zI hi hj x h1 h2;have pick:∀{i:Nat} {a:PL},(h.pl.set k ⟨p.lb,p.bm,v',s',p.out⟩)[i]? =ae a->(i=k/\a=⟨p.lb,p.bm,v',s',p.out⟩)\/(i≠k/\h.pl[i]? =ae a):=fun{i a} hi=>by
   by_cases e:i=k
   ·subst e;rw[nJ oq]at hi;exact .inl ⟨rfl,(rP hi).s⟩
   ·rw[vZ fun e2=>e e2.s]at hi;exact .inr ⟨e,hi⟩
  rcases pick hi with⟨e1,rfl⟩|⟨e1,nI⟩<;>rcases pick hj with⟨e2,rfl⟩|⟨e2,DJ⟩
  ·omega
  ·rcases abz x h1 with c|c
   ·exact ha k j p b (fun e=>e2 e.s) hk DJ x c h2
   ·have:=hold b (gZ DJ) x h2;omega
  ·rcases abz x h2 with c|c
   ·exact ha i k a p e1 nI hk x h1 c
   ·have:=hold a (gZ nI) x h1;omega
  ·exact ha i j a b zI nI DJ x h1 h2
end
section
variable{w w':ay}{B xb n:Nat}{h:HS}
variable{q i:Nat}{x:PS}{ep:Int}
def Ie{p:Nat}(hp:(p:Int)<h.P)(hq:q<h.pl.length):h.tJ p q=0:=by
 simp only[HS.tJ];rw[if_pos ⟨by omega,hp⟩,if_pos ⟨by omega,by omega⟩]
def ag8(hh:aH w B xb n h)(hm:(i:Int)<h.P)(hq:q<h.pl.length)(hx:h.ps[i]? =ae x)(hb:h.bars x ep≠0):
 aW prog 63 #[az<|ae ⟨xb,0,af⟩,ag ah i,ag ah ep,ag ah q] w fun e w'=>e=aV (.int .i64<|h.bars x ep)/\w=w':=by
 have HH:aj (aH w B xb n h):=hh;have HX:aj (h.ps[i]? =ae x):=hx;have HL:aj (h.tJ i q=0):=Ie hm hq;have jW:i<6:=by have:=hh.hP.2;omega
 obtain⟨b,E6⟩:∃b,h.bars x ep=b:=⟨_,rfl⟩;have HB:aj (h.bars x ep=b):=E6;rw[E6]at hb⊢
 have AQ:(b==0)=false:=by simpa using hb
 clear hh hm hx E6 hq;go_enter func63,ntmps63
 go_wp2_with (first
  |(go_at_call 124;refine(FM HH.o i q).z ?_;rw[HL.o];rintro e w1 ⟨rfl,rfl⟩)
  |(go_at_call 65;refine(Ad HH.o jW HX.o ep).z ?_;rw[HB.o];rintro e w1 ⟨rfl,rfl⟩))
 go_ret;exact⟨rfl,rfl⟩
def apz(hh:aH w B xb n h)(hm:(i:Int)<h.P)(hq:q<h.pl.length)(hx:h.ps[i]? =ae x)(hb:h.bars x ep=0)(hs:x.s=2\/x.s=3):
 aW prog 63 #[az<|ae ⟨xb,0,af⟩,ag ah i,ag ah ep,ag ah q] w fun e w'=>e=aV (ag ah 9)/\Fr aS w w':=by
 have HH:aj (aH w B xb n h):=hh;have HX:aj (h.ps[i]? =ae x):=hx;have HL:aj (h.tJ i q=0):=Ie hm hq;have jW:i<6:=by have:=hh.hP.2;omega
 have HB:aj (h.bars x ep=0):=hb;have HE:aj (decide (x.s=2\/x.s=3)=true):=jY hs;obtain⟨⟨e0,e1,e2⟩,ef⟩:=hh.cellP hx;have ou:aj (aB w ⟨xb,6+i*10+2,af⟩=ae (ag ah x.s)):=e2;obtain⟨p,hp⟩:∃p,h.pl[q]? =ae p:=⟨_,eY hq⟩;obtain⟨g,cap,iV,hg,vP,c0,c1⟩:=hh.place hp;have cV:=hh.cV;rw[iV]at cV;have lN:(i:Int)<6:=by omega
 have ed:(0:Int)<=(i:Int):=by omega
 have sW:(0:Int)<=(q:Int):=by omega
 have wS:(q:Int)<h.pl.length:=by omega
 clear hh hm hx hb hs hp iV;go_enter func63,ntmps63
 go_wp2_with (first
  |(go_at_call 124;refine(FM HH.o i q).z ?_;rw[HL.o];rintro e w1 ⟨rfl,rfl⟩)
  |(go_at_call 65;refine(Ad HH.o jW HX.o ep).z ?_;rw[HB.o];rintro e w1 ⟨rfl,rfl⟩))
 go_region
 go_wp2_with (first
  |(go_at_call 66;refine(yA x.s<|by exact ou.o).z ?_;rw[HE.o];rintro e w1 ⟨rfl,rfl⟩))
 go_ret;exact⟨rfl,dR.drew⟩
def apA(hh:aH w B xb n h)(hm:(i:Int)<h.P){p:PL}(hp:h.pl[q]? =ae p)(ho:p.out=true)(hx:h.ps[i]? =ae x)(hb:h.bars x ep=0)(hs:x.s=0\/x.s=1):
 aW prog 63 #[az<|ae ⟨xb,0,af⟩,ag ah i,ag ah ep,ag ah q] w fun e w'=>e=aV (ag ah 10)/\Fr aS w w':=by
 have HH:aj (aH w B xb n h):=hh;have HX:aj (h.ps[i]? =ae x):=hx;have hq:=(dS.1 hp).1;have HL:aj (h.tJ i q=0):=Ie hm hq;have jW:i<6:=by have:=hh.hP.2;omega
 have HB:aj (h.bars x ep=0):=hb;have HE:aj (decide (x.s=2\/x.s=3)=false):=qZ (by omega);obtain⟨⟨e0,e1,e2⟩,ef⟩:=hh.cellP hx;have ou:aj (aB w ⟨xb,6+i*10+2,af⟩=ae (ag ah x.s)):=e2;obtain⟨g,cap,iV,hg,vP,c0,c1⟩:=hh.place hp;rw[ho]at c1;have cV:=hh.cV;rw[iV]at cV;have lN:(i:Int)<6:=by omega
 have ed:(0:Int)<=(i:Int):=by omega
 have sW:(0:Int)<=(q:Int):=by omega
 have wS:(q:Int)<h.pl.length:=by omega
 clear hh hm hx hb hs hp iV ho;go_enter func63,ntmps63
 go_wp2_with (first
  |(go_at_call 124;refine(FM HH.o i q).z ?_;rw[HL.o];rintro e w1 ⟨rfl,rfl⟩)
  |(go_at_call 65;refine(Ad HH.o jW HX.o ep).z ?_;rw[HB.o];rintro e w1 ⟨rfl,rfl⟩))
 go_region
 go_wp2_with (first
  |(go_at_call 66;refine(yA x.s<|by exact ou.o).z ?_;rw[HE.o];rintro e w1 ⟨rfl,rfl⟩))
 go_ret;exact⟨rfl,dR.drew⟩
def aH.quiet(hh:aH w B xb n h)(hx:h.ps[i]? =ae x):di w (aX w ⟨xb,6+i*10+7,af⟩<|ag ah 0) B xb n h n (h.eH i {x with si:=0}):=by
 have:=hh.setCell {x with si:=0} (j:=7) (v:=ag ah 0) hx (by omega) rfl;exact di.own this.2 this.1 fun k hk=>hk
inductive ag9(w:ay)(B xb n:Nat)(h1:HS)(i q:Nat)(x:PS)(p:PL):Ending->ay->Prop
 |mk {v':aA} {w':ay} (hm:di w w' B xb n h1 (n+1) ((h1.iD q ⟨p.lb,p.bm,v',p.s.opened i x.t,p.out⟩).eH i {x with si:=0})) (ha:jk (h1.iD q ⟨p.lb,p.bm,v',p.s.opened i x.t,p.out⟩).pl):ag9 w B xb n h1 i q x p (aV<|ag ah 0) w'
def apB(hh:aH w B xb n h)(ha:jk h.pl)(hm:(i:Int)<h.P){p:PL}(hp:h.pl[q]? =ae p)(ho:p.out=false)(hx:h.ps[i]? =ae x)(hb:h.bars x ep=0)(hs:x.s=0\/x.s=1)(ht:x.bG.getD q 0≠0)(hn:n<eP):
 aW prog 63 #[az<|ae ⟨xb,0,af⟩,ag ah i,ag ah ep,ag ah q] w (ag9 w B xb n h i q x p):=by
 have HH:aj (aH w B xb n h):=hh;have HX:aj (h.ps[i]? =ae x):=hx;have HA:aj (jk h.pl):=ha;have wB:aj (h.pl[q]? =ae p):=hp;have hq:=(dS.1 hp).1;have nT:q<4:=by have:=hh.hQ;omega
 have HL:aj (h.tJ i q=0):=Ie hm hq;have jW:i<6:=by have:=hh.hP.2;omega
 have HB:aj (h.bars x ep=0):=hb;have HE:aj (decide (x.s=2\/x.s=3)=false):=qZ (by omega);have Xg:aj (fA w B p.lb p.bm p.v n p.s):=hh.dZ p<|gZ hp;have fK:aj (n<eP):=hn;have HI:aj (fO (i:Int)):=LZ (by omega) (by omega);obtain⟨⟨e0,e1,e2⟩,ef⟩:=hh.cellP hx;have ou:aj (aB w ⟨xb,6+i*10+2,af⟩=ae (ag ah x.s)):=e2;have e3:aB w ⟨xb,6+i*10+3+q,af⟩=ae (.int .i64<|x.bG.getD q 0):=by rw[Aa];exact hh.jy hx (3+q) _<|LY _ nT
 obtain⟨tv,SC⟩:∃tv,x.bG.getD q 0=tv:=⟨_,rfl⟩;rw[SC]at e3 ht;have QW:(tv==0)=false:=by simpa using ht
 obtain⟨g,cap,iV,hg,vP,c0,c1⟩:=hh.place hp;rw[ho]at c1;have cV:=hh.cV;rw[iV]at cV;have lN:(i:Int)<6:=by omega
 have ed:(0:Int)<=(i:Int):=by omega
 have sW:(0:Int)<=(q:Int):=by omega
 have wS:(q:Int)<h.pl.length:=by omega
 have abA:(q:Int)<4:=by omega
 have FD:aj (Fr aS w w.drew.drew):=(dR.drew).drew;have SE:aj (fA w.drew.drew B p.lb p.bm p.v n p.s):=FD.o.logAt Xg.o id id fun _ _=>id;have rJ:=gZ hp;have SG:aj (¬(g=p.lb\/g=p.bm\/p.v.ownBlock=ae g)):=fun e=>by
  have t0:=iY hh.ku (k:=g) (by rw[iV];rfl);rcases(hh.dZ p rJ).tags e with t1|t1|t1<;>rw[t0]at t1<;>cases t1
 have SH:aj (¬(xb=p.lb\/xb=p.bm\/p.v.ownBlock=ae xb)):=hh.LU rJ;have iC:=bn hh.blk;clear hh hm hx hb hs hp iV ho ha hn ht SC rJ;go_enter func63,ntmps63
 go_wp2_with (first
  |(go_at_call 124;refine(FM HH.o i q).z ?_;rw[HL.o];rintro e w1 ⟨rfl,rfl⟩)
  |(go_at_call 65;refine(Ad HH.o jW HX.o ep).z ?_;rw[HB.o];rintro e w1 ⟨rfl,rfl⟩))
 go_region
 go_wp2_with (first
  |(go_at_call 66;refine(yA x.s<|by exact ou.o).z ?_;rw[HE.o];rintro e w1 ⟨rfl,rfl⟩))
 go_region_held3 (fun w'=>aB w' ⟨g,q*2,af⟩=ae (az<|ae ⟨p.lb,0,af⟩)/\aB w' ⟨xb,6+i*10+1,af⟩=ae (ag ah x.t))
  (first|with_reducible exact C2|exact⟨c0,e1⟩|go_keep)
  ((go_at_call 126;refine(agt (w:=w.drew.drew) SE.o i x.t HI.o fK.o).z ?_;rintro e w3 ⟨rfl,hl⟩
    have dQ:=(HH.o.a FD.o).Xf HA.o wB.o (by omega) hl
    have L3:aj (di w w3 B xb n h (n+1) (h.iD q ⟨p.lb,p.bm,p.v,p.s.opened i x.t,p.out⟩)/\jk (h.iD q ⟨p.lb,p.bm,p.v,p.s.opened i x.t,p.out⟩).pl):=⟨dQ.1.behind FD.o,dQ.2⟩
    have C2:aB w3 ⟨g,q*2,af⟩=ae (az<|ae ⟨p.lb,0,af⟩)/\aB w3 ⟨xb,6+i*10+1,af⟩=ae (ag ah x.t):=⟨(hl.fr.cell (p:=⟨g,q*2,af⟩) hg SG.o).t c0,(hl.fr.cell (p:=⟨xb,6+i*10+1,af⟩) iC SH.o).t e1⟩
    have d7:aB w3 ⟨xb,6+i*10+7,af⟩=ae (ag ah x.si):=L3.o.1.at_.jy (p:=x) HX.o 7 _ rfl
    have df:∀o,w3.frozen? ⟨xb,o,af⟩=false:=kK L3.o.1.at_.blk
    clear hl dQ))
 go_wp2_with fail
 go_ret;have E7:(h.iD q ⟨p.lb,p.bm,p.v,p.s.opened i x.t,p.out⟩).ps[i]? =ae x:=HX.o;exact .mk (v':=p.v) (L3.o.1.t<|L3.o.1.at_.quiet E7) L3.o.2
end
section
variable{w w':ay}{B xb n:Nat}{h:HS}
inductive abB(w:ay)(B xb n:Nat)(h:HS)(i q:Nat)(x:PS)(p:PL):Ending->ay->Prop
 |ok {h1:HS} {v':aA} {w':ay} (ho:jU h ⟨2,i,q,x.next⟩ true h1) (hm:di w w' B xb n h (n+1) ((h1.iD q ⟨p.lb,p.bm,v',p.s.opened i x.next,p.out⟩).eH i {x.dA ⟨2,i,q,x.next⟩with si:=0})) (ha:jk (h1.iD q ⟨p.lb,p.bm,v',p.s.opened i x.next,p.out⟩).pl):abB w B xb n h i q x p (aV<|ag ah 0) w'
 |uC {h':HS} {w':ay} (ho:jU h ⟨2,i,q,x.next⟩ false h') (hm:di w w' B xb n h n h'):abB w B xb n h i q x p (aV<|ag ah 5) w'
def aha(x:PS)(i q:Int)(t:Int):(x.dA ⟨2,i,q,t⟩).t=t/\(x.dA ⟨2,i,q,t⟩).si=x.si/\(x.dA ⟨2,i,q,t⟩).s=1:=by
 have e:x.dA ⟨2,i,q,t⟩=({x with s:=1,t:=t}:PS).tie q 1:=by simp[PS.dA]
 obtain⟨r1,r2,r3,r4,r5,r6⟩:=H7 ({x with s:=1,t:=t}:PS) q 1;rw[e];exact⟨r2,r4,r3⟩
def jU.apC{r:Rc}{h1:HS}(ho:jU h r true h1):h1.pl=h.pl/\h1.pv=h.pv/\h1.Q=h.Q/\h1.P=h.P:=by
 cases ho;exact⟨rfl,rfl,rfl,rfl⟩
def apD(hh:aH w B xb n h)(ha:jk h.pl){i q:Nat}(hm:(i:Int)<h.P){p:PL}(hp:h.pl[q]? =ae p)(ho:p.out=false){x:PS}(hx:h.ps[i]? =ae x){ep:Int}(hb:h.bars x ep=0)(hs:x.s=0\/x.s=1)(ht:x.bG.getD q 0=0)(hn:n<eP)(hy:mY h ⟨2,i,q,x.next⟩):
 aW prog 63 #[az<|ae ⟨xb,0,af⟩,ag ah i,ag ah ep,ag ah q] w (abB w B xb n h i q x p):=by
 have HH:aj (aH w B xb n h):=hh;have HX:aj (h.ps[i]? =ae x):=hx;have HA:aj (jk h.pl):=ha;have wB:aj (h.pl[q]? =ae p):=hp;have hq:=(dS.1 hp).1;have nT:q<4:=by have:=hh.hQ;omega
 have HL:aj (h.tJ i q=0):=Ie hm hq;have jW:i<6:=by have:=hh.hP.2;omega
 have HB:aj (h.bars x ep=0):=hb;have HE:aj (decide (x.s=2\/x.s=3)=false):=qZ (by omega);have fK:aj (n<eP):=hn;have HI:aj (fO (i:Int)):=LZ (by omega) (by omega);have HC:aj (aW prog 125 #[az<|ae ⟨xb,4,af⟩,ag ah i,ag ah q] w.drew<|Ic h ⟨2,i,q,x.next⟩ w.drew B xb n):=apr (hh.a<|dR.drew) hx hy;obtain⟨⟨e0,e1,e2⟩,ef⟩:=hh.cellP hx;have ou:aj (aB w ⟨xb,6+i*10+2,af⟩=ae (ag ah x.s)):=e2;have e3:aB w ⟨xb,6+i*10+3+q,af⟩=ae (.int .i64<|x.bG.getD q 0):=by rw[Aa];exact hh.jy hx (3+q) _<|LY _ nT
 rw[ht]at e3;obtain⟨g,cap,iV,hg,vP,c0,c1⟩:=hh.place hp;rw[ho]at c1;have cV:=hh.cV;rw[iV]at cV;have O9:aj (h.pv=aN (ae ⟨g,0,af⟩) h.pl.length cap):=iV;have lN:(i:Int)<6:=by omega
 have ed:(0:Int)<=(i:Int):=by omega
 have sW:(0:Int)<=(q:Int):=by omega
 have wS:(q:Int)<h.pl.length:=by omega
 have abA:(q:Int)<4:=by omega
 clear hh hm hx hb hs hp iV ho ha hn ht hy;go_enter func63,ntmps63
 go_wp2_with (first
  |(go_at_call 124;refine(FM HH.o i q).z ?_;rw[HL.o];rintro e w1 ⟨rfl,rfl⟩)
  |(go_at_call 65;refine(Ad HH.o jW HX.o ep).z ?_;rw[HB.o];rintro e w1 ⟨rfl,rfl⟩))
 go_region
 go_wp2_with (first
  |(go_at_call 66;refine(yA x.s<|by exact ou.o).z ?_;rw[HE.o];rintro e w1 ⟨rfl,rfl⟩)
  |(go_at_call 125;fail))
 refine HC.o.z ?_;rintro e w2 ⟨ho,dQ⟩;rename_i ok h1;cases ok
 ·have R2:aj (jU h ⟨2,i,q,x.next⟩ false h1/\di w w2 B xb n h n h1):=⟨ho,dQ.behind<|dR.drew⟩;clear ho dQ;go_wp2_with fail
  go_ret;exact .uC R2.o.1 R2.o.2
 ·have HO:aj (jU h ⟨2,i,q,x.next⟩ true h1):=ho;have R2:aj (di w w2 B xb n h n h1):=dQ.behind<|dR.drew;have iJ:=Xe HX.o rfl ho;obtain⟨abC,aeO,_,_⟩:=ho.apC;obtain⟨dt,dsi,_⟩:=aha x i q x.next;obtain⟨x1,KQ⟩:∃x1,x.dA ⟨2,i,q,x.next⟩=x1:=⟨_,rfl⟩;rw[KQ]at iJ dt dsi;have Xh:aj (x.dA ⟨2,i,q,x.next⟩=x1):=KQ;have HX1:aj (h1.ps[i]? =ae x1):=iJ;have abD:aj (h1.pl[q]? =ae p):=by show h1.pl[q]? =ae p;rw[abC];exact wB.o
  have HA1:aj (jk h1.pl):=by show jk h1.pl;rw[abC];exact HA.o
  have k1:aB w2 ⟨xb,6+i*10+1,af⟩=ae (ag ah x.next):=by have:=(dQ.at_.cellP iJ).1.2.1;rw[dt]at this;exact this
  obtain⟨g',aeG,abE,mJ,_,ZQ,_⟩:=dQ.at_.place abD.o;rw[aeO,O9.o]at abE;simp only[aFi,gU,Addr.mk.injEq,and_true]at abE;obtain⟨rfl,_,_⟩:=abE;have rJ:p∈h1.pl:=gZ abD.o;have SG:aj (¬(g=p.lb\/g=p.bm\/p.v.ownBlock=ae g)):=fun e=>by
   have t0:=iY dQ.at_.ku (k:=g) (by rw[aeO,O9.o];rfl);rcases(dQ.at_.dZ p rJ).tags e with t1|t1|t1<;>rw[t0]at t1<;>cases t1
  have SH:aj (¬(xb=p.lb\/xb=p.bm\/p.v.ownBlock=ae xb)):=dQ.at_.LU rJ;have FD:aj (Fr aS w2 w2.drew):=dR.drew;have SE:aj (fA w2.drew B p.lb p.bm p.v n p.s):=FD.o.logAt (dQ.at_.dZ p rJ) id id fun _ _=>id;have iC:=bn dQ.at_.blk;have HH1:aj (aH w2.drew B xb n h1):=dQ.at_.a FD.o;clear ho dQ iJ abC aeO dt dsi KQ rJ c0 c1 cV e0 e1 e2 e3 ef hg;go_wp2_with fail
  go_region_held3 (fun w'=>aB w' ⟨g,q*2,af⟩=ae (az<|ae ⟨p.lb,0,af⟩)/\aB w' ⟨xb,6+i*10+1,af⟩=ae (ag ah x.next))
   (first|with_reducible exact C2|exact⟨ZQ,k1⟩|go_keep)
   ((go_at_call 126;refine(agt (w:=w2.drew) SE.o i x.next HI.o fK.o).z ?_;rintro e w3 ⟨rfl,hl⟩
     have dQ:=HH1.o.Xf HA1.o abD.o (by omega) hl
     have L3:aj (di w w3 B xb n h (n+1) (h1.iD q ⟨p.lb,p.bm,p.v,p.s.opened i x.next,p.out⟩)/\jk (h1.iD q ⟨p.lb,p.bm,p.v,p.s.opened i x.next,p.out⟩).pl):=⟨R2.o.t<|dQ.1.behind FD.o,dQ.2⟩
     have C2:aB w3 ⟨g,q*2,af⟩=ae (az<|ae ⟨p.lb,0,af⟩)/\aB w3 ⟨xb,6+i*10+1,af⟩=ae (ag ah x.next):=⟨(hl.fr.cell (p:=⟨g,q*2,af⟩) mJ SG.o).t ZQ,(hl.fr.cell (p:=⟨xb,6+i*10+1,af⟩) iC SH.o).t k1⟩
     have d7:aB w3 ⟨xb,6+i*10+7,af⟩=ae (ag ah x1.si):=L3.o.1.at_.jy (p:=x1) HX1.o 7 _ rfl
     have df:∀o,w3.frozen? ⟨xb,o,af⟩=false:=kK L3.o.1.at_.blk
     clear hl dQ))
  go_wp2_with fail
  go_ret;have E7:(h1.iD q ⟨p.lb,p.bm,p.v,p.s.opened i x.next,p.out⟩).ps[i]? =ae x1:=HX1.o;refine .ok (v':=p.v) HO.o ?_ L3.o.2;rw[Xh.o];exact L3.o.1.t<|L3.o.1.at_.quiet E7
end
section
variable{w w':ay}{B xb n:Nat}{h:HS}
variable{v:aA}{xs:List Int}{i q:Nat}{x:PS}{ep:Int}{ts:ByteArray}
def apE(hr:bD w B 3 1 v xs.length (gm xs))(m:Int):
 aW prog 183 #[v,ag ah m] w fun r w'=>(∃j:Int,r=aV (ag ah j)/\(0<=j↔m∈xs)/\j<9223372036854775807/\-1<=j)/\w=w':=by
 obtain⟨va,vc,rfl,hl⟩:=lI hr;unfold eP at hl;have H:aj (bD w B 3 1 (.slice va xs.length vc) xs.length<|gm xs):=hr;clear hr;go_enter func183,ntmps183
 go_wp2_with fail
 go_loop [8] (fun i=>∃k:Nat,k<=xs.length/\i=ag ah k/\∀(j:Nat) x,j<k->xs[j]? =ae x->x≠m) (fun i=>xs.length-(eU i).toNat)
 case atStart=>exact⟨0,kH _,rfl,fun j x hj=>by omega⟩
 case round=>
  obtain⟨k,hk,rfl,jR⟩:=hrel
  have HA:aj (∀(j:Nat) x,j<k->xs[j]? =ae x->x≠m):=jR
  clear jR
  by_cases aK:k<xs.length
  ·obtain⟨x,hx⟩:∃x,xs[k]? =ae x:=⟨_,eY aK⟩
   have HX:aj (xs[k]? =ae x):=hx
   rcases H.o.2 with⟨_,h0⟩|⟨g,cap,cur,hv,hb,hg,h1,h2,_⟩
   ·omega
   ·simp only[aFi]at hv
    obtain⟨rfl,_,rfl⟩:=hv
    have c0:=Bo H.o hx
    have zH:(k:Int)<(xs.length:Int):=by omega
    have sU:(0:Int)<=(k:Int):=by omega
    clear hx hg h2 hb
    by_cases e:m=x
    ·have HM:aj (m∈xs):=by show m∈xs;rw[e];exact gZ HX.o
     have e':(m==x)=true:=by simpa using e
     clear e
     go_wp2
     go_ret
     exact⟨⟨(k:Int),rfl,⟨fun _=>HM.o,fun _=>sU⟩,by omega,by omega⟩,rfl⟩
    ·have e':(m==x)=false:=by simpa using e
     have KJ:aj (∀(j:Nat) z,j<k+1->xs[j]? =ae z->z≠m):=fun j z hj hz=>by
      by_cases ej:j=k
      ·subst ej;have:=HX.o.s.t hz;cases this;exact fun e2=>e e2.s
      ·exact HA.o j z (by omega) hz
     clear e
     go_wp2
     go_round
     case rel=>exact⟨k+1,by omega,by go_num,KJ.o⟩
     case measure=>simp[eU]<;>omega
  ·have HM:aj (m∉xs):=fun hm=>by
    obtain⟨j,hj,rfl⟩:=List.getElem_of_mem hm;exact HA.o j _ (by omega) (eY hj) rfl
   go_wp2
   go_ret
   exact⟨⟨-1,rfl,⟨fun e=>by omega,fun e=>absurd e HM.o⟩,by omega,by omega⟩,rfl⟩
def ahd(hr:bD w B 3 1 v xs.length (gm xs))(m:Int):
 aW prog 135 #[v,ag ah m] w fun r w'=>r=aV (.bool<|decide<|m∈xs)/\w=w':=by
 obtain⟨va,vc,rfl,hl⟩:=lI hr;have HC:aj (aW prog 183 #[.slice va xs.length vc,ag ah m] w fun r w'=>(∃j:Int,r=aV (ag ah j)/\(0<=j↔m∈xs)/\j<9223372036854775807/\-1<=j)/\w=w'):=apE hr m;clear hr hl;go_enter func135,ntmps135
 go_wp2_with fail
 refine HC.o.z ?_;rintro e w1 ⟨⟨j,rfl,hj,_,_⟩,rfl⟩;by_cases h0:0<=j
 ·have HM:aj (decide (m∈xs)=true):=jY<|hj.1 h0;clear hj;go_wp2
  go_ret;exact⟨by rw[HM.o]<;>rfl,rfl⟩
 ·have HM:aj (decide (m∈xs)=false):=qZ fun e=>h0<|hj.2 e;clear hj;go_wp2
  go_ret;exact⟨by rw[HM.o,show false=decide (0<=j)from(qZ<|by omega).s]<;>rfl,rfl⟩
def ahe(hh:aH w B xb n h)(hm:(i:Int)<h.P)(hq:q<h.pl.length)(hx:h.ps[i]? =ae x)(hb:h.bars x ep≠0)(ht:ts.size<=8):
 aW prog 77 #[az<|ae ⟨xb,0,af⟩,ag ah i,ag ah ep,ag ah q,dK ts] w fun e w'=>e=aV (.int .i64<|h.bars x ep)/\w=w':=by
 have HH:aj (aH w B xb n h):=hh;have HX:aj (h.ps[i]? =ae x):=hx;have HL:aj (h.tJ i q=0):=Ie hm hq;have jW:i<6:=by have:=hh.hP.2;omega
 obtain⟨b,E6⟩:∃b,h.bars x ep=b:=⟨_,rfl⟩;have HB:aj (h.bars x ep=b):=E6;rw[E6]at hb⊢
 have AQ:(b==0)=false:=by simpa using hb
 have QW:¬(8:Int)<(ts.size:Int):=by omega
 clear hh hm hx E6 hq;go_enter func77,ntmps77
 go_wp2_with (first
  |(go_at_call 124;refine(FM HH.o i q).z ?_;rw[HL.o];rintro e w1 ⟨rfl,rfl⟩)
  |(go_at_call 65;refine(Ad HH.o jW HX.o ep).z ?_;rw[HB.o];rintro e w1 ⟨rfl,rfl⟩))
 go_ret;exact⟨rfl,rfl⟩
def apF(hh:aH w B xb n h)(hm:(i:Int)<h.P)(hq:q<h.pl.length)(hx:h.ps[i]? =ae x)(hb:h.bars x ep=0)(hs:x.s=0\/x.s=2\/x.s=3)(ht:ts.size<=8):
 aW prog 77 #[az<|ae ⟨xb,0,af⟩,ag ah i,ag ah ep,ag ah q,dK ts] w fun e w'=>e=aV (.int .i64<|if x.s=0 then 8 else 9)/\Fr aS w w':=by
 have HH:aj (aH w B xb n h):=hh;have HX:aj (h.ps[i]? =ae x):=hx;have HL:aj (h.tJ i q=0):=Ie hm hq;have jW:i<6:=by have:=hh.hP.2;omega
 have HB:aj (h.bars x ep=0):=hb;obtain⟨⟨e0,e1,e2⟩,ef⟩:=hh.cellP hx;obtain⟨p,hp⟩:∃p,h.pl[q]? =ae p:=⟨_,eY hq⟩;obtain⟨g,cap,iV,hg,vP,c0,c1⟩:=hh.place hp;have cV:=hh.cV;rw[iV]at cV;have lN:(i:Int)<6:=by omega
 have ed:(0:Int)<=(i:Int):=by omega
 have sW:(0:Int)<=(q:Int):=by omega
 have wS:(q:Int)<h.pl.length:=by omega
 have QW:¬(8:Int)<(ts.size:Int):=by omega
 have ou:aj (aB w ⟨xb,6+i*10+2,af⟩=ae (ag ah x.s)):=e2;clear hh hm hx hb hp iV;by_cases h0:x.s=0
 ·rw[if_pos h0];rw[h0]at e2;go_enter func77,ntmps77
  go_wp2_with (first
   |(go_at_call 124;refine(FM HH.o i q).z ?_;rw[HL.o];rintro e w1 ⟨rfl,rfl⟩)
   |(go_at_call 65;refine(Ad HH.o jW HX.o ep).z ?_;rw[HB.o];rintro e w1 ⟨rfl,rfl⟩))
  go_region
  go_wp2_with fail
  go_ret;exact⟨rfl,dR.drew⟩
 ·rw[if_neg h0];have HE:aj (decide (x.s=2\/x.s=3)=true):=jY (by omega);have h0':(x.s==0)=false:=by simpa using h0
  go_enter func77,ntmps77
  go_wp2_with (first
   |(go_at_call 124;refine(FM HH.o i q).z ?_;rw[HL.o];rintro e w1 ⟨rfl,rfl⟩)
   |(go_at_call 65;refine(Ad HH.o jW HX.o ep).z ?_;rw[HB.o];rintro e w1 ⟨rfl,rfl⟩))
  go_region
  go_wp2_with (first
   |(go_at_call 66;refine(yA x.s<|by exact ou.o).z ?_;rw[HE.o];rintro e w1 ⟨rfl,rfl⟩))
  go_ret;exact⟨rfl,dR.drew⟩
end
section
variable{w w':ay}{B xb n:Nat}{h:HS}
def apG(hh:aH w B xb n h){i q:Nat}(hm:(i:Int)<h.P)(hq:q<h.pl.length){x:PS}(hx:h.ps[i]? =ae x){ep:Int}(hb:h.bars x ep=0)(hs:x.s=1)(KR:x.bG.getD q 0=0){ts:ByteArray}(ht:ts.size<=8):
 aW prog 77 #[az<|ae ⟨xb,0,af⟩,ag ah i,ag ah ep,ag ah q,dK ts] w fun e w'=>e=aV (ag ah 11)/\Fr aS w w':=by
 have HH:aj (aH w B xb n h):=hh;have HX:aj (h.ps[i]? =ae x):=hx;have HL:aj (h.tJ i q=0):=Ie hm hq;have jW:i<6:=by have:=hh.hP.2;omega
 have nT:q<4:=by have:=hh.hQ;omega
 have HB:aj (h.bars x ep=0):=hb;obtain⟨⟨e0,e1,e2⟩,ef⟩:=hh.cellP hx;rw[hs]at e2;have e3:aB w ⟨xb,6+i*10+3+q,af⟩=ae (.int .i64<|x.bG.getD q 0):=by rw[Aa];exact hh.jy hx (3+q) _<|LY _ nT
 rw[KR]at e3;obtain⟨p,hp⟩:∃p,h.pl[q]? =ae p:=⟨_,eY hq⟩;obtain⟨g,cap,iV,hg,vP,c0,c1⟩:=hh.place hp;have cV:=hh.cV;rw[iV]at cV;have lN:(i:Int)<6:=by omega
 have ed:(0:Int)<=(i:Int):=by omega
 have sW:(0:Int)<=(q:Int):=by omega
 have wS:(q:Int)<h.pl.length:=by omega
 have abA:(q:Int)<4:=by omega
 have QW:¬(8:Int)<(ts.size:Int):=by omega
 have ou:aj (aB w ⟨xb,6+i*10+2,af⟩=ae (ag ah 1)):=e2;clear hh hm hx hb hp iV KR hs;go_enter func77,ntmps77
 go_wp2_with (first
  |(go_at_call 124;refine(FM HH.o i q).z ?_;rw[HL.o];rintro e w1 ⟨rfl,rfl⟩)
  |(go_at_call 65;refine(Ad HH.o jW HX.o ep).z ?_;rw[HB.o];rintro e w1 ⟨rfl,rfl⟩))
 go_region
 go_wp2_with (first
  |(go_at_call 66;refine(yA 1<|by exact ou.o).z ?_;rintro e w1 ⟨rfl,rfl⟩))
 go_ret;exact⟨rfl,dR.drew⟩
inductive SI(w:ay)(B xb n:Nat)(h:HS)(i q:Nat)(x:PS)(p:PL)(ts:ByteArray):Ending->ay->Prop
 |not {w':ay} (ho:∀t,p.s.nw i≠ae (t,true)) (f:Fr aS w w'):SI w B xb n h i q x p ts (aV<|ag ah 11) w'
 |out {w':ay} {t:Int} (ho:p.s.nw i=ae (t,true)) (hp:p.out=true) (f:Fr aS w w'):SI w B xb n h i q x p ts (aV<|ag ah 10) w'
 |bad {w':ay} {t:Int} {v':aA} (ho:p.s.nw i=ae (t,true)) (hp:p.out=false) (hc:p.s.nK i x.t ts≠0) (hm:di w w' B xb n h n (h.iD q ⟨p.lb,p.bm,v',p.s.lQ i x.t ts,p.out⟩)) (ha:jk (h.iD q ⟨p.lb,p.bm,v',p.s.lQ i x.t ts,p.out⟩).pl):SI w B xb n h i q x p ts (aV<|.int .i64<|p.s.nK i x.t ts) w'
 |ok {w':ay} {t:Int} {v':aA} (ho:p.s.nw i=ae (t,true)) (hp:p.out=false) (hc:p.s.nK i x.t ts=0) (hm:di w w' B xb n h n ((h.iD q ⟨p.lb,p.bm,v',p.s.lQ i x.t ts,p.out⟩).eH i {x with si:=0})) (ha:jk (h.iD q ⟨p.lb,p.bm,v',p.s.lQ i x.t ts,p.out⟩).pl):SI w B xb n h i q x p ts (aV<|ag ah 0) w'
def ahf(hh:aH w B xb n h)(DK:jk h.pl){i q:Nat}(hm:(i:Int)<h.P){p:PL}(hp:h.pl[q]? =ae p){x:PS}(hx:h.ps[i]? =ae x){ep:Int}(hb:h.bars x ep=0)(hs:x.s=1)(KR:x.bG.getD q 0≠0){ts:ByteArray}(ht:ts.size<=8)(hn:(n+1)*8<=140737488355328)(qJ:(p.s.es.length+1)*40<=140737488355328):
 aW prog 77 #[az<|ae ⟨xb,0,af⟩,ag ah i,ag ah ep,ag ah q,dK ts] w (SI w B xb n h i q x p ts):=by
 have HH:aj (aH w B xb n h):=hh;have HAP:aj (jk h.pl):=DK;have HX:aj (h.ps[i]? =ae x):=hx;have wB:aj (h.pl[q]? =ae p):=hp;have hq:=(dS.1 hp).1;have HL:aj (h.tJ i q=0):=Ie hm hq;have jW:i<6:=by have:=hh.hP.2;omega
 have nT:q<4:=by have:=hh.hQ;omega
 have HB:aj (h.bars x ep=0):=hb;have fK:aj ((n+1)*8<=140737488355328):=hn;have HES:aj ((p.s.es.length+1)*40<=140737488355328):=qJ;have HI:aj (fO (i:Int)):=LZ (by omega) (by omega);have HTS:aj (ts.size<=eP):=by show ts.size<=eP;unfold eP;omega
 obtain⟨⟨e0,e1,e2⟩,ef⟩:=hh.cellP hx;rw[hs]at e2;have e3:aB w ⟨xb,6+i*10+3+q,af⟩=ae (.int .i64<|x.bG.getD q 0):=by rw[Aa];exact hh.jy hx (3+q) _<|LY _ nT
 obtain⟨tv,SC⟩:∃tv,x.bG.getD q 0=tv:=⟨_,rfl⟩;rw[SC]at e3 KR;have ht0:(tv==0)=false:=by simpa using KR
 have rJ:=gZ hp;have Xg:aj (fA w B p.lb p.bm p.v n p.s):=hh.dZ p rJ;obtain⟨g,cap,iV,hg,vP,c0,c1⟩:=hh.place hp;have cV:=hh.cV;rw[iV]at cV;have SG:aj (¬(g=p.lb\/g=p.bm\/p.v.ownBlock=ae g)):=fun e=>by
  have t0:=iY hh.ku (k:=g) (by rw[iV];rfl);rcases(hh.dZ p rJ).tags e with t1|t1|t1<;>rw[t0]at t1<;>cases t1
 have SH:aj (¬(xb=p.lb\/xb=p.bm\/p.v.ownBlock=ae xb)):=hh.LU rJ;have iC:=bn hh.blk;have lN:(i:Int)<6:=by omega
 have ed:(0:Int)<=(i:Int):=by omega
 have sW:(0:Int)<=(q:Int):=by omega
 have wS:(q:Int)<h.pl.length:=by omega
 have abA:(q:Int)<4:=by omega
 have QW:¬(8:Int)<(ts.size:Int):=by omega
 have ou:aj (aB w ⟨xb,6+i*10+2,af⟩=ae (ag ah 1)):=e2;clear hh hm hx hb hp iV hs DK hn qJ KR SC rJ;go_enter func77,ntmps77
 go_wp2_with (first
  |(go_at_call 124;refine(FM HH.o i q).z ?_;rw[HL.o];rintro e w1 ⟨rfl,rfl⟩)
  |(go_at_call 65;refine(Ad HH.o jW HX.o ep).z ?_;rw[HB.o];rintro e w1 ⟨rfl,rfl⟩))
 go_region
 go_wp2_with (first
  |(go_at_call 66;refine(yA 1<|by exact ou.o).z ?_;rintro e w1 ⟨rfl,rfl⟩)
  |(go_at_call 60;refine(agq (by exact((Fr.refl (fun _=>False) w).drew).logAt Xg.o id id fun _ _=>id) fK.o).z ?_;rintro e w2 ⟨v2,S,rfl,AB,jS,wU,ZR,hS3,Vw⟩
    obtain⟨va,vc,rfl,_⟩:=lI AB
    have F2:aj (Fr aS w w2):=(dR.drew:Fr aS w w.drew).t jS dw
    have V2:aj (bD w2 w.drew.heap.size 3 1 (.slice va S.length vc) S.length<|gm S):=AB
    have S4:aj ((i:Int)∈S↔∃t,p.s.nw i=ae (t,true)):=Vw i HI.o
    clear AB jS wU ZR hS3 Vw)
  |(go_at_call 135;fail))
 by_cases fZ:(i:Int)∈S
 ·have Ee:aj (decide ((i:Int)∈S)=true):=jY fZ;obtain⟨t,KT⟩:=S4.o.1 fZ;have HT:aj (p.s.nw i=ae (t,true)):=KT;have SE:aj (fA w2.drew B p.lb p.bm p.v n p.s):=(F2.o.drew).logAt Xg.o id id fun _ _=>id;have HH2:aj (aH w2.drew B xb n h):=HH.o.a F2.o.drew;have k0:aB w2 ⟨g,q*2,af⟩=ae (az<|ae ⟨p.lb,0,af⟩):=(F2.o.cell (p:=⟨g,q*2,af⟩) hg id).t c0;have k1:aB w2 ⟨g,q*2+1,af⟩=ae (aF p.out):=(F2.o.cell (p:=⟨g,q*2+1,af⟩) hg id).t c1;have kt:aB w2 ⟨xb,6+i*10+1,af⟩=ae (ag ah x.t):=(F2.o.cell (p:=⟨xb,6+i*10+1,af⟩) iC id).t e1;have GH:g<w2.heap.size:=gu hg F2.o.size;have apJ:xb<w2.heap.size:=gu iC F2.o.size;refine(ahd V2.o i).z ?_;rw[Ee.o];rintro e w3 ⟨rfl,rfl⟩;clear fZ KT;by_cases GL:p.out=true
  ·rw[GL]at k1;have SK:aj (p.out=true):=GL;clear GL;go_wp2_with fail
   go_ret;exact .out HT.o SK.o F2.o
  ·have SK:aj (p.out=false):=by show p.out=false;simpa using GL
   rw[show p.out=false from SK.o]at k1;clear GL;go_wp2_with fail
   go_region_held3 (fun w'=>aB w' ⟨g,q*2,af⟩=ae (az<|ae ⟨p.lb,0,af⟩)/\aB w' ⟨xb,6+i*10+1,af⟩=ae (ag ah x.t))
    (first|with_reducible exact C4|exact⟨k0,kt⟩|go_keep)
    ((go_at_call 136;refine(anQ (w:=w2.drew) SE.o i x.t ts HI.o HTS.o HES.o).z ?_;rintro e w4 ⟨rfl,v',hl⟩
      have dQ:=HH2.o.Xf HAP.o wB.o (dI n) hl
      have L4:aj (di w w4 B xb n h n (h.iD q ⟨p.lb,p.bm,v',p.s.lQ i x.t ts,p.out⟩)/\jk (h.iD q ⟨p.lb,p.bm,v',p.s.lQ i x.t ts,p.out⟩).pl):=⟨dQ.1.behind F2.o.drew,dQ.2⟩
      have C4:aB w4 ⟨g,q*2,af⟩=ae (az<|ae ⟨p.lb,0,af⟩)/\aB w4 ⟨xb,6+i*10+1,af⟩=ae (ag ah x.t):=⟨(hl.fr.cell (p:=⟨g,q*2,af⟩) GH SG.o).t k0,(hl.fr.cell (p:=⟨xb,6+i*10+1,af⟩) apJ SH.o).t kt⟩
      have d7:aB w4 ⟨xb,6+i*10+7,af⟩=ae (ag ah x.si):=L4.o.1.at_.jy (p:=x) HX.o 7 _ rfl
      have df:∀o,w4.frozen? ⟨xb,o,af⟩=false:=kK L4.o.1.at_.blk
      clear hl dQ))
   by_cases hc:p.s.nK i x.t ts=0
   ·have HC:aj (p.s.nK i x.t ts=0):=hc;rw[hc];clear hc;go_wp2_with fail
    go_ret;have E7:(h.iD q ⟨p.lb,p.bm,v',p.s.lQ i x.t ts,p.out⟩).ps[i]? =ae x:=HX.o;exact .ok HT.o SK.o HC.o (L4.o.1.t<|L4.o.1.at_.quiet E7) L4.o.2
   ·have HC:aj (p.s.nK i x.t ts≠0):=hc;have zK:(p.s.nK i x.t ts==0)=false:=by simpa using hc
    clear hc;go_wp2_with fail
    go_ret;exact .bad HT.o SK.o HC.o L4.o.1 L4.o.2
 ·have Ee:aj (decide ((i:Int)∈S)=false):=qZ fZ;have HT:aj (∀t,p.s.nw i≠ae (t,true)):=fun t ht=>fZ<|S4.o.2 ⟨t,ht⟩;refine(ahd V2.o i).z ?_;rw[Ee.o];rintro e w3 ⟨rfl,rfl⟩;clear fZ;go_wp2_with fail
  go_ret;exact .not HT.o F2.o
end
section
def apQ{w:ay}{B:Nat}{ty:dJ}{a:Option Addr}{n cap m:Nat}{xs:List aA}(h:bD w B ty 1 (.slice a n cap) n xs)(hm:m<=n):bD w B ty 1 (.slice a m cap) m (xs.take m):=by
 refine⟨by rw[LC,h.1];omega,?_⟩;rcases h.2 with⟨hv,h0⟩|⟨g,c,cur,hv,hb,hg,h1,h2,h3,h4⟩
 ·simp only[aFi]at hv;obtain⟨rfl,_,rfl⟩:=hv;exact .inl ⟨by rw[show m=0 by omega],by omega⟩
 ·simp only[aFi]at hv;obtain⟨rfl,_,rfl⟩:=hv;refine .inr ⟨g,cap,cur,rfl,hb,hg,by omega,h2,h3,?_⟩;rw[<-h4,List.take_take];congr 1;omega
def apR{w:ay}{B g n cap:Nat}{l:List Rc}(h:bD w B 184 4 (aN (ae ⟨g,0,af⟩) n cap) l.length (l.flatMap Rc.cs)){k:Nat}{e:Rc}(hk:l[k]? =ae e):
 w.cell? ⟨g,k*4,af⟩=ae (ag ah e.k)/\aB w ⟨g,k*4+1,af⟩=ae (ag ah e.p)/\aB w ⟨g,k*4+2,af⟩=ae (ag ah e.a)/\aB w ⟨g,k*4+3,af⟩=ae (ag ah e.m):=by
 have hc:=h.cells (g:=g) rfl;have key:∀j u,j<4->e.cs[j]? =ae u->aB w ⟨g,k*4+j,af⟩=ae u:=fun j u hj hu=>by
  have:=hc (k*4+j) u<|(agH l k e j hk hj).t hu;rw[aFA]at this;simpa using this
 exact⟨key 0 _ (by omega) rfl,key 1 _ (by omega) rfl,key 2 _ (by omega) rfl,key 3 _ (by omega) rfl⟩
variable{w w':ay}{B xb n:Nat}{h:HS}
def HS.mid(h:HS)(jv:aA)(L:List Rc)(j:Nat):HS:={h with jv:=jv,jb:=gp<|L.flatMap fB,ps:=replay<|L.take j}
def HS.Eg(h:HS)(jv:aA)(L:List Rc):HS:={h with jv:=jv,jb:=gp<|L.flatMap fB,ps:=replay L,up:=true}
variable{i b:Nat}{x:PS}
def apS(h:HS)(jv:aA){L:List Rc}{j:Nat}{r:Rc}(hr:L[j]? =ae r)(hi:r.p=i)(hx:(replay<|L.take j)[i]? =ae x):h.mid jv L (j+1)=(h.mid jv L j).eH i (x.dA r):=by
 have e:r.p.toNat=i:=by omega
 have:replay (L.take<|j+1)=(replay<|L.take j).set i (x.dA r):=by
  rw[yu,hr,CO,agJ];unfold kz;rw[e];simp[List.getD,hx]
 unfold HS.mid HS.eH;simp only[this]
def apT{w3:ay}{db kb:Nat}(hb:w3.heap[db]? =ae (.cells (rU kb) 193 (0,0))):
 w3.cell? ⟨db,1,af⟩=ae (.func (.func 179) #[] #[az<|ae ⟨kb,0,af⟩])/\aB w3 ⟨db,2,af⟩=ae (.func (.func 180) #[] #[az<|ae ⟨kb,0,af⟩])/\aB w3 ⟨db,3,af⟩=ae (.func (.func 181) #[] #[az<|ae ⟨kb,0,af⟩])/\aB w3 ⟨db,4,af⟩=ae (.func (.func 182) #[] #[az<|ae ⟨kb,0,af⟩]):=by
 refine⟨?_,?_,?_,?_⟩<;>(rw[aQ hb];rfl)
def apU(hh:aH w B xb n h)(hb:xn w b xb)(hi:i<6)(hx:h.ps[i]? =ae x)(a m:Int):
 aW prog 179 #[iF #[ag ah 1,ag ah i,ag ah a,ag ah m],az<|ae ⟨b,0,af⟩] w fun e w'=>e=aV (dU #[])/\aH w' B xb n (h.eH i<|x.dA ⟨1,i,a,m⟩)/\Fr (fun k=>k=xb) w w':=by
 have:=agL hh hb hi hx 1 a m;rw[show x.dA ⟨1,i,a,m⟩={x with e:=m}by simp[PS.dA]];exact this
def apV(hh:aH w B xb n h){q:Nat}(hb:xn w b xb)(hi:i<6)(hq:q<4)(hx:h.ps[i]? =ae x)(m:Int):
 aW prog 180 #[iF #[ag ah 2,ag ah i,ag ah q,ag ah m],az<|ae ⟨b,0,af⟩] w fun e w'=>e=aV (dU #[])/\aH w' B xb n (h.eH i<|x.dA ⟨2,i,q,m⟩)/\Fr (fun k=>k=xb) w w':=by
 have:=agM hh hb hi hq hx 2 m;rw[show x.dA ⟨2,i,q,m⟩=(({x with s:=1,t:=m}:PS).tie q 1)by simp[PS.dA]];exact this
def apW(hh:aH w B xb n h)(hb:xn w b xb)(hi:i<6)(hx:h.ps[i]? =ae x)(m:Int){a:Int}(ha:a=0\/a=1):
 aW prog 181 #[iF #[ag ah 3,ag ah i,ag ah a,ag ah m],az<|ae ⟨b,0,af⟩] w fun e w'=>e=aV (dU #[])/\aH w' B xb n (h.eH i<|x.dA ⟨3,i,a,m⟩)/\Fr (fun k=>k=xb) w w':=by
 have key:∀(c:Bool) (s':Int),a=(if c then 1 else 0)->s'=(if c then 2 else 3)->x.dA ⟨3,i,a,m⟩={({x with s:=s'}:PS).pend (bZ x.bG 1 4)with wa:=1,ga:=1}:=fun c s' h1 h2=>by
  have e1:bZ x.bG 1 4=bZ ({x with s:=s'}:PS).bG 1 4:=rfl;rw[e1,ag0];cases c
  ·simp only[kG,↓reduceIte]at h1 h2;simp[PS.dA,h1,h2]
  ·simp only[↓reduceIte]at h1 h2;simp[PS.dA,h1,h2]
 rcases ha with ha|ha
 ·rw[key false 3 (by simpa using ha) rfl];exact abm hh hb hi hx 3 m (c:=false) (by simpa using ha) rfl
 ·rw[key true 2 (by simpa using ha) rfl];exact abm hh hb hi hx 3 m (c:=true) (by simpa using ha) rfl
def apX(hh:aH w B xb n h)(hb:xn w b xb)(hi:i<6)(hx:h.ps[i]? =ae x)(a m:Int):
 aW prog 182 #[iF #[ag ah 4,ag ah i,ag ah a,ag ah m],az<|ae ⟨b,0,af⟩] w fun e w'=>e=aV (dU #[])/\aH w' B xb n (h.eH i<|x.dA ⟨4,i,a,m⟩)/\Fr (fun k=>k=xb) w w':=by
 have:=agP hh hb hi hx 4 a m;rw[show x.dA ⟨4,i,a,m⟩=⟨x.e,x.t,0,0,0,0,0,0,0,0⟩by simp[PS.dA]];exact this
def aH.cut(hh:aH w B xb n h){jv:aA}{jb:List aA}(dG:bD w B 5 1 jv jb.length jb)(dD:bY jv≠ae xb):
 aH (aX w ⟨xb,4,af⟩ jv) B xb n {h with jv:=jv,jb:=jb}/\Fr (fun k=>k=xb) w (aX w ⟨xb,4,af⟩ jv):=by
 have fs:Fr (fun q=>q=xb) w (aX w ⟨xb,4,af⟩ jv):=(Fr.refl (fun q=>q=xb) w).setCell (p:=⟨xb,4,af⟩) (.inl rfl) _;refine⟨⟨?_,fs.ownsRow dG (fun q hq e=>dD<|by rw[hq,e]),fs.ownsRow hh.ku (fun k hk e=>hh.aba (by subst e;exact hk)),fs.ownsRow hh.nM (fun k hk e=>hh.abb (by subst e;exact hk)),fun p hp=>(hh.dZ p hp).stay fs (fun k e hf=>hh.LU hp (by subst e;exact hf)),hh.hx,hh.hP,hh.hQ,hh.h6⟩,fs⟩;rw[kU hh.blk];have:=h.agZ jv [];rw[this];rfl
structure Xk(h:HS)(L:List Rc)(tl:List UInt8):Prop where
 jb:h.jb=gp (L.flatMap fB++tl)
 tl:tl.length<16
 small:∃m,m<1000000000000/\∀r∈L,r.Small m
 end_:∀r∈L,r.k=3->r.a=0\/r.a=1
 fM:L.length<100000000000
def apY(hh:aH w B xb n h)(hz:h.ps=xm){L:List Rc}{tl:List UInt8}(hJ:Xk h L tl):
 aW prog 68 #[az<|ae ⟨xb,4,af⟩] w fun r w'=>r=aV (dU #[])/\∃jv,aH w' B xb n (h.Eg jv L)/\Fr (fun k=>k=xb) w w'/\bY jv=h.jv.ownBlock:=by
 have HH:aj (aH w B xb n h):=hh;have HJ:aj (Xk h L tl):=hJ;have HZ:aj (h.ps=xm):=hz;obtain⟨m,rH,rM⟩:=hJ.small;have Sv:aj (∀r∈L,r.Small m):=rM;have c4:=hh.cJ;have c5:=hh.cU;obtain⟨ja,jc,hj,KU⟩:=oP hh.mg;have ZN:h.jb.length=(L.flatMap fB++tl).length:=by rw[hJ.jb,Ia]
 have hlen:(L.flatMap fB++tl).length=16*L.length+tl.length:=by rw[iW,Ef]
 have dG:=hh.mg;rw[hj]at c4 dG;rw[ZN,hlen]at c4 dG hj;rw[hJ.jb]at dG;have L6:aj (bD w B 5 1 (.slice ja (16*L.length+tl.length) jc) (16*L.length+tl.length)<|gp<|L.flatMap fB++tl):=dG;have HJV:aj (h.jv=.slice ja (16*L.length+tl.length) jc):=hj;have Xi:aj (aW prog 127 #[.slice ja (16*L.length+tl.length) jc] w fun e w'=>∃v',e=aV v'/\bD w' w.heap.size 184 4 v' L.length (L.flatMap Rc.cs)/\Fr aS w w'):=apO (L:=L) (tl:=tl) (by rw[hlen];exact dG) hJ.tl rM rH hJ.fM;have vP:16*L.length+tl.length<=jc:=by
  rcases dG.2 with⟨hv,h0⟩|⟨g,cap,cur,hv,_,_,h1,_⟩
  ·omega
  ·simp only[aFi]at hv;omega
 have aK:=bn hh.blk;have hLf:=hJ.fM;have aCz:(L.length:Int)*16<=(jc:Int):=by omega
 clear hh hJ hz dG hj ZN hlen rM;cases ja;all_goals
  go_enter func68,ntmps68
  go_wp2_with (first
   |(go_at_call 127;refine Xi.o.z ?_;rintro e w1 ⟨v1,rfl,jP,bU⟩
     obtain⟨ra,rc,rfl,Vx⟩:=oP jP
     have V1:aj (bD w1 w.heap.size 184 4 (.slice ra L.length rc) L.length<|L.flatMap Rc.cs):=jP
     have F1:aj (Fr aS w w1):=bU
     have B1:aj (w1.heap[xb]? =ae (.cells h.cells.toArray 111 (0,0))):=(bU.block xb aK id).t HH.o.blk
     have d4:=(bU.cell (p:=⟨xb,4,af⟩) aK id).t c4
     have d5:aB w1 ⟨xb,5,af⟩=ae (aF h.up):=(bU.cell (p:=⟨xb,5,af⟩) aK id).t c5
     have df:∀o,w1.frozen? ⟨xb,o,af⟩=false:=kK B1.o
     have ig:xb<w1.heap.size:=gu aK bU.size
     have hzw:w.heap.size<=w1.heap.size:=bU.size
     clear bU jP))
  generalize hjv:Value.slice _ (L.length*16) jc=jv
  have hcut:aH (aX w1 ⟨xb,4,af⟩ jv) B xb n {h with jv:=jv,jb:=gp<|L.flatMap fB}/\Fr (fun k=>k=xb) w1 (aX w1 ⟨xb,4,af⟩ jv):=by
   have hr:=apQ (F1.o.ownsRow L6.o fun _ _=>id) (m:=L.length*16) (by omega);have et:(gp<|L.flatMap fB++tl).take (L.length*16)=gp (L.flatMap fB):=by
    rw[abq,List.take_left' (by rw[Ia,Ef];omega)]
   rw[et,hjv]at hr;refine(HH.o.a F1.o).cut (by rw[Ia,Ef,aaM];exact hr) fun e=>?_;have t1:=iY hr e;rw[mO B1.o]at t1;cases t1
  have HOB:aj (bY jv=h.jv.ownBlock):=by show jv.ownBlock=h.jv.ownBlock;rw[<-hjv,HJV.o];rfl
  have EU:aj (aH (aX w1 ⟨xb,4,af⟩ jv) B xb n<|h.mid jv L 0):=by
   have e0:h.mid jv L 0={h with jv:=jv,jb:=gp<|L.flatMap fB}:=by
    unfold HS.mid;rw[List.take_zero,show replay []=h.ps from HZ.o.s]
   show aH _ _ _ _ _;rw[e0];exact hcut.1
  have iU:aj (Fr (fun k=>k=xb) w<|w1.setCell ⟨xb,4,af⟩ jv):=(F1.o.z dw:Fr (fun k=>k=xb) w w1).t hcut.2 fun _ e=>.inl e
  have VW1:aj ((aX w1 ⟨xb,4,af⟩ jv).ownsRow w.heap.size 184 4 (.slice ra L.length rc) L.length<|L.flatMap Rc.cs):=hcut.2.ownsRow V1.o (fun q hq e=>by have:=(V1.o.lt q hq).1;omega)
  generalize w1.setCell ⟨xb,4,af⟩ jv=W1 at EU iU VW1⊢
  clear hcut d4 d5 df hjv
  have iJ:xb<W1.heap.size:=gu aK iU.o.size
  refine(O3 (w:=W1) _).z ?_
  rintro e w2 ⟨rfl,sV,jS⟩
  have KB2:aj (xn w2 W1.heap.size xb):=sV
  have S2:aj (Fr aS W1 w2):=jS
  have T2:aj ((w2.alloc<|aG #[.nilFunc,.nilFunc,.nilFunc,.nilFunc,.nilFunc] 193).there w2.heap.size 0 5):=LQ (aFb _ _)<|by simp
  clear sV jS
  go_wp2_with (first
   |(refine aFM rfl 193 _ _ rfl w2.heap.size 0 (rU W1.heap.size) rfl rfl T2.o WX (by simp[rU,Value.oneCell']) ?_
     have hW:Fr aS w2 _:=Fr.setCells (S:=fun _=>False) (b:=w2.heap.size) (.inr<|dI _) (rU W1.heap.size).toList 0<|(Fr.refl (fun _=>False) w2).alloc<|aG #[.nilFunc,.nilFunc,.nilFunc,.nilFunc,.nilFunc] 193
     have hD:=JA (rU W1.heap.size).toList 0<|aFb w2<|aG #[.nilFunc,.nilFunc,.nilFunc,.nilFunc,.nilFunc] 193
     generalize((w2.alloc<|aG #[.nilFunc,.nilFunc,.nilFunc,.nilFunc,.nilFunc] 193).setCells w2.heap.size 0 (rU W1.heap.size).toList)=w3 at hW hD⊢
     have S3:aj (Fr aS W1 w3):=S2.o.t hW dw
     have KB3:aj (xn w3 W1.heap.size xb):=(hW.block _ (bn KB2.o) id).t KB2.o
     have D3:aj (w3.heap[w2.heap.size]? =ae (.cells (rU W1.heap.size) 193 (0,0))):=hD
     have H3:aj (aH w3 B xb n<|h.mid jv L 0):=EU.o.a S3.o
     have V3:aj (bD w3 w.heap.size 184 4 (.slice ra L.length rc) L.length<|L.flatMap Rc.cs):=S3.o.ownsRow VW1.o fun _ _=>id
     have aCA:xb<w2.heap.size:=gu iJ S2.o.size
     clear hW hD))
  go_loopw [26] (fun ii w'=>∃j:Nat,j<=L.length/\ii=ag ah j/\aH w' B xb n (h.mid jv L j)/\Fr (fun k=>k=xb) w3 w') (fun ii _=>(L.length-eU ii).toNat)
  case atStart=>exact⟨0,by omega,rfl,H3.o,Fr.refl _ _⟩
  case round=>
   obtain⟨j,hj,rfl,fC,dP⟩:=hrel
   have HR:aj (aH wr B xb n<|h.mid jv L j):=fC
   have FR:aj (Fr (fun k=>k=xb) w3 wr):=dP
   have rf:∀o,wr.frozen? ⟨xb,o,af⟩=false:=kK fC.blk
   have r5:aB wr ⟨xb,5,af⟩=ae (aF h.up):=fC.cU
   by_cases nH:j<L.length
   ·obtain⟨r,hr⟩:∃r,L[j]? =ae r:=⟨_,eY nH⟩
    have dG:=dP.ownsRow V3.o (fun k hk e=>by have:=(V3.o.lt k hk).1;omega)
    obtain⟨g,gc,xW,_⟩:=JE dG<|by omega
    simp only[aFi]at xW
    obtain⟨rfl,_,rfl⟩:=xW
    obtain⟨r0,r1,r2,r3⟩:=apR dG hr
    have FO:=Sv.o r<|gZ hr
    have her:=HJ.o.end_ r<|gZ hr
    obtain⟨i,hi⟩:=qY FO.p0
    have jW:i<6:=by have:=FO.p1;omega
    obtain⟨x,hx⟩:∃x,(replay<|L.take j)[i]? =ae x:=⟨_,eY (by rw[W9];exact jW)⟩
    have xX:=apS h jv hr hi hx
    have HX:aj ((h.mid jv L j).ps[i]? =ae x):=hx
    have hdb:w2.heap.size<wr.heap.size:=gu (bn D3.o) dP.size
    have ahm:=(dP.block _ (bn D3.o)<|by omega).t D3.o
    have ZV:xn wr W1.heap.size xb:=(dP.block _ (bn KB3.o)<|by omega).t KB3.o
    have HKB:aj (xn wr W1.heap.size xb):=ZV
    have dc:=apT ahm
    have hxr:xb<wr.heap.size:=bn fC.blk
    obtain⟨kk,p,a,mm⟩:=r
    simp only at hi
    subst hi
    have Xl:aj (h.mid jv L (j+1)=(h.mid jv L j).eH i (x.dA ⟨kk,i,a,mm⟩)):=xX
    have sU:=FO.k0
    have aT:=FO.k1
    have ha0:0<=a:=FO.a0
    have NW:a<4:=FO.a1
    simp only at sU aT r0 r1 r2 r3 her
    have hj0:(0:Int)<=(j:Int):=by omega
    have sZ:(j:Int)<L.length:=by omega
    have Xm:aj (aH (wr.alloc<|aG #[ag ah kk,ag ah i,ag ah a,ag ah mm] 184).drew B xb n<|h.mid jv L j):=fC.a (bQ _).drew
    have ZX:aj (xn (wr.alloc<|aG #[ag ah kk,ag ah i,ag ah a,ag ah mm] 184).drew W1.heap.size xb):=((bQ _).drew.block _ (bn ZV) id).t ZV
    have Xn:aj (∀(c:Nat) {v:aA},aB wr ⟨w2.heap.size,c,af⟩=ae v->(wr.alloc<|aG #[ag ah kk,ag ah i,ag ah a,ag ah mm] 184).cell? ⟨wr.heap.size,0,af⟩=ae (ag ah kk)/\(wr.alloc<|aG #[ag ah kk,ag ah i,ag ah a,ag ah mm] 184).cell? ⟨wr.heap.size,1,af⟩=ae (ag ah i)/\(wr.alloc<|aG #[ag ah kk,ag ah i,ag ah a,ag ah mm] 184).cell? ⟨wr.heap.size,2,af⟩=ae (ag ah a)/\(wr.alloc<|aG #[ag ah kk,ag ah i,ag ah a,ag ah mm] 184).cell? ⟨wr.heap.size,3,af⟩=ae (ag ah mm)/\(wr.alloc<|aG #[ag ah kk,ag ah i,ag ah a,ag ah mm] 184).cell? ⟨w2.heap.size,c,af⟩=ae v):=fun c v hv=>
     ⟨aQ (aFb _ _) 0,aQ (aFb _ _) 1,aQ (aFb _ _) 2,aQ (aFb _ _) 3,((bQ _).cell (p:=⟨w2.heap.size,c,af⟩) hdb id).t hv⟩
    have Xo:aj (∀(c:Nat) {v:aA} (w5:ay),aB wr ⟨w2.heap.size,c,af⟩=ae v->Fr (fun k=>k=xb) (wr.alloc<|aG #[ag ah kk,ag ah i,ag ah a,ag ah mm] 184).drew w5->aB w5 ⟨wr.heap.size,0,af⟩=ae (ag ah kk)/\aB w5 ⟨wr.heap.size,1,af⟩=ae (ag ah i)/\aB w5 ⟨wr.heap.size,2,af⟩=ae (ag ah a)/\aB w5 ⟨wr.heap.size,3,af⟩=ae (ag ah mm)/\aB w5 ⟨w2.heap.size,c,af⟩=ae v):=fun c v w5 hv f5=>by
     have ZY:=(f5.block wr.heap.size (by simp)<|by omega).t<|aFb wr<|aG #[ag ah kk,ag ah i,ag ah a,ag ah mm] 184;exact⟨aQ ZY 0,aQ ZY 1,aQ ZY 2,aQ ZY 3,(f5.cell (p:=⟨w2.heap.size,c,af⟩) (by simp<;>omega) (by simp<;>omega)).t<|((bQ _).cell (p:=⟨w2.heap.size,c,af⟩) hdb id).t hv⟩
    clear dG fC dP hr hx xX ahm ZV FO
    rcases(show kk=1\/kk=2\/kk=3\/kk=4 by omega)with hk|hk|hk|hk
    ·skip
     subst hk
     have zM:=dc.1
     go_wp2_with fail
     go_region_held3 (fun w'=>aB w' ⟨wr.heap.size,0,af⟩=ae (ag ah 1)/\aB w' ⟨wr.heap.size,1,af⟩=ae (ag ah i)/\aB w' ⟨wr.heap.size,2,af⟩=ae (ag ah a)/\aB w' ⟨wr.heap.size,3,af⟩=ae (ag ah mm)/\aB w' ⟨w2.heap.size,1,af⟩=ae (.func (.func 179) #[] #[az<|ae ⟨W1.heap.size,0,af⟩]))
      (first|with_reducible exact C5|exact Xn.o 1 zM|go_keep)
      ((go_at_call 179;refine(apU Xm.o ZX.o jW HX.o a mm).z ?_;rintro e w5 ⟨rfl,h5,nU⟩
        have H5:aj (aH w5 B xb n<|h.mid jv L<|j+1):=(Xl.o▸h5)
        have F5:aj (Fr (fun k=>k=xb) wr w5):=((bQ _).drew.z dw:Fr (fun k=>k=xb) wr _).t nU fun _ e=>.inl e
        have C5:=Xo.o 1 w5 zM nU
        clear h5 nU))
     go_wp2_with fail
     go_roundw
     case rel=>exact⟨j+1,by omega,by go_num,H5.o,FR.o.t F5.o fun _ e=>.inl e⟩
     case measure=>simp[eU]<;>omega
    ·skip
     subst hk
     obtain⟨q,hq⟩:=qY ha0
     subst hq
     have nT:q<4:=by omega
     have zM:=dc.2.1
     go_wp2_with fail
     go_region_held3 (fun w'=>aB w' ⟨wr.heap.size,0,af⟩=ae (ag ah 2)/\aB w' ⟨wr.heap.size,1,af⟩=ae (ag ah i)/\aB w' ⟨wr.heap.size,2,af⟩=ae (ag ah q)/\aB w' ⟨wr.heap.size,3,af⟩=ae (ag ah mm)/\aB w' ⟨w2.heap.size,2,af⟩=ae (.func (.func 180) #[] #[az<|ae ⟨W1.heap.size,0,af⟩]))
      (first|with_reducible exact C5|exact Xn.o 2 zM|go_keep)
      ((go_at_call 180;refine(apV Xm.o ZX.o jW nT HX.o mm).z ?_;rintro e w5 ⟨rfl,h5,nU⟩
        have H5:aj (aH w5 B xb n<|h.mid jv L<|j+1):=(Xl.o▸h5)
        have F5:aj (Fr (fun k=>k=xb) wr w5):=((bQ _).drew.z dw:Fr (fun k=>k=xb) wr _).t nU fun _ e=>.inl e
        have C5:=Xo.o 2 w5 zM nU
        clear h5 nU))
     go_wp2_with fail
     go_roundw
     case rel=>exact⟨j+1,by omega,by go_num,H5.o,FR.o.t F5.o fun _ e=>.inl e⟩
     case measure=>simp[eU]<;>omega
    ·skip
     subst hk
     have HER:aj (a=0\/a=1):=her rfl
     have zM:=dc.2.2.1
     go_wp2_with fail
     go_region_held3 (fun w'=>aB w' ⟨wr.heap.size,0,af⟩=ae (ag ah 3)/\aB w' ⟨wr.heap.size,1,af⟩=ae (ag ah i)/\aB w' ⟨wr.heap.size,2,af⟩=ae (ag ah a)/\aB w' ⟨wr.heap.size,3,af⟩=ae (ag ah mm)/\aB w' ⟨w2.heap.size,3,af⟩=ae (.func (.func 181) #[] #[az<|ae ⟨W1.heap.size,0,af⟩]))
      (first|with_reducible exact C5|exact Xn.o 3 zM|go_keep)
      ((go_at_call 181;refine(apW Xm.o ZX.o jW HX.o mm HER.o).z ?_;rintro e w5 ⟨rfl,h5,nU⟩
        have H5:aj (aH w5 B xb n<|h.mid jv L<|j+1):=(Xl.o▸h5)
        have F5:aj (Fr (fun k=>k=xb) wr w5):=((bQ _).drew.z dw:Fr (fun k=>k=xb) wr _).t nU fun _ e=>.inl e
        have C5:=Xo.o 3 w5 zM nU
        clear h5 nU))
     go_wp2_with fail
     go_roundw
     case rel=>exact⟨j+1,by omega,by go_num,H5.o,FR.o.t F5.o fun _ e=>.inl e⟩
     case measure=>simp[eU]<;>omega
    ·skip
     subst hk
     have zM:=dc.2.2.2
     go_wp2_with fail
     go_region_held3 (fun w'=>aB w' ⟨wr.heap.size,0,af⟩=ae (ag ah 4)/\aB w' ⟨wr.heap.size,1,af⟩=ae (ag ah i)/\aB w' ⟨wr.heap.size,2,af⟩=ae (ag ah a)/\aB w' ⟨wr.heap.size,3,af⟩=ae (ag ah mm)/\aB w' ⟨w2.heap.size,4,af⟩=ae (.func (.func 182) #[] #[az<|ae ⟨W1.heap.size,0,af⟩]))
      (first|with_reducible exact C5|exact Xn.o 4 zM|go_keep)
      ((go_at_call 182;refine(apX Xm.o ZX.o jW HX.o a mm).z ?_;rintro e w5 ⟨rfl,h5,nU⟩
        have H5:aj (aH w5 B xb n<|h.mid jv L<|j+1):=(Xl.o▸h5)
        have F5:aj (Fr (fun k=>k=xb) wr w5):=((bQ _).drew.z dw:Fr (fun k=>k=xb) wr _).t nU fun _ e=>.inl e
        have C5:=Xo.o 4 w5 zM nU
        clear h5 nU))
     go_wp2_with fail
     go_roundw
     case rel=>exact⟨j+1,by omega,by go_num,H5.o,FR.o.t F5.o fun _ e=>.inl e⟩
     case measure=>simp[eU]<;>omega
   ·have hjL:j=L.length:=by omega
    subst hjL
    have HT:aj (L.take L.length=L):=Fp<|dI _
    clear fC dP
    go_wp2_with fail
    go_end0
    have fs:Fr (fun k=>k=xb) wr (aX wr ⟨xb,5,af⟩<|aF true):=(Fr.refl (fun k=>k=xb) wr).setCell (p:=⟨xb,5,af⟩) (.inl rfl) _
    refine⟨rfl,jv,?_,(((iU.o.t S3.o dw).t FR.o fun _ e=>.inl e).t fs fun _ e=>.inl e),HOB.o⟩
    have e1:h.Eg jv L=(h.mid jv L L.length).yX:=by unfold HS.Eg HS.mid HS.yX;rw[HT.o]
    rw[e1]
    refine HR.o.put fs ?_ rfl rfl rfl rfl rfl rfl rfl rfl HR.o.h6
    rw[kU HR.o.blk,HS.agE]
end
section
variable{w w':ay}{B xb n:Nat}{h:HS}
def abN(hh:aH w B xb n h)(hu:h.up=false)(hz:h.ps=xm){L:List Rc}{tl:List UInt8}(hJ:Xk h L tl):
 aW prog 29 #[az<|ae ⟨xb,0,af⟩] w fun r w'=>r=aV (ag ah 0)/\∃jv,di w w' B xb n h n (h.Eg jv L):=by
 have HC:aj (aW prog 68 #[az<|ae ⟨xb,4,af⟩] w fun r w'=>r=aV (dU #[])/\∃jv,aH w' B xb n (h.Eg jv L)/\Fr (fun k=>k=xb) w w'/\bY jv=h.jv.ownBlock):=apY hh hz hJ;have c5:=hh.cU;rw[hu]at c5;clear hh hJ hz;go_enter func29,ntmps29
 go_wp2_with (go_at_call 68;refine HC.o.z ?_;rintro e w1 ⟨rfl,jv,h1,h2,h3⟩;have H1:aj (aH w1 B xb n (h.Eg jv L)/\Fr (fun k=>k=xb) w w1/\bY jv=h.jv.ownBlock):=⟨h1,h2,h3⟩;clear h1 h2 h3)
 go_ret;refine⟨rfl,jv,di.own H1.o.2.1 H1.o.1 fun k hk=>?_⟩;rcases hk with e|e|e
 ·exact .inl e
 ·exact .inr<|.inl (by rw[<-H1.o.2.2];exact e)
 ·exact .inr<|.inr e
def ahn:∀(l:List PL) (k:Nat) (p:PL) (o:Bool),l[k]? =ae p->qj (l.set k {p with out:=o})=(qj l).set (k*2+1) (aF o)
 |[],k,p,o,h=>by simp at h
 |x::r,0,p,o,h=>by
  simp only[yV,gU]at h;subst h;simp[qj,PL.cs]
 |x::r,k+1,p,o,h=>by
  simp only[Bi]at h;have:=ahn r k p o h;simp only[qj,List.set_cons_succ,pF]at this⊢
  rw[this,afN _ _ (by simp[PL.cs]<;>omega)];congr 2;simp[PL.cs]<;>omega
def jk.out{pl:List PL}(h:jk pl){k:Nat}{p:PL}(hk:pl[k]? =ae p)(o:Bool):jk (pl.set k {p with out:=o}):=by
 have oq:=(dS.1 hk).1;have pick:∀{i:Nat} {a:PL},(pl.set k {p with out:=o})[i]? =ae a->∃a',pl[i]? =ae a'/\a'.lb=a.lb/\a'.bm=a.bm/\a'.v=a.v:=fun{i a} hi=>by
  by_cases e:i=k
  ·subst e;rw[nJ oq]at hi;obtain rfl:=(rP hi);exact⟨p,hk,rfl,rfl,rfl⟩
  ·rw[vZ fun e2=>e e2.s]at hi;exact⟨a,hi,rfl,rfl,rfl⟩
 intro i j a b zI hi hj x h1 h2;obtain⟨a',ha,e1,e2,e3⟩:=pick hi;obtain⟨b',hb,f1,f2,f3⟩:=pick hj;exact h i j a' b' zI ha hb x (by rw[e1,e2,e3];exact h1) (by rw[f1,f2,f3];exact h2)
def aho(hh:aH w B xb n h){q:Nat}{p:PL}(hp:h.pl[q]? =ae p)(o:Bool):
 aW prog 52 #[az<|ae ⟨xb,0,af⟩,ag ah q,aF o] w fun r w'=>r=aV (ag ah 0)/\di w w' B xb n h n (h.iD q {p with out:=o}):=by
 have HH:aj (aH w B xb n h):=hh;have hq:=(dS.1 hp).1;have HM:aj (decide (0<=(q:Int)/\(q:Int)<h.pl.length)=true):=jY ⟨by omega,by omega⟩;have HP:aj (h.pl[q]? =ae p):=hp;obtain⟨g,cap,iV,hg,vP,c0,c1⟩:=hh.place hp;have O9:aj (h.pv=aN (ae ⟨g,0,af⟩) h.pl.length cap):=iV;have cV:=hh.cV;rw[iV]at cV;have gf:∀o,w.frozen? ⟨g,o,af⟩=false:=by
  have hr:=hh.ku;rw[iV]at hr;exact fun o=>hr.frozenAt o
 have sW:(0:Int)<=(q:Int):=by omega
 have wS:(q:Int)<h.pl.length:=by omega
 clear hh hp iV;go_enter func52,ntmps52
 go_wp2_with (go_at_call 50;refine(LV HH.o q).z ?_;rw[HM.o];rintro e w1 ⟨rfl,rfl⟩)
 go_ret;have hr:=HH.o.ku;rw[O9.o]at hr;have hs:=agn hr (j:=q*2+1) (by omega)<|aF o;have fs:Fr (fun k=>h.pv.ownBlock=ae k) w (aX w ⟨g,q*2+1,af⟩<|aF o):=(Fr.refl (fun k=>h.pv.ownBlock=ae k) w).setCell (p:=⟨g,q*2+1,af⟩) (.inl (by rw[O9.o];rfl)) _;have hh:=HH.o;have row:∀{ty:dJ} {wd:Nat} {v:aA} {k:Nat} {xs:List aA},bD w B ty wd v k xs->ty≠98->(aX w ⟨g,q*2+1,af⟩<|aF o).ownsRow B ty wd v k xs:=fun ho h5=>fs.ownsRow ho (fun q hq e=>by
  have t0:=iY ho hq;rw[iY hh.ku e]at t0;exact h5 t0.s)
 have fC:aH (aX w ⟨g,q*2+1,af⟩<|aF o) B xb n (h.iD q {p with out:=o}):=by
  refine⟨(fs.block xb (bn hh.blk) hh.aba).t hh.blk,row hh.mg<|by decide,?_,row hh.nM<|by decide,fun a ha=>?_,hh.hx,hh.hP,?_,hh.h6⟩
  ·show(aX w ⟨g,q*2+1,af⟩<|aF o).ownsRow B 98 2 h.pv (h.pl.set q {p with out:=o}).length (qj<|h.pl.set q {p with out:=o});rw[zZ,ahn h.pl q p o HP.o,O9.o];exact hs
  ·have hm:∃a'∈h.pl,a'.lb=a.lb/\a'.bm=a.bm/\a'.v=a.v/\a'.s=a.s:=by
    rcases afI ha with e|e
    ·exact⟨a,e,rfl,rfl,rfl,rfl⟩
    ·exact⟨p,gZ HP.o,by rw[e],by rw[e],by rw[e],by rw[e]⟩
   obtain⟨a',h1,h2,h3,h4,h5⟩:=hm;rw[<-h2,<-h3,<-h4,<-h5];refine(hh.dZ a' h1).stay fs fun k e hf=>?_;have t0:=iY hh.ku e;rcases(hh.dZ a' h1).tags hf with t1|t1|t1<;>rw[t0]at t1<;>cases t1
  ·show h.Q=((h.pl.set q _).length:Int)/\_;rw[zZ];exact hh.hQ
 refine⟨rfl,fC,fs.z fun k e=>.inl<|.inr<|.inr<|.inl e,fun k hk=>?_⟩;rcases hk with e|e|e|e|⟨a,ha,hf⟩
 ·exact .inl<|.inl e
 ·exact .inl<|.inr<|.inl e
 ·exact .inl<|.inr<|.inr<|.inl e
 ·exact .inl<|.inr<|.inr<|.inr<|.inl e
 ·rcases afI ha with e|e
  ·exact .inl<|.inr<|.inr<|.inr<|.inr ⟨a,e,hf⟩
  ·subst e;exact .inl<|.inr<|.inr<|.inr<|.inr ⟨p,gZ HP.o,hf⟩
end
section
def JH(pl:List PL)(L:List Rc)(P:Int):Prop:=
 ∀(q:Nat) (p:PL),pl[q]? =ae p->∀i t,p.s.nw i=ae (t,true)->0<=i/\i<P/\1<=(bI L i).s/\(bI L i).t=t/\(q:Int)∈(bI L i).ps
structure y9(P Q:Int)(L:List Rc)(m:Ms):Prop where
 k:m.k=1\/m.k=2
 q:0<=m.q/\m.q<Q
 p:0<=m.p/\m.p<P
 t:0<=m.t/\m.t<=(bI L m.p).t
 s:m.t=(bI L m.p).t->(bI L m.p).s≠1
 ps:m.t=(bI L m.p).t->m.q∈(bI L m.p).ps
def Ph(pl:List PL)(m:Ms):Prop:=∀(q:Nat) (p:PL),pl[q]? =ae p->m.q=(q:Int)->p.s.nw m.p≠ae (m.t,true)
def vz(pl:List PL)(P Q:Int)(L:List Rc)(F:List Ms):Prop:=∀m∈F,y9 P Q L m/\(m.k=2->Ph pl m)
structure L8(tm:Int)(x:PS):Prop where
 si:0<=x.si/\x.si<=tm
 wa: -tm<=x.wa/\x.wa<=16
 ga:0<=x.ga/\x.ga<=16
def FP(tm:Int)(ps:List PS):Prop:=∀x∈ps,L8 tm x
variable{tm:Int}{x:PS}{ps:List PS}
def L8.dA(h:L8 tm x)(ht:0<=tm)(r:Rc):L8 tm (x.dA r):=by
 unfold PS.dA;split
 ·exact⟨h.si,h.wa,h.ga⟩
 ·split
  ·obtain⟨_,_,_,r4,r5,r6⟩:=H7 ({x with s:=1,t:=r.m}:PS) r.a 1;exact⟨by rw[r4];exact h.si,by rw[r5];exact h.wa,by rw[r6];exact h.ga⟩
  ·split
   ·exact⟨h.si,by simp only;omega,by simp only;omega⟩
   ·exact⟨by simp only;omega,by simp only;omega,by simp only;omega⟩
def ahp(ht:0<=tm):L8 tm ql:=⟨by simp only[ql];omega,by simp only[ql];omega,by simp only[ql];omega⟩
def FP.set(h:FP tm ps)(hx:L8 tm x)(i:Nat):FP tm (ps.set i x):=fun z hz=>by
 rcases afI hz with hz|rfl
 ·exact h z hz
 ·exact hx
def FP.kz(h:FP tm ps)(ht:0<=tm)(r:Rc):FP tm (kz ps r):=by
 refine h.set (L8.dA ?_ ht r) _;by_cases hl:r.p.toNat<ps.length
 ·rw[Ru,eY hl];exact h _<|List.getElem_mem hl
 ·rw[Ru,afO<|by omega];exact ahp ht
def ap3(ht:0<=tm):FP tm xm:=fun x hx=>by
 simp only[xm,jZ,qh,qi,or_self]at hx;subst hx;exact ahp ht
def ap4(ht:0<=tm)(L:List Rc):FP tm (replay L):=by
 suffices h:∀(L:List Rc) (ps:List PS),FP tm ps->FP tm (L.foldl Go.Proofs.YtkelpcjiediamaaGreat.kz ps)from h L xm (ap3 ht)
 intro L;induction L with
 |nil=>intro ps h;exact h
 |cons r L ih=>intro ps h;exact ih _<|h.kz ht r
variable{h:HS}
variable{P Q:Int}{L:List Rc}
def Valid.end_(hv:Valid P Q L):∀r∈L,r.k=3->r.a=0\/r.a=1:=by
 induction hv with
 |nil=>intro r hr;simp at hr
 | @snoc L r hv hn ih=>
   intro x hx hk;rcases oN.1 hx with hx|hx
   ·exact ih x hx hk
   ·rw[oM.1 hx]at hk⊢
    rcases hn.kind with⟨h1,_⟩|⟨h1,_⟩|⟨_,h2,_⟩|⟨h1,_⟩
    ·omega
    ·omega
    ·exact h2
    ·omega
def JH.snoc{pl:List PL}{L:List Rc}{P Q:Int}{r:Rc}(ho:JH pl L P)(hn:Next P Q L r)(h4:r.k=4->∀(q:Nat) (p:PL),pl[q]? =ae p->∀t,p.s.nw r.p≠ae (t,true)):JH pl (L++[r]) P:=by
 intro q p hp i t hi;obtain⟨h0,h1,h2,h3,h5⟩:=ho q p hp i t hi;rw[yZ];by_cases e:r.p=i
 ·subst e;rcases hn.kind with⟨k1,k2,k3⟩|⟨k1,k2,k3⟩|⟨k1,k2,k3,k4⟩|⟨k1,k2,k3,k4⟩
  ·rw[show(bI L r.p).step r.p r={bI L r.p with e:=r.m}by simp[St.step,k1]];exact⟨h0,h1,h2,h3,h5⟩
  ·rw[show(bI L r.p).step r.p r=⟨(bI L r.p).e,r.m,1,(if(bI L r.p).s=0 then[]else(bI L r.p).ps)++[r.a]⟩by simp[St.step,k1]];rcases k3 with⟨k3,k4⟩|⟨k3,k4,k5⟩
   ·omega
   ·refine⟨h0,h1,by simp,by simp only;omega,?_⟩;simp only[k3];rw[if_neg<|by decide];exact CJ _ h5
  ·rw[show(bI L r.p).step r.p r={bI L r.p with s:=3-r.a}by simp[St.step,k1]];exact⟨h0,h1,by simp only;omega,h3,h5⟩
  ·exact absurd hi<|h4 k1 q p hp t
 ·rw[St.Hz _ e];exact⟨h0,h1,h2,h3,h5⟩
def y9.snoc{P Q:Int}{L:List Rc}{r:Rc}{m:Ms}(hm:y9 P Q L m)(hn:Next P Q L r):y9 P Q (L++[r]) m:=by
 obtain⟨hk,hq,hp,ht,hs,gY⟩:=hm;by_cases e:r.p=m.p
 ·refine⟨hk,hq,hp,?_,?_,?_⟩<;>rw[yZ]<;>rw[<-e]at ht hs gY⊢
  ·rcases hn.kind with⟨k1,k2,k3⟩|⟨k1,k2,k3⟩|⟨k1,k2,k3,k4⟩|⟨k1,k2,k3,k4⟩
   ·rw[show(bI L r.p).step r.p r={bI L r.p with e:=r.m}by simp[St.step,k1]];exact ht
   ·rw[show(bI L r.p).step r.p r=⟨(bI L r.p).e,r.m,1,(if(bI L r.p).s=0 then[]else(bI L r.p).ps)++[r.a]⟩by simp[St.step,k1]];simp only;rcases k3 with⟨k3,k4⟩|⟨k3,k4,k5⟩<;>omega
   ·rw[show(bI L r.p).step r.p r={bI L r.p with s:=3-r.a}by simp[St.step,k1]];exact ht
   ·rw[show(bI L r.p).step r.p r={bI L r.p with s:=0}by simp[St.step,k1]];exact ht
  ·rcases hn.kind with⟨k1,k2,k3⟩|⟨k1,k2,k3⟩|⟨k1,k2,k3,k4⟩|⟨k1,k2,k3,k4⟩
   ·rw[show(bI L r.p).step r.p r={bI L r.p with e:=r.m}by simp[St.step,k1]];exact hs
   ·rw[show(bI L r.p).step r.p r=⟨(bI L r.p).e,r.m,1,(if(bI L r.p).s=0 then[]else(bI L r.p).ps)++[r.a]⟩by simp[St.step,k1]];simp only;rcases k3 with⟨k3,k4⟩|⟨k3,k4,k5⟩
    ·omega
    ·intro e2;exact absurd k3<|hs<|by omega
   ·rw[show(bI L r.p).step r.p r={bI L r.p with s:=3-r.a}by simp[St.step,k1]];simp only;omega
   ·rw[show(bI L r.p).step r.p r={bI L r.p with s:=0}by simp[St.step,k1]];simp
  ·rcases hn.kind with⟨k1,k2,k3⟩|⟨k1,k2,k3⟩|⟨k1,k2,k3,k4⟩|⟨k1,k2,k3,k4⟩
   ·rw[show(bI L r.p).step r.p r={bI L r.p with e:=r.m}by simp[St.step,k1]];exact gY
   ·rw[show(bI L r.p).step r.p r=⟨(bI L r.p).e,r.m,1,(if(bI L r.p).s=0 then[]else(bI L r.p).ps)++[r.a]⟩by simp[St.step,k1]];simp only;rcases k3 with⟨k3,k4⟩|⟨k3,k4,k5⟩
    ·intro e2;omega
    ·intro e2;exact absurd k3<|hs<|by omega
   ·rw[show(bI L r.p).step r.p r={bI L r.p with s:=3-r.a}by simp[St.step,k1]];exact gY
   ·rw[show(bI L r.p).step r.p r={bI L r.p with s:=0}by simp[St.step,k1]];exact gY
 ·refine⟨hk,hq,hp,?_,?_,?_⟩<;>rw[yZ,St.Hz _ e]
  ·exact ht
  ·exact hs
  ·exact gY
def vz.snoc{pl:List PL}{P Q:Int}{L:List Rc}{F:List Ms}{r:Rc}(hm:vz pl P Q L F)(hn:Next P Q L r):vz pl P Q (L++[r]) F:=fun m hx=>⟨(hm m hx).1.snoc hn,(hm m hx).2⟩
def Valid.parts(hv:Valid P Q L):∀p,(bI L p).s≠0->(bI L p).ps≠[]:=by
 induction hv with
 |nil=>intro p h;exact absurd rfl h
 | @snoc L r hv hn ih=>
   intro p;rw[yZ];by_cases e:r.p=p
   ·subst e;rcases hn.kind with⟨k1,k2,k3⟩|⟨k1,k2,k3⟩|⟨k1,k2,k3,k4⟩|⟨k1,k2,k3,k4⟩
    ·rw[show(bI L r.p).step r.p r={bI L r.p with e:=r.m}by simp[St.step,k1]];exact ih r.p
    ·rw[show(bI L r.p).step r.p r=⟨(bI L r.p).e,r.m,1,(if(bI L r.p).s=0 then[]else(bI L r.p).ps)++[r.a]⟩by simp[St.step,k1]];simp
    ·rw[show(bI L r.p).step r.p r={bI L r.p with s:=3-r.a}by simp[St.step,k1]];exact fun _=>ih r.p<|by omega
    ·rw[show(bI L r.p).step r.p r={bI L r.p with s:=0}by simp[St.step,k1]];intro z;exact absurd rfl z
   ·rw[St.Hz _ e];exact ih p
def Next.valid{r:Rc}(hn:Next P Q L r)(hv:Valid P Q L):Valid P Q (L++[r]):=.snoc hv hn
def ap5(L:List Rc)(r:Rc):(L++[r]).flatMap fB=L.flatMap fB++fB r:=by simp
end
section
variable{r:Rc}
def ap6{ps:List PS}{i:Nat}{x:PS}(hx:(kz ps r)[i]? =ae x)(hp:0<=r.p)(h6:r.p<6)(hl:ps.length=6):(∃x0,ps[i]? =ae x0/\r.p=i/\x=x0.dA r)\/(r.p≠i/\ps[i]? =ae x):=by
 obtain⟨k,hk⟩:=qY hp;have e:r.p.toNat=k:=by omega
 unfold kz at hx;rw[e]at hx;have oq:k<ps.length:=by omega
 by_cases h1:k=i
 ·subst h1;rw[nJ oq]at hx;refine .inl ⟨ps[k],eY oq,hk,?_⟩;have:=rP hx;rw[<-this];simp[List.getD,eY oq]
 ·rw[vZ h1]at hx;exact .inr ⟨by omega,hx⟩
end
section
variable{h:HS}
def CZ{α:Type}{l:List α}{k i:Nat}{v a:α}(hi:(l.set k v)[i]? =ae a):(i=k/\a=v)\/(i≠k/\l[i]? =ae a):=by
 by_cases e:i=k
 ·subst e;have hl:i<(l.set i v).length:=(dS.1 hi).1;rw[zZ]at hl;rw[nJ hl]at hi;exact .inl ⟨rfl,(rP hi).s⟩
 ·rw[vZ fun e2=>e e2.s]at hi;exact .inr ⟨e,hi⟩
variable{i P t0:Int}{pl:List PL}{L:List Rc}{q:Nat}{p':PL}{s:aJ}
def JH.set(o:JH pl L P)(hn:∀i t,p'.s.nw i=ae (t,true)->0<=i/\i<P/\1<=(bI L i).s/\(bI L i).t=t/\(q:Int)∈(bI L i).ps):JH (pl.set q p') L P:=by
 intro j a ha i t hi;rcases CZ ha with⟨e1,rfl⟩|⟨e1,ha'⟩
 ·rw[e1];exact hn i t hi
 ·exact o j a ha' i t hi
def vz.set{Q:Int}{F:List Ms}(hm:vz pl P Q L F){p:PL}(hp:pl[q]? =ae p)(ho:∀i t,p'.s.nw i=ae (t,true)->p.s.nw i=ae (t,true)\/((bI L i).s=1/\(bI L i).t=t)):vz (pl.set q p') P Q L F:=by
 intro m hx;refine⟨(hm m hx).1,fun h2 j a ha hj hi=>?_⟩;rcases CZ ha with⟨e1,rfl⟩|⟨e1,ha'⟩
 ·subst e1;rcases ho _ _ hi with e|⟨e,e2⟩
  ·exact(hm m hx).2 h2 j p hp hj e
  ·exact(hm m hx).1.s e2.s e
 ·exact(hm m hx).2 h2 j a ha' hj hi
def Xp{j t:Int}(h:(s.opened i t0).nw j=ae (t,true)):s.nw j=ae (t,true)\/(j=i/\t=t0):=by
 unfold aJ.opened at h;split at h
 ·unfold aJ.set at h;simp only at h;split at h
  ·rename_i e;simp only[gU,uu,and_true]at h;exact .inr ⟨e,h.s⟩
  ·exact .inl h
 ·exact .inl h
def ap7{x:ByteArray}:(s.lQ i t0 x).nw=s.nw:=by
 unfold aJ.lQ;split<;>rfl
end
section
attribute [local go_sem ↓] Go.wp_at_zero Go.wp_at_succ
def abO:∀(l:List Ms) (k:Nat) (e:Ms) (j:Nat),l[k]? =ae e->j<5->(l.flatMap Ms.cs)[k*5+j]? =e.cs[j]?
 |[],k,e,j,h,_=>by simp at h
 |x::r,0,e,j,h,hj=>by
  simp only[yV,gU]at h;subst h;simp only[pF,Nat.zero_mul,D9];exact vg<|by simpa[Ms.cs]using hj
 |x::r,k+1,e,j,h,hj=>by
  simp only[Bi]at h;have:=abO r k e j h hj;rw[pF,yj (by simp[Ms.cs]<;>omega)];rw[<-this];congr 1;simp[Ms.cs]<;>omega
def Xq{w:ay}{B:Nat}{v:aA}{l:List Ms}(h:bD w B 119 5 v l.length (l.flatMap Ms.cs)){k:Nat}{e:Ms}(hk:l[k]? =ae e):
 ∃g cap,v=aN (ae ⟨g,0,af⟩) l.length cap/\g<w.heap.size/\l.length<=cap/\cap<=eP/\aB w ⟨g,k*5,af⟩=ae (ag ah e.k)/\aB w ⟨g,k*5+1,af⟩=ae (ag ah e.q)/\aB w ⟨g,k*5+2,af⟩=ae (ag ah e.p)/\aB w ⟨g,k*5+3,af⟩=ae (ag ah e.t)/\aB w ⟨g,k*5+4,af⟩=ae (aF e.c):=by
 rcases h.2 with⟨rfl,h0⟩|⟨g,cap,cur,rfl,_,_,h1,h2,_⟩
 ·have:=(List.getElem?_eq_some_iff.mp hk).1;omega
 ·have hc:=h.cells (g:=g) rfl;have key:∀j u,j<5->e.cs[j]? =ae u->aB w ⟨g,k*5+j,af⟩=ae u:=fun j u hj hu=>by
   have:=hc (k*5+j) u<|(abO l k e j hk hj).t hu;rw[aFA]at this;simpa using this
  exact⟨g,cap,rfl,(h.lt g rfl).2,h1,h2,key 0 _ (by omega) rfl,key 1 _ (by omega) rfl,key 2 _ (by omega) rfl,key 3 _ (by omega) rfl,key 4 _ (by omega) rfl⟩
variable{w:ay}{B:Nat}
end
section
def JI:(prog.info? 119).map (fun i=>(i.zero,i.size,i.bytes))=ae (ae<|iF #[ag ah 0,ag ah 0,ag ah 0,ag ah 0,aF false],5,40):=by kernel_rfl
def HS.iH(h:HS)(v:aA)(l:List Ms):HS:={h with fv:=v,fl:=l}
def HS.ap8{h:HS}(h6:h.ps.length=6)(v:aA)(l:List Ms):h.cells.toArray.setIfInBounds 69 v=(h.iH v l).cells.toArray:=by
 obtain⟨P,Q,T,K,jv,jb,up,ps,br,kp,pv,pl,fv,fl⟩:=h;obtain⟨⟨e0,t0,s0,a0,b0,c0,d0,x0,y0,z0⟩,⟨e1,t1,s1,a1,b1,c1,d1,x1,y1,z1⟩,⟨e2,t2,s2,a2,b2,c2,d2,x2,y2,z2⟩,⟨e3,t3,s3,a3,b3,c3,d3,x3,y3,z3⟩,⟨e4,t4,s4,a4,b4,c4,d4,x4,y4,z4⟩,⟨e5,t5,s5,a5,b5,c5,d5,x5,y5,z5⟩,rfl⟩:=six h6;kernel_rfl
variable{w w':ay}{B xb n:Nat}{h:HS}
def aH.abP{w3:ay}{fv:aA}{l:List Ms}(hh:aH w B xb n h)(f3:Fr (fun q=>h.fv.ownBlock=ae q) w w3)(jf:bD w3 B 119 5 fv l.length (l.flatMap Ms.cs))(fC:∀q,bY fv=ae q->h.fv.ownBlock=ae q\/w.heap.size<=q):di w (aX w3 ⟨xb,69,af⟩ fv) B xb n h n (h.iH fv l):=by
 have hz:=bn hh.blk;have n1:h.fv.ownBlock≠ae xb:=WY hh.nM hh.blk (by decide);have fs:Fr (fun q=>q=xb) w3 (aX w3 ⟨xb,69,af⟩ fv):=(Fr.refl (fun q=>q=xb) w3).setCell (p:=⟨xb,69,af⟩) (.inl rfl) _;have f4:Fr (fun q=>q=xb\/h.fv.ownBlock=ae q) w (aX w3 ⟨xb,69,af⟩ fv):=(f3.z fun q e=>.inl<|.inr e).t fs fun q e=>.inl<|.inl e;have key:∀{ty:dJ} {wd:Nat} {v:aA} {n:Nat} {xs:List aA},bD w B ty wd v n xs->ty≠119->ty≠111->∀q,bY v=ae q->¬(q=xb\/h.fv.ownBlock=ae q):=fun{ty wd v n xs} hr h1 h2 q hq e=>by
  have ht:=iY hr hq;rcases e with e|e
  ·subst e;rw[mO hh.blk]at ht;exact h2 ht.s
  ·have:=iY hh.nM e;rw[ht]at this;exact h1 this
 refine⟨⟨?_,f4.ownsRow hh.mg<|key hh.mg (by decide)<|by decide,f4.ownsRow hh.ku<|key hh.ku (by decide)<|by decide,?_,fun p hp=>?_,hh.hx,hh.hP,hh.hQ,hh.h6⟩,?_,?_⟩
 ·rw[kU<|(f3.block _ hz n1).t hh.blk,HS.ap8 hh.h6 fv l]
 ·refine fs.ownsRow jf fun q hq e=>?_;subst e;rcases fC _ hq with a|a
  ·exact n1 a
  ·omega
 ·refine(hh.dZ p hp).stay f4 fun q hq hf=>?_;rcases hq with hq|hq
  ·subst hq;exact hh.LU hp hf
  ·have h0:=iY hh.nM hq;rcases(hh.dZ p hp).tags hf with h1|h1|h1<;>rw[h0]at h1<;>cases h1
 ·exact f4.z fun q e=>.inl (by rcases e with e|e;exact .inl e;exact .inr<|.inr<|.inr<|.inl e)
 ·intro x hx;rcases hx with e|e|e|e|e
  ·exact .inl<|.inl e
  ·exact .inl<|.inr<|.inl e
  ·exact .inl<|.inr<|.inr<|.inl e
  ·rcases fC x e with a|a
   ·exact .inl<|.inr<|.inr<|.inr<|.inl a
   ·exact .inr a
  ·exact .inl<|.inr<|.inr<|.inr<|.inr e
inductive yB(w w':ay)(B xb n:Nat)(h:HS)(m:Ms):Prop
 |lost (hl:100<=h.fl.length) (f:Fr aS w w'):yB w w' B xb n h m
 |iH (hl:h.fl.length<100) (fv:aA) (mv:di w w' B xb n h n (h.iH fv<|h.fl++[m])) (fC:∀q,bY fv=ae q->h.fv.ownBlock=ae q\/w.heap.size<=q):yB w w' B xb n h m
def abQ(hh:aH w B xb n h)(m:Ms):
 aW prog 120 #[az<|ae ⟨xb,69,af⟩,iF #[ag ah m.k,ag ah m.q,ag ah m.p,ag ah m.t,aF m.c]] w fun e w'=>e=aV (dU #[])/\yB w w' B xb n h m:=by
 obtain⟨i0,ed,iI,ig,jg⟩:=aFq JI;have H:aj (aH w B xb n h):=hh;have c0:=hh.cF;obtain⟨la,lc,hl,zL⟩:=oP hh.nM;have Xr:aj (h.fv=.slice la h.fl.length lc):=hl;rw[hl]at c0;have cf:∀o,w.frozen? ⟨xb,o,af⟩=false:=kK hh.blk;have aK:=bn hh.blk;have yQ:Value.ownBlock (.slice la h.fl.length lc)≠ae xb:=by rw[<-hl];exact WY hh.nM hh.blk<|by decide
 have hBw:B<=w.heap.size:=aaN<|aaE hh.hx aK;have L6:aj (bD w B 119 5 (.slice la h.fl.length lc) h.fl.length<|h.fl.flatMap Ms.cs):=by have:=hh.nM;rw[hl]at this;exact this
 clear hh hl zL;by_cases hb:h.fl.length<100
 ·go_enter func120,ntmps120
  go_wp2_with fail
  go_region_law
   ((refine aFH _ (by rfl) _ _ _ (by rfl) B 119 i0 _ 5 40 underlying107 ed iI ig jg rfl (by omega) (.slice la h.fl.length lc) h.fl.length (h.fl.flatMap Ms.cs) (by rfl) (by exact(((bQ _).alloc _).drew).ownsRow L6.o fun _ _=>id)
      ⟨w.heap.size+1,0,af⟩ 1 1 [ag ah m.k,ag ah m.q,ag ah m.p,ag ah m.t,aF m.c] (by rfl) (by rfl) (aFk (cs:=#[ag ah m.k,ag ah m.q,ag ah m.p,ag ah m.t,aF m.c]) (t:=119) (fr:=(0,0)) (by show((bz w _).alloc _).heap[_]? =_;exact Bz _<|by simp)) (by simp[Value.oneCell'])
      (by omega) (by simp only[eP];omega) (by omega) (by simp<;>omega) (w.heap.size+1+1) (by simp) ?_;intro gg cap w3 jf qG fC uQ
     have mQ:=(qG.block xb (by simp<;>omega)<|Ne.s yQ).t<|(((bQ _).alloc _).drew.block _ aK id).t H.o.blk
     have k0:aB w3 ⟨xb,69,af⟩=ae (.slice la h.fl.length lc):=(aQ mQ 69).t<|by rw[(HS.c4 H.o.h6).2.2.2,Xr.o]
     have k1:∀o,w3.frozen? ⟨xb,o,af⟩=false:=kK mQ
     clear mQ))
  all_goals
   go_wp2
   go_end0
   refine⟨rfl,.iH hb _ (H.o.abP (by rw[Xr.o];exact(((((bQ _).alloc _).drew).z dw).grown qG fun q e=>.inl e)) (by simpa[Ms.cs]using jf) ?_) ?_⟩
   all_goals
    intro q hq
    simp only[Value.ownBlock,gU]at hq
    subst hq
    rcases fC with a|a
    ·exact .inl (by rw[Xr.o];exact a)
    ·exact .inr<|by omega
 ·go_enter func120,ntmps120
  go_wp2
  go_end0
  exact⟨rfl,.lost (by omega)<|bQ _⟩
end
section
variable{w w':ay}{B xb n:Nat}{h:HS}
variable{k:Nat}{m:Ms}
def aCB(hh:aH w B xb n h)(hk:h.fl[k]? =ae m):
 aW prog 87 #[az<|ae ⟨xb,0,af⟩,ag ah k] w fun r w'=>r=aV (dU #[iF #[ag ah m.k,ag ah m.q,ag ah m.p,ag ah m.t,aF m.c],ag ah 0])/\Fr aS w w':=by
 have HH:aj (aH w B xb n h):=hh;have oq:=(List.getElem?_eq_some_iff.mp hk).1;have HM:aj (decide ((0:Int)<=k/\(k:Int)<h.fl.length)=true):=jY (by omega);have cF:=hh.cF;obtain⟨g,cap,e,hg,pV,lY,c0,c1,c2,c3,c4⟩:=Xq hh.nM hk;unfold eP at lY;rw[e]at cF;have aK:=bn hh.blk;clear hh hk e;go_enter func87,ntmps87
 go_wp2_with (go_at_call 139;refine(O1 (by exact HH.o.a<|bQ _) k).z ?_;rw[HM.o];rintro e w1 ⟨rfl,rfl⟩)
 refine aFx (JB rfl _ _ _ 119 _ (0,0) _ rfl (aFb _ _) underlying119 rfl<|by kernel_rfl) rfl ?_;exact⟨rfl,bQ _⟩
def yB.behind{w1:ay}(f:Fr aS w w1)(s:yB w1 w' B xb n h m):yB w w' B xb n h m:=by
 cases s with
 |lost hl g=>exact .lost hl<|f.t g dw
 |iH hl fv mv fC=>exact .iH hl fv ⟨mv.at_,(f.z dw).t mv.fr fun _=>.inl,fun k hk=>by
   rcases mv.sub k hk with e|e
   ·exact .inl e
   ·exact .inr<|fG f.size e⟩ (fun q hq=>by
   rcases fC q hq with e|e
   ·exact .inl e
   ·exact .inr<|fG f.size e)
def ap9(hh:aH w B xb n h)(hk:h.fl[k]? =ae m):
 aW prog 85 #[az<|ae ⟨xb,0,af⟩,ag ah k] w fun r w'=>r=aV (ag ah 0)/\yB w w' B xb n h m:=by
 have HH:aj (aH w B xb n h):=hh;have oq:=(List.getElem?_eq_some_iff.mp hk).1;have HM:aj (decide ((0:Int)<=k/\(k:Int)<h.fl.length)=true):=jY (by omega);have cF:=hh.cF;obtain⟨g,cap,e,hg,pV,lY,c0,c1,c2,c3,c4⟩:=Xq hh.nM hk;unfold eP at lY;rw[e]at cF;have aK:=bn hh.blk;clear hh hk e;go_enter func85,ntmps85
 go_wp2_with (go_at_call 139;refine(O1 HH.o k).z ?_;rw[HM.o];rintro e w1 ⟨rfl,rfl⟩)
 go_region_law
  ((go_simp;go_at_call 120;refine(abQ (HH.o.a<|dR.drew) m).z ?_;rintro e w2 ⟨rfl,hs⟩
    have S2:aj (yB w w2 B xb n h m):=hs.behind<|dR.drew
    clear hs))
 all_goals
  go_wp2
  go_ret
  exact⟨rfl,S2.o⟩
end
def aqa{w:ay}{B lb bm n:Nat}{v:aA}{s:aJ}(h:fA w B lb bm v n s)(p t:Int)(c:Bool)(hp:(Lit.int .i64 p).wf=true)(hn:n<eP)(hb:(s.es.length+1)*40<=140737488355328):
 aW prog 187 #[az<|ae ⟨lb,0,af⟩,ag ah p,ag ah t,.bool c] w fun e w'=>e=aV (.bool<|s.isOpen p t)/\
  ∃v',Left w w' B lb bm v v' (n+1) (s.closed p t c):=by
 have H:aj (fA w B lb bm v n s):=h
 have HP:aj ((Lit.int .i64 p).wf=true):=hp
 have HN:aj (n<eP):=hn
 have HK:aj (keyOf prog 3 (.int .i64 p)=ae (.int .i64 p)):=aF2 underlying3 hp
 have HB:aj ((s.es.length+1)*40<=140737488355328):=hb
 clear h hp hb hn
 by_cases ho:s.isOpen p t=true
 ·cases c
  ·have hs:s.closed p t false=(s.put ⟨3,p,t,⟨#[]⟩⟩).set p t false:=by simp[aJ.closed,ho,aJ.xh]
   rw[hs,ho]
   clear hs
   go_enter func187,ntmps187
   go_wp2_with (first
    |(go_at_call 122;refine(Ht H.o _ _ HP.o).z ?_;rintro e w' ⟨rfl,rfl⟩)
    |(go_at_call 184;refine(aaR H.o ⟨3,p,t,⟨#[]⟩⟩ HB.o).z ?_;rintro e w1 ⟨rfl,v',lH,bU,jP⟩
      have k1:aB w1 ⟨lb,2,af⟩=ae (.map<|ae bm):=by rw[aQ lH.blk];rfl)
    |(at_mapUpdate;refine RN _ rfl _ _ _ 161 rfl 3 189 Bl underlying161 bm n (jH s.nw) rfl (by exact lH.map) HN.o _ _ _ rfl rfl HK.o (jH ((s.put ⟨3,p,t,⟨#[]⟩⟩).set p t false).nw) (OU _ _ _ _) (OV _ _ _ _) ?_;intro w2 EX NQ))
   go_ret
   have f2:Fr (fun k=>k=bm) w1 w2:=(Fr.refl (fun k=>k=bm) w1).LG NQ<|.inl rfl
   refine⟨rfl,v',lH.OW f2 EX,?_,jP⟩
   exact(bU.z fun k hk=>.inl (by rcases hk with e|e;exact .inl e;exact .inr<|.inr e)).t f2 fun k hk=>.inl<|.inr<|.inl hk
  ·have hs:s.closed p t true=(s.put ⟨2,p,t,⟨#[]⟩⟩).set p t false:=by simp[aJ.closed,ho,aJ.xh]
   rw[hs,ho]
   clear hs
   go_enter func187,ntmps187
   go_wp2_with (first
    |(go_at_call 122;refine(Ht H.o _ _ HP.o).z ?_;rintro e w' ⟨rfl,rfl⟩)
    |(go_at_call 184;refine(aaR H.o ⟨2,p,t,⟨#[]⟩⟩ HB.o).z ?_;rintro e w1 ⟨rfl,v',lH,bU,jP⟩
      have k1:aB w1 ⟨lb,2,af⟩=ae (.map<|ae bm):=by rw[aQ lH.blk];rfl)
    |(at_mapUpdate;refine RN _ rfl _ _ _ 161 rfl 3 189 Bl underlying161 bm n (jH s.nw) rfl (by exact lH.map) HN.o _ _ _ rfl rfl HK.o (jH ((s.put ⟨2,p,t,⟨#[]⟩⟩).set p t false).nw) (OU _ _ _ _) (OV _ _ _ _) ?_;intro w2 EX NQ))
   go_ret
   have f2:Fr (fun k=>k=bm) w1 w2:=(Fr.refl (fun k=>k=bm) w1).LG NQ<|.inl rfl
   refine⟨rfl,v',lH.OW f2 EX,?_,jP⟩
   exact(bU.z fun k hk=>.inl (by rcases hk with e|e;exact .inl e;exact .inr<|.inr e)).t f2 fun k hk=>.inl<|.inr<|.inl hk
 ·have hs:s.closed p t c=s:=by simp[aJ.closed,ho]
  have uO:s.isOpen p t=false:=by simpa using ho
  rw[hs,uO]
  clear hs ho
  go_enter func187,ntmps187
  go_wp2_with (go_at_call 122;refine(Ht H.o _ _ HP.o).z ?_;rintro e w' ⟨rfl,rfl⟩)
  go_ret
  exact⟨rfl,v,H.o.z<|by omega,Fr.refl _ _,fun k hk=>.inl hk⟩
section
def Ms.lJ(m:Ms):Ms:={m with k:=2}
def oJ{w:ay}{a:Addr}{v:aA}(hc:aB w a=ae v):a.block<w.heap.size:=by
 unfold World.cell? at hc;split at hc
 ·rename_i hb;exact(jF.1 hb).1
 ·cases hc
def fA.uz{w:ay}{B lb bm n:Nat}{v:aA}{s:aJ}(h:fA w B lb bm v n s){k:Nat}(hk:k=lb\/k=bm\/bY v=ae k):k<w.heap.size:=by
 rcases hk with rfl|rfl|e
 ·exact h.lt
 ·exact h.map.lt
 ·exact(h.row.lt _ e).2
def Left.told{w W w1:ay}{B lb bm n:Nat}{v v':aA}{s:aJ}(h:Left W w1 B lb bm v v' n s)(f:Fr aS w W)(o o':Obj):
 ((bz w1 o).alloc o').heap[w1.heap.size+1]? =ae o'/\w.heap.size<=w1.heap.size+1/\Left w ((bz w1 o).alloc o') B lb bm v v' n s:=by
 have f2:Fr aS w1 ((bz w1 o).alloc o'):=(dR.alloc _).alloc _;have h1:=aFb (bz w1 o) o';have hs:=h.fr.size;have uU:=f.size;refine⟨by simpa using h1,by omega,f2.logAt h.log id id fun _ _=>id,?_,fun k hk=>?_⟩
 ·exact(f.z dw).t (h.fr.t (f2.z dw) fun _ h=>.inl h) fun _ h=>.inl h
 ·rcases h.OX k hk with e|e
  ·exact .inl e
  ·exact .inr<|by omega
variable{w:ay}{B lb bm n:Nat}{v:aA}{s:aJ}
variable{pb po:Nat}
def aqb(c1:aB w ⟨pb,po+1,af⟩=ae (.bool true))(m:Ms):
 aW prog 141 #[az<|ae ⟨pb,po,af⟩,iF #[ag ah m.k,ag ah m.q,ag ah m.p,ag ah m.t,.bool m.c]] w fun e w'=>e=aV (aN af 0 0)/\Fr aS w w':=by
 have aK:pb<w.heap.size:=oJ c1;go_enter func141,ntmps141
 go_wp2
 go_ret;exact⟨rfl,bQ _⟩
def aqc(h:fA w B lb bm v n s)(c0:aB w ⟨pb,po,af⟩=ae (ptr lb))(c1:aB w ⟨pb,po+1,af⟩=ae (.bool false))(m:Ms)
 (hp:(Lit.int .i64 m.p).wf=true)(hn:n<eP)(hb:(s.es.length+1)*40<=140737488355328):
 aW prog 141 #[az<|ae ⟨pb,po,af⟩,iF #[ag ah m.k,ag ah m.q,ag ah m.p,ag ah m.t,.bool m.c]] w fun e w'=>
  ∃b v',e=aV (aN (ae ⟨b,0,af⟩) 1 1)/\w'.heap[b]? =ae (.cells m.lJ.cs.toArray 119 (0,0))/\w.heap.size<=b/\Left w w' B lb bm v v' (n+1) (s.closed m.p m.t m.c):=by
 have H:aj (fA w B lb bm v n s):=h
 have HP:aj ((Lit.int .i64 m.p).wf=true):=hp
 have HN:aj (n<eP):=hn
 have HB:aj ((s.es.length+1)*40<=140737488355328):=hb
 clear h hp hb hn
 unfold ptr at c0
 have aK:pb<w.heap.size:=oJ c1
 go_enter func141,ntmps141
 have HF:aj (¬(w.heap.size=lb\/w.heap.size=bm\/bY v=ae w.heap.size)):=fun e=>OQ _<|H.o.uz e
 go_wp2
 go_region_law
  ((go_simp;go_at_call 187;refine(aqa (Fr.logAt ((bQ _).t ((Fr.refl (fun _=>False) _).drew) dw) H.o id id fun _ _=>id) m.p m.t m.c HP.o HN.o HB.o).z ?_;rintro e w1 ⟨rfl,v',lH⟩
    have H1:aj (Left (w.alloc<|aG #[ag ah m.k,ag ah m.q,ag ah m.p,ag ah m.t,.bool m.c] 119).drew w1 B lb bm v v' (n+1)<|s.closed m.p m.t m.c):=lH
    have AO:w1.heap[w.heap.size]? =ae (aG #[ag ah m.k,ag ah m.q,ag ah m.p,ag ah m.t,.bool m.c] 119 (0,0)):=(lH.fr.block w.heap.size (by simp) HF.o).t<|aFb _ _
    have k0:aB w1 ⟨w.heap.size,0,af⟩=ae (.int .i64 m.k):=by rw[aQ AO];rfl
    have k1:aB w1 ⟨w.heap.size,1,af⟩=ae (.int .i64 m.q):=by rw[aQ AO];rfl
    have k2:aB w1 ⟨w.heap.size,2,af⟩=ae (.int .i64 m.p):=by rw[aQ AO];rfl
    have k3:aB w1 ⟨w.heap.size,3,af⟩=ae (.int .i64 m.t):=by rw[aQ AO];rfl
    have k4:aB w1 ⟨w.heap.size,4,af⟩=ae (.bool m.c):=by rw[aQ AO];rfl
    clear lH AO))
 all_goals
  go_wp2
  go_ret
  exact⟨w1.heap.size+1,v',rfl,(H1.o.told ((bQ _).t ((Fr.refl (fun _=>False) _).drew) dw) _ _)⟩
end
section
def SN:∀(vs:List aA) (w:ay) (b o:Nat),w.setCells b o vs=Jz w b o vs
 |[],_,_,_=>rfl
 |v::r,w,b,o=>SN r (aX w ⟨b,o,af⟩ v) b<|o+1
def L9(l:List Ms):(l.flatMap Ms.cs).length=l.length*5:=by
 induction l with
 |nil=>rfl
 |cons a r ih=>simp[pF,ih,Ms.cs]<;>omega
def Ig:List Value:=[ag ah 0,ag ah 0,ag ah 0,ag ah 0,aF false]
variable{l:List Ms}{k B g cap:Nat}{w:ay}
def aqd(hk:k<l.length):
 (Eb (Eb (l.flatMap Ms.cs) (k*5)<|(l.drop<|k+1).flatMap Ms.cs) ((l.length-1)*5) Ig).take ((l.length-1)*5)=(l.eraseIdx k).flatMap Ms.cs:=by
 have h0:=L9 l;have h1:=L9<|l.drop<|k+1;have h2:=L9<|l.eraseIdx k;have h3:=L9<|l.take k;rw[List.length_drop]at h1;rw[List.length_eraseIdx_of_lt hk]at h2;rw[LC,afR<|by omega]at h3;have e:l.eraseIdx k=l.take k++l.drop (k+1):=List.eraseIdx_eq_take_drop_succ ..
 have es:l=l.take k++l.drop k:=(aaD k l).s;apply List.ext_getElem?;intro q;by_cases hq:q<(l.length-1)*5
 ·rw[List.getElem?_take_of_lt hq];have hz:Ig.length=5:=rfl;have lH:(Eb (l.flatMap Ms.cs) (k*5)<|(l.drop<|k+1).flatMap Ms.cs).length=l.length*5:=by rw[aa5];exact h0
  rw[aa6 _ _ _ _ (by rw[lH,hz];omega),if_neg<|by omega,aa6 _ _ _ _ (by rw[h0,h1];omega),e,Hl];by_cases hc:k*5<=q
  ·rw[if_pos ⟨hc,by rw[h1];omega⟩,yj (by rw[h3];exact hc),h3]
  ·rw[if_neg<|by omega,vg (by rw[h3];omega)];conv=>lhs;rw[es,Hl]
   rw[vg (by rw[h3];omega)]
 ·rw[afO (by rw[LC];omega),afO (by rw[h2];omega)]
def Ms.one:∀u∈l.flatMap Ms.cs,u.oneCell'=true:=by
 intro u hu;obtain⟨m,_,hu⟩:=aaI.1 hu;simp only[Ms.cs,jZ,qh,qi]at hu;rcases hu with rfl|rfl|rfl|rfl|rfl<;>rfl
def aqe{ty:dJ}{wd n m:Nat}{xs:List aA}(h:bD w B ty wd (aN (ae ⟨g,0,af⟩) n cap) n xs)(hm:m<=n):bD w B ty wd (aN (ae ⟨g,0,af⟩) m cap) m (xs.take<|m*wd):=by
 have hmw:m*wd<=n*wd:=Nat.mul_le_mul_right _ hm;refine⟨by rw[LC,h.1];omega,?_⟩;rcases h.2 with⟨hv,h0⟩|⟨g',c,cur,hv,hb,hg,h1,h2,h3,h4⟩
 ·cases hv
 ·simp only[aFi]at hv;obtain⟨jP,_,rfl⟩:=hv;cases jP;refine .inr ⟨g,cap,cur,rfl,hb,hg,by omega,h2,h3,?_⟩;rw[<-h4,List.take_take];congr 1;omega
def aqf(w:ay)(ty:dJ)(b o c:Nat)(hc:∀j,j<5->(aB w ⟨b,o+j,af⟩).isSome=true)(hf:∀j,j<5->w.frozen? ⟨b,o+j,af⟩=false):
 (Builtin.clear_ #[107] ty #[aN (ae ⟨b,o,af⟩) 1 c]).run prog w=.ok (dU #[]) (w.setCells b o Ig):=by
 have hz:(Builtin.zeroCells (Value.agg #[ag ah 0,ag ah 0,ag ah 0,ag ah 0,aF false]).cells 1).toList=Ig:=by kernel_rfl
 have dF:=run_storeCells_cells (P:=prog) b o Ig 0 w (by simpa[Ig]using hc) (by simpa[Ig]using hf) (by intro v hv;simp[Ig]at hv;rcases hv with rfl|rfl<;>rfl);simp only[LD]at dF;simp[Builtin.clear_,aF4 underlying107,hz,dF]
def aqg(hk:k<l.length)(dG:bD w B 119 5 (aN (ae ⟨g,0,af⟩) l.length cap) l.length (l.flatMap Ms.cs)):
 aW prog 186 #[aN (ae ⟨g,0,af⟩) l.length cap,ag ah k,.int .i64<|(k:Int)+1] w fun e w'=>e=aV (aN (ae ⟨g,0,af⟩) (l.length-1:Nat) cap)/\
  w'.ownsRow B 119 5 (aN (ae ⟨g,0,af⟩) (l.length-1) cap) (l.length-1) ((l.eraseIdx k).flatMap Ms.cs)/\Fr (fun q=>q=g) w w':=by
 obtain⟨i0,ed,iI,ig,jg⟩:=aFq JI
 have HR:aj (bD w B 119 5 (aN (ae ⟨g,0,af⟩) l.length cap) l.length<|l.flatMap Ms.cs):=dG
 have aAl:l.length<=cap/\cap<=maxLen:=by
  rcases dG.2 with⟨h,_⟩|⟨g',c',cur,h,_,_,h1,h2,_⟩
  ·cases h
  ·cases h;exact⟨h1,h2⟩
 obtain⟨vP,hm⟩:=aAl
 unfold eP at hm
 have Jd:∀q u,(l.flatMap Ms.cs)[q]? =ae u->aB w ⟨g,q,af⟩=ae u:=by
  intro q u hq;have:=dG.cells (g:=g) rfl q u hq;rwa[show(⟨g,0,af⟩:Addr).add q=⟨g,q,af⟩by rw[aFA,D9]]at this
 have ahq:∀q,w.frozen? ⟨g,q,af⟩=false:=dG.frozenAt
 have hml:=L9 l
 obtain⟨news,Vy⟩:∃news,news=(l.drop<|k+1).flatMap Ms.cs:=⟨_,rfl⟩
 have hlen:news.length=(l.length-(k+1))*5:=by rw[Vy,L9,List.length_drop]
 have N8:∀t u,news[t]? =ae u->(l.flatMap Ms.cs)[(k+1)*5+t]? =ae u:=by
  intro t u ht;have e:l.flatMap Ms.cs=(l.take<|k+1).flatMap Ms.cs++news:=by
   rw[Vy,<-Hl,aaD]
  have h3:=L9<|l.take<|k+1;rw[LC,afR<|by omega]at h3;rw[e,yj<|by omega,h3,show(k+1)*5+t-(k+1)*5=t by omega];exact ht
 obtain⟨A,hA,aAm⟩:∃A:Addr,(if cap=k+1 then ae (⟨g,0,af⟩:Addr)else ae ⟨g,(k+1)*5,af⟩)=ae A/\aj (∀t u,news[t]? =ae u->w.drew.cell? (A.add t)=ae u):=by
  by_cases h:cap=k+1
  ·refine⟨⟨g,0,af⟩,by simp[h],fun t u hu=>?_⟩;have h0:news.length=0:=by rw[hlen];omega
   rw[WI.1 h0]at hu;simp at hu
  ·refine⟨⟨g,(k+1)*5,af⟩,by simp[h],fun t u hu=>?_⟩;rw[aFA];exact Jd _ _<|N8 t u hu
 have s1:aj (news.length=(l.length-(k+1))*5):=hlen
 have s2:aj (∀u∈news,u.oneCell'=true):=by rw[Vy];exact Ms.one
 have amh:∀q,q<l.length*5->(aB w ⟨g,q,af⟩).isSome=true:=by
  intro q hq;rw[Jd q _<|eY<|by omega];rfl
 have s3:aj (∀t,t<news.length->(w.drew.cell? ⟨g,0+k*5+t,af⟩).isSome=true/\w.drew.frozen? ⟨g,0+k*5+t,af⟩=false):=by
  intro t ht;rw[hlen]at ht;exact⟨amh _<|by omega,ahq _⟩
 obtain⟨W1,KP⟩:∃W1,W1=w.drew.setCells g (0+k*5) news:=⟨_,rfl⟩
 have QY:w.drew.ownsRow B 119 5 (aN (ae ⟨g,0,af⟩) l.length cap) l.length (l.flatMap Ms.cs):=dG
 have R1:aj (bD W1 B 119 5 (aN (ae ⟨g,0,af⟩) l.length cap) l.length<|Eb (l.flatMap Ms.cs) (k*5) news):=by
  rw[KP,SN,D9];exact aa7 QY (by rw[hlen];omega)
 have F1:aj (Fr (fun q=>q=g) w W1):=by
  rw[KP,SN];exact((Fr.refl (fun q=>q=g) w).drew).Jz (.inl rfl) _ _
 have ahr:∀q,q<l.length*5->(aB W1 ⟨g,q,af⟩).isSome=true:=by
  intro q hq;have aDA:(Eb (l.flatMap Ms.cs) (k*5) news).length=l.length*5:=by rw[aa5];exact hml
  have:=R1.o.cells (g:=g) rfl q _ (eY<|by omega);rw[show(⟨g,0,af⟩:Addr).add q=⟨g,q,af⟩by rw[aFA,D9]]at this;rw[this];rfl
 have e2:k+(l.length-(k+1))=l.length-1:=by omega
 have oz:∀ty,(Builtin.clear_ #[107] ty #[aN (ae ⟨g,(l.length-1)*5,af⟩) (l.length-(l.length-1))<|cap-(l.length-1)]).run prog W1=.ok (dU #[]) (W1.setCells g ((l.length-1)*5) Ig):=by
  intro ty;rw[show l.length-(l.length-1)=1 by omega];exact aqf W1 ty g _ _ (fun j hj=>ahr _<|by omega) fun j _=>R1.o.frozenAt _
 have hW:aj (W1=w.drew.setCells g (0+k*5) news):=KP
 have HN:aj (news=(l.drop<|k+1).flatMap Ms.cs):=Vy
 have HK:aj (k<l.length):=hk
 have ZZ:k<=cap:=by omega
 have ZP:k+1<=cap:=by omega
 have oq:k+1<=l.length:=by omega
 have AO:(0:Int)<=(k:Int)+1:=by omega
 have sV:(k:Int)+1<=(l.length:Int):=by omega
 clear KP Vy hlen N8 Jd dG QY amh ahr ahq hml
 go_enter func186,ntmps186
 go_wp2_with fail
 go_region_law (refine step_append_room rfl _ _ 107 rfl 119 i0 5 underlying107 ed ig g 0 k cap (by simp[Act.eval,Act.put]) A (l.length-(k+1)) (cap-(k+1)) news (by simp[Act.eval,Act.put]) s1.out aAm.out s2.out (by omega) s3.out ?_;rw[<-hW.out])
 all_goals
  go_wp2
  go_ret
  refine⟨rfl,?_,?_⟩
  ·rw[SN,<-aqd HK.o,<-HN.o]
   exact aqe (aa7 R1.o (by have:=HK.o;show _+5<=_;omega))<|by omega
  ·rw[SN]
   exact F1.o.Jz (.inl rfl) _ _
end
section
variable{w w':ay}{B xb n:Nat}{h:HS}
def di.box{w1 w2:ay}{n1 c:Nat}{h1:HS}(a:di w w1 B xb n h n1 h1)(f:Fr (fun q=>q=c) w1 w2)(hc:w.heap.size<=c)(hn:¬h1.eG xb c):di w w2 B xb n h n1 h1:=
 ⟨a.at_.stay f (fun k e hf=>hn (by subst e;exact hf)),a.fr.t f (fun k e=>.inr<|by omega),a.sub⟩
variable{k:Nat}{m:Ms}
def Xt(hh:aH w B xb n h)(hk:h.fl[k]? =ae m):
 aW prog 140 #[az<|ae ⟨xb,69,af⟩,ag ah k] w fun r w'=>r=aV (iF #[ag ah m.k,ag ah m.q,ag ah m.p,ag ah m.t,aF m.c])/\
  ∃fv,di w w' B xb n h n (h.iH fv<|h.fl.eraseIdx k):=by
 have HH:aj (aH w B xb n h):=hh
 have oq:=(List.getElem?_eq_some_iff.mp hk).1
 have cF:=hh.cF
 obtain⟨g,cap,e,hg,pV,lY,c0,c1,c2,c3,c4⟩:=Xq hh.nM hk
 have HE:aj (h.fv=aN (ae ⟨g,0,af⟩) h.fl.length cap):=e
 have L6:aj (bD w B 119 5 (aN (ae ⟨g,0,af⟩) h.fl.length cap) h.fl.length<|h.fl.flatMap Ms.cs):=by have:=hh.nM;rw[e]at this;exact this
 have HG:aj (¬xb=g):=fun e2=>WY hh.nM hh.blk (by decide) (by rw[e,e2];rfl)
 unfold eP at lY
 rw[e]at cF
 have aK:=bn hh.blk
 have HK:aj (k<h.fl.length):=oq
 have AO:(k:Int)<(h.fl.length:Int):=by omega
 clear hh hk e
 go_enter func140,ntmps140
 go_wp2_with
  ((go_at_call 186;refine(aqg HK.o<|((bQ _).alloc _).ownsRow L6.o fun _ _=>id).z ?_;rintro e w1 ⟨rfl,hr1,bU⟩
    have R1:aj (bD w1 B 119 5 (aN (ae ⟨g,0,af⟩) (h.fl.length-1) cap) (h.fl.length-1)<|(h.fl.eraseIdx k).flatMap Ms.cs):=hr1
    have F1:aj (Fr (fun q=>q=g) ((bz w _).alloc _) w1):=bU
    have mQ:=(bU.block xb (by simp<;>omega) HG.o).t<|((bQ _).alloc _).block _ aK id |>.trans HH.o.blk
    have k0:aB w1 ⟨xb,69,af⟩=ae (aN (ae ⟨g,0,af⟩) h.fl.length cap):=(aQ mQ 69).t<|by rw[(HS.c4 HH.o.h6).2.2.2,HE.o]
    have k1:∀o,w1.frozen? ⟨xb,o,af⟩=false:=kK mQ
    have k2:w1.heap[w.heap.size+1]? =ae (aG #[ag ah m.k,ag ah m.q,ag ah m.p,ag ah m.t,aF m.c] 119 (0,0)):=(bU.block _ (by simp)<|by omega).t<|Bz _<|by simp
    have z2:w1.heap[w.heap.size]? =ae (aG #[ag ah 0,ag ah 0,ag ah 0,ag ah 0,aF false] 119 (0,0)):=(bU.block _ (by simp<;>omega)<|by omega).t<|(Fr.alloc (Fr.refl (fun _=>False) _) _).block _ (by simp) id |>.trans (Bz _<|by simp)
    have m0:aB w1 ⟨w.heap.size+1,0,af⟩=ae (ag ah m.k):=by rw[aQ k2];rfl
    have m1:aB w1 ⟨w.heap.size+1,1,af⟩=ae (ag ah m.q):=by rw[aQ k2];rfl
    have m2:aB w1 ⟨w.heap.size+1,2,af⟩=ae (ag ah m.p):=by rw[aQ k2];rfl
    have m3:aB w1 ⟨w.heap.size+1,3,af⟩=ae (ag ah m.t):=by rw[aQ k2];rfl
    have m4:aB w1 ⟨w.heap.size+1,4,af⟩=ae (aF m.c):=by rw[aQ k2];rfl
    have y0:aB w1 ⟨w.heap.size,0,af⟩=ae (ag ah 0):=by rw[aQ z2];rfl
    have y1:aB w1 ⟨w.heap.size,1,af⟩=ae (ag ah 0):=by rw[aQ z2];rfl
    have y2:aB w1 ⟨w.heap.size,2,af⟩=ae (ag ah 0):=by rw[aQ z2];rfl
    have y3:aB w1 ⟨w.heap.size,3,af⟩=ae (ag ah 0):=by rw[aQ z2];rfl
    have y4:aB w1 ⟨w.heap.size,4,af⟩=ae (aF false):=by rw[aQ z2];rfl
    have yf:∀o,w1.frozen? ⟨w.heap.size,o,af⟩=false:=kK z2
    have Z2:aj (w1.heap[w.heap.size]? =ae (aG #[ag ah 0,ag ah 0,ag ah 0,ag ah 0,aF false] 119 (0,0))):=z2
    have o9:¬xb=w.heap.size:=by omega
    have iJ:¬xb=w.heap.size+1:=by omega
    clear hr1 bU mQ k2 z2))
 have fz:Fr (fun q=>q=xb) w1 (aX w1 ⟨xb,69,af⟩<|aN (ae ⟨g,0,af⟩) (h.fl.length-1) cap):=(Fr.refl (fun q=>q=xb) w1).setCell (p:=⟨xb,69,af⟩) (.inl rfl) _
 have q0:=(fz.block w.heap.size (bn Z2.o)<|by omega).t Z2.o
 have q5:=kU (kU (kU (kU (kU q0 0<|ag ah m.k) 1<|ag ah m.q) 2<|ag ah m.p) 3<|ag ah m.t) 4<|aF m.c
 refine aFx (agD rfl _ _ _ 119 _ (0,0) _ rfl q5 underlying119 rfl<|by kernel_rfl) rfl ?_
 have FA:Fr (fun q=>q=g) w w1:=(((bQ _).alloc _).z dw).t F1.o fun _ e=>.inl e
 have el:(h.fl.eraseIdx k).length=h.fl.length-1:=List.length_eraseIdx_of_lt HK.o
 have mv:=HH.o.abP (w3:=w1) (fv:=aN (ae ⟨g,0,af⟩) (h.fl.length-1) cap) (l:=h.fl.eraseIdx k) (FA.z fun q e=>.inl (by rw[HE.o,e];rfl)) (by rw[el];exact R1.o) fun q hq=>.inl (by rw[HE.o];exact hq)
 refine⟨rfl,_,mv.box (c:=w.heap.size) (((((((Fr.refl (fun q=>q=w.heap.size) _).setCell (p:=⟨w.heap.size,0,af⟩) (.inl rfl) _)).setCell (p:=⟨w.heap.size,1,af⟩) (.inl rfl) _).setCell (p:=⟨w.heap.size,2,af⟩) (.inl rfl) _).setCell (p:=⟨w.heap.size,3,af⟩) (.inl rfl) _).setCell (p:=⟨w.heap.size,4,af⟩) (.inl rfl) _) (dI _) ?_⟩
 intro hf
 have E8:h.eG xb w.heap.size:=by
  rcases hf with e|e|e|e|e
  ·exact .inl e
  ·exact .inr<|.inl e
  ·exact .inr<|.inr<|.inl e
  ·exact .inr<|.inr<|.inr<|.inl (by rw[HE.o];exact e)
  ·exact .inr<|.inr<|.inr<|.inr e
 exact OQ _ (HH.o.uz E8).1
def aqh(hh:aH w B xb n h)(hk:h.fl[k]? =ae m):
 aW prog 83 #[az<|ae ⟨xb,0,af⟩,ag ah k] w fun r w'=>r=aV (ag ah 0)/\∃fv,di w w' B xb n h n (h.iH fv<|h.fl.eraseIdx k):=by
 have HH:aj (aH w B xb n h):=hh;have oq:=(List.getElem?_eq_some_iff.mp hk).1;have HM:aj (decide ((0:Int)<=k/\(k:Int)<h.fl.length)=true):=jY (by omega);have HK:aj (h.fl[k]? =ae m):=hk;have aK:=bn hh.blk;clear hh hk;go_enter func83,ntmps83
 go_wp2_with (first
  |(go_at_call 139;refine(O1 HH.o k).z ?_;rw[HM.o];rintro e w1 ⟨rfl,rfl⟩)
  |(go_at_call 140;refine(Xt HH.o HK.o).z ?_;rintro e w2 ⟨rfl,fv,hm⟩
    have M2:aj (di w w2 B xb n h n<|h.iH fv<|h.fl.eraseIdx k):=hm
    clear hm))
 go_ret;exact⟨rfl,fv,M2.o⟩
def aqi(hh:aH w B xb n h):
 aW prog 53 #[az<|ae ⟨xb,69,af⟩] w fun r w'=>r=aV h.fv/\di w w' B xb n h n (h.iH (aN af 0 0) [])/\Fr (fun q=>q=xb) w w':=by
 have HH:aj (aH w B xb n h):=hh;have cF:=hh.cF;have cf:∀o,w.frozen? ⟨xb,o,af⟩=false:=kK hh.blk;obtain⟨la,lc,hl,zL⟩:=oP hh.nM;have Xr:aj (h.fv=.slice la h.fl.length lc):=hl;rw[hl]at cF;rw[hl];clear hh hl zL;go_enter func53,ntmps53
 go_wp2
 go_ret;refine⟨rfl,?_,(Fr.refl (fun q=>q=xb) w).setCell (p:=⟨xb,69,af⟩) (.inl rfl) _⟩;have:=HH.o.abP (w3:=w) (fv:=aN af 0 0) (l:=[]) dR (aFm _ _ _ _) (fun q hq=>by cases hq);exact this
end
section
variable{w:ay}{g2 c2:Nat}
def aqj{va:Option Addr}{n c:Nat}(hn:n≠1):
 aW prog 117 #[.slice va n c,aN (ae ⟨g2,0,af⟩) 1 c2] w fun e w'=>e=aV (aF false)/\∃q,w'=w.drewN q:=by
 have h1:((n:Int)==1)=false:=by simp<;>omega
 have h2:((n:Int) !=1)=true:=by simp[bne,h1]
 go_enter func117,ntmps117
 go_wp2
 go_ret;exact⟨rfl,0,rfl⟩
def aqk{g1 c1:Nat}{a b:Int}(x0:aB w ⟨g1,0,af⟩=ae (ag ah b))(y0:aB w ⟨g2,0,af⟩=ae (ag ah a)):
 aW prog 117 #[aN (ae ⟨g1,0,af⟩) 1 c1,aN (ae ⟨g2,0,af⟩) 1 c2] w fun e w'=>e=aV (.bool<|decide<|b=a)/\∃q,w'=w.drewN q:=by
 by_cases hab:b=a
 ·subst hab;rw[show decide (b=b)=true by simp];go_enter func117,ntmps117
  go_wp2_with fail
  go_loopw [13] (fun i w'=>∃k:Nat,k<=1/\i=ag ah k/\∃q,w'=w.drewN q) (fun i _=>1-(eU i).toNat)
  case atStart=>exact⟨0,kH _,rfl,0,rfl⟩
  case round=>
   obtain⟨k,hk,rfl,q,rfl⟩:=hrel
   by_cases aK:k<1
   ·obtain rfl:k=0:=by omega
    go_wp2_with fail
    go_quiet (fail)
    go_wp2
    go_roundw
    case rel=>exact⟨1,by omega,by go_num,q+nq,by simp[World.drewN]⟩
    case measure=>simp[eU]
   ·obtain rfl:k=1:=by omega
    go_wp2
    go_ret
    exact⟨rfl,q,rfl⟩
 ·rw[show decide (b=a)=false by simpa using hab];have dD:(b==a)=false:=by simpa using hab
  have amj:(b !=a)=true:=by simp[bne,dD]
  go_enter func117,ntmps117
  go_wp2_with fail
  go_loopw [13] (fun i w'=>i=ag ah 0/\∃q,w'=w.drewN q) (fun _ _=>0)
  case atStart=>exact⟨rfl,0,rfl⟩
  case round=>
   obtain⟨rfl,q,rfl⟩:=hrel
   go_wp2_with fail
   go_quiet (fail)
   go_wp2
   go_ret
   exact⟨rfl,q+nq,by simp[World.drewN]<;>omega⟩
end
section
inductive zf(h:HS)(i:Nat)(x:PS)(m:Ms):HS->Prop
 |idle (hi:¬(h.up=true/\(x.s=2\/x.s=3)/\x.t=m.t)):zf h i x m h
 |done {ok:Bool} {h':HS} (hi:h.up=true/\(x.s=2\/x.s=3)/\x.t=m.t) (ht:bZ x.bG 2 4=[m.q]) (hw:jU h ⟨4,i,0,x.t⟩ ok h'):zf h i x m h'
 |tie (hi:h.up=true/\(x.s=2\/x.s=3)/\x.t=m.t) (ht:bZ x.bG 2 4≠[m.q]):zf h i x m (h.eH i<|x.tie m.q.toNat 1)
variable{w w':ay}{B xb n:Nat}{h:HS}
def ahs{W:ay}{B' b:Nat}{va:aA}{L:List Int}{q:Int}(ha:bD W B' 3 1 va L.length (gm L))(hb:aB W ⟨b,0,af⟩=ae (ag ah q)):
 aW prog 117 #[va,aN (ae ⟨b,0,af⟩) 1 1] W fun e w'=>e=aV (.bool<|decide<|L=[q])/\∃k,w'=W.drewN k:=by
 obtain⟨a1,c1,rfl,_⟩:=lI ha;by_cases hl:L.length=1
 ·match L,hl with
  |[p],_=>
   rcases aa1 ha with⟨_,h0⟩|⟨g,cap,e,_⟩
   ·cases h0
   ·simp only[aFi]at e;obtain⟨rfl,_⟩:=e;have:=aqk (w:=W) (c1:=c1) (c2:=1) (Bo ha (k:=0) (x:=p) rfl) hb;rw[show decide ([p]=[q])=decide (p=q)by simp];exact this
 ·have e:decide (L=[q])=false:=by
   simp only[decide_eq_false_iff_not];rintro rfl;exact hl rfl
  rw[e];exact aqj hl
variable{q i:Nat}{x:PS}
def aql(hh:aH w B xb n h)(hi:i<6)(m:Ms)(hp:m.p=i)(hu:h.up=false):
 aW prog 55 #[az<|ae ⟨xb,4,af⟩,iF #[ag ah m.k,ag ah m.q,ag ah m.p,ag ah m.t,aF m.c]] w fun e w'=>e=aV (dU #[])/\Fr aS w w':=by
 have c5:=hh.cU;rw[hu]at c5;have aK:=bn hh.blk;have lN:(i:Int)<6:=by omega
 have ed:(0:Int)<=(i:Int):=by omega
 rw[hp];clear hh hu;go_enter func55,ntmps55
 go_wp2_with fail
 go_quiet (fail)
 go_wp2
 go_quiet (fail)
 go_wp2
 refine aFx (aGg rfl _ _ _) rfl ?_;exact⟨rfl,((bQ _).drewN _).drewN _⟩
def aqm(hh:aH w B xb n h)(hi:i<6)(hx:h.ps[i]? =ae x)(m:Ms)(hp:m.p=i)(hu:h.up=true)(hs:¬(x.s=2\/x.s=3)):
 aW prog 55 #[az<|ae ⟨xb,4,af⟩,iF #[ag ah m.k,ag ah m.q,ag ah m.p,ag ah m.t,aF m.c]] w fun e w'=>e=aV (dU #[])/\Fr aS w w':=by
 have HH:aj (aH w B xb n h):=hh;have c5:=hh.cU;rw[hu]at c5;have HX:aj (h.ps[i]? =ae x):=hx;have HC:aj (∀W,aH W B xb n h->aW prog 66 #[az<|ae ⟨xb,6+i*10,af⟩] W fun e w'=>e=aV (aF false)/\w'=W):=fun W hW=>by
  have:=yA (o:=6+i*10) x.s<|hW.jy hx 2 _ rfl;rw[qZ hs]at this;exact this.z fun e w' h=>⟨h.1,h.2.s⟩
 have aK:=bn hh.blk;have lN:(i:Int)<6:=by omega
 have ed:(0:Int)<=(i:Int):=by omega
 rw[hp];clear hh hu hx hs;go_enter func55,ntmps55
 go_wp2_with fail
 go_quiet (fail)
 go_wp2
 go_quiet ((go_at_call 66;exact(HC.o _<|HH.o.a<|(bQ _).drewN _).z fun _ _ h=>⟨h.1,_,h.2⟩))
 go_wp2
 refine aFx (aGg rfl _ _ _) rfl ?_;exact⟨rfl,((bQ _).drewN _).drewN _⟩
def aqn(hh:aH w B xb n h)(hi:i<6)(hx:h.ps[i]? =ae x)(m:Ms)(hp:m.p=i)(hu:h.up=true)(hs:x.s=2\/x.s=3)(ht:x.t≠m.t):
 aW prog 55 #[az<|ae ⟨xb,4,af⟩,iF #[ag ah m.k,ag ah m.q,ag ah m.p,ag ah m.t,aF m.c]] w fun e w'=>e=aV (dU #[])/\Fr aS w w':=by
 have HH:aj (aH w B xb n h):=hh;have c5:=hh.cU;rw[hu]at c5;obtain⟨⟨e0,e1,e2⟩,ef⟩:=hh.cellP hx;have HX:aj (h.ps[i]? =ae x):=hx;have HC:aj (∀W,aH W B xb n h->aW prog 66 #[az<|ae ⟨xb,6+i*10,af⟩] W fun e w'=>e=aV (aF true)/\w'=W):=fun W hW=>by
  have:=yA (o:=6+i*10) x.s<|hW.jy hx 2 _ rfl;rw[jY hs]at this;exact this.z fun e w' h=>⟨h.1,h.2.s⟩
 have b1:(x.t==m.t)=false:=by simpa using ht
 have b2:(x.t !=m.t)=true:=by simp[bne,b1]
 have aK:=bn hh.blk;have lN:(i:Int)<6:=by omega
 have ed:(0:Int)<=(i:Int):=by omega
 rw[hp];clear hh hu hx hs e0 e2;go_enter func55,ntmps55
 go_wp2_with fail
 go_quiet (fail)
 go_wp2
 go_quiet ((go_at_call 66;exact(HC.o _<|HH.o.a<|(bQ _).drewN _).z fun _ _ h=>⟨h.1,_,h.2⟩))
 go_wp2
 refine aFx (aGg rfl _ _ _) rfl ?_;exact⟨rfl,((bQ _).drewN _).drewN _⟩
def aqo(hh:aH w B xb n h)(hi:i<6)(hx:h.ps[i]? =ae x)(m:Ms)(hq:m.q=q)(nT:q<4)(hp:m.p=i)(hu:h.up=true)(hs:x.s=2\/x.s=3)(ht:x.t=m.t)(hm:mY h ⟨4,i,0,x.t⟩):
 aW prog 55 #[az<|ae ⟨xb,4,af⟩,iF #[ag ah m.k,ag ah m.q,ag ah m.p,ag ah m.t,aF m.c]] w fun e w'=>e=aV (dU #[])/\∃h',zf h i x m h'/\di w w' B xb n h n h':=by
 have HH:aj (aH w B xb n h):=hh;have c5:=hh.cU;rw[hu]at c5;obtain⟨⟨e0,e1,e2⟩,ef⟩:=hh.cellP hx;have HX:aj (h.ps[i]? =ae x):=hx;have HC:aj (∀W,aH W B xb n h->aW prog 66 #[az<|ae ⟨xb,6+i*10,af⟩] W fun e w'=>e=aV (aF true)/\w'=W):=fun W hW=>by
  have:=yA (o:=6+i*10) x.s<|hW.jy hx 2 _ rfl;rw[jY hs]at this;exact this.z fun e w' h=>⟨h.1,h.2.s⟩
 have HW:aj (∀W,aH W B xb n h->aW prog 118 #[az<|ae ⟨xb,4,af⟩,iF #[ag ah 4,ag ah i,ag ah 0,ag ah x.t]] W fun e w'=>∃ok h',e=aV (aF ok)/\jU h ⟨4,i,0,x.t⟩ ok h'/\di W w' B xb n h n h'):=fun W hW=>O8 hW hm;have HI:aj (h.up=true/\(x.s=2\/x.s=3)/\x.t=m.t):=⟨hu,hs,ht⟩;have HQ:aj (m.q=q):=hq;have aK:=bn hh.blk;have lN:(i:Int)<6:=by omega
 have ed:(0:Int)<=(i:Int):=by omega
 have wS:(q:Int)<4:=by omega
 have sW:(0:Int)<=(q:Int):=by omega
 rw[hp,hq,<-ht];clear hh hu hx hs e0 e2 ht hq hm;go_enter func55,ntmps55
 go_wp2_with fail
 go_quiet (fail)
 go_wp2
 go_quiet ((go_at_call 66;exact(HC.o _<|HH.o.a<|(bQ _).drewN _).z fun _ _ h=>⟨h.1,_,h.2⟩))
 go_wp2_with fail
 go_region_law ((first
  |(go_simp;go_at_call 69;refine(LW (w:=(bz w _).drewN _) (p:=x) (fun j v hv=>(HH.o.a<|(bQ _).drewN _).jy HX.o j v hv) 2).z ?_;rintro e w1 ⟨v1,rfl,yQ,bU⟩
    have F1:aj (Fr aS w w1):=((bQ _).drewN _).t bU dw
    have N1:aj (bD w1 _ 3 1 v1 (bZ x.bG 2 4).length<|gm<|bZ x.bG 2 4):=yQ
    have M1:aj (w1.heap[w.heap.size]? =ae (aG #[ag ah m.k,ag ah q,ag ah i,ag ah x.t,aF m.c] 119 (0,0))):=(bU.block w.heap.size (by simp[World.drewN]) id).t<|aFb _ _
    have kq:aB w1 ⟨w.heap.size,1,af⟩=ae (ag ah q):=(aQ M1.o 1).t rfl
    clear yQ bU)
  |(go_simp;go_at_call 69;refine(LW (w:=((bz w _).drewN _).alloc _) (p:=x) (fun j v hv=>(HH.o.a<|((bQ _).drewN _).alloc _).jy HX.o j v hv) 2).z ?_;rintro e w1 ⟨v1,rfl,yQ,bU⟩
    have F1:aj (Fr aS w w1):=(((bQ _).drewN _).alloc _).t bU dw
    have N1:aj (bD w1 _ 3 1 v1 (bZ x.bG 2 4).length<|gm<|bZ x.bG 2 4):=yQ
    have M1:aj (w1.heap[w.heap.size]? =ae (aG #[ag ah m.k,ag ah q,ag ah i,ag ah x.t,aF m.c] 119 (0,0))):=(bU.block w.heap.size (by simp[World.drewN]<;>omega) id).t<|((bQ (w:=(bz w _).drewN _) _).block w.heap.size (by simp[World.drewN]) id).t<|aFb _ _
    have kb:aB w1 ⟨w.heap.size+1,0,af⟩=ae (ag ah q):=(aQ ((bU.block (w.heap.size+1) (by simp[World.drewN]) id).t<|Bz _<|by simp[World.drewN]) 0).t rfl
    clear yQ bU)
  |(go_simp;go_at_call 117;refine(ahs (q:=q) N1.o kb).z ?_;rintro e w2 ⟨rfl,kk,vS⟩
    have F2:aj (Fr aS w1 w2):=by rw[vS];exact dR.drewN kk
    clear vS)
  |(go_simp;go_at_call 117;refine(ahs (q:=q) (N1.o.alloc _)<|(aQ (aFb _ _) 0).t rfl).z ?_;rintro e w2 ⟨rfl,kk,vS⟩
    have F2:aj (Fr aS w1 w2):=by rw[vS];exact(dR.alloc _).drewN kk
    clear vS)))
 all_goals
  have FZ:aj (Fr aS w w2):=F1.o.t F2.o dw
  have M2:=(F2.o.block w.heap.size (bn M1.o) id).t M1.o
  have n1:aB w2 ⟨w.heap.size,1,af⟩=ae (ag ah q):=(aQ M2 1).t rfl
  have n2:aB w2 ⟨w.heap.size,2,af⟩=ae (ag ah i):=(aQ M2 2).t rfl
  have H2:aj (aH w2 B xb n h):=HH.o.a FZ.o
  obtain⟨⟨_,r1,_⟩,rf⟩:=H2.o.cellP HX.o
  have r3:aB w2 ⟨xb,6+i*10+(3+q),af⟩=ae (.int .i64<|x.bG.getD q 0):=H2.o.jy HX.o (3+q) _<|LY x nT
  rw[<-Aa]at r3
  clear M2
  by_cases hL:bZ x.bG 2 4=[(q:Int)]
  ·have HL:aj (bZ x.bG 2 4=[(q:Int)]):=hL
   rw[show decide (bZ x.bG 2 4=[(q:Int)])=true from jY hL]
   clear hL
   go_wp2_with fail
   go_region_law
    ((go_simp;go_at_call 118;refine(HW.o _<|H2.o.a<|dR.drew).z ?_;rintro e w3 ⟨ok,h',rfl,ho,dQ⟩
      have R1:aj (jU h ⟨4,i,0,x.t⟩ ok h'/\di w w3 B xb n h n h'):=⟨ho,dQ.behind<|FZ.o.drew⟩
      clear ho dQ))
   all_goals
    go_wp2
    refine aFx (aGg rfl _ _ _) rfl ?_
    exact⟨rfl,h',.done HI.o (by rw[HQ.o];exact HL.o) R1.o.1,R1.o.2⟩
  ·have HL:aj (¬bZ x.bG 2 4=[(q:Int)]):=hL
   rw[show decide (bZ x.bG 2 4=[(q:Int)])=false from qZ hL]
   clear hL
   go_wp2_with fail
   go_region
   all_goals
    go_wp2
    go_end0
    have t1:=H2.o.setCell (x.tie q 1) HX.o (j:=3+q) (by omega)<|Xa x nT 1
    rw[<-Aa]at t1
    have e3:m.q.toNat=q:=by rw[HQ.o];rfl
    refine⟨rfl,_,.tie HI.o (by rw[HQ.o];exact HL.o),?_⟩
    rw[e3]
    exact((di.own (h:=h) (n:=n) t1.2 t1.1 fun k hk=>hk).a<|dR.drew).behind FZ.o
def aht(hh:aH w B xb n h)(hi:i<6)(hx:h.ps[i]? =ae x)(m:Ms)(hq:m.q=q)(nT:q<4)(hp:m.p=i)(hm:mY h ⟨4,i,0,x.t⟩):
 aW prog 55 #[az<|ae ⟨xb,4,af⟩,iF #[ag ah m.k,ag ah m.q,ag ah m.p,ag ah m.t,aF m.c]] w fun e w'=>e=aV (dU #[])/\∃h',zf h i x m h'/\di w w' B xb n h n h':=by
 by_cases hu:h.up=true
 ·by_cases hs:x.s=2\/x.s=3
  ·by_cases ht:x.t=m.t
   ·exact aqo hh hi hx m hq nT hp hu hs ht hm
   ·exact(aqn hh hi hx m hp hu hs ht).z fun e w' ⟨h1,h2⟩=>⟨h1,h,.idle fun c=>ht c.2.2,(di.refl hh).a h2⟩
  ·exact(aqm hh hi hx m hp hu hs).z fun e w' ⟨h1,h2⟩=>⟨h1,h,.idle fun c=>hs c.2.1,(di.refl hh).a h2⟩
 ·exact(aql hh hi m hp<|by simpa using hu).z fun e w' ⟨h1,h2⟩=>⟨h1,h,.idle fun c=>hu c.1,(di.refl hh).a h2⟩
end
section
def tK(l:List Ms)(m:Ms):List Ms:=if 100<=l.length then l else l++[m]
def wC(l:List Ms)(i t:Int)(c:Bool)(qs:List Int):List Ms:=qs.foldl (fun l q=>tK l ⟨1,q,i,t,c⟩) l
def aqr(l:List Ms)(i t:Int)(c:Bool){qs:List Int}{j:Nat}{q:Int}(hq:qs[j]? =ae q):wC l i t c (qs.take<|j+1)=tK (wC l i t c<|qs.take j) ⟨1,q,i,t,c⟩:=by
 rw[yu,hq];simp[wC,WO]
def yB.going{w w':ay}{B xb n:Nat}{h:HS}{m:Ms}(hh:aH w B xb n h)(s:yB w w' B xb n h m):∃fv,di w w' B xb n h n (h.iH fv<|tK h.fl m):=by
 cases s with
 |lost hl f=>
  refine⟨h.fv,?_⟩;rw[show tK h.fl m=h.fl by simp[tK,hl]];exact(di.refl hh).a f
 |iH hl fv mv _=>
  refine⟨fv,?_⟩;rw[show tK h.fl m=h.fl++[m]by rw[tK,if_neg<|by omega]];exact mv
variable{w w':ay}{B xb n:Nat}{h:HS}
variable{i:Nat}{x:PS}
def aqs(hh:aH w B xb n h)(hi:i<6)(hx:h.ps[i]? =ae x)(bo:Int)(sv:aA)(hw:1<x.wa)(vS:x.wa<=9223372036854775807):
 aW prog 173 #[az<|ae ⟨xb,4,af⟩,ag ah i,ag ah bo,sv] w fun e w'=>e=aV (dU #[])/\di w w' B xb n h n (h.eH i {x with wa:=x.wa-1}):=by
 have HH:aj (aH w B xb n h):=hh;have HX:aj (h.ps[i]? =ae x):=hx;have c8:=hh.jy hx 8 _ rfl;have cf:∀o,w.frozen? ⟨xb,o,af⟩=false:=kK hh.blk;have lN:(i:Int)<6:=by omega
 have ed:(0:Int)<=(i:Int):=by omega
 have aK:=bn hh.blk;clear hh hx;go_enter func173,ntmps173
 go_wp2
 refine aFx (aGg rfl _ _ _) rfl ?_;have t1:=HH.o.setCell {x with wa:=x.wa-1} HX.o (j:=8) (v:=.int .i64<|x.wa-1) (by omega) rfl;exact⟨rfl,di.own (h:=h) (n:=n) t1.2 t1.1 fun k hk=>hk⟩
def aH.aqt(hh:aH w B xb n h){B':Nat}{v:aA}{l:List Int}(hr:bD w B' 3 1 v l.length (gm l)):∀k,h.eG xb k->bY v=ae k->False:=by
 intro k hk hv;have t:=iY hr hv;rcases hh.abj hk with e|e|e|e|e|e|e;all_goals first
  |(rw[t]at e;cases e;done)
  |(obtain⟨e,_⟩:=e;rw[t]at e;cases e;done)
def aqu(hh:aH w B xb n h)(hi:i<6)(hx:h.ps[i]? =ae x)(bo:Int)(hw:x.wa<=1)(vS: -9223372036854775808<x.wa)(BV:0<=x.ga)(hg:x.ga<=1000000000000):
 aW prog 173 #[az<|ae ⟨xb,4,af⟩,ag ah i,ag ah bo,.func (.func 120) #[az<|ae ⟨xb,69,af⟩] #[]] w fun e w'=>e=aV (dU #[])/\
  ∃fv,di w w' B xb n h n ((h.iH fv<|wC h.fl i x.t (x.s==2)<|bZ x.bG 2 4).eH i {x with wa:=x.ga,ga:=min (2*x.ga) bo}):=by
 have HH:aj (aH w B xb n h):=hh
 have HX:aj (h.ps[i]? =ae x):=hx
 have c8:=hh.jy hx 8 _ rfl
 have cf:∀o,w.frozen? ⟨xb,o,af⟩=false:=kK hh.blk
 have t1:=hh.setCell {x with wa:=x.wa-1} hx (j:=8) (v:=.int .i64<|x.wa-1) (by omega) rfl
 have T1:aj (aH (aX w ⟨xb,6+i*10+8,af⟩<|.int .i64<|x.wa-1) B xb n (h.eH i {x with wa:=x.wa-1})/\Fr (fun k=>k=xb) w (aX w ⟨xb,6+i*10+8,af⟩<|.int .i64<|x.wa-1)):=t1
 have X1:aj ((h.eH i {x with wa:=x.wa-1}).ps[i]? =ae {x with wa:=x.wa-1}):=uA hx
 have lN:(i:Int)<6:=by omega
 have ed:(0:Int)<=(i:Int):=by omega
 have aK:=bn hh.blk
 clear hh hx t1
 go_enter func173,ntmps173
 go_wp2_with
  ((go_at_call 69;refine(LW (p:={x with wa:=x.wa-1}) (fun j v hv=>T1.o.1.jy X1.o j v hv) 2).z ?_;rintro e w2 ⟨v2,rfl,tq,jS⟩
    have abR:bD w2 (aX w ⟨xb,6+i*10+8,af⟩<|.int .i64<|x.wa-1).heap.size 3 1 v2 (bZ x.bG 2 4).length (gm<|bZ x.bG 2 4):=tq
    obtain⟨va,vc,rfl,DI⟩:=lI abR
    have N2:aj (bD w2 (aX w ⟨xb,6+i*10+8,af⟩<|.int .i64<|x.wa-1).heap.size 3 1 (.slice va (bZ x.bG 2 4).length vc) (bZ x.bG 2 4).length<|gm<|bZ x.bG 2 4):=abR
    have F2:aj (Fr aS (aX w ⟨xb,6+i*10+8,af⟩<|.int .i64<|x.wa-1) w2):=jS
    unfold eP at DI
    clear tq jS abR))
 go_loopw [31] (fun iv w'=>∃(j:Nat) (fv:aA),j<=(bZ x.bG 2 4).length/\iv=ag ah j/\di w w' B xb n h n ((h.eH i {x with wa:=x.wa-1}).iH fv<|wC h.fl i x.t (x.s==2)<|(bZ x.bG 2 4).take j)/\
  w'.ownsRow (aX w ⟨xb,6+i*10+8,af⟩<|.int .i64<|x.wa-1).heap.size 3 1 (.slice va (bZ x.bG 2 4).length vc) (bZ x.bG 2 4).length (gm<|bZ x.bG 2 4)) (fun iv _=>(bZ x.bG 2 4).length-(eU iv).toNat)
 case atStart=>exact⟨0,h.fv,kH _,rfl,(di.own (h:=h) (n:=n) T1.o.2 T1.o.1 fun k hk=>hk).a F2.o,N2.o⟩
 case round=>
  obtain⟨j,fv,hj,rfl,dQ,dG⟩:=hrel
  have MV:aj (di w wr B xb n h n<|(h.eH i {x with wa:=x.wa-1}).iH fv<|wC h.fl i x.t (x.s==2)<|(bZ x.bG 2 4).take j):=dQ
  have NR:aj (bD wr (aX w ⟨xb,6+i*10+8,af⟩<|.int .i64<|x.wa-1).heap.size 3 1 (.slice va (bZ x.bG 2 4).length vc) (bZ x.bG 2 4).length<|gm<|bZ x.bG 2 4):=dG
  have r1:aB wr ⟨xb,6+i*10+1,af⟩=ae (ag ah x.t):=dQ.at_.jy X1.o 1 _ rfl
  have r2:aB wr ⟨xb,6+i*10+2,af⟩=ae (ag ah x.s):=dQ.at_.jy X1.o 2 _ rfl
  have hlr:=bn dQ.at_.blk
  by_cases nH:j<(bZ x.bG 2 4).length
  ·obtain⟨q,hq⟩:∃q,(bZ x.bG 2 4)[j]? =ae q:=⟨_,eY nH⟩
   have HQ:aj ((bZ x.bG 2 4)[j]? =ae q):=hq
   obtain⟨g1,rfl,x0⟩:∃g1,va=ae ⟨g1,0,af⟩/\aB wr ⟨g1,j,af⟩=ae (ag ah q):=by
    rcases aa1 dG with⟨_,h0⟩|⟨g,cap,e,_⟩
    ·rw[h0]at nH;simp at nH
    ·simp only[aFi]at e;obtain⟨rfl,_⟩:=e;exact⟨g,rfl,Bo dG hq⟩
   have sZ:(j:Int)<((bZ x.bG 2 4).length:Int):=by omega
   clear dQ dG hq
   go_wp2_with fail
   go_region_law
    ((go_simp;go_at_call 120;refine(abQ (MV.o.at_.a<|dR.drew) ⟨1,q,i,x.t,x.s==2⟩).z ?_;rintro e w4 ⟨rfl,hs⟩
      have S4:aj (yB wr w4 B xb n _ ⟨1,q,i,x.t,x.s==2⟩):=hs.behind<|dR.drew
      clear hs))
   all_goals
    go_wp2
    go_roundw
    case rel=>
     obtain⟨jA,mv'⟩:=S4.o.going MV.o.at_
     refine⟨j+1,jA,by omega,by go_num,?_,mv'.fr.ownsRow NR.o fun k hk hS=>MV.o.at_.aqt NR.o k hS hk⟩
     rw[aqr _ _ _ _ HQ.o]
     exact MV.o.t mv'
    case measure=>simp[eU]<;>omega
  ·have r9:aB wr ⟨xb,6+i*10+9,af⟩=ae (ag ah x.ga):=dQ.at_.jy X1.o 9 _ rfl
   have r8:aB wr ⟨xb,6+i*10+8,af⟩=ae (.int .i64<|x.wa-1):=dQ.at_.jy X1.o 8 _ rfl
   have rf:∀o,wr.frozen? ⟨xb,o,af⟩=false:=kK dQ.at_.blk
   obtain rfl:j=(bZ x.bG 2 4).length:=by omega
   clear dQ dG r1 r2
   go_wp2_with fail
   go_region
   all_goals
    go_end0
    have aAn:(bZ x.bG 2 4).take (bZ x.bG 2 4).length=bZ x.bG 2 4:=List.take_length
    have mv:=MV.o
    rw[aAn]at mv
    have a1:=mv.at_.setCell {x with wa:=x.ga} X1.o (j:=8) (v:=ag ah x.ga) (by omega) rfl
    have a2:=a1.1.setCell {x with wa:=x.ga,ga:=min (2*x.ga) bo} (uA X1.o) (j:=9) (v:=.int .i64<|min (2*x.ga) bo) (by omega) rfl
    refine⟨rfl,fv,?_⟩
    have e1:((((h.eH i {x with wa:=x.wa-1}).iH fv<|wC h.fl i x.t (x.s==2)<|bZ x.bG 2 4).eH i {x with wa:=x.ga}).eH i {x with wa:=x.ga,ga:=min (2*x.ga) bo})=(h.iH fv<|wC h.fl i x.t (x.s==2)<|bZ x.bG 2 4).eH i {x with wa:=x.ga,ga:=min (2*x.ga) bo}:=by
     simp[HS.eH,HS.iH]
    have a3:=a2.1
    rw[e1]at a3
    refine(mv.t<|di.own (a1.2.t a2.2 fun _ e=>.inl e) a3 fun k hk=>hk).a<|dR.drew
end
section
variable{h:HS}
def abS{s:aJ}{i t j u:Int}{c:Bool}(h:(s.closed i t c).nw j=ae (u,true)):s.nw j=ae (u,true)/\¬(j=i/\u=t):=by
 unfold aJ.closed at h;split at h
 ·unfold aJ.set at h;simp only at h;split at h
  ·simp at h
  ·rename_i e;exact⟨h,fun z=>e z.1⟩
 ·rename_i e;refine⟨h,?_⟩;rintro⟨rfl,rfl⟩;exact e<|by simp[aJ.isOpen,h]
variable{l:List Ms}{m:Ms}{pl:List PL}{P Q:Int}{L:List Rc}
def ahu(hl:l.length<=100)(m:Ms):(tK l m).length<=100:=by
 unfold tK;split
 ·exact hl
 ·simp<;>omega
def abT{x:Ms}(h:x∈tK l m):x∈l\/x=m:=by
 unfold tK at h;split at h
 ·exact .inl h
 ·rcases oN.1 h with h|h
  ·exact .inl h
  ·exact .inr<|oM.1 h
def vz.send(h:vz pl P Q L l)(hm:y9 P Q L m)(ha:m.k=2->Ph pl m):vz pl P Q L (tK l m):=fun x hx=>by
 rcases abT hx with hx|rfl
 ·exact h x hx
 ·exact⟨hm,ha⟩
def aqv(hm:y9 P Q L m){q:Nat}{p:PL}{v':aA}(hq:m.q=(q:Int)):y9 P Q L ⟨2,m.q,m.p,m.t,m.c⟩/\Ph (pl.set q ⟨p.lb,p.bm,v',p.s.closed m.p m.t m.c,p.out⟩) ⟨2,m.q,m.p,m.t,m.c⟩:=by
 refine⟨⟨.inr rfl,hm.q,hm.p,hm.t,hm.s,hm.ps⟩,fun j a ha hj hi=>?_⟩;have DJ:m.q=(j:Int):=hj;rcases CZ ha with⟨e1,rfl⟩|⟨e1,ha'⟩
 ·exact(abS hi).2 ⟨rfl,rfl⟩
 ·omega
def aqw(x:PS)(q:Int)(h0:0<=q)(h4:q<4):bZ (x.tie q 1).bG 2 4=(bZ x.bG 2 4).filter (fun k=>decide<|k≠q):=by
 unfold bZ;rw[List.filter_map,List.filter_filter];congr 1;apply OL;intro j _;rw[H6 x q 1 h0 h4 j];by_cases e:(j:Int)=q
 ·simp[e]
 ·have e2:¬(Int.ofNat j=q):=e;simp[e]
def aqx(ts:List Int)(l:Int):(bZ ts l 4).Nodup:=by
 unfold bZ;exact List.Pairwise.map Int.ofNat (fun a b h e=>h<|Int.ofNat.inj e)<|List.nodup_range.filter _
end
section
structure Mc(w:ay)(kb nb cb sb xb i:Nat)(h:HS):Prop where
 k:w.heap[kb]? =ae (aG #[az<|ae ⟨xb,4,af⟩] 181 (0,0))
 n:w.heap[nb]? =ae (aG #[ag ah i] 3 (0,0))
 c:w.heap[cb]? =ae (aG #[ag ah h.P,ag ah h.Q,ag ah h.T,ag ah h.K] 23 (0,0))
 s:w.heap[sb]? =ae (aG #[.func (.func 120) #[az<|ae ⟨xb,69,af⟩] #[]] 120 (0,0))
def Eh(kb nb cb sb:Nat):Array Value:=#[az<|ae ⟨kb,0,af⟩,az<|ae ⟨nb,0,af⟩,az<|ae ⟨cb,0,af⟩,az<|ae ⟨sb,0,af⟩]
inductive Md(h:HS)(i:Nat)(x:PS):HS->Prop
 |wait (hw:1<x.wa):Md h i x (h.eH i {x with wa:=x.wa-1})
 |due (fv:aA) (hw:x.wa<=1):Md h i x ((h.iH fv<|wC h.fl i x.t (x.s==2)<|bZ x.bG 2 4).eH i {x with wa:=x.ga,ga:=min (2*x.ga) h.K})
inductive wE(h:HS)(i:Nat)(x:PS):Bool->HS->Prop
 |xu (hs:x.s=1) (ht:x.si+1<h.T):wE h i x true (h.eH i {x with si:=x.si+1})
 |timeout {ok:Bool} {h':HS} (hs:x.s=1) (ht:h.T<=x.si+1) (hw:jU (h.eH i {x with si:=x.si+1}) ⟨3,i,0,x.t⟩ ok h'):wE h i x ok h'
 |rem {h':HS} (hs:x.s=2\/x.s=3) (hr:Md h i x h'):wE h i x true h'
 |idle (hs:¬(x.s=1\/x.s=2\/x.s=3)):wE h i x true h
variable{w w':ay}{B xb n:Nat}{h:HS}
variable{i kb nb cb sb:Nat}{x:PS}
def aH.abU(hh:aH w B xb n h)(hx:h.ps[i]? =ae x)(q:Nat):di w ((w.drewN q).setCell ⟨xb,6+i*10+7,af⟩<|.int .i64<|x.si+1) B xb n h n (h.eH i {x with si:=x.si+1}):=by
 have a1:=(hh.a<|dR.drewN q).setCell {x with si:=x.si+1} hx (j:=7) (v:=.int .i64<|x.si+1) (by omega) rfl;exact(di.own (h:=h) (n:=n) a1.2 a1.1 fun k hk=>hk).behind<|dR.drewN q
def aqy(hh:aH w B xb n h)(hc:Mc w kb nb cb sb xb i h)(hi:i<6)(hx:h.ps[i]? =ae x)(hs:x.s=1)(ht:x.si+1<h.T)(hb:0<=x.si/\x.si<=1000000000000):
 aW prog 172 (Eh kb nb cb sb) w fun e w'=>e=aV (aF true)/\di w w' B xb n h n (h.eH i {x with si:=x.si+1}):=by
 have HH:aj (aH w B xb n h):=hh;have HX:aj (h.ps[i]? =ae x):=hx;obtain⟨⟨_,e1,e2⟩,ef⟩:=hh.cellP hx;rw[hs]at e2;have c7:aB w ⟨xb,6+i*10+7,af⟩=ae (ag ah x.si):=hh.jy hx 7 _ rfl;have k0:aB w ⟨kb,0,af⟩=ae (az<|ae ⟨xb,4,af⟩):=(aQ hc.k 0).t rfl;have n0:aB w ⟨nb,0,af⟩=ae (ag ah i):=(aQ hc.n 0).t rfl;have t0:aB w ⟨cb,2,af⟩=ae (ag ah h.T):=(aQ hc.c 2).t rfl;have t1:aB w ⟨cb,3,af⟩=ae (ag ah h.K):=(aQ hc.c 3).t rfl;have s0:aB w ⟨sb,0,af⟩=ae (.func (.func 120) #[az<|ae ⟨xb,69,af⟩] #[]):=(aQ hc.s 0).t rfl;have NE:aj (¬cb=xb/\¬kb=xb/\¬nb=xb):=by
  refine⟨fun e=>?_,fun e=>?_,fun e=>?_⟩
  ·have a:=hc.c;rw[e,hh.blk]at a;simp at a
  ·have a:=hc.k;rw[e,hh.blk]at a;simp at a
  ·have a:=hc.n;rw[e,hh.blk]at a;simp at a
 have lN:(i:Int)<6:=by omega
 have ed:(0:Int)<=(i:Int):=by omega
 have aK:=bn hh.blk;unfold Eh;have ne1:=NE.o.1;clear hh hx hc;go_enter func172,ntmps172
 go_wp2_with fail
 go_quiet (fail)
 go_wp2_with fail
 go_quiet (fail)
 go_wp2
 go_ret;exact⟨rfl,(HH.o.abU HX.o _).a<|dR.drewN _⟩
def aqz(hh:aH w B xb n h)(hc:Mc w kb nb cb sb xb i h)(hi:i<6)(hx:h.ps[i]? =ae x)(hs:x.s=1)(ht:h.T<=x.si+1)(hb:0<=x.si/\x.si<=1000000000000)(hm:mY h ⟨3,i,0,x.t⟩):
 aW prog 172 (Eh kb nb cb sb) w fun e w'=>∃ok h',e=aV (aF ok)/\jU (h.eH i {x with si:=x.si+1}) ⟨3,i,0,x.t⟩ ok h'/\di w w' B xb n h n h':=by
 have HH:aj (aH w B xb n h):=hh;have HX:aj (h.ps[i]? =ae x):=hx;obtain⟨⟨_,e1,e2⟩,ef⟩:=hh.cellP hx;rw[hs]at e2;have c7:aB w ⟨xb,6+i*10+7,af⟩=ae (ag ah x.si):=hh.jy hx 7 _ rfl;have k0:aB w ⟨kb,0,af⟩=ae (az<|ae ⟨xb,4,af⟩):=(aQ hc.k 0).t rfl;have n0:aB w ⟨nb,0,af⟩=ae (ag ah i):=(aQ hc.n 0).t rfl;have t0:aB w ⟨cb,2,af⟩=ae (ag ah h.T):=(aQ hc.c 2).t rfl;have t1:aB w ⟨cb,3,af⟩=ae (ag ah h.K):=(aQ hc.c 3).t rfl;have s0:aB w ⟨sb,0,af⟩=ae (.func (.func 120) #[az<|ae ⟨xb,69,af⟩] #[]):=(aQ hc.s 0).t rfl;have NE:aj (¬cb=xb/\¬kb=xb/\¬nb=xb):=by
  refine⟨fun e=>?_,fun e=>?_,fun e=>?_⟩
  ·have a:=hc.c;rw[e,hh.blk]at a;simp at a
  ·have a:=hc.k;rw[e,hh.blk]at a;simp at a
  ·have a:=hc.n;rw[e,hh.blk]at a;simp at a
 have lN:(i:Int)<6:=by omega
 have ed:(0:Int)<=(i:Int):=by omega
 have aK:=bn hh.blk;unfold Eh;have ne1:=NE.o.1;have ne2:=NE.o.2.1;have ne3:=NE.o.2.2;have hg:decide (x.si+1<h.T)=false:=qZ (by omega);have HC:aj (∀W,aH W B xb n (h.eH i {x with si:=x.si+1})->aW prog 67 #[az<|ae ⟨xb,4,af⟩,ag ah i,aF false] W (Ic (h.eH i {x with si:=x.si+1}) ⟨3,i,0,x.t⟩ W B xb n)):=fun W hW=>abw hW (uA hx) false ⟨hm.small,hm.kp,hm.room,hm.end_⟩;clear hh hx hc hm;go_enter func172,ntmps172
 go_wp2_with fail
 go_quiet (fail)
 go_wp2_with fail
 go_region_law
  ((go_simp;go_at_call 67;refine(HC.o _<|(HH.o.abU HX.o _).at_.a<|dR.drew).z ?_;intro e w3 zN
    obtain⟨ho,dQ⟩:=zN
    have R1:=ho
    have R2:aj (di w w3 B xb n h n _):=(HH.o.abU HX.o _).t<|dQ.behind<|dR.drew
    clear ho dQ))
 all_goals
  go_wp2
  go_ret
  exact⟨_,_,rfl,R1,R2.o⟩
def aqA(hh:aH w B xb n h)(hi:i<6)(hx:h.ps[i]? =ae x)(JD: -1000000000000<=x.wa/\x.wa<=1000000000000)(xW:0<=x.ga/\x.ga<=1000000000000):
 aW prog 173 #[az<|ae ⟨xb,4,af⟩,ag ah i,ag ah h.K,.func (.func 120) #[az<|ae ⟨xb,69,af⟩] #[]] w fun e w'=>e=aV (dU #[])/\∃h',Md h i x h'/\di w w' B xb n h n h':=by
 by_cases hw:1<x.wa
 ·exact(aqs hh hi hx _ _ hw<|by omega).z fun e w' ⟨a,b⟩=>⟨a,_,.wait hw,b⟩
 ·exact(aqu hh hi hx _ (by omega) (by omega) xW.1 xW.2).z fun e w' ⟨a,fv,b⟩=>⟨a,_,.due fv<|by omega,b⟩
def aqB(hh:aH w B xb n h)(hc:Mc w kb nb cb sb xb i h)(hi:i<6)(hx:h.ps[i]? =ae x)(hs:x.s=2\/x.s=3)(JD: -1000000000000<=x.wa/\x.wa<=1000000000000)(xW:0<=x.ga/\x.ga<=1000000000000):
 aW prog 172 (Eh kb nb cb sb) w fun e w'=>e=aV (aF true)/\∃h',Md h i x h'/\di w w' B xb n h n h':=by
 have HH:aj (aH w B xb n h):=hh;have HX:aj (h.ps[i]? =ae x):=hx;obtain⟨⟨_,e1,e2⟩,ef⟩:=hh.cellP hx;have b1:(x.s==1)=false:=by
  rcases hs with e|e<;>rw[e]<;>rfl
 have k0:aB w ⟨kb,0,af⟩=ae (az<|ae ⟨xb,4,af⟩):=(aQ hc.k 0).t rfl;have n0:aB w ⟨nb,0,af⟩=ae (ag ah i):=(aQ hc.n 0).t rfl;have t0:aB w ⟨cb,2,af⟩=ae (ag ah h.T):=(aQ hc.c 2).t rfl;have t1:aB w ⟨cb,3,af⟩=ae (ag ah h.K):=(aQ hc.c 3).t rfl;have s0:aB w ⟨sb,0,af⟩=ae (.func (.func 120) #[az<|ae ⟨xb,69,af⟩] #[]):=(aQ hc.s 0).t rfl;have NE:aj (¬cb=xb/\¬kb=xb/\¬nb=xb):=by
  refine⟨fun e=>?_,fun e=>?_,fun e=>?_⟩
  ·have a:=hc.c;rw[e,hh.blk]at a;simp at a
  ·have a:=hc.k;rw[e,hh.blk]at a;simp at a
  ·have a:=hc.n;rw[e,hh.blk]at a;simp at a
 have lN:(i:Int)<6:=by omega
 have ed:(0:Int)<=(i:Int):=by omega
 have aK:=bn hh.blk;unfold Eh;have HE:aj (∀W,aH W B xb n h->aW prog 66 #[az<|ae ⟨xb,6+i*10,af⟩] W fun e w'=>e=aV (aF true)/\W=w'):=fun W hW=>by
  have:=yA (o:=6+i*10) x.s<|hW.jy hx 2 _ rfl;rw[jY hs]at this;exact this
 have HC:aj (∀W,aH W B xb n h->aW prog 173 #[az<|ae ⟨xb,4,af⟩,ag ah i,ag ah h.K,.func (.func 120) #[az<|ae ⟨xb,69,af⟩] #[]] W fun e w'=>e=aV (dU #[])/\∃h',Md h i x h'/\di W w' B xb n h n h'):=fun W hW=>aqA hW hi hx JD xW;clear hh hx hc hs;go_enter func172,ntmps172
 go_wp2_with fail
 go_quiet (fail)
 go_wp2_with (first
  |(go_at_call 66;refine(HE.o _<|HH.o.a<|dR.drewN _).z ?_;rintro e w1 ⟨rfl,rfl⟩)
  |(go_at_call 173;refine(HC.o _<|HH.o.a<|dR.drewN _).z ?_;rintro e w2 ⟨rfl,h',hr,dQ⟩
    have R2:aj (Md h i x h'/\di w w2 B xb n h n h'):=⟨hr,dQ.behind<|dR.drewN _⟩
    clear hr dQ))
 go_ret;exact⟨rfl,h',R2.o⟩
def aqC(hh:aH w B xb n h)(hc:Mc w kb nb cb sb xb i h)(hi:i<6)(hx:h.ps[i]? =ae x)(hs:¬(x.s=1\/x.s=2\/x.s=3)):
 aW prog 172 (Eh kb nb cb sb) w fun e w'=>e=aV (aF true)/\Fr aS w w':=by
 have HH:aj (aH w B xb n h):=hh;have HX:aj (h.ps[i]? =ae x):=hx;obtain⟨⟨_,e1,e2⟩,ef⟩:=hh.cellP hx;have b1:(x.s==1)=false:=by simpa using fun e=>hs<|.inl e
 have k0:aB w ⟨kb,0,af⟩=ae (az<|ae ⟨xb,4,af⟩):=(aQ hc.k 0).t rfl;have n0:aB w ⟨nb,0,af⟩=ae (ag ah i):=(aQ hc.n 0).t rfl;have t0:aB w ⟨cb,2,af⟩=ae (ag ah h.T):=(aQ hc.c 2).t rfl;have t1:aB w ⟨cb,3,af⟩=ae (ag ah h.K):=(aQ hc.c 3).t rfl;have s0:aB w ⟨sb,0,af⟩=ae (.func (.func 120) #[az<|ae ⟨xb,69,af⟩] #[]):=(aQ hc.s 0).t rfl;have NE:aj (¬cb=xb/\¬kb=xb/\¬nb=xb):=by
  refine⟨fun e=>?_,fun e=>?_,fun e=>?_⟩
  ·have a:=hc.c;rw[e,hh.blk]at a;simp at a
  ·have a:=hc.k;rw[e,hh.blk]at a;simp at a
  ·have a:=hc.n;rw[e,hh.blk]at a;simp at a
 have lN:(i:Int)<6:=by omega
 have ed:(0:Int)<=(i:Int):=by omega
 have aK:=bn hh.blk;unfold Eh;have HE:aj (∀W,aH W B xb n h->aW prog 66 #[az<|ae ⟨xb,6+i*10,af⟩] W fun e w'=>e=aV (aF false)/\W=w'):=fun W hW=>by
  have:=yA (o:=6+i*10) x.s<|hW.jy hx 2 _ rfl;rw[qZ fun e=>hs<|.inr e]at this;exact this
 clear hh hx hc hs;go_enter func172,ntmps172
 go_wp2_with fail
 go_quiet (fail)
 go_wp2_with (go_at_call 66;refine(HE.o _<|HH.o.a<|dR.drewN _).z ?_;rintro e w1 ⟨rfl,rfl⟩)
 go_ret;exact⟨rfl,dR.drewN _⟩
structure PS.Ed(x:PS):Prop where
 si:0<=x.si/\x.si<=1000000000000
 wa: -1000000000000<=x.wa/\x.wa<=1000000000000
 ga:0<=x.ga/\x.ga<=1000000000000
def aqD(hh:aH w B xb n h)(hc:Mc w kb nb cb sb xb i h)(hi:i<6)(hx:h.ps[i]? =ae x)(hf:x.Ed)(hm:mY h ⟨3,i,0,x.t⟩):
 aW prog 172 (Eh kb nb cb sb) w fun e w'=>∃ok h',e=aV (aF ok)/\wE h i x ok h'/\di w w' B xb n h n h':=by
 by_cases h1:x.s=1
 ·by_cases ht:x.si+1<h.T
  ·exact(aqy hh hc hi hx h1 ht hf.si).z fun e w' ⟨a,b⟩=>⟨_,_,a,.xu h1 ht,b⟩
  ·exact(aqz hh hc hi hx h1 (by omega) hf.si hm).z fun e w' ⟨ok,h',a,b,c⟩=>⟨_,_,a,.timeout h1 (by omega) b,c⟩
 ·by_cases h2:x.s=2\/x.s=3
  ·exact(aqB hh hc hi hx h2 hf.wa hf.ga).z fun e w' ⟨a,h',b,c⟩=>⟨_,_,a,.rem h2 b,c⟩
  ·have h3:¬(x.s=1\/x.s=2\/x.s=3):=fun e=>e.e h1 h2;exact(aqC hh hc hi hx h3).z fun e w' ⟨a,b⟩=>⟨_,_,a,.idle h3,(di.refl hh).a b⟩
end
section
def JJ(kb cb sb nb:Nat):Value:=.func (.func 172) #[]<|Eh kb nb cb sb
def aqE:(prog.info? 38).map (fun i=>(i.zero,i.size,i.bytes))=ae (ae .nilFunc,1,8):=by kernel_rfl
variable{w w':ay}{xb:Nat}
structure Pj(w w':ay)(xb P:Nat)(Q T K:Int)(v:aA)(nP:List Nat):Prop where
 fr:Fr aS w w'
 k:w'.heap[w.heap.size]? =ae (aG #[az<|ae ⟨xb,4,af⟩] 181 (0,0))
 c:w'.heap[w.heap.size+1]? =ae (aG #[ag ah P,ag ah Q,ag ah T,ag ah K] 23 (0,0))
 s:w'.heap[w.heap.size+1+1]? =ae (aG #[.func (.func 120) #[az<|ae ⟨xb,69,af⟩] #[]] 120 (0,0))
 row:bD w' w.heap.size 38 1 v nP.length (nP.map<|JJ w.heap.size (w.heap.size+1)<|w.heap.size+1+1)
 n:∀(i nb:Nat),nP[i]? =ae nb->w'.heap[nb]? =ae (aG #[ag ah i] 3 (0,0))
def ahv{W:ay}{B':Nat}{v:aA}{m:Nat}{xs:List aA}(h:bD W B' 38 1 v m xs):∃a c,v=.slice a m c/\m<=maxLen:=by
 rcases h.2 with⟨rfl,rfl⟩|⟨g,cap,cur,rfl,_,_,h1,h2,_⟩
 ·exact⟨af,0,rfl,kH _⟩
 ·exact⟨_,_,rfl,fG h1 h2⟩
def aqF(P:Nat)(Q T K:Int)(hP:P<=6):
 aW prog 119 #[az<|ae ⟨xb,4,af⟩,iF #[ag ah P,ag ah Q,ag ah T,ag ah K],.func (.func 120) #[az<|ae ⟨xb,69,af⟩] #[]] w fun e w'=>∃(v:aA) (nP:List Nat),e=aV v/\nP.length=P/\Pj w w' xb P Q T K v nP:=by
 obtain⟨i0,ed,iI,ig,jg⟩:=aFq aqE;have Z4:(P:Int)<=6:=by omega
 go_enter func119,ntmps119
 go_wp2_with fail
 go_loopw [7,11] (fun v iv w'=>∃(j:Nat) (nP:List Nat),j<=P/\iv=ag ah j/\nP.length=j/\Pj w w' xb P Q T K v nP) (fun _ iv _=>P-(eU iv).toNat)
 case atStart=>
  refine⟨0,[],kH _,rfl,rfl,⟨((bQ _).alloc _).alloc _,?_,?_,?_,aFm _ _ _ _,fun i nb h=>by simp at h⟩⟩
  ·exact(((Fr.refl (fun _=>False) _).alloc _).alloc _).block w.heap.size (by simp) id |>.trans (aFb _ _)
  ·exact((Fr.refl (fun _=>False) _).alloc _).block (w.heap.size+1) (by simp) id |>.trans (Bz _<|by simp)
  ·exact Bz _<|by simp
 case round=>
  obtain⟨j,nP,hj,rfl,hl,hm⟩:=hrel
  have HM:aj (Pj w wr xb P Q T K u7 nP):=hm
  obtain⟨va,vc,rfl,DI⟩:=ahv hm.row
  unfold eP at DI
  have fP:=hm.fr.size
  clear hm
  by_cases aK:j<P
  ·have sZ:(j:Int)<(P:Int):=by omega
   have oz:(JJ w.heap.size (w.heap.size+1) (w.heap.size+1+1) wr.heap.size).oneCell'=true:=rfl
   go_wp2_with (at_builtin;refine aFE _ rfl _ _ 185 rfl w.heap.size 38 i0 _ 1 8 underlying185 ed iI ig jg rfl (by decide) _ _ (nP.map<|JJ w.heap.size (w.heap.size+1)<|w.heap.size+1+1) rfl (by exact((HM.o.row.alloc _).alloc _)) ⟨wr.heap.size+1,0,af⟩ 1 1 [JJ w.heap.size (w.heap.size+1) (w.heap.size+1+1) wr.heap.size] rfl rfl (aFk (cs:=#[JJ w.heap.size (w.heap.size+1) (w.heap.size+1+1) wr.heap.size]) (t:=38) (fr:=(0,0))<|Bz _<|by simp) (by simp[oz]) (by decide) (by simp only[eP];omega) (by omega) (by simp<;>omega) (wr.heap.size+1+1) (by simp) ?_;intro gg FC w3 o8 lX tH uQ)
   have AU:(nP++[wr.heap.size]).length=j+1:=by simp[hl]
   have hrt:∀b,Value.ownBlock (.slice va nP.length vc)=ae b->tag wr b=38:=fun b hb=>iY HM.o.row hb
   have bg:∀(b:Nat) (cs:Array aA) (ty:dJ),ty≠38->wr.heap[b]? =ae (.cells cs ty (0,0))->w3.heap[b]? =ae (.cells cs ty (0,0)):=by
    intro b cs ty Je hb;have iP:=bn hb;have f0:Fr (fun x=>Value.ownBlock (.slice va nP.length vc)=ae x) wr w3:=((dR.alloc _).alloc _).grown lX fun x ex=>.inl ex;refine(f0.block b iP fun e=>?_).t hb;have:=hrt b e;rw[mO hb]at this;exact Je this
   refine⟨⟨j+1,nP++[wr.heap.size],by omega,by go_num,AU,⟨?_,bg _ _ _ (by decide) HM.o.k,bg _ _ _ (by decide) HM.o.c,bg _ _ _ (by decide) HM.o.s,?_,?_⟩⟩,by simp[eU]<;>omega⟩
   ·have f0:Fr (fun x=>Value.ownBlock (.slice va nP.length vc)=ae x) wr w3:=((dR.alloc _).alloc _).grown lX (fun x ex=>.inl ex)
    exact HM.o.fr.t f0 fun x hx=>.inr (HM.o.row.lt x hx).1
   ·rw[AU]
    simpa[hl]using o8
   ·intro i nb hi
    by_cases zI:i<nP.length
    ·rw[vg zI]at hi
     exact bg _ _ _ (by decide)<|HM.o.n i nb hi
    ·have e:i=nP.length:=by
      have:=(dS.1 hi).1;simp at this;omega
     subst e
     simp at hi
     subst hi
     rw[hl]
     refine(lX.block wr.heap.size (by simp<;>omega) ?_).t<|((Fr.refl (fun _=>False) _).alloc _).block wr.heap.size (by simp) id |>.trans (aFb _ _)
     intro e
     have:=(HM.o.row.lt _ e.s).2
     omega
  ·go_wp2
   go_ret
   exact⟨_,nP,rfl,by omega,HM.o⟩
end
section
inductive ru(h:HS):Nat->HS->Prop
 |zero:ru h 0 h
 |succ {j:Nat} {h1 h2:HS} {x:PS}:ru h j h1->h1.ps[j]? =ae x->wE h1 j x true h2->ru h (j+1) h2
inductive Pm(h:HS):Bool->HS->Prop
 |all {h':HS}:ru h h.P.toNat h'->Pm h true h'
 |uC {j:Nat} {h1 h2:HS} {x:PS}:j<h.P.toNat->ru h j h1->h1.ps[j]? =ae x->wE h1 j x false h2->Pm h false h2
def wE.jI{h h':HS}{i:Nat}{x:PS}{ok:Bool}(l:wE h i x ok h'):h'.P=h.P/\h'.Q=h.Q/\h'.T=h.T/\h'.K=h.K:=by
 cases l with
 |xu=>exact⟨rfl,rfl,rfl,rfl⟩
 |timeout _ _ hw=>cases hw<;>exact⟨rfl,rfl,rfl,rfl⟩
 |rem _ hr=>cases hr<;>exact⟨rfl,rfl,rfl,rfl⟩
 |idle=>exact⟨rfl,rfl,rfl,rfl⟩
def ru.jI{h h':HS}{j:Nat}(t:ru h j h'):h'.P=h.P/\h'.Q=h.Q/\h'.T=h.T/\h'.K=h.K:=by
 induction t with
 |zero=>exact⟨rfl,rfl,rfl,rfl⟩
 |succ _ _ hl ih=>
  obtain⟨a,b,c,d⟩:=ih;obtain⟨a',b',c',d'⟩:=hl.jI;exact⟨a'.t a,b'.t b,c'.t c,d'.t d⟩
variable{w w':ay}{B xb n:Nat}{h:HS}
variable{v:aA}{w1:ay}{P i:Nat}{nP:List Nat}
def aqG{W:ay}{B':Nat}{m:Nat}{xs:List aA}(hr:bD W B' 38 1 v m xs){j:Nat}{u:aA}(hj:xs[j]? =ae u):∃g c,v=aN (ae ⟨g,0,af⟩) m c/\aB W ⟨g,j,af⟩=ae u:=by
 rcases hr.2 with⟨rfl,rfl⟩|⟨g,cap,cur,rfl,_⟩
 ·have:=hr.1;simp at this;subst this;simp at hj
 ·refine⟨g,cap,rfl,?_⟩;have:=hr.cells (g:=g) rfl j u hj;rw[aFA]at this;simpa using this
def aqH{wr:ay}{hj:HS}(hh:aH w B xb n h)(m:Pj w.drew w1 xb P h.Q h.T h.K v nP)(hP:h.P=P)(hi:i<nP.length)(fr:Fr (h.eG xb) w1 wr)(ht:ru h i hj):
 Mc wr w.drew.heap.size nP[i] (w.drew.heap.size+1) (w.drew.heap.size+1+1) xb i hj:=by
 have f1:=m.fr;have Vz:aH w1 B xb n h:=hh.a<|(Fr.dr w).t m.fr fun _ hx=>hx.e;have old:∀k,w.drew.heap.size<=k->¬h.eG xb k:=fun k hk e=>by
  have:=(hh.uz e).1;have fP:w.drew.heap.size=w.heap.size:=rfl;omega
 have bg:∀(b:Nat) (cs:Array aA) (ty:dJ),¬h.eG xb b->w1.heap[b]? =ae (.cells cs ty (0,0))->wr.heap[b]? =ae (.cells cs ty (0,0)):=fun b cs ty hb hc=>(fr.block b (bn hc) hb).t hc;obtain⟨a,b,c,d⟩:=ht.jI;refine⟨bg _ _ _ (old _<|dI _) m.k,bg _ _ _ (fun e=>?_)<|m.n i _<|eY hi,?_,bg _ _ _ (old _<|by omega) m.s⟩
 ·have t:=mO<|m.n i _<|eY hi;rcases Vz.abj e with e|e|e|e|e|e|e;all_goals first
   |(rw[t]at e;cases e;done)
   |(obtain⟨e,_⟩:=e;rw[t]at e;cases e;done)
 ·rw[a,b,c,d,hP];exact bg _ _ _ (old _<|by omega) m.c
def aqI{wr:ay}{Q T K:Int}{va:Option Addr}{vl vc:Nat}(hh:aH w B xb n h)(m:Pj w.drew w1 xb P Q T K (.slice va vl vc) nP)(hi:i<nP.length)(fr:Fr (h.eG xb) w1 wr):
 ∃g,(va=ae ⟨g,0,af⟩/\True)/\aB wr ⟨g,i,af⟩=ae (JJ w.drew.heap.size (w.drew.heap.size+1) (w.drew.heap.size+1+1) nP[i]):=by
 have old:∀k,w.drew.heap.size<=k->¬h.eG xb k:=fun k hk e=>by
  have:=(hh.uz e).1;have fP:w.drew.heap.size=w.heap.size:=rfl;omega
 have hr:=fr.ownsRow m.row fun k hk hS=>old k (m.row.lt k hk).1 hS;obtain⟨g,c,e,hc⟩:=aqG hr (j:=i) (u:=JJ w.drew.heap.size (w.drew.heap.size+1) (w.drew.heap.size+1+1) nP[i]) (by rw[afP,eY hi];rfl);simp only[aFi]at e;exact⟨g,⟨e.1,trivial⟩,hc⟩
def ahw(hh:aH w B xb n h)(hu:h.up=false):aW prog 56 #[az<|ae ⟨xb,0,af⟩] w fun e w'=>e=aV (ag ah 5)/\w=w':=by
 have cu:=hh.cU;rw[hu]at cu;have aK:=bn hh.blk;clear hh;go_enter func56,ntmps56
 go_wp2
 go_ret;exact⟨rfl,rfl⟩
def ahx(hh:aH w B xb n h)(hu:h.up=true)(hp:∀(j:Nat) (h1:HS) (x:PS),j<h.P.toNat->ru h j h1->h1.ps[j]? =ae x->x.Ed/\mY h1 ⟨3,j,0,x.t⟩):
 aW prog 56 #[az<|ae ⟨xb,0,af⟩] w fun e w'=>∃ok h',e=aV (.int .i64<|if ok then 0 else 5)/\Pm h ok h'/\di w w' B xb n h n h':=by
 have HH:aj (aH w B xb n h):=hh;have HP:aj (∀(j:Nat) (h1:HS) (x:PS),j<h.P.toNat->ru h j h1->h1.ps[j]? =ae x->x.Ed/\mY h1 ⟨3,j,0,x.t⟩):=hp;have cu:=hh.cU;rw[hu]at cu;have c0:=hh.cP;have c1:aB w ⟨xb,1,af⟩=ae (ag ah h.Q):=by rw[aQ hh.blk];rfl
 have c2:aB w ⟨xb,2,af⟩=ae (ag ah h.T):=by rw[aQ hh.blk];rfl
 have c3:aB w ⟨xb,3,af⟩=ae (ag ah h.K):=by rw[aQ hh.blk];rfl
 have aK:=bn hh.blk;obtain⟨P,hP⟩:=qY (show 0<=h.P by have:=hh.hP;omega);have Pn:P<=6:=by have:=hh.hP;omega
 rw[hP]at c0;have PP:aj (h.P=(P:Int)):=hP;clear hh hp hP;go_enter func56,ntmps56
 go_wp2_with fail
 go_region_law
  ((go_simp;go_at_call 119;refine(aqF P h.Q h.T h.K Pn).z ?_;rintro e w1 ⟨v1,nP,rfl,lH,rH⟩
    have M1:aj (Pj w.drew w1 xb P h.Q h.T h.K v1 nP):=rH
    obtain⟨va,vc,rfl,DI⟩:=ahv rH.row
    rw[lH]at DI
    unfold eP at DI
    clear rH))
 all_goals
  go_wp2_with fail
  go_simp
  go_loopw [24] (fun iv w'=>∃(j:Nat) (hj:HS),j<=P/\iv=ag ah j/\ru h j hj/\di w1 w' B xb n h n hj) (fun iv _=>P-(eU iv).toNat)
  case atStart=>exact⟨0,h,kH _,rfl,.zero,di.refl<|HH.o.a<|(Fr.dr w).t M1.o.fr fun _ hx=>hx.e⟩
  case round=>
   obtain⟨j,hj,hle,rfl,ht,dQ⟩:=hrel
   have MV:aj (di w1 wr B xb n h n hj):=dQ
   have TT:aj (ru h j hj):=ht
   by_cases nH:j<P
   ·have hjP:j<h.P.toNat:=by rw[PP.o];omega
    have hj6:j<hj.ps.length:=by rw[dQ.at_.h6];omega
    obtain⟨g1,jP,x0⟩:=aqI HH.o M1.o (by rw[lH];exact nH) dQ.fr
    obtain⟨rfl,_⟩:=jP
    unfold JJ Eh at x0
    have HC:=aqH HH.o M1.o PP.o (i:=j) (by rw[lH];exact nH) dQ.fr ht
    have HC':aj (Mc wr w.drew.heap.size (nP[j]'(by rw[lH];exact nH)) (w.drew.heap.size+1) (w.drew.heap.size+1+1) xb j hj):=HC
    have HX:aj (hj.ps[j]? =ae hj.ps[j]):=eY hj6
    have HF:=HP.o j hj _ hjP ht HX.o
    have HF':aj (PS.Ed hj.ps[j]/\mY hj ⟨3,j,0,hj.ps[j].t⟩):=HF
    have sZ:(j:Int)<(P:Int):=by omega
    clear dQ ht HC HF
    go_wp2_with
     ((go_at_call 172;refine(aqD MV.o.at_ HC'.o (by omega) HX.o HF'.o.1 HF'.o.2).z ?_;rintro e w4 ⟨ok,h4,rfl,vO,JK⟩
       have LK:aj (wE hj j _ ok h4):=vO
       have M4:aj (di wr w4 B xb n hj n h4):=JK
       clear vO JK
       cases ok))
    ·go_wp2
     go_ret
     exact⟨false,h4,rfl,.uC hjP TT.o HX.o LK.o,(MV.o.t M4.o).behind<|(Fr.dr w).t M1.o.fr fun _ hx=>hx.e⟩
    ·go_wp2
     go_roundw
     case rel=>exact⟨j+1,h4,by omega,by go_num,.succ TT.o HX.o LK.o,MV.o.t M4.o⟩
     case measure=>simp[eU]<;>omega
   ·go_wp2
    go_ret
    have e:j=h.P.toNat:=by rw[PP.o];omega
    exact⟨true,hj,rfl,.all<|e▸TT.o,MV.o.behind<|(Fr.dr w).t M1.o.fr fun _ hx=>hx.e⟩
end
section
def fD(L:List Rc)(p t:Int)(c:Bool):Prop:=∃r∈L,r.k=3/\r.p=p/\r.m=t/\r.a=if c then 1 else 0
structure ahA(L:List Rc)(p:Int):Prop where
 le:∀t c,fD L p t c->t<(bI L p).t\/(t=(bI L p).t/\(bI L p).s≠1)
 one:∀t c c',fD L p t c->fD L p t c'->c=c'
 now:2<=(bI L p).s->fD L p (bI L p).t (decide<|(bI L p).s=2)
section
variable{P Q:Int}{L:List Rc}{r:Rc}{p t:Int}{c c':Bool}
def fD.snoc(d:fD L p t c)(r:Rc):fD (L++[r]) p t c:=by
 obtain⟨x,hx,h⟩:=d;exact⟨x,CJ _ hx,h⟩
def fD.more(d:fD L p t c)(l:List Rc):fD (L++l) p t c:=by
 obtain⟨x,hx,h⟩:=d;exact⟨x,CJ _ hx,h⟩
def fD.Ei(d:fD (L++[r]) p t c):fD L p t c\/(r.k=3/\r.p=p/\r.m=t/\r.a=if c then 1 else 0):=by
 obtain⟨x,hx,h⟩:=d;rcases oN.1 hx with hx|hx
 ·exact .inl ⟨x,hx,h⟩
 ·rw[oM.1 hx]at h;exact .inr h
def Valid.Me(hv:Valid P Q L)(p:Int):ahA L p:=by
 induction hv with
 |nil=>exact⟨fun t c ⟨r,hr,_⟩=>by simp at hr,fun t c c' ⟨r,hr,_⟩=>by simp at hr,fun h=>by simp[bI,Ec]at h⟩
 | @snoc L r hv hn ih=>
   by_cases hp:r.p=p
   ·subst hp;have hz:=yZ L r r.p;rcases hn.kind with⟨k1,k2,k3⟩|⟨k1,k2,k3⟩|⟨k1,k2,k3,k4⟩|⟨k1,k2,k3,k4⟩
    ·have e:bI (L++[r]) r.p={bI L r.p with e:=r.m}:=by rw[hz];simp[St.step,k1]
     have old:∀{t c},fD (L++[r]) r.p t c->fD L r.p t c:=fun d=>d.Ei.resolve_right (by omega);rw[show ahA (L++[r]) r.p↔_ from Iff.rfl];exact⟨fun t c d=>by rw[e];exact ih.le t c<|old d,fun t c c' d d'=>ih.one t c c' (old d)<|old d',fun h=>by rw[e]at h⊢;exact(ih.now h).snoc r⟩
    ·have e:bI (L++[r]) r.p=⟨(bI L r.p).e,r.m,1,(if(bI L r.p).s=0 then[]else(bI L r.p).ps)++[r.a]⟩:=by rw[hz];simp[St.step,k1]
     have old:∀{t c},fD (L++[r]) r.p t c->fD L r.p t c:=fun d=>d.Ei.resolve_right (by omega);refine⟨fun t c d=>?_,fun t c c' d d'=>ih.one t c c' (old d)<|old d',fun h=>?_⟩
     ·have:=ih.le t c<|old d;rw[e];show t<r.m\/_;rcases k3 with⟨k3,k4⟩|⟨k3,k4,_⟩<;>omega
     ·rw[e]at h;exact absurd h (by show¬(2:Int)<=1;omega)
    ·have e:bI (L++[r]) r.p={bI L r.p with s:=3-r.a}:=by rw[hz];simp[St.step,k1]
     have lt:∀{t c},fD L r.p t c->t<(bI L r.p).t:=fun{t c} d=>by have:=ih.le t c d;omega
     refine⟨fun t c d=>?_,fun t c c' d d'=>?_,fun _=>?_⟩
     ·rw[e];show t<(bI L r.p).t\/(t=(bI L r.p).t/\3-r.a≠1);rcases d.Ei with d|⟨_,_,h3,_⟩
      ·exact .inl<|lt d
      ·exact .inr ⟨by omega,by omega⟩
     ·rcases d.Ei with d|⟨_,_,h3,h4⟩<;>rcases d'.Ei with d'|⟨_,_,h3',h4'⟩
      ·exact ih.one t c c' d d'
      ·have:=lt d;omega
      ·have:=lt d';omega
      ·cases c<;>cases c'<;>simp_all
     ·rw[e];refine⟨r,Rx _<|by simp,k1,rfl,k4,?_⟩;show r.a=if decide (3-r.a=2)=true then 1 else 0
      rcases k2 with k2|k2<;>rw[k2]<;>rfl
    ·have e:bI (L++[r]) r.p={bI L r.p with s:=0}:=by rw[hz];simp[St.step,k1]
     have old:∀{t c},fD (L++[r]) r.p t c->fD L r.p t c:=fun d=>d.Ei.resolve_right (by omega);refine⟨fun t c d=>?_,fun t c c' d d'=>ih.one t c c' (old d)<|old d',fun h=>?_⟩
     ·have:=ih.le t c<|old d;rw[e];show t<(bI L r.p).t\/(t=(bI L r.p).t/\(0:Int)≠1);omega
     ·rw[e]at h;exact absurd h (by show¬(2:Int)<=0;omega)
   ·have hz:bI (L++[r]) p=bI L p:=by rw[yZ,St.Hz _ hp]
    have old:∀{t c},fD (L++[r]) p t c->fD L p t c:=fun d=>d.Ei.resolve_right fun h=>hp h.2.1;exact⟨fun t c d=>by rw[hz];exact ih.le t c<|old d,fun t c c' d d'=>ih.one t c c' (old d)<|old d',fun h=>by rw[hz]at h⊢;exact(ih.now h).snoc r⟩
end
structure PK(z:St)(x:PS):Prop where
 e:x.e=z.e
 t:x.t=z.t
 s:x.s=z.s
 none:x.s=0->x.a=0/\x.b=0/\x.c=0/\x.d=0
 some:x.s≠0->∀q:Nat,q<4->(1<=x.bG.getD q 0↔(q:Int)∈z.ps)
 fM:∀q:Nat,0<=x.bG.getD q 0/\x.bG.getD q 0<=2/\(x.s<=1->x.bG.getD q 0<=1)
variable{o:St}{x:PS}
def yz.pk{D:List Du}{tm hi i:Int}(h:yz o D tm hi i x):PK o x:=⟨h.e,h.t,h.s,h.none,h.some,h.fM⟩
def PK.aqL(h:PK o x)(i:Int):yz o ((bZ x.bG 2 4).map fun q=>⟨i,q,0+x.wa,x.ga⟩) 0 (-x.si) i x:=
 ⟨h.e,h.t,h.s,h.none,h.some,h.fM,List.filter_eq_self.2 fun d hd=>by
  obtain⟨q,_,rfl⟩:=Hr.1 hd;simp,fun _=>by omega⟩
structure PC(T K:Int)(x:PS):Prop where
 si:0<=x.si/\x.si<=51/\(x.s<=1->x.si<T)
 wa:0<=x.wa/\x.wa<=16
 ga:0<=x.ga/\x.ga<=16
 due:2<=x.s->(1<=x.wa/\x.wa<=K)/\(1<=x.ga/\x.ga<=K)
structure PP(pl:List PL)(i:Int)(x:PS):Prop where
 opn:2<=x.s->∀(q:Nat) (p:PL) (t:Int),pl[q]? =ae p->p.s.nw i=ae (t,true)->x.bG.getD q 0=2
 Ej:2<=x.s->bZ x.bG 2 4≠[]
structure PR(pl:List PL)(T K:Int)(z:St)(i:Int)(x:PS):Prop where
 k:PK z x
 c:PC T K x
 p:PP pl i x
structure LK(N:Nat)(L:List Rc)(s:aJ):Prop where
 inv:Inv s
 dec:∀e∈s.es,e.k≠1->fD L e.p e.t (decide<|e.k=2)
 fM:s.es.length<=N
structure Sn(N:Nat)(h:HS)(L:List Rc):Prop where
 P1:1<=h.P/\h.P<=6
 Q1:1<=h.Q/\h.Q<=4
 T1:1<=h.T/\h.T<=50
 K1:1<=h.K/\h.K<=16
 h6:h.ps.length=6
 valid:Valid h.P h.Q L
 fM:L.length<=N
 jb:h.jb=gp (L.flatMap fB)
 br:h.br=false
 kp:0<=h.kp/\h.kp<=16
 opn:JH h.pl L h.P
 dZ:∀(q:Nat) (p:PL),h.pl[q]? =ae p->LK N L p.s
 ms:vz h.pl h.P h.Q L h.fl
 dec:∀m∈h.fl,fD L m.p m.t m.c
 fl:h.fl.length<=100
 up:h.up=true->∀(i:Nat) (x:PS),h.ps[i]? =ae x->PR h.pl h.T h.K (bI L i) i x
 dn:h.up=false->h.ps=xm
variable{N:Nat}{h:HS}{L:List Rc}{r:Rc}
def LK.z{M:Nat}{s:aJ}(k:LK N L s)(hM:N<=M):LK M L s:=⟨k.inv,k.dec,fG k.fM hM⟩
def LK.snoc{s:aJ}(k:LK N L s)(r:Rc):LK N (L++[r]) s:=⟨k.inv,fun e he hk=>(k.dec e he hk).snoc r,k.fM⟩
def Sn.z{M:Nat}(s:Sn N h L)(hM:N<=M):Sn M h L:=
 ⟨s.P1,s.Q1,s.T1,s.K1,s.h6,s.valid,fG s.fM hM,s.jb,s.br,s.kp,s.opn,fun q p hp=>(s.dZ q p hp).z hM,s.ms,s.dec,s.fl,s.up,s.dn⟩
def Sn.may(c:Sn N h L)(hN:N<=100000000)(hn:Next h.P h.Q L r):mY h r:=by
 have hs:=hn.small c.valid c.P1.2 c.Q1.2;have hf:=c.fM;refine⟨⟨L.length,by omega,hs⟩,c.kp,?_,fun hk=>?_⟩
 ·rw[c.jb,Ia,Ef];omega
 ·rcases hn.kind with⟨h1,_⟩|⟨h1,_⟩|⟨_,h2,_⟩|⟨h1,_⟩
  ·omega
  ·omega
  ·exact h2
  ·omega
def Sn.mg(c:Sn N h L)(hN:N<=100000000):Xk h L []:=by
 have hs:=c.valid.small c.P1.2 c.Q1.2;have hf:=c.fM;exact⟨by rw[c.jb,qM],by simp,⟨L.length,by omega,hs⟩,c.valid.end_,by omega⟩
def PK.dA{P Q:Int}{z x}(hn:Next P Q L r)(hv:Valid P Q L)(hQ:Q<=4)(hz:z=bI L r.p)(k:PK z x):PK (bI (L++[r]) r.p) (x.dA r):=by
 subst hz;have pr:=k.aqL r.p;rw[yZ];rcases hn.kind with⟨k1,k2,k3⟩|⟨k1,k2,k3⟩|⟨k1,k2,k3,k4⟩|⟨k1,k2,k3,k4⟩
 ·exact(pr.aoW rfl k1).pk
 ·have:=(pr.add rfl k1 ⟨k2.1,by omega⟩ (by omega) (0- -x.si) rfl).pk;exact⟨this.e,this.t,this.s,this.none,this.some,this.fM⟩
 ·exact(pr.end_ rfl k1 k2 k3 (Q:=4) (dI _) (fun q hq=>by have:=(hv.rW r.p).ps q hq;omega)).pk
 ·exact(pr.done (D':=[]) rfl k1 rfl).pk
def PK.other{z x}{i:Int}(hp:r.p≠i)(hz:z=bI L i)(k:PK z x):PK (bI (L++[r]) i) x:=by
 subst hz;rw[yZ,St.Hz _ hp];exact k
end
section
def aJ.data(s:aJ):List iG:=s.es.filter fun e=>decide<|e.k=1
def Qt(L L':List Rc):Prop:=∃l,L'=L++l/\∀r∈l,r.k=4\/(r.k=3/\r.a=0)
def Qt.refl(L:List Rc):Qt L L:=⟨[],by simp,by simp⟩
def Qt.t{L L' SQ:List Rc}(a:Qt L L')(b:Qt L' SQ):Qt L SQ:=by
 obtain⟨l,rfl,h1⟩:=a;obtain⟨l',rfl,h2⟩:=b;exact⟨l++l',by simp,fun r hr=>(oN.1 hr).e (h1 r)<|h2 r⟩
def Qt.one{L:List Rc}{r:Rc}(h:r.k=4\/(r.k=3/\r.a=0)):Qt L (L++[r]):=⟨[r],rfl,by simpa using h⟩
structure Gw(p p':PL):Prop where
 ext:Ext p.s p'.s
 data:p'.s.data=p.s.data
def uD(pl gW:List PL):Prop:=gW.length=pl.length/\∀(q:Nat) (p:PL),pl[q]? =ae p->∃p',gW[q]? =ae p'/\Gw p p'
def Ext.t{a b c:aJ}(h:Ext a b)(h':Ext b c):Ext a c:=by
 obtain⟨t,ht⟩:=h.es;obtain⟨t',QW⟩:=h'.es;have hm:∀e∈a.es,e∈b.es:=fun e he=>by rw[ht];exact CJ _ he
 exact⟨⟨t++t',by rw[QW,ht];simp⟩,fun e he hk ho=>h'.open_ e (hm e he) hk<|h.open_ e he hk ho,fun e he hk ho=>(h'.oO e (hm e he) hk<|h.open_ e he hk ho).t<|h.oO e he hk ho⟩
def Gw.refl(p:PL):Gw p p:=⟨.refl _,rfl⟩
def Gw.t{a b c:PL}(h:Gw a b)(h':Gw b c):Gw a c:=⟨h.ext.t h'.ext,h'.data.t h.data⟩
def uD.refl(pl:List PL):uD pl pl:=⟨rfl,fun _ p hp=>⟨p,hp,.refl p⟩⟩
def uD.t{a b c:List PL}(h:uD a b)(h':uD b c):uD a c:=⟨h'.1.t h.1,fun q p hp=>by
 obtain⟨p1,h1,g1⟩:=h.2 q p hp;obtain⟨p2,h2,g2⟩:=h'.2 q p1 h1;exact⟨p2,h2,g1.t g2⟩⟩
def uD.set{pl:List PL}{q:Nat}{p p':PL}(hp:pl[q]? =ae p)(g:Gw p p'):uD pl (pl.set q p'):=⟨by simp,fun j a ha=>by
 by_cases e:q=j
 ·subst e;rw[hp]at ha;cases ha;exact⟨p',nJ (dS.1 hp).1,g⟩
 ·exact⟨a,by rw[vZ e];exact ha,.refl a⟩⟩
structure vC(h:HS)(L:List Rc)(h':HS)(L':List Rc):Prop where
 P:h'.P=h.P
 Q:h'.Q=h.Q
 T:h'.T=h.T
 K:h'.K=h.K
 up:h'.up=h.up
 qt:Qt L L'
 grow:uD h.pl h'.pl
def vC.refl(h:HS)(L:List Rc):vC h L h L:=⟨rfl,rfl,rfl,rfl,rfl,.refl L,.refl _⟩
def vC.t{a b c:HS}{L L' SQ:List Rc}(h:vC a L b L')(h':vC b L' c SQ):vC a L c SQ:=
 ⟨h'.P.t h.P,h'.Q.t h.Q,h'.T.t h.T,h'.K.t h.K,h'.up.t h.up,h.qt.t h'.qt,h.grow.t h'.grow⟩
def Po{ts:List Int}{l q:Int}:q∈bZ ts l 4↔∃k:Nat,k<4/\q=k/\l<=ts.getD k 0:=by
 unfold bZ;simp only[Hr,Hq,Jw,WN];exact⟨fun⟨k,⟨h1,h2⟩,h3⟩=>⟨k,h1,h3.s,h2⟩,fun⟨k,h1,h2,h3⟩=>⟨k,⟨h1,h3⟩,h2.s⟩⟩
variable{N:Nat}{h h':HS}{L:List Rc}{r:Rc}
def Sn.aqM(c:Sn N h L)(hu:h.up=true){ps:List PS}(h6:ps.length=6)(hp:∀(i:Nat) (x:PS),ps[i]? =ae x->PR h.pl h.T h.K (bI L i) i x):Sn N {h with ps:=ps} L:=
 ⟨c.P1,c.Q1,c.T1,c.K1,h6,c.valid,c.fM,c.jb,c.br,c.kp,c.opn,c.dZ,c.ms,c.dec,c.fl,fun _=>hp,fun e=>by rw[show h.up=false from e]at hu;cases hu⟩
def Sn.eH(c:Sn N h L)(hu:h.up=true){i:Nat}{x':PS}(hr:PR h.pl h.T h.K (bI L i) i x'):Sn N (h.eH i x') L:=
 c.aqM hu (by rw[zZ];exact c.h6) fun j a ha=>by
  rcases CZ ha with⟨rfl,rfl⟩|⟨_,ha'⟩
  ·exact hr
  ·exact c.up hu j a ha'
def Sn.net(c:Sn N h L)(fv:aA){l:List Ms}(hl:l.length<=100)(hm:vz h.pl h.P h.Q L l)(hd:∀m∈l,fD L m.p m.t m.c):Sn N (h.iH fv l) L:=
 ⟨c.P1,c.Q1,c.T1,c.K1,c.h6,c.valid,c.fM,c.jb,c.br,c.kp,c.opn,c.dZ,hm,hd,hl,c.up,c.dn⟩
variable{i P Q t:Int}{x:PS}{q:Nat}{p:PL}{s:aJ}{c:Bool}{m:Ms}
def PC.dA{T K:Int}(c:PC T K x)(hT:1<=T)(hK:1<=K/\K<=16)(hn:Next P Q L r)(k:PK (bI L r.p) x):PC T K (x.dA r):=by
 obtain⟨s1,s2,s3⟩:=c.si;rcases hn.kind with⟨k1,_⟩|⟨k1,_,k3⟩|⟨k1,k2,_⟩|⟨k1,_⟩
 ·rw[show x.dA r={x with e:=r.m}by simp[PS.dA,k1]];exact⟨c.si,c.wa,c.ga,c.due⟩
 ·rw[show x.dA r=({x with s:=1,t:=r.m}:PS).tie r.a 1 by simp[PS.dA,k1]];obtain⟨_,_,r3,r4,r5,r6⟩:=H7 ({x with s:=1,t:=r.m}:PS) r.a 1;have hs:=k.s;refine⟨⟨by rw[r4];exact s1,by rw[r4];exact s2,fun _=>by rw[r4];exact s3<|by omega⟩,by rw[r5];exact c.wa,by rw[r6];exact c.ga,fun e=>?_⟩;rw[r3]at e;exact absurd e (by show¬(2:Int)<=1;omega)
 ·rw[show x.dA r={x with s:=if r.a=1 then 2 else 3,a:=nN x.a,b:=nN x.b,c:=nN x.c,d:=nN x.d,wa:=1,ga:=1}by simp[PS.dA,k1]];refine⟨⟨s1,s2,fun e=>?_⟩,by simp only;omega,by simp only;omega,fun _=>by simp only;omega⟩;have e':(if r.a=1 then(2:Int)else 3)<=1:=e;split at e'<;>omega
 ·rw[show x.dA r=⟨x.e,x.t,0,0,0,0,0,0,0,0⟩by simp[PS.dA,k1]];exact⟨⟨by simp,by simp,fun _=>by simp only;omega⟩,by simp,by simp,fun e=>absurd e (by show¬(2:Int)<=0;omega)⟩
def PP.dA{pl:List PL}(p:PP pl r.p x)(ho:JH pl L P)(hv:Valid P Q L)(hQ:Q<=4)(hn:Next P Q L r)(k:PK (bI L r.p) x):PP pl r.p (x.dA r):=by
 rcases hn.kind with⟨k1,_⟩|⟨k1,_⟩|⟨k1,k2,k3,_⟩|⟨k1,_⟩
 ·rw[show x.dA r={x with e:=r.m}by simp[PS.dA,k1]];exact⟨p.opn,p.Ej⟩
 ·have e:¬2<=(x.dA r).s:=by
   rw[show x.dA r=({x with s:=1,t:=r.m}:PS).tie r.a 1 by simp[PS.dA,k1],(H7 _ _ _).2.2.1];show¬(2:Int)<=1;omega
  exact⟨fun z=>absurd z e,fun z=>absurd z e⟩
 ·have iJ:x.s≠0:=by have:=k.s;omega
  have two:∀q:Nat,(q:Int)∈(bI L r.p).ps->q<4/\(x.dA r).bG.getD q 0=2:=fun q hq=>by
   have h4:q<4:=by have:=(hv.rW r.p).ps _ hq;omega
   have:=(k.some iJ q h4).2 hq;exact⟨h4,by rw[Sr k1,nN,if_pos this]⟩
  refine⟨fun _ q a t ha hi=>(two q (ho q a ha r.p t hi).2.2.2.2).2,fun _=>?_⟩;obtain⟨q,l,hq⟩:=List.exists_cons_of_ne_nil (hv.parts r.p<|by omega);have qH:q∈(bI L r.p).ps:=by rw[hq];simp
  obtain⟨n,rfl⟩:=qY ((hv.rW r.p).ps q qH).1;obtain⟨h4,h5⟩:=two n qH;exact List.ne_nil_of_mem<|Po.2 ⟨n,h4,rfl,by rw[h5];decide⟩
 ·rw[show x.dA r=⟨x.e,x.t,0,0,0,0,0,0,0,0⟩by simp[PS.dA,k1]];exact⟨fun e=>absurd e (by show¬(2:Int)<=0;omega),fun e=>absurd e (by show¬(2:Int)<=0;omega)⟩
def Sn.wrote(c:Sn N h L)(hu:h.up=true)(hn:Next h.P h.Q L r)(h4:r.k=4->∀(q:Nat) (p:PL),h.pl[q]? =ae p->∀t,p.s.nw r.p≠ae (t,true))(jv:aA):Sn (N+1) {h.qo jv (gp<|fB r)with ps:=kz h.ps r} (L++[r]):=by
 have uT:=hn.p1;have Pn:=c.P1.2;refine⟨c.P1,c.Q1,c.T1,c.K1,by show(kz h.ps r).length=6;simp[kz,c.h6],hn.valid c.valid,by have:=c.fM;simp<;>omega,?_,c.br,c.kp,c.opn.snoc hn h4,fun q p hp=>((c.dZ q p hp).snoc r).z<|by omega,c.ms.snoc hn,fun m hm=>(c.dec m hm).snoc r,c.fl,fun _ i x hx=>?_,fun e=>?_⟩
 ·show h.jb++gp (fB r)=gp ((L++[r]).flatMap fB);rw[c.jb,ap5,abq]
 ·rcases ap6 hx hn.p0 (by omega) c.h6 with⟨x0,h0,e,rfl⟩|⟨e,h0⟩
  ·have pr:=c.up hu i x0 h0;rw[<-e]at pr⊢
   exact⟨pr.k.dA hn c.valid c.Q1.2 rfl,pr.c.dA c.T1.1 c.K1 hn pr.k,pr.p.dA c.opn c.valid c.Q1.2 hn pr.k⟩
  ·have pr:=c.up hu i x h0;exact⟨pr.k.other e rfl,pr.c,pr.p⟩
 ·rw[show h.up=false from e]at hu;cases hu
def Sn.MB(c:Sn N h L)(hu:h.up=true)(hn:Next h.P h.Q L r)(h4:r.k=4->∀(q:Nat) (p:PL),h.pl[q]? =ae p->∀t,p.s.nw r.p≠ae (t,true)){ok:Bool}(ho:jU h r ok h'):ok=true/\Sn (N+1) h' (L++[r])/\∃jv,h'={h.qo jv (gp<|fB r)with ps:=kz h.ps r}:=by
 cases ho with
 |ok jv hb=>exact⟨rfl,c.wrote hu hn h4 jv,jv,rfl⟩
 |uC jv hb=>rw[c.br]at hb;cases hb
def Sn.iD(c:Sn N h L){p':PL}(hp:h.pl[q]? =ae p)(hl:LK (N+1) L p'.s)(hn:∀i t,p'.s.nw i=ae (t,true)->0<=i/\i<h.P/\1<=(bI L i).s/\(bI L i).t=t/\(q:Int)∈(bI L i).ps)(ho:∀i t,p'.s.nw i=ae (t,true)->p.s.nw i=ae (t,true)\/((bI L i).s=1/\(bI L i).t=t)):Sn (N+1) (h.iD q p') L:=by
 refine⟨c.P1,c.Q1,c.T1,c.K1,c.h6,c.valid,aaH c.fM,c.jb,c.br,c.kp,c.opn.set hn,fun j a ha=>?_,c.ms.set hp ho,c.dec,c.fl,fun hu i x hx=>?_,c.dn⟩
 ·rcases CZ ha with⟨_,rfl⟩|⟨_,ha'⟩
  ·exact hl
  ·exact(c.dZ j a ha').z<|by omega
 ·have pr:=c.up hu i x hx;refine⟨pr.k,pr.c,fun h2 j a t ha hi=>?_,pr.p.Ej⟩;rcases CZ ha with⟨e1,rfl⟩|⟨_,ha'⟩
  ·subst e1;rcases ho _ _ hi with e|⟨e,_⟩
   ·exact pr.p.opn h2 j p t hp e
   ·have:=pr.k.s;omega
  ·exact pr.p.opn h2 j a t ha' hi
def Sn.SS(c:Sn N h L)(hp:h.pl[q]? =ae p){s':aJ}(hs:∀i t,s'.nw i=ae (t,true)->p.s.nw i=ae (t,true)):(∀i t,s'.nw i=ae (t,true)->0<=i/\i<h.P/\1<=(bI L i).s/\(bI L i).t=t/\(q:Int)∈(bI L i).ps)/\(∀i t,s'.nw i=ae (t,true)->p.s.nw i=ae (t,true)\/((bI L i).s=1/\(bI L i).t=t)):=
 ⟨fun i t hi=>c.opn q p hp i t<|hs i t hi,fun i t hi=>.inl<|hs i t hi⟩
def Sn.out(c:Sn N h L)(hp:h.pl[q]? =ae p)(o:Bool):Sn (N+1) (h.iD q {p with out:=o}) L:=
 c.iD hp (p':={p with out:=o}) ((c.dZ q p hp).z<|by omega) (c.SS hp fun _ _ z=>z).1 (c.SS hp fun _ _ z=>z).2
def ahB:(s.closed i t c).es=s.es\/(s.closed i t c).es=s.es++[⟨aJ.xh c,i,t,⟨#[]⟩⟩]:=by
 unfold aJ.closed;split
 ·exact .inr rfl
 ·exact .inl rfl
def ahC:(s.closed i t c).data=s.data:=by
 unfold aJ.data;rcases ahB (s:=s) (i:=i) (t:=t) (c:=c)with e|e<;>rw[e];rw[tu];have:aJ.xh c≠1:=by cases c<;>simp[aJ.xh]
 simp[this]
def LK.closed(k:LK N L s)(hi:fO i)(ht:fO t)(hd:fD L i t c):LK (N+1) L (s.closed i t c):=by
 refine⟨(aaZ k.inv i t c hi ht).1,fun e he hk=>?_,by have:=aa8 s i t c;have:=k.fM;omega⟩;rcases ahB (s:=s) (i:=i) (t:=t) (c:=c)with e1|e1<;>rw[e1]at he
 ·exact k.dec e he hk
 ·rcases oN.1 he with he|he
  ·exact k.dec e he hk
  ·rw[oM.1 he];show fD L i t (decide<|aJ.xh c=2);have:decide (aJ.xh c=2)=c:=by cases c<;>rfl
   rw[this];exact hd
def Sn.Xu(c:Sn N h L)(hN:N<=100000000)(mo:y9 h.P h.Q L m):fO m.p/\fO m.t:=by
 have:=mo.p;have:=mo.t;have:=(c.valid.rW m.p).t1;have:=c.fM;have:=c.P1.2;exact⟨LZ (by omega)<|by omega,LZ (by omega)<|by omega⟩
def Sn.shut(c:Sn N h L)(hN:N<=100000000)(hp:h.pl[q]? =ae p)(v':aA)(mo:y9 h.P h.Q L m)(hd:fD L m.p m.t m.c):Sn (N+1) (h.iD q ⟨p.lb,p.bm,v',p.s.closed m.p m.t m.c,p.out⟩) L/\Gw p ⟨p.lb,p.bm,v',p.s.closed m.p m.t m.c,p.out⟩:=by
 obtain⟨i1,i2⟩:=c.Xu hN mo;have:=c.SS hp (s':=p.s.closed m.p m.t m.c) fun i t z=>(abS z).1;exact⟨c.iD hp (p':=⟨p.lb,p.bm,v',p.s.closed m.p m.t m.c,p.out⟩) ((c.dZ q p hp).closed i1 i2 hd) this.1 this.2,(aaZ (c.dZ q p hp).inv _ _ _ i1 i2).2,ahC⟩
end
section
variable{h:HS}
def ait(i t:Int)(c:Bool):∀(qs:List Int) {l:List Ms},l.length<=100->(wC l i t c qs).length<=100
 |[],_,h=>h
 |q::qs,l,h=>ait i t c qs (l:=tK l ⟨1,q,i,t,c⟩)<|ahu h _
def vz.aiu{pl:List PL}{P Q:Int}{L:List Rc}{i t:Int}{c:Bool}:∀(qs:List Int) {l:List Ms},vz pl P Q L l->(∀q∈qs,y9 P Q L ⟨1,q,i,t,c⟩)->vz pl P Q L (wC l i t c qs)
 |[],_,h,_=>h
 |q::qs,l,h,hq=>vz.aiu qs (l:=tK l ⟨1,q,i,t,c⟩) (h.send (hq q<|by simp) fun e=>by simp at e) fun k hk=>hq k<|by simp[hk]
end
section
variable{P:fJ}{w w':ay}{o:Oper}{a:Act}{Q:Exit->Act->ay->Prop}{v y v':aA}
def auY(w:ay)(t ti ty e:dJ)(k:IntKind)(i:TypeInfo)(z:aA)(ht:P.underlying t=ae (.slice e))(KR:P.underlying ti=ae (.int k))(hi:P.info? e=ae i)(hz:i.zero=ae z)(fP:0<i.size)(n:Nat)(hn:0<n)(h63:n<=eP)(aEJ:n*i.bytes<=140737488355328):
 (Builtin.append_ #[t,ti] ty #[aN af 0 0,ag ah n]).run P w=.ok (aN (ae ⟨w.heap.size,0,af⟩) n<|grownCap w n 0 e) (w.drew.alloc<|.cells (Builtin.zeroCells z.cells n++Builtin.zeroCells z.cells (grownCap w n 0 e-n)) e):=by
 have hw:eF ah (n:Int)=n:=wrap_i64 (by omega) (by simp only[eP]at h63;omega);have n1:¬((n:Int)<0):=by omega
 have n2:¬(281474976710656<(n:Int)*(i.bytes:Int)):=by
  have:((n*i.bytes:Nat):Int)<=140737488355328:=by omega
  rw[Int.natCast_mul]at this;omega
 have n3:¬(n*i.size=0):=by
  have:=Nat.mul_pos hn fP;omega
 have n4:n≠0:=by omega
 have aA9:¬(9223372036854775807<(n:Int)):=by simp only[eP]at h63;omega
 have aBa:¬(281474976710656<Builtin.nextslicecap n 0*i.bytes):=by rw[nextslicecap_zero hn];omega
 simp[Builtin.append_,aF4 ht,aF4 KR,sizeOf,typeInfo,hi,asInt,asIntOf,hw,n1,n2,n3,n4,zeroValue,hz,aA9,aBa,Question.forced,run_firstCells_none,newRow,grownCap]
def auZ{K:Act->ay->Prop}(s x:Operand)(t ti:dJ)(ho:o.op=.call {callee:=.builtin .append,args:=#[s,x],argTypes:=#[t,ti]})(hs:a.eval s=v)(hx:a.eval x=y)(hr:(Builtin.append_ #[t,ti] o.type #[v,y]).run P w=.ok v' w')(h:K (a.put o.dst v') w'):o.wp P a w K Q:=by
 unfold Oper.wp dY;simp only[ho,resolve,invoke,builtin,aGI,Sem.run_pure,Result.andThen_ok,afQ,rQ,tC,hs,hx,hr];exact h
def ajP{ops:Array Oper}{rest:List Oper}(hgd:o.guard=af)(s x:Operand)(t ti:dJ)(ho:o.op=.call {callee:=.builtin .append,args:=#[s,x],argTypes:=#[t,ti]})(hs:a.eval s=v)(hx:a.eval x=y)(hr:(Builtin.append_ #[t,ti] o.type #[v,y]).run P w=.ok v' w')(h:wpList P ops Q rest (a.put o.dst v') w'):wpList P ops Q (o::rest) a w:=
 wpList_plain hgd fun _ hK=>auZ s x t ti ho hs hx hr<|hK _ _ h
def au0{n cap:Nat}{z:Array aA}(hzs:z.size=5)(vP:n<=cap)(hm:cap<=eP):
 (w.alloc<|.cells (Builtin.zeroCells z n++Builtin.zeroCells z (cap-n)) 119).drew.ownsRow w.heap.size 119 5 (aN (ae ⟨w.heap.size,0,af⟩) 0 cap) 0 []:=by
 refine⟨rfl,.inr ⟨w.heap.size,cap,_,rfl,dI _,aFb _ _,kH _,hm,?_,by simp⟩⟩;simp only[Array.size_append,size_zeroCells,hzs];omega
def au1(o:Obj):Fr aS w (bz w o).drew:=⟨rfl,rfl,rfl,(bQ (w:=w) o).size,fun k hk _=>(bQ (w:=w) o).block k hk id⟩
def au2(n:Nat)(hb:n*40<=140737488355328):
 aW prog 170 #[aN af 0 0,ag ah n] w fun e w'=>∃v,e=aV v/\bD w' w.heap.size 119 5 v 0 []/\Fr aS w w':=by
 obtain⟨i0,ed,iI,ig,jg⟩:=aFq JI;have hN:(n:Int)<=140737488355328:=by omega
 have HB:aj (n*40<=140737488355328):=hb;clear hb;by_cases h0:n=0
 ·subst h0;go_enter func170,ntmps170
  go_wp2
  go_ret;exact⟨_,rfl,aFm _ _ _ _,Fr.refl _ _⟩
 ·have pX:(0:Int)<n:=by omega
  have DK:∀W:ay,(Builtin.append_ #[107,3] 107 #[aN af 0 0,ag ah n]).run prog W=.ok (aN (ae ⟨W.heap.size,0,af⟩) n<|grownCap W n 0 119) (W.drew.alloc<|.cells (Builtin.zeroCells (Value.agg #[ag ah 0,ag ah 0,ag ah 0,ag ah 0,aF false]).cells n++Builtin.zeroCells (Value.agg #[ag ah 0,ag ah 0,ag ah 0,ag ah 0,aF false]).cells (grownCap W n 0 119-n)) 119):=
   fun W=>auY W 107 3 107 119 _ i0 _ underlying107 underlying3 ed iI (by omega) n (by omega) (by simp only[eP];omega) (by rw[jg];exact HB)
  have HC:aj (n<=grownCap w n 0 119/\grownCap w n 0 119<=eP):=⟨grownCap_ge w n 0 119,grownCap_le_maxLen w n 0 119 (by simp only[eP];omega)⟩;go_enter func170,ntmps170
  go_wp2_with (at_builtin;refine ajP rfl _ _ 107 3 rfl (v:=aN af 0 0) (y:=ag ah n) rfl rfl (DK _) ?_)
  go_ret;refine⟨_,rfl,?_,?_⟩
  ·have hk:n<=grownCap w n 0 119/\grownCap w n 0 119<=maxLen:=HC;exact au0 rfl hk.1 hk.2
  ·exact au1 _
abbrev Am:=List<|aA×List Ms
def Am.all(r:Am):List Ms:=r.flatMap (·.2)
def au3(r:Am)(x:aA×List Ms):Am.all (r++[x])=Am.all r++x.2:=by simp[Am.all]
def ajQ(l:List Ms):∀u∈l.flatMap Ms.cs,u.oneCell'=true:=by
 intro u hu;simp only[aaI]at hu;obtain⟨e,_,he⟩:=hu;simp only[Ms.cs,jZ,qh,qi]at he;rcases he with rfl|rfl|rfl|rfl|rfl<;>rfl
variable{rows:Am}
def ajR{B B':Nat}{x:aA}{n m:Nat}{xs ys:List aA}(hv:bD w B 119 5 v n xs)(hx:bD w B' 119 5 x m ys)(h1:∀u∈ys,u.oneCell'=true)(hb:(n+m)*40<=140737488355328)(hB:B<=w.heap.size):
 ∃v' w',(Builtin.append_ #[107,107] 107 #[v,x]).run prog w=.ok v' w'/\bD w' B 119 5 v' (n+m) (xs++ys)/\w.grownBy w' v.ownBlock:=by
 obtain⟨i0,ed,iI,ig,jg⟩:=aFq JI;rcases hx.2 with⟨rfl,rfl⟩|⟨g,cap,cur,rfl,_⟩
 ·have hy:ys=[]:=aaC (by simpa using hx.1);subst hy;refine⟨v,w,?_,by simpa using hv,⟨rfl,rfl,rfl,dI _,fun _ _ _=>rfl⟩⟩;rcases hv.2 with⟨rfl,rfl⟩|⟨g,cap,cur,rfl,_,_,hc,_⟩
  ·simp[Builtin.append_,aF4 underlying107,sizeOf,typeInfo,ed,Builtin.lenOf,Builtin.firstCells]
  ·simp[Builtin.append_,aF4 underlying107,sizeOf,typeInfo,ed,Builtin.lenOf,Builtin.firstCells,loadCells,hc,storeCells]
 ·obtain⟨v',w',h2,h3,h4,_⟩:=run_append_own (P:=prog) w B 107 107 119 i0 _ 5 40 underlying107 ed iI ig jg rfl (by decide) v n xs hv ⟨g,0,af⟩ m cap ys hx.1 (hx.cells rfl) h1 (by simp only[eP];omega) hb hB;exact⟨v',w',h2,h3,h4⟩
def pre(rows:Am)(j:Nat):List Ms:=Am.all<|rows.take j
def adq{j:Nat}{x:aA×List Ms}(h:rows[j]? =ae x):pre rows (j+1)=pre rows j++x.2:=by
 unfold pre;rw[yu,h,CO,au3]
def ajS(rows:Am):pre rows rows.length=rows.all:=by simp[pre]
def ajT(j:Nat):(pre rows j).length<=rows.all.length:=by
 have e:rows.all=pre rows j++Am.all (rows.drop j):=by
  unfold pre Am.all;rw[<-Hl,aaD]
 rw[e];simp
def au4{C:Nat}(hC:w.heap[C]? =ae (.cells (rows.map (·.1)).toArray 107 (0,0)))(hr:∀x∈rows,∃Bm,bD w Bm 119 5 x.1 x.2.length<|x.2.flatMap Ms.cs)(hb:rows.all.length*40<=140737488355328)(hn:rows.length<=4):
 aW prog 116 #[aN (ae ⟨C,0,af⟩) rows.length rows.length] w fun e w'=>∃v,e=aV v/\bD w' w.heap.size 119 5 v rows.all.length (rows.all.flatMap Ms.cs)/\Fr aS w w':=by
 have HC:aj (w.heap[C]? =ae (.cells (rows.map (·.1)).toArray 107 (0,0))):=hC;have HR:aj (∀x∈rows,∃Bm,bD w Bm 119 5 x.1 x.2.length<|x.2.flatMap Ms.cs):=hr;have HB:aj (rows.all.length*40<=140737488355328):=hb;have hlr:(rows.length:Int)<=4:=by omega
 clear hC hr hb hn;go_enter func116,ntmps116
 go_wp2_with fail
 go_loopw [3,11] (fun sv iv w'=>∃j:Nat,j<=rows.length/\iv=ag ah j/\sv=ag ah ((pre rows j).length:Nat)/\w=w') (fun _ iv _=>rows.length-(eU iv).toNat)
 case atStart=>exact⟨0,kH _,rfl,rfl,rfl⟩
 case round=>
  obtain⟨j,hj,rfl,rfl,hw⟩:=hrel
  subst hw
  have HP:=ajT (rows:=rows)<|j+1
  have HBn:rows.all.length*40<=140737488355328:=HB
  by_cases aK:j<rows.length
  ·obtain⟨⟨v,l⟩,hx⟩:∃x,rows[j]? =ae x:=⟨_,eY aK⟩
   obtain⟨Bm,dG⟩:=HR.o (v,l)<|gZ hx
   obtain⟨la,Yu,e,_⟩:=oP dG
   simp only at e
   subst e
   have c0:=aQ HC.o (o:=j)
   simp[hx]at c0
   have gY:=gy List.length<|adq hx
   simp only[iW]at gY
   have q1:eF ah (((pre rows j).length:Int)+(l.length:Int))=((pre rows j).length:Int)+(l.length:Int):=wrap_i64 (by omega)<|by omega
   have HPS:aj ((pre rows<|j+1).length=(pre rows j).length+l.length):=gY
   generalize(pre rows j).length=pj at*
   clear hx dG gY HP HBn
   go_wp2
   go_roundw
   case rel=>exact⟨j+1,by omega,by go_num,by rw[HPS.o];simp,trivial⟩
   case measure=>simp[eU]<;>omega
  ·have Q3:j=rows.length:=by omega
   subst Q3
   rw[ajS]
   clear HP HBn aK
   go_wp2_with (go_at_call 170;refine(au2 rows.all.length HB.o).z ?_;rintro e w1 ⟨nv,rfl,yQ,bU⟩)
   have HN1:aj (bD w1 w.heap.size 119 5 nv 0 []):=yQ
   have LM:aj (Fr aS w w1):=bU
   clear yQ bU
   go_loopw [6,27] (fun nv iv w'=>∃j:Nat,j<=rows.length/\iv=ag ah j/\bD w' w.heap.size 119 5 nv (pre rows j).length ((pre rows j).flatMap Ms.cs)/\Fr aS w w') (fun _ iv _=>rows.length-(eU iv).toNat)
   case atStart=>exact⟨0,kH _,rfl,HN1.o,LM.o⟩
   case round=>
    obtain⟨j,DN,rfl,jf,dP⟩:=hrel
    have HO:aj (bD wr w.heap.size 119 5 u6 (pre rows j).length<|(pre rows j).flatMap Ms.cs):=jf
    have HF:aj (Fr aS w wr):=dP
    clear jf dP
    by_cases aK:j<rows.length
    ·obtain⟨⟨v,l⟩,hx⟩:∃x,rows[j]? =ae x:=⟨_,eY aK⟩
     obtain⟨Bm,dG⟩:=HR.o (v,l)<|gZ hx
     obtain⟨la,Yu,e,_⟩:=oP dG
     simp only at e dG
     subst e
     have hC1:wr.heap[C]? =ae (.cells (rows.map (·.1)).toArray 107 (0,0)):=(HF.o.block C (jF.1 HC.o).1 id).t HC.o
     have c0:=aQ hC1 (o:=j)
     simp[hx]at c0
     have L6:aj (bD wr Bm 119 5 (.slice la l.length Yu) l.length<|l.flatMap Ms.cs):=HF.o.ownsRow dG fun _ _=>id
     have HPS:aj (pre rows (j+1)=pre rows j++l):=adq hx
     have Yv:aj (((pre rows j).length+l.length)*40<=140737488355328):=by
      have h1:=ajT (rows:=rows)<|j+1;have h2:rows.all.length*40<=140737488355328:=HB;rw[adq hx,iW]at h1;simp only at h1;show((pre rows j).length+l.length)*40<=140737488355328;omega
     obtain⟨v1,w2,DK,amY,amZ⟩:=ajR HO.o L6.o (ajQ l) Yv.o<|HF.o.size
     have HAP:aj ((Builtin.append_ #[107,107] 107 #[u6,.slice la l.length Yu]).run prog wr=.ok v1 w2):=DK
     have HO2:aj (bD w2 w.heap.size 119 5 v1 ((pre rows j).length+l.length)<|(pre rows j).flatMap Ms.cs++l.flatMap Ms.cs):=amY
     have HG2:aj (wr.grownBy w2 u6.ownBlock):=amZ
     clear hx dG hC1 DK amY amZ
     go_wp2_with (at_builtin;refine ajP rfl _ _ 107 107 rfl (v:=u6) (y:=.slice la l.length Yu) rfl rfl HAP.o ?_)
     go_roundw
     case rel=>
      refine⟨j+1,by omega,by go_num,?_,HF.o.grown HG2.o fun k hk=>.inr<|(HO.o.lt k hk).1⟩
      rw[HPS.o]
      simpa using HO2.o
     case measure=>simp[eU]<;>omega
    ·have Q3:j=rows.length:=by omega
     subst Q3
     have HO2:aj (bD wr w.heap.size 119 5 u6 rows.all.length<|rows.all.flatMap Ms.cs):=by have:=HO.o;rw[ajS]at this;exact this
     clear HO
     go_wp2
     go_ret
     exact⟨_,rfl,HO2.o,HF.o⟩
end
section
variable{w w':ay}{B xb n:Nat}{h:HS}
variable{k q:Nat}{m:Ms}{p:PL}
def avR(hh:aH w B xb n h)(hk:h.fl[k]? =ae m)(Ri:m.k=2){i:Nat}(hi:i<6){x:PS}(hx:h.ps[i]? =ae x)(hq:m.q=q)(nT:q<4)(hp:m.p=i)(hm:mY h ⟨4,i,0,x.t⟩):
 aW prog 81 #[az<|ae ⟨xb,0,af⟩,ag ah k] w fun r w'=>r=aV (.int .i64 0)/\∃fv h',zf (h.iH fv<|h.fl.eraseIdx k) i x m h'/\di w w' B xb n h n h':=by
 have HH:aj (aH w B xb n h):=hh;have oq:=(List.getElem?_eq_some_iff.mp hk).1;have HM:aj (decide ((0:Int)<=k/\(k:Int)<h.fl.length)=true):=jY (by omega);have HK:aj (h.fl[k]? =ae m):=hk;have HC:aj (∀W fv,aH W B xb n (h.iH fv<|h.fl.eraseIdx k)->aW prog 55 #[az<|ae ⟨xb,4,af⟩,iF #[ag ah 2,ag ah q,ag ah i,ag ah m.t,.bool m.c]] W fun e w'=>e=aV (dU #[])/\∃h',zf (h.iH fv<|h.fl.eraseIdx k) i x m h'/\di W w' B xb n (h.iH fv<|h.fl.eraseIdx k) n h'):=fun W fv hW=>by
  have:=aht hW hi (x:=x) hx m hq nT hp ⟨hm.small,hm.kp,hm.room,hm.end_⟩;rw[Ri,hq,hp]at this;exact this
 have aK:=bn hh.blk;have HT:aj (∀W,aH W B xb n h->aW prog 140 #[az<|ae ⟨xb,69,af⟩,ag ah k] W fun r w'=>r=aV (iF #[ag ah 2,ag ah q,ag ah i,ag ah m.t,.bool m.c])/\∃fv,di W w' B xb n h n<|h.iH fv<|h.fl.eraseIdx k):=fun W hW=>by
  have:=Xt hW hk;rw[Ri,hq,hp]at this;exact this
 clear hh hk hm hx hq hp;go_enter func81,ntmps81
 go_wp2_with (first
  |(go_at_call 139;refine(O1 HH.o k).z ?_;rw[HM.o];rintro e w1 ⟨rfl,rfl⟩)
  |(go_at_call 140;refine(HT.o _ HH.o).z ?_;rintro e w2 ⟨rfl,fv,dQ⟩
    have M2:aj (di w w2 B xb n h n<|h.iH fv<|h.fl.eraseIdx k):=dQ
    have nH:=bn dQ.at_.blk
    clear dQ))
 go_region_law
  ((go_simp;go_at_call 55;refine(HC.o _ fv<|M2.o.at_.a<|(bQ _).drew).z ?_;rintro e w3 ⟨rfl,h',hr,dQ⟩
    have R3:aj (zf (h.iH fv<|h.fl.eraseIdx k) i x m h'/\di w w3 B xb n h n h'):=⟨hr,M2.o.t<|dQ.behind<|(bQ _).drew⟩
    clear hr dQ))
 all_goals
  go_wp2
  go_ret
  exact⟨rfl,fv,h',R3.o⟩
def avS(hh:aH w B xb n h)(hk:h.fl[k]? =ae m)(Ri:m.k=1)(hq:m.q=q)(iT:h.pl[q]? =ae p)(ho:p.out=true):
 aW prog 81 #[az<|ae ⟨xb,0,af⟩,ag ah k] w fun r w'=>r=aV (.int .i64 0)/\∃fv,di w w' B xb n h n (h.iH fv<|h.fl.eraseIdx k):=by
 have HH:aj (aH w B xb n h):=hh;have oq:=(List.getElem?_eq_some_iff.mp hk).1;have uf:=(List.getElem?_eq_some_iff.mp iT).1;have HM:aj (decide ((0:Int)<=k/\(k:Int)<h.fl.length)=true):=jY (by omega);have aK:=bn hh.blk;have HT:aj (∀W,aH W B xb n h->aW prog 140 #[az<|ae ⟨xb,69,af⟩,ag ah k] W fun r w'=>r=aV (iF #[ag ah 1,ag ah q,ag ah m.p,ag ah m.t,.bool m.c])/\∃fv,di W w' B xb n h n<|h.iH fv<|h.fl.eraseIdx k):=fun W hW=>by
  have:=Xt hW hk;rw[Ri,hq]at this;exact this
 have wB:aj (h.pl[q]? =ae p):=iT;have HO:aj (p.out=true):=ho;have wS:(q:Int)<(h.pl.length:Int):=by omega
 have sW:(0:Int)<=(q:Int):=by omega
 clear hh hk hq iT ho;go_enter func81,ntmps81
 go_wp2_with (first
  |(go_at_call 139;refine(O1 HH.o k).z ?_;rw[HM.o];rintro e w1 ⟨rfl,rfl⟩)
  |(go_at_call 140;refine(HT.o _ HH.o).z ?_;rintro e w2 ⟨rfl,fv,dQ⟩
    have M2:aj (di w w2 B xb n h n<|h.iH fv<|h.fl.eraseIdx k):=dQ
    have nH:=bn dQ.at_.blk
    obtain⟨g,cap,iV,hg,pV,c0,c1⟩:=dQ.at_.place (k:=q) (p:=p) wB.o
    rw[HO.o]at c1
    have lY:cap<=9223372036854775807:=by
     rcases dQ.at_.ku.2 with⟨e,_⟩|⟨_,_,_,e,_,_,_,h2,_⟩
     ·rw[iV]at e;cases e
     ·rw[iV]at e;cases e;exact h2
    have cP:aB w2 ⟨xb,68,af⟩=ae (aN (ae ⟨g,0,af⟩) h.pl.length cap):=by
     have:=dQ.at_.cV;rw[iV]at this;exact this
    clear dQ iV))
 go_region_law
  ((go_simp;go_at_call 141;refine(aqb (pb:=g) (po:=q*2) (by exact aF7 _ c1) ⟨1,q,m.p,m.t,m.c⟩).z ?_;rintro e w3 ⟨rfl,lM⟩
    have F3:aj (Fr aS w2 w3):=((bQ _).drew).t lM dw
    clear lM))
 all_goals
  go_wp2_with fail
  go_simp
  go_loopw [33] (fun i w'=>i=.int .i64 0/\w'=w3) (fun _ _=>0)
  case atStart=>exact⟨rfl,rfl⟩
  case round=>
   obtain⟨rfl,rfl⟩:=hrel
   go_wp2
   go_ret
   exact⟨rfl,fv,M2.o.a F3.o⟩
def avT(hh:aH w B xb n h)(ha:jk h.pl)(hk:h.fl[k]? =ae m)(Ri:m.k=1)(hq:m.q=q)(iT:h.pl[q]? =ae p)(ho:p.out=false)
 (hp:(Lit.int .i64 m.p).wf=true)(hn:n<eP)(hb:(p.s.es.length+1)*40<=140737488355328):
 aW prog 81 #[az<|ae ⟨xb,0,af⟩,ag ah k] w fun r w'=>r=aV (.int .i64 0)/\∃fv v' w3,di w w3 B xb n h (n+1) ((h.iH fv<|h.fl.eraseIdx k).iD q ⟨p.lb,p.bm,v',p.s.closed m.p m.t m.c,p.out⟩)/\jk ((h.iH fv<|h.fl.eraseIdx k).iD q ⟨p.lb,p.bm,v',p.s.closed m.p m.t m.c,p.out⟩).pl/\
  yB w3 w' B xb (n+1) ((h.iH fv<|h.fl.eraseIdx k).iD q ⟨p.lb,p.bm,v',p.s.closed m.p m.t m.c,p.out⟩) m.lJ:=by
 have HH:aj (aH w B xb n h):=hh
 have oq:=(List.getElem?_eq_some_iff.mp hk).1
 have uf:=(List.getElem?_eq_some_iff.mp iT).1
 have HM:aj (decide ((0:Int)<=k/\(k:Int)<h.fl.length)=true):=jY<|by omega
 have aK:=bn hh.blk
 have HT:aj (∀W,aH W B xb n h->aW prog 140 #[az<|ae ⟨xb,69,af⟩,ag ah k] W fun r w'=>r=aV (iF #[ag ah 1,ag ah q,ag ah m.p,ag ah m.t,.bool m.c])/\∃fv,di W w' B xb n h n<|h.iH fv<|h.fl.eraseIdx k):=fun W hW=>by
  have:=Xt hW hk;rw[Ri,hq]at this;exact this
 have wB:aj (h.pl[q]? =ae p):=iT
 have HO:aj (p.out=false):=ho
 have HA:aj (jk h.pl):=ha
 have HP:aj ((Lit.int .i64 m.p).wf=true):=hp
 have HN:aj (n<eP):=hn
 have HB:aj ((p.s.es.length+1)*40<=140737488355328):=hb
 have HAK:aj (m.lJ=⟨2,q,m.p,m.t,m.c⟩):=by
  obtain⟨mk,mq,mp,mt,mc⟩:=m;cases hq;rfl
 have wS:(q:Int)<(h.pl.length:Int):=by omega
 have sW:(0:Int)<=(q:Int):=by omega
 clear hh hk hq iT ho ha hp hn hb
 go_enter func81,ntmps81
 go_wp2_with (first
  |(go_at_call 139;refine(O1 HH.o k).z ?_;rw[HM.o];rintro e w1 ⟨rfl,rfl⟩)
  |(go_at_call 140;refine(HT.o _ HH.o).z ?_;rintro e w2 ⟨rfl,fv,dQ⟩
    have M2:aj (di w w2 B xb n h n<|h.iH fv<|h.fl.eraseIdx k):=dQ
    have nH:=bn dQ.at_.blk
    obtain⟨g,cap,iV,hg,pV,c0,c1⟩:=dQ.at_.place (k:=q) (p:=p) wB.o
    rw[HO.o]at c1
    have lY:cap<=9223372036854775807:=by
     rcases dQ.at_.ku.2 with⟨e,_⟩|⟨_,_,_,e,_,_,_,h2,_⟩
     ·rw[iV]at e;cases e
     ·rw[iV]at e;cases e;exact h2
    have cP:aB w2 ⟨xb,68,af⟩=ae (aN (ae ⟨g,0,af⟩) h.pl.length cap):=by
     have:=dQ.at_.cV;rw[iV]at this;exact this
    clear dQ iV))
 go_region_law
  ((go_simp;go_at_call 141;refine(aqc (pb:=g) (po:=q*2) ((M2.o.at_.a<|(bQ _).drew).dZ p<|gZ wB.o) (by exact aF7 _ c0) (by exact aF7 _ c1) ⟨1,q,m.p,m.t,m.c⟩ HP.o HN.o HB.o).z ?_;rintro e w3 ⟨b,v',rfl,mQ,hbs,Rj⟩
    have L3:=(M2.o.at_.a<|(bQ _).drew).Xf HA.o wB.o (Nat.le_succ n) Rj
    have M3:aj (di w w3 B xb n h (n+1)<|(h.iH fv<|h.fl.eraseIdx k).iD q ⟨p.lb,p.bm,v',p.s.closed m.p m.t m.c,p.out⟩):=M2.o.t<|L3.1.behind<|(bQ _).drew
    have A3:aj (jk ((h.iH fv<|h.fl.eraseIdx k).iD q ⟨p.lb,p.bm,v',p.s.closed m.p m.t m.c,p.out⟩).pl):=L3.2
    have x0:aB w3 ⟨b,0,af⟩=ae (.int .i64 2):=(aQ mQ 0).t rfl
    have x1:aB w3 ⟨b,1,af⟩=ae (.int .i64 q):=(aQ mQ 1).t rfl
    have x2:aB w3 ⟨b,2,af⟩=ae (.int .i64 m.p):=(aQ mQ 2).t rfl
    have x3:aB w3 ⟨b,3,af⟩=ae (.int .i64 m.t):=(aQ mQ 3).t rfl
    have x4:aB w3 ⟨b,4,af⟩=ae (.bool m.c):=(aQ mQ 4).t rfl
    have E5:=bn mQ
    have uQ:=bn M3.o.at_.blk
    clear Rj L3 mQ hbs))
 all_goals
  go_wp2_with fail
  go_simp
  go_loopw [33] (fun i w'=>(i=.int .i64 0/\w'=w3)\/(i=.int .i64 1/\yB w3 w' B xb (n+1) ((h.iH fv<|h.fl.eraseIdx k).iD q ⟨p.lb,p.bm,v',p.s.closed m.p m.t m.c,p.out⟩) m.lJ)) (fun i _=>1-(eU i).toNat)
  case atStart=>exact .inl ⟨rfl,rfl⟩
  case round=>
   rcases hrel with⟨rfl,rfl⟩|⟨rfl,hs⟩
   ·go_wp2_with fail
    go_region_law
     ((go_simp;go_at_call 120;refine(abQ (M3.o.at_.a<|(bQ _).drew) ⟨2,q,m.p,m.t,m.c⟩).z ?_;rintro e w4 ⟨rfl,hs⟩
       have S4:aj (yB wr w4 B xb (n+1) ((h.iH fv<|h.fl.eraseIdx k).iD q ⟨p.lb,p.bm,v',p.s.closed m.p m.t m.c,p.out⟩) m.lJ):=by
        show yB _ _ _ _ _ _ _;rw[HAK.o];exact hs.behind<|(bQ _).drew
       clear hs))
    all_goals
     go_wp2
     go_roundw
     case rel=>exact .inr ⟨by go_num,S4.o⟩
     case measure=>simp[eU]
   ·have S3:aj (yB w3 wr B xb (n+1) ((h.iH fv<|h.fl.eraseIdx k).iD q ⟨p.lb,p.bm,v',p.s.closed m.p m.t m.c,p.out⟩) m.lJ):=hs
    clear hs
    go_wp2
    go_ret
    exact⟨rfl,fv,v',w3,M3.o,A3.o,S3.o⟩
end
