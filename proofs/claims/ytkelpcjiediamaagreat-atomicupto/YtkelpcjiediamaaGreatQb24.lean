import Derived.Test.YtkelpcjiediamaaGreatQb23
import Derived.Deep.OwnRows
set_option maxRecDepth 100000
set_option maxHeartbeats 0
set_option linter.all false
namespace Go.Proofs.YtkelpcjiediamaaGreat
def aDp:=@Go.toList_madeCells_one
open Go renaming Calls→aK,TypeId→bW,Value→aj,World→ah,maxLen→dH
open Option renaming none→af,some→ae
open Go.Proofs.Tryz
open Go.RowKit Go.Maps
def amB(w:ah)(p:Nat)(hp:p<=6):(Instr.makeSlice 43 (.int .i64 (p:Int))<|.int .i64 (p:Int)).run prog w=.ok (.slice (ae ⟨w.heap.size,0,af⟩) p p) (w.alloc<|.cells (madeCells #[.int .i64 0] p) 3):=
 run_make_row' 43 3 (.int .i64 0) 8 underlying43 UK rfl .i64 .i64 p (by omega) (by omega) w
def aeA(w:ah){B p:Nat}(hB:B<=w.heap.size)(hp:p<=6):(w.alloc<|.cells (madeCells #[.int .i64 0] p) 3).ownsRow B 3 1 (.slice (ae ⟨w.heap.size,0,af⟩) p p) (List.replicate p (0:Int)).length (fK<|List.replicate p 0):=by
 have:=aDe w (base:=B) (e:=3) (size:=1) (madeCells #[.int .i64 0] p) p hB (by simp only[dH];omega) (by simp[size_madeCells]);rw[aDp]at this;simpa[fK]using this
section
def HS.dZ(h:HS)(xb k:Nat):Prop:=k=xb\/h.jv.ownBlock=ae k\/h.pv.ownBlock=ae k\/h.fv.ownBlock=ae k\/∃p∈h.pl,AY p.lb p.bm p.v k
section
variable{w w':ah}{B xb n:Nat}{h:HS}{S:Nat->Prop}
def ay.stay(hh:ay w B xb n h)(f:Fr S w w')(hS:∀k,S k->h.dZ xb k->False):ay w' B xb n h:=
 ⟨(f.block xb (aS hh.blk) fun e=>hS _ e<|.inl rfl).trans hh.blk,f.ownsRow hh.lL fun k hk e=>hS k e<|.inr<|.inl hk,f.ownsRow hh.jD fun k hk e=>hS k e<|.inr<|.inr<|.inl hk,f.ownsRow hh.lY fun k hk e=>hS k e<|.inr<|.inr<|.inr<|.inl hk,
  fun p hp=>(hh.dG p hp).stay f fun k e hf=>hS k e<|.inr<|.inr<|.inr<|.inr ⟨p,hp,hf⟩,hh.hx,hh.hP,hh.hQ,hh.h6⟩
def ay.rV(hh:ay w B xb n h){k:Nat}(hk:h.dZ xb k):k<w.heap.size/\B<=k:=by
 rcases hk with rfl|hk|hk|hk|⟨p,hp,hk⟩
 ·exact⟨aS hh.blk,hh.hx⟩
 ·exact⟨(hh.lL.lt k hk).2,(hh.lL.lt k hk).1⟩
 ·exact⟨(hh.jD.lt k hk).2,(hh.jD.lt k hk).1⟩
 ·exact⟨(hh.lY.lt k hk).2,(hh.lY.lt k hk).1⟩
 ·have hl:=hh.dG p hp;rcases hk with rfl|rfl|hk
  ·exact⟨hl.lt,hl.hl⟩
  ·exact⟨hl.map.lt,hl.hm⟩
  ·exact⟨(hl.row.lt k hk).2,(hl.row.lt k hk).1⟩
def ay.Zl(hh:ay w B xb n h){k:Nat}(hk:h.dZ xb k):tag w k=111\/tag w k=5\/tag w k=98\/(tag w k=119/\h.fv.ownBlock=ae k)\/tag w k=163\/tag w k=1000000\/tag w k=55:=by
 rcases hk with rfl|hk|hk|hk|⟨p,hp,hk⟩
 ·exact .inl<|lD hh.blk
 ·exact .inr<|.inl<|ig hh.lL hk
 ·exact .inr<|.inr<|.inl<|ig hh.jD hk
 ·exact .inr<|.inr<|.inr<|.inl ⟨ig hh.lY hk,hk⟩
 ·exact .inr<|.inr<|.inr<|.inr<|(hh.dG p hp).tags hk
end
end
section
structure bI(w w':ah)(B xb n:Nat)(h:HS)(n':Nat)(h':HS):Prop where
 at_:ay w' B xb n' h'
 fr:Fr (h.dZ xb) w w'
 sub:∀k,h'.dZ xb k->h.dZ xb k\/w.heap.size<=k
section
variable{w w1 w2 w':ah}{B xb n n1 n2:Nat}{h h1 h2:HS}
def bI.refl(hh:ay w B xb n h):bI w w B xb n h n h:=⟨hh,Fr.refl _ _,fun _=>.inl⟩
def bI.trans(a:bI w w1 B xb n h n1 h1)(b:bI w1 w2 B xb n1 h1 n2 h2):bI w w2 B xb n h n2 h2:=
 ⟨b.at_,a.fr.trans b.fr fun k hk=>a.sub k hk,fun k hk=>by
  rcases b.sub k hk with e|e
  ·exact a.sub k e
  ·exact .inr<|dP a.fr.size e⟩
def bI.after(a:bI w w1 B xb n h n1 h1)(f:Fr aH w1 w2):bI w w2 B xb n h n1 h1:=
 ⟨a.at_.after f,a.fr.trans f fun _ h=>h.elim,a.sub⟩
def bI.behind(f:Fr aH w w1)(a:bI w1 w2 B xb n h n1 h1):bI w w2 B xb n h n1 h1:=
 ⟨a.at_,(f.mono fun _ h=>h.elim).trans a.fr fun _=>.inl,fun k hk=>by
  rcases a.sub k hk with e|e
  ·exact .inl e
  ·exact .inr<|dP f.size e⟩
def bI.own(f:Fr (fun k=>k=xb) w w'){h':HS}(hh:ay w' B xb n1 h')(hs:∀k,h'.dZ xb k->h.dZ xb k):bI w w' B xb n h n1 h':=
 ⟨hh,f.mono fun _ e=>.inl<|.inl e,fun k hk=>.inl<|hs k hk⟩
def bI.lL{jv:aj}{h':HS}(f:Fr (fun k=>k=xb\/h.jv.ownBlock=ae k) w w')(hh:ay w' B xb n h')(hj:h'.jv=jv)(hl:∀k,jv.ownBlock=ae k->h.jv.ownBlock=ae k\/w.heap.size<=k)(gZ:h'.pv=h.pv)(oM:h'.fv=h.fv)(iF:h'.pl=h.pl):bI w w' B xb n h n h':=by
 refine⟨hh,f.mono fun k e=>.inl ?_,fun k hk=>?_⟩
 ·rcases e with e|e
  ·exact .inl e
  ·exact .inr<|.inl e
 ·rcases hk with e|e|e|e|e
  ·exact .inl<|.inl e
  ·rw[hj]at e;rcases hl k e with a|a
   ·exact .inl<|.inr<|.inl a
   ·exact .inr a
  ·rw[gZ]at e;exact .inl<|.inr<|.inr<|.inl e
  ·rw[oM]at e;exact .inl<|.inr<|.inr<|.inr<|.inl e
  ·rw[iF]at e;exact .inl<|.inr<|.inr<|.inr<|.inr e
inductive jo(h:HS)(r:Rc):Bool->HS->Prop
 |ok (jv:aj) (hb:h.br=false):jo h r true {h.oU jv (ed<|dL r)with ps:=jE h.ps r}
 |sD (jv:aj) (hb:h.br=true):jo h r false (h.oU jv<|ed<|(dL r).take h.kp.toNat).zS
structure lM(h:HS)(r:Rc):Prop where
 small:∃m,m<1000000000000/\r.Small m
 kp:0<=h.kp/\h.kp<=16
 room:h.jb.length+16<=140737488355328
 end_:r.k=3->r.a=0\/r.a=1
def Nu(hh:ay w B xb n h){r:Rc}(hm:lM h r):
 aK prog 118 #[.pointer<|ae ⟨xb,4,af⟩,vH r] w fun e w'=>∃ok h',e=.returned (.bool ok)/\jo h r ok h'/\bI w w' B xb n h n h':=by
 obtain⟨⟨m,qy,hs⟩,LP,ajQ,uw⟩:=hm;cases pz:h.br
 ·have key:aK prog 118 #[.pointer<|ae ⟨xb,4,af⟩,vH r] w fun e w'=>e=.returned (.bool true)/\∃jv,aeV w w' B xb n h r jv:=by
   have k0:=hs.k0;have k1:=hs.k1;refine am0 hh pz hs qy ?_ ajQ;rcases(show r.k=1\/r.k=2\/r.k=3\/r.k=4 by omega)with e|e|e|e
   ·exact .inl e
   ·exact .inr<|.inl e
   ·exact .inr<|.inr<|.inl ⟨e,(uw e).elim (fun a=>⟨false,by simpa using a⟩) fun a=>⟨true,by simpa using a⟩⟩
   ·exact .inr<|.inr<|.inr e
  refine key.mono fun _ w2 ⟨h1,jv,h2⟩=>⟨true,_,h1,.ok jv pz,?_⟩;exact bI.lL h2.fr h2.at_ rfl h2.Nb rfl rfl rfl
 ·obtain⟨kk,uu⟩:=vw LP.1;have key:aK prog 118 #[.pointer<|ae ⟨xb,4,af⟩,vH r] w fun e w'=>e=.returned (.bool false)/\∃jv,Zx w w' B xb n h r kk jv:=by
   rcases H9 kk with e|e
   ·subst e;exact am2 hh pz uu hs qy
   ·exact am1 hh pz uu (by omega) e hs qy ajQ
  refine key.mono fun _ w2 ⟨h1,jv,h2⟩=>⟨false,_,h1,.sD jv pz,?_⟩;have e:h.kp.toNat=kk:=by omega
  rw[e];exact bI.lL h2.fr h2.at_ rfl h2.Nb rfl rfl rfl
def am3(hh:ay w B xb n h){i:Nat}{x:PS}(hx:h.ps[i]? =ae x)(hm:lM h ⟨1,i,0,x.e+1⟩):
 aK prog 129 #[.pointer<|ae ⟨xb,4,af⟩,.int .i64 i] w fun e w'=>∃ok h',e=.returned (.bool ok)/\jo h ⟨1,i,0,x.e+1⟩ ok h'/\bI w w' B xb n h n h':=by
 have HC:Hid (∀W,ay W B xb n h->aK prog 118 #[.pointer<|ae ⟨xb,4,af⟩,.agg #[.int .i64 1,.int .i64 i,.int .i64 0,.int .i64<|x.e+1]] W fun e w'=>∃ok h',e=.returned (.bool ok)/\jo h ⟨1,i,0,x.e+1⟩ ok h'/\bI W w' B xb n h n h'):=fun W hW=>Nu hW hm;have HH:Hid (ay w B xb n h):=hh;obtain⟨⟨e0,e1,e2⟩,ef⟩:=hh.cellP hx;obtain⟨m,qy,hs⟩:=hm.small;have pq:0<=x.e+1:=hs.m0;have gq:x.e+1<=m+1:=hs.m1;have kG:(i:Int)<6:=hs.p1;have dF:(0:Int)<=(i:Int):=by omega
 have fZ:=aS hh.blk;clear hh hx hm hs e1 e2;go_enter func129,ntmps129
 go_wp2_with (first
  |(go_at_call 118;refine(HC.out _<|by exact HH.out).mono ?_;rintro e w1 ⟨ok,h',rfl,ho,dm⟩
    have R1:Hid (jo h ⟨1,i,0,x.e+1⟩ ok h'/\bI w w1 B xb n h n h'):=⟨ho,dm⟩
    clear ho dm))
 go_ret;exact⟨ok,h',rfl,R1.out⟩
end
end
section
section
variable{w w':ah}{B xb n:Nat}{h:HS}
inductive FV(h:HS)(r:Rc)(w:ah)(B xb n:Nat):Ending->ah->Prop
 |mk {ok:Bool} {h':HS} {w':ah} (ho:jo h r ok h') (hm:bI w w' B xb n h n h'):FV h r w B xb n (.returned<|.bool ok) w'
def PS.next(x:PS):Int:=if x.s=0 then x.t+1 else x.t
variable{i:Nat}{x:PS}
def am4(hh:ay w B xb n h)(hx:h.ps[i]? =ae x){q:Int}(hm:lM h ⟨2,i,q,x.next⟩):
 aK prog 125 #[.pointer<|ae ⟨xb,4,af⟩,.int .i64 i,.int .i64 q] w fun e w'=>∃ok h',e=.returned (.bool ok)/\jo h ⟨2,i,q,x.next⟩ ok h'/\bI w w' B xb n h n h':=by
 have HH:Hid (ay w B xb n h):=hh;have HM:Hid (lM h ⟨2,i,q,x.next⟩):=hm;obtain⟨⟨e0,e1,e2⟩,ef⟩:=hh.cellP hx;obtain⟨m,qy,hs⟩:=hm.small;have pq:0<=x.next:=hs.m0;have gq:x.next<=m+1:=hs.m1;have kG:(i:Int)<6:=hs.p1;have dF:(0:Int)<=(i:Int):=by omega
 have fZ:=aS hh.blk;clear hh hx hm hs e0;by_cases h0:x.s=0
 ·have hn:x.next=x.t+1:=by simp[PS.next,h0]
  have HC:Hid (∀W,ay W B xb n h->aK prog 118 #[.pointer<|ae ⟨xb,4,af⟩,.agg #[.int .i64 2,.int .i64 i,.int .i64 q,.int .i64<|x.t+1]] W fun e w'=>∃ok h',e=.returned (.bool ok)/\jo h ⟨2,i,q,x.next⟩ ok h'/\bI W w' B xb n h n h'):=fun W hW=>by
   have:=Nu hW HM.out;unfold vH at this;simp only[hn]at this⊢
   exact this
  rw[h0]at e2;rw[hn]at pq gq;clear hn h0;go_enter func125,ntmps125
  go_wp2_with (first
   |(go_at_call 118;refine(HC.out _<|by exact HH.out).mono ?_;rintro e w1 ⟨ok,h',rfl,ho,dm⟩
     have R1:Hid (jo h ⟨2,i,q,x.next⟩ ok h'/\bI w w1 B xb n h n h'):=⟨ho,dm⟩
     clear ho dm))
  go_ret;exact⟨ok,h',rfl,R1.out⟩
 ·have hn:x.next=x.t:=by simp[PS.next,h0]
  have HC:Hid (∀W,ay W B xb n h->aK prog 118 #[.pointer<|ae ⟨xb,4,af⟩,.agg #[.int .i64 2,.int .i64 i,.int .i64 q,.int .i64 x.t]] W fun e w'=>∃ok h',e=.returned (.bool ok)/\jo h ⟨2,i,q,x.next⟩ ok h'/\bI W w' B xb n h n h'):=fun W hW=>by
   have:=Nu hW HM.out;unfold vH at this;simp only[hn]at this⊢
   exact this
  have hsb:(x.s==0)=false:=by simpa using h0
  clear hn h0;go_enter func125,ntmps125
  go_wp2_with (first
   |(go_at_call 118;refine(HC.out _<|by exact HH.out).mono ?_;rintro e w1 ⟨ok,h',rfl,ho,dm⟩
     have R1:Hid (jo h ⟨2,i,q,x.next⟩ ok h'/\bI w w1 B xb n h n h'):=⟨ho,dm⟩
     clear ho dm))
  go_ret;exact⟨ok,h',rfl,R1.out⟩
def Zy(hh:ay w B xb n h)(hx:h.ps[i]? =ae x)(c:Bool)(hm:lM h ⟨3,i,if c then 1 else 0,x.t⟩):
 aK prog 67 #[.pointer<|ae ⟨xb,4,af⟩,.int .i64 i,.bool c] w (FV h ⟨3,i,if c then 1 else 0,x.t⟩ w B xb n):=by
 have HH:Hid (ay w B xb n h):=hh;have HM:Hid (lM h ⟨3,i,if c then 1 else 0,x.t⟩):=hm;obtain⟨⟨e0,e1,e2⟩,ef⟩:=hh.cellP hx;obtain⟨m,qy,hs⟩:=hm.small;have kG:(i:Int)<6:=hs.p1;have dF:(0:Int)<=(i:Int):=by omega
 have fZ:=aS hh.blk;clear hh hx hm hs e0;cases c
 ·have HC:Hid (∀W,ay W B xb n h->aK prog 118 #[.pointer<|ae ⟨xb,4,af⟩,.agg #[.int .i64 3,.int .i64 i,.int .i64 0,.int .i64 x.t]] W fun e w'=>∃ok h',e=.returned (.bool ok)/\jo h ⟨3,i,0,x.t⟩ ok h'/\bI W w' B xb n h n h'):=fun W hW=>Nu hW HM.out;go_enter func67,ntmps67
  go_wp2_with (first
   |(go_at_call 118;refine(HC.out _<|by exact HH.out.after<|aZ _).mono ?_;rintro e w1 ⟨ok,h',rfl,ho,dm⟩
     have R1:Hid (jo h ⟨3,i,0,x.t⟩ ok h'/\bI w w1 B xb n h n h'):=⟨ho,dm.behind<|aZ _⟩
     clear ho dm))
  go_ret;exact .mk R1.out.1 R1.out.2
 ·have HC:Hid (∀W,ay W B xb n h->aK prog 118 #[.pointer<|ae ⟨xb,4,af⟩,.agg #[.int .i64 3,.int .i64 i,.int .i64 1,.int .i64 x.t]] W fun e w'=>∃ok h',e=.returned (.bool ok)/\jo h ⟨3,i,1,x.t⟩ ok h'/\bI W w' B xb n h n h'):=fun W hW=>Nu hW HM.out;go_enter func67,ntmps67
  go_wp2_with (first
   |(go_at_call 118;refine(HC.out _<|by exact HH.out.after<|aZ _).mono ?_;rintro e w1 ⟨ok,h',rfl,ho,dm⟩
     have R1:Hid (jo h ⟨3,i,1,x.t⟩ ok h'/\bI w w1 B xb n h n h'):=⟨ho,dm.behind<|aZ _⟩
     clear ho dm))
  go_ret;exact .mk R1.out.1 R1.out.2
def HS.bars(h:HS)(x:PS)(e:Int):Int:=if h.up=false then 5 else if e=0\/e≠x.e then 7 else 0
def yQ(hh:ay w B xb n h)(hi:i<6)(hx:h.ps[i]? =ae x)(ep:Int):
 aK prog 65 #[.pointer<|ae ⟨xb,4,af⟩,.int .i64 i,.int .i64 ep] w fun e w'=>e=.returned (.int .i64<|h.bars x ep)/\w=w':=by
 obtain⟨⟨e0,e1,e2⟩,ef⟩:=hh.cellP hx;have c5:=hh.cU;have kG:(i:Int)<6:=by omega
 have dF:(0:Int)<=(i:Int):=by omega
 clear hh hx e1 e2;cases hu:h.up
 ·rw[hu]at c5;go_enter func65,ntmps65
  go_wp2
  go_ret;exact⟨by simp[HS.bars,hu],rfl⟩
 ·rw[hu]at c5;by_cases h1:ep=0
  ·subst h1;go_enter func65,ntmps65
   go_wp2
   go_ret;exact⟨by simp[HS.bars,hu],rfl⟩
  ·have b1:(ep==0)=false:=by simpa using h1
   by_cases h2:ep=x.e
   ·subst h2;go_enter func65,ntmps65
    go_wp2
    go_ret;exact⟨by simp[HS.bars,hu,h1],rfl⟩
   ·have b2:(ep==x.e)=false:=by simpa using h2
    go_enter func65,ntmps65
    go_wp2
    go_ret;exact⟨by simp[HS.bars,hu,h2],rfl⟩
def wL{o:Nat}(s:Int)(e2:w.cell? ⟨xb,o+2,af⟩=ae (.int .i64 s)):
 aK prog 66 #[.pointer<|ae ⟨xb,o,af⟩] w fun e w'=>e=.returned (.bool<|decide<|s=2\/s=3)/\w=w':=by
 by_cases h1:s=2
 ·subst h1;go_enter func66,ntmps66
  go_wp2
  go_ret;exact⟨rfl,rfl⟩
 ·have b1:(s==2)=false:=by simpa using h1
  by_cases h2:s=3
  ·subst h2;go_enter func66,ntmps66
   go_wp2
   go_ret;exact⟨rfl,rfl⟩
  ·have b2:(s==3)=false:=by simpa using h2
   go_enter func66,ntmps66
   go_wp2
   go_ret;exact⟨by simp[h1,h2],rfl⟩
def HS.qZ(h:HS)(p q:Int):Int:=if 0<=p/\p<h.P then(if 0<=q/\q<h.pl.length then 0 else 3)else 2
def Ef(hh:ay w B xb n h)(p q:Int):
 aK prog 124 #[.pointer<|ae ⟨xb,0,af⟩,.int .i64 p,.int .i64 q] w fun e w'=>e=.returned (.int .i64<|h.qZ p q)/\w=w':=by
 have HH:Hid (ay w B xb n h):=hh;by_cases h1:0<=p/\p<h.P
 ·have HP:Hid (decide (0<=p/\p<h.P)=true):=jI h1;by_cases h2:0<=q/\q<h.pl.length
  ·have HQ:Hid (decide (0<=q/\q<h.pl.length)=true):=jI h2;have HL:Hid (h.qZ p q=0):=by show h.qZ p q=0;simp[HS.qZ,h1,h2]
   clear hh h1 h2;go_enter func124,ntmps124
   go_wp2_with (first
    |(go_at_call 64;refine(zT HH.out p).mono ?_;rw[HP.out];rintro e w1 ⟨rfl,rfl⟩)
    |(go_at_call 50;refine(JW HH.out q).mono ?_;rw[HQ.out];rintro e w2 ⟨rfl,rfl⟩))
   go_ret;exact⟨by rw[HL.out]<;>rfl,rfl⟩
  ·have HQ:Hid (decide (0<=q/\q<h.pl.length)=false):=qC h2;have HL:Hid (h.qZ p q=3):=by show h.qZ p q=3;simp only[HS.qZ,if_pos h1,if_neg h2]
   clear hh h1 h2;go_enter func124,ntmps124
   go_wp2_with (first
    |(go_at_call 64;refine(zT HH.out p).mono ?_;rw[HP.out];rintro e w1 ⟨rfl,rfl⟩)
    |(go_at_call 50;refine(JW HH.out q).mono ?_;rw[HQ.out];rintro e w2 ⟨rfl,rfl⟩))
   go_ret;exact⟨by rw[HL.out]<;>rfl,rfl⟩
 ·have HP:Hid (decide (0<=p/\p<h.P)=false):=qC h1;have HL:Hid (h.qZ p q=2):=by show h.qZ p q=2;simp only[HS.qZ,if_neg h1]
  clear hh h1;go_enter func124,ntmps124
  go_wp2_with (first
   |(go_at_call 64;refine(zT HH.out p).mono ?_;rw[HP.out];rintro e w1 ⟨rfl,rfl⟩))
  go_ret;exact⟨by rw[HL.out]<;>rfl,rfl⟩
end
end
section
section
variable{w w':ah}{B xb n:Nat}{h:HS}
variable{i:Nat}{x:PS}
def am5(hh:ay w B xb n h)(hx:h.ps[i]? =ae x)(hm:lM h ⟨1,i,0,x.e+1⟩):aK prog 129 #[.pointer<|ae ⟨xb,4,af⟩,.int .i64 i] w (FV h ⟨1,i,0,x.e+1⟩ w B xb n):=
 (am3 hh hx hm).mono fun _ _ ⟨ok,h',h1,h2,h3⟩=>by rw[h1];exact .mk h2 h3
def am6(hh:ay w B xb n h)(hx:h.ps[i]? =ae x){q:Int}(hm:lM h ⟨2,i,q,x.next⟩):aK prog 125 #[.pointer<|ae ⟨xb,4,af⟩,.int .i64 i,.int .i64 q] w (FV h ⟨2,i,q,x.next⟩ w B xb n):=
 (am4 hh hx hm).mono fun _ _ ⟨ok,h',h1,h2,h3⟩=>by rw[h1];exact .mk h2 h3
def am7(hh:ay w B xb n h){m:Int}(hm:0<=m/\m<h.P)(hu:h.up=false):
 aK prog 74 #[.pointer<|ae ⟨xb,0,af⟩,.int .i64 m] w fun e w'=>e=.returned (.tuple #[.int .i64 0,.int .i64 5])/\w=w':=by
 have HH:Hid (ay w B xb n h):=hh;have HP:Hid (decide (0<=m/\m<h.P)=true):=jI hm;have c5:=hh.cU;rw[hu]at c5;clear hh hm;go_enter func74,ntmps74
 go_wp2_with (go_at_call 64;refine(zT HH.out m).mono ?_;rw[HP.out];rintro e w1 ⟨rfl,rfl⟩)
 go_ret2
 exact⟨rfl,rfl⟩
inductive aeX(h:HS)(r:Rc)(w:ah)(B xb n:Nat):Ending->ah->Prop
 |mk {ok:Bool} {h':HS} {w':ah} (ho:jo h r ok h') (hm:bI w w' B xb n h n h'):aeX h r w B xb n (.returned<|.tuple #[.int .i64 0,.int .i64 9]) w'
def am8(hh:ay w B xb n h)(hm:(i:Int)<h.P)(hu:h.up=true)(hx:h.ps[i]? =ae x)(hs:x.s=1)(hy:lM h ⟨3,i,0,x.t⟩):
 aK prog 74 #[.pointer<|ae ⟨xb,0,af⟩,.int .i64 i] w (aeX h ⟨3,i,0,x.t⟩ w B xb n):=by
 have HH:Hid (ay w B xb n h):=hh;have HP:Hid (decide (0<=(i:Int)/\(i:Int)<h.P)=true):=jI ⟨by omega,hm⟩;have HC:Hid (aK prog 67 #[.pointer<|ae ⟨xb,4,af⟩,.int .i64 i,.bool false] w<|FV h ⟨3,i,0,x.t⟩ w B xb n):=Zy hh hx false hy;have c5:=hh.cU;rw[hu]at c5;obtain⟨⟨e0,e1,e2⟩,ef⟩:=hh.cellP hx;rw[hs]at e2;have kG:(i:Int)<6:=by have:=hh.hP.2;omega
 have dF:(0:Int)<=(i:Int):=by omega
 clear hh hm hx hy;go_enter func74,ntmps74
 go_wp2_with (first
  |(go_at_call 64;refine(zT HH.out i).mono ?_;rw[HP.out];rintro e w1 ⟨rfl,rfl⟩)
  |(go_at_call 67;refine HC.out.mono ?_;rintro e w2 ⟨ho,dm⟩
    rename_i ok h'
    have R2:Hid (jo h ⟨3,i,0,x.t⟩ ok h'/\bI w w2 B xb n h n h'):=⟨ho,dm⟩
    clear ho dm))
 go_ret2
 exact .mk R2.out.1 R2.out.2
def am9(hh:ay w B xb n h)(hm:(i:Int)<h.P)(hu:h.up=true)(hx:h.ps[i]? =ae x)(hs:x.s=2\/x.s=3):
 aK prog 74 #[.pointer<|ae ⟨xb,0,af⟩,.int .i64 i] w fun e w'=>e=.returned (.tuple #[.int .i64 0,.int .i64 9])/\w=w':=by
 have HH:Hid (ay w B xb n h):=hh;have HP:Hid (decide (0<=(i:Int)/\(i:Int)<h.P)=true):=jI ⟨by omega,hm⟩;have HE:Hid (decide (x.s=2\/x.s=3)=true):=jI hs;have c5:=hh.cU;rw[hu]at c5;obtain⟨⟨e0,e1,e2⟩,ef⟩:=hh.cellP hx;have G8:(x.s==1)=false:=by simp<;>omega
 have kG:(i:Int)<6:=by have:=hh.hP.2;omega
 have dF:(0:Int)<=(i:Int):=by omega
 have mO:Hid (w.cell? ⟨xb,6+i*10+2,af⟩=ae (.int .i64 x.s)):=e2;clear hh hm hx hs;go_enter func74,ntmps74
 go_wp2_with (first
  |(go_at_call 64;refine(zT HH.out i).mono ?_;rw[HP.out];rintro e w1 ⟨rfl,rfl⟩)
  |(go_at_call 66;refine(wL x.s mO.out).mono ?_;rw[HE.out];rintro e w1 ⟨rfl,rfl⟩))
 go_ret2
 exact⟨rfl,rfl⟩
inductive Zz(h:HS)(r:Rc)(w:ah)(B xb n:Nat):Ending->ah->Prop
 |ok {h':HS} {w':ah} (ho:jo h r true h') (hm:bI w w' B xb n h n h'):Zz h r w B xb n (.returned<|.tuple #[.int .i64 r.m,.int .i64 0]) w'
 |sD {h':HS} {w':ah} (ho:jo h r false h') (hm:bI w w' B xb n h n h'):Zz h r w B xb n (.returned<|.tuple #[.int .i64 0,.int .i64 5]) w'
variable{ep:Int}
def U0{h h':HS}{r:Rc}(hx:h.ps[i]? =ae x)(hr:r.p=i)(ho:jo h r true h'):h'.ps[i]? =ae (x.bJ r):=by
 cases ho with
 |ok jv hb=>
  have hi:i<h.ps.length:=(dD.1 hx).1;have e:r.p.toNat=i:=by omega
  show(jE h.ps r)[i]? =_;unfold jE;rw[e,mD hi];simp[List.getD,hx]
def ana(hh:ay w B xb n h)(hm:(i:Int)<h.P)(hu:h.up=true)(hx:h.ps[i]? =ae x)(hs:x.s=0)(hy:lM h ⟨1,i,0,x.e+1⟩):
 aK prog 74 #[.pointer<|ae ⟨xb,0,af⟩,.int .i64 i] w (Zz h ⟨1,i,0,x.e+1⟩ w B xb n):=by
 have HH:Hid (ay w B xb n h):=hh;have HX:Hid (h.ps[i]? =ae x):=hx;have HP:Hid (decide (0<=(i:Int)/\(i:Int)<h.P)=true):=jI ⟨by omega,hm⟩;have HC:Hid (aK prog 129 #[.pointer<|ae ⟨xb,4,af⟩,.int .i64 i] w<|FV h ⟨1,i,0,x.e+1⟩ w B xb n):=am5 hh hx hy;have c5:=hh.cU;rw[hu]at c5;obtain⟨⟨e0,e1,e2⟩,ef⟩:=hh.cellP hx;rw[hs]at e2;have mO:Hid (w.cell? ⟨xb,6+i*10+2,af⟩=ae (.int .i64 0)):=e2;have kG:(i:Int)<6:=by have:=hh.hP.2;omega
 have dF:(0:Int)<=(i:Int):=by omega
 clear hh hm hx hy;go_enter func74,ntmps74
 go_wp2_with (first
  |(go_at_call 64;refine(zT HH.out i).mono ?_;rw[HP.out];rintro e w1 ⟨rfl,rfl⟩)
  |(go_at_call 66;refine(wL 0 mO.out).mono ?_;rintro e w1 ⟨rfl,rfl⟩)
  |(go_at_call 129;fail))
 refine HC.out.mono ?_;rintro e w2 ⟨ho,dm⟩;rename_i ok h';cases ok
 ·have R2:Hid (jo h ⟨1,i,0,x.e+1⟩ false h'/\bI w w2 B xb n h n h'):=⟨ho,dm⟩;clear ho dm;go_wp2_with fail
  go_ret2
  exact .sD R2.out.1 R2.out.2
 ·have R2:Hid (jo h ⟨1,i,0,x.e+1⟩ true h'/\bI w w2 B xb n h n h'):=⟨ho,dm⟩;have d0:w2.cell? ⟨xb,6+i*10,af⟩=ae (.int .i64<|x.e+1):=by
   have:=(dm.at_.cellP<|U0 HX.out rfl ho).1.1;simpa[PS.bJ]using this
  clear ho dm e0;go_wp2_with fail
  go_ret2
  exact .ok R2.out.1 R2.out.2
def aeY(hh:ay w B xb n h)(hm:(i:Int)<h.P)(hx:h.ps[i]? =ae x)(hb:h.bars x ep≠0)(c:Bool):
 aK prog 28 #[.pointer<|ae ⟨xb,0,af⟩,.int .i64 i,.int .i64 ep,.bool c] w fun e w'=>e=.returned (.int .i64<|h.bars x ep)/\w=w':=by
 have HH:Hid (ay w B xb n h):=hh;have HX:Hid (h.ps[i]? =ae x):=hx;have HP:Hid (decide (0<=(i:Int)/\(i:Int)<h.P)=true):=jI ⟨by omega,hm⟩;have jw:i<6:=by have:=hh.hP.2;omega
 obtain⟨b,DU⟩:∃b,h.bars x ep=b:=⟨_,rfl⟩;have HB:Hid (h.bars x ep=b):=DU;rw[DU]at hb⊢
 have zt:(b==0)=false:=by simpa using hb
 clear hh hm hx DU;go_enter func28,ntmps28
 go_wp2_with (first
  |(go_at_call 64;refine(zT HH.out i).mono ?_;rw[HP.out];rintro e w1 ⟨rfl,rfl⟩)
  |(go_at_call 65;refine(yQ HH.out jw HX.out ep).mono ?_;rw[HB.out];rintro e w1 ⟨rfl,rfl⟩))
 go_ret;exact⟨rfl,rfl⟩
def anb(hh:ay w B xb n h)(hm:(i:Int)<h.P)(hx:h.ps[i]? =ae x)(hb:h.bars x ep=0)(hs:x.s=0)(c:Bool):
 aK prog 28 #[.pointer<|ae ⟨xb,0,af⟩,.int .i64 i,.int .i64 ep,.bool c] w fun e w'=>e=.returned (.int .i64 8)/\w=w':=by
 have HH:Hid (ay w B xb n h):=hh;have HX:Hid (h.ps[i]? =ae x):=hx;have HP:Hid (decide (0<=(i:Int)/\(i:Int)<h.P)=true):=jI ⟨by omega,hm⟩;have jw:i<6:=by have:=hh.hP.2;omega
 have HB:Hid (h.bars x ep=0):=hb;obtain⟨⟨e0,e1,e2⟩,ef⟩:=hh.cellP hx;rw[hs]at e2;have kG:(i:Int)<6:=by omega
 have dF:(0:Int)<=(i:Int):=by omega
 clear hh hm hx hb;go_enter func28,ntmps28
 go_wp2_with (first
  |(go_at_call 64;refine(zT HH.out i).mono ?_;rw[HP.out];rintro e w1 ⟨rfl,rfl⟩)
  |(go_at_call 65;refine(yQ HH.out jw HX.out ep).mono ?_;rw[HB.out];rintro e w1 ⟨rfl,rfl⟩))
 go_ret;exact⟨rfl,rfl⟩
def anc(hh:ay w B xb n h)(hm:(i:Int)<h.P)(hx:h.ps[i]? =ae x)(hb:h.bars x ep=0)(hs:x.s=2\/x.s=3)(c:Bool):
 aK prog 28 #[.pointer<|ae ⟨xb,0,af⟩,.int .i64 i,.int .i64 ep,.bool c] w fun e w'=>e=.returned (.int .i64 9)/\w=w':=by
 have HH:Hid (ay w B xb n h):=hh;have HX:Hid (h.ps[i]? =ae x):=hx;have HP:Hid (decide (0<=(i:Int)/\(i:Int)<h.P)=true):=jI ⟨by omega,hm⟩;have jw:i<6:=by have:=hh.hP.2;omega
 have HB:Hid (h.bars x ep=0):=hb;have HE:Hid (decide (x.s=2\/x.s=3)=true):=jI hs;obtain⟨⟨e0,e1,e2⟩,ef⟩:=hh.cellP hx;have G8:(x.s==0)=false:=by simp<;>omega
 have mO:Hid (w.cell? ⟨xb,6+i*10+2,af⟩=ae (.int .i64 x.s)):=e2;have kG:(i:Int)<6:=by omega
 have dF:(0:Int)<=(i:Int):=by omega
 clear hh hm hx hb hs;go_enter func28,ntmps28
 go_wp2_with (first
  |(go_at_call 64;refine(zT HH.out i).mono ?_;rw[HP.out];rintro e w1 ⟨rfl,rfl⟩)
  |(go_at_call 65;refine(yQ HH.out jw HX.out ep).mono ?_;rw[HB.out];rintro e w1 ⟨rfl,rfl⟩)
  |(go_at_call 66;refine(wL x.s mO.out).mono ?_;rw[HE.out];rintro e w1 ⟨rfl,rfl⟩))
 go_ret;exact⟨rfl,rfl⟩
inductive ZA(h:HS)(r:Rc)(w:ah)(B xb n:Nat):Ending->ah->Prop
 |ok {h':HS} {w':ah} (ho:jo h r true h') (hm:bI w w' B xb n h n h'):ZA h r w B xb n (.returned<|.int .i64 0) w'
 |sD {h':HS} {w':ah} (ho:jo h r false h') (hm:bI w w' B xb n h n h'):ZA h r w B xb n (.returned<|.int .i64 5) w'
def ane(hh:ay w B xb n h)(hm:(i:Int)<h.P)(hx:h.ps[i]? =ae x)(hb:h.bars x ep=0)(hs:x.s=1)(c:Bool)(hy:lM h ⟨3,i,if c then 1 else 0,x.t⟩):
 aK prog 28 #[.pointer<|ae ⟨xb,0,af⟩,.int .i64 i,.int .i64 ep,.bool c] w (ZA h ⟨3,i,if c then 1 else 0,x.t⟩ w B xb n):=by
 have HH:Hid (ay w B xb n h):=hh;have HX:Hid (h.ps[i]? =ae x):=hx;have HP:Hid (decide (0<=(i:Int)/\(i:Int)<h.P)=true):=jI ⟨by omega,hm⟩;have jw:i<6:=by have:=hh.hP.2;omega
 have HB:Hid (h.bars x ep=0):=hb;obtain⟨r,hr⟩:∃r:Rc,(⟨3,i,if c then 1 else 0,x.t⟩:Rc)=r:=⟨_,rfl⟩;have HC:Hid (aK prog 67 #[.pointer<|ae ⟨xb,4,af⟩,.int .i64 i,.bool c] w<|FV h r w B xb n):=by have:=Zy hh hx c hy;rw[hr]at this;exact this
 rw[hr];obtain⟨⟨e0,e1,e2⟩,ef⟩:=hh.cellP hx;rw[hs]at e2;have mO:Hid (w.cell? ⟨xb,6+i*10+2,af⟩=ae (.int .i64 1)):=e2;have kG:(i:Int)<6:=by omega
 have dF:(0:Int)<=(i:Int):=by omega
 clear hh hm hx hb hy hr;go_enter func28,ntmps28
 go_wp2_with (first
  |(go_at_call 64;refine(zT HH.out i).mono ?_;rw[HP.out];rintro e w1 ⟨rfl,rfl⟩)
  |(go_at_call 65;refine(yQ HH.out jw HX.out ep).mono ?_;rw[HB.out];rintro e w1 ⟨rfl,rfl⟩)
  |(go_at_call 66;refine(wL 1 mO.out).mono ?_;rintro e w1 ⟨rfl,rfl⟩)
  |(go_at_call 67;fail))
 refine HC.out.mono ?_;rintro e w2 ⟨ho,dm⟩;rename_i ok h';cases ok
 ·have R2:Hid (jo h r false h'/\bI w w2 B xb n h n h'):=⟨ho,dm⟩;clear ho dm;go_wp2_with fail
  go_ret;exact .sD R2.out.1 R2.out.2
 ·have R2:Hid (jo h r true h'/\bI w w2 B xb n h n h'):=⟨ho,dm⟩;clear ho dm;go_wp2_with fail
  go_ret;exact .ok R2.out.1 R2.out.2
end
end
section
def HS.gy(h:HS)(k:Nat)(p:PL):HS:={h with pl:=h.pl.set k p}
section
variable{w w':ah}{B xb n:Nat}{h:HS}
def aeZ:∀(l:List PL) (k:Nat) (p p':PL),l[k]? =ae p->p'.lb=p.lb->p'.out=p.out->oP (l.set k p')=oP l
 |[],k,p,p',h,_,_=>by simp at h
 |x::r,0,p,p',h,h1,h2=>by
  simp only[xA,fJ]at h;subst h;simp[oP,PL.cs,h1,h2]
 |x::r,k+1,p,p',h,h1,h2=>by
  simp only[zJ]at h;have:=aeZ r k p p' h h1 h2;simp only[oP,List.set_cons_succ,nZ]at this⊢
  rw[this]
def ay.mono(hh:ay w B xb n h){m:Nat}(hm:n<=m):ay w B xb m h:=
 ⟨hh.blk,hh.lL,hh.jD,hh.lY,fun p hp=>(hh.dG p hp).mono hm,hh.hx,hh.hP,hh.hQ,hh.h6⟩
def ay.U1(hh:ay w B xb n h)(ha:iC h.pl){k:Nat}{p:PL}(hk:h.pl[k]? =ae p){v':aj}{s':aA}{m:Nat}(hm:n<=m)(hl:Left w w' B p.lb p.bm p.v v' m s'):
 bI w w' B xb n h m (h.gy k ⟨p.lb,p.bm,v',s',p.out⟩)/\iC (h.gy k ⟨p.lb,p.bm,v',s',p.out⟩).pl:=by
 have mM:=(dD.1 hk).1;have qA:=fD hk;have A8:=hh.dG p qA;have fr:Fr (AY p.lb p.bm p.v) w w':=hl.fr.mono fun _ e=>.inl e;have row:∀{ty:bW} {wd:Nat} {v:aj} {j:Nat} {xs:List aj},w.ownsRow B ty wd v j xs->ty≠163->ty≠1000000->ty≠55->w'.ownsRow B ty wd v j xs:=fun ho h1 h2 h3=>fr.ownsRow ho (fun q hq e=>by
  have t0:=ig ho hq;rcases A8.tags e with t1|t1|t1<;>rw[t0]at t1
  ·exact h1 t1
  ·exact h2 t1
  ·exact h3 t1)
 have mem:∀q,q∈(h.pl.set k ⟨p.lb,p.bm,v',s',p.out⟩)->q=⟨p.lb,p.bm,v',s',p.out⟩\/∃j,j≠k/\h.pl[j]? =ae q:=fun q hq=>by
  obtain⟨j,hj⟩:=Us.1 hq;by_cases e:j=k
  ·subst e;rw[mD mM]at hj;exact .inl (qE hj).symm
  ·rw[vz fun e2=>e e2.symm]at hj;exact .inr ⟨j,e,hj⟩
 have ZB:∀x,AY p.lb p.bm v' x->AY p.lb p.bm p.v x\/w.heap.size<=x:=fun x hx=>by
  rcases hx with e|e|e
  ·exact .inl<|.inl e
  ·exact .inl<|.inr<|.inl e
  ·rcases hl.Nb x e with a|a
   ·exact .inl<|.inr<|.inr a
   ·exact .inr a
 have hold:∀q∈h.pl,∀x,AY q.lb q.bm q.v x->x<w.heap.size:=fun q hq x hx=>(hh.rV<|.inr<|.inr<|.inr<|.inr ⟨q,hq,hx⟩).1;refine⟨⟨⟨(fr.block xb (aS hh.blk)<|hh.JV qA).trans hh.blk,row hh.lL (by decide) (by decide)<|by decide,?_,row hh.lY (by decide) (by decide)<|by decide,?_,hh.hx,hh.hP,?_,hh.h6⟩,?_,?_⟩,?_⟩
 ·show w'.ownsRow B 98 2 h.pv (h.pl.set k _).length (oP<|h.pl.set k _);rw[yK,aeZ h.pl k p ⟨p.lb,p.bm,v',s',p.out⟩ hk rfl rfl];exact row hh.jD (by decide) (by decide)<|by decide
 ·intro q hq;rcases mem q hq with rfl|⟨j,hj,LQ⟩
  ·exact hl.log
  ·exact((hh.dG q<|fD LQ).stay fr fun x e hf=>ha k j p q (fun e2=>hj e2.symm) hk LQ x e hf).mono hm
 ·show h.Q=((h.pl.set k _).length:Int)/\_;rw[yK];exact hh.hQ
 ·exact fr.mono fun x e=>.inl<|.inr<|.inr<|.inr<|.inr ⟨p,qA,e⟩
 ·intro x hx;rcases hx with e|e|e|e|⟨q,hq,hf⟩
  ·exact .inl<|.inl e
  ·exact .inl<|.inr<|.inl e
  ·exact .inl<|.inr<|.inr<|.inl e
  ·exact .inl<|.inr<|.inr<|.inr<|.inl e
  ·rcases mem q hq with rfl|⟨j,hj,LQ⟩
   ·rcases ZB x hf with a|a
    ·exact .inl<|.inr<|.inr<|.inr<|.inr ⟨p,qA,a⟩
    ·exact .inr a
   ·exact .inl<|.inr<|.inr<|.inr<|.inr ⟨q,fD LQ,hf⟩
 ·intro i j a b yj hi hj x h1 h2;have pick:∀{i:Nat} {a:PL},(h.pl.set k ⟨p.lb,p.bm,v',s',p.out⟩)[i]? =ae a->(i=k/\a=⟨p.lb,p.bm,v',s',p.out⟩)\/(i≠k/\h.pl[i]? =ae a):=fun{i a} hi=>by
   by_cases e:i=k
   ·subst e;rw[mD mM]at hi;exact .inl ⟨rfl,(qE hi).symm⟩
   ·rw[vz fun e2=>e e2.symm]at hi;exact .inr ⟨e,hi⟩
  rcases pick hi with⟨e1,rfl⟩|⟨e1,lW⟩<;>rcases pick hj with⟨e2,rfl⟩|⟨e2,BM⟩
  ·omega
  ·rcases ZB x h1 with c|c
   ·exact ha k j p b (fun e=>e2 e.symm) hk BM x c h2
   ·have:=hold b (fD BM) x h2;omega
  ·rcases ZB x h2 with c|c
   ·exact ha i k a p e1 lW hk x h1 c
   ·have:=hold a (fD lW) x h1;omega
  ·exact ha i j a b yj lW BM x h1 h2
end
end
section
section
variable{w w':ah}{B xb n:Nat}{h:HS}
variable{q i:Nat}{x:PS}{ep:Int}
def FX{p:Nat}(hp:(p:Int)<h.P)(hq:q<h.pl.length):h.qZ p q=0:=by
 simp only[HS.qZ];rw[if_pos ⟨by omega,hp⟩,if_pos ⟨by omega,by omega⟩]
def ae0(hh:ay w B xb n h)(hm:(i:Int)<h.P)(hq:q<h.pl.length)(hx:h.ps[i]? =ae x)(hb:h.bars x ep≠0):
 aK prog 63 #[.pointer<|ae ⟨xb,0,af⟩,.int .i64 i,.int .i64 ep,.int .i64 q] w fun e w'=>e=.returned (.int .i64<|h.bars x ep)/\w=w':=by
 have HH:Hid (ay w B xb n h):=hh;have HX:Hid (h.ps[i]? =ae x):=hx;have HL:Hid (h.qZ i q=0):=FX hm hq;have jw:i<6:=by have:=hh.hP.2;omega
 obtain⟨b,DU⟩:∃b,h.bars x ep=b:=⟨_,rfl⟩;have HB:Hid (h.bars x ep=b):=DU;rw[DU]at hb⊢
 have zt:(b==0)=false:=by simpa using hb
 clear hh hm hx DU hq;go_enter func63,ntmps63
 go_wp2_with (first
  |(go_at_call 124;refine(Ef HH.out i q).mono ?_;rw[HL.out];rintro e w1 ⟨rfl,rfl⟩)
  |(go_at_call 65;refine(yQ HH.out jw HX.out ep).mono ?_;rw[HB.out];rintro e w1 ⟨rfl,rfl⟩))
 go_ret;exact⟨rfl,rfl⟩
def anf(hh:ay w B xb n h)(hm:(i:Int)<h.P)(hq:q<h.pl.length)(hx:h.ps[i]? =ae x)(hb:h.bars x ep=0)(hs:x.s=2\/x.s=3):
 aK prog 63 #[.pointer<|ae ⟨xb,0,af⟩,.int .i64 i,.int .i64 ep,.int .i64 q] w fun e w'=>e=.returned (.int .i64 9)/\Fr aH w w':=by
 have HH:Hid (ay w B xb n h):=hh;have HX:Hid (h.ps[i]? =ae x):=hx;have HL:Hid (h.qZ i q=0):=FX hm hq;have jw:i<6:=by have:=hh.hP.2;omega
 have HB:Hid (h.bars x ep=0):=hb;have HE:Hid (decide (x.s=2\/x.s=3)=true):=jI hs;obtain⟨⟨e0,e1,e2⟩,ef⟩:=hh.cellP hx;have mO:Hid (w.cell? ⟨xb,6+i*10+2,af⟩=ae (.int .i64 x.s)):=e2;obtain⟨p,hp⟩:∃p,h.pl[q]? =ae p:=⟨_,dR hq⟩;obtain⟨g,cap,gZ,hg,uU,c0,c1⟩:=hh.place hp;have cV:=hh.cV;rw[gZ]at cV;have kG:(i:Int)<6:=by omega
 have dF:(0:Int)<=(i:Int):=by omega
 have qV:(0:Int)<=(q:Int):=by omega
 have uV:(q:Int)<h.pl.length:=by omega
 clear hh hm hx hb hs hp gZ;go_enter func63,ntmps63
 go_wp2_with (first
  |(go_at_call 124;refine(Ef HH.out i q).mono ?_;rw[HL.out];rintro e w1 ⟨rfl,rfl⟩)
  |(go_at_call 65;refine(yQ HH.out jw HX.out ep).mono ?_;rw[HB.out];rintro e w1 ⟨rfl,rfl⟩))
 go_region
 go_wp2_with (first
  |(go_at_call 66;refine(wL x.s<|by exact mO.out).mono ?_;rw[HE.out];rintro e w1 ⟨rfl,rfl⟩))
 go_ret;exact⟨rfl,(Fr.refl _ _).drew⟩
def ang(hh:ay w B xb n h)(hm:(i:Int)<h.P){p:PL}(hp:h.pl[q]? =ae p)(ho:p.out=true)(hx:h.ps[i]? =ae x)(hb:h.bars x ep=0)(hs:x.s=0\/x.s=1):
 aK prog 63 #[.pointer<|ae ⟨xb,0,af⟩,.int .i64 i,.int .i64 ep,.int .i64 q] w fun e w'=>e=.returned (.int .i64 10)/\Fr aH w w':=by
 have HH:Hid (ay w B xb n h):=hh;have HX:Hid (h.ps[i]? =ae x):=hx;have hq:=(dD.1 hp).1;have HL:Hid (h.qZ i q=0):=FX hm hq;have jw:i<6:=by have:=hh.hP.2;omega
 have HB:Hid (h.bars x ep=0):=hb;have HE:Hid (decide (x.s=2\/x.s=3)=false):=qC (by omega);obtain⟨⟨e0,e1,e2⟩,ef⟩:=hh.cellP hx;have mO:Hid (w.cell? ⟨xb,6+i*10+2,af⟩=ae (.int .i64 x.s)):=e2;obtain⟨g,cap,gZ,hg,uU,c0,c1⟩:=hh.place hp;rw[ho]at c1;have cV:=hh.cV;rw[gZ]at cV;have kG:(i:Int)<6:=by omega
 have dF:(0:Int)<=(i:Int):=by omega
 have qV:(0:Int)<=(q:Int):=by omega
 have uV:(q:Int)<h.pl.length:=by omega
 clear hh hm hx hb hs hp gZ ho;go_enter func63,ntmps63
 go_wp2_with (first
  |(go_at_call 124;refine(Ef HH.out i q).mono ?_;rw[HL.out];rintro e w1 ⟨rfl,rfl⟩)
  |(go_at_call 65;refine(yQ HH.out jw HX.out ep).mono ?_;rw[HB.out];rintro e w1 ⟨rfl,rfl⟩))
 go_region
 go_wp2_with (first
  |(go_at_call 66;refine(wL x.s<|by exact mO.out).mono ?_;rw[HE.out];rintro e w1 ⟨rfl,rfl⟩))
 go_ret;exact⟨rfl,(Fr.refl _ _).drew⟩
def ay.quiet(hh:ay w B xb n h)(hx:h.ps[i]? =ae x):bI w (w.setCell ⟨xb,6+i*10+7,af⟩<|.int .i64 0) B xb n h n (h.dE i {x with si:=0}):=by
 have:=hh.setCell {x with si:=0} (j:=7) (v:=.int .i64 0) hx (by omega) rfl;exact bI.own this.2 this.1 fun k hk=>hk
inductive ae1(w:ah)(B xb n:Nat)(h1:HS)(i q:Nat)(x:PS)(p:PL):Ending->ah->Prop
 |mk {v':aj} {w':ah} (hm:bI w w' B xb n h1 (n+1) ((h1.gy q ⟨p.lb,p.bm,v',p.s.opened i x.t,p.out⟩).dE i {x with si:=0})) (ha:iC (h1.gy q ⟨p.lb,p.bm,v',p.s.opened i x.t,p.out⟩).pl):ae1 w B xb n h1 i q x p (.returned<|.int .i64 0) w'
def anh(hh:ay w B xb n h)(ha:iC h.pl)(hm:(i:Int)<h.P){p:PL}(hp:h.pl[q]? =ae p)(ho:p.out=false)(hx:h.ps[i]? =ae x)(hb:h.bars x ep=0)(hs:x.s=0\/x.s=1)(ht:x.aT.getD q 0≠0)(hn:n<dH):
 aK prog 63 #[.pointer<|ae ⟨xb,0,af⟩,.int .i64 i,.int .i64 ep,.int .i64 q] w (ae1 w B xb n h i q x p):=by
 have HH:Hid (ay w B xb n h):=hh;have HX:Hid (h.ps[i]? =ae x):=hx;have HA:Hid (iC h.pl):=ha;have yP:Hid (h.pl[q]? =ae p):=hp;have hq:=(dD.1 hp).1;have l9:q<4:=by have:=hh.hQ;omega
 have HL:Hid (h.qZ i q=0):=FX hm hq;have jw:i<6:=by have:=hh.hP.2;omega
 have HB:Hid (h.bars x ep=0):=hb;have HE:Hid (decide (x.s=2\/x.s=3)=false):=qC (by omega);have U9:Hid (dK w B p.lb p.bm p.v n p.s):=hh.dG p<|fD hp;have fF:Hid (n<dH):=hn;have HI:Hid (dQ (i:Int)):=J3 (by omega) (by omega);obtain⟨⟨e0,e1,e2⟩,ef⟩:=hh.cellP hx;have mO:Hid (w.cell? ⟨xb,6+i*10+2,af⟩=ae (.int .i64 x.s)):=e2;have e3:w.cell? ⟨xb,6+i*10+3+q,af⟩=ae (.int .i64<|x.aT.getD q 0):=by rw[yL];exact hh.iJ hx (3+q) _<|JZ _ l9
 obtain⟨tv,Qh⟩:∃tv,x.aT.getD q 0=tv:=⟨_,rfl⟩;rw[Qh]at e3 ht;have O3:(tv==0)=false:=by simpa using ht
 obtain⟨g,cap,gZ,hg,uU,c0,c1⟩:=hh.place hp;rw[ho]at c1;have cV:=hh.cV;rw[gZ]at cV;have kG:(i:Int)<6:=by omega
 have dF:(0:Int)<=(i:Int):=by omega
 have qV:(0:Int)<=(q:Int):=by omega
 have uV:(q:Int)<h.pl.length:=by omega
 have ZC:(q:Int)<4:=by omega
 have FD:Hid (Fr aH w w.drew.drew):=((Fr.refl _ _).drew).drew;have Qi:Hid (dK w.drew.drew B p.lb p.bm p.v n p.s):=FD.out.logAt U9.out id id fun _ _=>id;have qA:=fD hp;have Qj:Hid (¬(g=p.lb\/g=p.bm\/p.v.ownBlock=ae g)):=fun e=>by
  have t0:=ig hh.jD (k:=g) (by rw[gZ];rfl);rcases(hh.dG p qA).tags e with t1|t1|t1<;>rw[t0]at t1<;>cases t1
 have Qk:Hid (¬(xb=p.lb\/xb=p.bm\/p.v.ownBlock=ae xb)):=hh.JV qA;have fZ:=aS hh.blk;clear hh hm hx hb hs hp gZ ho ha hn ht Qh qA;go_enter func63,ntmps63
 go_wp2_with (first
  |(go_at_call 124;refine(Ef HH.out i q).mono ?_;rw[HL.out];rintro e w1 ⟨rfl,rfl⟩)
  |(go_at_call 65;refine(yQ HH.out jw HX.out ep).mono ?_;rw[HB.out];rintro e w1 ⟨rfl,rfl⟩))
 go_region
 go_wp2_with (first
  |(go_at_call 66;refine(wL x.s<|by exact mO.out).mono ?_;rw[HE.out];rintro e w1 ⟨rfl,rfl⟩))
 go_region_held3 (fun w'=>w'.cell? ⟨g,q*2,af⟩=ae (.pointer<|ae ⟨p.lb,0,af⟩)/\w'.cell? ⟨xb,6+i*10+1,af⟩=ae (.int .i64 x.t))
  (first|with_reducible exact C2|exact⟨c0,e1⟩|go_keep)
  ((go_at_call 126;refine(aem (w:=w.drew.drew) Qi.out i x.t HI.out fF.out).mono ?_;rintro e w3 ⟨rfl,hl⟩
    have dm:=(HH.out.after FD.out).U1 HA.out yP.out (by omega) hl
    have L3:Hid (bI w w3 B xb n h (n+1) (h.gy q ⟨p.lb,p.bm,p.v,p.s.opened i x.t,p.out⟩)/\iC (h.gy q ⟨p.lb,p.bm,p.v,p.s.opened i x.t,p.out⟩).pl):=⟨dm.1.behind FD.out,dm.2⟩
    have C2:w3.cell? ⟨g,q*2,af⟩=ae (.pointer<|ae ⟨p.lb,0,af⟩)/\w3.cell? ⟨xb,6+i*10+1,af⟩=ae (.int .i64 x.t):=⟨(hl.fr.cell (p:=⟨g,q*2,af⟩) hg Qj.out).trans c0,(hl.fr.cell (p:=⟨xb,6+i*10+1,af⟩) fZ Qk.out).trans e1⟩
    have d7:w3.cell? ⟨xb,6+i*10+7,af⟩=ae (.int .i64 x.si):=L3.out.1.at_.iJ (p:=x) HX.out 7 _ rfl
    have df:∀o,w3.frozen? ⟨xb,o,af⟩=false:=jP L3.out.1.at_.blk
    clear hl dm))
 go_wp2_with fail
 go_ret;have Jq:(h.gy q ⟨p.lb,p.bm,p.v,p.s.opened i x.t,p.out⟩).ps[i]? =ae x:=HX.out;exact .mk (v':=p.v) (L3.out.1.trans<|L3.out.1.at_.quiet Jq) L3.out.2
end
end
end Go.Proofs.YtkelpcjiediamaaGreat
