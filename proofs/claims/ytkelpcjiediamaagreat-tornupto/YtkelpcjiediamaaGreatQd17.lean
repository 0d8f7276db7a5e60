import Derived.Test.YtkelpcjiediamaaGreatQd16
import Derived.Deep.OwnRows
set_option maxRecDepth 100000
set_option maxHeartbeats 0
set_option linter.all false
namespace Go.Proofs.YtkelpcjiediamaaGreat
def aFp:=@Go.toList_madeCells_one
open Go renaming Calls→aU,TypeId→dw,Value→az,World→aj,maxLen→dU
open Go.Ending renaming returned→aT
open Go.IntKind renaming i64→ah
open Go.Obj renaming cells→aC
open Go.RowKit renaming intOf→fH
open Go.Value renaming agg→gY,bool→aB,int→ag,pointer→ay,slice→aJ,string→dA,tuple→dK
open Option renaming none→af,some→ae
open Go.Proofs.Tryz
open Go.RowKit Go.Maps
def aoi(w:aj)(p:Nat)(hp:p<=6):(Instr.makeSlice 43 (ag ah (p:Int))<|ag ah (p:Int)).run prog w=.ok (aJ (ae ⟨w.heap.size,0,af⟩) p p) (w.alloc<|.cells (madeCells #[ag ah 0] p) 3):=
 run_make_row' 43 3 (ag ah 0) 8 underlying43 V5 rfl .i64 .i64 p (by omega) (by omega) w
def af6(w:aj){B p:Nat}(hB:B<=w.heap.size)(hp:p<=6):(w.alloc<|.cells (madeCells #[ag ah 0] p) 3).ownsRow B 3 1 (aJ (ae ⟨w.heap.size,0,af⟩) p p) (List.replicate p (0:Int)).length (gy<|List.replicate p 0):=by
 have:=aFd w (base:=B) (e:=3) (size:=1) (madeCells #[ag ah 0] p) p hB (by simp only[dU];omega) (by simp[size_madeCells]);rw[aFp]at this;simpa[gy]using this
section
def HS.fA(h:HS)(xb k:Nat):Prop:=k=xb\/h.jv.ownBlock=ae k\/h.pv.ownBlock=ae k\/h.fv.ownBlock=ae k\/∃p∈h.pl,BP p.lb p.bm p.v k
section
variable{w w':aj}{B xb n:Nat}{h:HS}{S:Nat->Prop}
def aF.stay(hh:aF w B xb n h)(f:Fr S w w')(hS:∀k,S k->h.fA xb k->False):aF w' B xb n h:=
 ⟨(f.block xb (aX hh.blk) fun e=>hS _ e<|.inl rfl).trans hh.blk,f.ownsRow hh.kT fun k hk e=>hS k e<|.inr<|.inl hk,f.ownsRow hh.jU fun k hk e=>hS k e<|.inr<|.inr<|.inl hk,f.ownsRow hh.mV fun k hk e=>hS k e<|.inr<|.inr<|.inr<|.inl hk,
  fun p hp=>(hh.ed p hp).stay f fun k e hf=>hS k e<|.inr<|.inr<|.inr<|.inr ⟨p,hp,hf⟩,hh.hx,hh.hP,hh.hQ,hh.h6⟩
def aF.qK(hh:aF w B xb n h){k:Nat}(hk:h.fA xb k):k<w.heap.size/\B<=k:=by
 rcases hk with rfl|hk|hk|hk|⟨p,hp,hk⟩
 ·exact⟨aX hh.blk,hh.hx⟩
 ·exact⟨(hh.kT.lt k hk).2,(hh.kT.lt k hk).1⟩
 ·exact⟨(hh.jU.lt k hk).2,(hh.jU.lt k hk).1⟩
 ·exact⟨(hh.mV.lt k hk).2,(hh.mV.lt k hk).1⟩
 ·have hl:=hh.ed p hp;rcases hk with rfl|rfl|hk
  ·exact⟨hl.lt,hl.hl⟩
  ·exact⟨hl.map.lt,hl.hm⟩
  ·exact⟨(hl.row.lt k hk).2,(hl.row.lt k hk).1⟩
def aF.aaS(hh:aF w B xb n h){k:Nat}(hk:h.fA xb k):tag w k=111\/tag w k=5\/tag w k=98\/(tag w k=119/\h.fv.ownBlock=ae k)\/tag w k=163\/tag w k=1000000\/tag w k=55:=by
 rcases hk with rfl|hk|hk|hk|⟨p,hp,hk⟩
 ·exact .inl<|lM hh.blk
 ·exact .inr<|.inl<|iK hh.kT hk
 ·exact .inr<|.inr<|.inl<|iK hh.jU hk
 ·exact .inr<|.inr<|.inr<|.inl ⟨iK hh.mV hk,hk⟩
 ·exact .inr<|.inr<|.inr<|.inr<|(hh.ed p hp).tags hk
end
end
section
structure bU(w w':aj)(B xb n:Nat)(h:HS)(n':Nat)(h':HS):Prop where
 at_:aF w' B xb n' h'
 fr:Fr (h.fA xb) w w'
 sub:∀k,h'.fA xb k->h.fA xb k\/w.heap.size<=k
section
variable{w w1 w2 w':aj}{B xb n n1 n2:Nat}{h h1 h2:HS}
def bU.refl(hh:aF w B xb n h):bU w w B xb n h n h:=⟨hh,Fr.refl _ _,fun _=>.inl⟩
def bU.trans(a:bU w w1 B xb n h n1 h1)(b:bU w1 w2 B xb n1 h1 n2 h2):bU w w2 B xb n h n2 h2:=
 ⟨b.at_,a.fr.trans b.fr fun k hk=>a.sub k hk,fun k hk=>by
  rcases b.sub k hk with e|e
  ·exact a.sub k e
  ·exact .inr<|eG a.fr.size e⟩
def bU.after(a:bU w w1 B xb n h n1 h1)(f:Fr aP w1 w2):bU w w2 B xb n h n1 h1:=
 ⟨a.at_.after f,a.fr.trans f fun _ h=>h.elim,a.sub⟩
def bU.behind(f:Fr aP w w1)(a:bU w1 w2 B xb n h n1 h1):bU w w2 B xb n h n1 h1:=
 ⟨a.at_,(f.mono fun _ h=>h.elim).trans a.fr fun _=>.inl,fun k hk=>by
  rcases a.sub k hk with e|e
  ·exact .inl e
  ·exact .inr<|eG f.size e⟩
def bU.own(f:Fr (fun k=>k=xb) w w'){h':HS}(hh:aF w' B xb n1 h')(hs:∀k,h'.fA xb k->h.fA xb k):bU w w' B xb n h n1 h':=
 ⟨hh,f.mono fun _ e=>.inl<|.inl e,fun k hk=>.inl<|hs k hk⟩
def bU.kT{jv:az}{h':HS}(f:Fr (fun k=>k=xb\/h.jv.ownBlock=ae k) w w')(hh:aF w' B xb n h')(hj:h'.jv=jv)(hl:∀k,jv.ownBlock=ae k->h.jv.ownBlock=ae k\/w.heap.size<=k)(iJ:h'.pv=h.pv)(pz:h'.fv=h.fv)(iR:h'.pl=h.pl):bU w w' B xb n h n h':=by
 refine⟨hh,f.mono fun k e=>.inl ?_,fun k hk=>?_⟩
 ·rcases e with e|e
  ·exact .inl e
  ·exact .inr<|.inl e
 ·rcases hk with e|e|e|e|e
  ·exact .inl<|.inl e
  ·rw[hj]at e;rcases hl k e with a|a
   ·exact .inl<|.inr<|.inl a
   ·exact .inr a
  ·rw[iJ]at e;exact .inl<|.inr<|.inr<|.inl e
  ·rw[pz]at e;exact .inl<|.inr<|.inr<|.inr<|.inl e
  ·rw[iR]at e;exact .inl<|.inr<|.inr<|.inr<|.inr e
inductive jH(h:HS)(r:Rc):Bool->HS->Prop
 |ok (jv:az) (hb:h.br=false):jH h r true {h.mX jv (dV<|dJ r)with ps:=jV h.ps r}
 |ru (jv:az) (hb:h.br=true):jH h r false (h.mX jv<|dV<|(dJ r).take h.kp.toNat).qY
structure mD(h:HS)(r:Rc):Prop where
 small:∃m,m<1000000000000/\r.Small m
 kp:0<=h.kp/\h.kp<=16
 room:h.jb.length+16<=140737488355328
 end_:r.k=3->r.a=0\/r.a=1
def OD(hh:aF w B xb n h){r:Rc}(hm:mD h r):
 aU prog 118 #[ay<|ae ⟨xb,4,af⟩,wG r] w fun e w'=>∃ok h',e=aT (aB ok)/\jH h r ok h'/\bU w w' B xb n h n h':=by
 obtain⟨⟨m,qR,hs⟩,Ns,alu,sW⟩:=hm;cases qc:h.br
 ·have key:aU prog 118 #[ay<|ae ⟨xb,4,af⟩,wG r] w fun e w'=>e=aT (aB true)/\∃jv,agt w w' B xb n h r jv:=by
   have k0:=hs.k0;have k1:=hs.k1;refine aoH hh qc hs qR ?_ alu;rcases(show r.k=1\/r.k=2\/r.k=3\/r.k=4 by omega)with e|e|e|e
   ·exact .inl e
   ·exact .inr<|.inl e
   ·exact .inr<|.inr<|.inl ⟨e,(sW e).elim (fun a=>⟨false,by simpa using a⟩) fun a=>⟨true,by simpa using a⟩⟩
   ·exact .inr<|.inr<|.inr e
  refine key.mono fun _ w2 ⟨h1,jv,h2⟩=>⟨true,_,h1,.ok jv qc,?_⟩;exact bU.kT h2.fr h2.at_ rfl h2.Om rfl rfl rfl
 ·obtain⟨kk,vT⟩:=uA Ns.1;have key:aU prog 118 #[ay<|ae ⟨xb,4,af⟩,wG r] w fun e w'=>e=aT (aB false)/\∃jv,aa2 w w' B xb n h r kk jv:=by
   rcases Jc kk with e|e
   ·subst e;exact aoJ hh qc vT hs qR
   ·exact aoI hh qc vT (by omega) e hs qR alu
  refine key.mono fun _ w2 ⟨h1,jv,h2⟩=>⟨false,_,h1,.ru jv qc,?_⟩;have e:h.kp.toNat=kk:=by omega
  rw[e];exact bU.kT h2.fr h2.at_ rfl h2.Om rfl rfl rfl
def aoK(hh:aF w B xb n h){i:Nat}{x:PS}(hx:h.ps[i]? =ae x)(hm:mD h ⟨1,i,0,x.e+1⟩):
 aU prog 129 #[ay<|ae ⟨xb,4,af⟩,ag ah i] w fun e w'=>∃ok h',e=aT (aB ok)/\jH h ⟨1,i,0,x.e+1⟩ ok h'/\bU w w' B xb n h n h':=by
 have HC:Hid (∀W,aF W B xb n h->aU prog 118 #[ay<|ae ⟨xb,4,af⟩,gY #[ag ah 1,ag ah i,ag ah 0,.int .i64<|x.e+1]] W fun e w'=>∃ok h',e=aT (aB ok)/\jH h ⟨1,i,0,x.e+1⟩ ok h'/\bU W w' B xb n h n h'):=fun W hW=>OD hW hm;have HH:Hid (aF w B xb n h):=hh;obtain⟨⟨e0,e1,e2⟩,ef⟩:=hh.cellP hx;obtain⟨m,qR,hs⟩:=hm.small;have og:0<=x.e+1:=hs.m0;have gJ:x.e+1<=m+1:=hs.m1;have lu:(i:Int)<6:=hs.p1;have dR:(0:Int)<=(i:Int):=by omega
 have gW:=aX hh.blk;clear hh hx hm hs e1 e2;go_enter func129,ntmps129
 go_wp2_with (first
  |(go_at_call 118;refine(HC.o _<|by exact HH.o).mono ?_;rintro e w1 ⟨ok,h',rfl,ho,dI⟩
    have R1:Hid (jH h ⟨1,i,0,x.e+1⟩ ok h'/\bU w w1 B xb n h n h'):=⟨ho,dI⟩
    clear ho dI))
 go_ret;exact⟨ok,h',rfl,R1.o⟩
end
end
section
section
variable{w w':aj}{B xb n:Nat}{h:HS}
inductive Ha(h:HS)(r:Rc)(w:aj)(B xb n:Nat):Ending->aj->Prop
 |mk {ok:Bool} {h':HS} {w':aj} (ho:jH h r ok h') (hm:bU w w' B xb n h n h'):Ha h r w B xb n (aT<|aB ok) w'
def PS.next(x:PS):Int:=if x.s=0 then x.t+1 else x.t
variable{i:Nat}{x:PS}
def aoL(hh:aF w B xb n h)(hx:h.ps[i]? =ae x){q:Int}(hm:mD h ⟨2,i,q,x.next⟩):
 aU prog 125 #[ay<|ae ⟨xb,4,af⟩,ag ah i,ag ah q] w fun e w'=>∃ok h',e=aT (aB ok)/\jH h ⟨2,i,q,x.next⟩ ok h'/\bU w w' B xb n h n h':=by
 have HH:Hid (aF w B xb n h):=hh;have HM:Hid (mD h ⟨2,i,q,x.next⟩):=hm;obtain⟨⟨e0,e1,e2⟩,ef⟩:=hh.cellP hx;obtain⟨m,qR,hs⟩:=hm.small;have og:0<=x.next:=hs.m0;have gJ:x.next<=m+1:=hs.m1;have lu:(i:Int)<6:=hs.p1;have dR:(0:Int)<=(i:Int):=by omega
 have gW:=aX hh.blk;clear hh hx hm hs e0;by_cases h0:x.s=0
 ·have hn:x.next=x.t+1:=by simp[PS.next,h0]
  have HC:Hid (∀W,aF W B xb n h->aU prog 118 #[ay<|ae ⟨xb,4,af⟩,gY #[ag ah 2,ag ah i,ag ah q,.int .i64<|x.t+1]] W fun e w'=>∃ok h',e=aT (aB ok)/\jH h ⟨2,i,q,x.next⟩ ok h'/\bU W w' B xb n h n h'):=fun W hW=>by
   have:=OD hW HM.o;unfold wG at this;simp only[hn]at this⊢
   exact this
  rw[h0]at e2;rw[hn]at og gJ;clear hn h0;go_enter func125,ntmps125
  go_wp2_with (first
   |(go_at_call 118;refine(HC.o _<|by exact HH.o).mono ?_;rintro e w1 ⟨ok,h',rfl,ho,dI⟩
     have R1:Hid (jH h ⟨2,i,q,x.next⟩ ok h'/\bU w w1 B xb n h n h'):=⟨ho,dI⟩
     clear ho dI))
  go_ret;exact⟨ok,h',rfl,R1.o⟩
 ·have hn:x.next=x.t:=by simp[PS.next,h0]
  have HC:Hid (∀W,aF W B xb n h->aU prog 118 #[ay<|ae ⟨xb,4,af⟩,gY #[ag ah 2,ag ah i,ag ah q,ag ah x.t]] W fun e w'=>∃ok h',e=aT (aB ok)/\jH h ⟨2,i,q,x.next⟩ ok h'/\bU W w' B xb n h n h'):=fun W hW=>by
   have:=OD hW HM.o;unfold wG at this;simp only[hn]at this⊢
   exact this
  have hsb:(x.s==0)=false:=by simpa using h0
  clear hn h0;go_enter func125,ntmps125
  go_wp2_with (first
   |(go_at_call 118;refine(HC.o _<|by exact HH.o).mono ?_;rintro e w1 ⟨ok,h',rfl,ho,dI⟩
     have R1:Hid (jH h ⟨2,i,q,x.next⟩ ok h'/\bU w w1 B xb n h n h'):=⟨ho,dI⟩
     clear ho dI))
  go_ret;exact⟨ok,h',rfl,R1.o⟩
def aa3(hh:aF w B xb n h)(hx:h.ps[i]? =ae x)(c:Bool)(hm:mD h ⟨3,i,if c then 1 else 0,x.t⟩):
 aU prog 67 #[ay<|ae ⟨xb,4,af⟩,ag ah i,aB c] w (Ha h ⟨3,i,if c then 1 else 0,x.t⟩ w B xb n):=by
 have HH:Hid (aF w B xb n h):=hh;have HM:Hid (mD h ⟨3,i,if c then 1 else 0,x.t⟩):=hm;obtain⟨⟨e0,e1,e2⟩,ef⟩:=hh.cellP hx;obtain⟨m,qR,hs⟩:=hm.small;have lu:(i:Int)<6:=hs.p1;have dR:(0:Int)<=(i:Int):=by omega
 have gW:=aX hh.blk;clear hh hx hm hs e0;cases c
 ·have HC:Hid (∀W,aF W B xb n h->aU prog 118 #[ay<|ae ⟨xb,4,af⟩,gY #[ag ah 3,ag ah i,ag ah 0,ag ah x.t]] W fun e w'=>∃ok h',e=aT (aB ok)/\jH h ⟨3,i,0,x.t⟩ ok h'/\bU W w' B xb n h n h'):=fun W hW=>OD hW HM.o;go_enter func67,ntmps67
  go_wp2_with (first
   |(go_at_call 118;refine(HC.o _<|by exact HH.o.after<|bG _).mono ?_;rintro e w1 ⟨ok,h',rfl,ho,dI⟩
     have R1:Hid (jH h ⟨3,i,0,x.t⟩ ok h'/\bU w w1 B xb n h n h'):=⟨ho,dI.behind<|bG _⟩
     clear ho dI))
  go_ret;exact .mk R1.o.1 R1.o.2
 ·have HC:Hid (∀W,aF W B xb n h->aU prog 118 #[ay<|ae ⟨xb,4,af⟩,gY #[ag ah 3,ag ah i,ag ah 1,ag ah x.t]] W fun e w'=>∃ok h',e=aT (aB ok)/\jH h ⟨3,i,1,x.t⟩ ok h'/\bU W w' B xb n h n h'):=fun W hW=>OD hW HM.o;go_enter func67,ntmps67
  go_wp2_with (first
   |(go_at_call 118;refine(HC.o _<|by exact HH.o.after<|bG _).mono ?_;rintro e w1 ⟨ok,h',rfl,ho,dI⟩
     have R1:Hid (jH h ⟨3,i,1,x.t⟩ ok h'/\bU w w1 B xb n h n h'):=⟨ho,dI.behind<|bG _⟩
     clear ho dI))
  go_ret;exact .mk R1.o.1 R1.o.2
def HS.bars(h:HS)(x:PS)(e:Int):Int:=if h.up=false then 5 else if e=0\/e≠x.e then 7 else 0
def zK(hh:aF w B xb n h)(hi:i<6)(hx:h.ps[i]? =ae x)(ep:Int):
 aU prog 65 #[ay<|ae ⟨xb,4,af⟩,ag ah i,ag ah ep] w fun e w'=>e=aT (.int .i64<|h.bars x ep)/\w=w':=by
 obtain⟨⟨e0,e1,e2⟩,ef⟩:=hh.cellP hx;have c5:=hh.cU;have lu:(i:Int)<6:=by omega
 have dR:(0:Int)<=(i:Int):=by omega
 clear hh hx e1 e2;cases hu:h.up
 ·rw[hu]at c5;go_enter func65,ntmps65
  go_wp2
  go_ret;exact⟨by simp[HS.bars,hu],rfl⟩
 ·rw[hu]at c5;by_cases h1:ep=0
  ·subst h1;go_enter func65,ntmps65
   go_wp2
   go_ret;exact⟨by simp[HS.bars,hu],rfl⟩
  ·have b1:(ep==0)=false:=by simpa using h1
   by_cases h2:ep=x.e
   ·subst h2;go_enter func65,ntmps65
    go_wp2
    go_ret;exact⟨by simp[HS.bars,hu,h1],rfl⟩
   ·have b2:(ep==x.e)=false:=by simpa using h2
    go_enter func65,ntmps65
    go_wp2
    go_ret;exact⟨by simp[HS.bars,hu,h2],rfl⟩
def xM{o:Nat}(s:Int)(e2:w.cell? ⟨xb,o+2,af⟩=ae (ag ah s)):
 aU prog 66 #[ay<|ae ⟨xb,o,af⟩] w fun e w'=>e=aT (.bool<|decide<|s=2\/s=3)/\w=w':=by
 by_cases h1:s=2
 ·subst h1;go_enter func66,ntmps66
  go_wp2
  go_ret;exact⟨rfl,rfl⟩
 ·have b1:(s==2)=false:=by simpa using h1
  by_cases h2:s=3
  ·subst h2;go_enter func66,ntmps66
   go_wp2
   go_ret;exact⟨rfl,rfl⟩
  ·have b2:(s==3)=false:=by simpa using h2
   go_enter func66,ntmps66
   go_wp2
   go_ret;exact⟨by simp[h1,h2],rfl⟩
def HS.sD(h:HS)(p q:Int):Int:=if 0<=p/\p<h.P then(if 0<=q/\q<h.pl.length then 0 else 3)else 2
def Fb(hh:aF w B xb n h)(p q:Int):
 aU prog 124 #[ay<|ae ⟨xb,0,af⟩,ag ah p,ag ah q] w fun e w'=>e=aT (.int .i64<|h.sD p q)/\w=w':=by
 have HH:Hid (aF w B xb n h):=hh;by_cases h1:0<=p/\p<h.P
 ·have HP:Hid (decide (0<=p/\p<h.P)=true):=kF h1;by_cases h2:0<=q/\q<h.pl.length
  ·have HQ:Hid (decide (0<=q/\q<h.pl.length)=true):=kF h2;have HL:Hid (h.sD p q=0):=by show h.sD p q=0;simp[HS.sD,h1,h2]
   clear hh h1 h2;go_enter func124,ntmps124
   go_wp2_with (first
    |(go_at_call 64;refine(AY HH.o p).mono ?_;rw[HP.o];rintro e w1 ⟨rfl,rfl⟩)
    |(go_at_call 50;refine(Ov HH.o q).mono ?_;rw[HQ.o];rintro e w2 ⟨rfl,rfl⟩))
   go_ret;exact⟨by rw[HL.o]<;>rfl,rfl⟩
  ·have HQ:Hid (decide (0<=q/\q<h.pl.length)=false):=qW h2;have HL:Hid (h.sD p q=3):=by show h.sD p q=3;simp only[HS.sD,if_pos h1,if_neg h2]
   clear hh h1 h2;go_enter func124,ntmps124
   go_wp2_with (first
    |(go_at_call 64;refine(AY HH.o p).mono ?_;rw[HP.o];rintro e w1 ⟨rfl,rfl⟩)
    |(go_at_call 50;refine(Ov HH.o q).mono ?_;rw[HQ.o];rintro e w2 ⟨rfl,rfl⟩))
   go_ret;exact⟨by rw[HL.o]<;>rfl,rfl⟩
 ·have HP:Hid (decide (0<=p/\p<h.P)=false):=qW h1;have HL:Hid (h.sD p q=2):=by show h.sD p q=2;simp only[HS.sD,if_neg h1]
  clear hh h1;go_enter func124,ntmps124
  go_wp2_with (first
   |(go_at_call 64;refine(AY HH.o p).mono ?_;rw[HP.o];rintro e w1 ⟨rfl,rfl⟩))
  go_ret;exact⟨by rw[HL.o]<;>rfl,rfl⟩
end
end
section
section
variable{w w':aj}{B xb n:Nat}{h:HS}
variable{i:Nat}{x:PS}
def aoM(hh:aF w B xb n h)(hx:h.ps[i]? =ae x)(hm:mD h ⟨1,i,0,x.e+1⟩):aU prog 129 #[ay<|ae ⟨xb,4,af⟩,ag ah i] w (Ha h ⟨1,i,0,x.e+1⟩ w B xb n):=
 (aoK hh hx hm).mono fun _ _ ⟨ok,h',h1,h2,h3⟩=>by rw[h1];exact .mk h2 h3
def aoN(hh:aF w B xb n h)(hx:h.ps[i]? =ae x){q:Int}(hm:mD h ⟨2,i,q,x.next⟩):aU prog 125 #[ay<|ae ⟨xb,4,af⟩,ag ah i,ag ah q] w (Ha h ⟨2,i,q,x.next⟩ w B xb n):=
 (aoL hh hx hm).mono fun _ _ ⟨ok,h',h1,h2,h3⟩=>by rw[h1];exact .mk h2 h3
def aoO(hh:aF w B xb n h){m:Int}(hm:0<=m/\m<h.P)(hu:h.up=false):
 aU prog 74 #[ay<|ae ⟨xb,0,af⟩,ag ah m] w fun e w'=>e=aT (dK #[ag ah 0,ag ah 5])/\w=w':=by
 have HH:Hid (aF w B xb n h):=hh;have HP:Hid (decide (0<=m/\m<h.P)=true):=kF hm;have c5:=hh.cU;rw[hu]at c5;clear hh hm;go_enter func74,ntmps74
 go_wp2_with (go_at_call 64;refine(AY HH.o m).mono ?_;rw[HP.o];rintro e w1 ⟨rfl,rfl⟩)
 go_ret2
 exact⟨rfl,rfl⟩
inductive agv(h:HS)(r:Rc)(w:aj)(B xb n:Nat):Ending->aj->Prop
 |mk {ok:Bool} {h':HS} {w':aj} (ho:jH h r ok h') (hm:bU w w' B xb n h n h'):agv h r w B xb n (aT<|dK #[ag ah 0,ag ah 9]) w'
def aoP(hh:aF w B xb n h)(hm:(i:Int)<h.P)(hu:h.up=true)(hx:h.ps[i]? =ae x)(hs:x.s=1)(hy:mD h ⟨3,i,0,x.t⟩):
 aU prog 74 #[ay<|ae ⟨xb,0,af⟩,ag ah i] w (agv h ⟨3,i,0,x.t⟩ w B xb n):=by
 have HH:Hid (aF w B xb n h):=hh;have HP:Hid (decide (0<=(i:Int)/\(i:Int)<h.P)=true):=kF ⟨by omega,hm⟩;have HC:Hid (aU prog 67 #[ay<|ae ⟨xb,4,af⟩,ag ah i,aB false] w<|Ha h ⟨3,i,0,x.t⟩ w B xb n):=aa3 hh hx false hy;have c5:=hh.cU;rw[hu]at c5;obtain⟨⟨e0,e1,e2⟩,ef⟩:=hh.cellP hx;rw[hs]at e2;have lu:(i:Int)<6:=by have:=hh.hP.2;omega
 have dR:(0:Int)<=(i:Int):=by omega
 clear hh hm hx hy;go_enter func74,ntmps74
 go_wp2_with (first
  |(go_at_call 64;refine(AY HH.o i).mono ?_;rw[HP.o];rintro e w1 ⟨rfl,rfl⟩)
  |(go_at_call 67;refine HC.o.mono ?_;rintro e w2 ⟨ho,dI⟩
    rename_i ok h'
    have R2:Hid (jH h ⟨3,i,0,x.t⟩ ok h'/\bU w w2 B xb n h n h'):=⟨ho,dI⟩
    clear ho dI))
 go_ret2
 exact .mk R2.o.1 R2.o.2
def aoQ(hh:aF w B xb n h)(hm:(i:Int)<h.P)(hu:h.up=true)(hx:h.ps[i]? =ae x)(hs:x.s=2\/x.s=3):
 aU prog 74 #[ay<|ae ⟨xb,0,af⟩,ag ah i] w fun e w'=>e=aT (dK #[ag ah 0,ag ah 9])/\w=w':=by
 have HH:Hid (aF w B xb n h):=hh;have HP:Hid (decide (0<=(i:Int)/\(i:Int)<h.P)=true):=kF ⟨by omega,hm⟩;have HE:Hid (decide (x.s=2\/x.s=3)=true):=kF hs;have c5:=hh.cU;rw[hu]at c5;obtain⟨⟨e0,e1,e2⟩,ef⟩:=hh.cellP hx;have IG:(x.s==1)=false:=by simp<;>omega
 have lu:(i:Int)<6:=by have:=hh.hP.2;omega
 have dR:(0:Int)<=(i:Int):=by omega
 have nJ:Hid (w.cell? ⟨xb,6+i*10+2,af⟩=ae (ag ah x.s)):=e2;clear hh hm hx hs;go_enter func74,ntmps74
 go_wp2_with (first
  |(go_at_call 64;refine(AY HH.o i).mono ?_;rw[HP.o];rintro e w1 ⟨rfl,rfl⟩)
  |(go_at_call 66;refine(xM x.s nJ.o).mono ?_;rw[HE.o];rintro e w1 ⟨rfl,rfl⟩))
 go_ret2
 exact⟨rfl,rfl⟩
inductive aa4(h:HS)(r:Rc)(w:aj)(B xb n:Nat):Ending->aj->Prop
 |ok {h':HS} {w':aj} (ho:jH h r true h') (hm:bU w w' B xb n h n h'):aa4 h r w B xb n (aT<|dK #[ag ah r.m,ag ah 0]) w'
 |ru {h':HS} {w':aj} (ho:jH h r false h') (hm:bU w w' B xb n h n h'):aa4 h r w B xb n (aT<|dK #[ag ah 0,ag ah 5]) w'
variable{ep:Int}
def Ws{h h':HS}{r:Rc}(hx:h.ps[i]? =ae x)(hr:r.p=i)(ho:jH h r true h'):h'.ps[i]? =ae (x.bY r):=by
 cases ho with
 |ok jv hb=>
  have hi:i<h.ps.length:=(dM.1 hx).1;have e:r.p.toNat=i:=by omega
  show(jV h.ps r)[i]? =_;unfold jV;rw[e,mQ hi];simp[List.getD,hx]
def aoR(hh:aF w B xb n h)(hm:(i:Int)<h.P)(hu:h.up=true)(hx:h.ps[i]? =ae x)(hs:x.s=0)(hy:mD h ⟨1,i,0,x.e+1⟩):
 aU prog 74 #[ay<|ae ⟨xb,0,af⟩,ag ah i] w (aa4 h ⟨1,i,0,x.e+1⟩ w B xb n):=by
 have HH:Hid (aF w B xb n h):=hh;have HX:Hid (h.ps[i]? =ae x):=hx;have HP:Hid (decide (0<=(i:Int)/\(i:Int)<h.P)=true):=kF ⟨by omega,hm⟩;have HC:Hid (aU prog 129 #[ay<|ae ⟨xb,4,af⟩,ag ah i] w<|Ha h ⟨1,i,0,x.e+1⟩ w B xb n):=aoM hh hx hy;have c5:=hh.cU;rw[hu]at c5;obtain⟨⟨e0,e1,e2⟩,ef⟩:=hh.cellP hx;rw[hs]at e2;have nJ:Hid (w.cell? ⟨xb,6+i*10+2,af⟩=ae (ag ah 0)):=e2;have lu:(i:Int)<6:=by have:=hh.hP.2;omega
 have dR:(0:Int)<=(i:Int):=by omega
 clear hh hm hx hy;go_enter func74,ntmps74
 go_wp2_with (first
  |(go_at_call 64;refine(AY HH.o i).mono ?_;rw[HP.o];rintro e w1 ⟨rfl,rfl⟩)
  |(go_at_call 66;refine(xM 0 nJ.o).mono ?_;rintro e w1 ⟨rfl,rfl⟩)
  |(go_at_call 129;fail))
 refine HC.o.mono ?_;rintro e w2 ⟨ho,dI⟩;rename_i ok h';cases ok
 ·have R2:Hid (jH h ⟨1,i,0,x.e+1⟩ false h'/\bU w w2 B xb n h n h'):=⟨ho,dI⟩;clear ho dI;go_wp2_with fail
  go_ret2
  exact .ru R2.o.1 R2.o.2
 ·have R2:Hid (jH h ⟨1,i,0,x.e+1⟩ true h'/\bU w w2 B xb n h n h'):=⟨ho,dI⟩;have d0:w2.cell? ⟨xb,6+i*10,af⟩=ae (.int .i64<|x.e+1):=by
   have:=(dI.at_.cellP<|Ws HX.o rfl ho).1.1;simpa[PS.bY]using this
  clear ho dI e0;go_wp2_with fail
  go_ret2
  exact .ok R2.o.1 R2.o.2
def agw(hh:aF w B xb n h)(hm:(i:Int)<h.P)(hx:h.ps[i]? =ae x)(hb:h.bars x ep≠0)(c:Bool):
 aU prog 28 #[ay<|ae ⟨xb,0,af⟩,ag ah i,ag ah ep,aB c] w fun e w'=>e=aT (.int .i64<|h.bars x ep)/\w=w':=by
 have HH:Hid (aF w B xb n h):=hh;have HX:Hid (h.ps[i]? =ae x):=hx;have HP:Hid (decide (0<=(i:Int)/\(i:Int)<h.P)=true):=kF ⟨by omega,hm⟩;have jK:i<6:=by have:=hh.hP.2;omega
 obtain⟨b,EI⟩:∃b,h.bars x ep=b:=⟨_,rfl⟩;have HB:Hid (h.bars x ep=b):=EI;rw[EI]at hb⊢
 have Ag:(b==0)=false:=by simpa using hb
 clear hh hm hx EI;go_enter func28,ntmps28
 go_wp2_with (first
  |(go_at_call 64;refine(AY HH.o i).mono ?_;rw[HP.o];rintro e w1 ⟨rfl,rfl⟩)
  |(go_at_call 65;refine(zK HH.o jK HX.o ep).mono ?_;rw[HB.o];rintro e w1 ⟨rfl,rfl⟩))
 go_ret;exact⟨rfl,rfl⟩
def aoS(hh:aF w B xb n h)(hm:(i:Int)<h.P)(hx:h.ps[i]? =ae x)(hb:h.bars x ep=0)(hs:x.s=0)(c:Bool):
 aU prog 28 #[ay<|ae ⟨xb,0,af⟩,ag ah i,ag ah ep,aB c] w fun e w'=>e=aT (ag ah 8)/\w=w':=by
 have HH:Hid (aF w B xb n h):=hh;have HX:Hid (h.ps[i]? =ae x):=hx;have HP:Hid (decide (0<=(i:Int)/\(i:Int)<h.P)=true):=kF ⟨by omega,hm⟩;have jK:i<6:=by have:=hh.hP.2;omega
 have HB:Hid (h.bars x ep=0):=hb;obtain⟨⟨e0,e1,e2⟩,ef⟩:=hh.cellP hx;rw[hs]at e2;have lu:(i:Int)<6:=by omega
 have dR:(0:Int)<=(i:Int):=by omega
 clear hh hm hx hb;go_enter func28,ntmps28
 go_wp2_with (first
  |(go_at_call 64;refine(AY HH.o i).mono ?_;rw[HP.o];rintro e w1 ⟨rfl,rfl⟩)
  |(go_at_call 65;refine(zK HH.o jK HX.o ep).mono ?_;rw[HB.o];rintro e w1 ⟨rfl,rfl⟩))
 go_ret;exact⟨rfl,rfl⟩
def aoT(hh:aF w B xb n h)(hm:(i:Int)<h.P)(hx:h.ps[i]? =ae x)(hb:h.bars x ep=0)(hs:x.s=2\/x.s=3)(c:Bool):
 aU prog 28 #[ay<|ae ⟨xb,0,af⟩,ag ah i,ag ah ep,aB c] w fun e w'=>e=aT (ag ah 9)/\w=w':=by
 have HH:Hid (aF w B xb n h):=hh;have HX:Hid (h.ps[i]? =ae x):=hx;have HP:Hid (decide (0<=(i:Int)/\(i:Int)<h.P)=true):=kF ⟨by omega,hm⟩;have jK:i<6:=by have:=hh.hP.2;omega
 have HB:Hid (h.bars x ep=0):=hb;have HE:Hid (decide (x.s=2\/x.s=3)=true):=kF hs;obtain⟨⟨e0,e1,e2⟩,ef⟩:=hh.cellP hx;have IG:(x.s==0)=false:=by simp<;>omega
 have nJ:Hid (w.cell? ⟨xb,6+i*10+2,af⟩=ae (ag ah x.s)):=e2;have lu:(i:Int)<6:=by omega
 have dR:(0:Int)<=(i:Int):=by omega
 clear hh hm hx hb hs;go_enter func28,ntmps28
 go_wp2_with (first
  |(go_at_call 64;refine(AY HH.o i).mono ?_;rw[HP.o];rintro e w1 ⟨rfl,rfl⟩)
  |(go_at_call 65;refine(zK HH.o jK HX.o ep).mono ?_;rw[HB.o];rintro e w1 ⟨rfl,rfl⟩)
  |(go_at_call 66;refine(xM x.s nJ.o).mono ?_;rw[HE.o];rintro e w1 ⟨rfl,rfl⟩))
 go_ret;exact⟨rfl,rfl⟩
inductive aa5(h:HS)(r:Rc)(w:aj)(B xb n:Nat):Ending->aj->Prop
 |ok {h':HS} {w':aj} (ho:jH h r true h') (hm:bU w w' B xb n h n h'):aa5 h r w B xb n (aT<|ag ah 0) w'
 |ru {h':HS} {w':aj} (ho:jH h r false h') (hm:bU w w' B xb n h n h'):aa5 h r w B xb n (aT<|ag ah 5) w'
def agx(hh:aF w B xb n h)(hm:(i:Int)<h.P)(hx:h.ps[i]? =ae x)(hb:h.bars x ep=0)(hs:x.s=1)(c:Bool)(hy:mD h ⟨3,i,if c then 1 else 0,x.t⟩):
 aU prog 28 #[ay<|ae ⟨xb,0,af⟩,ag ah i,ag ah ep,aB c] w (aa5 h ⟨3,i,if c then 1 else 0,x.t⟩ w B xb n):=by
 have HH:Hid (aF w B xb n h):=hh;have HX:Hid (h.ps[i]? =ae x):=hx;have HP:Hid (decide (0<=(i:Int)/\(i:Int)<h.P)=true):=kF ⟨by omega,hm⟩;have jK:i<6:=by have:=hh.hP.2;omega
 have HB:Hid (h.bars x ep=0):=hb;obtain⟨r,hr⟩:∃r:Rc,(⟨3,i,if c then 1 else 0,x.t⟩:Rc)=r:=⟨_,rfl⟩;have HC:Hid (aU prog 67 #[ay<|ae ⟨xb,4,af⟩,ag ah i,aB c] w<|Ha h r w B xb n):=by have:=aa3 hh hx c hy;rw[hr]at this;exact this
 rw[hr];obtain⟨⟨e0,e1,e2⟩,ef⟩:=hh.cellP hx;rw[hs]at e2;have nJ:Hid (w.cell? ⟨xb,6+i*10+2,af⟩=ae (ag ah 1)):=e2;have lu:(i:Int)<6:=by omega
 have dR:(0:Int)<=(i:Int):=by omega
 clear hh hm hx hb hy hr;go_enter func28,ntmps28
 go_wp2_with (first
  |(go_at_call 64;refine(AY HH.o i).mono ?_;rw[HP.o];rintro e w1 ⟨rfl,rfl⟩)
  |(go_at_call 65;refine(zK HH.o jK HX.o ep).mono ?_;rw[HB.o];rintro e w1 ⟨rfl,rfl⟩)
  |(go_at_call 66;refine(xM 1 nJ.o).mono ?_;rintro e w1 ⟨rfl,rfl⟩)
  |(go_at_call 67;fail))
 refine HC.o.mono ?_;rintro e w2 ⟨ho,dI⟩;rename_i ok h';cases ok
 ·have R2:Hid (jH h r false h'/\bU w w2 B xb n h n h'):=⟨ho,dI⟩;clear ho dI;go_wp2_with fail
  go_ret;exact .ru R2.o.1 R2.o.2
 ·have R2:Hid (jH h r true h'/\bU w w2 B xb n h n h'):=⟨ho,dI⟩;clear ho dI;go_wp2_with fail
  go_ret;exact .ok R2.o.1 R2.o.2
end
end
section
def HS.gZ(h:HS)(k:Nat)(p:PL):HS:={h with pl:=h.pl.set k p}
section
variable{w w':aj}{B xb n:Nat}{h:HS}
def agy:∀(l:List PL) (k:Nat) (p p':PL),l[k]? =ae p->p'.lb=p.lb->p'.out=p.out->pI (l.set k p')=pI l
 |[],k,p,p',h,_,_=>by simp at h
 |x::r,0,p,p',h,h1,h2=>by
  simp only[xE,gu]at h;subst h;simp[pI,PL.cs,h1,h2]
 |x::r,k+1,p,p',h,h1,h2=>by
  simp only[zB]at h;have:=agy r k p p' h h1 h2;simp only[pI,List.set_cons_succ,oO]at this⊢
  rw[this]
def aF.mono(hh:aF w B xb n h){m:Nat}(hm:n<=m):aF w B xb m h:=
 ⟨hh.blk,hh.kT,hh.jU,hh.mV,fun p hp=>(hh.ed p hp).mono hm,hh.hx,hh.hP,hh.hQ,hh.h6⟩
def aF.Wu(hh:aF w B xb n h)(ha:iP h.pl){k:Nat}{p:PL}(hk:h.pl[k]? =ae p){v':az}{s':aH}{m:Nat}(hm:n<=m)(hl:Left w w' B p.lb p.bm p.v v' m s'):
 bU w w' B xb n h m (h.gZ k ⟨p.lb,p.bm,v',s',p.out⟩)/\iP (h.gZ k ⟨p.lb,p.bm,v',s',p.out⟩).pl:=by
 have nZ:=(dM.1 hk).1;have qU:=gz hk;have BZ:=hh.ed p qU;have fr:Fr (BP p.lb p.bm p.v) w w':=hl.fr.mono fun _ e=>.inl e;have row:∀{ty:dw} {wd:Nat} {v:az} {j:Nat} {xs:List az},w.ownsRow B ty wd v j xs->ty≠163->ty≠1000000->ty≠55->w'.ownsRow B ty wd v j xs:=fun ho h1 h2 h3=>fr.ownsRow ho (fun q hq e=>by
  have t0:=iK ho hq;rcases BZ.tags e with t1|t1|t1<;>rw[t0]at t1
  ·exact h1 t1
  ·exact h2 t1
  ·exact h3 t1)
 have mem:∀q,q∈(h.pl.set k ⟨p.lb,p.bm,v',s',p.out⟩)->q=⟨p.lb,p.bm,v',s',p.out⟩\/∃j,j≠k/\h.pl[j]? =ae q:=fun q hq=>by
  obtain⟨j,hj⟩:=VN.1 hq;by_cases e:j=k
  ·subst e;rw[mQ nZ]at hj;exact .inl (qX hj).symm
  ·rw[uZ fun e2=>e e2.symm]at hj;exact .inr ⟨j,e,hj⟩
 have aa6:∀x,BP p.lb p.bm v' x->BP p.lb p.bm p.v x\/w.heap.size<=x:=fun x hx=>by
  rcases hx with e|e|e
  ·exact .inl<|.inl e
  ·exact .inl<|.inr<|.inl e
  ·rcases hl.Om x e with a|a
   ·exact .inl<|.inr<|.inr a
   ·exact .inr a
 have hold:∀q∈h.pl,∀x,BP q.lb q.bm q.v x->x<w.heap.size:=fun q hq x hx=>(hh.qK<|.inr<|.inr<|.inr<|.inr ⟨q,hq,hx⟩).1;refine⟨⟨⟨(fr.block xb (aX hh.blk)<|hh.Le qU).trans hh.blk,row hh.kT (by decide) (by decide)<|by decide,?_,row hh.mV (by decide) (by decide)<|by decide,?_,hh.hx,hh.hP,?_,hh.h6⟩,?_,?_⟩,?_⟩
 ·show w'.ownsRow B 98 2 h.pv (h.pl.set k _).length (pI<|h.pl.set k _);rw[zF,agy h.pl k p ⟨p.lb,p.bm,v',s',p.out⟩ hk rfl rfl];exact row hh.jU (by decide) (by decide)<|by decide
 ·intro q hq;rcases mem q hq with rfl|⟨j,hj,Nu⟩
  ·exact hl.log
  ·exact((hh.ed q<|gz Nu).stay fr fun x e hf=>ha k j p q (fun e2=>hj e2.symm) hk Nu x e hf).mono hm
 ·show h.Q=((h.pl.set k _).length:Int)/\_;rw[zF];exact hh.hQ
 ·exact fr.mono fun x e=>.inl<|.inr<|.inr<|.inr<|.inr ⟨p,qU,e⟩
 ·intro x hx;rcases hx with e|e|e|e|⟨q,hq,hf⟩
  ·exact .inl<|.inl e
  ·exact .inl<|.inr<|.inl e
  ·exact .inl<|.inr<|.inr<|.inl e
  ·exact .inl<|.inr<|.inr<|.inr<|.inl e
  ·rcases mem q hq with rfl|⟨j,hj,Nu⟩
   ·rcases aa6 x hf with a|a
    ·exact .inl<|.inr<|.inr<|.inr<|.inr ⟨p,qU,a⟩
    ·exact .inr a
   ·exact .inl<|.inr<|.inr<|.inr<|.inr ⟨q,gz Nu,hf⟩
 ·intro i j a b zi hi hj x h1 h2;have pick:∀{i:Nat} {a:PL},(h.pl.set k ⟨p.lb,p.bm,v',s',p.out⟩)[i]? =ae a->(i=k/\a=⟨p.lb,p.bm,v',s',p.out⟩)\/(i≠k/\h.pl[i]? =ae a):=fun{i a} hi=>by
   by_cases e:i=k
   ·subst e;rw[mQ nZ]at hi;exact .inl ⟨rfl,(qX hi).symm⟩
   ·rw[uZ fun e2=>e e2.symm]at hi;exact .inr ⟨e,hi⟩
  rcases pick hi with⟨e1,rfl⟩|⟨e1,mP⟩<;>rcases pick hj with⟨e2,rfl⟩|⟨e2,Dk⟩
  ·omega
  ·rcases aa6 x h1 with c|c
   ·exact ha k j p b (fun e=>e2 e.symm) hk Dk x c h2
   ·have:=hold b (gz Dk) x h2;omega
  ·rcases aa6 x h2 with c|c
   ·exact ha i k a p e1 mP hk x h1 c
   ·have:=hold a (gz mP) x h1;omega
  ·exact ha i j a b zi mP Dk x h1 h2
end
end
section
section
variable{w w':aj}{B xb n:Nat}{h:HS}
variable{q i:Nat}{x:PS}{ep:Int}
def He{p:Nat}(hp:(p:Int)<h.P)(hq:q<h.pl.length):h.sD p q=0:=by
 simp only[HS.sD];rw[if_pos ⟨by omega,hp⟩,if_pos ⟨by omega,by omega⟩]
def agz(hh:aF w B xb n h)(hm:(i:Int)<h.P)(hq:q<h.pl.length)(hx:h.ps[i]? =ae x)(hb:h.bars x ep≠0):
 aU prog 63 #[ay<|ae ⟨xb,0,af⟩,ag ah i,ag ah ep,ag ah q] w fun e w'=>e=aT (.int .i64<|h.bars x ep)/\w=w':=by
 have HH:Hid (aF w B xb n h):=hh;have HX:Hid (h.ps[i]? =ae x):=hx;have HL:Hid (h.sD i q=0):=He hm hq;have jK:i<6:=by have:=hh.hP.2;omega
 obtain⟨b,EI⟩:∃b,h.bars x ep=b:=⟨_,rfl⟩;have HB:Hid (h.bars x ep=b):=EI;rw[EI]at hb⊢
 have Ag:(b==0)=false:=by simpa using hb
 clear hh hm hx EI hq;go_enter func63,ntmps63
 go_wp2_with (first
  |(go_at_call 124;refine(Fb HH.o i q).mono ?_;rw[HL.o];rintro e w1 ⟨rfl,rfl⟩)
  |(go_at_call 65;refine(zK HH.o jK HX.o ep).mono ?_;rw[HB.o];rintro e w1 ⟨rfl,rfl⟩))
 go_ret;exact⟨rfl,rfl⟩
def aoU(hh:aF w B xb n h)(hm:(i:Int)<h.P)(hq:q<h.pl.length)(hx:h.ps[i]? =ae x)(hb:h.bars x ep=0)(hs:x.s=2\/x.s=3):
 aU prog 63 #[ay<|ae ⟨xb,0,af⟩,ag ah i,ag ah ep,ag ah q] w fun e w'=>e=aT (ag ah 9)/\Fr aP w w':=by
 have HH:Hid (aF w B xb n h):=hh;have HX:Hid (h.ps[i]? =ae x):=hx;have HL:Hid (h.sD i q=0):=He hm hq;have jK:i<6:=by have:=hh.hP.2;omega
 have HB:Hid (h.bars x ep=0):=hb;have HE:Hid (decide (x.s=2\/x.s=3)=true):=kF hs;obtain⟨⟨e0,e1,e2⟩,ef⟩:=hh.cellP hx;have nJ:Hid (w.cell? ⟨xb,6+i*10+2,af⟩=ae (ag ah x.s)):=e2;obtain⟨p,hp⟩:∃p,h.pl[q]? =ae p:=⟨_,eY hq⟩;obtain⟨g,cap,iJ,hg,xn,c0,c1⟩:=hh.place hp;have cV:=hh.cV;rw[iJ]at cV;have lu:(i:Int)<6:=by omega
 have dR:(0:Int)<=(i:Int):=by omega
 have rV:(0:Int)<=(q:Int):=by omega
 have vV:(q:Int)<h.pl.length:=by omega
 clear hh hm hx hb hs hp iJ;go_enter func63,ntmps63
 go_wp2_with (first
  |(go_at_call 124;refine(Fb HH.o i q).mono ?_;rw[HL.o];rintro e w1 ⟨rfl,rfl⟩)
  |(go_at_call 65;refine(zK HH.o jK HX.o ep).mono ?_;rw[HB.o];rintro e w1 ⟨rfl,rfl⟩))
 go_region
 go_wp2_with (first
  |(go_at_call 66;refine(xM x.s<|by exact nJ.o).mono ?_;rw[HE.o];rintro e w1 ⟨rfl,rfl⟩))
 go_ret;exact⟨rfl,(Fr.refl _ _).drew⟩
def aoV(hh:aF w B xb n h)(hm:(i:Int)<h.P){p:PL}(hp:h.pl[q]? =ae p)(ho:p.out=true)(hx:h.ps[i]? =ae x)(hb:h.bars x ep=0)(hs:x.s=0\/x.s=1):
 aU prog 63 #[ay<|ae ⟨xb,0,af⟩,ag ah i,ag ah ep,ag ah q] w fun e w'=>e=aT (ag ah 10)/\Fr aP w w':=by
 have HH:Hid (aF w B xb n h):=hh;have HX:Hid (h.ps[i]? =ae x):=hx;have hq:=(dM.1 hp).1;have HL:Hid (h.sD i q=0):=He hm hq;have jK:i<6:=by have:=hh.hP.2;omega
 have HB:Hid (h.bars x ep=0):=hb;have HE:Hid (decide (x.s=2\/x.s=3)=false):=qW (by omega);obtain⟨⟨e0,e1,e2⟩,ef⟩:=hh.cellP hx;have nJ:Hid (w.cell? ⟨xb,6+i*10+2,af⟩=ae (ag ah x.s)):=e2;obtain⟨g,cap,iJ,hg,xn,c0,c1⟩:=hh.place hp;rw[ho]at c1;have cV:=hh.cV;rw[iJ]at cV;have lu:(i:Int)<6:=by omega
 have dR:(0:Int)<=(i:Int):=by omega
 have rV:(0:Int)<=(q:Int):=by omega
 have vV:(q:Int)<h.pl.length:=by omega
 clear hh hm hx hb hs hp iJ ho;go_enter func63,ntmps63
 go_wp2_with (first
  |(go_at_call 124;refine(Fb HH.o i q).mono ?_;rw[HL.o];rintro e w1 ⟨rfl,rfl⟩)
  |(go_at_call 65;refine(zK HH.o jK HX.o ep).mono ?_;rw[HB.o];rintro e w1 ⟨rfl,rfl⟩))
 go_region
 go_wp2_with (first
  |(go_at_call 66;refine(xM x.s<|by exact nJ.o).mono ?_;rw[HE.o];rintro e w1 ⟨rfl,rfl⟩))
 go_ret;exact⟨rfl,(Fr.refl _ _).drew⟩
def aF.quiet(hh:aF w B xb n h)(hx:h.ps[i]? =ae x):bU w (w.setCell ⟨xb,6+i*10+7,af⟩<|ag ah 0) B xb n h n (h.dQ i {x with si:=0}):=by
 have:=hh.setCell {x with si:=0} (j:=7) (v:=ag ah 0) hx (by omega) rfl;exact bU.own this.2 this.1 fun k hk=>hk
inductive agA(w:aj)(B xb n:Nat)(h1:HS)(i q:Nat)(x:PS)(p:PL):Ending->aj->Prop
 |mk {v':az} {w':aj} (hm:bU w w' B xb n h1 (n+1) ((h1.gZ q ⟨p.lb,p.bm,v',p.s.opened i x.t,p.out⟩).dQ i {x with si:=0})) (ha:iP (h1.gZ q ⟨p.lb,p.bm,v',p.s.opened i x.t,p.out⟩).pl):agA w B xb n h1 i q x p (aT<|ag ah 0) w'
def aoW(hh:aF w B xb n h)(ha:iP h.pl)(hm:(i:Int)<h.P){p:PL}(hp:h.pl[q]? =ae p)(ho:p.out=false)(hx:h.ps[i]? =ae x)(hb:h.bars x ep=0)(hs:x.s=0\/x.s=1)(ht:x.aZ.getD q 0≠0)(hn:n<dU):
 aU prog 63 #[ay<|ae ⟨xb,0,af⟩,ag ah i,ag ah ep,ag ah q] w (agA w B xb n h i q x p):=by
 have HH:Hid (aF w B xb n h):=hh;have HX:Hid (h.ps[i]? =ae x):=hx;have HA:Hid (iP h.pl):=ha;have zJ:Hid (h.pl[q]? =ae p):=hp;have hq:=(dM.1 hp).1;have mZ:q<4:=by have:=hh.hQ;omega
 have HL:Hid (h.sD i q=0):=He hm hq;have jK:i<6:=by have:=hh.hP.2;omega
 have HB:Hid (h.bars x ep=0):=hb;have HE:Hid (decide (x.s=2\/x.s=3)=false):=qW (by omega);have Wv:Hid (dY w B p.lb p.bm p.v n p.s):=hh.ed p<|gz hp;have fF:Hid (n<dU):=hn;have HI:Hid (eP (i:Int)):=Ll (by omega) (by omega);obtain⟨⟨e0,e1,e2⟩,ef⟩:=hh.cellP hx;have nJ:Hid (w.cell? ⟨xb,6+i*10+2,af⟩=ae (ag ah x.s)):=e2;have e3:w.cell? ⟨xb,6+i*10+3+q,af⟩=ae (.int .i64<|x.aZ.getD q 0):=by rw[zG];exact hh.iY hx (3+q) _<|Lj _ mZ
 obtain⟨tv,Ri⟩:∃tv,x.aZ.getD q 0=tv:=⟨_,rfl⟩;rw[Ri]at e3 ht;have Qs:(tv==0)=false:=by simpa using ht
 obtain⟨g,cap,iJ,hg,xn,c0,c1⟩:=hh.place hp;rw[ho]at c1;have cV:=hh.cV;rw[iJ]at cV;have lu:(i:Int)<6:=by omega
 have dR:(0:Int)<=(i:Int):=by omega
 have rV:(0:Int)<=(q:Int):=by omega
 have vV:(q:Int)<h.pl.length:=by omega
 have aa7:(q:Int)<4:=by omega
 have FD:Hid (Fr aP w w.drew.drew):=((Fr.refl _ _).drew).drew;have Rj:Hid (dY w.drew.drew B p.lb p.bm p.v n p.s):=FD.o.logAt Wv.o id id fun _ _=>id;have qU:=gz hp;have Rk:Hid (¬(g=p.lb\/g=p.bm\/p.v.ownBlock=ae g)):=fun e=>by
  have t0:=iK hh.jU (k:=g) (by rw[iJ];rfl);rcases(hh.ed p qU).tags e with t1|t1|t1<;>rw[t0]at t1<;>cases t1
 have Rl:Hid (¬(xb=p.lb\/xb=p.bm\/p.v.ownBlock=ae xb)):=hh.Le qU;have gW:=aX hh.blk;clear hh hm hx hb hs hp iJ ho ha hn ht Ri qU;go_enter func63,ntmps63
 go_wp2_with (first
  |(go_at_call 124;refine(Fb HH.o i q).mono ?_;rw[HL.o];rintro e w1 ⟨rfl,rfl⟩)
  |(go_at_call 65;refine(zK HH.o jK HX.o ep).mono ?_;rw[HB.o];rintro e w1 ⟨rfl,rfl⟩))
 go_region
 go_wp2_with (first
  |(go_at_call 66;refine(xM x.s<|by exact nJ.o).mono ?_;rw[HE.o];rintro e w1 ⟨rfl,rfl⟩))
 go_region_held3 (fun w'=>w'.cell? ⟨g,q*2,af⟩=ae (ay<|ae ⟨p.lb,0,af⟩)/\w'.cell? ⟨xb,6+i*10+1,af⟩=ae (ag ah x.t))
  (first|with_reducible exact C2|exact⟨c0,e1⟩|go_keep)
  ((go_at_call 126;refine(afR (w:=w.drew.drew) Rj.o i x.t HI.o fF.o).mono ?_;rintro e w3 ⟨rfl,hl⟩
    have dI:=(HH.o.after FD.o).Wu HA.o zJ.o (by omega) hl
    have L3:Hid (bU w w3 B xb n h (n+1) (h.gZ q ⟨p.lb,p.bm,p.v,p.s.opened i x.t,p.out⟩)/\iP (h.gZ q ⟨p.lb,p.bm,p.v,p.s.opened i x.t,p.out⟩).pl):=⟨dI.1.behind FD.o,dI.2⟩
    have C2:w3.cell? ⟨g,q*2,af⟩=ae (ay<|ae ⟨p.lb,0,af⟩)/\w3.cell? ⟨xb,6+i*10+1,af⟩=ae (ag ah x.t):=⟨(hl.fr.cell (p:=⟨g,q*2,af⟩) hg Rk.o).trans c0,(hl.fr.cell (p:=⟨xb,6+i*10+1,af⟩) gW Rl.o).trans e1⟩
    have d7:w3.cell? ⟨xb,6+i*10+7,af⟩=ae (ag ah x.si):=L3.o.1.at_.iY (p:=x) HX.o 7 _ rfl
    have df:∀o,w3.frozen? ⟨xb,o,af⟩=false:=jS L3.o.1.at_.blk
    clear hl dI))
 go_wp2_with fail
 go_ret;have Kv:(h.gZ q ⟨p.lb,p.bm,p.v,p.s.opened i x.t,p.out⟩).ps[i]? =ae x:=HX.o;exact .mk (v':=p.v) (L3.o.1.trans<|L3.o.1.at_.quiet Kv) L3.o.2
end
end
section
section
variable{w w':aj}{B xb n:Nat}{h:HS}
inductive aa8(w:aj)(B xb n:Nat)(h:HS)(i q:Nat)(x:PS)(p:PL):Ending->aj->Prop
 |ok {h1:HS} {v':az} {w':aj} (ho:jH h ⟨2,i,q,x.next⟩ true h1) (hm:bU w w' B xb n h (n+1) ((h1.gZ q ⟨p.lb,p.bm,v',p.s.opened i x.next,p.out⟩).dQ i {x.bY ⟨2,i,q,x.next⟩with si:=0})) (ha:iP (h1.gZ q ⟨p.lb,p.bm,v',p.s.opened i x.next,p.out⟩).pl):aa8 w B xb n h i q x p (aT<|ag ah 0) w'
 |ru {h':HS} {w':aj} (ho:jH h ⟨2,i,q,x.next⟩ false h') (hm:bU w w' B xb n h n h'):aa8 w B xb n h i q x p (aT<|ag ah 5) w'
def agB(x:PS)(i q:Int)(t:Int):(x.bY ⟨2,i,q,t⟩).t=t/\(x.bY ⟨2,i,q,t⟩).si=x.si/\(x.bY ⟨2,i,q,t⟩).s=1:=by
 have e:x.bY ⟨2,i,q,t⟩=({x with s:=1,t:=t}:PS).tie q 1:=by simp[PS.bY]
 obtain⟨r1,r2,r3,r4,r5,r6⟩:=G6 ({x with s:=1,t:=t}:PS) q 1;rw[e];exact⟨r2,r4,r3⟩
def jH.aoX{r:Rc}{h1:HS}(ho:jH h r true h1):h1.pl=h.pl/\h1.pv=h.pv/\h1.Q=h.Q/\h1.P=h.P:=by
 cases ho;exact⟨rfl,rfl,rfl,rfl⟩
def aoY(hh:aF w B xb n h)(ha:iP h.pl){i q:Nat}(hm:(i:Int)<h.P){p:PL}(hp:h.pl[q]? =ae p)(ho:p.out=false){x:PS}(hx:h.ps[i]? =ae x){ep:Int}(hb:h.bars x ep=0)(hs:x.s=0\/x.s=1)(ht:x.aZ.getD q 0=0)(hn:n<dU)(hy:mD h ⟨2,i,q,x.next⟩):
 aU prog 63 #[ay<|ae ⟨xb,0,af⟩,ag ah i,ag ah ep,ag ah q] w (aa8 w B xb n h i q x p):=by
 have HH:Hid (aF w B xb n h):=hh;have HX:Hid (h.ps[i]? =ae x):=hx;have HA:Hid (iP h.pl):=ha;have zJ:Hid (h.pl[q]? =ae p):=hp;have hq:=(dM.1 hp).1;have mZ:q<4:=by have:=hh.hQ;omega
 have HL:Hid (h.sD i q=0):=He hm hq;have jK:i<6:=by have:=hh.hP.2;omega
 have HB:Hid (h.bars x ep=0):=hb;have HE:Hid (decide (x.s=2\/x.s=3)=false):=qW (by omega);have fF:Hid (n<dU):=hn;have HI:Hid (eP (i:Int)):=Ll (by omega) (by omega);have HC:Hid (aU prog 125 #[ay<|ae ⟨xb,4,af⟩,ag ah i,ag ah q] w.drew<|Ha h ⟨2,i,q,x.next⟩ w.drew B xb n):=aoN (hh.after<|(Fr.refl _ _).drew) hx hy;obtain⟨⟨e0,e1,e2⟩,ef⟩:=hh.cellP hx;have nJ:Hid (w.cell? ⟨xb,6+i*10+2,af⟩=ae (ag ah x.s)):=e2;have e3:w.cell? ⟨xb,6+i*10+3+q,af⟩=ae (.int .i64<|x.aZ.getD q 0):=by rw[zG];exact hh.iY hx (3+q) _<|Lj _ mZ
 rw[ht]at e3;obtain⟨g,cap,iJ,hg,xn,c0,c1⟩:=hh.place hp;rw[ho]at c1;have cV:=hh.cV;rw[iJ]at cV;have OE:Hid (h.pv=aJ (ae ⟨g,0,af⟩) h.pl.length cap):=iJ;have lu:(i:Int)<6:=by omega
 have dR:(0:Int)<=(i:Int):=by omega
 have rV:(0:Int)<=(q:Int):=by omega
 have vV:(q:Int)<h.pl.length:=by omega
 have aa7:(q:Int)<4:=by omega
 clear hh hm hx hb hs hp iJ ho ha hn ht hy;go_enter func63,ntmps63
 go_wp2_with (first
  |(go_at_call 124;refine(Fb HH.o i q).mono ?_;rw[HL.o];rintro e w1 ⟨rfl,rfl⟩)
  |(go_at_call 65;refine(zK HH.o jK HX.o ep).mono ?_;rw[HB.o];rintro e w1 ⟨rfl,rfl⟩))
 go_region
 go_wp2_with (first
  |(go_at_call 66;refine(xM x.s<|by exact nJ.o).mono ?_;rw[HE.o];rintro e w1 ⟨rfl,rfl⟩)
  |(go_at_call 125;fail))
 refine HC.o.mono ?_;rintro e w2 ⟨ho,dI⟩;rename_i ok h1;cases ok
 ·have R2:Hid (jH h ⟨2,i,q,x.next⟩ false h1/\bU w w2 B xb n h n h1):=⟨ho,dI.behind<|(Fr.refl _ _).drew⟩;clear ho dI;go_wp2_with fail
  go_ret;exact .ru R2.o.1 R2.o.2
 ·have HO:Hid (jH h ⟨2,i,q,x.next⟩ true h1):=ho;have R2:Hid (bU w w2 B xb n h n h1):=dI.behind<|(Fr.refl _ _).drew;have gJ:=Ws HX.o rfl ho;obtain⟨aa9,aec,_,_⟩:=ho.aoX;obtain⟨dt,dsi,_⟩:=agB x i q x.next;obtain⟨x1,Kw⟩:∃x1,x.bY ⟨2,i,q,x.next⟩=x1:=⟨_,rfl⟩;rw[Kw]at gJ dt dsi;have Wy:Hid (x.bY ⟨2,i,q,x.next⟩=x1):=Kw;have yK:Hid (h1.ps[i]? =ae x1):=gJ;have aba:Hid (h1.pl[q]? =ae p):=by show h1.pl[q]? =ae p;rw[aa9];exact zJ.o
  have HA1:Hid (iP h1.pl):=by show iP h1.pl;rw[aa9];exact HA.o
  have k1:w2.cell? ⟨xb,6+i*10+1,af⟩=ae (ag ah x.next):=by have:=(dI.at_.cellP gJ).1.2.1;rw[dt]at this;exact this
  obtain⟨g',ad4,abb,lV,_,Zk,_⟩:=dI.at_.place aba.o;rw[aec,OE.o]at abb;simp only[aD6,gu,Addr.mk.injEq,and_true]at abb;obtain⟨rfl,_,_⟩:=abb;have qU:p∈h1.pl:=gz aba.o;have Rk:Hid (¬(g=p.lb\/g=p.bm\/p.v.ownBlock=ae g)):=fun e=>by
   have t0:=iK dI.at_.jU (k:=g) (by rw[aec,OE.o];rfl);rcases(dI.at_.ed p qU).tags e with t1|t1|t1<;>rw[t0]at t1<;>cases t1
  have Rl:Hid (¬(xb=p.lb\/xb=p.bm\/p.v.ownBlock=ae xb)):=dI.at_.Le qU;have FD:Hid (Fr aP w2 w2.drew):=(Fr.refl _ _).drew;have Rj:Hid (dY w2.drew B p.lb p.bm p.v n p.s):=FD.o.logAt (dI.at_.ed p qU) id id fun _ _=>id;have gW:=aX dI.at_.blk;have HH1:Hid (aF w2.drew B xb n h1):=dI.at_.after FD.o;clear ho dI gJ aa9 aec dt dsi Kw qU c0 c1 cV e0 e1 e2 e3 ef hg;go_wp2_with fail
  go_region_held3 (fun w'=>w'.cell? ⟨g,q*2,af⟩=ae (ay<|ae ⟨p.lb,0,af⟩)/\w'.cell? ⟨xb,6+i*10+1,af⟩=ae (ag ah x.next))
   (first|with_reducible exact C2|exact⟨Zk,k1⟩|go_keep)
   ((go_at_call 126;refine(afR (w:=w2.drew) Rj.o i x.next HI.o fF.o).mono ?_;rintro e w3 ⟨rfl,hl⟩
     have dI:=HH1.o.Wu HA1.o aba.o (by omega) hl
     have L3:Hid (bU w w3 B xb n h (n+1) (h1.gZ q ⟨p.lb,p.bm,p.v,p.s.opened i x.next,p.out⟩)/\iP (h1.gZ q ⟨p.lb,p.bm,p.v,p.s.opened i x.next,p.out⟩).pl):=⟨R2.o.trans<|dI.1.behind FD.o,dI.2⟩
     have C2:w3.cell? ⟨g,q*2,af⟩=ae (ay<|ae ⟨p.lb,0,af⟩)/\w3.cell? ⟨xb,6+i*10+1,af⟩=ae (ag ah x.next):=⟨(hl.fr.cell (p:=⟨g,q*2,af⟩) lV Rk.o).trans Zk,(hl.fr.cell (p:=⟨xb,6+i*10+1,af⟩) gW Rl.o).trans k1⟩
     have d7:w3.cell? ⟨xb,6+i*10+7,af⟩=ae (ag ah x1.si):=L3.o.1.at_.iY (p:=x1) yK.o 7 _ rfl
     have df:∀o,w3.frozen? ⟨xb,o,af⟩=false:=jS L3.o.1.at_.blk
     clear hl dI))
  go_wp2_with fail
  go_ret;have Kv:(h1.gZ q ⟨p.lb,p.bm,p.v,p.s.opened i x.next,p.out⟩).ps[i]? =ae x1:=yK.o;refine .ok (v':=p.v) HO.o ?_ L3.o.2;rw[Wy.o];exact L3.o.1.trans<|L3.o.1.at_.quiet Kv
end
end
section
section
variable{w w':aj}{B xb n:Nat}{h:HS}
variable{v:az}{xs:List Int}{i q:Nat}{x:PS}{ep:Int}{ts:ByteArray}
def ao0(hr:w.ownsRow B 3 1 v xs.length (gy xs))(m:Int):
 aU prog 183 #[v,ag ah m] w fun r w'=>(∃j:Int,r=aT (ag ah j)/\(0<=j↔m∈xs)/\j<9223372036854775807/\-1<=j)/\w=w':=by
 obtain⟨va,vc,rfl,hl⟩:=kR hr;unfold dU at hl;have H:Hid (w.ownsRow B 3 1 (.slice va xs.length vc) xs.length<|gy xs):=hr;clear hr;go_enter func183,ntmps183
 go_wp2_with fail
 go_loop [8] (fun i=>∃k:Nat,k<=xs.length/\i=ag ah k/\∀(j:Nat) x,j<k->xs[j]? =ae x->x≠m) (fun i=>xs.length-(fH i).toNat)
 case atStart=>exact⟨0,mi _,rfl,fun j x hj=>by omega⟩
 case round=>
  obtain⟨k,hk,rfl,jF⟩:=hrel
  have HA:Hid (∀(j:Nat) x,j<k->xs[j]? =ae x->x≠m):=jF
  clear jF
  by_cases aI:k<xs.length
  ·obtain⟨x,hx⟩:∃x,xs[k]? =ae x:=⟨_,eY aI⟩
   have HX:Hid (xs[k]? =ae x):=hx
   rcases H.o.2 with⟨_,h0⟩|⟨g,cap,cur,hv,hb,hg,h1,h2,_⟩
   ·omega
   ·simp only[aD6]at hv
    obtain⟨rfl,_,rfl⟩:=hv
    have c0:=yH H.o hx
    have zh:(k:Int)<(xs.length:Int):=by omega
    have uS:(0:Int)<=(k:Int):=by omega
    clear hx hg h2 hb
    by_cases e:m=x
    ·have HM:Hid (m∈xs):=by show m∈xs;rw[e];exact gz HX.o
     have e':(m==x)=true:=by simpa using e
     clear e
     go_wp2
     go_ret
     exact⟨⟨(k:Int),rfl,⟨fun _=>HM.o,fun _=>uS⟩,by omega,by omega⟩,rfl⟩
    ·have e':(m==x)=false:=by simpa using e
     have Ko:Hid (∀(j:Nat) z,j<k+1->xs[j]? =ae z->z≠m):=fun j z hj hz=>by
      by_cases ej:j=k
      ·subst ej;have:=HX.o.symm.trans hz;cases this;exact fun e2=>e e2.symm
      ·exact HA.o j z (by omega) hz
     clear e
     go_wp2
     go_round
     case rel=>exact⟨k+1,by omega,by go_num,Ko.o⟩
     case measure=>simp[fH]<;>omega
  ·have HM:Hid (m∉xs):=fun hm=>by
    obtain⟨j,hj,rfl⟩:=List.getElem_of_mem hm;exact HA.o j _ (by omega) (eY hj) rfl
   go_wp2
   go_ret
   exact⟨⟨-1,rfl,⟨fun e=>by omega,fun e=>absurd e HM.o⟩,by omega,by omega⟩,rfl⟩
def agD(hr:w.ownsRow B 3 1 v xs.length (gy xs))(m:Int):
 aU prog 135 #[v,ag ah m] w fun r w'=>r=aT (.bool<|decide<|m∈xs)/\w=w':=by
 obtain⟨va,vc,rfl,hl⟩:=kR hr;have HC:Hid (aU prog 183 #[.slice va xs.length vc,ag ah m] w fun r w'=>(∃j:Int,r=aT (ag ah j)/\(0<=j↔m∈xs)/\j<9223372036854775807/\-1<=j)/\w=w'):=ao0 hr m;clear hr hl;go_enter func135,ntmps135
 go_wp2_with fail
 refine HC.o.mono ?_;rintro e w1 ⟨⟨j,rfl,hj,_,_⟩,rfl⟩;by_cases h0:0<=j
 ·have HM:Hid (decide (m∈xs)=true):=kF<|hj.1 h0;clear hj;go_wp2
  go_ret;exact⟨by rw[HM.o]<;>rfl,rfl⟩
 ·have HM:Hid (decide (m∈xs)=false):=qW fun e=>h0<|hj.2 e;clear hj;go_wp2
  go_ret;exact⟨by rw[HM.o,show false=decide (0<=j)from(qW<|by omega).symm]<;>rfl,rfl⟩
def agE(hh:aF w B xb n h)(hm:(i:Int)<h.P)(hq:q<h.pl.length)(hx:h.ps[i]? =ae x)(hb:h.bars x ep≠0)(ht:ts.size<=8):
 aU prog 77 #[ay<|ae ⟨xb,0,af⟩,ag ah i,ag ah ep,ag ah q,dA ts] w fun e w'=>e=aT (.int .i64<|h.bars x ep)/\w=w':=by
 have HH:Hid (aF w B xb n h):=hh;have HX:Hid (h.ps[i]? =ae x):=hx;have HL:Hid (h.sD i q=0):=He hm hq;have jK:i<6:=by have:=hh.hP.2;omega
 obtain⟨b,EI⟩:∃b,h.bars x ep=b:=⟨_,rfl⟩;have HB:Hid (h.bars x ep=b):=EI;rw[EI]at hb⊢
 have Ag:(b==0)=false:=by simpa using hb
 have Qs:¬(8:Int)<(ts.size:Int):=by omega
 clear hh hm hx EI hq;go_enter func77,ntmps77
 go_wp2_with (first
  |(go_at_call 124;refine(Fb HH.o i q).mono ?_;rw[HL.o];rintro e w1 ⟨rfl,rfl⟩)
  |(go_at_call 65;refine(zK HH.o jK HX.o ep).mono ?_;rw[HB.o];rintro e w1 ⟨rfl,rfl⟩))
 go_ret;exact⟨rfl,rfl⟩
def ao1(hh:aF w B xb n h)(hm:(i:Int)<h.P)(hq:q<h.pl.length)(hx:h.ps[i]? =ae x)(hb:h.bars x ep=0)(hs:x.s=0\/x.s=2\/x.s=3)(ht:ts.size<=8):
 aU prog 77 #[ay<|ae ⟨xb,0,af⟩,ag ah i,ag ah ep,ag ah q,dA ts] w fun e w'=>e=aT (.int .i64<|if x.s=0 then 8 else 9)/\Fr aP w w':=by
 have HH:Hid (aF w B xb n h):=hh;have HX:Hid (h.ps[i]? =ae x):=hx;have HL:Hid (h.sD i q=0):=He hm hq;have jK:i<6:=by have:=hh.hP.2;omega
 have HB:Hid (h.bars x ep=0):=hb;obtain⟨⟨e0,e1,e2⟩,ef⟩:=hh.cellP hx;obtain⟨p,hp⟩:∃p,h.pl[q]? =ae p:=⟨_,eY hq⟩;obtain⟨g,cap,iJ,hg,xn,c0,c1⟩:=hh.place hp;have cV:=hh.cV;rw[iJ]at cV;have lu:(i:Int)<6:=by omega
 have dR:(0:Int)<=(i:Int):=by omega
 have rV:(0:Int)<=(q:Int):=by omega
 have vV:(q:Int)<h.pl.length:=by omega
 have Qs:¬(8:Int)<(ts.size:Int):=by omega
 have nJ:Hid (w.cell? ⟨xb,6+i*10+2,af⟩=ae (ag ah x.s)):=e2;clear hh hm hx hb hp iJ;by_cases h0:x.s=0
 ·rw[if_pos h0];rw[h0]at e2;go_enter func77,ntmps77
  go_wp2_with (first
   |(go_at_call 124;refine(Fb HH.o i q).mono ?_;rw[HL.o];rintro e w1 ⟨rfl,rfl⟩)
   |(go_at_call 65;refine(zK HH.o jK HX.o ep).mono ?_;rw[HB.o];rintro e w1 ⟨rfl,rfl⟩))
  go_region
  go_wp2_with fail
  go_ret;exact⟨rfl,(Fr.refl _ _).drew⟩
 ·rw[if_neg h0];have HE:Hid (decide (x.s=2\/x.s=3)=true):=kF (by omega);have h0':(x.s==0)=false:=by simpa using h0
  go_enter func77,ntmps77
  go_wp2_with (first
   |(go_at_call 124;refine(Fb HH.o i q).mono ?_;rw[HL.o];rintro e w1 ⟨rfl,rfl⟩)
   |(go_at_call 65;refine(zK HH.o jK HX.o ep).mono ?_;rw[HB.o];rintro e w1 ⟨rfl,rfl⟩))
  go_region
  go_wp2_with (first
   |(go_at_call 66;refine(xM x.s<|by exact nJ.o).mono ?_;rw[HE.o];rintro e w1 ⟨rfl,rfl⟩))
  go_ret;exact⟨rfl,(Fr.refl _ _).drew⟩
end
end
section
section
variable{w w':aj}{B xb n:Nat}{h:HS}
def ao2(hh:aF w B xb n h){i q:Nat}(hm:(i:Int)<h.P)(hq:q<h.pl.length){x:PS}(hx:h.ps[i]? =ae x){ep:Int}(hb:h.bars x ep=0)(hs:x.s=1)(Ky:x.aZ.getD q 0=0){ts:ByteArray}(ht:ts.size<=8):
 aU prog 77 #[ay<|ae ⟨xb,0,af⟩,ag ah i,ag ah ep,ag ah q,dA ts] w fun e w'=>e=aT (ag ah 11)/\Fr aP w w':=by
 have HH:Hid (aF w B xb n h):=hh;have HX:Hid (h.ps[i]? =ae x):=hx;have HL:Hid (h.sD i q=0):=He hm hq;have jK:i<6:=by have:=hh.hP.2;omega
 have mZ:q<4:=by have:=hh.hQ;omega
 have HB:Hid (h.bars x ep=0):=hb;obtain⟨⟨e0,e1,e2⟩,ef⟩:=hh.cellP hx;rw[hs]at e2;have e3:w.cell? ⟨xb,6+i*10+3+q,af⟩=ae (.int .i64<|x.aZ.getD q 0):=by rw[zG];exact hh.iY hx (3+q) _<|Lj _ mZ
 rw[Ky]at e3;obtain⟨p,hp⟩:∃p,h.pl[q]? =ae p:=⟨_,eY hq⟩;obtain⟨g,cap,iJ,hg,xn,c0,c1⟩:=hh.place hp;have cV:=hh.cV;rw[iJ]at cV;have lu:(i:Int)<6:=by omega
 have dR:(0:Int)<=(i:Int):=by omega
 have rV:(0:Int)<=(q:Int):=by omega
 have vV:(q:Int)<h.pl.length:=by omega
 have aa7:(q:Int)<4:=by omega
 have Qs:¬(8:Int)<(ts.size:Int):=by omega
 have nJ:Hid (w.cell? ⟨xb,6+i*10+2,af⟩=ae (ag ah 1)):=e2;clear hh hm hx hb hp iJ Ky hs;go_enter func77,ntmps77
 go_wp2_with (first
  |(go_at_call 124;refine(Fb HH.o i q).mono ?_;rw[HL.o];rintro e w1 ⟨rfl,rfl⟩)
  |(go_at_call 65;refine(zK HH.o jK HX.o ep).mono ?_;rw[HB.o];rintro e w1 ⟨rfl,rfl⟩))
 go_region
 go_wp2_with (first
  |(go_at_call 66;refine(xM 1<|by exact nJ.o).mono ?_;rintro e w1 ⟨rfl,rfl⟩))
 go_ret;exact⟨rfl,(Fr.refl _ _).drew⟩
inductive Rn(w:aj)(B xb n:Nat)(h:HS)(i q:Nat)(x:PS)(p:PL)(ts:ByteArray):Ending->aj->Prop
 |not {w':aj} (ho:∀t,p.s.nw i≠ae (t,true)) (f:Fr aP w w'):Rn w B xb n h i q x p ts (aT<|ag ah 11) w'
 |out {w':aj} {t:Int} (ho:p.s.nw i=ae (t,true)) (hp:p.out=true) (f:Fr aP w w'):Rn w B xb n h i q x p ts (aT<|ag ah 10) w'
 |bad {w':aj} {t:Int} {v':az} (ho:p.s.nw i=ae (t,true)) (hp:p.out=false) (hc:p.s.ou i x.t ts≠0) (hm:bU w w' B xb n h n (h.gZ q ⟨p.lb,p.bm,v',p.s.lC i x.t ts,p.out⟩)) (ha:iP (h.gZ q ⟨p.lb,p.bm,v',p.s.lC i x.t ts,p.out⟩).pl):Rn w B xb n h i q x p ts (aT<|.int .i64<|p.s.ou i x.t ts) w'
 |ok {w':aj} {t:Int} {v':az} (ho:p.s.nw i=ae (t,true)) (hp:p.out=false) (hc:p.s.ou i x.t ts=0) (hm:bU w w' B xb n h n ((h.gZ q ⟨p.lb,p.bm,v',p.s.lC i x.t ts,p.out⟩).dQ i {x with si:=0})) (ha:iP (h.gZ q ⟨p.lb,p.bm,v',p.s.lC i x.t ts,p.out⟩).pl):Rn w B xb n h i q x p ts (aT<|ag ah 0) w'
def agF(hh:aF w B xb n h)(Dn:iP h.pl){i q:Nat}(hm:(i:Int)<h.P){p:PL}(hp:h.pl[q]? =ae p){x:PS}(hx:h.ps[i]? =ae x){ep:Int}(hb:h.bars x ep=0)(hs:x.s=1)(Ky:x.aZ.getD q 0≠0){ts:ByteArray}(ht:ts.size<=8)(hn:(n+1)*8<=140737488355328)(qg:(p.s.es.length+1)*40<=140737488355328):
 aU prog 77 #[ay<|ae ⟨xb,0,af⟩,ag ah i,ag ah ep,ag ah q,dA ts] w (Rn w B xb n h i q x p ts):=by
 have HH:Hid (aF w B xb n h):=hh;have HAP:Hid (iP h.pl):=Dn;have HX:Hid (h.ps[i]? =ae x):=hx;have zJ:Hid (h.pl[q]? =ae p):=hp;have hq:=(dM.1 hp).1;have HL:Hid (h.sD i q=0):=He hm hq;have jK:i<6:=by have:=hh.hP.2;omega
 have mZ:q<4:=by have:=hh.hQ;omega
 have HB:Hid (h.bars x ep=0):=hb;have fF:Hid ((n+1)*8<=140737488355328):=hn;have HES:Hid ((p.s.es.length+1)*40<=140737488355328):=qg;have HI:Hid (eP (i:Int)):=Ll (by omega) (by omega);have HTS:Hid (ts.size<=dU):=by show ts.size<=dU;unfold dU;omega
 obtain⟨⟨e0,e1,e2⟩,ef⟩:=hh.cellP hx;rw[hs]at e2;have e3:w.cell? ⟨xb,6+i*10+3+q,af⟩=ae (.int .i64<|x.aZ.getD q 0):=by rw[zG];exact hh.iY hx (3+q) _<|Lj _ mZ
 obtain⟨tv,Ri⟩:∃tv,x.aZ.getD q 0=tv:=⟨_,rfl⟩;rw[Ri]at e3 Ky;have ht0:(tv==0)=false:=by simpa using Ky
 have qU:=gz hp;have Wv:Hid (dY w B p.lb p.bm p.v n p.s):=hh.ed p qU;obtain⟨g,cap,iJ,hg,xn,c0,c1⟩:=hh.place hp;have cV:=hh.cV;rw[iJ]at cV;have Rk:Hid (¬(g=p.lb\/g=p.bm\/p.v.ownBlock=ae g)):=fun e=>by
  have t0:=iK hh.jU (k:=g) (by rw[iJ];rfl);rcases(hh.ed p qU).tags e with t1|t1|t1<;>rw[t0]at t1<;>cases t1
 have Rl:Hid (¬(xb=p.lb\/xb=p.bm\/p.v.ownBlock=ae xb)):=hh.Le qU;have gW:=aX hh.blk;have lu:(i:Int)<6:=by omega
 have dR:(0:Int)<=(i:Int):=by omega
 have rV:(0:Int)<=(q:Int):=by omega
 have vV:(q:Int)<h.pl.length:=by omega
 have aa7:(q:Int)<4:=by omega
 have Qs:¬(8:Int)<(ts.size:Int):=by omega
 have nJ:Hid (w.cell? ⟨xb,6+i*10+2,af⟩=ae (ag ah 1)):=e2;clear hh hm hx hb hp iJ hs Dn hn qg Ky Ri qU;go_enter func77,ntmps77
 go_wp2_with (first
  |(go_at_call 124;refine(Fb HH.o i q).mono ?_;rw[HL.o];rintro e w1 ⟨rfl,rfl⟩)
  |(go_at_call 65;refine(zK HH.o jK HX.o ep).mono ?_;rw[HB.o];rintro e w1 ⟨rfl,rfl⟩))
 go_region
 go_wp2_with (first
  |(go_at_call 66;refine(xM 1<|by exact nJ.o).mono ?_;rintro e w1 ⟨rfl,rfl⟩)
  |(go_at_call 60;refine(afO (by exact((Fr.refl (fun _=>False) w).drew).logAt Wv.o id id fun _ _=>id) fF.o).mono ?_;rintro e w2 ⟨v2,S,rfl,EE,jP,vX,Zl,hS3,UM⟩
    obtain⟨va,vc,rfl,_⟩:=kR EE
    have F2:Hid (Fr aP w w2):=((Fr.refl _ _).drew:Fr aP w w.drew).trans jP fun _ h=>h.elim
    have V2:Hid (w2.ownsRow w.drew.heap.size 3 1 (.slice va S.length vc) S.length<|gy S):=EE
    have S4:Hid ((i:Int)∈S↔∃t,p.s.nw i=ae (t,true)):=UM i HI.o
    clear EE jP vX Zl hS3 UM)
  |(go_at_call 135;fail))
 by_cases fE:(i:Int)∈S
 ·have DU:Hid (decide ((i:Int)∈S)=true):=kF fE;obtain⟨t,Kz⟩:=S4.o.1 fE;have HT:Hid (p.s.nw i=ae (t,true)):=Kz;have Rj:Hid (dY w2.drew B p.lb p.bm p.v n p.s):=(F2.o.drew).logAt Wv.o id id fun _ _=>id;have HH2:Hid (aF w2.drew B xb n h):=HH.o.after F2.o.drew;have k0:w2.cell? ⟨g,q*2,af⟩=ae (ay<|ae ⟨p.lb,0,af⟩):=(F2.o.cell (p:=⟨g,q*2,af⟩) hg id).trans c0;have k1:w2.cell? ⟨g,q*2+1,af⟩=ae (aB p.out):=(F2.o.cell (p:=⟨g,q*2+1,af⟩) hg id).trans c1;have kt:w2.cell? ⟨xb,6+i*10+1,af⟩=ae (ag ah x.t):=(F2.o.cell (p:=⟨xb,6+i*10+1,af⟩) gW id).trans e1;have FY:g<w2.heap.size:=fK hg F2.o.size;have ao5:xb<w2.heap.size:=fK gW F2.o.size;refine(agD V2.o i).mono ?_;rw[DU.o];rintro e w3 ⟨rfl,rfl⟩;clear fE Kz;by_cases Gg:p.out=true
  ·rw[Gg]at k1;have Ro:Hid (p.out=true):=Gg;clear Gg;go_wp2_with fail
   go_ret;exact .out HT.o Ro.o F2.o
  ·have Ro:Hid (p.out=false):=by show p.out=false;simpa using Gg
   rw[show p.out=false from Ro.o]at k1;clear Gg;go_wp2_with fail
   go_region_held3 (fun w'=>w'.cell? ⟨g,q*2,af⟩=ae (ay<|ae ⟨p.lb,0,af⟩)/\w'.cell? ⟨xb,6+i*10+1,af⟩=ae (ag ah x.t))
    (first|with_reducible exact C4|exact⟨k0,kt⟩|go_keep)
    ((go_at_call 136;refine(am6 (w:=w2.drew) Rj.o i x.t ts HI.o HTS.o HES.o).mono ?_;rintro e w4 ⟨rfl,v',hl⟩
      have dI:=HH2.o.Wu HAP.o zJ.o (dm n) hl
      have L4:Hid (bU w w4 B xb n h n (h.gZ q ⟨p.lb,p.bm,v',p.s.lC i x.t ts,p.out⟩)/\iP (h.gZ q ⟨p.lb,p.bm,v',p.s.lC i x.t ts,p.out⟩).pl):=⟨dI.1.behind F2.o.drew,dI.2⟩
      have C4:w4.cell? ⟨g,q*2,af⟩=ae (ay<|ae ⟨p.lb,0,af⟩)/\w4.cell? ⟨xb,6+i*10+1,af⟩=ae (ag ah x.t):=⟨(hl.fr.cell (p:=⟨g,q*2,af⟩) FY Rk.o).trans k0,(hl.fr.cell (p:=⟨xb,6+i*10+1,af⟩) ao5 Rl.o).trans kt⟩
      have d7:w4.cell? ⟨xb,6+i*10+7,af⟩=ae (ag ah x.si):=L4.o.1.at_.iY (p:=x) HX.o 7 _ rfl
      have df:∀o,w4.frozen? ⟨xb,o,af⟩=false:=jS L4.o.1.at_.blk
      clear hl dI))
   by_cases hc:p.s.ou i x.t ts=0
   ·have HC:Hid (p.s.ou i x.t ts=0):=hc;rw[hc];clear hc;go_wp2_with fail
    go_ret;have Kv:(h.gZ q ⟨p.lb,p.bm,v',p.s.lC i x.t ts,p.out⟩).ps[i]? =ae x:=HX.o;exact .ok HT.o Ro.o HC.o (L4.o.1.trans<|L4.o.1.at_.quiet Kv) L4.o.2
   ·have HC:Hid (p.s.ou i x.t ts≠0):=hc;have zl:(p.s.ou i x.t ts==0)=false:=by simpa using hc
    clear hc;go_wp2_with fail
    go_ret;exact .bad HT.o Ro.o HC.o L4.o.1 L4.o.2
 ·have DU:Hid (decide ((i:Int)∈S)=false):=qW fE;have HT:Hid (∀t,p.s.nw i≠ae (t,true)):=fun t ht=>fE<|S4.o.2 ⟨t,ht⟩;refine(agD V2.o i).mono ?_;rw[DU.o];rintro e w3 ⟨rfl,rfl⟩;clear fE;go_wp2_with fail
  go_ret;exact .not HT.o F2.o
end
end
section
section
variable{w w':aj}{B xb n:Nat}{h:HS}
def vw(k:Int):Int:=min (max k 0) 16
def HS.breaks(h:HS)(k:Int):HS:={h with br:=true,kp:=vw k}
def HS.ao6{h:HS}(h6:h.ps.length=6)(k:Int):(h.cells.toArray.setIfInBounds 66<|aB true).setIfInBounds 67 (.int .i64<|vw k)=(h.breaks k).cells.toArray:=by
 obtain⟨P,Q,T,K,jv,jb,up,ps,br,kp,pv,pl,fv,fl⟩:=h;obtain⟨⟨e0,t0,s0,a0,b0,c0,d0,x0,y0,z0⟩,⟨e1,t1,s1,a1,b1,c1,d1,x1,y1,z1⟩,⟨e2,t2,s2,a2,b2,c2,d2,x2,y2,z2⟩,⟨e3,t3,s3,a3,b3,c3,d3,x3,y3,z3⟩,⟨e4,t4,s4,a4,b4,c4,d4,x4,y4,z4⟩,⟨e5,t5,s5,a5,b5,c5,d5,x5,y5,z5⟩,rfl⟩:=V6 h6;kernel_rfl
def ao7(hh:aF w B xb n h)(hu:h.up=true)(k:Int):
 aU prog 27 #[ay<|ae ⟨xb,0,af⟩,ag ah k] w fun r w'=>r=aT (ag ah 0)/\bU w w' B xb n h n (h.breaks k):=by
 have HH:Hid (aF w B xb n h):=hh;have c5:=hh.cU;rw[hu]at c5;have G9:=hh.cB;have OC:=hh.cK;have hf:∀o,w.frozen? ⟨xb,o,af⟩=false:=jS hh.blk;have key:∀{W:aj},W=(w.setCell ⟨xb,66,af⟩<|aB true).setCell ⟨xb,67,af⟩ (.int .i64<|vw k)->bU w W B xb n h n (h.breaks k):=fun{W} e=>by
  have fr:Fr (fun k=>k=xb) w W:=by rw[e];exact((Fr.refl (fun k=>k=xb) w).setCell (p:=⟨xb,66,af⟩) (.inl rfl) _).setCell (p:=⟨xb,67,af⟩) (.inl rfl) _
  refine bU.own fr (HH.o.put fr ?_ rfl rfl rfl rfl rfl rfl rfl rfl HH.o.h6) fun k hk=>hk;rw[e,jT (jT HH.o.blk 66 _) 67 _,HS.ao6 HH.o.h6]
 have HK:Hid (∀{W:aj},W=(w.setCell ⟨xb,66,af⟩<|aB true).setCell ⟨xb,67,af⟩ (.int .i64<|vw k)->bU w W B xb n h n (h.breaks k)):=key;clear hh key;go_enter func27,ntmps27
 go_wp2
 go_ret;exact⟨rfl,HK.o rfl⟩
end
end
section
def ape{w:aj}{B:Nat}{ty:dw}{a:Option Addr}{n cap m:Nat}{xs:List az}(h:w.ownsRow B ty 1 (.slice a n cap) n xs)(hm:m<=n):w.ownsRow B ty 1 (.slice a m cap) m (xs.take m):=by
 refine⟨by rw[EY,h.1];omega,?_⟩;rcases h.2 with⟨hv,h0⟩|⟨g,c,cur,hv,hb,hg,h1,h2,h3,h4⟩
 ·simp only[aD6]at hv;obtain⟨rfl,_,rfl⟩:=hv;exact .inl ⟨by rw[show m=0 by omega],by omega⟩
 ·simp only[aD6]at hv;obtain⟨rfl,_,rfl⟩:=hv;refine .inr ⟨g,cap,cur,rfl,hb,hg,by omega,h2,h3,?_⟩;rw[<-h4,List.take_take];congr 1;omega
def apf{w:aj}{B g n cap:Nat}{l:List Rc}(h:w.ownsRow B 184 4 (aJ (ae ⟨g,0,af⟩) n cap) l.length (l.flatMap Rc.cs)){k:Nat}{e:Rc}(hk:l[k]? =ae e):
 w.cell? ⟨g,k*4,af⟩=ae (ag ah e.k)/\w.cell? ⟨g,k*4+1,af⟩=ae (ag ah e.p)/\w.cell? ⟨g,k*4+2,af⟩=ae (ag ah e.a)/\w.cell? ⟨g,k*4+3,af⟩=ae (ag ah e.m):=by
 have hc:=h.cells (g:=g) rfl;have key:∀j u,j<4->e.cs[j]? =ae u->w.cell? ⟨g,k*4+j,af⟩=ae u:=fun j u hj hu=>by
  have:=hc (k*4+j) u<|(af5 l k e j hk hj).trans hu;rw[aEn]at this;simpa using this
 exact⟨key 0 _ (by omega) rfl,key 1 _ (by omega) rfl,key 2 _ (by omega) rfl,key 3 _ (by omega) rfl⟩
section
variable{w w':aj}{B xb n:Nat}{h:HS}
def HS.mid(h:HS)(jv:az)(L:List Rc)(j:Nat):HS:={h with jv:=jv,jb:=dV<|L.flatMap dJ,ps:=replay<|L.take j}
def HS.DV(h:HS)(jv:az)(L:List Rc):HS:={h with jv:=jv,jb:=dV<|L.flatMap dJ,ps:=replay L,up:=true}
variable{i b:Nat}{x:PS}
def apg(h:HS)(jv:az){L:List Rc}{j:Nat}{r:Rc}(hr:L[j]? =ae r)(hi:r.p=i)(hx:(replay<|L.take j)[i]? =ae x):h.mid jv L (j+1)=(h.mid jv L j).dQ i (x.bY r):=by
 have e:r.p.toNat=i:=by omega
 have:replay (L.take<|j+1)=(replay<|L.take j).set i (x.bY r):=by
  rw[AP,hr,EX,af7];unfold jV;rw[e];simp[List.getD,hx]
 unfold HS.mid HS.dQ;simp only[this]
def aph{w3:aj}{db kb:Nat}(hb:w3.heap[db]? =ae (.cells (qZ kb) 193 (0,0))):
 w3.cell? ⟨db,1,af⟩=ae (.func (.func 179) #[] #[ay<|ae ⟨kb,0,af⟩])/\w3.cell? ⟨db,2,af⟩=ae (.func (.func 180) #[] #[ay<|ae ⟨kb,0,af⟩])/\w3.cell? ⟨db,3,af⟩=ae (.func (.func 181) #[] #[ay<|ae ⟨kb,0,af⟩])/\w3.cell? ⟨db,4,af⟩=ae (.func (.func 182) #[] #[ay<|ae ⟨kb,0,af⟩]):=by
 refine⟨?_,?_,?_,?_⟩<;>(rw[aK hb];rfl)
def api(hh:aF w B xb n h)(hb:wF w b xb)(hi:i<6)(hx:h.ps[i]? =ae x)(a m:Int):
 aU prog 179 #[gY #[ag ah 1,ag ah i,ag ah a,ag ah m],ay<|ae ⟨b,0,af⟩] w fun e w'=>e=aT (dK #[])/\aF w' B xb n (h.dQ i<|x.bY ⟨1,i,a,m⟩)/\Fr (fun k=>k=xb) w w':=by
 have:=af9 hh hb hi hx 1 a m;rw[show x.bY ⟨1,i,a,m⟩={x with e:=m}by simp[PS.bY]];exact this
def apj(hh:aF w B xb n h){q:Nat}(hb:wF w b xb)(hi:i<6)(hq:q<4)(hx:h.ps[i]? =ae x)(m:Int):
 aU prog 180 #[gY #[ag ah 2,ag ah i,ag ah q,ag ah m],ay<|ae ⟨b,0,af⟩] w fun e w'=>e=aT (dK #[])/\aF w' B xb n (h.dQ i<|x.bY ⟨2,i,q,m⟩)/\Fr (fun k=>k=xb) w w':=by
 have:=aga hh hb hi hq hx 2 m;rw[show x.bY ⟨2,i,q,m⟩=(({x with s:=1,t:=m}:PS).tie q 1)by simp[PS.bY]];exact this
def apk(hh:aF w B xb n h)(hb:wF w b xb)(hi:i<6)(hx:h.ps[i]? =ae x)(m:Int){a:Int}(ha:a=0\/a=1):
 aU prog 181 #[gY #[ag ah 3,ag ah i,ag ah a,ag ah m],ay<|ae ⟨b,0,af⟩] w fun e w'=>e=aT (dK #[])/\aF w' B xb n (h.dQ i<|x.bY ⟨3,i,a,m⟩)/\Fr (fun k=>k=xb) w w':=by
 have key:∀(c:Bool) (s':Int),a=(if c then 1 else 0)->s'=(if c then 2 else 3)->x.bY ⟨3,i,a,m⟩={({x with s:=s'}:PS).pend (bI x.aZ 1 4)with wa:=1,ga:=1}:=fun c s' h1 h2=>by
  have e1:bI x.aZ 1 4=bI ({x with s:=s'}:PS).aZ 1 4:=rfl;rw[e1,agq];cases c
  ·simp only[kP,↓reduceIte]at h1 h2;simp[PS.bY,h1,h2]
  ·simp only[↓reduceIte]at h1 h2;simp[PS.bY,h1,h2]
 rcases ha with ha|ha
 ·rw[key false 3 (by simpa using ha) rfl];exact aaV hh hb hi hx 3 m (c:=false) (by simpa using ha) rfl
 ·rw[key true 2 (by simpa using ha) rfl];exact aaV hh hb hi hx 3 m (c:=true) (by simpa using ha) rfl
def apl(hh:aF w B xb n h)(hb:wF w b xb)(hi:i<6)(hx:h.ps[i]? =ae x)(a m:Int):
 aU prog 182 #[gY #[ag ah 4,ag ah i,ag ah a,ag ah m],ay<|ae ⟨b,0,af⟩] w fun e w'=>e=aT (dK #[])/\aF w' B xb n (h.dQ i<|x.bY ⟨4,i,a,m⟩)/\Fr (fun k=>k=xb) w w':=by
 have:=agd hh hb hi hx 4 a m;rw[show x.bY ⟨4,i,a,m⟩=⟨x.e,x.t,0,0,0,0,0,0,0,0⟩by simp[PS.bY]];exact this
def aF.cut(hh:aF w B xb n h){jv:az}{jb:List az}(dF:w.ownsRow B 5 1 jv jb.length jb)(dh:jv.ownBlock≠ae xb):
 aF (w.setCell ⟨xb,4,af⟩ jv) B xb n {h with jv:=jv,jb:=jb}/\Fr (fun k=>k=xb) w (w.setCell ⟨xb,4,af⟩ jv):=by
 have fs:Fr (fun q=>q=xb) w (w.setCell ⟨xb,4,af⟩ jv):=(Fr.refl (fun q=>q=xb) w).setCell (p:=⟨xb,4,af⟩) (.inl rfl) _;refine⟨⟨?_,fs.ownsRow dF (fun q hq e=>dh<|by rw[hq,e]),fs.ownsRow hh.jU (fun k hk e=>hh.aaL (by subst e;exact hk)),fs.ownsRow hh.mV (fun k hk e=>hh.aaM (by subst e;exact hk)),fun p hp=>(hh.ed p hp).stay fs (fun k e hf=>hh.Le hp (by subst e;exact hf)),hh.hx,hh.hP,hh.hQ,hh.h6⟩,fs⟩;rw[jT hh.blk];have:=h.agp jv [];rw[this];rfl
structure Rt(h:HS)(L:List Rc)(tl:List UInt8):Prop where
 jb:h.jb=dV (L.flatMap dJ++tl)
 tl:tl.length<16
 small:∃m,m<1000000000000/\∀r∈L,r.Small m
 end_:∀r∈L,r.k=3->r.a=0\/r.a=1
 fB:L.length<100000000000
def apm(hh:aF w B xb n h)(hz:h.ps=wE){L:List Rc}{tl:List UInt8}(hJ:Rt h L tl):
 aU prog 68 #[ay<|ae ⟨xb,4,af⟩] w fun r w'=>r=aT (dK #[])/\∃jv,aF w' B xb n (h.DV jv L)/\Fr (fun k=>k=xb) w w'/\jv.ownBlock=h.jv.ownBlock:=by
 have HH:Hid (aF w B xb n h):=hh;have HJ:Hid (Rt h L tl):=hJ;have HZ:Hid (h.ps=wE):=hz;obtain⟨m,qR,qV⟩:=hJ.small;have Q9:Hid (∀r∈L,r.Small m):=qV;have c4:=hh.cJ;have c5:=hh.cU;obtain⟨ja,jc,hj,KA⟩:=pq hh.kT;have Zh:h.jb.length=(L.flatMap dJ++tl).length:=by rw[hJ.jb,E7]
 have hlen:(L.flatMap dJ++tl).length=16*L.length+tl.length:=by rw[iV,Cb]
 have dF:=hh.kT;rw[hj]at c4 dF;rw[Zh,hlen]at c4 dF hj;rw[hJ.jb]at dF;have Lm:Hid (w.ownsRow B 5 1 (.slice ja (16*L.length+tl.length) jc) (16*L.length+tl.length)<|dV<|L.flatMap dJ++tl):=dF;have HJV:Hid (h.jv=.slice ja (16*L.length+tl.length) jc):=hj;have WA:Hid (aU prog 127 #[.slice ja (16*L.length+tl.length) jc] w fun e w'=>∃v',e=aT v'/\w'.ownsRow w.heap.size 184 4 v' L.length (L.flatMap Rc.cs)/\Fr aP w w'):=apc (L:=L) (tl:=tl) (by rw[hlen];exact dF) hJ.tl qV qR hJ.fB;have xn:16*L.length+tl.length<=jc:=by
  rcases dF.2 with⟨hv,h0⟩|⟨g,cap,cur,hv,_,_,h1,_⟩
  ·omega
  ·simp only[aD6]at hv;omega
 have aI:=aX hh.blk;have hLf:=hJ.fB;have aBq:(L.length:Int)*16<=(jc:Int):=by omega
 clear hh hJ hz dF hj Zh hlen qV;cases ja;all_goals
  go_enter func68,ntmps68
  go_wp2_with (first
   |(go_at_call 127;refine WA.o.mono ?_;rintro e w1 ⟨v1,rfl,jJ,bM⟩
     obtain⟨ra,rc,rfl,UO⟩:=pq jJ
     have V1:Hid (w1.ownsRow w.heap.size 184 4 (.slice ra L.length rc) L.length<|L.flatMap Rc.cs):=jJ
     have F1:Hid (Fr aP w w1):=bM
     have B1:Hid (w1.heap[xb]? =ae (.cells h.cells.toArray 111 (0,0))):=(bM.block xb aI id).trans HH.o.blk
     have d4:=(bM.cell (p:=⟨xb,4,af⟩) aI id).trans c4
     have d5:w1.cell? ⟨xb,5,af⟩=ae (aB h.up):=(bM.cell (p:=⟨xb,5,af⟩) aI id).trans c5
     have df:∀o,w1.frozen? ⟨xb,o,af⟩=false:=jS B1.o
     have gG:xb<w1.heap.size:=fK aI bM.size
     have hzw:w.heap.size<=w1.heap.size:=bM.size
     clear bM jJ))
  generalize hjv:Value.slice _ (L.length*16) jc=jv
  have hcut:aF (w1.setCell ⟨xb,4,af⟩ jv) B xb n {h with jv:=jv,jb:=dV<|L.flatMap dJ}/\Fr (fun k=>k=xb) w1 (w1.setCell ⟨xb,4,af⟩ jv):=by
   have hr:=ape (F1.o.ownsRow Lm.o fun _ _=>id) (m:=L.length*16) (by omega);have et:(dV<|L.flatMap dJ++tl).take (L.length*16)=dV (L.flatMap dJ):=by
    rw[Wj,List.take_left' (by rw[E7,Cb];omega)]
   rw[et,hjv]at hr;refine(HH.o.after F1.o).cut (by rw[E7,Cb,aap];exact hr) fun e=>?_;have t1:=iK hr e;rw[lM B1.o]at t1;cases t1
  have HOB:Hid (jv.ownBlock=h.jv.ownBlock):=by show jv.ownBlock=h.jv.ownBlock;rw[<-hjv,HJV.o];rfl
  have Ez:Hid (aF (w1.setCell ⟨xb,4,af⟩ jv) B xb n<|h.mid jv L 0):=by
   have e0:h.mid jv L 0={h with jv:=jv,jb:=dV<|L.flatMap dJ}:=by
    unfold HS.mid;rw[List.take_zero,show replay []=h.ps from HZ.o.symm]
   show aF _ _ _ _ _;rw[e0];exact hcut.1
  have iH:Hid (Fr (fun k=>k=xb) w<|w1.setCell ⟨xb,4,af⟩ jv):=(F1.o.mono (fun _ h=>h.elim):Fr (fun k=>k=xb) w w1).trans hcut.2 fun _ e=>.inl e
  have VW1:Hid ((w1.setCell ⟨xb,4,af⟩ jv).ownsRow w.heap.size 184 4 (.slice ra L.length rc) L.length<|L.flatMap Rc.cs):=hcut.2.ownsRow V1.o (fun q hq e=>by have:=(V1.o.lt q hq).1;omega)
  generalize w1.setCell ⟨xb,4,af⟩ jv=W1 at Ez iH VW1⊢
  clear hcut d4 d5 df hjv
  have gJ:xb<W1.heap.size:=fK aI iH.o.size
  refine(Oy (w:=W1) _).mono ?_
  rintro e w2 ⟨rfl,rQ,jP⟩
  have KB2:Hid (wF w2 W1.heap.size xb):=rQ
  have S2:Hid (Fr aP W1 w2):=jP
  have T2:Hid ((w2.alloc<|aC #[.nilFunc,.nilFunc,.nilFunc,.nilFunc,.nilFunc] 193).there w2.heap.size 0 5):=Ld (aDY _ _)<|by simp
  clear rQ jP
  go_wp2_with (first
   |(refine aEz rfl 193 _ _ rfl w2.heap.size 0 (qZ W1.heap.size) rfl rfl T2.o V9 (by simp[qZ,Value.oneCell']) ?_
     have hW:Fr aP w2 _:=Fr.setCells (S:=fun _=>False) (b:=w2.heap.size) (.inr<|dm _) (qZ W1.heap.size).toList 0<|(Fr.refl (fun _=>False) w2).alloc<|aC #[.nilFunc,.nilFunc,.nilFunc,.nilFunc,.nilFunc] 193
     have hD:=Jh (qZ W1.heap.size).toList 0<|aDY w2<|aC #[.nilFunc,.nilFunc,.nilFunc,.nilFunc,.nilFunc] 193
     generalize((w2.alloc<|aC #[.nilFunc,.nilFunc,.nilFunc,.nilFunc,.nilFunc] 193).setCells w2.heap.size 0 (qZ W1.heap.size).toList)=w3 at hW hD⊢
     have S3:Hid (Fr aP W1 w3):=S2.o.trans hW fun _ h=>h.elim
     have KB3:Hid (wF w3 W1.heap.size xb):=(hW.block _ (aX KB2.o) id).trans KB2.o
     have D3:Hid (w3.heap[w2.heap.size]? =ae (.cells (qZ W1.heap.size) 193 (0,0))):=hD
     have H3:Hid (aF w3 B xb n<|h.mid jv L 0):=Ez.o.after S3.o
     have V3:Hid (w3.ownsRow w.heap.size 184 4 (.slice ra L.length rc) L.length<|L.flatMap Rc.cs):=S3.o.ownsRow VW1.o fun _ _=>id
     have aBr:xb<w2.heap.size:=fK gJ S2.o.size
     clear hW hD))
  go_loopw [26] (fun ii w'=>∃j:Nat,j<=L.length/\ii=ag ah j/\aF w' B xb n (h.mid jv L j)/\Fr (fun k=>k=xb) w3 w') (fun ii _=>(L.length-fH ii).toNat)
  case atStart=>exact⟨0,by omega,rfl,H3.o,Fr.refl _ _⟩
  case round=>
   obtain⟨j,hj,rfl,dX,dO⟩:=hrel
   have HR:Hid (aF wr B xb n<|h.mid jv L j):=dX
   have FR:Hid (Fr (fun k=>k=xb) w3 wr):=dO
   have rf:∀o,wr.frozen? ⟨xb,o,af⟩=false:=jS dX.blk
   have r5:wr.cell? ⟨xb,5,af⟩=ae (aB h.up):=dX.cU
   by_cases lU:j<L.length
   ·obtain⟨r,hr⟩:∃r,L[j]? =ae r:=⟨_,eY lU⟩
    have dF:=dO.ownsRow V3.o (fun k hk e=>by have:=(V3.o.lt k hk).1;omega)
    obtain⟨g,gc,xq,_⟩:=Jl dF<|by omega
    simp only[aD6]at xq
    obtain⟨rfl,_,rfl⟩:=xq
    obtain⟨r0,r1,r2,r3⟩:=apf dF hr
    have Fe:=Q9.o r<|gz hr
    have her:=HJ.o.end_ r<|gz hr
    obtain⟨i,hi⟩:=uA Fe.p0
    have jK:i<6:=by have:=Fe.p1;omega
    obtain⟨x,hx⟩:∃x,(replay<|L.take j)[i]? =ae x:=⟨_,eY (by rw[Q3];exact jK)⟩
    have xu:=apg h jv hr hi hx
    have HX:Hid ((h.mid jv L j).ps[i]? =ae x):=hx
    have hdb:w2.heap.size<wr.heap.size:=fK (aX D3.o) dO.size
    have agM:=(dO.block _ (aX D3.o)<|by omega).trans D3.o
    have Zp:wF wr W1.heap.size xb:=(dO.block _ (aX KB3.o)<|by omega).trans KB3.o
    have HKB:Hid (wF wr W1.heap.size xb):=Zp
    have dc:=aph agM
    have hxr:xb<wr.heap.size:=aX dX.blk
    obtain⟨kk,p,a,mm⟩:=r
    simp only at hi
    subst hi
    have WC:Hid (h.mid jv L (j+1)=(h.mid jv L j).dQ i (x.bY ⟨kk,i,a,mm⟩)):=xu
    have uS:=Fe.k0
    have aQ:=Fe.k1
    have ha0:0<=a:=Fe.a0
    have Nq:a<4:=Fe.a1
    simp only at uS aQ r0 r1 r2 r3 her
    have hj0:(0:Int)<=(j:Int):=by omega
    have rW:(j:Int)<L.length:=by omega
    have WE:Hid (aF (wr.alloc<|aC #[ag ah kk,ag ah i,ag ah a,ag ah mm] 184).drew B xb n<|h.mid jv L j):=dX.after (bG _).drew
    have Zq:Hid (wF (wr.alloc<|aC #[ag ah kk,ag ah i,ag ah a,ag ah mm] 184).drew W1.heap.size xb):=((bG _).drew.block _ (aX Zp) id).trans Zp
    have WG:Hid (∀(c:Nat) {v:az},wr.cell? ⟨w2.heap.size,c,af⟩=ae v->(wr.alloc<|aC #[ag ah kk,ag ah i,ag ah a,ag ah mm] 184).cell? ⟨wr.heap.size,0,af⟩=ae (ag ah kk)/\(wr.alloc<|aC #[ag ah kk,ag ah i,ag ah a,ag ah mm] 184).cell? ⟨wr.heap.size,1,af⟩=ae (ag ah i)/\(wr.alloc<|aC #[ag ah kk,ag ah i,ag ah a,ag ah mm] 184).cell? ⟨wr.heap.size,2,af⟩=ae (ag ah a)/\(wr.alloc<|aC #[ag ah kk,ag ah i,ag ah a,ag ah mm] 184).cell? ⟨wr.heap.size,3,af⟩=ae (ag ah mm)/\(wr.alloc<|aC #[ag ah kk,ag ah i,ag ah a,ag ah mm] 184).cell? ⟨w2.heap.size,c,af⟩=ae v):=fun c v hv=>
     ⟨aK (aDY _ _) 0,aK (aDY _ _) 1,aK (aDY _ _) 2,aK (aDY _ _) 3,((bG _).cell (p:=⟨w2.heap.size,c,af⟩) hdb id).trans hv⟩
    have WH:Hid (∀(c:Nat) {v:az} (w5:aj),wr.cell? ⟨w2.heap.size,c,af⟩=ae v->Fr (fun k=>k=xb) (wr.alloc<|aC #[ag ah kk,ag ah i,ag ah a,ag ah mm] 184).drew w5->w5.cell? ⟨wr.heap.size,0,af⟩=ae (ag ah kk)/\w5.cell? ⟨wr.heap.size,1,af⟩=ae (ag ah i)/\w5.cell? ⟨wr.heap.size,2,af⟩=ae (ag ah a)/\w5.cell? ⟨wr.heap.size,3,af⟩=ae (ag ah mm)/\w5.cell? ⟨w2.heap.size,c,af⟩=ae v):=fun c v w5 hv f5=>by
     have Zr:=(f5.block wr.heap.size (by simp)<|by omega).trans<|aDY wr<|aC #[ag ah kk,ag ah i,ag ah a,ag ah mm] 184;exact⟨aK Zr 0,aK Zr 1,aK Zr 2,aK Zr 3,(f5.cell (p:=⟨w2.heap.size,c,af⟩) (by simp<;>omega) (by simp<;>omega)).trans<|((bG _).cell (p:=⟨w2.heap.size,c,af⟩) hdb id).trans hv⟩
    clear dF dX dO hr hx xu agM Zp Fe
    rcases(show kk=1\/kk=2\/kk=3\/kk=4 by omega)with hk|hk|hk|hk
    ·skip
     subst hk
     have zn:=dc.1
     go_wp2_with fail
     go_region_held3 (fun w'=>w'.cell? ⟨wr.heap.size,0,af⟩=ae (ag ah 1)/\w'.cell? ⟨wr.heap.size,1,af⟩=ae (ag ah i)/\w'.cell? ⟨wr.heap.size,2,af⟩=ae (ag ah a)/\w'.cell? ⟨wr.heap.size,3,af⟩=ae (ag ah mm)/\w'.cell? ⟨w2.heap.size,1,af⟩=ae (.func (.func 179) #[] #[ay<|ae ⟨W1.heap.size,0,af⟩]))
      (first|with_reducible exact C5|exact WG.o 1 zn|go_keep)
      ((go_at_call 179;refine(api WE.o Zq.o jK HX.o a mm).mono ?_;rintro e w5 ⟨rfl,h5,ng⟩
        have H5:Hid (aF w5 B xb n<|h.mid jv L<|j+1):=(WC.o▸h5)
        have F5:Hid (Fr (fun k=>k=xb) wr w5):=((bG _).drew.mono (fun _ h=>h.elim):Fr (fun k=>k=xb) wr _).trans ng fun _ e=>.inl e
        have C5:=WH.o 1 w5 zn ng
        clear h5 ng))
     go_wp2_with fail
     go_roundw
     case rel=>exact⟨j+1,by omega,by go_num,H5.o,FR.o.trans F5.o fun _ e=>.inl e⟩
     case measure=>simp[fH]<;>omega
    ·skip
     subst hk
     obtain⟨q,hq⟩:=uA ha0
     subst hq
     have mZ:q<4:=by omega
     have zn:=dc.2.1
     go_wp2_with fail
     go_region_held3 (fun w'=>w'.cell? ⟨wr.heap.size,0,af⟩=ae (ag ah 2)/\w'.cell? ⟨wr.heap.size,1,af⟩=ae (ag ah i)/\w'.cell? ⟨wr.heap.size,2,af⟩=ae (ag ah q)/\w'.cell? ⟨wr.heap.size,3,af⟩=ae (ag ah mm)/\w'.cell? ⟨w2.heap.size,2,af⟩=ae (.func (.func 180) #[] #[ay<|ae ⟨W1.heap.size,0,af⟩]))
      (first|with_reducible exact C5|exact WG.o 2 zn|go_keep)
      ((go_at_call 180;refine(apj WE.o Zq.o jK mZ HX.o mm).mono ?_;rintro e w5 ⟨rfl,h5,ng⟩
        have H5:Hid (aF w5 B xb n<|h.mid jv L<|j+1):=(WC.o▸h5)
        have F5:Hid (Fr (fun k=>k=xb) wr w5):=((bG _).drew.mono (fun _ h=>h.elim):Fr (fun k=>k=xb) wr _).trans ng fun _ e=>.inl e
        have C5:=WH.o 2 w5 zn ng
        clear h5 ng))
     go_wp2_with fail
     go_roundw
     case rel=>exact⟨j+1,by omega,by go_num,H5.o,FR.o.trans F5.o fun _ e=>.inl e⟩
     case measure=>simp[fH]<;>omega
    ·skip
     subst hk
     have HER:Hid (a=0\/a=1):=her rfl
     have zn:=dc.2.2.1
     go_wp2_with fail
     go_region_held3 (fun w'=>w'.cell? ⟨wr.heap.size,0,af⟩=ae (ag ah 3)/\w'.cell? ⟨wr.heap.size,1,af⟩=ae (ag ah i)/\w'.cell? ⟨wr.heap.size,2,af⟩=ae (ag ah a)/\w'.cell? ⟨wr.heap.size,3,af⟩=ae (ag ah mm)/\w'.cell? ⟨w2.heap.size,3,af⟩=ae (.func (.func 181) #[] #[ay<|ae ⟨W1.heap.size,0,af⟩]))
      (first|with_reducible exact C5|exact WG.o 3 zn|go_keep)
      ((go_at_call 181;refine(apk WE.o Zq.o jK HX.o mm HER.o).mono ?_;rintro e w5 ⟨rfl,h5,ng⟩
        have H5:Hid (aF w5 B xb n<|h.mid jv L<|j+1):=(WC.o▸h5)
        have F5:Hid (Fr (fun k=>k=xb) wr w5):=((bG _).drew.mono (fun _ h=>h.elim):Fr (fun k=>k=xb) wr _).trans ng fun _ e=>.inl e
        have C5:=WH.o 3 w5 zn ng
        clear h5 ng))
     go_wp2_with fail
     go_roundw
     case rel=>exact⟨j+1,by omega,by go_num,H5.o,FR.o.trans F5.o fun _ e=>.inl e⟩
     case measure=>simp[fH]<;>omega
    ·skip
     subst hk
     have zn:=dc.2.2.2
     go_wp2_with fail
     go_region_held3 (fun w'=>w'.cell? ⟨wr.heap.size,0,af⟩=ae (ag ah 4)/\w'.cell? ⟨wr.heap.size,1,af⟩=ae (ag ah i)/\w'.cell? ⟨wr.heap.size,2,af⟩=ae (ag ah a)/\w'.cell? ⟨wr.heap.size,3,af⟩=ae (ag ah mm)/\w'.cell? ⟨w2.heap.size,4,af⟩=ae (.func (.func 182) #[] #[ay<|ae ⟨W1.heap.size,0,af⟩]))
      (first|with_reducible exact C5|exact WG.o 4 zn|go_keep)
      ((go_at_call 182;refine(apl WE.o Zq.o jK HX.o a mm).mono ?_;rintro e w5 ⟨rfl,h5,ng⟩
        have H5:Hid (aF w5 B xb n<|h.mid jv L<|j+1):=(WC.o▸h5)
        have F5:Hid (Fr (fun k=>k=xb) wr w5):=((bG _).drew.mono (fun _ h=>h.elim):Fr (fun k=>k=xb) wr _).trans ng fun _ e=>.inl e
        have C5:=WH.o 4 w5 zn ng
        clear h5 ng))
     go_wp2_with fail
     go_roundw
     case rel=>exact⟨j+1,by omega,by go_num,H5.o,FR.o.trans F5.o fun _ e=>.inl e⟩
     case measure=>simp[fH]<;>omega
   ·have hjL:j=L.length:=by omega
    subst hjL
    have HT:Hid (L.take L.length=L):=DJ<|dm _
    clear dX dO
    go_wp2_with fail
    go_end0
    have fs:Fr (fun k=>k=xb) wr (wr.setCell ⟨xb,5,af⟩<|aB true):=(Fr.refl (fun k=>k=xb) wr).setCell (p:=⟨xb,5,af⟩) (.inl rfl) _
    refine⟨rfl,jv,?_,(((iH.o.trans S3.o fun _ h=>h.elim).trans FR.o fun _ e=>.inl e).trans fs fun _ e=>.inl e),HOB.o⟩
    have e1:h.DV jv L=(h.mid jv L L.length).yI:=by unfold HS.DV HS.mid HS.yI;rw[HT.o]
    rw[e1]
    refine HR.o.put fs ?_ rfl rfl rfl rfl rfl rfl rfl rfl HR.o.h6
    rw[jT HR.o.blk,HS.af1]
end
end
section
section
variable{w w':aj}{B xb n:Nat}{h:HS}
def WI(hh:aF w B xb n h)(hu:h.up=false)(hz:h.ps=wE){L:List Rc}{tl:List UInt8}(hJ:Rt h L tl):
 aU prog 29 #[ay<|ae ⟨xb,0,af⟩] w fun r w'=>r=aT (ag ah 0)/\∃jv,bU w w' B xb n h n (h.DV jv L):=by
 have HC:Hid (aU prog 68 #[ay<|ae ⟨xb,4,af⟩] w fun r w'=>r=aT (dK #[])/\∃jv,aF w' B xb n (h.DV jv L)/\Fr (fun k=>k=xb) w w'/\jv.ownBlock=h.jv.ownBlock):=apm hh hz hJ;have c5:=hh.cU;rw[hu]at c5;clear hh hJ hz;go_enter func29,ntmps29
 go_wp2_with (go_at_call 68;refine HC.o.mono ?_;rintro e w1 ⟨rfl,jv,h1,h2,h3⟩;have H1:Hid (aF w1 B xb n (h.DV jv L)/\Fr (fun k=>k=xb) w w1/\jv.ownBlock=h.jv.ownBlock):=⟨h1,h2,h3⟩;clear h1 h2 h3)
 go_ret;refine⟨rfl,jv,bU.own H1.o.2.1 H1.o.1 fun k hk=>?_⟩;rcases hk with e|e|e
 ·exact .inl e
 ·exact .inr<|.inl (by rw[<-H1.o.2.2];exact e)
 ·exact .inr<|.inr e
def aps(l:List UInt8):∀s:ByteArray,((l.map fun b=>(b.toNat:Int)).foldl (fun r n=>r.push<|UInt8.ofNat n.toNat) s).data.toList=s.data.toList++l:=by
 induction l with
 |nil=>intro s;simp
 |cons b l ih=>
  intro s;simp only[uF,afj];rw[ih];simp[ByteArray.push]
variable{bs:List UInt8}{p:PL}
def apt{v:az}(hr:w.ownsRow B 5 1 v (dV bs).length (dV bs)):∃s,BR s bs/\(convert 99 9 v).run prog w=.ok (dA s) w:=by
 rcases hr.2 with⟨rfl,h0⟩|⟨g,cap,cur,rfl,_⟩
 ·have:bs=[]:=by rw[E7]at h0;exact QK.1 h0
  subst this;exact⟨⟨#[]⟩,⟨rfl,rfl⟩,an9 w⟩
 ·have hc:=hr.cells (g:=g) rfl;have hl:=run_loadCells_list (P:=prog) (w:=w) ⟨g,0,af⟩ (dV bs) hc;have e1:dV bs=(bs.map fun b=>(b.toNat:Int)).map (Value.int .u8):=by simp[dV]
  refine⟨(bs.map fun b=>(b.toNat:Int)).foldl (fun r n=>r.push<|UInt8.ofNat n.toNat) ByteArray.empty,?_,?_⟩
  ·have h1:=aps bs ByteArray.empty;have h2:((bs.map fun b=>(b.toNat:Int)).foldl (fun r n=>r.push<|UInt8.ofNat n.toNat) ByteArray.empty).data.toList=bs:=by rw[h1];simp
   refine⟨h2,?_⟩;have h3:=fG List.length h2;simpa using h3
  ·rw[run_convert_bytes_string w 99 9 5 _ _ _ underlying99 underlying5 underlying9];exact run_bytesToString w ⟨g,0,af⟩ _ cap (bs.map fun b=>(b.toNat:Int)) (by rw[<-e1];exact hl)
def abk(hh:aF w B xb n h)(hj:h.jb=dV bs):
 aU prog 26 #[ay<|ae ⟨xb,0,af⟩] w fun r w'=>(∃s,BR s bs/\r=aT (dA s))/\Fr aP w w':=by
 have c4:=hh.cJ;have hr:=hh.kT;rw[hj]at hr;obtain⟨s,hs,EJ⟩:=apt hr;obtain⟨ja,jc,hv,_⟩:=pq hr;rw[hv]at c4 EJ;have HS:Hid (BR s bs):=hs;clear hh hj hr hs;go_enter func26,ntmps26
 go_wp2
 go_ret;exact⟨⟨s,HS.o,rfl⟩,Fr.refl _ _⟩
def agN:∀(l:List PL) (k:Nat) (p:PL) (o:Bool),l[k]? =ae p->pI (l.set k {p with out:=o})=(pI l).set (k*2+1) (aB o)
 |[],k,p,o,h=>by simp at h
 |x::r,0,p,o,h=>by
  simp only[xE,gu]at h;subst h;simp[pI,PL.cs]
 |x::r,k+1,p,o,h=>by
  simp only[zB]at h;have:=agN r k p o h;simp only[pI,List.set_cons_succ,oO]at this⊢
  rw[this,afc _ _ (by simp[PL.cs]<;>omega)];congr 2;simp[PL.cs]<;>omega
def iP.out{pl:List PL}(h:iP pl){k:Nat}(hk:pl[k]? =ae p)(o:Bool):iP (pl.set k {p with out:=o}):=by
 have nZ:=(dM.1 hk).1;have pick:∀{i:Nat} {a:PL},(pl.set k {p with out:=o})[i]? =ae a->∃a',pl[i]? =ae a'/\a'.lb=a.lb/\a'.bm=a.bm/\a'.v=a.v:=fun{i a} hi=>by
  by_cases e:i=k
  ·subst e;rw[mQ nZ]at hi;obtain rfl:=(qX hi);exact⟨p,hk,rfl,rfl,rfl⟩
  ·rw[uZ fun e2=>e e2.symm]at hi;exact⟨a,hi,rfl,rfl,rfl⟩
 intro i j a b zi hi hj x h1 h2;obtain⟨a',ha,e1,e2,e3⟩:=pick hi;obtain⟨b',hb,f1,f2,f3⟩:=pick hj;exact h i j a' b' zi ha hb x (by rw[e1,e2,e3];exact h1) (by rw[f1,f2,f3];exact h2)
def agO(hh:aF w B xb n h){q:Nat}(hp:h.pl[q]? =ae p)(o:Bool):
 aU prog 52 #[ay<|ae ⟨xb,0,af⟩,ag ah q,aB o] w fun r w'=>r=aT (ag ah 0)/\bU w w' B xb n h n (h.gZ q {p with out:=o}):=by
 have HH:Hid (aF w B xb n h):=hh;have hq:=(dM.1 hp).1;have HM:Hid (decide (0<=(q:Int)/\(q:Int)<h.pl.length)=true):=kF ⟨by omega,by omega⟩;have HP:Hid (h.pl[q]? =ae p):=hp;obtain⟨g,cap,iJ,hg,xn,c0,c1⟩:=hh.place hp;have OE:Hid (h.pv=aJ (ae ⟨g,0,af⟩) h.pl.length cap):=iJ;have cV:=hh.cV;rw[iJ]at cV;have gf:∀o,w.frozen? ⟨g,o,af⟩=false:=by
  have hr:=hh.jU;rw[iJ]at hr;exact fun o=>hr.frozenAt o
 have rV:(0:Int)<=(q:Int):=by omega
 have vV:(q:Int)<h.pl.length:=by omega
 clear hh hp iJ;go_enter func52,ntmps52
 go_wp2_with (go_at_call 50;refine(Ov HH.o q).mono ?_;rw[HM.o];rintro e w1 ⟨rfl,rfl⟩)
 go_ret;have hr:=HH.o.jU;rw[OE.o]at hr;have hs:=afM hr (j:=q*2+1) (by omega)<|aB o;have fs:Fr (fun k=>h.pv.ownBlock=ae k) w (w.setCell ⟨g,q*2+1,af⟩<|aB o):=(Fr.refl (fun k=>h.pv.ownBlock=ae k) w).setCell (p:=⟨g,q*2+1,af⟩) (.inl (by rw[OE.o];rfl)) _;have hh:=HH.o;have row:∀{ty:dw} {wd:Nat} {v:az} {k:Nat} {xs:List az},w.ownsRow B ty wd v k xs->ty≠98->(w.setCell ⟨g,q*2+1,af⟩<|aB o).ownsRow B ty wd v k xs:=fun ho h5=>fs.ownsRow ho (fun q hq e=>by
  have t0:=iK ho hq;rw[iK hh.jU e]at t0;exact h5 t0.symm)
 have dX:aF (w.setCell ⟨g,q*2+1,af⟩<|aB o) B xb n (h.gZ q {p with out:=o}):=by
  refine⟨(fs.block xb (aX hh.blk) hh.aaL).trans hh.blk,row hh.kT<|by decide,?_,row hh.mV<|by decide,fun a ha=>?_,hh.hx,hh.hP,?_,hh.h6⟩
  ·show(w.setCell ⟨g,q*2+1,af⟩<|aB o).ownsRow B 98 2 h.pv (h.pl.set q {p with out:=o}).length (pI<|h.pl.set q {p with out:=o});rw[zF,agN h.pl q p o HP.o,OE.o];exact hs
  ·have hm:∃a'∈h.pl,a'.lb=a.lb/\a'.bm=a.bm/\a'.v=a.v/\a'.s=a.s:=by
    rcases ae7 ha with e|e
    ·exact⟨a,e,rfl,rfl,rfl,rfl⟩
    ·exact⟨p,gz HP.o,by rw[e],by rw[e],by rw[e],by rw[e]⟩
   obtain⟨a',h1,h2,h3,h4,h5⟩:=hm;rw[<-h2,<-h3,<-h4,<-h5];refine(hh.ed a' h1).stay fs fun k e hf=>?_;have t0:=iK hh.jU e;rcases(hh.ed a' h1).tags hf with t1|t1|t1<;>rw[t0]at t1<;>cases t1
  ·show h.Q=((h.pl.set q _).length:Int)/\_;rw[zF];exact hh.hQ
 refine⟨rfl,dX,fs.mono fun k e=>.inl<|.inr<|.inr<|.inl e,fun k hk=>?_⟩;rcases hk with e|e|e|e|⟨a,ha,hf⟩
 ·exact .inl<|.inl e
 ·exact .inl<|.inr<|.inl e
 ·exact .inl<|.inr<|.inr<|.inl e
 ·exact .inl<|.inr<|.inr<|.inr<|.inl e
 ·rcases ae7 ha with e|e
  ·exact .inl<|.inr<|.inr<|.inr<|.inr ⟨a,e,hf⟩
  ·subst e;exact .inl<|.inr<|.inr<|.inr<|.inr ⟨p,gz HP.o,hf⟩
end
end
section
def Jn(pl:List PL)(L:List Rc)(P:Int):Prop:=
 ∀(q:Nat) (p:PL),pl[q]? =ae p->∀i t,p.s.nw i=ae (t,true)->0<=i/\i<P/\1<=(bz L i).s/\(bz L i).t=t/\(q:Int)∈(bz L i).ps
structure yL(P Q:Int)(L:List Rc)(m:Ms):Prop where
 k:m.k=1\/m.k=2
 q:0<=m.q/\m.q<Q
 p:0<=m.p/\m.p<P
 t:0<=m.t/\m.t<=(bz L m.p).t
 s:m.t=(bz L m.p).t->(bz L m.p).s≠1
 ps:m.t=(bz L m.p).t->m.q∈(bz L m.p).ps
def OG(pl:List PL)(m:Ms):Prop:=∀(q:Nat) (p:PL),pl[q]? =ae p->m.q=(q:Int)->p.s.nw m.p≠ae (m.t,true)
def uG(pl:List PL)(P Q:Int)(L:List Rc)(F:List Ms):Prop:=∀m∈F,yL P Q L m/\(m.k=2->OG pl m)
structure Lp(tm:Int)(x:PS):Prop where
 si:0<=x.si/\x.si<=tm
 wa: -tm<=x.wa/\x.wa<=16
 ga:0<=x.ga/\x.ga<=16
def Ff(tm:Int)(ps:List PS):Prop:=∀x∈ps,Lp tm x
variable{tm:Int}{x:PS}{ps:List PS}
def Lp.bY(h:Lp tm x)(ht:0<=tm)(r:Rc):Lp tm (x.bY r):=by
 unfold PS.bY;split
 ·exact⟨h.si,h.wa,h.ga⟩
 ·split
  ·obtain⟨_,_,_,r4,r5,r6⟩:=G6 ({x with s:=1,t:=r.m}:PS) r.a 1;exact⟨by rw[r4];exact h.si,by rw[r5];exact h.wa,by rw[r6];exact h.ga⟩
  ·split
   ·exact⟨h.si,by simp only;omega,by simp only;omega⟩
   ·exact⟨by simp only;omega,by simp only;omega,by simp only;omega⟩
def agP(ht:0<=tm):Lp tm pJ:=⟨by simp only[pJ];omega,by simp only[pJ];omega,by simp only[pJ];omega⟩
def Ff.set(h:Ff tm ps)(hx:Lp tm x)(i:Nat):Ff tm (ps.set i x):=fun z hz=>by
 rcases ae7 hz with hz|rfl
 ·exact h z hz
 ·exact hx
def Ff.jV(h:Ff tm ps)(ht:0<=tm)(r:Rc):Ff tm (jV ps r):=by
 refine h.set (Lp.bY ?_ ht r) _;by_cases hl:r.p.toNat<ps.length
 ·rw[QJ,eY hl];exact h _<|List.getElem_mem hl
 ·rw[QJ,afe<|by omega];exact agP ht
def apu(ht:0<=tm):Ff tm wE:=fun x hx=>by
 simp only[wE,jR,pF,pG,or_self]at hx;subst hx;exact agP ht
def apv(ht:0<=tm)(L:List Rc):Ff tm (replay L):=by
 suffices h:∀(L:List Rc) (ps:List PS),Ff tm ps->Ff tm (L.foldl Go.Proofs.YtkelpcjiediamaaGreat.jV ps)from h L wE (apu ht)
 intro L;induction L with
 |nil=>intro ps h;exact h
 |cons r L ih=>intro ps h;exact ih _<|h.jV ht r
section
variable{h:HS}
variable{P Q:Int}{L:List Rc}
def Valid.end_(hv:Valid P Q L):∀r∈L,r.k=3->r.a=0\/r.a=1:=by
 induction hv with
 |nil=>intro r hr;simp at hr
 | @snoc L r hv hn ih=>
   intro x hx hk;rcases oP.1 hx with hx|hx
   ·exact ih x hx hk
   ·rw[oN.1 hx]at hk⊢
    rcases hn.kind with⟨h1,_⟩|⟨h1,_⟩|⟨_,h2,_⟩|⟨h1,_⟩
    ·omega
    ·omega
    ·exact h2
    ·omega
def Jn.snoc{pl:List PL}{L:List Rc}{P Q:Int}{r:Rc}(ho:Jn pl L P)(hn:Next P Q L r)(h4:r.k=4->∀(q:Nat) (p:PL),pl[q]? =ae p->∀t,p.s.nw r.p≠ae (t,true)):Jn pl (L++[r]) P:=by
 intro q p hp i t hi;obtain⟨h0,h1,h2,h3,h5⟩:=ho q p hp i t hi;rw[xJ];by_cases e:r.p=i
 ·subst e;rcases hn.kind with⟨k1,k2,k3⟩|⟨k1,k2,k3⟩|⟨k1,k2,k3,k4⟩|⟨k1,k2,k3,k4⟩
  ·rw[show(bz L r.p).step r.p r={bz L r.p with e:=r.m}by simp[St.step,k1]];exact⟨h0,h1,h2,h3,h5⟩
  ·rw[show(bz L r.p).step r.p r=⟨(bz L r.p).e,r.m,1,(if(bz L r.p).s=0 then[]else(bz L r.p).ps)++[r.a]⟩by simp[St.step,k1]];rcases k3 with⟨k3,k4⟩|⟨k3,k4,k5⟩
   ·omega
   ·refine⟨h0,h1,by simp,by simp only;omega,?_⟩;simp only[k3];rw[if_neg<|by decide];exact KT _ h5
  ·rw[show(bz L r.p).step r.p r={bz L r.p with s:=3-r.a}by simp[St.step,k1]];exact⟨h0,h1,by simp only;omega,h3,h5⟩
  ·exact absurd hi<|h4 k1 q p hp t
 ·rw[St.GZ _ e];exact⟨h0,h1,h2,h3,h5⟩
def yL.snoc{P Q:Int}{L:List Rc}{r:Rc}{m:Ms}(hm:yL P Q L m)(hn:Next P Q L r):yL P Q (L++[r]) m:=by
 obtain⟨hk,hq,hp,ht,hs,gI⟩:=hm;by_cases e:r.p=m.p
 ·refine⟨hk,hq,hp,?_,?_,?_⟩<;>rw[xJ]<;>rw[<-e]at ht hs gI⊢
  ·rcases hn.kind with⟨k1,k2,k3⟩|⟨k1,k2,k3⟩|⟨k1,k2,k3,k4⟩|⟨k1,k2,k3,k4⟩
   ·rw[show(bz L r.p).step r.p r={bz L r.p with e:=r.m}by simp[St.step,k1]];exact ht
   ·rw[show(bz L r.p).step r.p r=⟨(bz L r.p).e,r.m,1,(if(bz L r.p).s=0 then[]else(bz L r.p).ps)++[r.a]⟩by simp[St.step,k1]];simp only;rcases k3 with⟨k3,k4⟩|⟨k3,k4,k5⟩<;>omega
   ·rw[show(bz L r.p).step r.p r={bz L r.p with s:=3-r.a}by simp[St.step,k1]];exact ht
   ·rw[show(bz L r.p).step r.p r={bz L r.p with s:=0}by simp[St.step,k1]];exact ht
  ·rcases hn.kind with⟨k1,k2,k3⟩|⟨k1,k2,k3⟩|⟨k1,k2,k3,k4⟩|⟨k1,k2,k3,k4⟩
   ·rw[show(bz L r.p).step r.p r={bz L r.p with e:=r.m}by simp[St.step,k1]];exact hs
   ·rw[show(bz L r.p).step r.p r=⟨(bz L r.p).e,r.m,1,(if(bz L r.p).s=0 then[]else(bz L r.p).ps)++[r.a]⟩by simp[St.step,k1]];simp only;rcases k3 with⟨k3,k4⟩|⟨k3,k4,k5⟩
    ·omega
    ·intro e2;exact absurd k3<|hs<|by omega
   ·rw[show(bz L r.p).step r.p r={bz L r.p with s:=3-r.a}by simp[St.step,k1]];simp only;omega
   ·rw[show(bz L r.p).step r.p r={bz L r.p with s:=0}by simp[St.step,k1]];simp
  ·rcases hn.kind with⟨k1,k2,k3⟩|⟨k1,k2,k3⟩|⟨k1,k2,k3,k4⟩|⟨k1,k2,k3,k4⟩
   ·rw[show(bz L r.p).step r.p r={bz L r.p with e:=r.m}by simp[St.step,k1]];exact gI
   ·rw[show(bz L r.p).step r.p r=⟨(bz L r.p).e,r.m,1,(if(bz L r.p).s=0 then[]else(bz L r.p).ps)++[r.a]⟩by simp[St.step,k1]];simp only;rcases k3 with⟨k3,k4⟩|⟨k3,k4,k5⟩
    ·intro e2;omega
    ·intro e2;exact absurd k3<|hs<|by omega
   ·rw[show(bz L r.p).step r.p r={bz L r.p with s:=3-r.a}by simp[St.step,k1]];exact gI
   ·rw[show(bz L r.p).step r.p r={bz L r.p with s:=0}by simp[St.step,k1]];exact gI
 ·refine⟨hk,hq,hp,?_,?_,?_⟩<;>rw[xJ,St.GZ _ e]
  ·exact ht
  ·exact hs
  ·exact gI
def uG.snoc{pl:List PL}{P Q:Int}{L:List Rc}{F:List Ms}{r:Rc}(hm:uG pl P Q L F)(hn:Next P Q L r):uG pl P Q (L++[r]) F:=fun m hx=>⟨(hm m hx).1.snoc hn,(hm m hx).2⟩
def Valid.parts(hv:Valid P Q L):∀p,(bz L p).s≠0->(bz L p).ps≠[]:=by
 induction hv with
 |nil=>intro p h;exact absurd rfl h
 | @snoc L r hv hn ih=>
   intro p;rw[xJ];by_cases e:r.p=p
   ·subst e;rcases hn.kind with⟨k1,k2,k3⟩|⟨k1,k2,k3⟩|⟨k1,k2,k3,k4⟩|⟨k1,k2,k3,k4⟩
    ·rw[show(bz L r.p).step r.p r={bz L r.p with e:=r.m}by simp[St.step,k1]];exact ih r.p
    ·rw[show(bz L r.p).step r.p r=⟨(bz L r.p).e,r.m,1,(if(bz L r.p).s=0 then[]else(bz L r.p).ps)++[r.a]⟩by simp[St.step,k1]];simp
    ·rw[show(bz L r.p).step r.p r={bz L r.p with s:=3-r.a}by simp[St.step,k1]];exact fun _=>ih r.p<|by omega
    ·rw[show(bz L r.p).step r.p r={bz L r.p with s:=0}by simp[St.step,k1]];intro z;exact absurd rfl z
   ·rw[St.GZ _ e];exact ih p
def Next.valid{r:Rc}(hn:Next P Q L r)(hv:Valid P Q L):Valid P Q (L++[r]):=.snoc hv hn
def apw(L:List Rc)(r:Rc):(L++[r]).flatMap dJ=L.flatMap dJ++dJ r:=by simp
end
end
section
section
variable{r:Rc}
def apx{ps:List PS}{i:Nat}{x:PS}(hx:(jV ps r)[i]? =ae x)(hp:0<=r.p)(h6:r.p<6)(hl:ps.length=6):(∃x0,ps[i]? =ae x0/\r.p=i/\x=x0.bY r)\/(r.p≠i/\ps[i]? =ae x):=by
 obtain⟨k,hk⟩:=uA hp;have e:r.p.toNat=k:=by omega
 unfold jV at hx;rw[e]at hx;have nZ:k<ps.length:=by omega
 by_cases h1:k=i
 ·subst h1;rw[mQ nZ]at hx;refine .inl ⟨ps[k],eY nZ,hk,?_⟩;have:=qX hx;rw[<-this];simp[List.getD,eY nZ]
 ·rw[uZ h1]at hx;exact .inr ⟨by omega,hx⟩
end
end
section
section
variable{h:HS}
def Cc{α:Type}{l:List α}{k i:Nat}{v a:α}(hi:(l.set k v)[i]? =ae a):(i=k/\a=v)\/(i≠k/\l[i]? =ae a):=by
 by_cases e:i=k
 ·subst e;have hl:i<(l.set i v).length:=(dM.1 hi).1;rw[zF]at hl;rw[mQ hl]at hi;exact .inl ⟨rfl,(qX hi).symm⟩
 ·rw[uZ fun e2=>e e2.symm]at hi;exact .inr ⟨e,hi⟩
variable{i P t0:Int}{pl:List PL}{L:List Rc}{q:Nat}{p':PL}{s:aH}
def Jn.set(o:Jn pl L P)(hn:∀i t,p'.s.nw i=ae (t,true)->0<=i/\i<P/\1<=(bz L i).s/\(bz L i).t=t/\(q:Int)∈(bz L i).ps):Jn (pl.set q p') L P:=by
 intro j a ha i t hi;rcases Cc ha with⟨e1,rfl⟩|⟨e1,ha'⟩
 ·rw[e1];exact hn i t hi
 ·exact o j a ha' i t hi
def uG.set{Q:Int}{F:List Ms}(hm:uG pl P Q L F){p:PL}(hp:pl[q]? =ae p)(ho:∀i t,p'.s.nw i=ae (t,true)->p.s.nw i=ae (t,true)\/((bz L i).s=1/\(bz L i).t=t)):uG (pl.set q p') P Q L F:=by
 intro m hx;refine⟨(hm m hx).1,fun h2 j a ha hj hi=>?_⟩;rcases Cc ha with⟨e1,rfl⟩|⟨e1,ha'⟩
 ·subst e1;rcases ho _ _ hi with e|⟨e,e2⟩
  ·exact(hm m hx).2 h2 j p hp hj e
  ·exact(hm m hx).1.s e2.symm e
 ·exact(hm m hx).2 h2 j a ha' hj hi
def WJ{j t:Int}(h:(s.opened i t0).nw j=ae (t,true)):s.nw j=ae (t,true)\/(j=i/\t=t0):=by
 unfold aH.opened at h;split at h
 ·unfold aH.set at h;simp only at h;split at h
  ·rename_i e;simp only[gu,uD,and_true]at h;exact .inr ⟨e,h.symm⟩
  ·exact .inl h
 ·exact .inl h
def apy{x:ByteArray}:(s.lC i t0 x).nw=s.nw:=by
 unfold aH.lC;split<;>rfl
end
end
section
attribute [local go_sem ↓] Go.wp_at_zero Go.wp_at_succ
def abl:∀(l:List Ms) (k:Nat) (e:Ms) (j:Nat),l[k]? =ae e->j<5->(l.flatMap Ms.cs)[k*5+j]? =e.cs[j]?
 |[],k,e,j,h,_=>by simp at h
 |x::r,0,e,j,h,hj=>by
  simp only[xE,gu]at h;subst h;simp only[oO,Nat.zero_mul,DK];exact uz<|by simpa[Ms.cs]using hj
 |x::r,k+1,e,j,h,hj=>by
  simp only[zB]at h;have:=abl r k e j h hj;rw[oO,xC (by simp[Ms.cs]<;>omega)];rw[<-this];congr 1;simp[Ms.cs]<;>omega
def WL{w:aj}{B:Nat}{v:az}{l:List Ms}(h:w.ownsRow B 119 5 v l.length (l.flatMap Ms.cs)){k:Nat}{e:Ms}(hk:l[k]? =ae e):
 ∃g cap,v=aJ (ae ⟨g,0,af⟩) l.length cap/\g<w.heap.size/\l.length<=cap/\cap<=dU/\w.cell? ⟨g,k*5,af⟩=ae (ag ah e.k)/\w.cell? ⟨g,k*5+1,af⟩=ae (ag ah e.q)/\w.cell? ⟨g,k*5+2,af⟩=ae (ag ah e.p)/\w.cell? ⟨g,k*5+3,af⟩=ae (ag ah e.t)/\w.cell? ⟨g,k*5+4,af⟩=ae (aB e.c):=by
 rcases h.2 with⟨rfl,h0⟩|⟨g,cap,cur,rfl,_,_,h1,h2,_⟩
 ·have:=(List.getElem?_eq_some_iff.mp hk).1;omega
 ·have hc:=h.cells (g:=g) rfl;have key:∀j u,j<5->e.cs[j]? =ae u->w.cell? ⟨g,k*5+j,af⟩=ae u:=fun j u hj hu=>by
   have:=hc (k*5+j) u<|(abl l k e j hk hj).trans hu;rw[aEn]at this;simpa using this
  exact⟨g,cap,rfl,(h.lt g rfl).2,h1,h2,key 0 _ (by omega) rfl,key 1 _ (by omega) rfl,key 2 _ (by omega) rfl,key 3 _ (by omega) rfl,key 4 _ (by omega) rfl⟩
section
variable{w:aj}{B:Nat}
end
end
section
def Jo:(prog.info? 119).map (fun i=>(i.zero,i.size,i.bytes))=ae (ae<|gY #[ag ah 0,ag ah 0,ag ah 0,ag ah 0,aB false],5,40):=by kernel_rfl
def HS.ig(h:HS)(v:az)(l:List Ms):HS:={h with fv:=v,fl:=l}
def HS.apz{h:HS}(h6:h.ps.length=6)(v:az)(l:List Ms):h.cells.toArray.setIfInBounds 69 v=(h.ig v l).cells.toArray:=by
 obtain⟨P,Q,T,K,jv,jb,up,ps,br,kp,pv,pl,fv,fl⟩:=h;obtain⟨⟨e0,t0,s0,a0,b0,c0,d0,x0,y0,z0⟩,⟨e1,t1,s1,a1,b1,c1,d1,x1,y1,z1⟩,⟨e2,t2,s2,a2,b2,c2,d2,x2,y2,z2⟩,⟨e3,t3,s3,a3,b3,c3,d3,x3,y3,z3⟩,⟨e4,t4,s4,a4,b4,c4,d4,x4,y4,z4⟩,⟨e5,t5,s5,a5,b5,c5,d5,x5,y5,z5⟩,rfl⟩:=V6 h6;kernel_rfl
section
variable{w w':aj}{B xb n:Nat}{h:HS}
def aF.abm{w3:aj}{fv:az}{l:List Ms}(hh:aF w B xb n h)(f3:Fr (fun q=>h.fv.ownBlock=ae q) w w3)(iO:w3.ownsRow B 119 5 fv l.length (l.flatMap Ms.cs))(dX:∀q,fv.ownBlock=ae q->h.fv.ownBlock=ae q\/w.heap.size<=q):bU w (w3.setCell ⟨xb,69,af⟩ fv) B xb n h n (h.ig fv l):=by
 have hz:=aX hh.blk;have n1:h.fv.ownBlock≠ae xb:=We hh.mV hh.blk (by decide);have fs:Fr (fun q=>q=xb) w3 (w3.setCell ⟨xb,69,af⟩ fv):=(Fr.refl (fun q=>q=xb) w3).setCell (p:=⟨xb,69,af⟩) (.inl rfl) _;have f4:Fr (fun q=>q=xb\/h.fv.ownBlock=ae q) w (w3.setCell ⟨xb,69,af⟩ fv):=(f3.mono fun q e=>.inl<|.inr e).trans fs fun q e=>.inl<|.inl e;have key:∀{ty:dw} {wd:Nat} {v:az} {n:Nat} {xs:List az},w.ownsRow B ty wd v n xs->ty≠119->ty≠111->∀q,v.ownBlock=ae q->¬(q=xb\/h.fv.ownBlock=ae q):=fun{ty wd v n xs} hr h1 h2 q hq e=>by
  have ht:=iK hr hq;rcases e with e|e
  ·subst e;rw[lM hh.blk]at ht;exact h2 ht.symm
  ·have:=iK hh.mV e;rw[ht]at this;exact h1 this
 refine⟨⟨?_,f4.ownsRow hh.kT<|key hh.kT (by decide)<|by decide,f4.ownsRow hh.jU<|key hh.jU (by decide)<|by decide,?_,fun p hp=>?_,hh.hx,hh.hP,hh.hQ,hh.h6⟩,?_,?_⟩
 ·rw[jT<|(f3.block _ hz n1).trans hh.blk,HS.apz hh.h6 fv l]
 ·refine fs.ownsRow iO fun q hq e=>?_;subst e;rcases dX _ hq with a|a
  ·exact n1 a
  ·omega
 ·refine(hh.ed p hp).stay f4 fun q hq hf=>?_;rcases hq with hq|hq
  ·subst hq;exact hh.Le hp hf
  ·have h0:=iK hh.mV hq;rcases(hh.ed p hp).tags hf with h1|h1|h1<;>rw[h0]at h1<;>cases h1
 ·exact f4.mono fun q e=>.inl (by rcases e with e|e;exact .inl e;exact .inr<|.inr<|.inr<|.inl e)
 ·intro x hx;rcases hx with e|e|e|e|e
  ·exact .inl<|.inl e
  ·exact .inl<|.inr<|.inl e
  ·exact .inl<|.inr<|.inr<|.inl e
  ·rcases dX x e with a|a
   ·exact .inl<|.inr<|.inr<|.inr<|.inl a
   ·exact .inr a
  ·exact .inl<|.inr<|.inr<|.inr<|.inr e
inductive xN(w w':aj)(B xb n:Nat)(h:HS)(m:Ms):Prop
 |lost (hl:100<=h.fl.length) (f:Fr aP w w'):xN w w' B xb n h m
 |ig (hl:h.fl.length<100) (fv:az) (mv:bU w w' B xb n h n (h.ig fv<|h.fl++[m])) (dX:∀q,fv.ownBlock=ae q->h.fv.ownBlock=ae q\/w.heap.size<=q):xN w w' B xb n h m
def abn(hh:aF w B xb n h)(m:Ms):
 aU prog 120 #[ay<|ae ⟨xb,69,af⟩,gY #[ag ah m.k,ag ah m.q,ag ah m.p,ag ah m.t,aB m.c]] w fun e w'=>e=aT (dK #[])/\xN w w' B xb n h m:=by
 obtain⟨i0,dR,iE,gG,iU⟩:=aEd Jo;have H:Hid (aF w B xb n h):=hh;have c0:=hh.cF;obtain⟨la,lc,hl,Dq⟩:=pq hh.mV;have WM:Hid (h.fv=.slice la h.fl.length lc):=hl;rw[hl]at c0;have cf:∀o,w.frozen? ⟨xb,o,af⟩=false:=jS hh.blk;have aI:=aX hh.blk;have yj:Value.ownBlock (.slice la h.fl.length lc)≠ae xb:=by rw[<-hl];exact We hh.mV hh.blk<|by decide
 have hBw:B<=w.heap.size:=aaq<|aai hh.hx aI;have Lm:Hid (w.ownsRow B 119 5 (.slice la h.fl.length lc) h.fl.length<|h.fl.flatMap Ms.cs):=by have:=hh.mV;rw[hl]at this;exact this
 clear hh hl Dq;by_cases hb:h.fl.length<100
 ·go_enter func120,ntmps120
  go_wp2_with fail
  go_region_law
   ((refine aEt _ (by rfl) _ _ _ (by rfl) B 119 i0 _ 5 40 underlying107 dR iE gG iU rfl (by omega) (.slice la h.fl.length lc) h.fl.length (h.fl.flatMap Ms.cs) (by rfl) (by exact(((bG _).alloc _).drew).ownsRow Lm.o fun _ _=>id)
      ⟨w.heap.size+1,0,af⟩ 1 1 [ag ah m.k,ag ah m.q,ag ah m.p,ag ah m.t,aB m.c] (by rfl) (by rfl) (aD7 (cs:=#[ag ah m.k,ag ah m.q,ag ah m.p,ag ah m.t,aB m.c]) (t:=119) (fr:=(0,0)) (by show((w.alloc _).alloc _).heap[_]? =_;exact BQ _<|by simp)) (by simp[Value.oneCell'])
      (by omega) (by simp only[dU];omega) (by omega) (by simp<;>omega) (w.heap.size+1+1) (by simp) ?_;intro gg cap w3 iO pX dX uk
     have l7:=(pX.block xb (by simp<;>omega)<|iW yj).trans<|(((bG _).alloc _).drew.block _ aI id).trans H.o.blk
     have k0:w3.cell? ⟨xb,69,af⟩=ae (.slice la h.fl.length lc):=(aK l7 69).trans<|by rw[(HS.c4 H.o.h6).2.2.2,WM.o]
     have k1:∀o,w3.frozen? ⟨xb,o,af⟩=false:=jS l7
     clear l7))
  all_goals
   go_wp2
   go_end0
   refine⟨rfl,.ig hb _ (H.o.abm (by rw[WM.o];exact(((((bG _).alloc _).drew).mono fun _ h=>h.elim).grown pX fun q e=>.inl e)) (by simpa[Ms.cs]using iO) ?_) ?_⟩
   all_goals
    intro q hq
    simp only[Value.ownBlock,gu]at hq
    subst hq
    rcases dX with a|a
    ·exact .inl (by rw[WM.o];exact a)
    ·exact .inr<|by omega
 ·go_enter func120,ntmps120
  go_wp2
  go_end0
  exact⟨rfl,.lost (by omega)<|bG _⟩
end
end
section
section
variable{w w':aj}{B xb n:Nat}{h:HS}
variable{k:Nat}{m:Ms}
def aBs(hh:aF w B xb n h)(hk:h.fl[k]? =ae m):
 aU prog 87 #[ay<|ae ⟨xb,0,af⟩,ag ah k] w fun r w'=>r=aT (dK #[gY #[ag ah m.k,ag ah m.q,ag ah m.p,ag ah m.t,aB m.c],ag ah 0])/\Fr aP w w':=by
 have HH:Hid (aF w B xb n h):=hh;have nZ:=(List.getElem?_eq_some_iff.mp hk).1;have HM:Hid (decide ((0:Int)<=k/\(k:Int)<h.fl.length)=true):=kF (by omega);have cF:=hh.cF;obtain⟨g,cap,e,hg,o6,lI,c0,c1,c2,c3,c4⟩:=WL hh.mV hk;unfold dU at lI;rw[e]at cF;have aI:=aX hh.blk;clear hh hk e;go_enter func87,ntmps87
 go_wp2_with (go_at_call 139;refine(Ox (by exact HH.o.after<|bG _) k).mono ?_;rw[HM.o];rintro e w1 ⟨rfl,rfl⟩)
 refine aEk (Ji rfl _ _ _ 119 _ (0,0) _ rfl (aDY _ _) underlying119 rfl<|by kernel_rfl) rfl ?_;exact⟨rfl,bG _⟩
def xN.behind{w1:aj}(f:Fr aP w w1)(s:xN w1 w' B xb n h m):xN w w' B xb n h m:=by
 cases s with
 |lost hl g=>exact .lost hl<|f.trans g fun _ h=>h.elim
 |ig hl fv mv dX=>exact .ig hl fv ⟨mv.at_,(f.mono fun _ h=>h.elim).trans mv.fr fun _=>.inl,fun k hk=>by
   rcases mv.sub k hk with e|e
   ·exact .inl e
   ·exact .inr<|eG f.size e⟩ (fun q hq=>by
   rcases dX q hq with e|e
   ·exact .inl e
   ·exact .inr<|eG f.size e)
def apA(hh:aF w B xb n h)(hk:h.fl[k]? =ae m):
 aU prog 85 #[ay<|ae ⟨xb,0,af⟩,ag ah k] w fun r w'=>r=aT (ag ah 0)/\xN w w' B xb n h m:=by
 have HH:Hid (aF w B xb n h):=hh;have nZ:=(List.getElem?_eq_some_iff.mp hk).1;have HM:Hid (decide ((0:Int)<=k/\(k:Int)<h.fl.length)=true):=kF (by omega);have cF:=hh.cF;obtain⟨g,cap,e,hg,o6,lI,c0,c1,c2,c3,c4⟩:=WL hh.mV hk;unfold dU at lI;rw[e]at cF;have aI:=aX hh.blk;clear hh hk e;go_enter func85,ntmps85
 go_wp2_with (go_at_call 139;refine(Ox HH.o k).mono ?_;rw[HM.o];rintro e w1 ⟨rfl,rfl⟩)
 go_region_law
  ((go_simp;go_at_call 120;refine(abn (HH.o.after<|(Fr.refl _ _).drew) m).mono ?_;rintro e w2 ⟨rfl,hs⟩
    have S2:Hid (xN w w2 B xb n h m):=hs.behind<|(Fr.refl _ _).drew
    clear hs))
 all_goals
  go_wp2
  go_ret
  exact⟨rfl,S2.o⟩
end
end
def apB{w:aj}{B lb bm n:Nat}{v:az}{s:aH}(h:dY w B lb bm v n s)(p t:Int)(c:Bool)(hp:(Lit.int .i64 p).wf=true)(hn:n<dU)(hb:(s.es.length+1)*40<=140737488355328):
 aU prog 187 #[ay<|ae ⟨lb,0,af⟩,.int .i64 p,.int .i64 t,.bool c] w fun e w'=>e=aT (.bool<|s.isOpen p t)/\
  ∃v',Left w w' B lb bm v v' (n+1) (s.closed p t c):=by
 have H:Hid (dY w B lb bm v n s):=h
 have HP:Hid ((Lit.int .i64 p).wf=true):=hp
 have HN:Hid (n<dU):=hn
 have HK:Hid (keyOf prog 3 (.int .i64 p)=ae (.int .i64 p)):=aEN underlying3 hp
 have HB:Hid ((s.es.length+1)*40<=140737488355328):=hb
 clear h hp hb hn
 by_cases ho:s.isOpen p t=true
 ·cases c
  ·have hs:s.closed p t false=(s.put ⟨3,p,t,⟨#[]⟩⟩).set p t false:=by simp[aH.closed,ho,aH.xI]
   rw[hs,ho]
   clear hs
   go_enter func187,ntmps187
   go_wp2_with (first
    |(go_at_call 122;refine(GU H.o _ _ HP.o).mono ?_;rintro e w' ⟨rfl,rfl⟩)
    |(go_at_call 184;refine(aau H.o ⟨3,p,t,⟨#[]⟩⟩ HB.o).mono ?_;rintro e w1 ⟨rfl,v',kY,bM,jJ⟩
      have k1:w1.cell? ⟨lb,2,af⟩=ae (.map<|ae bm):=by rw[aK kY.blk];rfl)
    |(at_mapUpdate;refine QP _ rfl _ _ _ 161 rfl 3 189 AV underlying161 bm n (jw s.nw) rfl (by exact kY.map) HN.o _ _ _ rfl rfl HK.o (jw ((s.put ⟨3,p,t,⟨#[]⟩⟩).set p t false).nw) (Oi _ _ _ _) (Oj _ _ _ _) ?_;intro w2 ED Nh))
   go_ret
   have f2:Fr (fun k=>k=bm) w1 w2:=(Fr.refl (fun k=>k=bm) w1).KX Nh<|.inl rfl
   refine⟨rfl,v',kY.Ol f2 ED,?_,jJ⟩
   exact(bM.mono fun k hk=>.inl (by rcases hk with e|e;exact .inl e;exact .inr<|.inr e)).trans f2 fun k hk=>.inl<|.inr<|.inl hk
  ·have hs:s.closed p t true=(s.put ⟨2,p,t,⟨#[]⟩⟩).set p t false:=by simp[aH.closed,ho,aH.xI]
   rw[hs,ho]
   clear hs
   go_enter func187,ntmps187
   go_wp2_with (first
    |(go_at_call 122;refine(GU H.o _ _ HP.o).mono ?_;rintro e w' ⟨rfl,rfl⟩)
    |(go_at_call 184;refine(aau H.o ⟨2,p,t,⟨#[]⟩⟩ HB.o).mono ?_;rintro e w1 ⟨rfl,v',kY,bM,jJ⟩
      have k1:w1.cell? ⟨lb,2,af⟩=ae (.map<|ae bm):=by rw[aK kY.blk];rfl)
    |(at_mapUpdate;refine QP _ rfl _ _ _ 161 rfl 3 189 AV underlying161 bm n (jw s.nw) rfl (by exact kY.map) HN.o _ _ _ rfl rfl HK.o (jw ((s.put ⟨2,p,t,⟨#[]⟩⟩).set p t false).nw) (Oi _ _ _ _) (Oj _ _ _ _) ?_;intro w2 ED Nh))
   go_ret
   have f2:Fr (fun k=>k=bm) w1 w2:=(Fr.refl (fun k=>k=bm) w1).KX Nh<|.inl rfl
   refine⟨rfl,v',kY.Ol f2 ED,?_,jJ⟩
   exact(bM.mono fun k hk=>.inl (by rcases hk with e|e;exact .inl e;exact .inr<|.inr e)).trans f2 fun k hk=>.inl<|.inr<|.inl hk
 ·have hs:s.closed p t c=s:=by simp[aH.closed,ho]
  have ui:s.isOpen p t=false:=by simpa using ho
  rw[hs,ui]
  clear hs ho
  go_enter func187,ntmps187
  go_wp2_with (go_at_call 122;refine(GU H.o _ _ HP.o).mono ?_;rintro e w' ⟨rfl,rfl⟩)
  go_ret
  exact⟨rfl,v,H.o.mono<|by omega,Fr.refl _ _,fun k hk=>.inl hk⟩
section
def Ms.kZ(m:Ms):Ms:={m with k:=2}
def nU{w:aj}{a:Addr}{v:az}(hc:w.cell? a=ae v):a.block<w.heap.size:=by
 unfold World.cell? at hc;split at hc
 ·rename_i hb;exact(jk.1 hb).1
 ·cases hc
def dY.qK{w:aj}{B lb bm n:Nat}{v:az}{s:aH}(h:dY w B lb bm v n s){k:Nat}(hk:k=lb\/k=bm\/v.ownBlock=ae k):k<w.heap.size:=by
 rcases hk with rfl|rfl|e
 ·exact h.lt
 ·exact h.map.lt
 ·exact(h.row.lt _ e).2
def Left.told{w W w1:aj}{B lb bm n:Nat}{v v':az}{s:aH}(h:Left W w1 B lb bm v v' n s)(f:Fr aP w W)(o o':Obj):
 ((w1.alloc o).alloc o').heap[w1.heap.size+1]? =ae o'/\w.heap.size<=w1.heap.size+1/\Left w ((w1.alloc o).alloc o') B lb bm v v' n s:=by
 have f2:Fr aP w1 ((w1.alloc o).alloc o'):=((Fr.refl _ _).alloc _).alloc _;have h1:=aDY (w1.alloc o) o';have hs:=h.fr.size;have um:=f.size;refine⟨by simpa using h1,by omega,f2.logAt h.log id id fun _ _=>id,?_,fun k hk=>?_⟩
 ·exact(f.mono fun _ h=>h.elim).trans (h.fr.trans (f2.mono fun _ h=>h.elim) fun _ h=>.inl h) fun _ h=>.inl h
 ·rcases h.Om k hk with e|e
  ·exact .inl e
  ·exact .inr<|by omega
section
variable{w:aj}{B lb bm n:Nat}{v:az}{s:aH}
variable{pb po:Nat}
def apC(c1:w.cell? ⟨pb,po+1,af⟩=ae (.bool true))(m:Ms):
 aU prog 141 #[ay<|ae ⟨pb,po,af⟩,gY #[.int .i64 m.k,.int .i64 m.q,.int .i64 m.p,.int .i64 m.t,.bool m.c]] w fun e w'=>e=aT (aJ af 0 0)/\Fr aP w w':=by
 have aI:pb<w.heap.size:=nU c1;go_enter func141,ntmps141
 go_wp2
 go_ret;exact⟨rfl,bG _⟩
def apD(h:dY w B lb bm v n s)(c0:w.cell? ⟨pb,po,af⟩=ae (ptr lb))(c1:w.cell? ⟨pb,po+1,af⟩=ae (.bool false))(m:Ms)
 (hp:(Lit.int .i64 m.p).wf=true)(hn:n<dU)(hb:(s.es.length+1)*40<=140737488355328):
 aU prog 141 #[ay<|ae ⟨pb,po,af⟩,gY #[.int .i64 m.k,.int .i64 m.q,.int .i64 m.p,.int .i64 m.t,.bool m.c]] w fun e w'=>
  ∃b v',e=aT (aJ (ae ⟨b,0,af⟩) 1 1)/\w'.heap[b]? =ae (.cells m.kZ.cs.toArray 119 (0,0))/\w.heap.size<=b/\Left w w' B lb bm v v' (n+1) (s.closed m.p m.t m.c):=by
 have H:Hid (dY w B lb bm v n s):=h
 have HP:Hid ((Lit.int .i64 m.p).wf=true):=hp
 have HN:Hid (n<dU):=hn
 have HB:Hid ((s.es.length+1)*40<=140737488355328):=hb
 clear h hp hb hn
 unfold ptr at c0
 have aI:pb<w.heap.size:=nU c1
 go_enter func141,ntmps141
 have HF:Hid (¬(w.heap.size=lb\/w.heap.size=bm\/v.ownBlock=ae w.heap.size)):=fun e=>Og _<|H.o.qK e
 go_wp2
 go_region_law
  ((go_simp;go_at_call 187;refine(apB (Fr.logAt ((bG _).trans ((Fr.refl (fun _=>False) _).drew) fun _ h=>h.elim) H.o id id fun _ _=>id) m.p m.t m.c HP.o HN.o HB.o).mono ?_;rintro e w1 ⟨rfl,v',kY⟩
    have H1:Hid (Left (w.alloc<|aC #[.int .i64 m.k,.int .i64 m.q,.int .i64 m.p,.int .i64 m.t,.bool m.c] 119).drew w1 B lb bm v v' (n+1)<|s.closed m.p m.t m.c):=kY
    have Dl:w1.heap[w.heap.size]? =ae (aC #[.int .i64 m.k,.int .i64 m.q,.int .i64 m.p,.int .i64 m.t,.bool m.c] 119 (0,0)):=(kY.fr.block w.heap.size (by simp) HF.o).trans<|aDY _ _
    have k0:w1.cell? ⟨w.heap.size,0,af⟩=ae (.int .i64 m.k):=by rw[aK Dl];rfl
    have k1:w1.cell? ⟨w.heap.size,1,af⟩=ae (.int .i64 m.q):=by rw[aK Dl];rfl
    have k2:w1.cell? ⟨w.heap.size,2,af⟩=ae (.int .i64 m.p):=by rw[aK Dl];rfl
    have k3:w1.cell? ⟨w.heap.size,3,af⟩=ae (.int .i64 m.t):=by rw[aK Dl];rfl
    have k4:w1.cell? ⟨w.heap.size,4,af⟩=ae (.bool m.c):=by rw[aK Dl];rfl
    clear kY Dl))
 all_goals
  go_wp2
  go_ret
  exact⟨w1.heap.size+1,v',rfl,(H1.o.told ((bG _).trans ((Fr.refl (fun _=>False) _).drew) fun _ h=>h.elim) _ _)⟩
end
end
end Go.Proofs.YtkelpcjiediamaaGreat
