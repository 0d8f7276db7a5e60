import Derived.Test.YtkelpcjiediamaaGreatQb27
set_option maxRecDepth 100000
set_option maxHeartbeats 0
set_option linter.all false
namespace Go.Proofs.YtkelpcjiediamaaGreat
open Go renaming Calls→aK,TypeId→bW,Value→aj,World→ah,maxLen→dH
open Go.RowKit renaming intOf→dX
open Option renaming none→af,some→ae
open Go.Proofs.Tryz
open Go.RowKit Go.Maps
section
structure J7(w:ah)(kb nb cb sb xb i:Nat)(h:HS):Prop where
 k:w.heap[kb]? =ae (.cells #[.pointer<|ae ⟨xb,4,af⟩] 181 (0,0))
 n:w.heap[nb]? =ae (.cells #[.int .i64 i] 3 (0,0))
 c:w.heap[cb]? =ae (.cells #[.int .i64 h.P,.int .i64 h.Q,.int .i64 h.T,.int .i64 h.K] 23 (0,0))
 s:w.heap[sb]? =ae (.cells #[.func (.func 120) #[.pointer<|ae ⟨xb,69,af⟩] #[]] 120 (0,0))
def CQ(kb nb cb sb:Nat):Array Value:=#[.pointer<|ae ⟨kb,0,af⟩,.pointer<|ae ⟨nb,0,af⟩,.pointer<|ae ⟨cb,0,af⟩,.pointer<|ae ⟨sb,0,af⟩]
inductive J8(h:HS)(i:Nat)(x:PS):HS->Prop
 |wait (hw:1<x.wa):J8 h i x (h.dE i {x with wa:=x.wa-1})
 |due (fv:aj) (hw:x.wa<=1):J8 h i x ((h.gp fv<|uG h.fl i x.t (x.s==2)<|bF x.aT 2 4).dE i {x with wa:=x.ga,ga:=min (2*x.ga) h.K})
inductive uH(h:HS)(i:Nat)(x:PS):Bool->HS->Prop
 |vI (hs:x.s=1) (ht:x.si+1<h.T):uH h i x true (h.dE i {x with si:=x.si+1})
 |timeout {ok:Bool} {h':HS} (hs:x.s=1) (ht:h.T<=x.si+1) (hw:jo (h.dE i {x with si:=x.si+1}) ⟨3,i,0,x.t⟩ ok h'):uH h i x ok h'
 |rem {h':HS} (hs:x.s=2\/x.s=3) (hr:J8 h i x h'):uH h i x true h'
 |idle (hs:¬(x.s=1\/x.s=2\/x.s=3)):uH h i x true h
section
variable{w w':ah}{B xb n:Nat}{h:HS}
variable{i kb nb cb sb:Nat}{x:PS}
def ay.ZV(hh:ay w B xb n h)(hx:h.ps[i]? =ae x)(q:Nat):bI w ((w.drewN q).setCell ⟨xb,6+i*10+7,af⟩<|.int .i64<|x.si+1) B xb n h n (h.dE i {x with si:=x.si+1}):=by
 have a1:=(hh.after<|(Fr.refl _ _).drewN q).setCell {x with si:=x.si+1} hx (j:=7) (v:=.int .i64<|x.si+1) (by omega) rfl;exact(bI.own (h:=h) (n:=n) a1.2 a1.1 fun k hk=>hk).behind<|(Fr.refl _ _).drewN q
def aoh(hh:ay w B xb n h)(hc:J7 w kb nb cb sb xb i h)(hi:i<6)(hx:h.ps[i]? =ae x)(hs:x.s=1)(ht:x.si+1<h.T)(hb:0<=x.si/\x.si<=1000000000000):
 aK prog 172 (CQ kb nb cb sb) w fun e w'=>e=.returned (.bool true)/\bI w w' B xb n h n (h.dE i {x with si:=x.si+1}):=by
 have HH:Hid (ay w B xb n h):=hh;have HX:Hid (h.ps[i]? =ae x):=hx;obtain⟨⟨_,e1,e2⟩,ef⟩:=hh.cellP hx;rw[hs]at e2;have c7:w.cell? ⟨xb,6+i*10+7,af⟩=ae (.int .i64 x.si):=hh.iJ hx 7 _ rfl;have k0:w.cell? ⟨kb,0,af⟩=ae (.pointer<|ae ⟨xb,4,af⟩):=(aG hc.k 0).trans rfl;have n0:w.cell? ⟨nb,0,af⟩=ae (.int .i64 i):=(aG hc.n 0).trans rfl;have t0:w.cell? ⟨cb,2,af⟩=ae (.int .i64 h.T):=(aG hc.c 2).trans rfl;have t1:w.cell? ⟨cb,3,af⟩=ae (.int .i64 h.K):=(aG hc.c 3).trans rfl;have s0:w.cell? ⟨sb,0,af⟩=ae (.func (.func 120) #[.pointer<|ae ⟨xb,69,af⟩] #[]):=(aG hc.s 0).trans rfl;have NE:Hid (¬cb=xb/\¬kb=xb/\¬nb=xb):=by
  refine⟨fun e=>?_,fun e=>?_,fun e=>?_⟩
  ·have a:=hc.c;rw[e,hh.blk]at a;simp at a
  ·have a:=hc.k;rw[e,hh.blk]at a;simp at a
  ·have a:=hc.n;rw[e,hh.blk]at a;simp at a
 have kG:(i:Int)<6:=by omega
 have dF:(0:Int)<=(i:Int):=by omega
 have aB:=aS hh.blk;unfold CQ;have ne1:=NE.out.1;clear hh hx hc;go_enter func172,ntmps172
 go_wp2_with fail
 go_quiet (fail)
 go_wp2_with fail
 go_quiet (fail)
 go_wp2
 go_ret;exact⟨rfl,(HH.out.ZV HX.out _).after<|(Fr.refl _ _).drewN _⟩
def aoi(hh:ay w B xb n h)(hc:J7 w kb nb cb sb xb i h)(hi:i<6)(hx:h.ps[i]? =ae x)(hs:x.s=1)(ht:h.T<=x.si+1)(hb:0<=x.si/\x.si<=1000000000000)(hm:lM h ⟨3,i,0,x.t⟩):
 aK prog 172 (CQ kb nb cb sb) w fun e w'=>∃ok h',e=.returned (.bool ok)/\jo (h.dE i {x with si:=x.si+1}) ⟨3,i,0,x.t⟩ ok h'/\bI w w' B xb n h n h':=by
 have HH:Hid (ay w B xb n h):=hh;have HX:Hid (h.ps[i]? =ae x):=hx;obtain⟨⟨_,e1,e2⟩,ef⟩:=hh.cellP hx;rw[hs]at e2;have c7:w.cell? ⟨xb,6+i*10+7,af⟩=ae (.int .i64 x.si):=hh.iJ hx 7 _ rfl;have k0:w.cell? ⟨kb,0,af⟩=ae (.pointer<|ae ⟨xb,4,af⟩):=(aG hc.k 0).trans rfl;have n0:w.cell? ⟨nb,0,af⟩=ae (.int .i64 i):=(aG hc.n 0).trans rfl;have t0:w.cell? ⟨cb,2,af⟩=ae (.int .i64 h.T):=(aG hc.c 2).trans rfl;have t1:w.cell? ⟨cb,3,af⟩=ae (.int .i64 h.K):=(aG hc.c 3).trans rfl;have s0:w.cell? ⟨sb,0,af⟩=ae (.func (.func 120) #[.pointer<|ae ⟨xb,69,af⟩] #[]):=(aG hc.s 0).trans rfl;have NE:Hid (¬cb=xb/\¬kb=xb/\¬nb=xb):=by
  refine⟨fun e=>?_,fun e=>?_,fun e=>?_⟩
  ·have a:=hc.c;rw[e,hh.blk]at a;simp at a
  ·have a:=hc.k;rw[e,hh.blk]at a;simp at a
  ·have a:=hc.n;rw[e,hh.blk]at a;simp at a
 have kG:(i:Int)<6:=by omega
 have dF:(0:Int)<=(i:Int):=by omega
 have aB:=aS hh.blk;unfold CQ;have ne1:=NE.out.1;have ne2:=NE.out.2.1;have ne3:=NE.out.2.2;have hg:decide (x.si+1<h.T)=false:=qC (by omega);have HC:Hid (∀W,ay W B xb n (h.dE i {x with si:=x.si+1})->aK prog 67 #[.pointer<|ae ⟨xb,4,af⟩,.int .i64 i,.bool false] W (FV (h.dE i {x with si:=x.si+1}) ⟨3,i,0,x.t⟩ W B xb n)):=fun W hW=>Zy hW (rW hx) false ⟨hm.small,hm.kp,hm.room,hm.end_⟩;clear hh hx hc hm;go_enter func172,ntmps172
 go_wp2_with fail
 go_quiet (fail)
 go_wp2_with fail
 go_region_law
  ((go_simp;go_at_call 67;refine(HC.out _<|(HH.out.ZV HX.out _).at_.after<|(Fr.refl _ _).drew).mono ?_;intro e w3 Aq
    obtain⟨ho,dm⟩:=Aq
    have R1:=ho
    have R2:Hid (bI w w3 B xb n h n _):=(HH.out.ZV HX.out _).trans<|dm.behind<|(Fr.refl _ _).drew
    clear ho dm))
 all_goals
  go_wp2
  go_ret
  exact⟨_,_,rfl,R1,R2.out⟩
def aoj(hh:ay w B xb n h)(hi:i<6)(hx:h.ps[i]? =ae x)(Il: -1000000000000<=x.wa/\x.wa<=1000000000000)(wz:0<=x.ga/\x.ga<=1000000000000):
 aK prog 173 #[.pointer<|ae ⟨xb,4,af⟩,.int .i64 i,.int .i64 h.K,.func (.func 120) #[.pointer<|ae ⟨xb,69,af⟩] #[]] w fun e w'=>e=.returned (.tuple #[])/\∃h',J8 h i x h'/\bI w w' B xb n h n h':=by
 by_cases hw:1<x.wa
 ·exact(aob hh hi hx _ _ hw<|by omega).mono fun e w' ⟨a,b⟩=>⟨a,_,.wait hw,b⟩
 ·exact(aod hh hi hx _ (by omega) (by omega) wz.1 wz.2).mono fun e w' ⟨a,fv,b⟩=>⟨a,_,.due fv<|by omega,b⟩
def aok(hh:ay w B xb n h)(hc:J7 w kb nb cb sb xb i h)(hi:i<6)(hx:h.ps[i]? =ae x)(hs:x.s=2\/x.s=3)(Il: -1000000000000<=x.wa/\x.wa<=1000000000000)(wz:0<=x.ga/\x.ga<=1000000000000):
 aK prog 172 (CQ kb nb cb sb) w fun e w'=>e=.returned (.bool true)/\∃h',J8 h i x h'/\bI w w' B xb n h n h':=by
 have HH:Hid (ay w B xb n h):=hh;have HX:Hid (h.ps[i]? =ae x):=hx;obtain⟨⟨_,e1,e2⟩,ef⟩:=hh.cellP hx;have b1:(x.s==1)=false:=by
  rcases hs with e|e<;>rw[e]<;>rfl
 have k0:w.cell? ⟨kb,0,af⟩=ae (.pointer<|ae ⟨xb,4,af⟩):=(aG hc.k 0).trans rfl;have n0:w.cell? ⟨nb,0,af⟩=ae (.int .i64 i):=(aG hc.n 0).trans rfl;have t0:w.cell? ⟨cb,2,af⟩=ae (.int .i64 h.T):=(aG hc.c 2).trans rfl;have t1:w.cell? ⟨cb,3,af⟩=ae (.int .i64 h.K):=(aG hc.c 3).trans rfl;have s0:w.cell? ⟨sb,0,af⟩=ae (.func (.func 120) #[.pointer<|ae ⟨xb,69,af⟩] #[]):=(aG hc.s 0).trans rfl;have NE:Hid (¬cb=xb/\¬kb=xb/\¬nb=xb):=by
  refine⟨fun e=>?_,fun e=>?_,fun e=>?_⟩
  ·have a:=hc.c;rw[e,hh.blk]at a;simp at a
  ·have a:=hc.k;rw[e,hh.blk]at a;simp at a
  ·have a:=hc.n;rw[e,hh.blk]at a;simp at a
 have kG:(i:Int)<6:=by omega
 have dF:(0:Int)<=(i:Int):=by omega
 have aB:=aS hh.blk;unfold CQ;have HE:Hid (∀W,ay W B xb n h->aK prog 66 #[.pointer<|ae ⟨xb,6+i*10,af⟩] W fun e w'=>e=.returned (.bool true)/\W=w'):=fun W hW=>by
  have:=wL (o:=6+i*10) x.s<|hW.iJ hx 2 _ rfl;rw[jI hs]at this;exact this
 have HC:Hid (∀W,ay W B xb n h->aK prog 173 #[.pointer<|ae ⟨xb,4,af⟩,.int .i64 i,.int .i64 h.K,.func (.func 120) #[.pointer<|ae ⟨xb,69,af⟩] #[]] W fun e w'=>e=.returned (.tuple #[])/\∃h',J8 h i x h'/\bI W w' B xb n h n h'):=fun W hW=>aoj hW hi hx Il wz;clear hh hx hc hs;go_enter func172,ntmps172
 go_wp2_with fail
 go_quiet (fail)
 go_wp2_with (first
  |(go_at_call 66;refine(HE.out _<|HH.out.after<|(Fr.refl _ _).drewN _).mono ?_;rintro e w1 ⟨rfl,rfl⟩)
  |(go_at_call 173;refine(HC.out _<|HH.out.after<|(Fr.refl _ _).drewN _).mono ?_;rintro e w2 ⟨rfl,h',hr,dm⟩
    have R2:Hid (J8 h i x h'/\bI w w2 B xb n h n h'):=⟨hr,dm.behind<|(Fr.refl _ _).drewN _⟩
    clear hr dm))
 go_ret;exact⟨rfl,h',R2.out⟩
def aol(hh:ay w B xb n h)(hc:J7 w kb nb cb sb xb i h)(hi:i<6)(hx:h.ps[i]? =ae x)(hs:¬(x.s=1\/x.s=2\/x.s=3)):
 aK prog 172 (CQ kb nb cb sb) w fun e w'=>e=.returned (.bool true)/\Fr aH w w':=by
 have HH:Hid (ay w B xb n h):=hh;have HX:Hid (h.ps[i]? =ae x):=hx;obtain⟨⟨_,e1,e2⟩,ef⟩:=hh.cellP hx;have b1:(x.s==1)=false:=by simpa using fun e=>hs<|.inl e
 have k0:w.cell? ⟨kb,0,af⟩=ae (.pointer<|ae ⟨xb,4,af⟩):=(aG hc.k 0).trans rfl;have n0:w.cell? ⟨nb,0,af⟩=ae (.int .i64 i):=(aG hc.n 0).trans rfl;have t0:w.cell? ⟨cb,2,af⟩=ae (.int .i64 h.T):=(aG hc.c 2).trans rfl;have t1:w.cell? ⟨cb,3,af⟩=ae (.int .i64 h.K):=(aG hc.c 3).trans rfl;have s0:w.cell? ⟨sb,0,af⟩=ae (.func (.func 120) #[.pointer<|ae ⟨xb,69,af⟩] #[]):=(aG hc.s 0).trans rfl;have NE:Hid (¬cb=xb/\¬kb=xb/\¬nb=xb):=by
  refine⟨fun e=>?_,fun e=>?_,fun e=>?_⟩
  ·have a:=hc.c;rw[e,hh.blk]at a;simp at a
  ·have a:=hc.k;rw[e,hh.blk]at a;simp at a
  ·have a:=hc.n;rw[e,hh.blk]at a;simp at a
 have kG:(i:Int)<6:=by omega
 have dF:(0:Int)<=(i:Int):=by omega
 have aB:=aS hh.blk;unfold CQ;have HE:Hid (∀W,ay W B xb n h->aK prog 66 #[.pointer<|ae ⟨xb,6+i*10,af⟩] W fun e w'=>e=.returned (.bool false)/\W=w'):=fun W hW=>by
  have:=wL (o:=6+i*10) x.s<|hW.iJ hx 2 _ rfl;rw[qC fun e=>hs<|.inr e]at this;exact this
 clear hh hx hc hs;go_enter func172,ntmps172
 go_wp2_with fail
 go_quiet (fail)
 go_wp2_with (go_at_call 66;refine(HE.out _<|HH.out.after<|(Fr.refl _ _).drewN _).mono ?_;rintro e w1 ⟨rfl,rfl⟩)
 go_ret;exact⟨rfl,(Fr.refl _ _).drewN _⟩
structure PS.CJ(x:PS):Prop where
 si:0<=x.si/\x.si<=1000000000000
 wa: -1000000000000<=x.wa/\x.wa<=1000000000000
 ga:0<=x.ga/\x.ga<=1000000000000
def aom(hh:ay w B xb n h)(hc:J7 w kb nb cb sb xb i h)(hi:i<6)(hx:h.ps[i]? =ae x)(hf:x.CJ)(hm:lM h ⟨3,i,0,x.t⟩):
 aK prog 172 (CQ kb nb cb sb) w fun e w'=>∃ok h',e=.returned (.bool ok)/\uH h i x ok h'/\bI w w' B xb n h n h':=by
 by_cases h1:x.s=1
 ·by_cases ht:x.si+1<h.T
  ·exact(aoh hh hc hi hx h1 ht hf.si).mono fun e w' ⟨a,b⟩=>⟨_,_,a,.vI h1 ht,b⟩
  ·exact(aoi hh hc hi hx h1 (by omega) hf.si hm).mono fun e w' ⟨ok,h',a,b,c⟩=>⟨_,_,a,.timeout h1 (by omega) b,c⟩
 ·by_cases h2:x.s=2\/x.s=3
  ·exact(aok hh hc hi hx h2 hf.wa hf.ga).mono fun e w' ⟨a,h',b,c⟩=>⟨_,_,a,.rem h2 b,c⟩
  ·have h3:¬(x.s=1\/x.s=2\/x.s=3):=fun e=>e.elim h1 h2;exact(aol hh hc hi hx h3).mono fun e w' ⟨a,b⟩=>⟨_,_,a,.idle h3,(bI.refl hh).after b⟩
end
end
section
def Iw(kb cb sb nb:Nat):Value:=.func (.func 172) #[]<|CQ kb nb cb sb
def aon:(prog.info? 38).map (fun i=>(i.zero,i.size,i.bytes))=ae (ae .nilFunc,1,8):=by kernel_rfl
section
variable{w w':ah}{xb:Nat}
structure Ny(w w':ah)(xb P:Nat)(Q T K:Int)(v:aj)(l7:List Nat):Prop where
 fr:Fr aH w w'
 k:w'.heap[w.heap.size]? =ae (.cells #[.pointer<|ae ⟨xb,4,af⟩] 181 (0,0))
 c:w'.heap[w.heap.size+1]? =ae (.cells #[.int .i64 P,.int .i64 Q,.int .i64 T,.int .i64 K] 23 (0,0))
 s:w'.heap[w.heap.size+1+1]? =ae (.cells #[.func (.func 120) #[.pointer<|ae ⟨xb,69,af⟩] #[]] 120 (0,0))
 row:w'.ownsRow w.heap.size 38 1 v l7.length (l7.map<|Iw w.heap.size (w.heap.size+1)<|w.heap.size+1+1)
 n:∀(i nb:Nat),l7[i]? =ae nb->w'.heap[nb]? =ae (.cells #[.int .i64 i] 3 (0,0))
def afm{W:ah}{B':Nat}{v:aj}{m:Nat}{xs:List aj}(h:W.ownsRow B' 38 1 v m xs):∃a c,v=.slice a m c/\m<=maxLen:=by
 rcases h.2 with⟨rfl,rfl⟩|⟨g,cap,cur,rfl,_,_,h1,h2,_⟩
 ·exact⟨af,0,rfl,lK _⟩
 ·exact⟨_,_,rfl,dP h1 h2⟩
def aoo(P:Nat)(Q T K:Int)(hP:P<=6):
 aK prog 119 #[.pointer<|ae ⟨xb,4,af⟩,.agg #[.int .i64 P,.int .i64 Q,.int .i64 T,.int .i64 K],.func (.func 120) #[.pointer<|ae ⟨xb,69,af⟩] #[]] w fun e w'=>∃(v:aj) (l7:List Nat),e=.returned v/\l7.length=P/\Ny w w' xb P Q T K v l7:=by
 obtain⟨i0,dF,gG,fO,iH⟩:=aCf aon;have XX:(P:Int)<=6:=by omega
 go_enter func119,ntmps119
 go_wp2_with fail
 go_loopw [7,11] (fun v iv w'=>∃(j:Nat) (l7:List Nat),j<=P/\iv=.int .i64 j/\l7.length=j/\Ny w w' xb P Q T K v l7) (fun _ iv _=>P-(dX iv).toNat)
 case atStart=>
  refine⟨0,[],lK _,rfl,rfl,⟨((aZ _).alloc _).alloc _,?_,?_,?_,aCb _ _ _ _,fun i nb h=>by simp at h⟩⟩
  ·exact(((Fr.refl (fun _=>False) _).alloc _).alloc _).block w.heap.size (by simp) id |>.trans (aB0 _ _)
  ·exact((Fr.refl (fun _=>False) _).alloc _).block (w.heap.size+1) (by simp) id |>.trans (AZ _<|by simp)
  ·exact AZ _<|by simp
 case round=>
  obtain⟨j,l7,hj,rfl,hl,hm⟩:=hrel
  have HM:Hid (Ny w wr xb P Q T K u7 l7):=hm
  obtain⟨va,vc,rfl,BL⟩:=afm hm.row
  unfold dH at BL
  have dS:=hm.fr.size
  clear hm
  by_cases aB:j<P
  ·have qW:(j:Int)<(P:Int):=by omega
   have mP:(Iw w.heap.size (w.heap.size+1) (w.heap.size+1+1) wr.heap.size).oneCell'=true:=rfl
   go_wp2_with (at_builtin;refine aCv _ rfl _ _ 185 rfl w.heap.size 38 i0 _ 1 8 underlying185 dF gG fO iH rfl (by decide) _ _ (l7.map<|Iw w.heap.size (w.heap.size+1)<|w.heap.size+1+1) rfl (by exact((HM.out.row.alloc _).alloc _)) ⟨wr.heap.size+1,0,af⟩ 1 1 [Iw w.heap.size (w.heap.size+1) (w.heap.size+1+1) wr.heap.size] rfl rfl (aB9 (cs:=#[Iw w.heap.size (w.heap.size+1) (w.heap.size+1+1) wr.heap.size]) (t:=38) (fr:=(0,0))<|AZ _<|by simp) (by simp[mP]) (by decide) (by simp only[dH];omega) (by omega) (by simp<;>omega) (wr.heap.size+1+1) (by simp) ?_;intro gg Nh w3 o9 lV uF uT)
   have zu:(l7++[wr.heap.size]).length=j+1:=by simp[hl]
   have hrt:∀b,Value.ownBlock (.slice va l7.length vc)=ae b->tag wr b=38:=fun b hb=>ig HM.out.row hb
   have aP:∀(b:Nat) (cs:Array aj) (ty:bW),ty≠38->wr.heap[b]? =ae (.cells cs ty (0,0))->w3.heap[b]? =ae (.cells cs ty (0,0)):=by
    intro b cs ty He hb;have gI:=aS hb;have f0:Fr (fun x=>Value.ownBlock (.slice va l7.length vc)=ae x) wr w3:=(((Fr.refl _ _).alloc _).alloc _).grown lV fun x ex=>.inl ex;refine(f0.block b gI fun e=>?_).trans hb;have:=hrt b e;rw[lD hb]at this;exact He this
   refine⟨⟨j+1,l7++[wr.heap.size],by omega,by go_num,zu,⟨?_,aP _ _ _ (by decide) HM.out.k,aP _ _ _ (by decide) HM.out.c,aP _ _ _ (by decide) HM.out.s,?_,?_⟩⟩,by simp[dX]<;>omega⟩
   ·have f0:Fr (fun x=>Value.ownBlock (.slice va l7.length vc)=ae x) wr w3:=(((Fr.refl _ _).alloc _).alloc _).grown lV (fun x ex=>.inl ex)
    exact HM.out.fr.trans f0 fun x hx=>.inr (HM.out.row.lt x hx).1
   ·rw[zu]
    simpa[hl]using o9
   ·intro i nb hi
    by_cases yj:i<l7.length
    ·rw[tJ yj]at hi
     exact aP _ _ _ (by decide)<|HM.out.n i nb hi
    ·have e:i=l7.length:=by
      have:=(dD.1 hi).1;simp at this;omega
     subst e
     simp at hi
     subst hi
     rw[hl]
     refine(lV.block wr.heap.size (by simp<;>omega) ?_).trans<|((Fr.refl (fun _=>False) _).alloc _).block wr.heap.size (by simp) id |>.trans (aB0 _ _)
     intro e
     have:=(HM.out.row.lt _ e.symm).2
     omega
  ·go_wp2
   go_ret
   exact⟨_,l7,rfl,by omega,HM.out⟩
end
end
section
inductive qj(h:HS):Nat->HS->Prop
 |zero:qj h 0 h
 |succ {j:Nat} {h1 h2:HS} {x:PS}:qj h j h1->h1.ps[j]? =ae x->uH h1 j x true h2->qj h (j+1) h2
inductive Nz(h:HS):Bool->HS->Prop
 |all {h':HS}:qj h h.P.toNat h'->Nz h true h'
 |sD {j:Nat} {h1 h2:HS} {x:PS}:j<h.P.toNat->qj h j h1->h1.ps[j]? =ae x->uH h1 j x false h2->Nz h false h2
def uH.iK{h h':HS}{i:Nat}{x:PS}{ok:Bool}(l:uH h i x ok h'):h'.P=h.P/\h'.Q=h.Q/\h'.T=h.T/\h'.K=h.K:=by
 cases l with
 |vI=>exact⟨rfl,rfl,rfl,rfl⟩
 |timeout _ _ hw=>cases hw<;>exact⟨rfl,rfl,rfl,rfl⟩
 |rem _ hr=>cases hr<;>exact⟨rfl,rfl,rfl,rfl⟩
 |idle=>exact⟨rfl,rfl,rfl,rfl⟩
def qj.iK{h h':HS}{j:Nat}(t:qj h j h'):h'.P=h.P/\h'.Q=h.Q/\h'.T=h.T/\h'.K=h.K:=by
 induction t with
 |zero=>exact⟨rfl,rfl,rfl,rfl⟩
 |succ _ _ hl ih=>
  obtain⟨a,b,c,d⟩:=ih;obtain⟨a',b',c',d'⟩:=hl.iK;exact⟨a'.trans a,b'.trans b,c'.trans c,d'.trans d⟩
section
variable{w w':ah}{B xb n:Nat}{h:HS}
variable{v:aj}{w1:ah}{P i:Nat}{l7:List Nat}
def aop{W:ah}{B':Nat}{m:Nat}{xs:List aj}(hr:W.ownsRow B' 38 1 v m xs){j:Nat}{u:aj}(hj:xs[j]? =ae u):∃g c,v=.slice (ae ⟨g,0,af⟩) m c/\W.cell? ⟨g,j,af⟩=ae u:=by
 rcases hr.2 with⟨rfl,rfl⟩|⟨g,cap,cur,rfl,_⟩
 ·have:=hr.1;simp at this;subst this;simp at hj
 ·refine⟨g,cap,rfl,?_⟩;have:=hr.cells (g:=g) rfl j u hj;rw[aCo]at this;simpa using this
def aoq{wr:ah}{hj:HS}(hh:ay w B xb n h)(m:Ny w.drew w1 xb P h.Q h.T h.K v l7)(hP:h.P=P)(hi:i<l7.length)(fr:Fr (h.dZ xb) w1 wr)(ht:qj h i hj):
 J7 wr w.drew.heap.size l7[i] (w.drew.heap.size+1) (w.drew.heap.size+1+1) xb i hj:=by
 have f1:=m.fr;have Ti:ay w1 B xb n h:=hh.after<|(Fr.dr w).trans m.fr fun _ hx=>hx.elim;have old:∀k,w.drew.heap.size<=k->¬h.dZ xb k:=fun k hk e=>by
  have:=(hh.rV e).1;have dS:w.drew.heap.size=w.heap.size:=rfl;omega
 have aP:∀(b:Nat) (cs:Array aj) (ty:bW),¬h.dZ xb b->w1.heap[b]? =ae (.cells cs ty (0,0))->wr.heap[b]? =ae (.cells cs ty (0,0)):=fun b cs ty hb hc=>(fr.block b (aS hc) hb).trans hc;obtain⟨a,b,c,d⟩:=ht.iK;refine⟨aP _ _ _ (old _<|bV _) m.k,aP _ _ _ (fun e=>?_)<|m.n i _<|dR hi,?_,aP _ _ _ (old _<|by omega) m.s⟩
 ·have t:=lD<|m.n i _<|dR hi;rcases Ti.Zl e with e|e|e|e|e|e|e;all_goals first
   |(rw[t]at e;cases e;done)
   |(obtain⟨e,_⟩:=e;rw[t]at e;cases e;done)
 ·rw[a,b,c,d,hP];exact aP _ _ _ (old _<|by omega) m.c
def aor{wr:ah}{Q T K:Int}{va:Option Addr}{vl vc:Nat}(hh:ay w B xb n h)(m:Ny w.drew w1 xb P Q T K (.slice va vl vc) l7)(hi:i<l7.length)(fr:Fr (h.dZ xb) w1 wr):
 ∃g,(va=ae ⟨g,0,af⟩/\True)/\wr.cell? ⟨g,i,af⟩=ae (Iw w.drew.heap.size (w.drew.heap.size+1) (w.drew.heap.size+1+1) l7[i]):=by
 have old:∀k,w.drew.heap.size<=k->¬h.dZ xb k:=fun k hk e=>by
  have:=(hh.rV e).1;have dS:w.drew.heap.size=w.heap.size:=rfl;omega
 have hr:=fr.ownsRow m.row fun k hk hS=>old k (m.row.lt k hk).1 hS;obtain⟨g,c,e,hc⟩:=aop hr (j:=i) (u:=Iw w.drew.heap.size (w.drew.heap.size+1) (w.drew.heap.size+1+1) l7[i]) (by rw[adK,dR hi];rfl);simp only[aB7]at e;exact⟨g,⟨e.1,trivial⟩,hc⟩
def afn(hh:ay w B xb n h)(hu:h.up=false):aK prog 56 #[.pointer<|ae ⟨xb,0,af⟩] w fun e w'=>e=.returned (.int .i64 5)/\w=w':=by
 have cu:=hh.cU;rw[hu]at cu;have aB:=aS hh.blk;clear hh;go_enter func56,ntmps56
 go_wp2
 go_ret;exact⟨rfl,rfl⟩
def afo(hh:ay w B xb n h)(hu:h.up=true)(hp:∀(j:Nat) (h1:HS) (x:PS),j<h.P.toNat->qj h j h1->h1.ps[j]? =ae x->x.CJ/\lM h1 ⟨3,j,0,x.t⟩):
 aK prog 56 #[.pointer<|ae ⟨xb,0,af⟩] w fun e w'=>∃ok h',e=.returned (.int .i64<|if ok then 0 else 5)/\Nz h ok h'/\bI w w' B xb n h n h':=by
 have HH:Hid (ay w B xb n h):=hh;have HP:Hid (∀(j:Nat) (h1:HS) (x:PS),j<h.P.toNat->qj h j h1->h1.ps[j]? =ae x->x.CJ/\lM h1 ⟨3,j,0,x.t⟩):=hp;have cu:=hh.cU;rw[hu]at cu;have c0:=hh.cP;have c1:w.cell? ⟨xb,1,af⟩=ae (.int .i64 h.Q):=by rw[aG hh.blk];rfl
 have c2:w.cell? ⟨xb,2,af⟩=ae (.int .i64 h.T):=by rw[aG hh.blk];rfl
 have c3:w.cell? ⟨xb,3,af⟩=ae (.int .i64 h.K):=by rw[aG hh.blk];rfl
 have aB:=aS hh.blk;obtain⟨P,hP⟩:=vw (show 0<=h.P by have:=hh.hP;omega);have Qp:P<=6:=by have:=hh.hP;omega
 rw[hP]at c0;have PP:Hid (h.P=(P:Int)):=hP;clear hh hp hP;go_enter func56,ntmps56
 go_wp2_with fail
 go_region_law
  ((go_simp;go_at_call 119;refine(aoo P h.Q h.T h.K Qp).mono ?_;rintro e w1 ⟨v1,l7,rfl,kz,qy⟩
    have M1:Hid (Ny w.drew w1 xb P h.Q h.T h.K v1 l7):=qy
    obtain⟨va,vc,rfl,BL⟩:=afm qy.row
    rw[kz]at BL
    unfold dH at BL
    clear qy))
 all_goals
  go_wp2_with fail
  go_simp
  go_loopw [24] (fun iv w'=>∃(j:Nat) (hj:HS),j<=P/\iv=.int .i64 j/\qj h j hj/\bI w1 w' B xb n h n hj) (fun iv _=>P-(dX iv).toNat)
  case atStart=>exact⟨0,h,lK _,rfl,.zero,bI.refl<|HH.out.after<|(Fr.dr w).trans M1.out.fr fun _ hx=>hx.elim⟩
  case round=>
   obtain⟨j,hj,hle,rfl,ht,dm⟩:=hrel
   have MV:Hid (bI w1 wr B xb n h n hj):=dm
   have TT:Hid (qj h j hj):=ht
   by_cases nU:j<P
   ·have hjP:j<h.P.toNat:=by rw[PP.out];omega
    have hj6:j<hj.ps.length:=by rw[dm.at_.h6];omega
    obtain⟨g1,jf,x0⟩:=aor HH.out M1.out (by rw[kz];exact nU) dm.fr
    obtain⟨rfl,_⟩:=jf
    unfold Iw CQ at x0
    have HC:=aoq HH.out M1.out PP.out (i:=j) (by rw[kz];exact nU) dm.fr ht
    have HC':Hid (J7 wr w.drew.heap.size (l7[j]'(by rw[kz];exact nU)) (w.drew.heap.size+1) (w.drew.heap.size+1+1) xb j hj):=HC
    have HX:Hid (hj.ps[j]? =ae hj.ps[j]):=dR hj6
    have HF:=HP.out j hj _ hjP ht HX.out
    have HF':Hid (PS.CJ hj.ps[j]/\lM hj ⟨3,j,0,hj.ps[j].t⟩):=HF
    have qW:(j:Int)<(P:Int):=by omega
    clear dm ht HC HF
    go_wp2_with
     ((go_at_call 172;refine(aom MV.out.at_ HC'.out (by omega) HX.out HF'.out.1 HF'.out.2).mono ?_;rintro e w4 ⟨ok,h4,rfl,uo,Iy⟩
       have LK:Hid (uH hj j _ ok h4):=uo
       have M4:Hid (bI wr w4 B xb n hj n h4):=Iy
       clear uo Iy
       cases ok))
    ·go_wp2
     go_ret
     exact⟨false,h4,rfl,.sD hjP TT.out HX.out LK.out,(MV.out.trans M4.out).behind<|(Fr.dr w).trans M1.out.fr fun _ hx=>hx.elim⟩
    ·go_wp2
     go_roundw
     case rel=>exact⟨j+1,h4,by omega,by go_num,.succ TT.out HX.out LK.out,MV.out.trans M4.out⟩
     case measure=>simp[dX]<;>omega
   ·go_wp2
    go_ret
    have e:j=h.P.toNat:=by rw[PP.out];omega
    exact⟨true,hj,rfl,.all<|e▸TT.out,MV.out.behind<|(Fr.dr w).trans M1.out.fr fun _ hx=>hx.elim⟩
end
end
end Go.Proofs.YtkelpcjiediamaaGreat
