import Derived.Test.YtkelpcjiediamaaGreatQk3
set_option maxRecDepth 100000
set_option maxHeartbeats 0
set_option linter.all false
namespace Go.Proofs.YtkelpcjiediamaaGreat
open Bool renaming false->ah,true->A
open Go renaming Calls->aH,TypeId->dB,Value->ai,World->ae,maxLen->cZ
open Go.Ending renaming returned->aU
open Go.IntKind renaming i64->Z,wrap->fU
open Go.Obj renaming cells->aC
open Go.Proofs.Tryz renaming prog->aj
open Go.RowKit renaming Hid->I,intOf->bM
open Go.Value renaming agg->jf,bool->aA,int->V,ownBlock->dw,pointer->ak,slice->aP,string->dN,tuple->dZ
open Go.World renaming cell?->au,heap->R,ownsRow->bI,setCell->aZ
open Option renaming none->U,some->Y
open _root_.Array renaming size->M
open _root_.List renaming length->O
open Go.Proofs.Tryz
open Go.RowKit Go.Maps
section
def oP(l:List Ms)(m:Ms):List Ms:=if 100<=O l then l else l++[m]
def EZ(l:List Ms)(i t:Int)(c:Bool)(H:List Int):List Ms:=H.foldl (λl q=>oP l ⟨1,q,i,t,c⟩) l
def aAn(l i t c){H:List Int}{j q}(hq:H[j]? =Y q):EZ l i t c (H.take<|j+1)=oP (EZ l i t c<|H.take j) ⟨1,q,i,t,c⟩:=by rw[uz,hq];simp[EZ,UC]
theorem Bq.going{w w' B xb n h m}(hh:aG w B xb n h)(s:Bq w w' B xb n h m):∃fv,bW w w' B xb n h n (h.dV fv<|oP h.fl m):=by cases s with|lost H f=>refine⟨h.fv,?_⟩;rw[show oP h.fl m=h.fl by simp[oP,H]];exact(bW.refl hh).a f|dV H fv mv _=>refine⟨fv,?_⟩;rw[show oP h.fl m=h.fl++[m]by rw[oP,if_neg YV]];exact mv
section
variable{w w' B xb n h}
variable{i:Nat}{x}
theorem aAo(H:aG w B xb n h)(hi:i<6)(hx:h.ps[i]? =Y x)(bo sv)(hw:1<x.wa)(mO:x.wa<=9223372036854775807):
 aH aj 173 #[ak<|Y (xb,4),i,V Z bo,sv] w λe w'=>e=dZ #[]/\bW w w' B xb n h n (h.gq i {x with wa:=x.wa-1}):=by
 have HH:=aQe H;have HX:=aQe hx;have c8:=H.kK hx 8 _ J;have cf:∀o,w.frozen? ⟨xb,o,U⟩=false:=gJ H.blk;have lU:(i:Int)<6:=YV
 have dL:(0:Int)<=(i:Int):=YV
 have aO:=bF H.blk;clear H hx;go_enter func173,ntmps173
 go_wp2
 apply aQY (aRs J _ _ _) J;have t1:=HH.setCell {x with wa:=x.wa-1} HX (j:=8) (v:=.int .i64<|x.wa-1) YV J;exact⟨J,bW.own (h:=h) (n:=n) t1.2 t1.1 λk hk=>hk⟩
def aG.aAp(hh:aG w B xb n h){B' v l}(hr:bI w B' 3 1 v (O l) (dY l)):∀k,h.dJ xb k->dw v=k->False:=by intro k H hv;have t:=ig hr hv;rcases hh.Js H with e|e|e|e|e|e|e;all_goals first|(rw[t]at e;cases e;done)|(have⟨e,_⟩:=e;rw[t]at e;cases e;done)
theorem aAq(hh:aG w B xb n h)(hi:i<6)(hx:h.ps[i]? =Y x)(bo)(hw:x.wa<=1)(mO: -9223372036854775808<x.wa)(QJ:0<=x.ga)(hg:x.ga<=1000000000000):
 aH aj 173 #[ak<|Y (xb,4),i,V Z bo,.func (.func 120) #[ak<|Y (xb,69)] #[]] w λe w'=>e=dZ #[]/\
  ∃fv,bW w w' B xb n h n ((h.dV fv<|EZ h.fl i x.t (x.s==2)<|dH x.bU 2 4).gq i {x with wa:=x.ga,ga:=min (2*x.ga) bo}):=by
 have HH:=aQe hh
 have HX:=aQe hx
 have c8:=hh.kK hx 8 _ J
 have cf:∀o,w.frozen? ⟨xb,o,U⟩=false:=gJ hh.blk
 have t1:=hh.setCell {x with wa:=x.wa-1} hx (j:=8) (v:=.int .i64<|x.wa-1) YV J
 have T1:=aQe t1
 have X1:I ((h.gq i {x with wa:=x.wa-1}).ps[i]? =Y {x with wa:=x.wa-1}):=yC hx
 have lU:(i:Int)<6:=YV
 have dL:(0:Int)<=(i:Int):=YV
 have aO:=bF hh.blk
 clear hh hx t1
 go_enter func173,ntmps173
 go_wp2_with
  ((go_at_call 69;apply(RV (p:={x with wa:=x.wa-1}) (λj v hv=>T1.1.kK X1 j v hv) 2).z;rintro e w2 ⟨v2,rfl,uV,bJ⟩
    have ah0:bI w2 (aZ w (xb,6+i*10+8)<|.int .i64<|x.wa-1).heap.size 3 1 v2 (dH x.bU 2 4).length (dY<|dH x.bU 2 4):=uV
    obtain⟨va,vc,rfl,vM⟩:=jg ah0
    have N2:=aQe ah0
    have F2:=aQe bJ
    unfold cZ at vM
    clear uV bJ ah0))
 go_loopw [31] (λiv w'=>∃j fv,j<=(dH x.bU 2 4).length/\iv=j/\bW w w' B xb n h n ((h.gq i {x with wa:=x.wa-1}).dV fv<|EZ h.fl i x.t (x.s==2)<|(dH x.bU 2 4).take j)/\
  w'.ownsRow (aZ w (xb,6+i*10+8)<|.int .i64<|x.wa-1).heap.size 3 1 (.slice va (dH x.bU 2 4).length vc) (dH x.bU 2 4).length (dY<|dH x.bU 2 4)) (λiv _=>(dH x.bU 2 4).length-(bM iv).toNat)
 case atStart=>exact⟨0,h.fv,jQ _,J,(bW.own (h:=h) (n:=n) T1.2 T1.1 λk hk=>hk).a F2,N2⟩
 case round=>
  obtain⟨j,fv,hj,rfl,H,fD⟩:=hrel
  have MV:=aQe H
  have NR:=aQe fD
  have r1:au wr (xb,6+i*10+1)=Y (x.t):=H.at_.kK X1 1 _ J
  have r2:au wr (xb,6+i*10+2)=Y (x.s):=H.at_.kK X1 2 _ J
  have hlr:=bF H.at_.blk
  by_cases jD:j<(dH x.bU 2 4).length
  ·have⟨q,hq⟩:∃q,(dH x.bU 2 4)[j]? =Y q:=⟨_,gG jD⟩
   have HQ:=aQe hq
   obtain⟨g1,rfl,x0⟩:∃g1,va=Y ⟨g1,0,U⟩/\au wr (g1,j)=Y (q):=by
    rcases U6 fD with⟨_,h0⟩|⟨g,cap,e,_⟩
    ·rw[h0]at jD;simp at jD
    ·simp only[aQQ]at e;obtain⟨rfl,_⟩:=e;exact⟨g,J,Jl fD hq⟩
   have zg:(j:Int)<((dH x.bU 2 4).length:Int):=YV
   clear H fD hq
   go_wp2_with fail
   go_region_law
    ((go_simp;go_at_call 120;apply(ahY (MV.at_.a<|eH.drew) ⟨1,q,i,x.t,x.s==2⟩).z;rintro e w4 ⟨rfl,hs⟩
      have S4:=aQe<|hs.behind<|eH.drew
      clear hs))
   all_goals
    go_wp2
    go_roundw
    case rel=>
     have⟨Sz,mv'⟩:=S4.going MV.at_
     refine⟨j+1,Sz,YV,Y4,?_,mv'.fr.ownsRow NR λk hk hS=>MV.at_.aAp NR k hS hk⟩
     rw[aAn _ _ _ _ HQ]
     exact MV.t mv'
    case measure=>simp[bM]<;>omega
  ·have r9:au wr (xb,6+i*10+9)=Y (x.ga):=H.at_.kK X1 9 _ J
   have r8:au wr (xb,6+i*10+8)=Y (.int .i64<|x.wa-1):=H.at_.kK X1 8 _ J
   have rf:∀o,wr.frozen? ⟨xb,o,U⟩=false:=gJ H.at_.blk
   obtain rfl:j=(dH x.bU 2 4).length:=YV
   clear H fD r1 r2
   go_wp2_with fail
   go_region
   all_goals
    go_end0
    have afx:(dH x.bU 2 4).take (dH x.bU 2 4).length=dH x.bU 2 4:=alZ
    have mv:=MV
    rw[afx]at mv
    have a1:=mv.at_.setCell {x with wa:=x.ga} X1 (j:=8) (v:=x.ga) YV J
    have a2:=a1.1.setCell {x with wa:=x.ga,ga:=min (2*x.ga) bo} (yC X1) (j:=9) (v:=.int .i64<|min (2*x.ga) bo) YV J
    refine⟨J,fv,?_⟩
    have e1:((((h.gq i {x with wa:=x.wa-1}).dV fv<|EZ h.fl i x.t (x.s==2)<|dH x.bU 2 4).gq i {x with wa:=x.ga}).gq i {x with wa:=x.ga,ga:=min (2*x.ga) bo})=(h.dV fv<|EZ h.fl i x.t (x.s==2)<|dH x.bU 2 4).gq i {x with wa:=x.ga,ga:=min (2*x.ga) bo}:=by
     simp[HS.gq,HS.dV]
    have a3:=a2.1
    rw[e1]at a3
    refine(mv.t<|bW.own (a1.2.t a2.2 λ_ e=>.inl e) a3 λk hk=>hk).a<|eH.drew
end
end
section
structure SA(w:ae)(kb nb cb sb xb i:Nat)(h:HS):Prop where
 k:w.heap[kb]? =Y (aC #[ak<|Y ⟨xb,4,U⟩] 181 (0,0))
 n:w.heap[nb]? =Y (aC #[V Z i] 3 (0,0))
 c:w.heap[cb]? =Y (aC #[V Z h.P,V Z h.Q,V Z h.T,V Z h.K] 23 (0,0))
 s:w.heap[sb]? =Y (aC #[.func (.func 120) #[ak<|Y ⟨xb,69,U⟩] #[]] 120 (0,0))
def Jw(H nb cb sb:Nat):Array Value:=#[ak H,ak nb,ak cb,ak sb]
inductive SB(h:HS)(i:Nat)(x:PS):HS->Prop
 |wait (hw:1<x.wa):SB h i x (h.gq i {x with wa:=x.wa-1})
 |due (fv:ai) (hw:x.wa<=1):SB h i x ((h.dV fv<|EZ h.fl i x.t (x.s==2)<|dH x.bU 2 4).gq i {x with wa:=x.ga,ga:=min (2*x.ga) h.K})
inductive xe(h:HS)(i:Nat)(x:PS):Bool->HS->Prop
 |Bv (hs:x.s=1) (ht:x.si+1<h.T):xe h i x A (h.gq i {x with si:=x.si+1})
 |timeout {ok:Bool} {h':HS} (hs:x.s=1) (ht:h.T<=x.si+1) (hw:jy (h.gq i {x with si:=x.si+1}) ⟨3,i,0,x.t⟩ ok h'):xe h i x ok h'
 |rem {h':HS} (hs:x.s=2\/x.s=3) (hr:SB h i x h'):xe h i x A h'
 |idle (hs:¬(x.s=1\/x.s=2\/x.s=3)):xe h i x A h
section
variable{w w':ae}{B xb n:Nat}{h:HS}
variable{i kb nb cb sb:Nat}{x:PS}
def aG.ah1(hh:aG w B xb n h)(hx:h.ps[i]? =x)(q):bW w ((w.drewN q).setCell (xb,6+i*10+7)<|.int .i64<|x.si+1) B xb n h n (h.gq i {x with si:=x.si+1}):=have H:=(hh.a<|eH.drewN q).setCell {x with si:=x.si+1} hx (j:=7) (v:=.int .i64<|x.si+1) YV J;(bW.own (h:=h) (n:=n) H.2 H.1 λk hk=>hk).behind<|eH.drewN q
def aAr(hh:aG w B xb n h)(H:SA w kb nb cb sb xb i h)(hi:i<6)(hx:h.ps[i]? =x)(hs:x.s=1)(ht:x.si+1<h.T)(hb:0<=x.si/\x.si<=1000000000000):
 aH aj 172 (Jw kb nb cb sb) w λe w'=>e=A/\bW w w' B xb n h n (h.gq i {x with si:=x.si+1}):=by
 have HH:=aQe hh;have HX:=aQe hx;have⟨⟨_,e1,e2⟩,ef⟩:=hh.cellP hx;rw[hs]at e2;have c7:w (xb,6+i*10+7)=(x.si):=hh.kK hx 7 _ J;have k0:w kb=(ak<|(xb,4)):=(aJ H.k 0).t J;have n0:w nb=(i):=(aJ H.n 0).t J;have t0:w (cb,2)=(h.T):=(aJ H.c 2).t J;have t1:w (cb,3)=(h.K):=(aJ H.c 3).t J;have s0:w sb=Y (.func (.func 120) #[ak<|(xb,69)] #[]):=(aJ H.s 0).t J;have NE:I (¬cb=xb/\¬kb=xb/\¬nb=xb):=by
  refine⟨λe=>?_,λe=>?_,λe=>?_⟩
  ·have a:=H.c;rw[e,hh.blk]at a;simp at a
  ·have a:=H.k;rw[e,hh.blk]at a;simp at a
  ·have a:=H.n;rw[e,hh.blk]at a;simp at a
 have lU:(i:Int)<6:=YV
 have dL:(0:Int)<=(i:Int):=YV
 have aO:=bF hh.blk;unfold Jw;have ne1:=NE.1;clear hh hx H;go_enter func172,ntmps172
 go_wp2_with fail
 go_quiet (fail)
 go_wp2_with fail
 go_quiet (fail)
 go_wp2
 go_ret;exact⟨J,(HH.ah1 HX _).a<|eH.drewN _⟩
def aAs(hh:aG w B xb n h)(H:SA w kb nb cb sb xb i h)(hi:i<6)(hx:h.ps[i]? =x)(hs:x.s=1)(ht:h.T<=x.si+1)(hb:0<=x.si/\x.si<=1000000000000)(hm:qB h ⟨3,i,0,x.t⟩):
 aH aj 172 (Jw kb nb cb sb) w λe w'=>∃ok h',e=aA ok/\jy (h.gq i {x with si:=x.si+1}) ⟨3,i,0,x.t⟩ ok h'/\bW w w' B xb n h n h':=by
 have HH:=aQe hh;have HX:=aQe hx;have⟨⟨_,e1,e2⟩,ef⟩:=hh.cellP hx;rw[hs]at e2;have c7:au w (xb,6+i*10+7)=Y (x.si):=hh.kK hx 7 _ J;have k0:au w kb=Y (ak<|Y (xb,4)):=(aJ H.k 0).t J;have n0:au w nb=Y (i):=(aJ H.n 0).t J;have t0:au w (cb,2)=Y (h.T):=(aJ H.c 2).t J;have t1:au w (cb,3)=Y (h.K):=(aJ H.c 3).t J;have s0:au w sb=Y (.func (.func 120) #[ak<|Y (xb,69)] #[]):=(aJ H.s 0).t J;have NE:I (¬cb=xb/\¬kb=xb/\¬nb=xb):=by
  refine⟨λe=>?_,λe=>?_,λe=>?_⟩
  ·have a:=H.c;rw[e,hh.blk]at a;simp at a
  ·have a:=H.k;rw[e,hh.blk]at a;simp at a
  ·have a:=H.n;rw[e,hh.blk]at a;simp at a
 have lU:(i:Int)<6:=YV
 have dL:(0:Int)<=(i:Int):=YV
 have aO:=bF hh.blk;unfold Jw;have ne1:=NE.1;have ne2:=NE.2.1;have ne3:=NE.2.2;have hg:decide (x.si+1<h.T)=false:=jr YV;have HC:I (∀W,aG W B xb n (h.gq i {x with si:=x.si+1})->aH aj 67 #[ak<|Y (xb,4),i,ah] W (NJ (h.gq i {x with si:=x.si+1}) ⟨3,i,0,x.t⟩ W B xb n)):=λW hW=>ahZ hW (yC hx) ah ⟨hm.small,hm.kp,hm.room,hm.end_⟩;clear hh hx H hm;go_enter func172,ntmps172
 go_wp2_with fail
 go_quiet (fail)
 go_wp2_with fail
 go_region_law
  ((go_simp;go_at_call 67;apply(HC _<|(HH.ah1 HX _).at_.a<|eH.drew).z;intro e w3 xE
    have⟨ho,bn⟩:=xE
    have R1:=ho
    have R2:=aQe<|(HH.ah1 HX _).t<|bn.behind<|eH.drew
    clear ho bn))
 all_goals
  go_wp2
  go_ret
  exact⟨_,_,J,R1,R2⟩
def aAt(hh:aG w B xb n h)(hi:i<6)(hx:h.ps[i]? =x)(Zz: -1000000000000<=x.wa/\x.wa<=1000000000000)(H:0<=x.ga/\x.ga<=1000000000000):aH aj 173 #[ak<|Y (xb,4),i,h.K,.func (.func 120) #[ak<|Y (xb,69)] #[]] w λe w'=>e=dZ #[]/\∃h',SB h i x h'/\bW w w' B xb n h n h':=by by_cases hw:1<x.wa;{exact(aAo hh hi hx _ _ hw YV).z λe w' ⟨a,b⟩=>⟨a,_,.wait hw,b⟩};exact(aAq hh hi hx _ YV YV H.1 H.2).z λe w' ⟨a,fv,b⟩=>⟨a,_,.due fv YV,b⟩
def aAu(hh:aG w B xb n h)(hc:SA w kb nb cb sb xb i h)(hi:i<6)(hx:h.ps[i]? =x)(hs:x.s=2\/x.s=3)(Zz: -1000000000000<=x.wa/\x.wa<=1000000000000)(xB:0<=x.ga/\x.ga<=1000000000000):aH aj 172 (Jw kb nb cb sb) w λe w'=>e=A/\∃H,SB h i x H/\bW w w' B xb n h n H:=by
 have HH:=aQe hh;have HX:=aQe hx;have⟨⟨_,e1,e2⟩,ef⟩:=hh.cellP hx;have b1:(x.s==1)=false:=by rcases hs with e|e<;>rw[e]<;>rfl
 have k0:w kb=(ak<|(xb,4)):=(aJ hc.k 0).t J;have n0:w nb=(i):=(aJ hc.n 0).t J;have t0:w (cb,2)=(h.T):=(aJ hc.c 2).t J;have t1:w (cb,3)=(h.K):=(aJ hc.c 3).t J;have s0:w sb=Y (.func (.func 120) #[ak<|(xb,69)] #[]):=(aJ hc.s 0).t J;have NE:I (¬cb=xb/\¬kb=xb/\¬nb=xb):=by refine⟨λe=>?_,λe=>?_,λe=>?_⟩;{have a:=hc.c;rw[e,hh.blk]at a;simp at a};{have a:=hc.k;rw[e,hh.blk]at a;simp at a};have a:=hc.n;rw[e,hh.blk]at a;simp at a
 have lU:(i:Int)<6:=YV
 have dL:(0:Int)<=(i:Int):=YV
 have aO:=bF hh.blk;unfold Jw;have HE:I (∀W,aG W B xb n h->aH aj 66 #[ak<|(xb,6+i*10)] W λe w'=>e=A/\W=w'):=λW hW=>by have:=CS (o:=6+i*10) x.s<|hW.kK hx 2 _ J;rw[iC hs]at this;exact this
 have HC:I (∀W,aG W B xb n h->aH aj 173 #[ak<|(xb,4),i,h.K,.func (.func 120) #[ak<|(xb,69)] #[]] W λe w'=>e=dZ #[]/\∃H,SB h i x H/\bW W w' B xb n h n H):=λW hW=>aAt hW hi hx Zz xB;clear hh hx hc hs;go_enter func172,ntmps172;go_wp2_with fail;go_quiet (fail);go_wp2_with (first|(go_at_call 66;apply(HE _<|HH.a<|eH.drewN _).z;rintro e w1 ⟨rfl,rfl⟩)|(go_at_call 173;apply(HC _<|HH.a<|eH.drewN _).z;rintro e w2 ⟨rfl,H,hr,bn⟩;have R2:I (SB h i x H/\bW w w2 B xb n h n H):=⟨hr,bn.behind<|eH.drewN _⟩;clear hr bn));go_ret;exact⟨J,H,R2⟩
def aAv(hh:aG w B xb n h)(H:SA w kb nb cb sb xb i h)(hi:i<6)(hx:h.ps[i]? =x)(hs:¬(x.s=1\/x.s=2\/x.s=3)):aH aj 172 (Jw kb nb cb sb) w λe w'=>e=A/\Fr aB w w':=by
 have HH:=aQe hh;have HX:=aQe hx;have⟨⟨_,e1,e2⟩,ef⟩:=hh.cellP hx;have b1:(x.s==1)=false:=by simpa using λe=>hs<|.inl e
 have k0:w kb=(ak<|(xb,4)):=(aJ H.k 0).t J;have n0:w nb=(i):=(aJ H.n 0).t J;have t0:w (cb,2)=(h.T):=(aJ H.c 2).t J;have t1:w (cb,3)=(h.K):=(aJ H.c 3).t J;have s0:w sb=Y (.func (.func 120) #[ak<|(xb,69)] #[]):=(aJ H.s 0).t J;have NE:I (¬cb=xb/\¬kb=xb/\¬nb=xb):=by refine⟨λe=>?_,λe=>?_,λe=>?_⟩;{have a:=H.c;rw[e,hh.blk]at a;simp at a};{have a:=H.k;rw[e,hh.blk]at a;simp at a};have a:=H.n;rw[e,hh.blk]at a;simp at a
 have lU:(i:Int)<6:=YV
 have dL:(0:Int)<=(i:Int):=YV
 have aO:=bF hh.blk;unfold Jw;have HE:I (∀W,aG W B xb n h->aH aj 66 #[ak<|(xb,6+i*10)] W λe w'=>e=ah/\W=w'):=λW hW=>by have:=CS (o:=6+i*10) x.s<|hW.kK hx 2 _ J;rw[jr λe=>hs<|.inr e]at this;exact this
 clear hh hx H hs;go_enter func172,ntmps172;go_wp2_with fail;go_quiet (fail);go_wp2_with (go_at_call 66;apply(HE _<|HH.a<|eH.drewN _).z;rintro e w1 ⟨rfl,rfl⟩);go_ret;exact⟨J,eH.drewN _⟩
structure PS.iH(x:PS):Prop where
 si:0<=x.si/\x.si<=1000000000000
 wa: -1000000000000<=x.wa/\x.wa<=1000000000000
 ga:0<=x.ga/\x.ga<=1000000000000
def aAw(hh:aG w B xb n h)(hc:SA w kb nb cb sb xb i h)(hi:i<6)(hx:h.ps[i]? =x)(hf:x.iH)(hm:qB h ⟨3,i,0,x.t⟩):aH aj 172 (Jw kb nb cb sb) w λe w'=>∃ok h',e=aA ok/\xe h i x ok h'/\bW w w' B xb n h n h':=by by_cases H:x.s=1;{by_cases ht:x.si+1<h.T;{exact(aAr hh hc hi hx H ht hf.si).z λe w' ⟨a,b⟩=>⟨_,_,a,.Bv H ht,b⟩};exact(aAs hh hc hi hx H YV hf.si hm).z λe w' ⟨ok,h',a,b,c⟩=>⟨_,_,a,.timeout H YV b,c⟩};by_cases h2:x.s=2\/x.s=3;{exact(aAu hh hc hi hx h2 hf.wa hf.ga).z λe w' ⟨a,h',b,c⟩=>⟨_,_,a,.rem h2 b,c⟩};have h3:¬(x.s=1\/x.s=2\/x.s=3):=λe=>e.e H h2;exact(aAv hh hc hi hx h3).z λe w' ⟨a,b⟩=>⟨_,_,a,.idle h3,(bW.refl hh).a b⟩
end
end
section
def PD(H cb sb nb:Nat):Value:=.func (.func 172) #[]<|Jw H nb cb sb
def aAx:(prog.info? 38).map (λi=>(i.zero,i.size,i.bytes))=Y (Y .nilFunc,1,8):=KG
section
variable{w w':ae}{xb:Nat}
structure SC(w w':ae)(xb P:Nat)(Q T K:Int)(v:ai)(qY:List Nat):Prop where
 fr:Fr aB w w'
 k:w'.heap[M (R w)]? =Y (aC #[ak<|Y ⟨xb,4,U⟩] 181 (0,0))
 c:w'.heap[M (R w)+1]? =Y (aC #[V Z P,V Z Q,V Z T,V Z K] 23 (0,0))
 s:w'.heap[M (R w)+1+1]? =Y (aC #[.func (.func 120) #[ak<|Y ⟨xb,69,U⟩] #[]] 120 (0,0))
 row:bI w' (M (R w)) 38 1 v (O qY) (qY.map<|PD (M (R w)) (M (R w)+1)<|M (R w)+1+1)
 n:∀(i nb:Nat),qY[i]? =Y nb->w'.heap[nb]? =Y (aC #[V Z i] 3 (0,0))
def aoQ{W B' v m xs}(h:bI W B' 38 1 v m xs):∃a c,v=.slice a m c/\m<=maxLen:=by rcases h.2 with⟨rfl,rfl⟩|⟨g,cap,H,rfl,_,_,h1,h2,_⟩;{grind};grind
def aAy(P:Nat)(Q T K)(hP:P<=6):aH aj 119 #[ak<|Y (xb,4),jf #[P,V Z Q,V Z T,V Z K],.func (.func 120) #[ak<|Y (xb,69)] #[]] w λe w'=>∃(v:ai) (H:List Nat),e=v/\H=P/\SC w w' xb P Q T K v H:=by
 have⟨i0,dL,fM,ed,fV⟩:=aQX aAx;have hP1:(P:Int)<=6:=YV
 go_enter func119,ntmps119;go_wp2_with fail;go_loopw [7,11] (λv iv w'=>∃j H,j<=P/\iv=j/\O H=j/\SC w w' xb P Q T K v H) (λ_ iv _=>P-(bM iv).toNat);case atStart=>refine⟨0,[],jQ _,J,J,⟨((aQ _).alloc _).alloc _,?_,?_,?_,aQS _ _ _ _,Zv⟩⟩;{exact(((Fr.refl (λ_=>False) _).alloc _).alloc _).block (M (R w)) Xy id |>.t (heap_alloc_new _ _)};{exact((Fr.refl (λ_=>False) _).alloc _).block (M (R w)+1) Xy id |>.t (rM _ Xy)};{exact rM _ Xy}
 case round=>obtain⟨j,H,hj,rfl,hl,hm⟩:=hrel;have HM:=aQe hm;obtain⟨va,vc,rfl,vM⟩:=aoQ hm.row;unfold cZ at vM;have gV:=hm.fr.size;clear hm;by_cases aO:j<P;{(have zg:(j:Int)<(P:Int):=YV);have yg:(PD (M (R w)) (M (R w)+1) (M (R w)+1+1) (M (R wr))).oneCell'=true:=J;go_wp2_with (at_builtin;apply aQU _ J _ _ 185 J (M (R w)) 38 i0 _ 1 8 Y0 dL fM ed fV J Xa _ _ (H.map<|PD (M (R w)) (M (R w)+1)<|M (R w)+1+1) J (((HM.row.alloc _).alloc _)) ⟨M (R wr)+1,0,U⟩ 1 1 [PD (M (R w)) (M (R w)+1) (M (R w)+1+1) (M (R wr))] J J (World.news_of_block (cs:=#[PD (M (R w)) (M (R w)+1) (M (R w)+1+1) (M (R wr))]) (t:=38) (fr:=(0,0))<|rM _ Xy) Zv Xa (by exact aQp) YV Xz (M (R wr)+1+1) Xy;intro gg jG w3 jO gW lX mW);(have FK:(H++[M (R wr)]).length=j+1:=by simp[hl]);have hrt:∀b,Value.ownBlock (.slice va H vc)=Y b->tag wr b=38:=λb hb=>ig HM.row hb;(have aW:∀(b:Nat) (cs:Array ai) (ty:dB),ty≠38->wr.heap[b]? =Y (.cells cs ty (0,0))->w3.heap[b]? =Y (.cells cs ty (0,0)):=by intro b cs ty hty hb;have mD:=bF hb;have f0:Fr (λx=>Value.ownBlock (.slice va H vc)=Y x) wr w3:=((eH.alloc _).alloc _).grown gW λx ex=>.inl ex;grind[cases Fr,lM]);refine⟨⟨j+1,H++[M (R wr)],YV,Y4,FK,⟨?_,aW _ _ _ Xa HM.k,aW _ _ _ Xa HM.c,aW _ _ _ Xa HM.s,?_,?_⟩⟩,by simp[bM]<;>omega⟩;{have f0:=((eH.alloc _).alloc _).grown gW (λx ex=>.inl ex);exact HM.fr.t f0 λx hx=>(HM.row.lt x hx).1};{grind};intro i nb hi;by_cases BN:i<H;{grind[SC.n,Hid]};(have e:i=O H:=Zv);subst e;simp at hi;subst hi;rw[hl];refine(gW.block (M (R wr)) Xz ?_).t<|((Fr.refl (λ_=>False) _).alloc _).block (M (R wr)) Xy id |>.t (heap_alloc_new _ _);intro e;have:=(HM.row.lt _ e.s).2;omega};go_wp2;go_ret;exact⟨_,H,J,YV,HM⟩
end
end
section
inductive sH(h:HS):Nat->HS->Prop
 |zero:sH h 0 h
 |succ {j:Nat} {h1 h2:HS} {x:PS}:sH h j h1->h1.ps[j]? =Y x->xe h1 j x A h2->sH h (j+1) h2
inductive ZC(h:HS):Bool->HS->Prop
 |all {h':HS}:sH h h.P.toNat h'->ZC h A h'
 |lC {j:Nat} {h1 h2:HS} {x:PS}:j<h.P.toNat->sH h j h1->h1.ps[j]? =Y x->xe h1 j x ah h2->ZC h ah h2
theorem xe.gU{h H i x ok}(l:xe h i x ok H):H.P=h.P/\H.Q=h.Q/\H.T=h.T/\H.K=h.K:=by cases l with|Bv=>exact⟨J,J,J,J⟩|timeout _ _ hw=>cases hw<;>exact⟨J,J,J,J⟩|rem _ hr=>cases hr<;>exact⟨J,J,J,J⟩|idle=>exact⟨J,J,J,J⟩
theorem sH.gU{h H j}(t:sH h j H):H.P=h.P/\H.Q=h.Q/\H.T=h.T/\H.K=h.K:=by induction t with|zero=>exact⟨J,J,J,J⟩|succ _ _ hl ih=>have⟨a,b,c,d⟩:=ih;have⟨a',b',c',d'⟩:=hl.gU;exact⟨a'.t a,b'.t b,c'.t c,d'.t d⟩
section
variable{w w':ae}{B xb n:Nat}{h:HS}
variable{v:ai}{w1:ae}{P i:Nat}{qY:List Nat}
def aAz{W B' m xs}(H:bI W B' 38 1 v m xs){j u}(hj:xs[j]? =Y u):∃g c,v=aP (Y ⟨g,0,U⟩) m c/\W ⟨g,j,U⟩=Y u:=by rcases H.2 with⟨rfl,rfl⟩|⟨g,cap,cur,rfl,_⟩;{have:=H.1;simp at this;subst this;simp at hj};refine⟨g,cap,J,?_⟩;have:=H.cells (g:=g) J j u hj;exact aQI
def aAA{wr hj}(hh:aG w B xb n h)(m:SC w.drew w1 xb P h.Q h.T h.K v qY)(hP:h.P=P)(hi:i<qY)(fr:Fr (h.dJ xb) w1 wr)(ht:sH h i hj):SA wr w.drew.heap.size qY[i] (w.drew.heap.size+1) (w.drew.heap.size+1+1) xb i hj:=by have f1:=m.fr;have hh1:aG w1 B xb n h:=hh.a<|(Fr.dr w).t m.fr λ_ hx=>hx.e;(have old:∀k,w.drew.heap.size<=k->¬h.dJ xb k:=λk hk e=>by have:=(hh.lZ e).1;have gV:w.drew.heap.size=w:=J;omega);have H:∀b cs ty,¬h.dJ xb b->w1.heap[b]? =Y (.cells cs ty (0,0))->wr.heap[b]? =Y (.cells cs ty (0,0)):=λb cs ty hb hc=>(fr.block b (bF hc) hb).t hc;have⟨a,b,c,d⟩:=ht.gU;refine⟨H _ _ _ (old _<|fC _) m.k,H _ _ _ (λe=>?_)<|m.n i _<|gG hi,?_,H _ _ _ (old _ YV) m.s⟩;{have t:=lM<|m.n i _<|gG hi;rcases hh1.Js e with e|e|e|e|e|e|e;all_goals first|(rw[t]at e;cases e;done)|(have⟨e,_⟩:=e;rw[t]at e;cases e;done)};rw[a,b,c,d,hP];exact H _ _ _ (old _ YV) m.c
def aAB{wr Q T K va vl vc}(hh:aG w B xb n h)(m:SC w.drew w1 xb P Q T K (.slice va vl vc) qY)(hi:i<qY)(fr:Fr (h.dJ xb) w1 wr):∃g,(va=Y ⟨g,0,U⟩/\True)/\wr (g,i)=PD w.drew.heap.size (w.drew.heap.size+1) (w.drew.heap.size+1+1) qY[i]:=by (have old:∀k,w.drew.heap.size<=k->¬h.dJ xb k:=λk H e=>by have:=(hh.lZ e).1;have gV:w.drew.heap.size=w:=J;omega);have hr:=fr.ownsRow m.row λk H hS=>old k (m.row.lt k H).1 hS;have⟨g,c,e,hc⟩:=aAz hr (j:=i) (u:=PD w.drew.heap.size (w.drew.heap.size+1) (w.drew.heap.size+1+1) qY[i]) (by rw[List.getElem?_map,gG hi];rfl);simp only[aQQ]at e;exact⟨g,⟨e.1,trivial⟩,hc⟩
def aoR(H:aG w B xb n h)(hu:h.up=ah):aH aj 56 #[ak xb] w λe w'=>e=V Z 5/\w=w':=by have cu:=H.cU;rw[hu]at cu;have aO:=bF H.blk;clear H;go_enter func56,ntmps56;go_wp2;go_ret;exact⟨J,J⟩
def aoS(H:aG w B xb n h)(hu:h.up=A)(hp:∀j h1 x,j<h.P.toNat->sH h j h1->h1.ps[j]? =Y x->x.iH/\qB h1 ⟨3,j,0,x.t⟩):aH aj 56 #[ak xb] w λe w'=>∃ok h',e=aU (.int .i64<|if ok then 0 else 5)/\ZC h ok h'/\bW w w' B xb n h n h':=by
 have HH:=aQe H;have HP:=aQe hp;have cu:=H.cU;rw[hu]at cu;have c0:=H.cP;have c1:au w (xb,1)=Y (h.Q):=by rw[aJ H.blk];rfl
 have c2:au w (xb,2)=Y (h.T):=by rw[aJ H.blk];rfl
 have c3:au w (xb,3)=Y (h.K):=by rw[aJ H.blk];rfl
 have aO:=bF H.blk;have⟨P,hP⟩:=lW (show 0<=h.P by have:=H.hP;omega);have Jy:P<=6:=by have:=H.hP;omega
 rw[hP]at c0;have PP:=aQe hP;clear H hp hP;go_enter func56,ntmps56;go_wp2_with fail;go_region_law ((go_simp;go_at_call 119;apply(aAy P h.Q h.T h.K Jy).z;rintro e w1 ⟨v1,qY,rfl,nX,xG⟩;have M1:=aQe xG;obtain⟨va,vc,rfl,vM⟩:=aoQ xG.row;rw[nX]at vM;unfold cZ at vM;clear xG));all_goals go_wp2_with fail;go_simp;go_loopw [24] (λiv w'=>∃j hj,j<=P/\iv=j/\sH h j hj/\bW w1 w' B xb n h n hj) (λiv _=>P-(bM iv).toNat);(case atStart=>exact⟨0,h,jQ _,J,.zero,bW.refl<|HH.a<|(Fr.dr w).t M1.fr λ_ hx=>hx.e⟩);case round=>obtain⟨j,hj,hle,rfl,ht,bn⟩:=hrel;have MV:=aQe bn;have TT:=aQe ht;by_cases jD:j<P;{(have hjP:j<h.P.toNat:=by rw[PP];omega);(have hj6:j<O hj.ps:=by rw[bn.at_.h6];omega);have⟨g1,bV,x0⟩:=aAB HH M1 (by rw[nX];exact jD) bn.fr;obtain⟨rfl,_⟩:=bV;unfold PD Jw at x0;have HC:=aAA HH M1 PP (i:=j) (by rw[nX];exact jD) bn.fr ht;have HC':=aQe HC;have HX:=aQe<|gG hj6;have HF:=HP j hj _ hjP ht HX;have HF':=aQe HF;(have zg:(j:Int)<(P:Int):=YV);clear bn ht HC HF;go_wp2_with ((go_at_call 172;apply(aAw MV.at_ HC' YV HX HF'.1 HF'.2).z;rintro e w4 ⟨ok,h4,rfl,yM,Jz⟩;have LK:=aQe yM;have M4:=aQe Jz;clear yM Jz;cases ok));{go_wp2;go_ret;exact⟨ah,h4,J,.lC hjP TT HX LK,(MV.t M4).behind<|(Fr.dr w).t M1.fr λ_ hx=>hx.e⟩};{go_wp2;go_roundw;(case rel=>exact⟨j+1,h4,YV,Y4,.succ TT HX LK,MV.t M4⟩);case measure=>simp[bM]<;>omega}};go_wp2;go_ret;(have e:j=h.P.toNat:=by rw[PP];omega);exact⟨A,hj,J,.all<|e▸TT,MV.behind<|(Fr.dr w).t M1.fr λ_ hx=>hx.e⟩
end
end
section
section
variable{w w':ae}{B yb:Nat}{y:RS}
def aAD(h:aY w B yb y){m}(H:¬(0<=m/\m<=y.P-1))(ep c):aH aj 79 #[ak yb,m,V Z ep,aA c] w λr w'=>r=V Z 2/\w=w':=by have HM:=aQe<|jr H;have c0:=h.k 0;have lV:=h.hP.2.1;have jI:=h.hP.2.2;go_enter func79,ntmps79;go_wp2_with (apply(jS _ _ _ _).z;rw[HM];rintro e w1 ⟨rfl,rfl⟩);go_ret;simp_all
def rZ(y:RS)(m ep:Int):Int:=if qA y.dn (aF y.L m).e ep≠0 then qA y.dn (aF y.L m).e ep else if(aF y.L m).s=0 then 8 else if 1<(aF y.L m).s then 9 else 0
def adW(h:aY w B yb y)(hF:y.iH){m}(hm:0<=m/\m<=y.P-1){ep}(ht:rZ y m ep≠0)(c):aH aj 79 #[ak yb,m,ep,aA c] w λr w'=>r=aU (.int .i64<|rZ y m ep)/\Fr aB w w':=by have H:=aQe h;have HF:=aQe hF;(have lu:I ((O y.L+1)*8<=2^47):=by have:=hF.lL;exact aQw);have HM:I (decide (0<=m/\m<=y.P-1)=A):=Zv;have c0:=h.k 0;have lV:=h.hP.2.1;have jI:=h.hP.2.2;have aO:=bF h.blk;have⟨z,hz⟩:∃z,aF y.L m=z:=⟨_,J⟩;have HZ:=aQe hz;unfold rZ at ht⊢;rw[hz]at ht⊢;have⟨sp,nY⟩:∃sp,qA y.dn z.e ep=sp:=⟨_,J⟩;have zH:=aQe nY;rw[nY]at ht⊢;clear h hm hF hz nY;by_cases h0:sp≠0;{rw[if_pos h0];(have TR:(sp==0)=false:=Zv);clear ht h0;go_enter func79,ntmps79;go_wp2_with (first|(go_at_call 72;apply(jS _ _ _ _).z;rw[HM];rintro e w1 ⟨rfl,rfl⟩)|(go_at_call 105;apply(sG H m HF.arg lu).z;rw[HZ];rintro e w1 ⟨v1,rfl,bV,aI⟩;obtain⟨va,vc,rfl,_⟩:=jg bV;have F1:=aQe aI;clear bV aI)|(go_at_call 132;apply(Gp (H.a<|F1.alloc _) _ _ _ _ _ _ ep).z;rw[zH];rintro e w2 ⟨rfl,bJ⟩;(have F2:=aQe<|(F1.alloc _).t bJ Zv);clear bJ));go_ret;exact⟨J,F2⟩};{(have h0:sp=0:=YV);subst h0;rw[if_neg YV]at ht⊢;by_cases h1:z.s=0;{rw[if_pos h1];have HS:=aQe h1;clear ht h1 h0;go_enter func79,ntmps79;go_wp2_with (first|(go_at_call 72;apply(jS _ _ _ _).z;rw[HM];rintro e w1 ⟨rfl,rfl⟩)|(go_at_call 105;apply(sG H m HF.arg lu).z;rw[HZ,HS];rintro e w1 ⟨v1,rfl,bV,aI⟩;obtain⟨va,vc,rfl,_⟩:=jg bV;have F1:=aQe aI;clear bV aI)|(go_at_call 132;apply(Gp (H.a<|F1.alloc _) _ _ _ _ _ _ ep).z;rw[zH];rintro e w2 ⟨rfl,bJ⟩;have k2:w2 (M (R w1),2)=V Z 0:=Fr.box (S:=λ_=>False) bJ id 2;(have F2:I (Fr aB w w2):=(F1.alloc _).t bJ<|by grind);clear bJ));go_ret;exact⟨J,F2⟩};rw[if_neg h1]at ht⊢;(have h2:1<z.s:=YV);rw[if_pos h2];(have BK:(z.s==0)=false:=Zv);clear ht h1 h0;go_enter func79,ntmps79;go_wp2_with (first|(go_at_call 72;apply(jS _ _ _ _).z;rw[HM];rintro e w1 ⟨rfl,rfl⟩)|(go_at_call 105;apply(sG H m HF.arg lu).z;rw[HZ];rintro e w1 ⟨v1,rfl,bV,aI⟩;obtain⟨va,vc,rfl,_⟩:=jg bV;have F1:=aQe aI;clear bV aI)|(go_at_call 132;apply(Gp (H.a<|F1.alloc _) _ _ _ _ _ _ ep).z;rw[zH];rintro e w2 ⟨rfl,bJ⟩;have k2:w2 (M (R w1),2)=(z.s):=Fr.box (S:=λ_=>False) bJ id 2;(have F2:I (Fr aB w w2):=(F1.alloc _).t bJ<|by grind);clear bJ));go_ret;exact⟨J,F2⟩}
inductive ah2(y:RS)(p:Int)(c:Bool)(w:ae)(B yb:Nat):Ending->ae->Prop
 |ok {y':RS} {w':ae} (ho:Bh y p c A y') (hm:dG w w' B yb y y'):ah2 y p c w B yb (aU<|V Z 0) w'
 |lC {y':RS} {w':ae} (ho:Bh y p c ah y') (hm:dG w w' B yb y y'):ah2 y p c w B yb (aU<|V Z 5) w'
variable{m:Int}{g cap q:Nat}
def aAE(h:aY w B yb y)(hF:y.iH)(hm:0<=m/\m<=y.P-1){ep}(nY:qA y.dn (aF y.L m).e ep=0)(hs:(aF y.L m).s=1)(c)(hO:(gX y m c).Ok):aH aj 79 #[ak yb,m,ep,c] w (ah2 y m c w B yb):=by have H:=aQe h;have HF:=aQe hF;(have lu:I ((O y.L+1)*8<=2^47):=by have:=hF.lL;exact aQw);have HM:I (decide (0<=m/\m<=y.P-1)=A):=Zv;have c0:=h.k 0;have lV:=h.hP.2.1;have jI:=h.hP.2.2;have aO:=bF h.blk;have HO:=aQe hO;have zH:=aQe nY;have HS:=aQe hs;clear h hm hF nY hs hO;go_enter func79,ntmps79;go_wp2_with (first|(go_at_call 72;apply(jS _ _ _ _).z;rw[HM];rintro e w1 ⟨rfl,rfl⟩)|(go_at_call 105;apply(sG H m HF.arg lu).z;rw[HS];rintro e w1 ⟨v1,rfl,bV,aI⟩;obtain⟨va,vc,rfl,_⟩:=jg bV;have F1:=aQe aI;clear bV aI)|(go_at_call 132;apply(Gp (H.a<|F1.alloc _) _ _ _ _ _ _ ep).z;rw[zH];rintro e w2 ⟨rfl,bJ⟩;have k2:=Fr.box (S:=λ_=>False) bJ id 2;(have F2:=aQe<|(F1.alloc _).t bJ Zv);clear bJ)|(go_at_call 130;fail));apply(ahG (H.a F2) HF m c HO).z;rintro e w3 ⟨ho,bn⟩;rename_i ok y';have R3:I (Bh y m c ok y'/\dG w w3 B yb y y'):=⟨ho,bn.behind F2⟩;clear ho bn;cases ok;{go_wp2_with fail;go_ret;exact .lC R3.1 R3.2};go_wp2_with fail;go_ret;exact .ok R3.1 R3.2
def aAF(h:aY w B yb y)(hm:¬(0<=m/\m<=y.Q-1))(o):aH aj 90 #[ak yb,m,aA o] w λr w'=>r=V Z 3/\w=w':=by have HM:=aQe<|jr hm;have c1:=h.k 1;have lV:=h.hQ.2.2.1;have jI:=h.hQ.2.2.2;go_enter func90,ntmps90;go_wp2_with (apply(jS _ _ _ _).z;rw[HM];rintro e w1 ⟨rfl,rfl⟩);go_ret;simp_all
def RS.adX(y:RS)(q:Nat)(o:Bool):RS:={y with aPW:=y.aPW.set q o}
def RS.NK(y:RS)(p:Nat)(t:Int):RS:={y with H:=y.H.set p t}
def RS.jZ(y:RS)(q:Nat)(g:GL):RS:={y with G:=y.G.set q g}
def aY.aoW(h:aY w B yb y){ty j u}(ht:tag w g=ty)(fE:ty=3\/ty=4):
 let w2:=aZ w ⟨g,j,U⟩ u
 Fr (λk=>k=g) w w2/\w2.heap[yb]? =Y (.cells y.cells 138 (0,0))/\bI w2 B 155 4 y.lv y.L (y.L.flatMap Rc.cs)/\bI w2 B 204 4 y.dv y.D (y.D.flatMap Du.cs)/\(ty≠3->bI w2 B 3 1 y.hv y.H (dY y.H))/\bI w2 B 139 1 y.gv y.G (y.G.map λg=>ptr g.yb)/\(ty≠4->bI w2 B 4 1 y.ov y.aPW (y.aPW.map Value.bool))/\bI w2 B 119 5 y.nv y.N (y.N.flatMap Ms.cs)/\(∀a∈y.G,iU w2 B a.yb a.u a.L):=by intro w2;have fs:Fr (λk=>k=g) w w2:=aQx;have row:∀{t2:dB} {wd:Nat} {v:ai} {k:Nat} {xs:List _},bI w B t2 wd v k xs->t2≠ty->bI w2 B t2 wd v k xs:=(by grind[Fr.ownsRow,ig]);refine⟨fs,(fs.block yb (bF h.blk) λe=>?_).t h.blk,(by grind[cases aY]),(by grind[cases aY]),(by grind[cases aY]),(by grind[cases aY]),(by grind[cases aY]),(by grind[cases aY]),λa ha=>(h.refs a ha).stay fs λq e hf=>?_⟩;{grind[lM,cases aY]};grind[iU.tags,cases aY]
def aY.adY(h:aY w B yb y){p}(hv:y.hv=aP g y.H cap)(hp:p<O y.H)(t):dG w (aZ w (g,p)<|V Z t) B yb y (y.NK p t):=by have hr:=h.heard;(have Gu:y.hv.ownBlock=g:=by rw[hv];rfl);have ht:=ig hr Gu;have⟨fs,b,r1,r2,_,r4,r5,r6,r7⟩:=h.aoW (j:=p) (u:=t) ht<|.inl J;rw[hv]at hr;have hs:=U7 hr (j:=p) YV t;refine⟨⟨b,r1,r2,?_,r4,r5 Xa,r6,r7,h.hy,?_,h.hQ⟩,fs.z (λk e=>.inl<|.inr Zv),λk hk=>.inl hk⟩;{show(aZ w _ _).ownsRow B 3 1 y.hv (y.H.set p t).length (dY<|y.H.set p t);rwa[hv,Je,show dY _=(dY _).set p _ from List.map_set]};show y.P=((y.H.set p t).length:Int)/\_;rw[Je];exact h.hP
def aY.aAG(h:aY w B yb y)(hv:y.ov=aP g y.aPW cap)(hq:q<y.aPW)(o):dG w (aZ w (g,q)<|aA o) B yb y (y.adX q o):=by have H:=h.outs;(have Gu:y.ov.ownBlock=g:=by rw[hv];rfl);have ht:=ig H Gu;have⟨fs,b,r1,r2,r3,r4,_,r6,r7⟩:=h.aoW (j:=q) (u:=o) ht<|.inr J;rw[hv]at H;have hs:=U7 H (j:=q) YV o;refine⟨⟨b,r1,r2,r3 Xa,r4,?_,r6,r7,h.hy,h.hP,?_⟩,fs.z (λk e=>.inl<|.inr Zv),λk hk=>.inl hk⟩;{show(aZ w _ _).ownsRow B 4 1 y.ov (y.aPW.set q o).length ((y.aPW.set q o).map Value.bool);simp_all};show y.Q=(y.G:Int)/\y.Q=((y.aPW.set q o).length:Int)/\_;rw[Je];exact h.hQ
def aAH(h:aY w B yb y)(hq:q<y.aPW)(o):aH aj 90 #[ak yb,q,aA o] w λr w'=>r=V Z 0/\dG w w' B yb y (y.adX q o):=by have H:=aQe h;have c1:=h.k 1;have xJ:=h.k 13;have hQ:=h.hQ;have HM:I (decide (0<=(q:Int)/\(q:Int)<=y.Q-1)=A):=iC YV;have lV:=hQ.2.2.1;have jI:=hQ.2.2.2;have⟨ob,Gu⟩:∃ob,y.aPW[q]? =Y ob:=Y0;have⟨g,cap,hv,hg,hc,k0⟩:=h.Po Gu;have HV:=aQe hv;(have gf:∀o,w.frozen? ⟨g,o,U⟩=false:=by grind[cases aY,World.ownsRow.frozenAt]);rw[hv]at xJ;clear h hQ hv Gu;go_enter func90,ntmps90;go_wp2_with (go_at_call 72;apply(jS _ _ _ _).z;rw[HM];rintro e w1 ⟨rfl,rfl⟩);go_ret;exact⟨J,H.aAG HV hq o⟩
end
end
section
section
variable{w w':ae}{B yb:Nat}{y:RS}
theorem aAI(l:List GL)(k p p')(h:l[k]? =Y p)(hy:p'.yb=p.yb):(l.set k p').map (λg=>ptr g.yb)=l.map λg=>ptr g.yb:=by apply af1;grind
def aY.NL(h:aY w B yb y)(ha:lN y.G){k p}(hk:y.G[k]? =Y p){u' L'}(hl:Ci w w' B p.yb p.u u' L'):dG w w' B yb y (y.jZ k ⟨p.yb,u',L'⟩)/\lN (y.jZ k ⟨p.yb,u',L'⟩).G:=by have qJ:=(kY.1 hk).1;have vO:=iO hk;have KX:=h.refs p vO;have fr:Fr (Ii p.yb p.u) w w':=hl.fr.z λ_ e=>.inl e;have H:∀{ty:dB} {wd:Nat} {v:ai} {j:Nat} {xs:List ai},bI w B ty wd v j xs->ty≠142->ty≠238->bI w' B ty wd v j xs:=λho h1 h2=>fr.ownsRow ho (λq hq e=>by have t0:=ig ho hq;grind[iU.tags]);have pick:∀{i:Nat} {a:GL},(y.G.set k ⟨p.yb,u',L'⟩)[i]? =a->(i=k/\a=⟨p.yb,u',L'⟩)\/(i≠k/\y.G[i]? =a):=Zv;have mem:∀q,q∈(y.G.set k ⟨p.yb,u',L'⟩)->q=⟨p.yb,u',L'⟩\/∃j,j≠k/\y.G[j]? =q:=(by grind[List.mem_iff_getElem?]);(have SE:∀x,Ii p.yb u' x->Ii p.yb p.u x\/w<=x:=λx hx=>by rcases hx with e|e;{exact .inl<|.inl e};rcases hl.mY x e with a|a;{exact .inl<|.inr a};omega);have hold:∀q∈y.G,∀x,Ii q.yb q.u x->x<w:=λq hq x hx=>(h.lZ<|.inr Zv).1;refine⟨⟨⟨(fr.block yb (bF h.blk)<|h.Zp vO).t h.blk,H h.tH Xa Xa,H h.ik Xa Xa,H h.heard Xa Xa,?_,H h.outs Xa Xa,H h.kL Xa Xa,?_,h.hy,h.hP,?_⟩,?_,?_⟩,?_⟩;{show w'.ownsRow B 139 1 y.gv (y.G.set k _).length ((y.G.set k _).map λg=>ptr g.yb);grind[aAI,cases aY]};{intro q hq;rcases mem q hq with rfl|⟨j,hj,Ya⟩;{exact hl.ref};exact(h.refs q Zv).stay fr λx e hf=>ha k j p q YV hk Ya x e hf};{show y.Q=((y.G.set k _).length:Int)/\_;rw[Je];exact h.hQ};{exact fr.z λx e=>.inl<|.inr Zv};{intro x hx;rcases hx with e|e|e|e|e|e|e|⟨q,hq,hf⟩;{exact .inl<|.inl e};{exact .inl<|.inr<|.inl e};{exact .inl<|.inr<|.inr<|.inl e};{exact .inl<|.inr<|.inr<|.inr<|.inl e};{exact .inl<|.inr<|.inr<|.inr<|.inr<|.inl e};{exact .inl<|.inr<|.inr<|.inr<|.inr<|.inr<|.inl e};{exact .inl<|.inr<|.inr<|.inr<|.inr<|.inr<|.inr<|.inl e};rcases mem q hq with rfl|⟨j,hj,Ya⟩;{rcases SE x hf with a|a;{exact .inl<|.inr Zv};omega};{exact .inl<|.inr Zv}};intro i j a b BN hi hj x h1 h2;rcases pick hi with⟨e1,rfl⟩|⟨e1,jC⟩<;>rcases pick hj with⟨e2,rfl⟩|⟨e2,AB⟩;{omega};{rcases SE x h1 with c|c;{exact ha k j p b YV hk AB x c h2};grind};{rcases SE x h2 with c|c;{exact ha i k a p e1 jC hk x h1 c};grind};exact ha i j a b BN jC AB x h1 h2
variable{m q:Int}
def aAJ(h:aY w B yb y)(H:¬(0<=m/\m<=y.P-1))(ep):aH aj 76 #[ak yb,m,V Z ep,q] w λr w'=>r=V Z 2/\w=w':=by have HM:=aQe<|jr H;have c0:=h.k 0;have lV:=h.hP.2.1;have jI:=h.hP.2.2;go_enter func76,ntmps76;go_wp2_with (apply(jS _ _ _ _).z;rw[HM];rintro e w1 ⟨rfl,rfl⟩);go_ret;simp_all
def aAK(h:aY w B yb y)(H:0<=m/\m<=y.P-1)(hq:¬(0<=q/\q<=y.Q-1))(ep):aH aj 76 #[ak yb,m,V Z ep,q] w λr w'=>r=V Z 3/\w=w':=by have HM:=aQe<|iC H;have HQ:I (decide (0<=q/\q<=y.Q-1)=ah):=Zv;have c0:=h.k 0;have c1:=h.k 1;have jI:=h.hP.2.2;have lF:=h.hQ.2.2.1;have oU:=h.hQ.2.2.2;go_enter func76,ntmps76;go_wp2_with (go_at_call 72;apply(jS _ _ _ _).z;(first|rw[HM]|rw[HQ]);rintro e w1 ⟨rfl,rfl⟩);go_ret;simp_all
def JA(y:RS)(m ep:Int)(H:Bool):Int:=if qA y.dn (aF y.L m).e ep≠0 then qA y.dn (aF y.L m).e ep else if 1<(aF y.L m).s then 9 else if H then 10 else 0
def adZ(h:aY w B yb y)(hF:y.iH)(hm:0<=m/\m<=y.P-1){q:Nat}{o}(ho:y.aPW[q]? =Y o){ep}(ht:JA y m ep o≠0):aH aj 76 #[ak yb,m,ep,q] w λr w'=>r=aU (.int .i64<|JA y m ep o)/\Fr aB w w':=by
 have H:=aQe h;have HF:=aQe hF;have lu:I ((O y.L+1)*8<=2^47):=by have:=hF.lL;exact aQw
 have zI:=(kY.1 ho).1;have hQ:=h.hQ;have HM:I (decide (0<=m/\m<=y.P-1)=A):=Zv;have HQ:I (decide (0<=(q:Int)/\(q:Int)<=y.Q-1)=A):=iC YV;have c0:au w yb=Y (y.P):=h.c 0;have c1:au w (yb,1)=Y (y.Q):=h.c 1;have xJ:au w (yb,13)=Y y.ov:=h.c 13;have⟨g,cap,hv,hg,hc,k0⟩:=h.Po ho;rw[hv]at xJ;have lV:=h.hP.2.1;have jI:=h.hP.2.2;have lF:=h.hQ.2.2.1;have oU:=h.hQ.2.2.2;have aO:=bF h.blk;have⟨z,hz⟩:∃z,aF y.L m=z:=⟨_,J⟩;have HZ:=aQe hz;unfold JA at ht⊢;rw[hz]at ht⊢;have⟨sp,nY⟩:∃sp,qA y.dn z.e ep=sp:=⟨_,J⟩;have zH:=aQe nY;rw[nY]at ht⊢;have ZE:(0:Int)<=(q:Int):=YV
 have ZF:(q:Int)<O y.aPW:=YV
 clear h hm hF hz nY hQ ho hv;by_cases h0:sp≠0;{rw[if_pos h0];(have TR:(sp==0)=false:=Zv);clear ht h0;go_enter func76,ntmps76;go_wp2_with (first|(go_at_call 72;apply(jS _ _ _ _).z;(first|rw[HM]|rw[HQ]);rintro e w1 ⟨rfl,rfl⟩)|(go_at_call 105;apply(sG H m HF.arg lu).z;rw[HZ];rintro e w1 ⟨v1,rfl,bV,aI⟩;obtain⟨va,vc,rfl,_⟩:=jg bV;have F1:=aQe aI;clear bV aI)|(go_at_call 132;apply(Gp (H.a<|F1.alloc _) _ _ _ _ _ _ ep).z;rw[zH];rintro e w2 ⟨rfl,bJ⟩;(have F2:=aQe<|(F1.alloc _).t bJ Zv);clear bJ));go_ret;exact⟨J,F2⟩};{(have h0:sp=0:=YV);subst h0;rw[if_neg YV]at ht⊢;by_cases h1:1<z.s;{rw[if_pos h1];clear ht h0;go_enter func76,ntmps76;go_wp2_with (first|(go_at_call 72;apply(jS _ _ _ _).z;(first|rw[HM]|rw[HQ]);rintro e w1 ⟨rfl,rfl⟩)|(go_at_call 105;apply(sG H m HF.arg lu).z;rw[HZ];rintro e w1 ⟨v1,rfl,bV,aI⟩;obtain⟨va,vc,rfl,_⟩:=jg bV;have F1:=aQe aI;clear bV aI)|(go_at_call 132;apply(Gp (H.a<|F1.alloc _) _ _ _ _ _ _ ep).z;rw[zH];rintro e w2 ⟨rfl,bJ⟩;have k2:au w2 (M (R w1),2)=Y (V Z z.s):=Fr.box (S:=λ_=>False) bJ id 2;(have F2:=aQe<|(F1.alloc _).t bJ Zv);clear bJ));go_ret;exact⟨J,F2⟩};rw[if_neg h1]at ht⊢;(have h2:o=true:=Zv);rw[h2]at k0;rw[if_pos h2];clear ht h0 h2;go_enter func76,ntmps76;go_wp2_with (first|(go_at_call 72;apply(jS _ _ _ _).z;(first|rw[HM]|rw[HQ]);rintro e w1 ⟨rfl,rfl⟩)|(go_at_call 105;apply(sG H m HF.arg lu).z;rw[HZ];rintro e w1 ⟨v1,rfl,bV,aI⟩;obtain⟨va,vc,rfl,_⟩:=jg bV;have F1:=aQe aI;clear bV aI)|(go_at_call 132;apply(Gp (H.a<|F1.alloc _) _ _ _ _ _ _ ep).z;rw[zH];rintro e w2 ⟨rfl,bJ⟩;have k2:au w2 (M (R w1),2)=Y (V Z z.s):=Fr.box (S:=λ_=>False) bJ id 2;(have F2:=aQe<|(F1.alloc _).t bJ Zv);have d13:=(F2.cell (p:=(yb,13)) aO id).t xJ;have d0:=(F2.cell (p:=(g,q)) hg id).t k0;clear bJ));go_ret;exact⟨J,F2⟩}
end
end
section
section
variable{w w' B yb y}
def aY.fD(h:aY w B yb y){p}(hp:p<O y.H):∃g cap x,y.hv=aP (Y ⟨g,0,U⟩) y.H cap/\g<w/\y.H<=cap/\g≠yb/\w (g,p)=V Z x/\(∀o,w.frozen? ⟨g,o,U⟩=ah):=by rcases h.heard.2 with⟨hv,h0⟩|⟨g,cap,cur,hv,hb,hg,h1,h2,_⟩;{omega};have hr:=h.heard;rw[hv]at hr;have⟨x,hx⟩:∃x,y.H[p]? =Y x:=⟨_,gG hp⟩;exact⟨g,cap,x,hv,bF hg,h1,λe=>mZ h.heard h.blk Xa (by rw[hv,e];rfl),Jl hr hx,gJ hg⟩
inductive aoX(w:ae)(B yb:Nat)(y:RS)(i q:Nat)(g:GL)(t:Int):Ending->ae->Prop
 |mk {u':ai} {w':ae} (hm:dG w w' B yb y ((y.jZ q ⟨g.yb,u',oq g.L i t⟩).NK i y.tm)) (ha:lN (y.jZ q ⟨g.yb,u',oq g.L i t⟩).G):aoX w B yb y i q g t (aU<|V Z 0) w'
inductive ad1(w:ae)(B yb:Nat)(y:RS)(i q:Nat)(g:GL)(t:Int):Ending->ae->Prop
 |ok {y1:RS} {u':ai} {w':ae} (ho:ni y ⟨2,i,q,t⟩ A y1) (hm:dG w w' B yb y ((y1.jZ q ⟨g.yb,u',oq g.L i t⟩).NK i y.tm)) (ha:lN (y1.jZ q ⟨g.yb,u',oq g.L i t⟩).G):ad1 w B yb y i q g t (aU<|V Z 0) w'
 |lC {y':RS} {w':ae} (ho:ni y ⟨2,i,q,t⟩ ah y') (hm:dG w w' B yb y y'):ad1 w B yb y i q g t (aU<|V Z 5) w'
def ni.aAL{r y1}(h:ni y r A y1):y1.G=y.G/\y1.gv=y.gv/\y1.H=y.H/\y1.hv=y.hv/\y1.tm=y.tm/\y1.aPW=y.aPW:=by cases h;exact⟨J,J,J,J,J,J⟩
variable{i q:Nat}{g ep}
def aAM(h:aY w B yb y)(hF:y.iH)(nI:lN y.G)(hm:(i:Int)<y.P)(Et:y.G[q]? =Y g)(ho:y.aPW[q]? =ah)(nY:qA y.dn (aF y.L i).e ep=0)(hs:(aF y.L i).s=1)(iy:(q:Int)∈(aF y.L i).ps)(hb:(O g.L+1)*40<=2^47):aH aj 76 #[ak yb,i,ep,q] w (aoX w B yb y i q g (aF y.L i).t):=by
 have H:=aQe h;have HF:=aQe hF;have DW:=aQe nI;have ZG:I (y.G[q]? =Y g):=Et;have KQ:=aQe hb;have lu:I ((O y.L+1)*8<=2^47):=by have:=hF.lL;exact aQw
 have Io:I ((O y.L+1)*32<=2^47):=by have:=hF.lL;show(O y.L+1)*32<=2^47;omega
 have zI:=(kY.1 ho).1;have zk:=(kY.1 Et).1;have hQ:=h.hQ;have ZH:=h.hP;have ZI:i<O y.H:=YV
 have HM:I (decide (0<=(i:Int)/\(i:Int)<=y.P-1)=A):=iC ⟨by omega,by omega⟩;have HQ:I (decide (0<=(q:Int)/\(q:Int)<=y.Q-1)=A):=iC ⟨by omega,by omega⟩;have c0:au w yb=Y (y.P):=h.c 0;have c1:au w (yb,1)=Y (y.Q):=h.c 1;have xJ:au w (yb,13)=Y y.ov:=h.c 13;have⟨og,EL,uX,Fz,hoc,k0⟩:=h.Po ho;rw[uX]at xJ;have lV:=h.hP.2.1;have jI:=h.hP.2.2;have lF:=h.hQ.2.2.1;have oU:=h.hQ.2.2.2;have aO:=bF h.blk;have⟨z,hz⟩:∃z,aF y.L i=z:=⟨_,J⟩;have HZ:=aQe hz;rw[hz]at nY hs iy⊢;have zH:=aQe nY;have HS:=aQe hs;have qy:=aQe<|iC iy;have Ko:=aQe ZI;have⟨gg,jG,Dp,PE,QO,g0⟩:=h.Pn Et;have BQ:au w (yb,12)=Y y.gv:=h.c 12;rw[Dp]at BQ;have NM:=aQe<|iO Et;have ZE:(0:Int)<=(q:Int):=YV
 have ZF:(q:Int)<O y.aPW:=YV
 have ah3:(q:Int)<O y.G:=YV
 have aoY:(0:Int)<=(i:Int):=YV
 have aKh:(i:Int)<O y.H:=YV
 have auh:(i:Int)<=6:=YV
 clear h hm hF hz nY hQ ho uX nI Et ZH hb hs iy ZI Dp;go_enter func76,ntmps76;go_wp2_with (first|(go_at_call 72;apply(jS _ _ _ _).z;(first|rw[HM]|rw[HQ]);rintro e w1 ⟨rfl,rfl⟩)|(go_at_call 105;apply(sG H i HF.arg lu).z;rw[HZ,HS];rintro e w1 ⟨v1,rfl,bV,aI⟩;obtain⟨va,vc,rfl,_⟩:=jg bV;have F1:=aQe aI;have V1:=aQe bV;clear bV aI)|(go_at_call 132;apply(Gp (H.a<|F1.alloc _) _ _ _ _ _ _ ep).z;rw[zH];rintro e w2 ⟨rfl,bJ⟩;have k2:au w2 (M (R w1),2)=Y (V Z 1):=Fr.box (S:=λ_=>False) bJ id 2;have k1:au w2 (M (R w1),1)=Y (V Z z.t):=Fr.box (S:=λ_=>False) bJ id 1;have k3:au w2 (M (R w1),3)=Y (.slice va (O z.ps) vc):=Fr.box (S:=λ_=>False) bJ id 3;have F2:=aQe<|(F1.alloc _).t bJ dA;have V2:=aQe<|bJ.ownsRow ((aQ _).ownsRow V1 λ_ _=>id) λ_ _=>id;have d13:=(F2.cell (p:=(yb,13)) aO id).t xJ;have d0:=(F2.cell (p:=(og,q)) Fz id).t k0;have d12:=(F2.cell (p:=(yb,12)) aO id).t BQ;have h0:=(F2.cell (p:=(gg,q)) PE id).t g0;clear bJ)|(go_at_call 133;apply(Si V2 q).z;rw[qy];rintro e w3 ⟨rfl,rfl⟩)|(go_at_call 134;fail));have YM2:=aQe<|(dG.refl H).a F2;apply(ano ((YM2).at_.refs g NM) i z.t KQ).z;rintro e w5 ⟨rfl,u',hl⟩;have bn:=(YM2).at_.NL DW ZG hl;have L5:I (dG w w5 B yb y (y.jZ q ⟨g.yb,u',oq g.L i z.t⟩)/\lN (y.jZ q ⟨g.yb,u',oq g.L i z.t⟩).G):=⟨(YM2).t bn.1,bn.2⟩;have⟨hg,oI,hxv,CU,hhl,Xu,SG,hhx,hhf⟩:=bn.1.at_.fD (p:=i) Ko;have SI:=aQe CU;have d7:au w5 (yb,7)=Y (V Z y.tm):=bn.1.at_.c 7;have d11:au w5 (yb,11)=Y (y.jZ q ⟨g.yb,u',oq g.L i z.t⟩).hv:=bn.1.at_.c 11;rw[CU]at d11;have⟨hlen,JB⟩:∃hlen,(y.jZ q ⟨g.yb,u',oq g.L i z.t⟩).H.length=hlen:=⟨_,J⟩;rw[JB]at d11 Xu;have hi5:(i:Int)<hlen:=by have h1:i<(y.jZ q ⟨g.yb,u',oq g.L i z.t⟩).H.length:=Ko;rw[JB]at h1;omega
 clear bn hl CU JB;go_wp2_with fail;go_region_held3 (λw'=>au w' (yb,7)=Y (V Z y.tm)/\au w' (yb,11)=Y (aP hg hlen oI)) (first|go_keep|(simp only[Pm _ _<|Ne.s SG,World.cell?_drew];with_reducible exact⟨d7,d11⟩)) (fail);go_wp2_with fail;go_ret;have hY:=L5.1.t<|L5.1.at_.adY SI Ko y.tm;exact .mk (hY.a<|eH.drew) L5.2
def aoZ(h:aY w B yb y)(hF:y.iH)(nI:lN y.G)(hm:(i:Int)<y.P)(Et:y.G[q]? =Y g)(ho:y.aPW[q]? =ah)(nY:qA y.dn (aF y.L i).e ep=0){T}(hs:(aF y.L i).s=0/\T=(aF y.L i).t+1\/(aF y.L i).s=1/\(q:Int)∉(aF y.L i).ps/\T=(aF y.L i).t)(hO:(⟨2,i,q,T⟩:Rc).Ok)(hb:(O g.L+1)*40<=2^47):aH aj 76 #[ak yb,i,ep,q] w (ad1 w B yb y i q g T):=by
 have H:=aQe h;have HF:=aQe hF;have DW:=aQe nI;have ZG:=aQe Et;have KQ:=aQe hb;have lu:I ((O y.L+1)*8<=2^47):=by have:=hF.lL;exact aQw
 have Io:I ((O y.L+1)*32<=2^47):=by have:=hF.lL;show(O y.L+1)*32<=2^47;omega
 have zI:=(kY.1 ho).1;have zk:=(kY.1 Et).1;have hQ:=h.hQ;have ZH:=h.hP;have ZI:i<O y.H:=YV
 have HM:I (decide (0<=(i:Int)/\(i:Int)<=y.P-1)=A):=iC ⟨by omega,by omega⟩;have HQ:I (decide (0<=(q:Int)/\(q:Int)<=y.Q-1)=A):=iC ⟨by omega,by omega⟩;have c0:au w yb=Y (y.P):=h.c 0;have c1:au w (yb,1)=Y (y.Q):=h.c 1;have xJ:au w (yb,13)=Y y.ov:=h.c 13;have⟨og,EL,uX,Fz,hoc,k0⟩:=h.Po ho;rw[uX]at xJ;have lV:=h.hP.2.1;have jI:=h.hP.2.2;have lF:=h.hQ.2.2.1;have oU:=h.hQ.2.2.2;have aO:=bF h.blk;have⟨z,hz⟩:∃z,aF y.L i=z:=⟨_,J⟩;have HZ:=aQe hz;rw[hz]at nY hs;have zH:=aQe nY;have aAN:=aQe ZI;have HO:=aQe hO;have⟨_,_,_,_,_,_,m0,m1⟩:=HO;simp only at m0 m1;have HW:I (∀W,aY W B yb y->aH aj 131 #[ak yb,jf #[V Z 2,i,q,T]] W λe w'=>∃ok y',e=aU (aA ok)/\ni y ⟨2,i,q,T⟩ ok y'/\dG W w' B yb y y'):=λW hW=>ahF hW ⟨2,i,q,T⟩ HO Io;have ZE:(0:Int)<=(q:Int):=YV
 have ZF:(q:Int)<O y.aPW:=YV
 have ah3:(q:Int)<O y.G:=YV
 have aoY:(0:Int)<=(i:Int):=YV
 have aKh:(i:Int)<O y.H:=YV
 have auh:(i:Int)<=6:=YV
 clear h hm hF hz nY hQ ho uX nI Et ZH hb ZI hO;have qy:I (z.s=1->decide ((q:Int)∈z.ps)=ah):=λe=>hs.e (λh=>absurd (h.1.s.t e) Xa) λh=>jr h.2.1;replace hs:z.s=0/\T=z.t+1\/z.s=1/\T=z.t:=hs.imp id λh=>⟨h.1,h.2.2⟩;rcases hs with⟨hs,hT⟩|⟨hs,hT⟩;all_goals have HS:=aQe hs;rw[hT]at m0 m1;have HT:=aQe hT.s;clear hs hT;go_enter func76,ntmps76;go_wp2_with (first|(go_at_call 72;apply(jS _ _ _ _).z;(first|rw[HM]|rw[HQ]);rintro e w1 ⟨rfl,rfl⟩)|(go_at_call 105;apply(sG H i HF.arg lu).z;rw[HZ,HS];rintro e w1 ⟨v1,rfl,bV,aI⟩;obtain⟨va,vc,rfl,_⟩:=jg bV;have F1:=aQe aI;have V1:=aQe bV;clear bV aI)|(go_at_call 132;apply(Gp (H.a<|F1.alloc _) _ _ _ _ _ _ ep).z;rw[zH];rintro e w2 ⟨rfl,bJ⟩;have k2:au w2 (M (R w1),2)=Y (V Z _):=Fr.box (S:=λ_=>False) bJ id 2;have k1:au w2 (M (R w1),1)=Y (V Z z.t):=Fr.box (S:=λ_=>False) bJ id 1;have k3:au w2 (M (R w1),3)=Y (.slice va (O z.ps) vc):=Fr.box (S:=λ_=>False) bJ id 3;have F2:=aQe<|(F1.alloc _).t bJ dA;have V2:=aQe<|bJ.ownsRow ((aQ _).ownsRow V1 λ_ _=>id) λ_ _=>id;have d13:=(F2.cell (p:=(yb,13)) aO id).t xJ;have d0:=(F2.cell (p:=(og,q)) Fz id).t k0;clear bJ)|(go_at_call 133;apply(Si V2 q).z;rw[qy HS];rintro e w3 ⟨rfl,rfl⟩)|(go_at_call 131;fail));rw[HT];apply(HW _<|H.a F2).z;rintro e w3 ⟨ok,y1,rfl,IV,ao0⟩;have R3:=aQe<|ao0.behind F2;have HO1:=aQe IV;clear ao0;cases ok;{clear IV;go_wp2_with fail;go_ret;exact .lC HO1 R3};have⟨q1,q2,q3,q4,q5,q6⟩:=IV.aAL;(have ad3:I (y1.G[q]? =Y g):=by show y1.G[q]? =Y g;rw[q1];exact ZG);(have aAO:I (lN y1.G):=by show lN y1.G;rw[q1];exact DW);(have Ko:I (i<O y1.H):=by show i<O y1.H;rw[q3];exact aAN);have HTM:=aQe q5;clear IV q1 q2 q3 q4 q5 q6 c0 c1 xJ d13 d0 k0;have⟨gg,jG,Dp,PE,QO,g0⟩:=(R3).at_.Pn ad3;have e12:au w3 (yb,12)=Y y1.gv:=(R3).at_.c 12;rw[Dp]at e12;have NM:=aQe<|iO ad3;(have hGl:(q:Int)<O y1.G:=by have:=(kY.1 ad3).1;omega);clear Dp;go_wp2_with (first|(go_at_call 134;fail));apply(ano ((R3).at_.refs g NM) i T KQ).z;rintro e w5 ⟨rfl,u',hl⟩;have bn:=(R3).at_.NL aAO ad3 hl;have L5:I (dG w w5 B yb y (y1.jZ q ⟨g.yb,u',oq g.L i T⟩)/\lN (y1.jZ q ⟨g.yb,u',oq g.L i T⟩).G):=⟨(R3).t bn.1,bn.2⟩;have⟨hg,oI,hxv,CU,hhl,Xu,SG,hhx,hhf⟩:=bn.1.at_.fD (p:=i) Ko;have SI:=aQe CU;have d7:au w5 (yb,7)=Y (V Z y1.tm):=bn.1.at_.c 7;have d11:au w5 (yb,11)=Y (y1.jZ q ⟨g.yb,u',oq g.L i T⟩).hv:=bn.1.at_.c 11;rw[CU]at d11;have⟨hlen,JB⟩:∃hlen,(y1.jZ q ⟨g.yb,u',oq g.L i T⟩).H.length=hlen:=⟨_,J⟩;rw[JB]at d11 Xu;(have hi5:(i:Int)<hlen:=by have h1:i<(y1.jZ q ⟨g.yb,u',oq g.L i T⟩).H.length:=Ko;rw[JB]at h1;omega);clear bn hl CU JB;go_wp2_with fail;go_region_held3 (λw'=>au w' (yb,7)=Y (V Z y1.tm)/\au w' (yb,11)=Y (aP hg hlen oI)) (first|go_keep|(simp only[Pm _ _<|Ne.s SG,World.cell?_drew];with_reducible exact⟨d7,d11⟩)) (fail);go_wp2_with fail;go_ret;have hY:=L5.1.t<|L5.1.at_.adY SI Ko y1.tm;refine .ok HO1 ?_ L5.2;rw[<-show y1.tm=y.tm from HTM];exact hY.a<|eH.drew
end
end
section
def rP(L:List Rc)(tm:Int)(Q:Nat):Nat->List Du|0=>[]|k+1=>if 1<(aF L k).s then(rP L tm Q k).filter (Du.stays k<|-1)++lq k tm (aF L k).ps Q else rP L tm Q k
def ao2(L:List Rc)(tm:Int)(Q:Nat):∀k,(rP L tm Q k).length<=k*Q|0=>(by simp[rP])|k+1=>by have ih:=ao2 L tm Q k;rw[rP,acO];grind[aog]
def RS.rising(y:RS)(k:Nat)(dv:ai)(H:List Int):RS:={y with dn:=ah,qx:=⟨#[]⟩,dv:=dv,D:=rP y.L y.tm y.Q.toNat k,H:=H}
section
variable{w w':ae}{B yb:Nat}{y:RS}
structure ZJ(w w':ae)(B yb:Nat)(y:RS)(k:Nat)(dv:ai)(H:List Int):Prop where
 at_:aY w' B yb (y.rising k dv H)
 fr:Fr (λb=>b=yb\/y.hv.ownBlock=Y b) w w'
 new:∀b,dw dv=Y b->M (R w)<=b
 len:O H=O y.H
 set:∀j,j<k->H[j]? =Y y.tm
def aAQ(h:aY w B yb y)(hd:y.dn=A)(hF:y.iH):aH aj 46 #[ak yb] w λr w'=>r=V Z 0/\∃dv H,ZJ w w' B yb y y.H dv H:=by
 have H:I (aY w B yb y):=h;have HF:I y.iH:=hF;have lu:I ((O y.L+1)*8<=2^47):=by have:=hF.lL;show(O y.L+1)*8<=2^47;omega
 have c4:=h.k 4;have c9:=h.k 9;have zF:=h.k 10;have hf:=gJ h.blk;rw[hd]at c4;have Mc:=h.hP.1;have lV:=h.hP.2.1;have jI:=h.hP.2.2;have HQ4:I (y.Q.toNat<=4):=by have:=h.hQ.2.2.2;show y.Q.toNat<=4;omega
 have hlw:=bF h.blk;clear h hd hF;go_enter func46,ntmps46;go_wp2_with fail;go_loopw [3] (λi w'=>∃k:Nat,(k:Int)<=y.P/\i=k/\∃dv H',ZJ w w' B yb y k dv H') (λi _=>(y.P-bM i).toNat);case atStart=>have fr:Fr (λk=>k=yb) w (((aZ w (yb,4) ah).setCell (yb,9)<|dN ⟨#[]⟩).setCell (yb,10)<|aP U 0 0):=(by grind[Fr.setCell,Fr.refl]);refine⟨0,by omega,J,aP U 0 0,y.H,H.put fr (eX (eX (eX H.blk 4 ah) 9<|dN ⟨#[]⟩) 10<|aP U 0 0) J J (aQS _ _ _ _) J J J J J J J J J J,fr.z λk hk=>.inl<|.inl hk,λb hb=>by simp[Value.ownBlock]at hb,J,λj hj=>by omega⟩
 case round=>obtain⟨k,hk,rfl,dv,H',hy⟩:=hrel;have HY:I (ZJ w wr B yb y k dv H'):=hy;have d0:au wr yb=Y (y.P):=hy.at_.c 0;have d7:au wr (yb,7)=Y (y.tm):=hy.at_.c 7;have d11:au wr (yb,11)=Y y.hv:=hy.at_.c 11;have hlen:=hy.len;by_cases aO:(k:Int)<y.P;{(have jH:k<O H':=by omega);obtain⟨hg,oI,hxv,CU,hhl,Xu,SG,hhx,hhf⟩:=hy.at_.fD (p:=k) jH;have SI:I ((y.rising k dv H').hv=aP hg (y.rising k dv H').H.length oI):=CU;have MJ:y.hv=aP hg (O H') oI:=CU;have HV':I (y.hv=aP hg (O H') oI):=CU;rw[MJ]at d11;have Sv:I (∀j,j<k->H'[j]? =Y y.tm):=hy.set;(have J8:(k:Int)<(O H':Int):=by omega);(have FB:(0:Int)<=(k:Int):=by omega);(have qJ:k<6:=by omega);clear hy CU MJ;go_wp2_with fail;go_region_held3 (λw'=>au w' (yb,7)=Y (y.tm)/\au w' (yb,11)=Y (aP hg (O H') oI)) (first|go_keep|(simp only[Pm _ _<|Ne.s SG,World.cell?_drew];with_reducible exact⟨d7,d11⟩)) (fail);have hY:=(HY.at_.adY SI jH y.tm).a<|eH.drew;have fg:Fr (λb=>b=hg) wr (aZ wr (hg,k) y.tm).drew:=((Fr.refl (λb=>b=hg) wr).setCell (p:=(hg,k)) (.inl J) _).drew;have FW:I (Fr (λb=>b=yb\/y.hv.ownBlock=Y b) w (aZ wr (hg,k) y.tm).drew):=HY.fr.t fg λb hb=>.inl<|.inr (by rw[HV',hb];rfl);generalize(aZ wr (hg,k) y.tm).drew=W at hY FW⊢;have HW:I (aY W B yb<|y.rising k dv<|H'.set k y.tm):=hY.at_;(have Dl:I (∀j,j<k+1->(H'.set k y.tm)[j]? =Y y.tm):=λj hj=>by by_cases e:j=k;{simp_all};{rw[afX λe2=>e e2.s];exact Sv j<|by omega});(have HL2:I ((H'.set k y.tm).length=O y.H):=by show(H'.set k y.tm).length=O y.H;simp_all);have aAT:I (∀b,dw dv=Y b->w<=b):=HY.new;clear hY fg d0 d7 d11 hhx hhf;obtain⟨z,hz⟩:∃z,aF y.L k=z:=⟨_,J⟩;have HZ:I (aF y.L k=z):=hz;clear hz;by_cases h1:1<z.s;{(have HD:I (rP y.L y.tm y.Q.toNat (k+1)=(rP y.L y.tm y.Q.toNat k).filter (Du.stays k<|-1)++lq k y.tm z.ps y.Q.toNat):=by show rP y.L y.tm y.Q.toNat (k+1)=_;rw[rP,HZ,if_pos h1]);(have HDL:I (((rP y.L y.tm y.Q.toNat k).length+8)*32<=2^47):=by show((rP y.L y.tm y.Q.toNat k).length+8)*32<=2^47;have:=ao2 y.L y.tm y.Q.toNat k;have h2:k*y.Q.toNat<=6*4:=Nat.mul_le_mul (by omega) HQ4;omega);go_wp2_with (first|(go_at_call 105;refine(sG (y:=y.rising k dv<|H'.set k y.tm) (by exact HW) k HF.arg lu).z ?_;rw[show aF (y.rising k dv<|H'.set k y.tm).L k=z from HZ];rintro e w2 ⟨v2,rfl,jo,bJ⟩;obtain⟨va,vc,rfl,_⟩:=jg jo;have F2:I (Fr aB W w2):=bJ;clear jo bJ)|(go_at_call 106;refine(ahA (y:=y.rising k dv<|H'.set k y.tm) (by exact HW.a<|F2.alloc _) k HF.arg lu HDL HF.tm).z ?_;rintro e w3 ⟨rfl,dv2,hp⟩;have P3:I (KO (w2.alloc<|aC #[z.e,z.t,z.s,.slice va (O z.ps) vc] 157) w3 B yb (y.rising k dv<|H'.set k y.tm) ((rP y.L y.tm y.Q.toNat k).filter (Du.stays k<|-1)++lq k y.tm (aF y.L k).ps y.Q.toNat) dv2):=hp;clear hp));go_roundw;(case rel=>have hzw:w<=(w2.alloc<|aC #[z.e,z.t,z.s,.slice va (O z.ps) vc] 157).heap.size:=dX FW.size (F2.alloc _).size;refine⟨k+1,by omega,by go_num,dv2,H'.set k y.tm,?_,?_,λb hb=>dX hzw<|P3.mY b hb,HL2,Dl⟩;{(have e1:y.rising (k+1) dv2 (H'.set k y.tm)=(y.rising k dv<|H'.set k y.tm).ik dv2 ((rP y.L y.tm y.Q.toNat k).filter (Du.stays k<|-1)++lq k y.tm (aF y.L k).ps y.Q.toNat):=by unfold RS.rising RS.ik;rw[HD,HZ]);rw[e1];exact P3.at_};exact(FW.t (F2.alloc _) dA).t P3.fr λb hb=>.inl<|.inl hb);case measure=>simp[bM]<;>omega};{(have HD:I (rP y.L y.tm y.Q.toNat (k+1)=rP y.L y.tm y.Q.toNat k):=by show rP y.L y.tm y.Q.toNat (k+1)=_;rw[rP,HZ,if_neg h1]);go_wp2_with (first|(go_at_call 105;refine(sG (y:=y.rising k dv<|H'.set k y.tm) (by exact HW) k HF.arg lu).z ?_;rw[show aF (y.rising k dv<|H'.set k y.tm).L k=z from HZ];rintro e w2 ⟨v2,rfl,jo,bJ⟩;obtain⟨va,vc,rfl,_⟩:=jg jo;have F2:I (Fr aB W w2):=bJ;clear jo bJ));go_roundw;(case rel=>refine⟨k+1,by omega,by go_num,dv,H'.set k y.tm,?_,FW.t (F2.alloc _) dA,aAT,HL2,Dl⟩;(have e1:y.rising (k+1) dv (H'.set k y.tm)=y.rising k dv (H'.set k y.tm):=by unfold RS.rising;rw[HD]);rw[e1];exact HW.a<|F2.alloc _);case measure=>simp[bM]<;>omega}};(have hkP:k=O y.H:=by omega);subst hkP;clear hy;go_wp2;go_ret;exact⟨J,dv,H',HY⟩
end
end
section
section
variable{w w':ae}{B yb:Nat}{y:RS}
variable{m q:Int}{ts:ByteArray}
def aAV(h:aY w B yb y)(H:¬(0<=m/\m<=y.P-1))(ep ts):aH aj 78 #[ak yb,m,V Z ep,q,dN ts] w λr w'=>r=V Z 2/\w=w':=by have HM:=aQe<|jr H;have c0:w yb=y.P:=h.c 0;have lV:=h.hP.2.1;have jI:=h.hP.2.2;clear h H;go_enter func78,ntmps78;go_wp2_with (go_at_call 72;apply(jS _ _ _ _).z;rw[HM];rintro e w1 ⟨rfl,rfl⟩);go_ret;exact⟨J,J⟩
def aAW(h:aY w B yb y)(H:0<=m/\m<=y.P-1)(hq:¬(0<=q/\q<=y.Q-1))(ep ts):aH aj 78 #[ak yb,m,V Z ep,q,dN ts] w λr w'=>r=V Z 3/\w=w':=by have HM:=aQe<|iC H;have HQ:=aQe<|jr hq;have c0:w yb=y.P:=h.c 0;have c1:w (yb,1)=y.Q:=h.c 1;have lV:=h.hP.2.1;have jI:=h.hP.2.2;have lF:=h.hQ.2.2.1;have oU:=h.hQ.2.2.2;clear h H hq;go_enter func78,ntmps78;go_wp2_with (go_at_call 72;apply(jS _ _ _ _).z;(first|rw[HM]|rw[HQ]);rintro e w1 ⟨rfl,rfl⟩);go_ret;exact⟨J,J⟩
def aAX(h:aY w B yb y)(H:0<=m/\m<=y.P-1)(hq:0<=q/\q<=y.Q-1)(ep)(ht:8<ts.size)(Eh:ts.size<=2^47):aH aj 78 #[ak yb,m,V Z ep,q,ts] w λr w'=>r=V Z 4/\w=w':=by have HM:=aQe<|iC H;have HQ:=aQe<|iC hq;have c0:w yb=(y.P):=h.c 0;have c1:w (yb,1)=(y.Q):=h.c 1;have lV:=h.hP.2.1;have jI:=h.hP.2.2;have lF:=h.hQ.2.2.1;have oU:=h.hQ.2.2.2;(have L8:(8:Int)<(ts.size:Int):=YV);clear h H hq;go_enter func78,ntmps78;go_wp2_with (go_at_call 72;apply(jS _ _ _ _).z;(first|rw[HM]|rw[HQ]);rintro e w1 ⟨rfl,rfl⟩);go_ret;exact⟨J,J⟩
def ah6(h:aY w B yb y)(hF:y.iH)(hm:0<=m/\m<=y.P-1)(hq:0<=q/\q<=y.Q-1){ep}(ht:rZ y m ep≠0)(h8:ts.size<=8):aH aj 78 #[ak yb,m,ep,q,ts] w λr w'=>r=aU (.int .i64<|rZ y m ep)/\Fr aB w w':=by
 have H:=aQe h;have HF:=aQe hF;have lu:I ((O y.L+1)*8<=2^47):=by have:=hF.lL;exact aQw
 have HM:=aQe<|iC hm;have HQ:=aQe<|iC hq;have c0:au w yb=Y (y.P):=h.c 0;have c1:au w (yb,1)=Y (y.Q):=h.c 1;have lV:=h.hP.2.1;have jI:=h.hP.2.2;have lF:=h.hQ.2.2.1;have oU:=h.hQ.2.2.2;have aO:=bF h.blk;have L8:¬(8:Int)<(ts.size:Int):=YV
 have⟨z,hz⟩:∃z,aF y.L m=z:=⟨_,J⟩;have HZ:=aQe hz;unfold rZ at ht⊢;rw[hz]at ht⊢;have⟨sp,nY⟩:∃sp,qA y.dn z.e ep=sp:=⟨_,J⟩;have zH:=aQe nY;rw[nY]at ht⊢;clear h hm hF hz nY hq;by_cases h0:sp≠0;{rw[if_pos h0];(have TR:(sp==0)=false:=by simpa using h0);clear ht h0;go_enter func78,ntmps78;go_wp2_with (first|(go_at_call 72;apply(jS _ _ _ _).z;(first|rw[HM]|rw[HQ]);rintro e w1 ⟨rfl,rfl⟩)|(go_at_call 105;apply(sG H m HF.arg lu).z;rw[HZ];rintro e w1 ⟨v1,rfl,bV,aI⟩;obtain⟨va,vc,rfl,_⟩:=jg bV;have F1:=aQe aI;clear bV aI)|(go_at_call 132;apply(Gp (H.a<|F1.alloc _) _ _ _ _ _ _ ep).z;rw[zH];rintro e w2 ⟨rfl,bJ⟩;have F2:=aQe<|(F1.alloc _).t bJ dA;clear bJ));go_ret;exact⟨J,F2⟩};{(have h0:sp=0:=YV);subst h0;rw[if_neg YV]at ht⊢;by_cases h1:z.s=0;{rw[if_pos h1];have HS:=aQe h1;clear ht h1 h0;go_enter func78,ntmps78;go_wp2_with (first|(go_at_call 72;apply(jS _ _ _ _).z;(first|rw[HM]|rw[HQ]);rintro e w1 ⟨rfl,rfl⟩)|(go_at_call 105;apply(sG H m HF.arg lu).z;rw[HZ,HS];rintro e w1 ⟨v1,rfl,bV,aI⟩;obtain⟨va,vc,rfl,_⟩:=jg bV;have F1:=aQe aI;clear bV aI)|(go_at_call 132;apply(Gp (H.a<|F1.alloc _) _ _ _ _ _ _ ep).z;rw[zH];rintro e w2 ⟨rfl,bJ⟩;have k2:au w2 (M (R w1),2)=Y (V Z 0):=Fr.box (S:=λ_=>False) bJ id 2;have F2:=aQe<|(F1.alloc _).t bJ dA;clear bJ));go_ret;exact⟨J,F2⟩};rw[if_neg h1]at ht⊢;(have h2:1<z.s:=by by_cases h2:1<z.s;{exact h2};rw[if_neg h2]at ht;exact absurd J ht);rw[if_pos h2];(have BK:(z.s==0)=false:=by simpa using h1);clear ht h1 h0;go_enter func78,ntmps78;go_wp2_with (first|(go_at_call 72;apply(jS _ _ _ _).z;(first|rw[HM]|rw[HQ]);rintro e w1 ⟨rfl,rfl⟩)|(go_at_call 105;apply(sG H m HF.arg lu).z;rw[HZ];rintro e w1 ⟨v1,rfl,bV,aI⟩;obtain⟨va,vc,rfl,_⟩:=jg bV;have F1:=aQe aI;clear bV aI)|(go_at_call 132;apply(Gp (H.a<|F1.alloc _) _ _ _ _ _ _ ep).z;rw[zH];rintro e w2 ⟨rfl,bJ⟩;have k2:au w2 (M (R w1),2)=Y (V Z z.s):=Fr.box (S:=λ_=>False) bJ id 2;have F2:=aQe<|(F1.alloc _).t bJ dA;clear bJ));go_ret;exact⟨J,F2⟩}
inductive ZK(w:ae)(B yb:Nat)(y:RS)(i q:Nat)(g:GL)(t:Int)(ts:ByteArray)(o:Bool)(ps:List Int):Ending->ae->Prop
 |not {w':ae} (hn:(q:Int)∉ps\/lI g.L i t=ah) (f:Fr aB w w'):ZK w B yb y i q g t ts o ps (aU<|V Z 11) w'
 |out {w':ae} (hi:(q:Int)∈ps) (hr:lI g.L i t=A) (ho:o=A) (f:Fr aB w w'):ZK w B yb y i q g t ts o ps (aU<|V Z 10) w'
 |bad {w':ae} {u':ai} (hi:(q:Int)∈ps) (hr:lI g.L i t=A) (ho:o=ah) (hc:vk g.L i t ts≠0) (hm:dG w w' B yb y (y.jZ q ⟨g.yb,u',pX g.L i t ts⟩)) (ha:lN (y.jZ q ⟨g.yb,u',pX g.L i t ts⟩).G):ZK w B yb y i q g t ts o ps (aU<|.int .i64<|vk g.L i t ts) w'
 |ok {w':ae} {u':ai} (hi:(q:Int)∈ps) (hr:lI g.L i t=A) (ho:o=ah) (hc:vk g.L i t ts=0) (hm:dG w w' B yb y ((y.jZ q ⟨g.yb,u',pX g.L i t ts⟩).NK i y.tm)) (ha:lN (y.jZ q ⟨g.yb,u',pX g.L i t ts⟩).G):ZK w B yb y i q g t ts o ps (aU<|V Z 0) w'
def aAY(h:aY w B yb y)(hF:y.iH)(nI:lN y.G){i:Nat}(hm:(i:Int)<y.P){q:Nat}{g}(Et:y.G[q]? =Y g){o}(ho:y.aPW[q]? =Y o){ep}(nY:qA y.dn (aF y.L i).e ep=0)(hs:(aF y.L i).s=1)(hb:(O g.L+1)*40<=2^47)(h8:ts.size<=8):aH aj 78 #[ak yb,i,ep,q,ts] w (ZK w B yb y i q g (aF y.L i).t ts o (aF y.L i).ps):=by
 have H:=aQe h;have HF:=aQe hF;have DW:=aQe nI;have ZG:=aQe Et;have KQ:=aQe hb;have lu:I ((O y.L+1)*8<=2^47):=by have:=hF.lL;exact aQw
 have Xl:I (ts.size<=cZ):=by show ts.size<=cZ;unfold cZ;omega
 have zI:=(kY.1 ho).1;have zk:=(kY.1 Et).1;have hQ:=h.hQ;have ZH:=h.hP;have Ko:I (i<O y.H):=by show i<O y.H;omega
 have HM:I (decide (0<=(i:Int)/\(i:Int)<=y.P-1)=A):=iC ⟨by omega,by omega⟩;have HQ:I (decide (0<=(q:Int)/\(q:Int)<=y.Q-1)=A):=iC ⟨by omega,by omega⟩;have c0:au w yb=Y (y.P):=h.c 0;have c1:au w (yb,1)=Y (y.Q):=h.c 1;have xJ:au w (yb,13)=Y y.ov:=h.c 13;have⟨og,EL,uX,Fz,hoc,k0⟩:=h.Po ho;rw[uX]at xJ;have⟨gg,jG,Dp,PE,QO,g0⟩:=h.Pn Et;have BQ:au w (yb,12)=Y y.gv:=h.c 12;rw[Dp]at BQ;have NM:=aQe<|iO Et;have NGG:I (¬(gg=g.yb\/g.u.ownBlock=Y gg)):=λe=>by have t0:=ig h.dO (k:=gg) (by rw[Dp];rfl);rcases(h.refs g NM).tags e with t1|t1<;>rw[t0]at t1<;>cases t1
 have lV:=h.hP.2.1;have jI:=h.hP.2.2;have lF:=h.hQ.2.2.1;have oU:=h.hQ.2.2.2;have aO:=bF h.blk;have L8:¬(8:Int)<(ts.size:Int):=YV
 have⟨z,hz⟩:∃z,aF y.L i=z:=⟨_,J⟩;have HZ:=aQe hz;rw[hz]at nY hs⊢;have zH:=aQe nY;have HS:=aQe hs;have ZE:(0:Int)<=(q:Int):=YV
 have ZF:(q:Int)<O y.aPW:=YV
 have ah3:(q:Int)<O y.G:=YV
 have aoY:(0:Int)<=(i:Int):=YV
 have auh:(i:Int)<=6:=YV
 have⟨inb,ao3⟩:∃b,decide ((q:Int)∈z.ps)=b:=⟨_,J⟩;have qy:=aQe ao3;have⟨opb,ao5⟩:∃b,lI g.L i z.t=b:=⟨_,J⟩;have ZL:=aQe ao5;clear h hm hF hz nY hQ ho uX nI Et ZH hb hs Dp ao3 ao5;go_enter func78,ntmps78;go_wp2_with (first|(go_at_call 72;apply(jS _ _ _ _).z;(first|rw[HM]|rw[HQ]);rintro e w1 ⟨rfl,rfl⟩)|(go_at_call 105;apply(sG H i HF.arg lu).z;rw[HZ,HS];rintro e w1 ⟨v1,rfl,bV,aI⟩;obtain⟨va,vc,rfl,_⟩:=jg bV;have F1:=aQe aI;have V1:=aQe bV;clear bV aI)|(go_at_call 132;apply(Gp (H.a<|F1.alloc _) _ _ _ _ _ _ ep).z;rw[zH];rintro e w2 ⟨rfl,bJ⟩;have B2:=aQe<|(bJ.block _ Xy id).t<|heap_alloc_new _ _;have k2:au w2 (M (R w1),2)=Y (V Z 1):=Fr.box (S:=λ_=>False) bJ id 2;have k1:au w2 (M (R w1),1)=Y (z.t):=Fr.box (S:=λ_=>False) bJ id 1;have k3:au w2 (M (R w1),3)=Y (.slice va (O z.ps) vc):=Fr.box (S:=λ_=>False) bJ id 3;have F2:=aQe<|(F1.alloc _).t bJ dA;have V2:=aQe<|bJ.ownsRow ((aQ _).ownsRow V1 λ_ _=>id) λ_ _=>id;have d12:=(F2.cell (p:=(yb,12)) aO id).t BQ;have h0:=(F2.cell (p:=(gg,q)) PE id).t g0;clear bJ)|(go_at_call 133;apply(Si V2 q).z;rw[qy];rintro e w3 ⟨rfl,rfl⟩));go_region_held3 (λw'=>au w' (yb,12)=Y (aP gg (O y.G) jG)/\au w' (gg,q)=Y (ak g.yb)/\au w' (M (R w1),1)=Y (z.t)) (first|with_reducible exact C4|exact⟨d12,h0,k1⟩|go_keep) ((go_at_call 137;apply(xR (w:=w2.drew) (H.a F2.drew |>.refs g NM) i z.t).z;rw[ZL];rintro e w4 ⟨rfl,pU⟩;have F4:=aQe<|F2.drew.t pU dA;have yX:=aQe<|(eH.drew:Fr aB w2 w2.drew).t pU dA;have C4:au w4 (yb,12)=Y (aP gg (O y.G) jG)/\au w4 (gg,q)=Y (ak g.yb)/\au w4 (M (R w1),1)=Y (V Z z.t):=⟨(F4.cell (p:=(yb,12)) aO id).t BQ,(F4.o.cell (p:=(gg,q)) PE id).t g0,(yX.o.cell (p:=(M (R w1),1)) (bF B2.o) id).t k1⟩;have d13:=(F4.o.cell (p:=(yb,13)) aO id).t xJ;have d0:=(F4.o.cell (p:=(og,q)) Fz id).t k0;clear pU));cases inb;{go_wp2_with fail;go_ret;exact .not (.inl<|of_decide_eq_false qy.o) F4.o};cases opb;{go_wp2_with fail;go_ret;exact .not (.inr ZL.o) F4.o};cases o;{have⟨C41,C42,C43⟩:=C4;go_wp2_with fail;go_region_held3 (λw'=>au w' (yb,12)=Y (aP gg (O y.G) jG)/\au w' (gg,q)=Y (ak g.yb)/\au w' (M (R w1),1)=Y (V Z z.t)) (first|with_reducible exact C5|exact⟨C41,C42,C43⟩|go_keep) ((go_at_call 138;apply(axr (w:=w4.drew) (H.o.a F4.o.drew |>.refs g NM.o) i z.t ts Xl.o KQ.o).z;rintro e w5 ⟨rfl,u',hl⟩;have bn:=(H.o.a F4.o.drew).NL DW.o ZG.o hl;have L5:I (dG w w5 B yb y (y.jZ q ⟨g.yb,u',pX g.L i z.t ts⟩)/\lN (y.jZ q ⟨g.yb,u',pX g.L i z.t ts⟩).G):=⟨bn.1.behind F4.o.drew,bn.2⟩;have l7:M (R w)<=M (R w1):=F1.o.size;have C5:au w5 (yb,12)=Y (aP gg (O y.G) jG)/\au w5 (gg,q)=Y (ak g.yb)/\au w5 (M (R w1),1)=Y (V Z z.t):=⟨(hl.fr.cell (p:=⟨yb,12,U⟩) (gZ aO F4.o.size)<|H.o.Zp NM.o).t C41,(hl.fr.cell (p:=(gg,q)) (gZ PE F4.o.size)<|NGG.o).t C42,(hl.fr.cell (p:=⟨M (R w1),1,U⟩) (gZ (bF B2.o) yX.o.size) (λe=>by have:=(H.o.lZ (k:=M (R w1))<|.inr<|.inr<|.inr<|.inr<|.inr<|.inr<|.inr ⟨g,NM.o,e⟩).1;omega)).t C43⟩;have⟨hg,oI,hxv,CU,hhl,Xu,SG,hhx,hhf⟩:=bn.1.at_.fD (p:=i) Ko.o;have SI:=aQe CU;have d7:au w5 (yb,7)=Y (V Z y.tm):=bn.1.at_.c 7;have d11:au w5 (yb,11)=Y (y.jZ q ⟨g.yb,u',pX g.L i z.t ts⟩).hv:=bn.1.at_.c 11;rw[CU]at d11;have⟨hlen,JB⟩:∃hlen,(y.jZ q ⟨g.yb,u',pX g.L i z.t ts⟩).H.length=hlen:=⟨_,J⟩;rw[JB]at d11 Xu;have hi5:(i:Int)<hlen:=(by have h1:i<(y.jZ q ⟨g.yb,u',pX g.L i z.t ts⟩).H.length:=Ko.o;rw[JB]at h1;omega);clear bn hl CU JB));have HI:=aQe<|(Yy qy.o:(q:Int)∈z.ps);by_cases hc:vk g.L i z.t ts=0;{have HC:=aQe hc;rw[hc];clear hc;go_wp2_with fail;go_region_held3 (λw'=>au w' (yb,7)=Y (V Z y.tm)/\au w' (yb,11)=Y (aP hg hlen oI)) (first|go_keep|(simp only[Pm _ _<|Ne.s SG,World.cell?_drew];with_reducible exact⟨d7,d11⟩)) (fail);go_wp2_with fail;go_ret;have hY:=L5.o.1.t<|L5.o.1.at_.adY SI.o Ko.o y.tm;exact .ok HI.o ZL.o J HC.o (hY.a<|eH.drew) L5.o.2};have HC:=aQe hc;(have FM:(vk g.L i z.t ts==0)=false:=by simpa using hc);clear hc;go_wp2_with fail;go_ret;exact .bad HI.o ZL.o J HC.o L5.o.1 L5.o.2};go_wp2_with fail;go_ret;exact .out (Yy qy.o) ZL.o J F4.o
end
end
section
def pI(z:St)(k:Nat):List Int:=((List.range k).filter λ(i:Nat)=>decide<|(i:Int)∈z.ps).map Int.ofNat
def Gv(D:List Du)(m:Int)(k:Nat):List Int:=(List.range k).flatMap λ(q:Nat)=>(D.filter λd=>decide<|d.p=m/\d.q=(q:Int)).map λ_=>(q:Int)
def xg(s:Int)(D:List Du)(m:Int)(k:Nat):List Int:=if 1<s then Gv D m k else[]
def oC(s:Int)(D:List Du)(m:Int)(k j:Nat):List Int:=if 1<s then Gv D m k++((D.take j).filter λd=>decide<|d.p=m/\d.q=(k:Int)).map (λ_=>(k:Int))else[]
def ao9(z k):pI z (k+1)=pI z k++if(k:Int)∈z.ps then[(k:Int)]else[]:=by unfold pI;grind[List.range_succ]
def aA0(z k):(pI z k).length<=k:=by unfold pI;grind
def ah7(D m k):Gv D m (k+1)=Gv D m k++(D.filter λd=>decide<|d.p=m/\d.q=(k:Int)).map λ_=>(k:Int):=by unfold Gv;grind[List.range_succ]
def ah8(D:List Du)(m:Int):∀k,(Gv D m k).length<=k*O D|0=>(by simp[Gv])|k+1=>by rw[ah7,kZ,OW,acO];have:=ah8 D m k;grind
structure Aj(w w':ae)(z:St)(va:Option Addr)(vc sb ob:Nat)(aPS Bl:List Int)(pv bv:ai):Prop where
 fr:Fr aB w w'
 res:w'.heap[M (R w)]? =Y (aC #[V Z 0,V Z 0,V Z 0,aP U 0 0,aP U 0 0] 58 (0,0))
 Ip:w'.heap[sb]? =Y (aC #[V Z z.e,V Z z.t,V Z z.s,.slice va (O z.ps) vc] 157 (0,0))
 ZM:bI w' (M (R w)) 3 1 (.slice va (O z.ps) vc) (O z.ps) (dY z.ps)
 uF:w'.heap[ob]? =Y (aC #[V Z z.e,V Z z.t,V Z z.s,pv,bv] 58 (0,0))
 ra:bI w' (M (R w)) 3 1 pv (O aPS) (dY aPS)
 rb:bI w' (M (R w)) 3 1 bv (O Bl) (dY Bl)
 ab:∀q,dw pv=Y q->dw bv≠Y q
 apa:∀q,Value.ownBlock (.slice va (O z.ps) vc)=Y q->dw pv≠Y q
 apb:∀q,Value.ownBlock (.slice va (O z.ps) vc)=Y q->dw bv≠Y q
 nso:sb≠ob
 nro:M (R w)≠ob
 Gu:M (R w)<=ob
section
variable{w w' z va vc sb ob aPS Bl pv bv}
variable{W w3 x v'}
def Aj.aA1(h:Aj w w' z va vc sb ob aPS Bl pv bv)(fW:Fr aB w' W)(hg:W.grownBy w3 pv.ownBlock)(fK:bI w3 w 3 1 v' (aPS+1) (dY aPS++[V Z x]))(dR:∀q,dw v'=Y q->dw pv=q\/w'<=q):Aj w (aZ w3 (ob,3) v') z va vc sb ob (aPS++[x]) Bl v' bv:=by have f3:=(fW.z dA).grown hg λq e=>.inl e;have ZN:=mZ h.ra h.uF Xa;have nsb:=mZ h.ra h.Ip Xa;have nrb:=mZ h.ra h.res Xa;have ho:=bF h.uF;have fs:Fr (λq=>q=ob) w3 (aZ w3 (ob,3) v'):=aQx;have f4:Fr (λq=>q=ob\/dw pv=q) w' (aZ w3 (ob,3) v'):=(f3.z λq e=>e).t fs λq e=>e;have row:∀{u:ai} {m:Nat} {xs:List ai},bI w' w 3 1 u m xs->(∀q,dw u=Y q->dw pv≠q)->(aZ w3 (ob,3) v').ownsRow w 3 1 u m xs:=(by grind[Fr.ownsRow,mZ,cases Aj]);have lt':∀{u:ai} {m:Nat} {xs:List ai} {q:Nat},bI w' w 3 1 u m xs->dw u=q->q<w':=λhr H=>(hr.lt _ H).2;(have hn3:(aZ w3 (ob,3) v').ownsRow w 3 1 v' (aPS++[x]).length (dY<|aPS++[x]):=by rw[kZ,show dY (aPS++[x])=dY aPS++[V Z x]by simp[dY]];refine fs.ownsRow fK λq H e=>?_;grind);refine⟨h.fr.t f4 λq H=>.inr ?_,(f4.block _ (bF h.res) ?_).t h.res,(f4.block _ (bF h.Ip) ?_).t h.Ip,row h.ZM ?_,?_,?_,?_,?_,?_,?_,h.nso,h.nro,h.Gu⟩;{rcases H with H|H;{rw[H];exact h.Gu};exact(h.ra.lt q H).1};{grind[cases Aj]};{grind[cases Aj]};{grind[cases Aj]};{rw[eX<|(f3.block _ ho ZN).t h.uF];rfl};{exact hn3};{grind[cases Aj]};{grind[cases Aj]};{grind[cases Aj]};grind[cases Aj]
def Aj.apc(h:Aj w w' z va vc sb ob aPS Bl pv bv)(fW:Fr aB w' W)(hg:W.grownBy w3 bv.ownBlock)(fK:bI w3 w 3 1 v' (Bl+1) (dY Bl++[V Z x]))(dR:∀q,dw v'=Y q->dw bv=q\/w'<=q):Aj w (aZ w3 (ob,4) v') z va vc sb ob aPS (Bl++[x]) pv v':=by have f3:Fr (λq=>dw bv=q) w' w3:=(fW.z Zv).grown hg Zv;have ZN:dw bv≠ob:=mZ h.rb h.uF Xa;have nsb:dw bv≠sb:=mZ h.rb h.Ip Xa;have nrb:dw bv≠(w):=mZ h.rb h.res Xa;have ho:=bF h.uF;have fs:Fr (λq=>q=ob) w3 (aZ w3 (ob,4) v'):=aQx;have f4:Fr (λq=>q=ob\/dw bv=q) w' (aZ w3 (ob,4) v'):=(f3.z Zv).t fs YV;have row:∀{u:ai} {m:Nat} {xs:List ai},bI w' w 3 1 u m xs->(∀q,dw u=Y q->dw bv≠q)->(aZ w3 (ob,4) v').ownsRow w 3 1 u m xs:=(by grind[Fr.ownsRow,mZ,cases Aj]);have lt':∀{u:ai} {m:Nat} {xs:List ai} {q:Nat},bI w' w 3 1 u m xs->dw u=q->q<w':=λhr H=>(hr.lt _ H).2;(have hn3:(aZ w3 (ob,4) v').ownsRow w 3 1 v' (Bl++[x]).length (dY<|Bl++[x]):=by rw[kZ,show dY (Bl++[x])=dY Bl++[V Z x]by simp[dY]];refine fs.ownsRow fK λq H e=>?_;grind);refine⟨h.fr.t f4 λq H=>.inr ?_,(f4.block _ (bF h.res) ?_).t h.res,(f4.block _ (bF h.Ip) ?_).t h.Ip,row h.ZM ?_,?_,?_,?_,?_,?_,?_,h.nso,h.nro,h.Gu⟩;{rcases H with H|H;{rw[H];exact h.Gu};exact(h.rb.lt q H).1};{grind[cases Aj]};{grind[cases Aj]};{intro q H e;exact h.apb q H e};{rw[eX<|(f3.block _ ho ZN).t h.uF];rfl};{exact row h.ra λq H e=>h.ab q H e};{exact hn3};{grind[cases Aj]};{intro q h1 h2;exact h.apa q h1 h2};grind[cases Aj]
end
section
variable{w w' B yb y}
def aA2(h:aY w B yb y)(hF:y.iH){m}(hm:0<=m/\m<=y.P-1)(hd:y.dn=ah)(fM:0<(aF y.L m).s)(hD:O y.D<=1000000):aH aj 93 #[ak yb,m] w λr w'=>∃va vb,r=dZ #[jf #[(aF y.L m).e,(aF y.L m).t,(aF y.L m).s,va,vb],V Z 0]/\ xW w w' va (pI (aF y.L m) y.Q.toNat)/\xW w w' vb (xg (aF y.L m).s y.D m y.Q.toNat)/\Fr aB w w':=by
 have⟨i0,dL,aid,aie,aif⟩:=aQX Ry;have HM:=aQe<|iC hm;have H:=aQe h;have HF:=aQe hF;have lu:I ((O y.L+1)*8<=2^47):=by have:=hF.lL;exact aQw
 have c0:=h.k 0;have c1:=h.k 1;have c4:=h.k 4;have zF:=h.k 10;rw[hd]at c4;have⟨da,dc,Hf,Yh⟩:=jR h.ik;rw[Hf]at zF;have HDV:=aQe Hf;have aO:=bF h.blk;have lV:=h.hP.2.1;have jI:=h.hP.2.2;have lF:=h.hQ.2.2.1;have oU:=h.hQ.2.2.2;have⟨qn,Jr⟩:=lW<|show 0<=y.Q by omega
 have Zt:y.Q.toNat=qn:=YV
 rw[Zt];rw[Jr]at c1 lF oU;have⟨z,hz⟩:∃z,aF y.L m=z:=⟨_,J⟩;have HZ:=aQe hz;rw[hz]at fM⊢;have HDL:=aQe hD;clear h hm hd hz hF Zt Jr Hf;go_enter func93,ntmps93;go_wp2_with (first|(go_at_call 72;apply(jS _ _ _ _).z;rw[HM];rintro e w1 ⟨rfl,rfl⟩)|(go_at_call 105;apply(sG (H.a<|aQ _) m HF.arg lu).z;rw[HZ];rintro e w2 ⟨v2,rfl,jo,bJ⟩;obtain⟨va,vc,rfl,_⟩:=jg jo;have F2:I (Fr aB w w2):=(aQ _).t bJ dA;(have V2:I (bI w2 w 3 1 (.slice va (O z.ps) vc) (O z.ps)<|dY z.ps):=sD jo<|by simp);have B2:I (w2.heap[M (R w)]? =Y (aC #[V Z 0,V Z 0,V Z 0,aP U 0 0,aP U 0 0] 58 (0,0))):=(bJ.block _ (by simp) id).t<|heap_alloc_new _ _;have hzw:w<M (R w2):=gZ (by simp) bJ.size;clear bJ jo));go_loopw [8] (λi w'=>∃k:Nat,k<=qn/\i=k/\∃pv bv,Aj w w' z va vc w2 (w2+1) (pI z k) (xg z.s y.D m k) pv bv) (λi _=>qn-(bM i).toNat);case atStart=>refine⟨0,jQ _,J,aP U 0 0,aP U 0 0,((F2.alloc _).alloc _),((((Fr.refl (λ_=>False) w2).alloc _).alloc _).block _ (bF B2) id).t B2,((aQ _).block _ (by simp) id).t<|heap_alloc_new _ _,(((Fr.refl (λ_=>False) w2).alloc _).alloc _).ownsRow V2 λ_ _=>id,rM _<|by simp,aQS _ _ _ _,?_,λq hq=>by simp[Value.ownBlock]at hq,λq _ hq=>by simp[Value.ownBlock]at hq,λq _ hq=>by simp[Value.ownBlock]at hq,by omega,by omega,by omega⟩;(have:xg z.s y.D m 0=[]:=by unfold xg;split<;>rfl);rw[this];exact aQS _ _ _ _
 case round=>obtain⟨k,hk,rfl,pv,bv,hinv⟩:=hrel;have HI:I (Aj w wr z va vc w2 (M (R w2)+1) (pI z k) (xg z.s y.D m k) pv bv):=hinv;have d1:au wr (yb,1)=Y (V Z qn):=(hinv.fr.cell (p:=⟨yb,1,U⟩) aO id).t c1;have s2:=cc hinv.Ip 2;have s3:=cc hinv.Ip 3;have o3:=cc hinv.uF 3;have of_:∀o,wr.frozen? ⟨M (R w2)+1,o,U⟩=false:=gJ hinv.uF;have xH:=bF hinv.uF;have ZO:I (bI wr (M (R w)) 3 1 (.slice va (O z.ps) vc) (O z.ps)<|dY z.ps):=hinv.ZM;by_cases jD:k<qn;{(have hkq:(k:Int)<(qn:Int):=by omega);(have HAL:I ((pI z k).length<=4):=by show(pI z k).length<=4;have:=aA0 z k;omega);obtain⟨pa,pc,jB,xI⟩:=jg hinv.ra;have PG:I (pv=.slice pa (pI z k).length pc):=jB;rw[jB]at o3;(have vK:Value.ownBlock (.slice pa (pI z k).length pc)≠Y (M (R w2)+1):=by rw[<-jB];exact mZ hinv.ra hinv.uF<|by decide);(have HRA:I (bI wr (M (R w)) 3 1 (.slice pa (pI z k).length pc) (pI z k).length<|dY<|pI z k):=by have:=hinv.ra;rw[jB]at this;exact this);clear hinv jB xI;by_cases iy:(k:Int)∈z.ps;{have qy:I (decide ((k:Int)∈z.ps)=A):=iC iy;(have ZP:I (pI z (k+1)=pI z k++[(k:Int)]):=by show pI z (k+1)=_;rw[ao9,if_pos iy]);clear iy;go_wp2_with (first|(go_at_call 133;refine(Si ZO k).z ?_;rw[qy.o];rintro e w4 ⟨rfl,rfl⟩)|(at_builtin;refine aQU _ J _ _ 43 J (M (R w)) 3 i0 _ 1 8 underlying43 dL aid aie aif J (by decide) _ (pI z k).length (dY<|pI z k) J (by exact(aQ _).ownsRow HRA.o λ_ _=>id) ⟨M (R wr),0,U⟩ 1 1 [V Z k] J J (World.news_of_block (cs:=#[V Z k]) (t:=3) (fr:=(0,0))<|heap_alloc_new _ _) (by simp[Value.oneCell']) (by decide) (by have:=HAL.o;simp only[cZ];omega) (by have:=HAL.o;omega) (by have:=HI.o.fr.size;simp<;>omega) (M (R wr)+1) (by simp) ?_;intro gg jG w3 jO gW lX mW;have q0:=gW.cell_far ⟨M (R w2)+1,3,U⟩ (by simp<;>omega)<|Ne.s vK;have q1:=gW.frozen_far ⟨M (R w2)+1,3,U⟩ (by simp<;>omega)<|Ne.s vK;rw[aQV _ _ _ xH,o3]at q0;rw[Ae xH,of_]at q1));have hA:=HI.o.aA1 (W:=wr.alloc<|aC #[V Z k] 3) (x:=k) (v':=aP (Y ⟨gg,0,U⟩) ((pI z k).length+1) jG) (aQ _) (by rw[PG.o];exact gW) jO (λq hq=>by simp only[Value.ownBlock,iR]at hq;subst hq;rcases lX with a|a;{exact .inl (by rw[PG.o];exact a)};{exact .inr<|by omega});rw[<-ZP.o]at hA;generalize(Value.slice (Y ⟨gg,0,U⟩) ((pI z k).length+1) jG)=SK at hA⊢;generalize w3.setCell ⟨M (R w2)+1,3,U⟩ SK=W at hA⊢;have HA:I (Aj w W z va vc (M (R w2)) (M (R w2)+1) (pI z<|k+1) (xg z.s y.D m k) SK bv):=hA;clear hA jO gW lX mW q0 q1 HI ZO HRA o3 s2 s3 of_ d1;have ws2:=cc HA.o.Ip 2;have aA3:au W ⟨yb,10,U⟩=Y (.slice da (O y.D) dc):=(HA.o.fr.cell (p:=⟨yb,10,U⟩) aO id).t zF;go_wp2_with fail;go_loopw [10] (λi w'=>∃j:Nat,j<=O y.D/\i=V Z j/\∃bv',Aj w w' z va vc (M (R w2)) (M (R w2)+1) (pI z<|k+1) (oC z.s y.D m k j) SK bv') (λi _=>O y.D-(bM i).toNat);(case atStart=>refine⟨0,jQ _,J,bv,?_⟩;(have:oC z.s y.D m k 0=xg z.s y.D m k:=by simp[oC,xg]);rw[this];exact HA.o);case round=>obtain⟨j,hj,rfl,DX,lG⟩:=hrel;have HQ:I (Aj w wr z va vc (M (R w2)) (M (R w2)+1) (pI z<|k+1) (oC z.s y.D m k j) SK DX):=lG;have E4:au wr ⟨yb,10,U⟩=Y (.slice da (O y.D) dc):=(lG.fr.cell (p:=⟨yb,10,U⟩) aO id).t zF;have t2:=cc lG.Ip 2;by_cases Dj:j<O y.D;{(have aA4:(j:Int)<(O y.D:Int):=by omega);by_cases h1:1<z.s;{obtain⟨d,Kq⟩:∃d,y.D[j]? =Y d:=⟨_,gG Dj⟩;(have Bd:I ((y.D.take<|j+1).filter (λd=>decide<|d.p=m/\d.q=(k:Int))=(y.D.take j).filter (λd=>decide<|d.p=m/\d.q=(k:Int))++if d.p=m/\d.q=(k:Int)then[d]else[]):=by show(y.D.take<|j+1).filter _=_;rw[uz,Kq,Cb,FY];congr 1;by_cases hc:d.p=m/\d.q=(k:Int);{rw[if_pos hc,afW<|by simpa using hc];rfl};rw[if_neg hc,acH<|by simpa using hc];rfl);have AV:=lG.fr.ownsRow H.o.ik λ_ _=>id;rw[HDV.o]at AV;(obtain⟨dg,aA5,hdg,aA6⟩:=KW AV<|by omega);simp only[aQQ]at hdg;obtain⟨rfl,_,rfl⟩:=hdg;obtain⟨u0,u1,_,_⟩:=Xm AV Kq;(have hj0:(0:Int)<=(j:Int):=by omega);by_cases hp:d.p=m;{by_cases hq:d.q=(k:Int);{(have HE:I ((y.D.take<|j+1).filter (λd=>decide<|d.p=m/\d.q=(k:Int))=(y.D.take j).filter (λd=>decide<|d.p=m/\d.q=(k:Int))++[d]):=by show _=_;rw[Bd.o,if_pos ⟨hp,hq⟩]);(have ug:(d.p==m)=true:=by simpa using hp);(have hqb:(d.q==(k:Int))=true:=by simpa using hq);obtain⟨aP0,hZ⟩:∃aP0,Gv y.D m k++((y.D.take j).filter λd=>decide<|d.p=m/\d.q=(k:Int)).map (λ_=>(k:Int))=aP0:=⟨_,J⟩;(have ZQ:O aP0<=90000000:=by rw[<-hZ,kZ,OW];have a1:=ah8 y.D m k;have a2:=AX (λd:Du=>decide<|d.p=m/\d.q=(k:Int))<|y.D.take j;(have a3:(y.D.take j).length<=O y.D:=by rw[Rh];omega);have a4:=HDL.o;have a5:k*O y.D<=4*1000000:=Nat.mul_le_mul (by omega) a4;omega);have HZZ:I (Gv y.D m k++((y.D.take j).filter λd=>decide<|d.p=m/\d.q=(k:Int)).map (λ_=>(k:Int))=aP0):=hZ;have ZR:I (O aP0<=90000000):=ZQ;rw[show oC z.s y.D m k j=aP0 by rw[oC,if_pos h1,hZ]]at lG;have ZT:I (Aj w wr z va vc (M (R w2)) (M (R w2)+1) (pI z<|k+1) aP0 SK DX):=lG;obtain⟨ba,bc,Hg,_⟩:=jg lG.rb;have ZU:I (DX=.slice ba (O aP0) bc):=Hg;(have o4:au wr ⟨M (R w2)+1,4,U⟩=Y (.slice ba (O aP0) bc):=by rw[aJ lG.uF,<-Hg];rfl);have of4:∀o,wr.frozen? ⟨M (R w2)+1,o,U⟩=false:=gJ lG.uF;have ZV:=bF lG.uF;(have ZX:Value.ownBlock (.slice ba (O aP0) bc)≠Y (M (R w2)+1):=by rw[<-Hg];exact mZ lG.rb lG.uF<|by decide);(have Sm:I (bI wr (M (R w)) 3 1 (.slice ba (O aP0) bc) (O aP0)<|dY aP0):=by have:=lG.rb;rw[Hg]at this;exact this);clear lG AV Kq Hg hZ ZQ hp hq;go_wp2_with (first|(at_builtin;refine aQU _ J _ _ 43 J (M (R w)) 3 i0 _ 1 8 underlying43 dL aid aie aif J (by decide) _ (O aP0) (dY aP0) J (by exact(aQ _).ownsRow Sm.o λ_ _=>id) ⟨M (R wr),0,U⟩ 1 1 [V Z k] J J (World.news_of_block (cs:=#[V Z k]) (t:=3) (fr:=(0,0))<|heap_alloc_new _ _) (by simp[Value.oneCell']) (by decide) (by have:=ZR.o;simp only[cZ];omega) (by have:=ZR.o;omega) (by have:=ZT.o.fr.size;simp<;>omega) (M (R wr)+1) (by simp) ?_;intro ZY ZZ w5 I5 vw ES RQ;have q04:=vw.cell_far ⟨M (R w2)+1,4,U⟩ (by simp<;>omega)<|Ne.s ZX;have q14:=vw.frozen_far ⟨M (R w2)+1,4,U⟩ (by simp<;>omega)<|Ne.s ZX;rw[aQV _ _ _ ZV,o4]at q04;rw[Ae ZV,of4]at q14));go_roundw;(case rel=>have hB:=ZT.o.apc (W:=wr.alloc<|aC #[V Z k] 3) (x:=k) (v':=aP (Y ⟨ZY,0,U⟩) (O aP0+1) ZZ) (aQ _) (by rw[ZU.o];exact vw) I5 (λq hq=>by simp only[Value.ownBlock,iR]at hq;subst hq;rcases ES with a|a;{exact .inl (by rw[ZU.o];exact a)};{exact .inr<|by omega});refine⟨j+1,by omega,by go_num,aP (Y ⟨ZY,0,U⟩) (O aP0+1) ZZ,?_⟩;rw[show oC z.s y.D m k (j+1)=aP0++[(k:Int)]by rw[oC,if_pos h1,HE.o,acM,<-Jd,HZZ.o];rfl];exact hB);case measure=>simp[bM]<;>omega};{(have HE:I ((y.D.take<|j+1).filter (λd=>decide<|d.p=m/\d.q=(k:Int))=(y.D.take j).filter (λd=>decide<|d.p=m/\d.q=(k:Int))):=by show _=_;rw[Bd.o,if_neg λe=>hq e.2,pV]);(have ug:(d.p==m)=true:=by simpa using hp);(have hqb:(d.q==(k:Int))=false:=by simpa using hq);clear lG AV Kq hp hq;go_wp2_with fail;go_roundw;(case rel=>exact⟨j+1,by omega,by go_num,DX,by rw[show oC z.s y.D m k (j+1)=oC z.s y.D m k j by unfold oC;rw[HE.o]];exact HQ.o⟩);case measure=>simp[bM]<;>omega}};{(have HE:I ((y.D.take<|j+1).filter (λd=>decide<|d.p=m/\d.q=(k:Int))=(y.D.take j).filter (λd=>decide<|d.p=m/\d.q=(k:Int))):=by show _=_;rw[Bd.o,if_neg λe=>hp e.1,pV]);(have ug:(d.p==m)=false:=by simpa using hp);clear lG AV Kq hp;go_wp2_with fail;go_roundw;(case rel=>exact⟨j+1,by omega,by go_num,DX,by rw[show oC z.s y.D m k (j+1)=oC z.s y.D m k j by unfold oC;rw[HE.o]];exact HQ.o⟩);case measure=>simp[bM]<;>omega}};{have SL:I (¬1<z.s):=h1;clear lG;go_wp2_with fail;go_roundw;(case rel=>refine⟨k+1,by omega,by go_num,SK,DX,?_⟩;rw[show xg z.s y.D m (k+1)=oC z.s y.D m k j by rw[xg,oC,if_neg SL.o,if_neg SL.o]];exact HQ.o);case measure=>simp[bM]<;>omega}};{(have Z4:j=O y.D:=by omega);subst Z4;have HT:I (y.D.take (O y.D)=y.D):=xN<|fC _;clear lG;go_wp2_with fail;go_roundw;(case rel=>refine⟨k+1,by omega,by go_num,SK,DX,?_⟩;rw[show xg z.s y.D m (k+1)=oC z.s y.D m k (O y.D) by unfold xg oC;rw[HT.o,ah7]];exact HQ.o);case measure=>simp[bM]<;>omega}};{have qy:I (decide ((k:Int)∈z.ps)=ah):=jr iy;(have HA:I (Aj w wr z va vc (M (R w2)) (M (R w2)+1) (pI z<|k+1) (xg z.s y.D m k) pv bv):=by show Aj _ _ _ _ _ _ _ _ _ _ _;rw[ao9,if_neg iy,pV];exact HI.o);clear iy;go_wp2_with (go_at_call 133;refine(Si ZO.o k).z ?_;rw[qy.o];rintro e w4 ⟨rfl,rfl⟩);clear HI HRA o3 s3 of_ d1;(have ws2:au wr ⟨M (R w2),2,U⟩=Y (V Z z.s):=by rw[aJ HA.o.Ip];rfl);have aA3:au wr ⟨yb,10,U⟩=Y (.slice da (O y.D) dc):=(HA.o.fr.cell (p:=⟨yb,10,U⟩) aO id).t zF;go_wp2_with fail;go_loopw [10] (λi w'=>∃j:Nat,j<=O y.D/\i=V Z j/\∃bv',Aj w w' z va vc (M (R w2)) (M (R w2)+1) (pI z<|k+1) (oC z.s y.D m k j) pv bv') (λi _=>O y.D-(bM i).toNat);(case atStart=>refine⟨0,jQ _,J,bv,?_⟩;(have:oC z.s y.D m k 0=xg z.s y.D m k:=by simp[oC,xg]);rw[this];exact HA.o);case round=>obtain⟨j,hj,rfl,DX,lG⟩:=hrel;have HQ:I (Aj w wr z va vc (M (R w2)) (M (R w2)+1) (pI z<|k+1) (oC z.s y.D m k j) pv DX):=lG;have E4:au wr ⟨yb,10,U⟩=Y (.slice da (O y.D) dc):=(lG.fr.cell (p:=⟨yb,10,U⟩) aO id).t zF;(have t2:au wr ⟨M (R w2),2,U⟩=Y (V Z z.s):=by rw[aJ lG.Ip];rfl);by_cases Dj:j<O y.D;{(have aA4:(j:Int)<(O y.D:Int):=by omega);by_cases h1:1<z.s;{obtain⟨d,Kq⟩:∃d,y.D[j]? =Y d:=⟨_,gG Dj⟩;(have Bd:I ((y.D.take<|j+1).filter (λd=>decide<|d.p=m/\d.q=(k:Int))=(y.D.take j).filter (λd=>decide<|d.p=m/\d.q=(k:Int))++if d.p=m/\d.q=(k:Int)then[d]else[]):=by show(y.D.take<|j+1).filter _=_;rw[uz,Kq,Cb,FY];congr 1;by_cases hc:d.p=m/\d.q=(k:Int);{rw[if_pos hc,afW<|by simpa using hc];rfl};rw[if_neg hc,acH<|by simpa using hc];rfl);have AV:=lG.fr.ownsRow H.o.ik λ_ _=>id;rw[HDV.o]at AV;(obtain⟨dg,aA5,hdg,aA6⟩:=KW AV<|by omega);simp only[aQQ]at hdg;obtain⟨rfl,_,rfl⟩:=hdg;obtain⟨u0,u1,_,_⟩:=Xm AV Kq;(have hj0:(0:Int)<=(j:Int):=by omega);by_cases hp:d.p=m;{by_cases hq:d.q=(k:Int);{(have HE:I ((y.D.take<|j+1).filter (λd=>decide<|d.p=m/\d.q=(k:Int))=(y.D.take j).filter (λd=>decide<|d.p=m/\d.q=(k:Int))++[d]):=by show _=_;rw[Bd.o,if_pos ⟨hp,hq⟩]);(have ug:(d.p==m)=true:=by simpa using hp);(have hqb:(d.q==(k:Int))=true:=by simpa using hq);obtain⟨aP0,hZ⟩:∃aP0,Gv y.D m k++((y.D.take j).filter λd=>decide<|d.p=m/\d.q=(k:Int)).map (λ_=>(k:Int))=aP0:=⟨_,J⟩;(have ZQ:O aP0<=90000000:=by rw[<-hZ,kZ,OW];have a1:=ah8 y.D m k;have a2:=AX (λd:Du=>decide<|d.p=m/\d.q=(k:Int))<|y.D.take j;(have a3:(y.D.take j).length<=O y.D:=by rw[Rh];omega);have a4:=HDL.o;have a5:k*O y.D<=4*1000000:=Nat.mul_le_mul (by omega) a4;omega);have HZZ:I (Gv y.D m k++((y.D.take j).filter λd=>decide<|d.p=m/\d.q=(k:Int)).map (λ_=>(k:Int))=aP0):=hZ;have ZR:I (O aP0<=90000000):=ZQ;rw[show oC z.s y.D m k j=aP0 by rw[oC,if_pos h1,hZ]]at lG;have ZT:I (Aj w wr z va vc (M (R w2)) (M (R w2)+1) (pI z<|k+1) aP0 pv DX):=lG;obtain⟨ba,bc,Hg,_⟩:=jg lG.rb;have ZU:I (DX=.slice ba (O aP0) bc):=Hg;(have o4:au wr ⟨M (R w2)+1,4,U⟩=Y (.slice ba (O aP0) bc):=by rw[aJ lG.uF,<-Hg];rfl);have of4:∀o,wr.frozen? ⟨M (R w2)+1,o,U⟩=false:=gJ lG.uF;have ZV:=bF lG.uF;(have ZX:Value.ownBlock (.slice ba (O aP0) bc)≠Y (M (R w2)+1):=by rw[<-Hg];exact mZ lG.rb lG.uF<|by decide);(have Sm:I (bI wr (M (R w)) 3 1 (.slice ba (O aP0) bc) (O aP0)<|dY aP0):=by have:=lG.rb;rw[Hg]at this;exact this);clear lG AV Kq Hg hZ ZQ hp hq;go_wp2_with (first|(at_builtin;refine aQU _ J _ _ 43 J (M (R w)) 3 i0 _ 1 8 underlying43 dL aid aie aif J (by decide) _ (O aP0) (dY aP0) J (by exact(aQ _).ownsRow Sm.o λ_ _=>id) ⟨M (R wr),0,U⟩ 1 1 [V Z k] J J (World.news_of_block (cs:=#[V Z k]) (t:=3) (fr:=(0,0))<|heap_alloc_new _ _) (by simp[Value.oneCell']) (by decide) (by have:=ZR.o;simp only[cZ];omega) (by have:=ZR.o;omega) (by have:=ZT.o.fr.size;simp<;>omega) (M (R wr)+1) (by simp) ?_;intro ZY ZZ w5 I5 vw ES RQ;have q04:=vw.cell_far ⟨M (R w2)+1,4,U⟩ (by simp<;>omega)<|Ne.s ZX;have q14:=vw.frozen_far ⟨M (R w2)+1,4,U⟩ (by simp<;>omega)<|Ne.s ZX;rw[aQV _ _ _ ZV,o4]at q04;rw[Ae ZV,of4]at q14));go_roundw;(case rel=>have hB:=ZT.o.apc (W:=wr.alloc<|aC #[V Z k] 3) (x:=k) (v':=aP (Y ⟨ZY,0,U⟩) (O aP0+1) ZZ) (aQ _) (by rw[ZU.o];exact vw) I5 (λq hq=>by simp only[Value.ownBlock,iR]at hq;subst hq;rcases ES with a|a;{exact .inl (by rw[ZU.o];exact a)};{exact .inr<|by omega});refine⟨j+1,by omega,by go_num,aP (Y ⟨ZY,0,U⟩) (O aP0+1) ZZ,?_⟩;rw[show oC z.s y.D m k (j+1)=aP0++[(k:Int)]by rw[oC,if_pos h1,HE.o,acM,<-Jd,HZZ.o];rfl];exact hB);case measure=>simp[bM]<;>omega};{(have HE:I ((y.D.take<|j+1).filter (λd=>decide<|d.p=m/\d.q=(k:Int))=(y.D.take j).filter (λd=>decide<|d.p=m/\d.q=(k:Int))):=by show _=_;rw[Bd.o,if_neg λe=>hq e.2,pV]);(have ug:(d.p==m)=true:=by simpa using hp);(have hqb:(d.q==(k:Int))=false:=by simpa using hq);clear lG AV Kq hp hq;go_wp2_with fail;go_roundw;(case rel=>exact⟨j+1,by omega,by go_num,DX,by rw[show oC z.s y.D m k (j+1)=oC z.s y.D m k j by unfold oC;rw[HE.o]];exact HQ.o⟩);case measure=>simp[bM]<;>omega}};{(have HE:I ((y.D.take<|j+1).filter (λd=>decide<|d.p=m/\d.q=(k:Int))=(y.D.take j).filter (λd=>decide<|d.p=m/\d.q=(k:Int))):=by show _=_;rw[Bd.o,if_neg λe=>hp e.1,pV]);(have ug:(d.p==m)=false:=by simpa using hp);clear lG AV Kq hp;go_wp2_with fail;go_roundw;(case rel=>exact⟨j+1,by omega,by go_num,DX,by rw[show oC z.s y.D m k (j+1)=oC z.s y.D m k j by unfold oC;rw[HE.o]];exact HQ.o⟩);case measure=>simp[bM]<;>omega}};{have SL:I (¬1<z.s):=h1;clear lG;go_wp2_with fail;go_roundw;(case rel=>refine⟨k+1,by omega,by go_num,pv,DX,?_⟩;rw[show xg z.s y.D m (k+1)=oC z.s y.D m k j by rw[xg,oC,if_neg SL.o,if_neg SL.o]];exact HQ.o);case measure=>simp[bM]<;>omega}};{(have Z4:j=O y.D:=by omega);subst Z4;have HT:I (y.D.take (O y.D)=y.D):=xN<|fC _;clear lG;go_wp2_with fail;go_roundw;(case rel=>refine⟨k+1,by omega,by go_num,pv,DX,?_⟩;rw[show xg z.s y.D m (k+1)=oC z.s y.D m k (O y.D) by unfold xg oC;rw[HT.o,ah7]];exact HQ.o);case measure=>simp[bM]<;>omega}}};(have hkq:k=qn:=by omega);subst hkq;obtain⟨Zb,hZb⟩:∃Zb,(xg z.s y.D m k)=Zb:=⟨_,J⟩;have HZB:I ((xg z.s y.D m k)=Zb):=hZb;rw[hZb]at hinv;obtain⟨Za,hZa⟩:∃Za,pI z k=Za:=⟨_,J⟩;have HZA:I (pI z k=Za):=hZa;rw[hZa]at hinv;clear hZb hZa o3 HI;have HI:I (Aj w wr z va vc (M (R w2)) (M (R w2)+1) Za Zb pv bv):=hinv;(have o3:au wr ⟨M (R w2)+1,3,U⟩=Y pv:=by rw[aJ hinv.uF];rfl);(have b0:au wr ⟨M (R w2)+1,0,U⟩=Y (V Z z.e):=by rw[aJ hinv.uF];rfl);(have b1:au wr ⟨M (R w2)+1,1,U⟩=Y (V Z z.t):=by rw[aJ hinv.uF];rfl);(have b2:au wr ⟨M (R w2)+1,2,U⟩=Y (V Z z.s):=by rw[aJ hinv.uF];rfl);(have b4:au wr ⟨M (R w2)+1,4,U⟩=Y bv:=by rw[aJ hinv.uF];rfl);(have a0:au wr ⟨M (R w),0,U⟩=Y (V Z 0):=by rw[aJ hinv.res];rfl);(have a1:au wr ⟨M (R w),1,U⟩=Y (V Z 0):=by rw[aJ hinv.res];rfl);(have a2:au wr ⟨M (R w),2,U⟩=Y (V Z 0):=by rw[aJ hinv.res];rfl);(have a3:au wr ⟨M (R w),3,U⟩=Y (aP U 0 0):=by rw[aJ hinv.res];rfl);(have a4:au wr ⟨M (R w),4,U⟩=Y (aP U 0 0):=by rw[aJ hinv.res];rfl);have af:∀o,wr.frozen? ⟨M (R w),o,U⟩=false:=gJ hinv.res;obtain⟨pa,pc,jB,_⟩:=jg hinv.ra;obtain⟨ba,bc,Hg,_⟩:=jg hinv.rb;subst jB Hg;clear hinv;go_wp2_with fail;have rU:=HI.o.res;have hb:=eX (eX (eX (eX (eX rU 0<|V Z z.e) 1<|V Z z.t) 2<|V Z z.s) 3<|.slice pa (O Za) pc) 4<|.slice ba (O Zb) bc;have fs:Fr (λq=>q=M (R w)) wr _:=(((((Fr.refl (λq=>q=M (R w)) wr).setCell (p:=⟨M (R w),0,U⟩) (.inl J)<|V Z z.e).setCell (p:=⟨M (R w),1,U⟩) (.inl J)<|V Z z.t).setCell (p:=⟨M (R w),2,U⟩) (.inl J)<|V Z z.s).setCell (p:=⟨M (R w),3,U⟩) (.inl J)<|.slice pa (O Za) pc).setCell (p:=⟨M (R w),4,U⟩) (.inl J)<|.slice ba (O Zb) bc;refine aQY (Bf J _ _ _ 58 _ (0,0) _ J hb underlying58 J RX) J ?_;have hza:=HZA.o;have hzb:=HZB.o;subst hza hzb;refine⟨_,_,J,fs.ownsRow HI.o.ra (λq hq e=>mZ HI.o.ra rU (by decide)<|by rw[hq,e]),fs.ownsRow HI.o.rb (λq hq e=>mZ HI.o.rb rU (by decide)<|by rw[hq,e]),HI.o.fr.t fs λq e=>.inr<|by omega⟩
end
end
section
section
variable{w w':ae}{B xb n:Nat}{h:HS}
variable{i:Nat}{x:PS}{m:Int}
def aA9(hh:aG w B xb n h)(hx:h.ps[i]? =x)(H:qB h ⟨1,i,0,x.e+1⟩):aH aj 129 #[ak<|Y (xb,4),i] w (NJ h ⟨1,i,0,x.e+1⟩ w B xb n):=(az2 hh hx H).z λ_ _ ⟨ok,h',h1,h2,h3⟩=>by rw[h1];exact .mk h2 h3
def aBa(hh:aG w B xb n h)(hx:h.ps[i]? =x){q}(H:qB h ⟨2,i,q,x.next⟩):aH aj 125 #[ak<|Y (xb,4),i,q] w (NJ h ⟨2,i,q,x.next⟩ w B xb n):=(aAi hh hx H).z λ_ _ ⟨ok,h',h1,h2,h3⟩=>by rw[h1];exact .mk h2 h3
def aBb(hh:aG w B xb n h)(hm:¬(0<=m/\m<h.P)):aH aj 74 #[ak xb,m] w λe w'=>e=dZ #[V Z 0,V Z 2]/\w=w':=by have H:=aQe hh;go_enter func74,ntmps74;go_wp2_with (apply(CP H m).z;rintro e w1 ⟨rfl,rfl⟩);go_ret2;simp_all
def aBc(H:aG w B xb n h)(hm:0<=m/\m<h.P)(hu:h.up=ah):aH aj 74 #[ak xb,m] w λe w'=>e=dZ #[V Z 0,V Z 5]/\w=w':=by have HH:=aQe H;have c5:=H.cU;go_enter func74,ntmps74;go_wp2_with (apply(CP HH m).z;rintro e w1 ⟨rfl,rfl⟩);go_ret2;simp_all
inductive ape(h:HS)(r:Rc)(w:ae)(B xb n:Nat):Ending->ae->Prop
 |mk {ok:Bool} {h':HS} {w':ae} (ho:jy h r ok h') (hm:bW w w' B xb n h n h'):ape h r w B xb n (aU<|dZ #[V Z 0,V Z 9]) w'
def aBd(H:aG w B xb n h)(hm:(i:Int)<h.P)(hu:h.up=A)(hx:h.ps[i]? =x)(hs:x.s=1)(hy:qB h ⟨3,i,0,x.t⟩):aH aj 74 #[ak xb,i] w (ape h ⟨3,i,0,x.t⟩ w B xb n):=by have HH:=aQe H;have HP:I (decide (0<=(i:Int)/\(i:Int)<h.P)=A):=Y0;have HC:I (aH aj 67 #[ak<|(xb,4),i,ah] w<|NJ h ⟨3,i,0,x.t⟩ w B xb n):=ahZ H hx _ hy;have c5:=H.cU;rw[hu]at c5;have⟨⟨e0,e1,e2⟩,ef⟩:=H.cellP hx;rw[hs]at e2;(have lU:(i:Int)<6:=by have:=H.hP.2;omega);go_enter func74,ntmps74;go_wp2_with (first|(go_at_call 64;apply(CP HH i).z;rw[HP];rintro e w1 ⟨rfl,rfl⟩)|(go_at_call 67;apply HC.z;rintro e w2 ⟨ho,bn⟩;rename_i ok h';have R2:I (jy h ⟨3,i,0,x.t⟩ ok h'/\bW w w2 B xb n h n h'):=⟨ho,bn⟩;clear ho bn));go_ret2;exact .mk R2.1 R2.2
def aBe(H:aG w B xb n h)(hm:(i:Int)<h.P)(hu:h.up=A)(hx:h.ps[i]? =x)(hs:x.s=2\/x.s=3):aH aj 74 #[ak xb,i] w λe w'=>e=dZ #[V Z 0,V Z 9]/\w=w':=by have HH:=aQe H;have HP:I (decide (0<=(i:Int)/\(i:Int)<h.P)=A):=Y0;have HE:I (decide (x.s=2\/x.s=3)=A):=Zv;have c5:=H.cU;rw[hu]at c5;have⟨⟨e0,e1,e2⟩,ef⟩:=H.cellP hx;(have lU:(i:Int)<6:=by have:=H.hP.2;omega);have yP:=aQe e2;go_enter func74,ntmps74;go_wp2_with (first|(go_at_call 64;apply(CP HH i).z;rw[HP];rintro e w1 ⟨rfl,rfl⟩)|(go_at_call 66;apply(CS _ yP).z;rw[HE];rintro e w1 ⟨rfl,rfl⟩));go_ret2;simp_all
inductive air(h:HS)(r:Rc)(w:ae)(B xb n:Nat):Ending->ae->Prop
 |ok {h':HS} {w':ae} (ho:jy h r A h') (hm:bW w w' B xb n h n h'):air h r w B xb n (aU<|dZ #[V Z r.m,V Z 0]) w'
 |lC {h':HS} {w':ae} (ho:jy h r ah h') (hm:bW w w' B xb n h n h'):air h r w B xb n (aU<|dZ #[V Z 0,V Z 5]) w'
variable{ep:Int}
def apf{h H}{r:Rc}(hx:h.ps[i]? =x)(hr:r.p=i)(ho:jy h r A H):H.ps[i]? =x.gY r:=by cases ho with|ok jv hb=>unfold mQ;grind
def aBf(H:aG w B xb n h)(hm:(i:Int)<h.P)(hu:h.up=A)(hx:h.ps[i]? =x)(hs:x.s=0)(hy:qB h ⟨1,i,0,x.e+1⟩):aH aj 74 #[ak xb,i] w (air h ⟨1,i,0,x.e+1⟩ w B xb n):=by
 have HH:=aQe H;have HX:=aQe hx;have HP:I (decide (0<=(i:Int)/\(i:Int)<h.P)=A):=Y0;have HC:=aQe<|aA9 H hx hy;have c5:=H.cU;rw[hu]at c5;have⟨⟨e0,e1,e2⟩,ef⟩:=H.cellP hx;rw[hs]at e2;have yP:=aQe e2;have lU:(i:Int)<6:=by have:=H.hP.2;omega
 have dL:(0:Int)<=(i:Int):=YV
 clear H hm hx hy;go_enter func74,ntmps74;go_wp2_with (first|(go_at_call 64;apply(CP HH i).z;rw[HP];rintro e w1 ⟨rfl,rfl⟩)|(go_at_call 66;apply(CS 0 yP).z;rintro e w1 ⟨rfl,rfl⟩)|(go_at_call 129;fail));apply HC.z;rintro e w2 ⟨ho,bn⟩;rename_i ok h';cases ok;{have R2:I (jy h ⟨1,i,0,x.e+1⟩ ah h'/\bW w w2 B xb n h n h'):=⟨ho,bn⟩;clear ho bn;go_wp2;go_ret2;exact .lC R2.1 R2.2};have R2:I (jy h ⟨1,i,0,x.e+1⟩ A h'/\bW w w2 B xb n h n h'):=⟨ho,bn⟩;(have d0:w2 (xb,6+i*10)=Y (.int .i64<|x.e+1):=by have:=(bn.at_.cellP<|apf HX J ho).1.1;simpa[PS.gY]using this);clear ho bn e0;go_wp2;go_ret2;exact .ok R2.1 R2.2
def aBg(hh:aG w B xb n h)(hm:¬(0<=m/\m<h.P))(ep c):aH aj 28 #[ak xb,m,V Z ep,aA c] w λe w'=>e=V Z 2/\w=w':=by have H:=aQe hh;go_enter func28,ntmps28;go_wp2_with (apply(CP H m).z;rintro e w1 ⟨rfl,rfl⟩);go_ret;simp_all
def apg(hh:aG w B xb n h)(hm:(i:Int)<h.P)(hx:h.ps[i]? =x)(hb:h.bars x ep≠0)(c):aH aj 28 #[ak xb,i,ep,aA c] w λe w'=>e=aU (.int .i64<|h.bars x ep)/\w=w':=by have H:=aQe hh;have HX:=aQe hx;have HP:I (decide (0<=(i:Int)/\(i:Int)<h.P)=A):=Y0;(have kM:i<6:=by have:=hh.hP.2;omega);have⟨b,BR⟩:∃b,h.bars x ep=b:=⟨_,J⟩;have HB:=aQe BR;go_enter func28,ntmps28;go_wp2_with (first|(apply(CP H i).z;rw[HP];rintro e w1 ⟨rfl,rfl⟩)|(go_at_call 65;apply(EY H kM HX ep).z;rw[HB];rintro e w1 ⟨rfl,rfl⟩));go_ret;simp_all
def aBh(H:aG w B xb n h)(hm:(i:Int)<h.P)(hx:h.ps[i]? =x)(hb:h.bars x ep=0)(hs:x.s=0)(c):aH aj 28 #[ak xb,i,ep,aA c] w λe w'=>e=V Z 8/\w=w':=by have HH:=aQe H;have HX:=aQe hx;have HP:I (decide (0<=(i:Int)/\(i:Int)<h.P)=A):=Y0;(have kM:i<6:=by have:=H.hP.2;omega);have HB:=aQe hb;have⟨⟨e0,e1,e2⟩,ef⟩:=H.cellP hx;go_enter func28,ntmps28;go_wp2_with (first|(go_at_call 64;apply(CP HH i).z;rw[HP];rintro e w1 ⟨rfl,rfl⟩)|(apply(EY HH kM HX ep).z;rw[HB];rintro e w1 ⟨rfl,rfl⟩));go_ret;simp_all
def aBi(H:aG w B xb n h)(hm:(i:Int)<h.P)(hx:h.ps[i]? =x)(hb:h.bars x ep=0)(hs:x.s=2\/x.s=3)(c):aH aj 28 #[ak xb,i,ep,aA c] w λe w'=>e=V Z 9/\w=w':=by
 have HH:=aQe H;have HX:=aQe hx;have HP:I (decide (0<=(i:Int)/\(i:Int)<h.P)=A):=Y0;have kM:i<6:=by have:=H.hP.2;omega
 have HB:=aQe hb;have HE:I (decide (x.s=2\/x.s=3)=A):=Zv;have⟨⟨e0,e1,e2⟩,ef⟩:=H.cellP hx;have Ou:(x.s==0)=false:=Zv
 have yP:=aQe e2;clear H hm hx hb hs;go_enter func28,ntmps28;go_wp2_with (first|(go_at_call 64;apply(CP HH i).z;rw[HP];rintro e w1 ⟨rfl,rfl⟩)|(go_at_call 65;apply(EY HH kM HX ep).z;rw[HB];rintro e w1 ⟨rfl,rfl⟩)|(go_at_call 66;apply(CS _ yP).z;rw[HE];rintro e w1 ⟨rfl,rfl⟩));go_ret;simp_all
inductive ais(h:HS)(r:Rc)(w:ae)(B xb n:Nat):Ending->ae->Prop
 |ok {h':HS} {w':ae} (ho:jy h r A h') (hm:bW w w' B xb n h n h'):ais h r w B xb n (aU<|V Z 0) w'
 |lC {h':HS} {w':ae} (ho:jy h r ah h') (hm:bW w w' B xb n h n h'):ais h r w B xb n (aU<|V Z 5) w'
def aBj(hh:aG w B xb n h)(hm:(i:Int)<h.P)(hx:h.ps[i]? =x)(hb:h.bars x ep=0)(hs:x.s=1)(c:Bool)(hy:qB h ⟨3,i,if c then 1 else 0,x.t⟩):aH aj 28 #[ak xb,i,ep,c] w (ais h ⟨3,i,if c then 1 else 0,x.t⟩ w B xb n):=by
 have HH:=aQe hh;have HX:=aQe hx;have HP:I (decide (0<=(i:Int)/\(i:Int)<h.P)=A):=Y0;have kM:i<6:=by have:=hh.hP.2;omega
 have HB:=aQe hb;have⟨r,hr⟩:∃r,(⟨3,i,if c then 1 else 0,x.t⟩:Rc)=r:=⟨_,J⟩;have HC:I (aH aj 67 #[ak<|(xb,4),i,c] w<|NJ h r w B xb n):=by grind[ahZ]
 rw[hr];have⟨⟨e0,e1,e2⟩,ef⟩:=hh.cellP hx;rw[hs]at e2;have yP:=aQe e2;have lU:(i:Int)<6:=YV
 clear hh hm hx hb hy hr;go_enter func28,ntmps28;go_wp2_with (first|(go_at_call 64;apply(CP HH i).z;rw[HP];rintro e w1 ⟨rfl,rfl⟩)|(go_at_call 65;apply(EY HH kM HX ep).z;rw[HB];rintro e w1 ⟨rfl,rfl⟩)|(go_at_call 66;apply(CS 1 yP).z;rintro e w1 ⟨rfl,rfl⟩)|(go_at_call 67;fail));apply HC.z;rintro e w2 ⟨ho,bn⟩;rename_i ok h';cases ok;{have H:I (jy h r ah h'/\bW w w2 B xb n h n h'):=⟨ho,bn⟩;clear ho bn;go_wp2;go_ret;exact .lC H.1 H.2};have H:I (jy h r A h'/\bW w w2 B xb n h n h'):=⟨ho,bn⟩;clear ho bn;go_wp2;go_ret;exact .ok H.1 H.2
end
end
section
def HS.l9(h:HS)(k:Nat)(p:PL):HS:={h with pl:=h.pl.set k p}
section
variable{w w' B xb n h}
theorem aph:∀(l:List PL) (k:Nat) (p p':PL),l[k]? =Y p->p'.lb=p.lb->p'.out=p.out->vz (l.set k p')=vz l|[],k,p,p',h,_,_=>aQB|x::r,0,p,p',h,H,h2=>(by simp at h;subst h;simp[vz,PL.cs,H,h2])|x::r,k+1,p,p',h,H,h2=>by have:=aph r k p p' h H h2;simp only[vz,List.set_cons_succ,Ad]at this⊢;rw[this]
theorem aG.z(H:aG w B xb n h){m}(hm:n<=m):aG w B xb m h:=
 {H with dO:=λp hp=>(H.dO p hp).z hm}
def aG.NL(H:aG w B xb n h)(ha:mP h.pl){k p}(hk:h.pl[k]? =Y p){v' s' m}(hm:n<=m)(hl:Left w w' B p.lb p.bm p.v v' m s'):
 bW w w' B xb n h m (h.l9 k ⟨p.lb,p.bm,v',s',p.out⟩)/\mP (h.l9 k ⟨p.lb,p.bm,v',s',p.out⟩).pl:=by
 have qJ:=(kY.1 hk).1;have vO:=iO hk;have KX:=H.dO p vO;have fr:Fr (Ih p.lb p.bm p.v) w w':=hl.fr.z λ_ e=>.inl e;have row:∀{ty:dB} {wd:Nat} {v:ai} {j:Nat} {xs:List _},bI w B ty wd v j xs->ty≠163->ty≠1000000->ty≠55->bI w' B ty wd v j xs:=λho h1 h2 h3=>fr.ownsRow ho (λq hq e=>by
  have t0:=ig ho hq;grind[eY.tags])
 have mem:∀q,q∈(h.pl.set k {p with v:=v',s:=s'})->q=⟨p.lb,p.bm,v',s',p.out⟩\/∃j,j≠k/\h.pl[j]? =q:=(by grind[List.mem_iff_getElem?]);have SE:∀x,Ih _ _ v' x->Ih p.lb p.bm _ x\/w<=x:=λx hx=>by
  rcases hx with e|e|e
  ·exact .inl<|.inl e
  ·exact .inl<|.inr<|.inl e
  ·rcases hl.mY x e with a|a
   ·exact .inl<|.inr<|.inr a
   omega
 have hold:∀q∈h.pl,∀x,Ih q.lb q.bm q.v x->x<w:=λq hq x hx=>(H.lZ<|.inr Zv).1;refine⟨⟨⟨(fr.block xb (bF H.blk)<|H.RU vO).t H.blk,row H.pG Xa Xa Xa,?_,row H.tC Xa Xa Xa,?_,H.hx,H.hP,?_,H.h6⟩,?_,?_⟩,?_⟩
 ·show w'.ownsRow B 98 2 h.pv (h.pl.set k _).length (vz<|h.pl.set k _);grind[aph,cases aG]
 ·intro q hq;rcases mem q hq with rfl|⟨j,hj,Ya⟩
  ·exact hl.log
  ·exact((H.dO q Zv).stay fr λx e hf=>ha k j p q YV hk Ya x e hf).z hm
 ·show h.Q=((h.pl.set k _).length:Int)/\_;rw[Je];exact H.hQ
 ·exact fr.z λx e=>.inl<|.inr Zv
 ·intro x hx;rcases hx with e|e|e|e|⟨q,hq,hf⟩
  ·exact .inl<|.inl e
  ·exact .inl<|.inr<|.inl e
  ·exact .inl<|.inr<|.inr<|.inl e
  ·exact .inl<|.inr<|.inr<|.inr<|.inl e
  ·rcases mem q hq with rfl|⟨j,hj,Ya⟩
   ·rcases SE x hf with a|a
    ·exact .inl<|.inr Zv
    omega
   ·exact .inl<|.inr Zv
 ·intro i j a b BN hi hj x h1 h2;have pick:∀{i:Nat} {a:PL},(h.pl.set k {p with v:=v',s:=s'})[i]? =a->(i=k/\a=⟨p.lb,p.bm,v',s',p.out⟩)\/(i≠k/\h.pl[i]? =a):=Zv;rcases pick hi with⟨e1,rfl⟩|⟨e1,jC⟩<;>rcases pick hj with⟨e2,rfl⟩|⟨e2,AB⟩
  ·omega
  ·rcases SE x h1 with c|c
   ·exact ha k j p b YV hk AB x c h2
   grind
  ·rcases SE x h2 with c|c
   ·exact ha i k a p e1 jC hk x h1 c
   grind
  ·exact ha i j a b BN jC AB x h1 h2
end
end
section
def aBk(w a b c d f):(binOp .eql 119 (jf #[V Z a,V Z b,V Z c,V Z d,.bool f])<|jf #[a,b,c,d,f]).run aj w=.ok A w:=aQt
def JC(c:Int)(n:Nat):Int:=if c<0 then c else c%((n:Int)+1)
def ait(w c)(n:Nat)(hn:n<=100):aH aj 80 #[V Z c,n] w λe w'=>e=aU (.int .i64<|JC c n)/\w=w':=by by_cases h:c<0;{(have H:I (JC c n=c):=by show JC c n=c;simp[JC,h]);go_enter func80,ntmps80;go_wp2;go_ret;exact⟨by rw[H]<;>rfl,J⟩};(have H:I (JC c n=c%((n:Int)+1)):=by show JC c n=c%((n:Int)+1);simp[JC,h]);(have hp:(n:Int)+1≠0:=YV);go_enter func80,ntmps80;go_wp2;go_ret;exact⟨by rw[H]<;>rfl,J⟩
theorem yY{c}(H: -9223372036854775808<=c)(h2:c<=9223372036854775807):fF c:=by simpa[fF,Lit.wf,IntKind.min,IntKind.max,IntKind.signed,IntKind.bits]using And.intro H h2
def aBl{c n}(hn:n<=100)(H:fF c):fF (JC c n):=by unfold JC;split;{exact H};{have h1:=Int.emod_nonneg c (b:=(n:Int)+1) YV;have h2:=Int.emod_lt_of_pos c (b:=(n:Int)+1) YV;exact yY YV YV}
section
variable{w B aPT wb xb yb bb n o}
def aBm(h:jw w B aPT wb xb yb bb n o)(ha:Ask w aPT (ptr xb) (ptr yb))(p q m)(hm:fF m)(ts fl):aH aj 34 #[ptr wb,jf #[V Z 16,V Z p,V Z q,m,.string ts,.bool fl]] w λe w'=>e=A/\Fr aB w w':=by have⟨nf,hnf,aul⟩:=ha.num;have⟨m1,m2,m3,m4,er,mf,ad8⟩:=ha.Zl (JC m nf)<|aBl hnf hm;have HM:=aQe ad8;have HN:=aQe aul;have HS:=aQe h;have HNF:=aQe hnf;have⟨c0,c1,c2⟩:=h.cells;have qC:=bF h.blk;have aMC:=aBk;clear h ha ad8 aul hnf hm c2;unfold ptr at c0 c1 HM HN⊢;go_enter func34,ntmps34;go_wp2_with fail;go_region_held3 (λw'=>au w' (wb,1)=Y (ak yb)/\au w' (M (R w),3)=Y (m)) (first|go_keep|exact⟨Uc,Z7⟩) (first|(go_at_call 37;apply(HN _<|((aQ _).drew).aW).b.z;rintro e w1 ⟨rfl,aI⟩;have F1:=aQe<|((aQ _).drew).t aI dA;have Uc:au w1 (wb,1)=Y (ak yb):=(F1.cell (p:=(wb,1)) qC id).t c1;(have Z7:au w1 (M (R w),3)=Y (m):=(aI.cell (p:=(M (R w),3)) Xy id).t Xy);(have c1c:au w1 w=Y (.int .i64 16):=(aI.cell (p:=w) Xy id).t Xy);have c1d:au w1 wb=Y (ak xb):=(F1.cell (p:=wb) qC id).t c0;have l7:wb<w1:=gZ qC F1.size;clear aI)|(go_at_call 80;apply(ait _ _ _ HNF).z;rintro e w2 ⟨rfl,rfl⟩));go_wp2_with (first|(go_at_call 87;apply(HM _<|F1.aW).a.z;rintro e w3 ⟨rfl,iL⟩;have F3:=aQe<|F1.t iL dA;have c3:au w3 (wb,1)=Y (ak yb):=(iL.cell (p:=(wb,1)) l7 id).t Uc;have Yi:wb<w3:=gZ l7 iL.size;clear iL)|(go_at_call 88;apply(HM _<|(F3.alloc _).aW).b.z;rintro e w4 ⟨rfl,H⟩;have F4:=aQe<|(F3.alloc _).t H dA;have k0:au w4 w3=Y (.int .i64 m1):=Fr.box (S:=λ_=>False) H id 0;have k1:au w4 (M (R w3),1)=Y (.int .i64 m2):=Fr.box (S:=λ_=>False) H id 1;have k2:au w4 (M (R w3),2)=Y (.int .i64 m3):=Fr.box (S:=λ_=>False) H id 2;have k3:au w4 (M (R w3),3)=Y (.int .i64 m4):=Fr.box (S:=λ_=>False) H id 3;have k4:au w4 (M (R w3),4)=Y (.bool mf):=Fr.box (S:=λ_=>False) H id 4;have hw4:M (R w3)<M (R w4):=gZ Xy H.size;clear H));go_ret;exact⟨Xy,F4.alloc _⟩
end
end
section
section
variable{w w':ae}{B xb n:Nat}{h:HS}
def apj(hh:aG w B xb n h){p q}(hl:h.oO p q≠0)(ep):aH aj 63 #[ak xb,p,V Z ep,q] w λe w'=>e=aU (.int .i64<|h.oO p q)/\w=w':=by have H:=aQe hh;go_enter func63,ntmps63;go_wp2_with (apply(Gt H p q).z;rintro e w1 ⟨rfl,rfl⟩);go_ret;simp_all
variable{q i:Nat}{x:PS}{ep:Int}
def KY{p:Nat}(hp:(p:Int)<h.P)(hq:q<h.pl):h.oO p q=0:=by simp only[HS.oO];omega
def apk(hh:aG w B xb n h)(hm:(i:Int)<h.P)(hq:q<h.pl)(hx:h.ps[i]? =x)(hb:h.bars x ep≠0):aH aj 63 #[ak xb,i,ep,q] w λe w'=>e=aU (.int .i64<|h.bars x ep)/\w=w':=by have H:=aQe hh;have HX:=aQe hx;have HL:=aQe<|KY hm hq;(have kM:i<6:=by have:=hh.hP.2;omega);have⟨b,BR⟩:∃b,h.bars x ep=b:=⟨_,J⟩;have HB:=aQe BR;go_enter func63,ntmps63;go_wp2_with (first|(go_at_call 124;apply(Gt H i q).z;rw[HL];rintro e w1 ⟨rfl,rfl⟩)|(go_at_call 65;apply(EY H kM HX ep).z;rw[HB];rintro e w1 ⟨rfl,rfl⟩));go_ret;simp_all
def aBp(H:aG w B xb n h)(hm:(i:Int)<h.P)(hq:q<h.pl)(hx:h.ps[i]? =x)(hb:h.bars x ep=0)(hs:x.s=2\/x.s=3):aH aj 63 #[ak xb,i,ep,q] w λe w'=>e=V Z 9/\Fr aB w w':=by
 have HH:=aQe H;have HX:=aQe hx;have HL:=aQe<|KY hm hq;have kM:i<6:=by have:=H.hP.2;omega
 have HB:=aQe hb;have HE:I (decide (x.s=2\/x.s=3)=A):=Zv;have⟨⟨e0,e1,e2⟩,ef⟩:=H.cellP hx;have yP:=e2;have⟨p,hp⟩:∃p,h.pl[q]? =Y p:=Y0;have⟨g,cap,jB,hg,oI,c0,c1⟩:=H.place hp;have cV:=H.cV;rw[jB]at cV;have lU:(i:Int)<6:=by omega
 clear H hm hx hb hs hp jB;go_enter func63,ntmps63;go_wp2_with (first|(go_at_call 124;apply(Gt HH i q).z;rw[HL];rintro e w1 ⟨rfl,rfl⟩)|(go_at_call 65;apply(EY HH kM HX ep).z;rw[HB];rintro e w1 ⟨rfl,rfl⟩));go_region;go_wp2_with (first|(go_at_call 66;apply(CS x.s<|by simp_all).z;rw[HE];rintro e w1 ⟨rfl,rfl⟩));go_ret;exact⟨J,eH.drew⟩
def aBq(H:aG w B xb n h)(hm:(i:Int)<h.P){p}(hp:h.pl[q]? =Y p)(ho:p.out=A)(hx:h.ps[i]? =x)(hb:h.bars x ep=0)(hs:x.s=0\/x.s=1):aH aj 63 #[ak xb,i,ep,q] w λe w'=>e=V Z 10/\Fr aB w w':=by
 have HH:=aQe H;have HX:=aQe hx;have hq:=(kY.1 hp).1;have HL:=aQe<|KY hm hq;have kM:i<6:=by have:=H.hP.2;omega
 have HB:=aQe hb;have HE:I (decide (x.s=2\/x.s=3)=ah):=jr YV;have⟨⟨e0,e1,e2⟩,ef⟩:=H.cellP hx;have yP:=e2;have⟨g,cap,jB,hg,oI,c0,c1⟩:=H.place hp;rw[ho]at c1;have cV:=H.cV;rw[jB]at cV;have lU:(i:Int)<6:=YV
 have lF:(q:Int)<h.pl:=YV
 clear H hm hx hb hs hp jB ho;go_enter func63,ntmps63;go_wp2_with (first|(go_at_call 124;apply(Gt HH i q).z;rw[HL];rintro e w1 ⟨rfl,rfl⟩)|(go_at_call 65;apply(EY HH kM HX ep).z;rw[HB];rintro e w1 ⟨rfl,rfl⟩));go_region;go_wp2_with (first|(go_at_call 66;apply(CS x.s Y0).z;rw[HE];rintro e w1 ⟨rfl,rfl⟩));go_ret;exact⟨J,eH.drew⟩
def aG.quiet(hh:aG w B xb n h)(hx:h.ps[i]? =x):bW w (aZ w (xb,6+i*10+7)<|V Z 0) B xb n h n (h.gq i {x with si:=0}):=have:=hh.setCell {x with si:=0} (j:=7) hx YV J;bW.own this.2 this.1 λk H=>H
inductive apl(w:ae)(B xb n:Nat)(h1:HS)(i q:Nat)(x:PS)(p:PL):Ending->ae->Prop
 |mk {v':ai} {w':ae} (hm:bW w w' B xb n h1 (n+1) ((h1.l9 q ⟨p.lb,p.bm,v',p.s.opened i x.t,p.out⟩).gq i {x with si:=0})) (ha:mP (h1.l9 q ⟨p.lb,p.bm,v',p.s.opened i x.t,p.out⟩).pl):apl w B xb n h1 i q x p (aU<|V Z 0) w'
def aBr(H:aG w B xb n h)(ha:mP h.pl)(hm:(i:Int)<h.P){p}(hp:h.pl[q]? =Y p)(ho:p.out=ah)(hx:h.ps[i]? =x)(hb:h.bars x ep=0)(hs:x.s=0\/x.s=1)(ht:x.bU.getD q 0≠0)(hn:n<cZ):aH aj 63 #[ak xb,i,ep,q] w (apl w B xb n h i q x p):=by
 have HH:=aQe H;have HX:=aQe hx;have HA:=aQe ha;have Bg:=aQe hp;have hq:=(kY.1 hp).1;have jP:q<4:=by have:=H.hQ;omega
 have HL:=aQe<|KY hm hq;have kM:i<6:=by have:=H.hP.2;omega
 have HB:=aQe hb;have HE:I (decide (x.s=2\/x.s=3)=ah):=jr YV;have HLG:I (eY w B p.lb p.bm p.v n p.s):=H.dO p (by grind);have SN:I (n<cZ):=hn;have HI:I (fF (i:Int)):=yY (by omega) (by omega);obtain⟨⟨e0,e1,e2⟩,ef⟩:=H.cellP hx;have yP:I (au w (xb,6+i*10+2)=Y (x.s)):=e2;have e3:au w (xb,6+i*10+3+q)=Y (.int .i64<|x.bU.getD q 0):=by rw[Jf];exact H.kK hx (3+q) _<|Su _ jP
 obtain⟨tv,Z8⟩:∃tv,x.bU.getD q 0=tv:=⟨_,J⟩;rw[Z8]at e3 ht;have L8:(tv==0)=false:=by simpa using ht
 obtain⟨g,cap,jB,hg,oI,c0,c1⟩:=H.place hp;rw[ho]at c1;have cV:=H.cV;rw[jB]at cV;have lU:(i:Int)<6:=by omega
 have dL:(0:Int)<=(i:Int):=by omega
 have oJ:(0:Int)<=(q:Int):=by omega
 have lF:(q:Int)<O h.pl:=by omega
 have aiu:(q:Int)<4:=by omega
 have FD:I (Fr aB w w.drew.drew):=(eH.drew).drew;have Z9:I (eY w.drew.drew B p.lb p.bm p.v n p.s):=FD.logAt HLG id id λ_ _=>id;have vO:=iO hp;have HGP:I (¬(g=p.lb\/g=p.bm\/p.v.ownBlock=Y g)):=λe=>by have t0:=ig H.qK (k:=g) (by rw[jB];rfl);rcases(H.dO p vO).tags e with t1|t1|t1<;>rw[t0]at t1<;>cases t1
 have HXP:I (¬(xb=p.lb\/xb=p.bm\/p.v.ownBlock=Y xb)):=H.RU vO;have iZ:=bF H.blk;clear H hm hx hb hs hp jB ho ha hn ht Z8 vO;go_enter func63,ntmps63;go_wp2_with (first|(go_at_call 124;refine(Gt HH i q).z ?_;rw[HL];rintro e w1 ⟨rfl,rfl⟩)|(go_at_call 65;refine(EY HH kM HX ep).z ?_;rw[HB];rintro e w1 ⟨rfl,rfl⟩));go_region;go_wp2_with (first|(go_at_call 66;refine(CS x.s<|by exact yP).z ?_;rw[HE];rintro e w1 ⟨rfl,rfl⟩));go_region_held3 (λw'=>au w' (g,q*2)=Y (ak p.lb)/\au w' (xb,6+i*10+1)=Y (x.t)) (first|with_reducible exact C2|exact⟨c0,e1⟩|go_keep) ((go_at_call 126;refine(anW (w:=w.drew.drew) Z9 i x.t HI SN).z ?_;rintro e w3 ⟨rfl,hl⟩;have bn:=(HH.a FD).NL HA Bg (by omega) hl;have L3:I (bW w w3 B xb n h (n+1) (h.l9 q ⟨p.lb,p.bm,p.v,p.s.opened i x.t,p.out⟩)/\mP (h.l9 q ⟨p.lb,p.bm,p.v,p.s.opened i x.t,p.out⟩).pl):=⟨bn.1.behind FD,bn.2⟩;have C2:au w3 (g,q*2)=Y (ak<|Y ⟨p.lb,0,U⟩)/\au w3 ⟨xb,6+i*10+1,U⟩=Y (x.t):=⟨(hl.fr.cell (p:=⟨g,q*2,U⟩) hg HGP).t c0,(hl.fr.cell (p:=⟨xb,6+i*10+1,U⟩) iZ HXP).t e1⟩;have d7:au w3 ⟨xb,6+i*10+7,U⟩=Y (x.si):=L3.1.at_.kK (p:=x) HX 7 _ J;have df:∀o,w3.frozen? ⟨xb,o,U⟩=false:=gJ L3.1.at_.blk;clear hl bn));go_wp2_with fail;go_ret;have hx3:(h.l9 q ⟨p.lb,p.bm,p.v,p.s.opened i x.t,p.out⟩).ps[i]? =Y x:=HX;exact .mk (v':=p.v) (L3.1.t<|L3.1.at_.quiet hx3) L3.2
end
end
section
section
variable{w w' B xb n h}
inductive aiv(w:ae)(B xb n:Nat)(h:HS)(i q:Nat)(x:PS)(p:PL):Ending->ae->Prop
 |ok {h1:HS} {v':ai} {w':ae} (ho:jy h ⟨2,i,q,x.next⟩ A h1) (hm:bW w w' B xb n h (n+1) ((h1.l9 q ⟨p.lb,p.bm,v',p.s.opened i x.next,p.out⟩).gq i {x.gY ⟨2,i,q,x.next⟩with si:=0})) (ha:mP (h1.l9 q ⟨p.lb,p.bm,v',p.s.opened i x.next,p.out⟩).pl):aiv w B xb n h i q x p (aU<|V Z 0) w'
 |lC {h':HS} {w':ae} (ho:jy h ⟨2,i,q,x.next⟩ ah h') (hm:bW w w' B xb n h n h'):aiv w B xb n h i q x p (aU<|V Z 5) w'
def aBs(x:PS)(i q t):(x.gY ⟨2,i,q,t⟩).t=t/\(x.gY ⟨2,i,q,t⟩).si=x.si/\(x.gY ⟨2,i,q,t⟩).s=1:=by
 have e:x.gY ⟨2,i,q,t⟩=({x with s:=1,t:=t}:PS).tie q 1:=by simp[PS.gY]
 grind[Xp]
def jy.aBt{r H}(ho:jy h r A H):H.pl=h.pl/\H.pv=h.pv/\H.Q=h.Q/\H.P=h.P:=by cases ho;exact⟨J,J,J,J⟩
def aBu(hh:aG w B xb n h)(ha:mP h.pl){i q:Nat}(hm:(i:Int)<h.P){p}(hp:h.pl[q]? =Y p)(ho:p.out=ah){x}(hx:h.ps[i]? =Y x){ep}(hb:h.bars x ep=0)(hs:x.s=0\/x.s=1)(ht:x.bU.getD q 0=0)(hn:n<cZ)(hy:qB h ⟨2,i,q,x.next⟩):aH aj 63 #[ak xb,i,ep,q] w (aiv w B xb n h i q x p):=by
 have HH:=aQe hh;have HX:=aQe hx;have HA:=aQe ha;have Bg:=aQe hp;have hq:=(kY.1 hp).1;have jP:q<4:=by have:=hh.hQ;omega
 have HL:=aQe<|KY hm hq;have kM:i<6:=by have:=hh.hP.2;omega
 have HB:=aQe hb;have HE:I (decide (x.s=2\/x.s=3)=ah):=jr YV;have SN:I (n<cZ):=hn;have HI:I (fF (i:Int)):=yY (by omega) (by omega);have HC:I (aH aj 125 #[ak<|Y (xb,4),i,q] w.drew<|NJ h ⟨2,i,q,x.next⟩ w.drew B xb n):=aBa (hh.a<|eH.drew) hx hy;obtain⟨⟨e0,e1,e2⟩,ef⟩:=hh.cellP hx;have yP:I (au w (xb,6+i*10+2)=Y (x.s)):=e2;have e3:au w (xb,6+i*10+3+q)=Y (.int .i64<|x.bU.getD q 0):=by rw[Jf];exact hh.kK hx (3+q) _<|Su _ jP
 rw[ht]at e3;obtain⟨g,cap,jB,hg,oI,c0,c1⟩:=hh.place hp;rw[ho]at c1;have cV:=hh.cV;rw[jB]at cV;have PG:I (h.pv=aP g (O h.pl) cap):=jB;have lU:(i:Int)<6:=by omega
 have dL:(0:Int)<=(i:Int):=by omega
 have oJ:(0:Int)<=(q:Int):=by omega
 have lF:(q:Int)<O h.pl:=by omega
 have aiu:(q:Int)<4:=by omega
 clear hh hm hx hb hs hp jB ho ha hn ht hy;go_enter func63,ntmps63;go_wp2_with (first|(go_at_call 124;refine(Gt HH i q).z ?_;rw[HL];rintro e w1 ⟨rfl,rfl⟩)|(go_at_call 65;refine(EY HH kM HX ep).z ?_;rw[HB];rintro e w1 ⟨rfl,rfl⟩));go_region;go_wp2_with (first|(go_at_call 66;refine(CS x.s<|by exact yP).z ?_;rw[HE];rintro e w1 ⟨rfl,rfl⟩)|(go_at_call 125;fail));refine HC.z ?_;rintro e w2 ⟨ho,H⟩;rename_i ok h1;cases ok;{have R2:I (jy h ⟨2,i,q,x.next⟩ ah h1/\bW w w2 B xb n h n h1):=⟨ho,H.behind<|eH.drew⟩;clear ho H;go_wp2_with fail;go_ret;exact .lC R2.1 R2.2};have HO:I (jy h ⟨2,i,q,x.next⟩ A h1):=ho;have R2:I (bW w w2 B xb n h n h1):=H.behind<|eH.drew;have mV:=apf HX J ho;obtain⟨aiw,ak9,_,_⟩:=ho.aBt;obtain⟨dt,dsi,_⟩:=aBs x i q x.next;obtain⟨x1,hxe⟩:∃x1,x.gY ⟨2,i,q,x.next⟩=x1:=⟨_,J⟩;rw[hxe]at mV dt dsi;have HXE:I (x.gY ⟨2,i,q,x.next⟩=x1):=hxe;have DK:I (h1.ps[i]? =Y x1):=mV;(have aix:I (h1.pl[q]? =Y p):=by grind);(have HA1:I (mP h1.pl):=by grind);(have k1:au w2 (xb,6+i*10+1)=Y (x.next):=by have:=(H.at_.cellP mV).1.2.1;grind);obtain⟨g',cap',aiy,kF,_,c0',_⟩:=H.at_.place aix;rw[ak9,PG]at aiy;simp only[aQQ,iR,aRv,UF]at aiy;obtain⟨rfl,_,_⟩:=aiy;have vO:p∈h1.pl:=iO aix;(have HGP:I (¬(g=p.lb\/g=p.bm\/p.v.ownBlock=Y g)):=λe=>by have t0:=ig H.at_.qK (k:=g) (by rw[ak9,PG];rfl);rcases(H.at_.dO p vO).tags e with t1|t1|t1<;>rw[t0]at t1<;>cases t1);have HXP:I (¬(xb=p.lb\/xb=p.bm\/p.v.ownBlock=Y xb)):=H.at_.RU vO;have FD:I (Fr aB w2 w2.drew):=eH.drew;have Z9:I (eY w2.drew B p.lb p.bm p.v n p.s):=FD.logAt (H.at_.dO p vO) id id λ_ _=>id;have iZ:=bF H.at_.blk;have HH1:I (aG w2.drew B xb n h1):=H.at_.a FD;clear ho H mV aiw ak9 dt dsi hxe vO c0 c1 cV e0 e1 e2 e3 ef hg;go_wp2_with fail;go_region_held3 (λw'=>au w' (g,q*2)=Y (ak p.lb)/\au w' ⟨xb,6+i*10+1,U⟩=Y (x.next)) (first|simp_all|exact⟨c0',k1⟩|go_keep) ((go_at_call 126;refine(anW (w:=w2.drew) Z9 i x.next HI SN).z ?_;rintro e w3 ⟨rfl,hl⟩;have H:=HH1.NL HA1 aix (by omega) hl;have L3:I (bW w w3 B xb n h (n+1) (h1.l9 q ⟨p.lb,p.bm,p.v,p.s.opened i x.next,p.out⟩)/\mP (h1.l9 q ⟨p.lb,p.bm,p.v,p.s.opened i x.next,p.out⟩).pl):=⟨R2.t<|H.1.behind FD,H.2⟩;have C2:au w3 ⟨g,q*2,U⟩=Y (ak<|Y ⟨p.lb,0,U⟩)/\au w3 ⟨xb,6+i*10+1,U⟩=Y (x.next):=⟨(hl.fr.cell (p:=⟨g,q*2,U⟩) kF HGP).t c0',(hl.fr.cell (p:=⟨xb,6+i*10+1,U⟩) iZ HXP).t k1⟩;have d7:au w3 ⟨xb,6+i*10+7,U⟩=Y (x1.si):=L3.1.at_.kK (p:=x1) DK 7 _ J;have df:∀o,w3.frozen? ⟨xb,o,U⟩=false:=gJ L3.1.at_.blk;clear hl H));go_wp2_with fail;go_ret;have hx3:(h1.l9 q ⟨p.lb,p.bm,p.v,p.s.opened i x.next,p.out⟩).ps[i]? =Y x1:=DK;refine .ok (v':=p.v) HO ?_ L3.2;rw[HXE];exact L3.1.t<|L3.1.at_.quiet hx3
end
end
section
section
variable{w w':ae}{B xb n:Nat}{h:HS}
variable{v:ai}{xs:List Int}{p q ep:Int}{ts:ByteArray}{i:Nat}{x:PS}
def aBx(hr:bI w B 3 1 v xs (dY xs))(m):aH aj 183 #[v,V Z m] w λr w'=>(∃j,r=V Z j/\(0<=j↔m∈xs)/\j<9223372036854775807/\-1<=j)/\w=w':=by obtain⟨va,vc,rfl,hl⟩:=jg hr;unfold cZ at hl;have H:=aQe hr;clear hr;go_enter func183,ntmps183;go_wp2;go_loop [8] (λi=>∃k,k<=O xs/\i=k/\∀j x,j<k->xs[j]? =Y x->x≠m) (λi=>xs-(bM i).toNat);(case atStart=>grind);case round=>obtain⟨k,hk,rfl,lT⟩:=hrel;have HA:=aQe lT;clear lT;by_cases aO:k<O xs;{have⟨x,hx⟩:∃x,xs[k]? =Y x:=Y0;have HX:=aQe hx;rcases H.2 with⟨_,h0⟩|⟨g,cap,cur,hv,hb,hg,h1,h2,_⟩;{omega};simp at hv;obtain⟨rfl,_,rfl⟩:=hv;have c0:=Jl H hx;(have J8:(k:Int)<(O xs:Int):=YV);(have FB:(0:Int)<=(k:Int):=YV);clear hx hg h2 hb;by_cases e:m=x;{(have HM:I (m∈xs):=by show m∈xs;rw[e];exact iO HX);(have e':(m==x)=true:=Zv);clear e;go_wp2;go_ret;exact⟨⟨(k:Int),J,⟨λ_=>HM,λ_=>FB⟩,YV,YV⟩,J⟩};{(have e':(m==x)=false:=Zv);(have Em:I (∀j z,j<k+1->xs[j]? =Y z->z≠m):=λj z hj hz=>by by_cases ej:j=k;{subst ej;have:=HX.s.t hz;grind};exact HA j z YV hz);clear e;go_wp2;go_round;(case rel=>exact⟨k+1,YV,Y4,Em⟩);case measure=>simp[bM]<;>omega}};(have HM:I (m∉xs):=λhm=>by obtain⟨j,hj,rfl⟩:=UA hm;exact HA j _ YV Zv J);go_wp2;go_ret;exact⟨⟨-1,J,⟨YV,λe=>absurd e HM⟩,YV,YV⟩,J⟩
def apn(hr:bI w B 3 1 v xs (dY xs))(m):aH aj 135 #[v,V Z m] w λr w'=>r=aU (.bool<|decide<|m∈xs)/\w=w':=by obtain⟨va,vc,rfl,hl⟩:=jg hr;have HC:=aQe<|aBx hr m;clear hr hl;go_enter func135,ntmps135;go_wp2_with fail;apply HC.z;rintro e w1 ⟨⟨j,rfl,hj,_,_⟩,rfl⟩;by_cases h0:0<=j;{have H:=aQe<|iC<|hj.1 h0;clear hj;go_wp2;go_ret;exact⟨by rw[H]<;>rfl,J⟩};have H:I (decide (m∈xs)=ah):=jr Zv;clear hj;go_wp2;go_ret;exact⟨by rw[H,show ah=decide (0<=j)from Zv]<;>rfl,J⟩
def apo(hh:aG w B xb n h)(hl:h.oO p q≠0)(ep ts):aH aj 77 #[ak xb,p,V Z ep,q,dN ts] w λe w'=>e=aU (.int .i64<|h.oO p q)/\w=w':=by have H:=aQe hh;go_enter func77,ntmps77;go_wp2_with (apply(Gt H p q).z;rintro e w1 ⟨rfl,rfl⟩);go_ret;simp_all
def aBy(hh:aG w B xb n h)(hl:h.oO p q=0)(ep)(ht:8<ts.size)(hm:ts.size<=2^47):aH aj 77 #[ak xb,p,V Z ep,q,ts] w λe w'=>e=V Z 4/\w=w':=by have HH:=aQe hh;go_enter func77,ntmps77;go_wp2_with (apply(Gt HH p q).z;rintro e w1 ⟨rfl,rfl⟩);go_ret;simp_all
def apq(hh:aG w B xb n h){q}(hm:(i:Int)<h.P)(hq:q<O h.pl)(hx:h.ps[i]? =x)(hb:h.bars x ep≠0)(ht:ts.size<=8):aH aj 77 #[ak xb,i,ep,q,ts] w λe w'=>e=aU (.int .i64<|h.bars x ep)/\w=w':=by have H:=aQe hh;have HX:=aQe hx;have HL:=aQe<|KY hm hq;(have kM:i<6:=by have:=hh.hP.2;omega);have⟨b,BR⟩:∃b,h.bars x ep=b:=⟨_,J⟩;have HB:=aQe BR;go_enter func77,ntmps77;go_wp2_with (first|(go_at_call 124;apply(Gt H i q).z;rw[HL];rintro e w1 ⟨rfl,rfl⟩)|(go_at_call 65;apply(EY H kM HX ep).z;rw[HB];rintro e w1 ⟨rfl,rfl⟩));go_ret;simp_all
def aBz(H:aG w B xb n h){q}(hm:(i:Int)<h.P)(hq:q<O h.pl)(hx:h.ps[i]? =x)(hb:h.bars x ep=0)(hs:x.s=0\/x.s=2\/x.s=3)(ht:ts.size<=8):aH aj 77 #[ak xb,i,ep,q,ts] w λe w'=>e=aU (.int .i64<|if x.s=0 then 8 else 9)/\Fr aB w w':=by
 have HH:=aQe H;have HX:=aQe hx;have HL:=aQe<|KY hm hq;have kM:i<6:=by have:=H.hP.2;omega
 have HB:=aQe hb;have⟨⟨e0,e1,e2⟩,ef⟩:=H.cellP hx;have⟨p,hp⟩:∃p,h.pl[q]? =Y p:=Y0;have⟨g,cap,jB,hg,oI,c0,c1⟩:=H.place hp;have cV:=H.cV;rw[jB]at cV;have lU:(i:Int)<6:=YV
 have dL:(0:Int)<=(i:Int):=YV
 have oJ:(0:Int)<=(q:Int):=YV
 have lF:(q:Int)<O h.pl:=YV
 have L8:¬(8:Int)<(ts.size:Int):=YV
 have yP:=aQe e2;clear H hm hx hb hp jB;by_cases h0:x.s=0;{rw[if_pos h0];rw[h0]at e2;go_enter func77,ntmps77;go_wp2_with (first|(go_at_call 124;apply(Gt HH i q).z;rw[HL];rintro e w1 ⟨rfl,rfl⟩)|(go_at_call 65;apply(EY HH kM HX ep).z;rw[HB];rintro e w1 ⟨rfl,rfl⟩));go_region;go_wp2_with fail;go_ret;exact⟨J,eH.drew⟩};rw[if_neg h0];have HE:I (decide (x.s=2\/x.s=3)=A):=(by grind);(have TR:(x.s==0)=false:=Zv);go_enter func77,ntmps77;go_wp2_with (first|(go_at_call 124;apply(Gt HH i q).z;rw[HL];rintro e w1 ⟨rfl,rfl⟩)|(go_at_call 65;apply(EY HH kM HX ep).z;rw[HB];rintro e w1 ⟨rfl,rfl⟩));go_region;go_wp2_with (first|(go_at_call 66;refine(CS x.s<|by simp_all).z ?_;rw[HE];rintro e w1 ⟨rfl,rfl⟩));go_ret;exact⟨J,eH.drew⟩
end
end
section
section
variable{w w':ae}{B xb n:Nat}{h:HS}
def aBA(H:aG w B xb n h){i q:Nat}(hm:(i:Int)<h.P)(hq:q<h.pl){x}(hx:h.ps[i]? =Y x){ep}(hb:h.bars x ep=0)(hs:x.s=1)(QP:x.bU.getD q 0=0){ts}(ht:ts.size<=8):aH aj 77 #[ak xb,i,ep,q,dN ts] w λe w'=>e=V Z 11/\Fr aB w w':=by
 have HH:=aQe H;have HX:=aQe hx;have HL:=aQe<|KY hm hq;have kM:i<6:=by have:=H.hP.2;omega
 have jP:q<4:=by have:=H.hQ;omega
 have HB:=aQe hb;have⟨⟨e0,e1,e2⟩,ef⟩:=H.cellP hx;rw[hs]at e2;have e3:w (xb,6+i*10+3+q)=Y (.int .i64<|x.bU.getD q 0):=by rw[Jf];exact H.kK hx (3+q) _<|Su _ jP
 rw[QP]at e3;have⟨p,hp⟩:∃p,h.pl[q]? =Y p:=Y0;have⟨g,cap,jB,hg,oI,c0,c1⟩:=H.place hp;have cV:=H.cV;rw[jB]at cV;have lU:(i:Int)<6:=YV
 have dL:(0:Int)<=(i:Int):=YV
 have oJ:(0:Int)<=(q:Int):=YV
 have lF:(q:Int)<h.pl:=YV
 have aiu:(q:Int)<4:=YV
 have L8:¬(8:Int)<(ts.size:Int):=YV
 have yP:=e2;clear H hm hx hb hp jB QP hs;go_enter func77,ntmps77;go_wp2_with (first|(go_at_call 124;apply(Gt HH i q).z;rw[HL];rintro e w1 ⟨rfl,rfl⟩)|(go_at_call 65;apply(EY HH kM HX ep).z;rw[HB];rintro e w1 ⟨rfl,rfl⟩));go_region;go_wp2_with (first|(go_at_call 66;apply(CS 1 Y0).z;rintro e w1 ⟨rfl,rfl⟩));go_ret;exact⟨J,eH.drew⟩
inductive aad(w:ae)(B xb n:Nat)(h:HS)(i q:Nat)(x:PS)(p:PL)(ts:ByteArray):Ending->ae->Prop
 |not {w':ae} (ho:∀t,p.s.nw i≠Y (t,A)) (f:Fr aB w w'):aad w B xb n h i q x p ts (aU<|V Z 11) w'
 |out {w':ae} {t:Int} (ho:p.s.nw i=Y (t,A)) (hp:p.out=A) (f:Fr aB w w'):aad w B xb n h i q x p ts (aU<|V Z 10) w'
 |bad {w':ae} {t:Int} {v':ai} (ho:p.s.nw i=Y (t,A)) (hp:p.out=ah) (hc:p.s.vW i x.t ts≠0) (hm:bW w w' B xb n h n (h.l9 q ⟨p.lb,p.bm,v',p.s.pW i x.t ts,p.out⟩)) (ha:mP (h.l9 q ⟨p.lb,p.bm,v',p.s.pW i x.t ts,p.out⟩).pl):aad w B xb n h i q x p ts (aU<|.int .i64<|p.s.vW i x.t ts) w'
 |ok {w':ae} {t:Int} {v':ai} (ho:p.s.nw i=Y (t,A)) (hp:p.out=ah) (hc:p.s.vW i x.t ts=0) (hm:bW w w' B xb n h n ((h.l9 q ⟨p.lb,p.bm,v',p.s.pW i x.t ts,p.out⟩).gq i {x with si:=0})) (ha:mP (h.l9 q ⟨p.lb,p.bm,v',p.s.pW i x.t ts,p.out⟩).pl):aad w B xb n h i q x p ts (aU<|V Z 0) w'
def aBB(H:aG w B xb n h)(nI:mP h.pl){i q:Nat}(hm:(i:Int)<h.P){p}(hp:h.pl[q]? =Y p){x}(hx:h.ps[i]? =Y x){ep}(hb:h.bars x ep=0)(hs:x.s=1)(QP:x.bU.getD q 0≠0){ts}(ht:ts.size<=8)(hn:(n+1)*8<=2^47)(FN:(O p.s.es+1)*40<=2^47):aH aj 77 #[ak xb,i,ep,q,dN ts] w (aad w B xb n h i q x p ts):=by
 have HH:=aQe H;have DW:=aQe nI;have HX:=aQe hx;have Bg:=aQe hp;have hq:=(kY.1 hp).1;have HL:=aQe<|KY hm hq;have kM:i<6:=by have:=H.hP.2;omega
 have jP:q<4:=by have:=H.hQ;omega
 have HB:=aQe hb;have SN:=aQe hn;have HES:=aQe FN;have HI:I (fF (i:Int)):=yY (by omega) (by omega);have Xl:I (ts.size<=cZ):=by show ts.size<=cZ;unfold cZ;omega
 obtain⟨⟨e0,e1,e2⟩,ef⟩:=H.cellP hx;rw[hs]at e2;have e3:au w (xb,6+i*10+3+q)=Y (.int .i64<|x.bU.getD q 0):=by rw[Jf];exact H.kK hx (3+q) _<|Su _ jP
 obtain⟨tv,Z8⟩:∃tv,x.bU.getD q 0=tv:=⟨_,J⟩;rw[Z8]at e3 QP;have ht0:(tv==0)=false:=by simpa using QP
 have vO:=iO hp;have HLG:I (eY w B p.lb p.bm p.v n p.s):=H.dO p vO;obtain⟨g,cap,jB,hg,oI,c0,c1⟩:=H.place hp;have cV:=H.cV;rw[jB]at cV;have HGP:I (¬(g=p.lb\/g=p.bm\/p.v.ownBlock=Y g)):=λe=>by have t0:=ig H.qK (k:=g) (by rw[jB];rfl);rcases(H.dO p vO).tags e with t1|t1|t1<;>rw[t0]at t1<;>cases t1
 have HXP:I (¬(xb=p.lb\/xb=p.bm\/p.v.ownBlock=Y xb)):=H.RU vO;have iZ:=bF H.blk;have lU:(i:Int)<6:=by omega
 have dL:(0:Int)<=(i:Int):=by omega
 have oJ:(0:Int)<=(q:Int):=by omega
 have lF:(q:Int)<O h.pl:=by omega
 have aiu:(q:Int)<4:=by omega
 have L8:¬(8:Int)<(ts.size:Int):=by omega
 have yP:I (au w (xb,6+i*10+2)=Y (V Z 1)):=e2;clear H hm hx hb hp jB hs nI hn FN QP Z8 vO;go_enter func77,ntmps77;go_wp2_with (first|(go_at_call 124;refine(Gt HH i q).z ?_;rw[HL];rintro e w1 ⟨rfl,rfl⟩)|(go_at_call 65;refine(EY HH kM HX ep).z ?_;rw[HB];rintro e w1 ⟨rfl,rfl⟩));go_region;go_wp2_with (first|(go_at_call 66;refine(CS 1<|by exact yP).z ?_;rintro e w1 ⟨rfl,rfl⟩)|(go_at_call 60;refine(anz (by exact((Fr.refl (λ_=>False) w).drew).logAt HLG id id λ_ _=>id) SN).z ?_;rintro e w2 ⟨v2,S,rfl,jo,bJ,Eu,hS2,hS3,hS4⟩;obtain⟨va,vc,rfl,_⟩:=jg jo;have F2:I (Fr aB w w2):=(eH.drew:Fr aB w w.drew).t bJ dA;have V2:I (bI w2 w.drew.heap.size 3 1 (.slice va (O S) vc) (O S)<|dY S):=jo;have S4:I ((i:Int)∈S↔∃t,p.s.nw i=Y (t,A)):=hS4 i HI;clear jo bJ Eu hS2 hS3 hS4)|(go_at_call 135;fail));by_cases iy:(i:Int)∈S;{have qy:I (decide ((i:Int)∈S)=A):=iC iy;obtain⟨t,xK⟩:=S4.1 iy;have HT:I (p.s.nw i=Y (t,A)):=xK;have Z9:I (eY w2.drew B p.lb p.bm p.v n p.s):=(F2.drew).logAt HLG id id λ_ _=>id;have HH2:I (aG w2.drew B xb n h):=HH.a F2.drew;have k0:au w2 (g,q*2)=Y (ak p.lb):=(F2.cell (p:=(g,q*2)) hg id).t c0;have k1:au w2 (g,q*2+1)=Y (p.out):=(F2.cell (p:=(g,q*2+1)) hg id).t c1;have kt:au w2 (xb,6+i*10+1)=Y (x.t):=(F2.cell (p:=(xb,6+i*10+1)) iZ id).t e1;have JZ:g<w2:=gZ hg F2.size;have aBE:xb<w2:=gZ iZ F2.size;refine(apn V2 i).z ?_;rw[qy];rintro e w3 ⟨rfl,rfl⟩;clear iy xK;by_cases nZ:p.out=A;{rw[nZ]at k1;have aae:I (p.out=A):=nZ;clear nZ;go_wp2_with fail;go_ret;exact .out HT aae F2};(have aae:I (p.out=ah):=by grind);rw[show p.out=ah from aae]at k1;clear nZ;go_wp2_with fail;go_region_held3 (λw'=>au w' ⟨g,q*2,U⟩=Y (ak<|Y ⟨p.lb,0,U⟩)/\au w' ⟨xb,6+i*10+1,U⟩=Y (x.t)) (first|with_reducible exact C4|exact⟨k0,kt⟩|go_keep) ((go_at_call 136;refine(awR (w:=w2.drew) Z9 i x.t ts HI Xl HES).z ?_;rintro e w4 ⟨rfl,v',hl⟩;have bn:=HH2.NL DW Bg (fC n) hl;have L4:I (bW w w4 B xb n h n (h.l9 q ⟨p.lb,p.bm,v',p.s.pW i x.t ts,p.out⟩)/\mP (h.l9 q ⟨p.lb,p.bm,v',p.s.pW i x.t ts,p.out⟩).pl):=⟨bn.1.behind F2.drew,bn.2⟩;have C4:au w4 ⟨g,q*2,U⟩=Y (ak<|Y ⟨p.lb,0,U⟩)/\au w4 ⟨xb,6+i*10+1,U⟩=Y (x.t):=⟨(hl.fr.cell (p:=⟨g,q*2,U⟩) JZ HGP).t k0,(hl.fr.cell (p:=⟨xb,6+i*10+1,U⟩) aBE HXP).t kt⟩;have d7:au w4 ⟨xb,6+i*10+7,U⟩=Y (x.si):=L4.1.at_.kK (p:=x) HX 7 _ J;have df:∀o,w4.frozen? ⟨xb,o,U⟩=false:=gJ L4.1.at_.blk;clear hl bn));by_cases hc:p.s.vW i x.t ts=0;{have HC:I (p.s.vW i x.t ts=0):=hc;rw[hc];clear hc;go_wp2_with fail;go_ret;have hx3:(h.l9 q ⟨p.lb,p.bm,v',p.s.pW i x.t ts,p.out⟩).ps[i]? =Y x:=HX;exact .ok HT aae HC (L4.1.t<|L4.1.at_.quiet hx3) L4.2};have HC:I (p.s.vW i x.t ts≠0):=hc;(have FM:(p.s.vW i x.t ts==0)=false:=by simpa using hc);clear hc;go_wp2_with fail;go_ret;exact .bad HT aae HC L4.1 L4.2};have qy:I (decide ((i:Int)∈S)=ah):=jr iy;have HT:I (∀t,p.s.nw i≠Y (t,A)):=(by simp_all);refine(apn V2 i).z ?_;rw[qy];rintro e w3 ⟨rfl,rfl⟩;clear iy;go_wp2_with fail;go_ret;exact .not HT F2
end
end
section
section
variable{w w' B xb n h}
def Iq(k:Int):Int:=min (max k 0) 16
def HS.breaks(h:HS)(k:Int):HS:={h with br:=A,kp:=Iq k}
def HS.ahD{h:HS}(H:O h.ps=6)(k):(h.cells.toArray.setIfInBounds 66 A).setIfInBounds 67 (.int .i64<|Iq k)=(h.breaks k).cells.toArray:=by obtain⟨P,Q,T,K,jv,jb,up,ps,br,kp,pv,pl,fv,fl⟩:=h;obtain⟨⟨e0,t0,s0,a0,b0,c0,d0,x0,y0,z0⟩,⟨e1,t1,s1,a1,b1,c1,d1,x1,y1,z1⟩,⟨e2,t2,s2,a2,b2,c2,d2,x2,y2,z2⟩,⟨e3,t3,s3,a3,b3,c3,d3,x3,y3,z3⟩,⟨e4,t4,s4,a4,b4,c4,d4,x4,y4,z4⟩,⟨e5,t5,s5,a5,b5,c5,d5,x5,y5,z5⟩,rfl⟩:=Ik H;kernel_rfl
def aBF(H:aG w B xb n h)(hu:h.up=ah)(k):aH aj 27 #[ak xb,V Z k] w λr w'=>r=V Z 5/\w=w':=by have c5:=H.cU;rw[hu]at c5;clear H;go_enter func27,ntmps27;go_wp2;go_ret;exact⟨J,J⟩
def aBG(H:aG w B xb n h)(hu:h.up=A)(k):aH aj 27 #[ak xb,V Z k] w λr w'=>r=V Z 0/\bW w w' B xb n h n (h.breaks k):=by have HH:=aQe H;have c5:=H.cU;rw[hu]at c5;have NH:=H.cB;have Xq:=H.cK;have hf:∀o,w.frozen? ⟨xb,o,U⟩=false:=gJ H.blk;(have key:∀{W:ae},W=(aZ w (xb,66) A).setCell (xb,67) (.int .i64<|Iq k)->bW w W B xb n h n (h.breaks k):=λ{W} e=>by (have fr:Fr (λk=>k=xb) w W:=by rw[e];exact((Fr.refl (λk=>k=xb) w).setCell (p:=(xb,66)) (.inl J) _).setCell (p:=(xb,67)) (.inl J) _);refine bW.own fr (HH.put fr ?_ J J J J J J J J HH.h6) λk hk=>hk;rw[e,eX (eX HH.blk 66 _) 67 _,HS.ahD HH.h6]);have HK:I (∀{W:ae},W=(aZ w (xb,66) A).setCell (xb,67) (.int .i64<|Iq k)->bW w W B xb n h n (h.breaks k)):=key;clear H key;go_enter func27,ntmps27;go_wp2;go_ret;exact⟨J,HK J⟩
end
end
section
def aBH:(prog.info? 184).map (λi=>(i.zero,i.size,i.bytes))=(Y<|jf #[V Z 0,V Z 0,V Z 0,V Z 0],4,32):=KG
variable{w:ae}{o n:Nat}{v:ai}{r:Rc}
def aaf{b}(h:w (b,o)=v):b<M (R w):=by rcases YA b _ with H|H;{exact H};simp[World.cell?,Array.getElem?_eq_none H]at h
def aiz{W w3 ob H}(h:(W.drew.alloc ob).grownBy w3 H){g}(hg:g<M (R W))(fE:Y g≠H):w3 (g,o)=W (g,o):=by have h1:=h.block g Xz fE;have h2:(W.drew.alloc ob).heap[g]? =W.heap[g]? :=Below.heap_alloc _ ob g hg;grind[World.cell?_of_block]
def aBI(h:r.Small n):∃t,dQ r=UInt8.ofNat r.k.toNat::UInt8.ofNat r.p.toNat::UInt8.ofNat r.a.toNat::t:=by have⟨k0,k1,p0,p1,a0,a1,m0,m1⟩:=h;refine⟨jE 0 1++jE r.m.toNat 8++jE ((oM<|ji r).2*65536+(oM<|ji r).1).toNat 4,?_⟩;unfold dQ;(conv=>lhs;arg 1;unfold ji);grind[adQ]
def aBJ(h:r.Small n)(hn:n<1000000000000)(rest):numOf (((dQ r++rest).drop 4).take 8)=r.m.toNat:=by (have e:((dQ r++rest).drop 4).take 8=jE r.m.toNat 8:=by unfold dQ ji;simp only[qV,zy,au8,List.drop_zero,jE];simp_all);grind[cases Rc.Small,aop]
def aBK(r rest):Zx (dQ r++rest)=true:=by
 have H:(dQ r++rest).take 12=ji r:=by unfold dQ;grind[Pv]
 have h2:((dQ r++rest).drop 12).take 4=jE (rO<|ji r).toNat 4:=by unfold dQ;rfl
 unfold Zx;rw[H,h2];have iy:=Sl<|ji r;have as0:0<=rO (ji r):=by unfold rO;omega
 have as1:rO (ji r)<4294967296:=by unfold rO;omega
 grind[aop]
theorem Ir(L):(L.flatMap dQ).length=16*O L:=by induction L with|nil=>rfl|cons r L ih=>grind[DR]
def aBL{B L tl}(h:bI w B 5 1 v (L.flatMap dQ++tl).length (gu<|L.flatMap dQ++tl))(ht:O tl<16)(hs:∀r∈L,r.Small n)(hn:n<1000000000000)(hL:O L<100000000000):aH aj 127 #[v] w λe w'=>∃v',e=aU v'/\bI w' w 184 4 v' L (L.flatMap Rc.cs)/\Fr aB w w':=by
 obtain⟨i0,dL,fM,ed,fV⟩:=aQX aBH;obtain⟨va,vc,hv,_⟩:=jR h;have hlen:(L.flatMap dQ++tl).length=16*O L+O tl:=by rw[kZ,Ir]
 obtain⟨Dq,alc⟩:∃Dq,16*O L+O tl=Dq:=⟨_,J⟩;have HS:I (∀r∈L,r.Small n):=hs;have xA:0<Dq->∃g,va=Y ⟨g,0,U⟩/\Dq<=vc/\yV w g 0 (L.flatMap dQ++tl):=λh0=>by obtain⟨g,cap,hg,oI⟩:=KW h (by omega);rw[hv]at hg;simp only[aQQ]at hg;obtain⟨rfl,_,rfl⟩:=hg;rw[hv]at h;exact⟨g,J,by omega,yV.aoF h⟩
 have HM:I (0<Dq->∃g,va=Y ⟨g,0,U⟩/\Dq<=vc/\yV w g 0 (L.flatMap dQ++tl)):=xA;rw[hlen,alc]at hv;subst hv;clear h xA hlen hs;go_enter func127,ntmps127;go_wp2_with fail;go_loopw [0,3] (λb rv w'=>∃(j:Nat) (a:Option Addr) (c:Nat),j<=O L/\b=.slice a (Dq-16*j) c/\(0<Dq-16*j->∃g,a=Y ⟨g,16*j,U⟩/\g<w/\Dq-16*j<=c/\yV w' g (16*j) ((L.drop j).flatMap dQ++tl))/\bI w' w 184 4 rv j ((L.take j).flatMap Rc.cs)/\Fr aB w w') (λb _ _=>adp b);case atStart=>refine⟨0,va,vc,by omega,J,λh0=>?_,aQS _ _ _ _,Fr.refl _ _⟩;obtain⟨g,h1,h2,h3⟩:=HM h0;obtain⟨x,hx⟩:∃x,(L.flatMap dQ++tl)[0]? =Y x:=⟨_,gG (by rw[kZ,Ir];omega)⟩;exact⟨g,h1,aaf<|h3 0 x hx,by omega,by simpa using h3⟩
 case round=>obtain⟨j,a,c,hj,rfl,hB,fD,bT⟩:=hrel;have HF:I (Fr aB w wr):=bT;obtain⟨ra,rc,rfl,_⟩:=jR fD;have HR:I (bI wr w 184 4 (.slice ra j rc) j<|(L.take j).flatMap Rc.cs):=fD;by_cases aO:j<O L;{obtain⟨r,hr⟩:∃r,L[j]? =Y r:=⟨_,gG aO⟩;have H:=HS r<|iO hr;(have hd:L.drop j=r::L.drop (j+1):=by rw[List.drop_eq_getElem_cons aO];grind);(obtain⟨g,rfl,hgw,hc,Oz⟩:=hB<|by omega);rw[hd,Ad,Jd]at Oz;obtain⟨rest,Om⟩:∃rest,(L.drop<|j+1).flatMap dQ++tl=rest:=⟨_,J⟩;rw[Om]at Oz;have HBT:I (yV wr g (16*j)<|dQ r++rest):=Oz;(have rE:(dQ r++rest).length=Dq-16*j:=by rw[kZ,DR,<-Om,kZ,Ir,List.length_drop];omega);(have yl:O rest+16=Dq-16*j:=by rw[<-rE,kZ,DR];omega);have HWH:I (Zx (dQ r++rest)=A):=aBK r rest;(have CB:I (aH aj 177 #[aP (Y ⟨g,16*j,U⟩) (Dq-16*j) c] wr λe w'=>e=A/\Fr aB wr w'):=by have:=azL Oz (by rw[rE];omega) (by rw[rE];exact hc);rw[HWH,rE]at this;exact this);obtain⟨t,aun⟩:=aBI H;rw[aun]at Oz;have b0:=Oz 0 _ J;rw[Rj]at b0;have b1:=Oz 1 _ J;have b2:=Oz 2 _ J;rw[toNat_one (by have:=H.k0;omega) (by have:=H.k1;omega)]at b0;rw[toNat_one (by have:=H.p0;omega) (by have:=H.p1;omega)]at b1;rw[toNat_one (by have:=H.a0;omega) (by have:=H.a1;omega)]at b2;(have HRN:I (r.m=(r.m.toNat:Int)):=by show r.m=(r.m.toNat:Int);have:=H.m0;omega);have aiA:I (yV wr g (16*j+4)<|((dQ r++rest).drop 4).take 8):=HBT.sub 4 8;(have HNL:I ((((dQ r++rest).drop 4).take 8).length=8):=by grind);have Zw:I (numOf (((dQ r++rest).drop 4).take 8)=r.m.toNat):=aBJ H hn rest;have qk:fU Z r.k=r.k:=wrap_i64 (by have:=H.k0;omega) (by have:=H.k1;omega);have qp:fU Z r.p=r.p:=wrap_i64 (by have:=H.p0;omega) (by have:=H.p1;omega);have qa:fU Z r.a=r.a:=wrap_i64 (by have:=H.a0;omega) (by have:=H.a1;omega);have qm:fU Z r.m=r.m:=wrap_i64 (by have:=H.m0;omega) (by have:=H.m1;omega);(have HC2:I (∀W,Fr aB wr W->∀cc,aH aj 178 #[aP (Y ⟨g,16*j+4,U⟩) 8 cc] W λe w'=>e=aU (.int .u64 r.m)/\W=w'):=λW f cc=>by have:=aor (w:=W) (cap:=cc) (λq x hq=>(f.cell (p:=⟨g,16*j+4+q,U⟩) ?_ id).t<|aiA q x hq) (by rw[HNL];decide);{rw[HNL,Zw,<-HRN]at this;exact this};exact aaf<|aiA.o q x hq);(have Bd:I ((L.take<|j+1).flatMap Rc.cs=(L.take j).flatMap Rc.cs++[V Z r.k,V Z r.p,V Z r.a,V Z r.m]):=by show(L.take<|j+1).flatMap Rc.cs=_;rw[uz,hr,Cb,ED];simp[Rc.cs]);(have oI:(16:Int)<=(c:Int):=by omega);(have aOd:(12:Int)<=(c:Int):=by omega);(have aMD:¬c=4:=by omega);obtain⟨nn,Ha⟩:∃nn,Dq-16*j=nn:=⟨_,J⟩;have SN:I (Dq-16*j=nn):=Ha;rw[Ha]at CB hc yl⊢;(have hn0:0<nn:=by omega);(have aME:(0:Int)<nn:=by omega);(have uU:(1:Int)<nn:=by omega);(have uV:(2:Int)<nn:=by omega);(have aOf:(16:Int)<=nn:=by omega);clear Oz hB bT fD hd aun rE aiA HNL Zw HWH Ha;go_wp2_with (go_at_call 177;(with_reducible refine CB.o.z ?_);rintro e w1 ⟨rfl,aI⟩;have F1:I (Fr aB wr w1):=aI;have AP:g<w1:=gZ (aaf b0) aI.size;have aeb:∀o,Y (Addr.block ⟨g,o,U⟩)≠Value.ownBlock (.slice ra j rc):=λo e=>by{have:=(HR.o.lt g e.s).1;omega};have hgr:g<wr:=aaf b0;have hz:w<=M (R w1):=dX HF.o.size aI.size;have d0:=(aI.cell (p:=⟨g,16*j,U⟩) hgr id).t b0;have d1:=(aI.cell (p:=⟨g,16*j+1,U⟩) hgr id).t b1;have d2:=(aI.cell (p:=⟨g,16*j+2,U⟩) hgr id).t b2;clear aI b0 b1 b2);have HQ:I (∀w3,(w1.drew.alloc<|aC #[r.k,r.p,r.a,V Z r.m] 184).grownBy w3 (Value.ownBlock<|.slice ra j rc)->au w3 ⟨g,16*j,U⟩=Y (.int .u8 r.k)/\au w3 ⟨g,16*j+1,U⟩=Y (.int .u8 r.p)/\au w3 ⟨g,16*j+2,U⟩=Y (.int .u8 r.a)):=λw3 hg=>⟨(aiz hg AP<|aeb 0).t d0,(aiz hg AP<|aeb 0).t d1,(aiz hg AP<|aeb 0).t d2⟩;go_region_held3 (λw'=>au w' ⟨g,16*j,U⟩=Y (.int .u8 r.k)/\au w' ⟨g,16*j+1,U⟩=Y (.int .u8 r.p)/\au w' ⟨g,16*j+2,U⟩=Y (.int .u8 r.a)) (first|with_reducible exact⟨d0,d1,d2⟩|with_reducible exact Q|go_keep) (first|(go_at_call 178;refine(HC2.o w1.drew F1.o.drew _).z ?_;rintro e w2 ⟨rfl,rfl⟩)|(refine aRd _ (by rfl) _ _ _ (by rfl) w 184 i0 _ 4 32 underlying190 dL fM ed fV J (by omega) (.slice ra j rc) j ((L.take j).flatMap Rc.cs) (by rfl) ((F1.o.drew.alloc _).ownsRow HR.o λ_ _=>id) ⟨M (R w1),0,U⟩ 1 1 [r.k,r.p,r.a,r.m] (by rfl) (by rfl) (World.news_of_block (cs:=#[r.k,r.p,r.a,r.m]) (t:=184) (fr:=(0,0))<|heap_alloc_new _ _) (by simp[Value.oneCell']) (by omega) (by simp only[cZ];omega) (by omega) (by simp<;>omega) (w1+1) (by simp) ?_;intro gg cap w3 fK oz dR mW;have Q:=HQ.o w3 oz));go_wp2_with fail;go_roundw;(case rel=>have Ha:=SN.o;have iL:Fr (λx=>Value.ownBlock (.slice ra j rc)=Y x) wr w3:=((F1.o.drew.alloc _).z dA:Fr (λx=>Value.ownBlock (.slice ra j rc)=Y x) wr _).grown oz λx ex=>.inl ex;refine⟨j+1,_,_,by omega,by rw[show Dq-16*(j+1)=nn-16 by omega],λh0=>⟨g,?_,hgw,by omega,λq x hq=>?_⟩,?_,HF.o.t iL λx hx=>.inr (HR.o.lt x hx).1⟩;{rw[if_neg<|by omega];rfl};{rw[Om]at hq;have h1:=HBT.o (16+q) x (by rw[OJ (by rw[DR];omega),DR,Nat.add_sub_cancel_left];exact hq);rw[show 16*(j+1)+q=16*j+(16+q)by omega];exact(World.cell?_of_block<|iL.block g (aaf h1) λe=>aeb 0 e.s).t h1};rw[Bd.o];exact fK);case measure=>simp[adp]<;>omega};(have HJ:I (j=O L):=by show j=O L;omega);obtain⟨nn,hnq⟩:∃nn,Dq-16*j=nn:=⟨_,J⟩;(have Ha:nn<16:=by omega);rw[hnq];(have HT:I (L.take j=L):=xN<|by omega);have CB:I (aH aj 177 #[.slice a nn c] wr λe w'=>e=ah/\Fr aB wr w'):=azK wr a Ha;clear hB bT fD hnq aO;go_wp2_with (go_at_call 177;(with_reducible refine CB.o.z ?_);rintro e w1 ⟨rfl,aI⟩;have F1:I (Fr aB wr w1):=aI;clear aI);go_ret;refine⟨_,J,?_,HF.o.t F1.o dA⟩;have:=F1.o.ownsRow HR.o λ_ _=>id;rw[HT.o]at this;rw[<-HJ.o];exact this
end
section
def aBN{w:ae}{B:Nat}{ty:dB}{a:Option Addr}{n cap m:Nat}{xs:List ai}(h:bI w B ty 1 (.slice a n cap) n xs)(hm:m<=n):bI w B ty 1 (.slice a m cap) m (xs.take m):=by refine⟨by rw[Rh,h.1];omega,?_⟩;rcases h.2 with⟨hv,h0⟩|⟨g,c,cur,hv,hb,hg,h1,h2,h3,h4⟩;{simp only[aQQ]at hv;obtain⟨rfl,_,rfl⟩:=hv;exact .inl ⟨by rw[show m=0 by omega],by omega⟩};simp only[aQQ]at hv;obtain⟨rfl,_,rfl⟩:=hv;refine .inr ⟨g,cap,cur,J,hb,hg,by omega,h2,h3,?_⟩;rw[<-h4,List.take_take];congr 1;omega
def aBO{w:ae}{B g n cap:Nat}{l:List Rc}(h:bI w B 184 4 (aP (Y ⟨g,0,U⟩) n cap) (O l) (l.flatMap Rc.cs)){k:Nat}{e:Rc}(hk:l[k]? =Y e):w.cell? ⟨g,k*4,U⟩=Y (V Z e.k)/\au w ⟨g,k*4+1,U⟩=Y (V Z e.p)/\au w ⟨g,k*4+2,U⟩=Y (V Z e.a)/\au w ⟨g,k*4+3,U⟩=Y (V Z e.m):=by have hc:=h.cells (g:=g) J;(have key:∀j u,j<4->e.cs[j]? =Y u->au w ⟨g,k*4+j,U⟩=Y u:=λj u hj hu=>by have:=hc (k*4+j) u<|(ahw l k e j hk hj).t hu;rw[Addr.add_lit]at this;simpa using this);exact⟨key 0 _ (by omega) J,key 1 _ (by omega) J,key 2 _ (by omega) J,key 3 _ (by omega) J⟩
section
variable{w w':ae}{B xb n:Nat}{h:HS}
def HS.mid(h:HS)(jv:ai)(L:List Rc)(j:Nat):HS:={h with jv:=jv,jb:=gu<|L.flatMap dQ,ps:=replay<|L.take j}
def HS.PH(h:HS)(jv:ai)(L:List Rc):HS:={h with jv:=jv,jb:=gu<|L.flatMap dQ,ps:=replay L,up:=A}
variable{i b:Nat}{x:PS}
def aBP(h:HS)(jv:ai){L:List Rc}{j:Nat}{r:Rc}(hr:L[j]? =Y r)(hi:r.p=i)(hx:(replay<|L.take j)[i]? =Y x):h.mid jv L (j+1)=(h.mid jv L j).gq i (x.gY r):=by
 have e:r.p.toNat=i:=by omega
 have:replay (L.take<|j+1)=(replay<|L.take j).set i (x.gY r):=by rw[uz,hr,Cb,aos];unfold mQ;rw[e];simp[List.getD,hx]
 unfold HS.mid HS.gq;simp only[this]
def aBQ{w3:ae}{db kb:Nat}(hb:w3.heap[db]? =Y (.cells (xX kb) 193 (0,0))):w3.cell? ⟨db,1,U⟩=Y (.func (.func 179) #[] #[ak<|Y ⟨kb,0,U⟩])/\au w3 ⟨db,2,U⟩=Y (.func (.func 180) #[] #[ak<|Y ⟨kb,0,U⟩])/\au w3 ⟨db,3,U⟩=Y (.func (.func 181) #[] #[ak<|Y ⟨kb,0,U⟩])/\au w3 ⟨db,4,U⟩=Y (.func (.func 182) #[] #[ak<|Y ⟨kb,0,U⟩]):=by refine⟨?_,?_,?_,?_⟩<;>(rw[aJ hb];rfl)
def aBR(hh:aG w B xb n h)(hb:Bj w b xb)(hi:i<6)(hx:h.ps[i]? =Y x)(a m:Int):
 aH aj 179 #[jf #[V Z 1,V Z i,V Z a,V Z m],ak<|Y ⟨b,0,U⟩] w λe w'=>e=aU (dZ #[])/\aG w' B xb n (h.gq i<|x.gY ⟨1,i,a,m⟩)/\Fr (λk=>k=xb) w w':=by
 have:=aoy hh hb hi hx 1 a m;rw[show x.gY ⟨1,i,a,m⟩={x with e:=m}by simp[PS.gY]];exact this
def aBS(hh:aG w B xb n h){q:Nat}(hb:Bj w b xb)(hi:i<6)(hq:q<4)(hx:h.ps[i]? =Y x)(m:Int):
 aH aj 180 #[jf #[V Z 2,V Z i,V Z q,V Z m],ak<|Y ⟨b,0,U⟩] w λe w'=>e=aU (dZ #[])/\aG w' B xb n (h.gq i<|x.gY ⟨2,i,q,m⟩)/\Fr (λk=>k=xb) w w':=by
 have:=aoz hh hb hi hq hx 2 m;rw[show x.gY ⟨2,i,q,m⟩=(({x with s:=1,t:=m}:PS).tie q 1)by simp[PS.gY]];exact this
def aBT(hh:aG w B xb n h)(hb:Bj w b xb)(hi:i<6)(hx:h.ps[i]? =Y x)(m:Int){a:Int}(ha:a=0\/a=1):
 aH aj 181 #[jf #[V Z 3,V Z i,V Z a,V Z m],ak<|Y ⟨b,0,U⟩] w λe w'=>e=aU (dZ #[])/\aG w' B xb n (h.gq i<|x.gY ⟨3,i,a,m⟩)/\Fr (λk=>k=xb) w w':=by
 have key:∀(c:Bool) (s':Int),a=(if c then 1 else 0)->s'=(if c then 2 else 3)->x.gY ⟨3,i,a,m⟩={({x with s:=s'}:PS).pend (dH x.bU 1 4)with wa:=1,ga:=1}:=λc s' h1 h2=>by
  have e1:dH x.bU 1 4=dH ({x with s:=s'}:PS).bU 1 4:=J;rw[e1,aoJ];cases c
  ·simp only[kG,↓reduceIte]at h1 h2;simp[PS.gY,h1,h2]
  ·simp only[↓reduceIte]at h1 h2;simp[PS.gY,h1,h2]
 rcases ha with ha|ha
 ·rw[key ah 3 (by simpa using ha) rfl];exact ahR hh hb hi hx 3 m (c:=ah) (by simpa using ha) J
 ·rw[key A 2 (by simpa using ha) rfl];exact ahR hh hb hi hx 3 m (c:=A) (by simpa using ha) J
def aBU(hh:aG w B xb n h)(hb:Bj w b xb)(hi:i<6)(hx:h.ps[i]? =Y x)(a m:Int):aH aj 182 #[jf #[V Z 4,V Z i,V Z a,V Z m],ak<|Y ⟨b,0,U⟩] w λe w'=>e=aU (dZ #[])/\aG w' B xb n (h.gq i<|x.gY ⟨4,i,a,m⟩)/\Fr (λk=>k=xb) w w':=by have:=aoC hh hb hi hx 4 a m;rw[show x.gY ⟨4,i,a,m⟩=⟨x.e,x.t,0,0,0,0,0,0,0,0⟩by simp[PS.gY]];exact this
def aG.cut(hh:aG w B xb n h){jv:ai}{jb:List ai}(fD:bI w B 5 1 jv (O jb) jb)(fE:dw jv≠Y xb):
 aG (aZ w ⟨xb,4,U⟩ jv) B xb n {h with jv:=jv,jb:=jb}/\Fr (λk=>k=xb) w (aZ w ⟨xb,4,U⟩ jv):=by
 have fs:Fr (λq=>q=xb) w (aZ w ⟨xb,4,U⟩ jv):=(Fr.refl (λq=>q=xb) w).setCell (p:=⟨xb,4,U⟩) (.inl J) _;refine⟨⟨?_,fs.ownsRow fD (λq hq e=>fE<|by rw[hq,e]),fs.ownsRow hh.qK (λk hk e=>hh.ahq (by subst e;exact hk)),fs.ownsRow hh.tC (λk hk e=>hh.ahr (by subst e;exact hk)),λp hp=>(hh.dO p hp).stay fs (λk e hf=>hh.RU hp (by subst e;exact hf)),hh.hx,hh.hP,hh.hQ,hh.h6⟩,fs⟩;rw[eX hh.blk];have:=h.aoI jv [];rw[this];rfl
structure aec(h:HS)(L:List Rc)(tl:List UInt8):Prop where
 jb:h.jb=gu (L.flatMap dQ++tl)
 tl:O tl<16
 small:∃m,m<1000000000000/\∀r∈L,r.Small m
 end_:∀r∈L,r.k=3->r.a=0\/r.a=1
 ny:O L<100000000000
def aBV(hh:aG w B xb n h)(hz:h.ps=ET){L:List Rc}{tl:List UInt8}(hJ:aec h L tl):
 aH aj 68 #[ak<|Y ⟨xb,4,U⟩] w λr w'=>r=aU (dZ #[])/\∃jv,aG w' B xb n (h.PH jv L)/\Fr (λk=>k=xb) w w'/\dw jv=h.jv.ownBlock:=by
 have HH:I (aG w B xb n h):=hh;have HJ:I (aec h L tl):=hJ;have HZ:I (h.ps=ET):=hz;obtain⟨m,xG,uy⟩:=hJ.small;have Sv:I (∀r∈L,r.Small m):=uy;have c4:=hh.cJ;have c5:=hh.cU;obtain⟨ja,jc,hj,Dj⟩:=jR hh.pG;have hjb:O h.jb=(L.flatMap dQ++tl).length:=by rw[hJ.jb,Jv]
 have hlen:(L.flatMap dQ++tl).length=16*O L+O tl:=by rw[kZ,Ir]
 have fD:=hh.pG;rw[hj]at c4 fD;rw[hjb,hlen]at c4 fD hj;rw[hJ.jb]at fD;have yU:I (bI w B 5 1 (.slice ja (16*O L+O tl) jc) (16*O L+O tl)<|gu<|L.flatMap dQ++tl):=fD;have HJV:I (h.jv=.slice ja (16*O L+O tl) jc):=hj;have HWH:I (aH aj 127 #[.slice ja (16*O L+O tl) jc] w λe w'=>∃v',e=aU v'/\bI w' (M (R w)) 184 4 v' (O L) (L.flatMap Rc.cs)/\Fr aB w w'):=aBL (L:=L) (tl:=tl) (by rw[hlen];exact fD) hJ.tl uy xG hJ.ny;have oI:16*O L+O tl<=jc:=by
  rcases fD.2 with⟨hv,h0⟩|⟨g,cap,cur,hv,_,_,h1,_⟩
  ·omega
  ·simp only[aQQ]at hv;omega
 have aO:=bF hh.blk;have hLf:=hJ.ny;have aMG:(O L:Int)*16<=(jc:Int):=by omega
 clear hh hJ hz fD hj hjb hlen uy;cases ja;all_goals
  go_enter func68,ntmps68
  go_wp2_with (first
   |(go_at_call 127;refine HWH.o.z ?_;rintro e w1 ⟨v1,rfl,bV,aI⟩
     obtain⟨ra,rc,rfl,yl⟩:=jR bV
     have V1:I (bI w1 (M (R w)) 184 4 (.slice ra (O L) rc) (O L)<|L.flatMap Rc.cs):=bV
     have F1:I (Fr aB w w1):=aI
     have B1:I (w1.heap[xb]? =Y (.cells h.cells.toArray 111 (0,0))):=(aI.block xb aO id).t HH.o.blk
     have d4:=(aI.cell (p:=⟨xb,4,U⟩) aO id).t c4
     have d5:au w1 ⟨xb,5,U⟩=Y (aA h.up):=(aI.cell (p:=⟨xb,5,U⟩) aO id).t c5
     have df:∀o,w1.frozen? ⟨xb,o,U⟩=false:=gJ B1.o
     have ed:xb<M (R w1):=gZ aO aI.size
     have hzw:M (R w)<=M (R w1):=aI.size
     clear aI bV))
  generalize hjv:Value.slice _ (O L*16) jc=jv
  have hcut:aG (aZ w1 ⟨xb,4,U⟩ jv) B xb n {h with jv:=jv,jb:=gu<|L.flatMap dQ}/\Fr (λk=>k=xb) w1 (aZ w1 ⟨xb,4,U⟩ jv):=by
   have hr:=aBN (F1.o.ownsRow yU.o λ_ _=>id) (m:=O L*16) (by omega);have et:(gu<|L.flatMap dQ++tl).take (O L*16)=gu (L.flatMap dQ):=by
    rw[adP,List.take_left' (by rw[Jv,Ir];omega)]
   rw[et,hjv]at hr;refine(HH.o.a F1.o).cut (by rw[Jv,Ir,Nat.mul_comm];exact hr) λe=>?_;have t1:=ig hr e;rw[lM B1.o]at t1;cases t1
  have HOB:I (dw jv=h.jv.ownBlock):=by show jv.ownBlock=h.jv.ownBlock;rw[<-hjv,HJV.o];rfl
  have J3:I (aG (aZ w1 ⟨xb,4,U⟩ jv) B xb n<|h.mid jv L 0):=by
   have e0:h.mid jv L 0={h with jv:=jv,jb:=gu<|L.flatMap dQ}:=by
    unfold HS.mid;rw[al1,show replay []=h.ps from HZ.o.s]
   show aG _ _ _ _ _;rw[e0];exact hcut.1
  have FW1:I (Fr (λk=>k=xb) w<|w1.setCell ⟨xb,4,U⟩ jv):=(F1.o.z dA:Fr (λk=>k=xb) w w1).t hcut.2 λ_ e=>.inl e
  have VW1:I ((aZ w1 ⟨xb,4,U⟩ jv).ownsRow (M (R w)) 184 4 (.slice ra (O L) rc) (O L)<|L.flatMap Rc.cs):=hcut.2.ownsRow V1.o (λq hq e=>by have:=(V1.o.lt q hq).1;omega)
  generalize w1.setCell ⟨xb,4,U⟩ jv=W1 at J3 FW1 VW1⊢
  clear hcut d4 d5 df hjv
  have mV:xb<M (R W1):=gZ aO FW1.o.size
  refine(Xi (w:=W1) _).z ?_
  rintro e w2 ⟨rfl,kE,bJ⟩
  have KB2:I (Bj w2 (M (R W1)) xb):=kE
  have S2:I (Fr aB W1 w2):=bJ
  have T2:I ((w2.alloc<|aC #[.nilFunc,.nilFunc,.nilFunc,.nilFunc,.nilFunc] 193).there (M (R w2)) 0 5):=adx (heap_alloc_new _ _)<|by simp
  clear kE bJ
  go_wp2_with (first
   |(refine aRE J 193 _ _ J (M (R w2)) 0 (xX (M (R W1))) J J T2.o adC (by simp[xX,Value.oneCell']) ?_
     have hW:Fr aB w2 _:=Fr.setCells (S:=λ_=>False) (b:=M (R w2)) (.inr<|fC _) (xX (M (R W1))).toList 0<|(Fr.refl (λ_=>False) w2).alloc<|aC #[.nilFunc,.nilFunc,.nilFunc,.nilFunc,.nilFunc] 193
     have hD:=Xg (xX (M (R W1))).toList 0<|heap_alloc_new w2<|aC #[.nilFunc,.nilFunc,.nilFunc,.nilFunc,.nilFunc] 193
     generalize((w2.alloc<|aC #[.nilFunc,.nilFunc,.nilFunc,.nilFunc,.nilFunc] 193).setCells (M (R w2)) 0 (xX (M (R W1))).toList)=w3 at hW hD⊢
     have S3:I (Fr aB W1 w3):=S2.o.t hW dA
     have KB3:I (Bj w3 (M (R W1)) xb):=(hW.block _ (bF KB2.o) id).t KB2.o
     have D3:I (w3.heap[M (R w2)]? =Y (.cells (xX (M (R W1))) 193 (0,0))):=hD
     have H3:I (aG w3 B xb n<|h.mid jv L 0):=J3.o.a S3.o
     have V3:I (bI w3 (M (R w)) 184 4 (.slice ra (O L) rc) (O L)<|L.flatMap Rc.cs):=S3.o.ownsRow VW1.o λ_ _=>id
     have aMH:xb<M (R w2):=gZ mV S2.o.size
     clear hW hD))
  go_loopw [26] (λii w'=>∃j:Nat,j<=O L/\ii=V Z j/\aG w' B xb n (h.mid jv L j)/\Fr (λk=>k=xb) w3 w') (λii _=>(O L-bM ii).toNat)
  case atStart=>exact⟨0,by omega,J,H3.o,Fr.refl _ _⟩
  case round=>
   obtain⟨j,hj,rfl,dR,bT⟩:=hrel
   have HR:I (aG wr B xb n<|h.mid jv L j):=dR
   have FR:I (Fr (λk=>k=xb) w3 wr):=bT
   have rf:∀o,wr.frozen? ⟨xb,o,U⟩=false:=gJ dR.blk
   have r5:au wr ⟨xb,5,U⟩=Y (aA h.up):=dR.cU
   by_cases jD:j<O L
   ·obtain⟨r,hr⟩:∃r,L[j]? =Y r:=⟨_,gG jD⟩
    have fD:=bT.ownsRow V3.o (λk hk e=>by have:=(V3.o.lt k hk).1;omega)
    obtain⟨g,gc,xB,_⟩:=KW fD<|by omega
    simp only[aQQ]at xB
    obtain⟨rfl,_,rfl⟩:=xB
    obtain⟨r0,r1,r2,r3⟩:=aBO fD hr
    have PI:=Sv.o r<|iO hr
    have her:=HJ.o.end_ r<|iO hr
    obtain⟨i,hi⟩:=lW PI.p0
    have kM:i<6:=by have:=PI.p1;omega
    obtain⟨x,hx⟩:∃x,(replay<|L.take j)[i]? =Y x:=⟨_,gG (by rw[aot];exact kM)⟩
    have Dt:=aBP h jv hr hi hx
    have HX:I ((h.mid jv L j).ps[i]? =Y x):=hx
    have hdb:M (R w2)<M (R wr):=gZ (bF D3.o) bT.size
    have apw:=(bT.block _ (bF D3.o)<|by omega).t D3.o
    have afA:Bj wr (M (R W1)) xb:=(bT.block _ (bF KB3.o)<|by omega).t KB3.o
    have HKB:I (Bj wr (M (R W1)) xb):=afA
    have dc:=aBQ apw
    have hxr:xb<M (R wr):=bF dR.blk
    obtain⟨kk,p,a,mm⟩:=r
    simp only at hi
    subst hi
    have HMS:I (h.mid jv L (j+1)=(h.mid jv L j).gq i (x.gY ⟨kk,i,a,mm⟩)):=Dt
    have FB:=PI.k0
    have aX:=PI.k1
    have ha0:0<=a:=PI.a0
    have uf:a<4:=PI.a1
    simp only at FB aX r0 r1 r2 r3 her
    have hj0:(0:Int)<=(j:Int):=by omega
    have zg:(j:Int)<O L:=by omega
    have HHB:I (aG (wr.alloc<|aC #[V Z kk,V Z i,V Z a,V Z mm] 184).drew B xb n<|h.mid jv L j):=dR.a (aQ _).drew
    have afB:I (Bj (wr.alloc<|aC #[V Z kk,V Z i,V Z a,V Z mm] 184).drew (M (R W1)) xb):=((aQ _).drew.block _ (bF afA) id).t afA
    have BXC:I (∀(c:Nat) {v:ai},au wr ⟨M (R w2),c,U⟩=Y v->(wr.alloc<|aC #[V Z kk,V Z i,V Z a,V Z mm] 184).cell? ⟨M (R wr),0,U⟩=Y (V Z kk)/\(wr.alloc<|aC #[V Z kk,V Z i,V Z a,V Z mm] 184).cell? ⟨M (R wr),1,U⟩=Y (V Z i)/\(wr.alloc<|aC #[V Z kk,V Z i,V Z a,V Z mm] 184).cell? ⟨M (R wr),2,U⟩=Y (V Z a)/\(wr.alloc<|aC #[V Z kk,V Z i,V Z a,V Z mm] 184).cell? ⟨M (R wr),3,U⟩=Y (V Z mm)/\(wr.alloc<|aC #[V Z kk,V Z i,V Z a,V Z mm] 184).cell? ⟨M (R w2),c,U⟩=Y v):=λc v hv=>
     ⟨aJ (heap_alloc_new _ _) 0,aJ (heap_alloc_new _ _) 1,aJ (heap_alloc_new _ _) 2,aJ (heap_alloc_new _ _) 3,((aQ _).cell (p:=⟨M (R w2),c,U⟩) hdb id).t hv⟩
    have BXK:I (∀(c:Nat) {v:ai} (w5:ae),au wr ⟨M (R w2),c,U⟩=Y v->Fr (λk=>k=xb) (wr.alloc<|aC #[V Z kk,V Z i,V Z a,V Z mm] 184).drew w5->au w5 ⟨M (R wr),0,U⟩=Y (V Z kk)/\au w5 ⟨M (R wr),1,U⟩=Y (V Z i)/\au w5 ⟨M (R wr),2,U⟩=Y (V Z a)/\au w5 ⟨M (R wr),3,U⟩=Y (V Z mm)/\au w5 ⟨M (R w2),c,U⟩=Y v):=λc v w5 hv f5=>by
     have MH:=(f5.block (M (R wr)) (by simp)<|by omega).t<|heap_alloc_new wr<|aC #[V Z kk,V Z i,V Z a,V Z mm] 184;exact⟨aJ MH 0,aJ MH 1,aJ MH 2,aJ MH 3,(f5.cell (p:=⟨M (R w2),c,U⟩) (by simp<;>omega) (by simp<;>omega)).t<|((aQ _).cell (p:=⟨M (R w2),c,U⟩) hdb id).t hv⟩
    clear fD dR bT hr hx Dt apw afA PI
    rcases(show kk=1\/kk=2\/kk=3\/kk=4 by omega)with hk|hk|hk|hk
    ·skip
     subst hk
     have FO:=dc.1
     go_wp2_with fail
     go_region_held3 (λw'=>au w' ⟨M (R wr),0,U⟩=Y (V Z 1)/\au w' ⟨M (R wr),1,U⟩=Y (V Z i)/\au w' ⟨M (R wr),2,U⟩=Y (V Z a)/\au w' ⟨M (R wr),3,U⟩=Y (V Z mm)/\au w' ⟨M (R w2),1,U⟩=Y (.func (.func 179) #[] #[ak<|Y ⟨M (R W1),0,U⟩]))
      (first|with_reducible exact C5|exact BXC.o 1 FO|go_keep)
      ((go_at_call 179;refine(aBR HHB.o afB.o kM HX.o a mm).z ?_;rintro e w5 ⟨rfl,h5,Ew⟩
        have H5:I (aG w5 B xb n<|h.mid jv L<|j+1):=(HMS.o▸h5)
        have F5:I (Fr (λk=>k=xb) wr w5):=((aQ _).drew.z dA:Fr (λk=>k=xb) wr _).t Ew λ_ e=>.inl e
        have C5:=BXK.o 1 w5 FO Ew
        clear h5 Ew))
     go_wp2_with fail
     go_roundw
     case rel=>exact⟨j+1,by omega,by go_num,H5.o,FR.o.t F5.o λ_ e=>.inl e⟩
     case measure=>simp[bM]<;>omega
    ·skip
     subst hk
     obtain⟨q,hq⟩:=lW ha0
     subst hq
     have jP:q<4:=by omega
     have FO:=dc.2.1
     go_wp2_with fail
     go_region_held3 (λw'=>au w' ⟨M (R wr),0,U⟩=Y (V Z 2)/\au w' ⟨M (R wr),1,U⟩=Y (V Z i)/\au w' ⟨M (R wr),2,U⟩=Y (V Z q)/\au w' ⟨M (R wr),3,U⟩=Y (V Z mm)/\au w' ⟨M (R w2),2,U⟩=Y (.func (.func 180) #[] #[ak<|Y ⟨M (R W1),0,U⟩]))
      (first|with_reducible exact C5|exact BXC.o 2 FO|go_keep)
      ((go_at_call 180;refine(aBS HHB.o afB.o kM jP HX.o mm).z ?_;rintro e w5 ⟨rfl,h5,Ew⟩
        have H5:I (aG w5 B xb n<|h.mid jv L<|j+1):=(HMS.o▸h5)
        have F5:I (Fr (λk=>k=xb) wr w5):=((aQ _).drew.z dA:Fr (λk=>k=xb) wr _).t Ew λ_ e=>.inl e
        have C5:=BXK.o 2 w5 FO Ew
        clear h5 Ew))
     go_wp2_with fail
     go_roundw
     case rel=>exact⟨j+1,by omega,by go_num,H5.o,FR.o.t F5.o λ_ e=>.inl e⟩
     case measure=>simp[bM]<;>omega
    ·skip
     subst hk
     have HER:I (a=0\/a=1):=her J
     have FO:=dc.2.2.1
     go_wp2_with fail
     go_region_held3 (λw'=>au w' ⟨M (R wr),0,U⟩=Y (V Z 3)/\au w' ⟨M (R wr),1,U⟩=Y (V Z i)/\au w' ⟨M (R wr),2,U⟩=Y (V Z a)/\au w' ⟨M (R wr),3,U⟩=Y (V Z mm)/\au w' ⟨M (R w2),3,U⟩=Y (.func (.func 181) #[] #[ak<|Y ⟨M (R W1),0,U⟩]))
      (first|with_reducible exact C5|exact BXC.o 3 FO|go_keep)
      ((go_at_call 181;refine(aBT HHB.o afB.o kM HX.o mm HER.o).z ?_;rintro e w5 ⟨rfl,h5,Ew⟩
        have H5:I (aG w5 B xb n<|h.mid jv L<|j+1):=(HMS.o▸h5)
        have F5:I (Fr (λk=>k=xb) wr w5):=((aQ _).drew.z dA:Fr (λk=>k=xb) wr _).t Ew λ_ e=>.inl e
        have C5:=BXK.o 3 w5 FO Ew
        clear h5 Ew))
     go_wp2_with fail
     go_roundw
     case rel=>exact⟨j+1,by omega,by go_num,H5.o,FR.o.t F5.o λ_ e=>.inl e⟩
     case measure=>simp[bM]<;>omega
    ·skip
     subst hk
     have FO:=dc.2.2.2
     go_wp2_with fail
     go_region_held3 (λw'=>au w' ⟨M (R wr),0,U⟩=Y (V Z 4)/\au w' ⟨M (R wr),1,U⟩=Y (V Z i)/\au w' ⟨M (R wr),2,U⟩=Y (V Z a)/\au w' ⟨M (R wr),3,U⟩=Y (V Z mm)/\au w' ⟨M (R w2),4,U⟩=Y (.func (.func 182) #[] #[ak<|Y ⟨M (R W1),0,U⟩]))
      (first|with_reducible exact C5|exact BXC.o 4 FO|go_keep)
      ((go_at_call 182;refine(aBU HHB.o afB.o kM HX.o a mm).z ?_;rintro e w5 ⟨rfl,h5,Ew⟩
        have H5:I (aG w5 B xb n<|h.mid jv L<|j+1):=(HMS.o▸h5)
        have F5:I (Fr (λk=>k=xb) wr w5):=((aQ _).drew.z dA:Fr (λk=>k=xb) wr _).t Ew λ_ e=>.inl e
        have C5:=BXK.o 4 w5 FO Ew
        clear h5 Ew))
     go_wp2_with fail
     go_roundw
     case rel=>exact⟨j+1,by omega,by go_num,H5.o,FR.o.t F5.o λ_ e=>.inl e⟩
     case measure=>simp[bM]<;>omega
   ·have Z4:j=O L:=by omega
    subst Z4
    have HT:I (L.take (O L)=L):=xN<|fC _
    clear dR bT
    go_wp2_with fail
    go_end0
    have fs:Fr (λk=>k=xb) wr (aZ wr ⟨xb,5,U⟩<|aA A):=(Fr.refl (λk=>k=xb) wr).setCell (p:=⟨xb,5,U⟩) (.inl J) _
    refine⟨J,jv,?_,(((FW1.o.t S3.o dA).t FR.o λ_ e=>.inl e).t fs λ_ e=>.inl e),HOB.o⟩
    have e1:h.PH jv L=(h.mid jv L (O L)).Gm:=by unfold HS.PH HS.mid HS.Gm;rw[HT.o]
    rw[e1]
    refine HR.o.put fs ?_ J J J J J J J J HR.o.h6
    rw[eX HR.o.blk,HS.an4]
end
end
section
section
variable{w w':ae}{B xb n:Nat}{h:HS}
def aBZ(hh:aG w B xb n h)(hu:h.up=ah)(hz:h.ps=ET){L tl}(hJ:aec h L tl):aH aj 29 #[ak xb] w λr w'=>r=V Z 0/\∃jv,bW w w' B xb n h n (h.PH jv L):=by have HC:=aQe<|aBV hh hz hJ;have c5:=hh.cU;go_enter func29,ntmps29;go_wp2_with (apply HC.z;rintro e w1 ⟨rfl,jv,h1,h2,h3⟩;have H:I (aG w1 B xb n (h.PH jv L)/\Fr (λk=>k=xb) w w1/\dw jv=h.jv.ownBlock):=⟨h1,h2,h3⟩);go_ret;refine⟨J,jv,bW.own H.2.1 H.1 λk hk=>?_⟩;rcases hk with e|e|e;{exact .inl e};{exact .inr<|.inl<|by rwa[<-H.2.2]};exact .inr<|.inr e
def aB0(l):∀s:ByteArray,((l.map λb=>(b.toNat:Int)).foldl (λr n=>r.push<|UInt8.ofNat n.toNat) s).data.toList=s.data.toList++l:=by induction l with|nil=>grind|cons b l ih=>simp_all
variable{bs:List UInt8}{p:PL}
def aB1{v}(hr:bI w B 5 1 v (gu bs).length (gu bs)):∃s,ou s bs/\(convert 99 9 v).run aj w=.ok s w:=by rcases hr.2 with⟨rfl,h0⟩|⟨g,cap,cur,rfl,_⟩;{(have:bs=[]:=by grind[Jv]);subst this;exact⟨⟨#[]⟩,⟨J,J⟩,ayC w⟩};have hc:=hr.cells J;have hl:=run_loadCells_list (P:=aj) (w:=w) _ _ hc;(have e1:gu bs=(bs.map λb=>(b.toNat:Int)).map (Value.int .u8):=by simp[gu]);refine⟨(bs.map λb=>(b.toNat:Int)).foldl (λr n=>r.push<|UInt8.ofNat n.toNat) ByteArray.empty,?_,?_⟩;{have h1:=aB0 bs ByteArray.empty;(have H:((bs.map λb=>(b.toNat:Int)).foldl (λr n=>r.push<|UInt8.ofNat n.toNat) ByteArray.empty).data.toList=bs:=Y0);refine⟨H,?_⟩;have h3:=jV List.length H;simpa using h3};grind[run_convert_bytes_string,underlying99,underlying5,underlying9,run_bytesToString]
def aB2(hh:aG w B xb n h)(hj:h.jb=gu bs):aH aj 26 #[ak xb] w λr w'=>(∃s,ou s bs/\r=s)/\Fr aB w w':=by have c4:=hh.cJ;have H:=hh.pG;rw[hj]at H;have⟨s,hs,Kr⟩:=aB1 H;have⟨ja,jc,hv,_⟩:=jR H;rw[hv]at c4 Kr;go_wp2;go_ret;exact⟨Y0,Fr.refl _ _⟩
theorem apz:∀(l:List PL) (k:Nat) (p:PL) (o:Bool),l[k]? =Y p->vz (l.set k {p with out:=o})=(vz l).set (k*2+1) (aA o)
 |[],k,p,o,h=>aQB
 |x::r,0,p,o,h=>by
  simp at h;subst h;simp[vz,PL.cs]
 |x::r,k+1,p,o,h=>by
  have:=apz r k p o h;simp only[vz,List.set_cons_succ,Ad]at this⊢
  rw[this,alU _ _ (by simp[PL.cs]<;>omega)];congr 2;simp[PL.cs]<;>omega
theorem mP.out{pl}(h:mP pl){k}(hk:pl[k]? =p)(o):mP (pl.set k {p with out:=o}):=by
 have H:∀{i:Nat} {a:PL},(pl.set k {p with out:=o})[i]? =a->∃a',pl[i]? =Y a'/\a'.lb=a.lb/\a'.bm=a.bm/\a'.v=a.v:=Zv;intro i j a b BN hi hj x h1 h2;have⟨a',ha,e1,e2,e3⟩:=H hi;have⟨b',hb,f1,f2,f3⟩:=H hj;exact h i j a' b' BN ha hb x Zv Zv
def aB3(hh:aG w B xb n h){m:Int}(hm:¬(0<=m/\m<h.pl))(o):aH aj 52 #[ak xb,m,aA o] w λr w'=>r=V Z 3/\w=w':=by have H:=aQe hh;go_enter func52,ntmps52;go_wp2_with (apply(KI H m).z;rintro e w1 ⟨rfl,rfl⟩);go_ret;simp_all
def aB4(H:aG w B xb n h){q:Nat}(hp:h.pl[q]? =p)(o):
 aH aj 52 #[ak xb,q,aA o] w λr w'=>r=V Z 0/\bW w w' B xb n h n (h.l9 q {p with out:=o}):=by
 have HH:=aQe H;have hq:=(kY.1 hp).1;have HM:I (decide (0<=(q:Int)/\(q:Int)<h.pl)=A):=Y0;have HP:=hp;have⟨g,cap,jB,hg,oI,c0,c1⟩:=H.place hp;have PG:=aQe jB;have cV:=H.cV;rw[jB]at cV;have gf:∀o,w.frozen? ⟨g,o,U⟩=false:=by
  grind[cases aG,World.ownsRow.frozenAt]
 have oJ:(0:Int)<=(q:Int):=YV
 have lF:(q:Int)<h.pl:=YV
 clear H hp jB;go_enter func52,ntmps52
 go_wp2_with (go_at_call 50;apply(KI HH q).z;rw[HM];rintro e w1 ⟨rfl,rfl⟩)
 go_ret;have hr:=HH.qK;rw[PG]at hr;have hs:=U7 hr (j:=q*2+1) YV o;have fs:Fr (λk=>h.pv.ownBlock=k) w (aZ w (g,q*2+1) o):=(Fr.refl (λk=>h.pv.ownBlock=k) w).setCell (p:=(g,q*2+1)) (.inl (by rw[PG];rfl)) _;have H:=HH.o;have row:∀{ty:dB} {wd:Nat} {v:ai} {k:Nat} {xs:List ai},bI w B ty wd v k xs->ty≠98->(aZ w (g,q*2+1) o).ownsRow B ty wd v k xs:=λho h5=>fs.ownsRow ho (λq hq e=>by
  have t0:=ig ho hq;grind[ig,cases aG])
 have dR:aG (aZ w (g,q*2+1) o) B xb n (h.l9 q {p with out:=o}):=by
  refine⟨(fs.block xb (bF H.blk) H.ahq).t H.blk,row H.pG Xa,?_,row H.tC Xa,λa ha=>?_,H.hx,H.hP,?_,H.h6⟩
  ·show(aZ w (g,q*2+1) o).ownsRow B 98 2 h.pv (h.pl.set q {p with out:=o}).length (vz<|h.pl.set q {p with out:=o});grind[apz,Hid]
  ·have hm:∃a'∈h.pl,a'.lb=a.lb/\a'.bm=a.bm/\a'.v=a.v/\a'.s=a.s:=by
    rcases au0 ha with e|e
    ·grind
    grind[Hid]
   have⟨a',h1,h2,h3,h4,h5⟩:=hm;rw[<-h2,<-h3,<-h4,<-h5];refine(H.dO a' h1).stay fs λk e hf=>?_;have t0:=ig H.qK e;rcases(H.dO a' h1).tags hf with t1|t1|t1<;>rw[t0]at t1<;>cases t1
  ·show h.Q=((h.pl.set q _).length:Int)/\_;rw[Je];exact H.hQ
 refine⟨J,dR,fs.z (λk e=>.inl<|.inr Zv),λk hk=>?_⟩;rcases hk with e|e|e|e|⟨a,ha,hf⟩
 ·exact .inl<|.inl e
 ·exact .inl<|.inr<|.inl e
 ·exact .inl<|.inr<|.inr<|.inl e
 ·exact .inl<|.inr<|.inr<|.inr<|.inl e
 ·rcases au0 ha with e|e
  ·exact .inl<|.inr Zv
  ·subst e;exact .inl<|.inr aQO
end
end
section
def NP(pl:List PL)(L:List Rc)(P:Int):Prop:=∀(q:Nat) p,pl[q]? =Y p->∀i t,p.s.nw i=(t,A)->0<=i/\i<P/\1<=(aF L i).s/\(aF L i).t=t/\(q:Int)∈(aF L i).ps
structure E5(pl:List PL)(G:List GL)(aPW:List Bool)(N:Nat):Prop where
 len:O pl=O G
 rel:∀(q:Nat) (p:PL) (g:GL),pl[q]? =Y p->G[q]? =Y g->Rel p.s g.L/\O g.L<=N
 out:∀(q:Nat) (p:PL),pl[q]? =Y p->aPW[q]? =Y p.out
structure yD(P Q:Int)(L:List Rc)(m:Ms):Prop where
 k:m.k=1\/m.k=2
 q:0<=m.q/\m.q<Q
 p:0<=m.p/\m.p<P
 t:0<=m.t/\m.t<=(aF L m.p).t
 s:m.t=(aF L m.p).t->(aF L m.p).s≠1
 ps:m.t=(aF L m.p).t->m.q∈(aF L m.p).ps
def AOk(pl:List PL)(m:Ms):Prop:=∀(q:Nat) p,pl[q]? =Y p->m.q=(q:Int)->p.s.nw m.p≠(m.t,A)
def xh(pl:List PL)(P Q:Int)(L:List Rc)(H:List Ms):Prop:=∀m∈H,yD P Q L m/\(m.k=2->AOk pl m)
structure DY(pl:List PL)(L:List Rc)(D:List Du):Prop where
 opn:∀(q:Nat) (p:PL) (i t:Int),pl[q]? =Y p->p.s.nw i=Y (t,A)->2<=(aF L i).s->∃d∈D,d.p=i/\d.q=(q:Int)
 PK:∀i:Int,2<=(aF L i).s->∃d∈D,d.p=i
structure Iu(tm:Int)(x:PS):Prop where
 si:0<=x.si/\x.si<=tm
 wa: -tm<=x.wa/\x.wa<=16
 ga:0<=x.ga/\x.ga<=16
def Gw(tm:Int)(H:List PS):Prop:=∀x∈H,Iu tm x
variable{tm:Int}{x:PS}{ps:List PS}
def Iu.gY(h:Iu tm x)(ht:0<=tm)(r):Iu tm (x.gY r):=by
 unfold PS.gY;split
 ·exact{h with}
 ·split
  ·have⟨_,_,_,H,r5,r6⟩:=Xp ({x with s:=1,t:=r.m}:PS) r.a 1;exact⟨by rw[H];exact h.si,by rw[r5];exact h.wa,by rw[r6];exact h.ga⟩
  ·split
   ·exact⟨h.si,Zv,Zv⟩
   ·exact⟨Zv,Zv,Zv⟩
theorem apA(ht:0<=tm):Iu tm yz:=⟨by simp only[yz];omega,by simp only[yz];omega,by simp only[yz];omega⟩
theorem Gw.set(h:Gw tm ps)(hx:Iu tm x)(i):Gw tm (ps.set i x):=λz H=>by rcases au0 H with H|rfl;{exact h z H};omega
theorem Gw.mQ(h:Gw tm ps)(H:0<=tm)(r):Gw tm (mQ ps r):=by refine h.set (Iu.gY ?_ H r) _;by_cases hl:r.p.toNat<ps;{exact h _ Zv};grind[apA]
def apB(ht:0<=tm):Gw tm ET:=λx H=>by simp only[ET,zA,Dy,DC,or_self]at H;subst H;exact apA ht
def aB5(H:0<=tm)(L):Gw tm (replay L):=by suffices h:∀(L:List Rc) ps,Gw tm ps->Gw tm (L.foldl Go.Proofs.YtkelpcjiediamaaGreat.mQ ps)from h L _ (apB H);intro L;induction L with|nil=>grind|cons r L ih=>grind[Gw.mQ]
structure Core(N:Nat)(h:HS)(y:RS)(tl:List UInt8):Prop where
 P:y.P=h.P
 Q:y.Q=h.Q
 T:y.T=h.T
 K:y.K=h.K
 P1:1<=h.P/\h.P<=6
 Q1:1<=h.Q/\h.Q<=4
 valid:Valid h.P h.Q y.L
 ny:O y.L<=N
 jb:h.jb=gu (y.L.flatMap dQ++tl)
 t16:O tl<16
 qx:ou y.qx tl
 kp:0<=h.kp/\h.kp<=16
 dO:E5 h.pl y.G y.aPW N
 opn:NP h.pl y.L h.P
 fl:h.fl=y.N
 E6:O y.N<=100
 hl:(O y.H:Int)=h.P
 tm:0<=y.tm/\y.tm<=N
 dl:O y.D<=24
 ms:xh h.pl h.P h.Q y.L y.N
 K1:1<=h.K/\h.K<=16
 T1:1<=h.T/\h.T<=50
structure kR(h:HS)(y:RS):Prop where
 up:h.up=A
 dn:y.dn=ah
 br:h.br=y.br
 kp:y.br=A->h.kp=Iq y.kp
 rel:∀(i:Nat) (x:PS) (hi:Int),h.ps[i]? =Y x->y.H[i]? =Y hi->jk (aF y.L i) y.D y.tm hi i x
 dr:∀d∈y.D,0<=d.p/\d.p<h.P
 tie:DY h.pl y.L y.D
 fin:Gw y.tm h.ps
structure aah(h:HS)(y:RS):Prop where
 up:h.up=ah
 dn:y.dn=A
 ps:h.ps=ET
 br:h.br=ah
 yr:y.br=ah
inductive eu(N:Nat)(h:HS)(y:RS):Prop
 |up (c:Core N h y []) (u:kR h y):eu N h y
 |down (tl:List UInt8) (c:Core N h y tl) (d:aah h y):eu N h y
def eu.core{N h y}(k:eu N h y):∃tl,Core N h y tl:=by grind[cases eu]
theorem E5.z{pl G H N aPV}(h:E5 pl G H N)(hM:N<=aPV):E5 pl G H aPV:=
 {h with rel:=(by grind[cases E5])}
theorem Core.z{N aPV h y tl}(c:Core N h y tl)(H:N<=aPV):Core aPV h y tl:=
 {c with ny:=dX c.ny H,dO:=c.dO.z H,tm:=(by grind[cases Core])}
theorem eu.z{N aPV h y}(k:eu N h y)(H:N<=aPV):eu aPV h y:=by cases k with|up c u=>exact .up (c.z H) u|down tl c d=>exact .down tl (c.z H) d
section
variable{N:Nat}{h:HS}{y:RS}{tl:List UInt8}
variable{P Q:Int}{L:List Rc}{r:Rc}
def Valid.end_(hv:Valid P Q L):∀r∈L,r.k=3->r.a=0\/r.a=1:=by induction hv with|nil=>grind| @snoc L r hv hn ih=>grind[cases Next]
def Valid.args(hv:Valid P Q L)(hQ:Q<=4):∀r∈L,0<=r.a/\r.a<=4:=by induction hv with|nil=>grind| @snoc L r hv hn ih=>grind[cases Next]
def Core.pY(c:Core N h y tl)(hN:N<=100000000):y.iH:=by have hs:=c.valid.small c.P1.2 c.Q1.2;have hf:=c.ny;refine⟨(by grind[Rc.Small.ok]),c.valid.args c.Q1.2,YV,by have:=c.dl;omega,by have:=c.tm;omega⟩
theorem Core.may(c:Core N h y [])(hN:N<=100000000)(H:Next h.P h.Q y.L r):qB h r:=by have hs:=H.small c.valid c.P1.2 c.Q1.2;have hf:=c.ny;refine⟨Zv,c.kp,?_,λhk=>?_⟩;{grind[cases Core,Jv,Ir]};grind[cases Next]
theorem Core.ok(c:Core N h y tl)(hN:N<=100000000){r}(H:Next h.P h.Q y.L r):r.Ok:=by have hs:=H.small c.valid c.P1.2 c.Q1.2;grind[cases Core,Rc.Small.ok]
def Core.pG(c:Core N h y tl)(hN:N<=100000000):aec h y.L tl:=have H:=c.valid.small c.P1.2 c.Q1.2;have hf:=c.ny;⟨c.jb,c.t16,⟨y.L,YV,H⟩,c.valid.end_,YV⟩
theorem NP.snoc{pl L P Q r}(ho:NP pl L P)(hn:Next P Q L r)(h4:r.k=4->∀(q:Nat) p,pl[q]? =Y p->∀t,p.s.nw r.p≠Y (t,A)):NP pl (L++[r]) P:=by
 intro q p hp i t hi;have⟨h0,h1,h2,h3,h5⟩:=ho q p hp i t hi;rw[yA];by_cases e:r.p=i
 ·subst e;rcases hn.kind with⟨H,k2,k3⟩|⟨H,k2,k3⟩|⟨H,k2,k3,k4⟩|⟨H,k2,k3,k4⟩
  ·rw[show(aF L _).step _ r={aF L r.p with e:=r.m}by simp[St.step,H]];grind
  ·rw[show(aF L _).step _ r=⟨(aF L r.p).e,r.m,1,(if(aF L r.p).s=0 then[]else(aF L r.p).ps)++[r.a]⟩by simp[St.step,H]];grind
  ·rw[show(aF L _).step _ r={aF L r.p with s:=3-r.a}by simp[St.step,H]];grind
  grind
 grind[St.Jt]
theorem yD.snoc{P Q L r m}(hm:yD P Q L m)(hn:Next P Q L r):yD P Q (L++[r]) m:=by
 have⟨hk,hq,hp,ht,hs,iQ⟩:=hm;by_cases e:r.p=m.p
 ·refine⟨hk,hq,hp,?_,?_,?_⟩<;>rw[yA]<;>rw[<-e]at ht hs iQ⊢
  ·rcases hn.kind with⟨H,k2,k3⟩|⟨H,k2,k3⟩|⟨H,k2,k3,k4⟩|⟨H,k2,k3,k4⟩
   ·rwa[show(aF L _).step _ r={aF L r.p with e:=r.m}by simp[St.step,H]]
   ·rw[show(aF L _).step _ r=⟨(aF L r.p).e,r.m,1,(if(aF L r.p).s=0 then[]else(aF L r.p).ps)++[r.a]⟩by simp[St.step,H]];grind
   ·rwa[show(aF L _).step _ r={aF L r.p with s:=3-r.a}by simp[St.step,H]]
   ·rwa[show(aF L _).step _ r={aF L r.p with s:=0}by simp[St.step,H]]
  ·rcases hn.kind with⟨H,k2,k3⟩|⟨H,k2,k3⟩|⟨H,k2,k3,k4⟩|⟨H,k2,k3,k4⟩
   ·rwa[show(aF L _).step _ r={aF L r.p with e:=r.m}by simp[St.step,H]]
   ·rw[show(aF L _).step _ r=⟨(aF L r.p).e,r.m,1,(if(aF L r.p).s=0 then[]else(aF L r.p).ps)++[r.a]⟩by simp[St.step,H]];grind
   ·rw[show(aF L _).step _ r={aF L r.p with s:=3-r.a}by simp[St.step,H]];grind
   ·rw[show(aF L _).step _ r={aF L r.p with s:=0}by simp[St.step,H]];simp
  ·rcases hn.kind with⟨H,k2,k3⟩|⟨H,k2,k3⟩|⟨H,k2,k3,k4⟩|⟨H,k2,k3,k4⟩
   ·rwa[show(aF L _).step _ r={aF L r.p with e:=r.m}by simp[St.step,H]]
   ·rw[show(aF L _).step _ r=⟨(aF L r.p).e,r.m,1,(if(aF L r.p).s=0 then[]else(aF L r.p).ps)++[r.a]⟩by simp[St.step,H]];grind
   ·rwa[show(aF L _).step _ r={aF L r.p with s:=3-r.a}by simp[St.step,H]]
   ·rwa[show(aF L _).step _ r={aF L r.p with s:=0}by simp[St.step,H]]
 ·refine⟨hk,hq,hp,?_,?_,?_⟩<;>rw[yA,St.Jt _ e]
  ·exact ht
  ·exact hs
  omega
theorem xh.snoc{pl P Q L H r}(hm:xh pl P Q L H)(hn:Next P Q L r):xh pl P Q (L++[r]) H:=λm hx=>⟨(hm m hx).1.snoc hn,(hm m hx).2⟩
theorem DY.snoc{pl L D r}(ht:DY pl L D)(hk:r.k=1\/r.k=2):DY pl (L++[r]) D:=by (have key:∀i,2<=(aF (L++[r]) i).s->2<=(aF L i).s:=λi H=>by rw[yA]at H;by_cases e:r.p=i;{subst e;rcases hk with hk|hk<;>simp[St.step,hk]at H;exact H};grind[St.Jt]);exact⟨(by grind[cases DY]),λi H=>ht.PK i<|key i H⟩
def Valid.parts(hv:Valid P Q L):∀p,(aF L p).s≠0->(aF L p).ps≠[]:=by
 induction hv with
 |nil=>intro p h;exact absurd J h
 | @snoc L r hv hn ih=>
   intro p;rw[yA];by_cases e:r.p=p
   ·subst e;rcases hn.kind with⟨H,k2,k3⟩|⟨H,k2,k3⟩|⟨H,k2,k3,k4⟩|⟨H,k2,k3,k4⟩
    ·rw[show(aF L _).step _ r={aF L r.p with e:=r.m}by simp[St.step,H]];grind
    ·rw[show(aF L _).step _ r=⟨(aF L r.p).e,r.m,1,(if(aF L r.p).s=0 then[]else(aF L r.p).ps)++[r.a]⟩by simp[St.step,H]];simp
    ·rw[show(aF L _).step _ r={aF L r.p with s:=3-r.a}by simp[St.step,H]];grind
    ·rw[show(aF L _).step _ r={aF L r.p with s:=0}by simp[St.step,H]];grind
   grind[St.Jt]
theorem apC{p t q ps}{Q:Nat}(h0:0<=q)(h1:q<(Q:Int))(hq:q∈ps):⟨p,q,t+1,1⟩∈lq p t ps Q:=by obtain⟨k,rfl⟩:=lW h0;exact Dz.2 Zv
def Next.valid(H:Next P Q L r)(hv:Valid P Q L):Valid P Q (L++[r]):=.snoc hv H
def aB6(P:Nat)(D:List Du)(hr:∀d∈D,0<=d.p/\d.p<(P:Int))(H:∀i,i<P->(D.filter λd=>decide<|d.p=(i:Int)).length<=4):D<=4*P:=by induction P generalizing D with|zero=>(cases D with|nil=>simp|cons d D=>have:=hr d Xy;omega)|succ P ih=>(have key:D=(D.filter λd=>decide<|d.p=(P:Int)).length+(D.filter λd=>!decide (d.p=(P:Int))).length:=by rw[<-List.countP_eq_length_filter,<-List.countP_eq_length_filter];rw[List.length_eq_countP_add_countP λd:Du=>decide<|d.p=(P:Int)];grind);have h1:=H P YV;have h2:=ih (D.filter λd=>!decide (d.p=(P:Int))) Zv (λi hi=>by rw[UB];refine dX (MR ?_) (H i YV);grind);omega
def aB7(ts l):(dH ts l 4).length<=4:=Xh ts l 4
end
end
section
section
variable{N:Nat}{h h':HS}{y y':RS}{r:Rc}
def Core.wrote(c:Core N h y [])(H:Next h.P h.Q y.L r)(h4:r.k=4->∀(q:Nat) p,h.pl[q]? =Y p->∀t,p.s.nw r.p≠Y (t,A))(jv lv ps D)(hD:O D<=24)(dv):
 Core (N+1) {h.uk jv (gu<|dQ r)with ps:=ps} ((y.wrote r lv).ik dv D) []:=by
 refine{c with valid:=H.valid c.valid,ny:=?_,jb:=?_,t16:=Xy,dO:=c.dO.z YV,opn:=c.opn.snoc H h4,tm:=⟨c.tm.1,by have:=c.tm.2;show y.tm<=((N+1:Nat):Int);omega⟩,dl:=hD,ms:=c.ms.snoc H}
 ·show(y.L++[r]).length<=N+1;have:=c.ny;grind
 ·show h.jb++gu _=gu ((y.L++[r]).flatMap dQ++[]);grind[cases Core,adP]
def aeh{H}{i:Nat}{x}(hx:(mQ H r)[i]? =Y x)(hp:0<=r.p)(h6:r.p<6)(hl:O H=6):(∃x0,H[i]? =Y x0/\r.p=i/\x=x0.gY r)\/(r.p≠i/\H[i]? =x):=by unfold mQ at hx;grind
def aB8(c:Core N h y [])(u:kR h y)(h6:O h.ps=6)(hn:Next h.P h.Q y.L r)(hk:r.k=1)(ho:jy h r A h')(hy:ni y r A y'):eu (N+1) h' y':=by
 cases ho with
 |ok jv hb=>
  cases hy with
  |ok lv kE=>
   have hc:=c.wrote hn (λe=>YV) jv lv (mQ h.ps r) _ c.dl y.dv;refine .up hc {u with rel:=λi x H hx hh=>?_,tie:=u.tie.snoc hk,fin:=u.fin.mQ c.tm.1 r}
   have lV:=hn.p1;have:=c.P1.2;rcases aeh hx hn.p0 YV h6 with⟨x0,h0,e,rfl⟩|⟨e,h0⟩
   ·have:=(u.rel i x0 H h0 hh).Gn e hk;show jk (aF (y.L++[r]) i) y.D y.tm H i _;rw[yA];omega
   ·have:=(u.rel i x H h0 hh).other e J;show jk (aF (y.L++[r]) i) y.D y.tm H i x;rw[yA];omega
def apD(c:Core N h y [])(ubr:h.br=y.br)(ukp:y.br=A->h.kp=Iq y.kp)(hn:Next h.P h.Q y.L r)(h4:r.k=4->∀(q:Nat) p,h.pl[q]? =Y p->∀t,p.s.nw r.p≠Y (t,A))(ho:jy h r ah h')(hy:ni y r ah y'):eu (N+1) h' y':=by
 cases ho with
 |lC jv hb=>
  have kE:y.br=true:=Zv
  have FI:=ukp kE;cases hy with
  |whole lv iM hk=>
   have e1:h.kp.toNat=16:=by rw[FI];unfold Iq;omega
   have H:=c.wrote hn h4 jv lv h.ps _ c.dl y.dv;refine .down [] ?_ ⟨J,J,J,J,J⟩;refine{c with valid:=H.valid,ny:=H.ny,jb:=?_,t16:=Xy,kp:=by simp[HS.EU],dO:=H.dO,opn:=H.opn,tm:=H.tm,ms:=H.ms}
   rw[e1,xN (by rw[DR];omega)];exact H.jb
  |qx s iM k1 k2 ht=>
   have e1:h.kp.toNat=y.kp.toNat:=by rw[FI];unfold Iq;omega
   have hl:((dQ r).take y.kp.toNat).length<16:=Zv
   refine .down _ {c with ny:=MP c.ny,jb:=?_,t16:=hl,qx:=ht,kp:=by simp[HS.EU],dO:=c.dO.z YV,tm:=⟨c.tm.1,by have:=c.tm.2;show y.tm<=((N+1:Nat):Int);omega⟩} ⟨J,J,J,J,J⟩;show h.jb++gu _=gu (y.L.flatMap dQ++(dQ r).take y.kp.toNat);grind[cases Core,adP]
  |none iM k1=>
   have e1:h.kp.toNat=0:=by rw[FI];unfold Iq;omega
   refine .down [] {c with ny:=MP c.ny,jb:=?_,t16:=Xy,kp:=by simp[HS.EU],dO:=c.dO.z YV,tm:=⟨c.tm.1,by have:=c.tm.2;show y.tm<=((N+1:Nat):Int);omega⟩} ⟨J,J,J,J,J⟩;show h.jb++gu _=gu (y.L.flatMap dQ++[]);rw[e1,c.jb,al1];simp[gu]
theorem aiE(c:Core N h y [])(u:kR h y)(hn:Next h.P h.Q y.L r)(h4:r.k=4->∀(q:Nat) p,h.pl[q]? =Y p->∀t,p.s.nw r.p≠Y (t,A))(H:jy h r ah h')(hy:ni y r ah y'):eu (N+1) h' y':=apD c u.br u.kp hn h4 H hy
def apE(D:List Du)(i j)(BN:i≠j):(D.filter<|Du.stays i<|-1).filter (λd=>decide<|d.p=j)=D.filter (λd=>decide<|d.p=j):=by rw[UB];apply af0;intro d _;by_cases e:d.p=j;{simp[Du.stays,e]<;>omega};grind
def apF(p t j ps k)(hj:p≠j):(lq p t ps k).filter (λd=>decide<|d.p=j)=[]:=by rw[alT];intro d hd;simp only[lq,Dz]at hd;grind
def kR.apG(u:kR h y)(P1:1<=h.P/\h.P<=6)(hl:(y.H:Int)=h.P)(h6:O h.ps=6):O y.D<=24:=by have⟨p,hp⟩:=lW (show 0<=h.P by omega);have:=aB6 p y.D (by grind[cases kR]) (λi hi=>by rw[(u.rel i h.ps[i] y.H[i] Zv Zv).due,OW];exact aB7 _ _);omega
def apH(c:Core N h y [])(u:kR h y)(h6:O h.ps=6){p cm}(hn:Next h.P h.Q y.L (gX y p cm))(ho:jy h (gX y p cm) A h')(hy:Bh y p cm A y'):eu (N+1) h' y':=by
 have⟨Qn,hQn⟩:=lW (show 0<=h.Q by have:=c.Q1;omega);have YP:y.Q.toNat=Qn:=by rw[c.Q];omega
 have Mc:0<=p:=hn.p0;have lV:p<h.P:=hn.p1;have Jy:=c.P1.2;have BU:(gX y p cm).a=0\/(gX y p cm).a=1:=by cases cm<;>simp[gX]
 have Ou:(aF y.L p).s=1:=by
  rcases hn.kind with⟨k1,_⟩|⟨k1,_⟩|⟨_,_,k3,_⟩|⟨k1,_⟩
  ·simp[gX]at k1
  ·simp[gX]at k1
  ·exact k3
  ·simp[gX]at k1
 have aCa:=c.valid.pY p;have aMK:(aF (y.L++[gX y p cm]) p).ps=(aF y.L p).ps:=by
  rw[yA];simp[St.step,gX]
 cases ho with
 |ok jv hb=>
  cases hy with
  |ok lv dv kE=>
   have AV:∀d∈y.Ny p cm,0<=d.p/\d.p<h.P:=λd hd=>by
    rcases yu.1 hd with hd|hd
    ·grind[cases kR]
    ·simp only[lq,Dz]at hd;grind
   have hrel:∀(i:Nat) x hi,(mQ _ _)[i]? =Y x->y.H[i]? =Y hi->jk (aF (y.L++[gX y p cm]) i) (y.Ny p cm) y.tm hi i x:=λi x hi hx hh=>by
    rw[yA];rcases aeh hx hn.p0 (by show p<6;omega) h6 with⟨x0,h0,e,rfl⟩|⟨e,h0⟩
    ·have e':=e;subst e';have:=(u.rel i x0 hi h0 hh).end_ J J BU Ou (Q:=Qn) (by have:=c.Q1.2;omega) (by grind[cases St.iH]);rw[show(aF _ i).step i _=aF _ i from(yA _ _ _).s]at this⊢
     unfold RS.Ny;grind
    ·have e':p≠i:=e;apply(u.rel i x hi h0 hh).other e;unfold RS.Ny;rw[FY,apE _ _ _ e',apF _ _ _ _ _ e',pV]
   have acf:DY h.pl (y.L++[gX y p cm]) (y.Ny p cm):=by
    have iy:∀q,q∈(aF _ p).ps->(⟨p,q,y.tm+1,1⟩:Du)∈y.Ny p cm:=λq hq=>by
     have⟨o6,o7⟩:=aCa.ps _ hq;apply List.mem_append_right _;grind[apC]
    have eF:∀i d,p≠i->d∈y.D->d.p=i->d∈y.Ny p cm:=λi d e hd d1=>
     Yx _ (EE.2 ⟨hd,by simp[Du.stays]<;>omega⟩)
    refine⟨λq a i t ha hi h2=>?_,λi h2=>?_⟩
    ·have⟨_,_,_,_,o5⟩:=c.opn q a ha i t hi;by_cases e:p=i
     ·grind
     ·rw[yA,St.Jt _<|show(gX y p cm).p≠i from e]at h2;grind[DY.opn,cases kR]
    ·by_cases e:p=i
     ·subst e;have⟨q,l,hq⟩:=List.exists_cons_of_ne_nil (c.valid.parts p YV);exact⟨_,iy q (by rw[hq];simp),J⟩
     ·rw[yA,St.Jt _<|show(gX y p cm).p≠i from e]at h2;grind[DY.PK,cases kR]
   have Yj:kR {h.uk jv (gu<|dQ<|gX y p cm)with ps:=mQ h.ps<|gX y p cm} ((y.wrote (gX y p cm) lv).ik dv<|y.Ny p cm):=
    ⟨u.up,u.dn,u.br,u.kp,hrel,AV,acf,u.fin.mQ c.tm.1 _⟩
   have aKp:=Yj.apG c.P1 c.hl (by show(mQ _ _).length=6;simp[mQ,h6]);exact .up (c.wrote hn (λe=>by simp[gX]at e) jv lv _ _ aKp dv) Yj
end
end
section
section
variable{N:Nat}{h:HS}{y:RS}{tl:List UInt8}{r:Rc}
variable{i q:Nat}{pl:List PL}{p p':PL}{g' g:GL}{L:List Rc}{P Q t0 t tm:Int}{D:List Du}{s:aN}{x:PS}{v' u':ai}{ts:ByteArray}
def La{α:Type}{l:List α}{k v a}(hi:(l.set k v)[i]? =Y a):(i=k/\a=v)\/(i≠k/\l[i]? =a):=Zv
theorem E5.set{G H}(l:E5 pl G H N)(hp:pl[q]? =p)(hr:Rel p'.s g'.L)(hl:g'.L<=N+1)(ho:p'.out=p.out):E5 (pl.set q p') (G.set q g') H (N+1):=by refine⟨by grind[cases E5],λj a b ha hb=>?_,λj a ha=>?_⟩;{grind[cases E5]};grind[cases E5]
theorem NP.set(o:NP pl L P)(hn:∀i t,p'.s.nw i=(t,A)->0<=i/\i<P/\1<=(aF L i).s/\(aF L i).t=t/\(q:Int)∈(aF L i).ps):NP (pl.set q p') L P:=by intro j a ha i t hi;rcases La ha with⟨e1,rfl⟩|⟨e1,H⟩;{grind};exact o j a H i t hi
theorem xh.set{H}(hm:xh pl P Q L H)(hp:pl[q]? =p)(ho:∀i t,p'.s.nw i=(t,A)->p.s.nw i=(t,A)\/((aF L i).s=1/\(aF L i).t=t)):xh (pl.set q p') P Q L H:=by intro m hx;refine⟨(hm m hx).1,λh2 j a ha hj hi=>?_⟩;rcases La ha with⟨e1,rfl⟩|⟨e1,ha'⟩;{subst e1;rcases ho _ _ hi with e|⟨e,e2⟩;{exact(hm m hx).2 h2 j p hp hj e};exact(hm m hx).1.s e2.s e};exact(hm m hx).2 h2 j a ha' hj hi
theorem DY.set(H:DY pl L D)(hp:pl[q]? =p)(ho:∀i t,p'.s.nw i=(t,A)->p.s.nw i=Y (t,A)\/(aF L i).s=1):DY (pl.set q p') L D:=by refine⟨λj a i t ha hi h2=>?_,H.PK⟩;grind[cases DY]
def Xv{i j}(h:(s.opened i t0).nw j=(t,A)):s.nw j=(t,A)\/(j=i/\t=t0):=by unfold aN.opened at h;split at h;{unfold aN.set at h;grind};grind
theorem Xw{i x}:(s.pW i t0 x).nw=s.nw:=by unfold aN.pW;split<;>rfl
def jk.heard{z H i}(p:jk z D tm H i x):jk z D tm tm i {x with si:=0}:=
 {p with si:=Zv}
def Iu.heard(f:Iu tm x)(ht:0<=tm):Iu tm {x with si:=0}:={f with si:=Zv}
def kR.heard(u:kR h y)(ht:0<=y.tm)(hx:h.ps[i]? =x):kR (h.gq i {x with si:=0}) (y.NK i y.tm):=by
 refine{u with rel:=λj a hi ha hh=>?_,fin:=u.fin.set ((u.fin x Zv).heard ht) i}
 rcases La ha with⟨e1,rfl⟩|⟨e1,ha'⟩
 ·subst e1;have hl:j<(y.H.set j _).length:=(kY.1 hh).1;have FK:j<y.H:=Zv
  have e2:hi=y.tm:=by
   have:(y.H.set j _)[j]? =hi:=hh;grind
  subst e2;exact(u.rel j x y.H[j] hx Zv).heard
 ·have:(y.H.set i _)[j]? =hi:=hh;rw[afX YV]at this;exact u.rel j a hi ha' this
def Core.log(c:Core N h y [])(H:h.pl[q]? =p)(hr:Rel p'.s g'.L)(hl:g'.L<=N+1)(ho:p'.out=p.out)(hn:∀i t,p'.s.nw i=(t,A)->0<=i/\i<h.P/\1<=(aF y.L i).s/\(aF y.L i).t=t/\(q:Int)∈(aF y.L i).ps)(J6:∀i t,p'.s.nw i=(t,A)->p.s.nw i=(t,A)\/((aF y.L i).s=1/\(aF y.L i).t=t)):Core (N+1) (h.l9 q p') (y.jZ q g') []:=have:=c.tm.2;{c with ny:=MP c.ny,dO:=c.dO.set H hr hl ho,opn:=c.opn.set hn,tm:=⟨c.tm.1,by show y.tm<=((N+1:Nat):Int);omega⟩,ms:=c.ms.set H J6}
def Core.heard{aPV}(c:Core aPV h y []):Core aPV (h.gq i x) (y.NK i y.tm) []:=
 {c with hl:=by show((y.H.set i _).length:Int)=h.P;rw[Je];exact c.hl}
theorem aCb(c:Core N h y [])(u:kR h y)(hi:(i:Int)<h.P)(hx:h.ps[i]? =x)(hp:h.pl[q]? =p)(hg:y.G[q]? =g)(hs:(aF y.L i).s=1)(iy:(q:Int)∈(aF y.L i).ps)(hN:N<=100000000)(QI:x.t=(aF y.L i).t):
 eu (N+1) ((h.l9 q ⟨p.lb,p.bm,v',p.s.opened i x.t,p.out⟩).gq i {x with si:=0}) ((y.jZ q ⟨g.yb,u',oq g.L i (aF y.L i).t⟩).NK i y.tm):=by
 have hf:=c.valid.pY i;have QQ:=c.ny;have kM:=c.P1.2;have hrel:=c.dO.rel q p g hp hg;have hI:fF (i:Int):=yY YV YV;have hT:fF (aF y.L i).t:=(by grind[yY,cases St.iH]);have hc:=c.log (p':={p with v:=v',s:=p.s.opened i x.t}) (g':=⟨g.yb,u',oq g.L i (aF y.L i).t⟩) hp (by grind[Rel.opened]) (by grind[anS]) J (λj t H=>by
  rcases Xv H with e|⟨e1,e2⟩
  ·exact c.opn q p hp j t e
  grind) (λj t H=>(Xv H).imp id Zv)
 have u2:kR (h.l9 q {p with v:=v',s:=p.s.opened i x.t}) (y.jZ q ⟨g.yb,u',oq g.L i (aF y.L i).t⟩):={u with tie:=u.tie.set hp λj t H=>(Xv H).imp id Zv}
 exact .up hc.heard<|u2.heard c.tm.1 hx
theorem aCc(c:Core N h y [])(u:kR h y)(hi:(i:Int)<h.P)(hx:h.ps[i]? =x)(H:h.pl[q]? =p)(hg:y.G[q]? =g)(hN:N<=100000000)(QI:x.t=(aF y.L i).t):
 eu (N+1) ((h.l9 q ⟨p.lb,p.bm,v',p.s.pW i x.t ts,p.out⟩).gq i {x with si:=0}) ((y.jZ q ⟨g.yb,u',pX g.L i (aF y.L i).t ts⟩).NK i y.tm):=by
 have hf:=c.valid.pY i;have QQ:=c.ny;have kM:=c.P1.2;have hrel:=c.dO.rel q p g H hg;have hI:fF (i:Int):=yY YV YV;have hT:fF (aF y.L i).t:=(by grind[yY,cases St.iH]);have hc:=c.log (p':={p with v:=v',s:=p.s.pW i x.t ts}) (g':=⟨g.yb,u',pX g.L i (aF y.L i).t ts⟩) H (by grind[Rel.pW]) (by grind[anT]) J (λj t hj=>by
  have AB:=hj;rw[Xw]at AB;exact c.opn q p H j t AB) (by grind[Xw])
 have u2:kR (h.l9 q {p with v:=v',s:=p.s.pW i x.t ts}) (y.jZ q ⟨g.yb,u',pX g.L i (aF y.L i).t ts⟩):={u with tie:=u.tie.set H<|by grind[Xw]}
 exact .up hc.heard<|u2.heard c.tm.1 hx
theorem aCd(c:Core N h y [])(u:kR h y)(hi:(i:Int)<h.P)(H:h.pl[q]? =p)(hg:y.G[q]? =g)(hN:N<=100000000)(QI:x.t=(aF y.L i).t):
 eu (N+1) (h.l9 q ⟨p.lb,p.bm,v',p.s.pW i x.t ts,p.out⟩) (y.jZ q ⟨g.yb,u',pX g.L i (aF y.L i).t ts⟩):=by
 have hf:=c.valid.pY i;have QQ:=c.ny;have kM:=c.P1.2;have hrel:=c.dO.rel q p g H hg;have hI:fF (i:Int):=yY YV YV;have hT:fF (aF y.L i).t:=(by grind[yY,cases St.iH]);have hc:=c.log (p':={p with v:=v',s:=p.s.pW i x.t ts}) (g':=⟨g.yb,u',pX g.L i (aF y.L i).t ts⟩) H (by grind[Rel.pW]) (by grind[anT]) J (λj t hj=>by
  have AB:=hj;rw[Xw]at AB;exact c.opn q p H j t AB) (by grind[Xw])
 exact .up hc {u with tie:=u.tie.set H<|by grind[Xw]}
def aCe(c:Core N h y [])(u:kR h y)(h6:O h.ps=6){h1 y1}(hi:(i:Int)<h.P)(hx:h.ps[i]? =x)(hp:h.pl[q]? =p)(hg:y.G[q]? =g)(hn:Next h.P h.Q y.L ⟨2,i,q,t⟩)(hN:N<=100000000)
 (ho:jy h ⟨2,i,q,t⟩ A h1)(hy:ni y ⟨2,i,q,t⟩ A y1):
 eu (N+1) ((h1.l9 q ⟨p.lb,p.bm,v',p.s.opened i t,p.out⟩).gq i {x.gY ⟨2,i,q,t⟩with si:=0}) ((y1.jZ q ⟨g.yb,u',oq g.L i t⟩).NK i y.tm):=by
 have hf:=c.valid.pY i;have QQ:=c.ny;have kM:=c.P1.2;have hrel:=c.dO.rel q p g hp hg;have uy:=hn.small c.valid c.P1.2 c.Q1.2;have hI:fF (i:Int):=yY YV YV;have hT:fF t:=yY (by have:=uy.m0;simp only at this;omega) (by have:=uy.m1;simp only at this;omega);have eF:(aF (y.L++[⟨2,i,q,t⟩]) i).s=1/\(aF (y.L++[⟨2,i,q,t⟩]) i).t=t/\(q:Int)∈(aF (y.L++[⟨2,i,q,t⟩]) i).ps:=by
  rw[yA];simp[St.step]
 have hk:=hn.kind;simp only at hk;have jH:(0<=(q:Int)/\(q:Int)<h.Q)/\((aF y.L i).s=0\/(aF y.L i).s=1):=by
  rcases hk with⟨k1,_⟩|⟨_,k2,k3⟩|⟨k1,_⟩|⟨k1,_⟩
  ·omega
  ·refine⟨k2,?_⟩;rcases k3 with⟨k3,_⟩|⟨k3,_⟩
   ·exact .inl k3
   ·exact .inr k3
  ·omega
  ·omega
 cases ho with
 |ok jv hb=>
  cases hy with
  |ok lv kE=>
   have aei:=c.opn.snoc hn (λe=>by simp at e);have aCf:=c.dl;have IX:=c.wrote hn (λe=>by simp at e) jv lv (mQ h.ps ⟨2,i,q,t⟩) y.D aCf y.dv;have rE:=c.dO.set (p':=⟨p.lb,p.bm,v',p.s.opened i t,p.out⟩) (g':=⟨g.yb,u',oq g.L i t⟩) hp (hrel.1.opened i _ hI hT) (by have:=anS g.L i t;simp only;omega) J;refine .up ⟨c.P,c.Q,c.T,c.K,c.P1,c.Q1,IX.valid,IX.ny,IX.jb,IX.t16,IX.qx,c.kp,rE,?_,c.fl,c.E6,?_,IX.tm,c.dl,IX.ms.set hp λj s hj=>(Xv hj).imp id λ⟨e1,e2⟩=>by subst e1 e2;exact⟨eF.1,eF.2.1⟩,c.K1,c.T1⟩ ⟨u.up,u.dn,u.br,u.kp,λj a hj ha hh=>?_,u.dr,(u.tie.snoc (r:=⟨2,i,q,t⟩)<|.inr J).set hp λj s hj=>(Xv hj).imp id λ⟨e1,_⟩=>by subst e1;exact eF.1,(u.fin.mQ c.tm.1 _).set (((u.fin x<|iO hx).gY c.tm.1 ⟨2,i,q,t⟩).heard c.tm.1) i⟩
   ·refine NP.set (L:=y.L++[⟨2,i,q,t⟩]) aei λj s hj=>?_;rcases Xv hj with e|⟨e1,e2⟩
    ·exact aei q p hp j s e
    ·subst e1 e2;exact⟨YV,hi,YV,eF.2.1,eF.2.2⟩
   ·show((y.H.set i y.tm).length:Int)=h.P;rw[Je];exact c.hl
   ·show jk (aF (y.L++[⟨2,i,q,t⟩]) j) y.D y.tm hj j a;rw[yA];have ha':((mQ h.ps ⟨2,i,q,t⟩).set i {x.gY ⟨2,i,q,t⟩with si:=0})[j]? =a:=ha;rcases La ha' with⟨e1,rfl⟩|⟨e1,J9⟩
    ·subst e1;have hl:j<(y.H.set j y.tm).length:=(kY.1 hh).1;have FK:j<y.H:=by rwa[Je]at hl
     have e2:hj=y.tm:=by
      have:(y.H.set j y.tm)[j]? =hj:=hh;rw[alS FK]at this;exact(Kz this).s
     subst e2;have h0:=u.rel j x y.H[j] hx<|gG FK;have h1:jk (aF y.L j) y.D y.tm y.tm j {x with si:=0}:=h0.heard;have h2:=h1.add (r:=⟨2,j,q,t⟩) J J ⟨by simp only;omega,by have:=c.Q1.2;simp only;omega⟩ jH.2 0 YV;have e3:({({x with si:=0}:PS).gY ⟨2,j,q,t⟩with si:=0}:PS)={x.gY ⟨2,j,q,t⟩with si:=0}:=by
      simp only[PS.gY];unfold PS.tie;simp only[show((2:Int)=1)=False by simp,jX,if_true];split
      ·rfl
      ·split
       ·rfl
       ·split<;>rfl
     rw[e3]at h2;exact h2
    ·have h5:(y.H.set i y.tm)[j]? =hj:=hh;rw[afX λe=>e1 e.s]at h5;rcases aeh J9 hn.p0 (by show(i:Int)<6;omega) h6 with⟨x0,h0,e,_⟩|⟨e,h0⟩
     ·have:(i:Int)=j:=e;omega
     ·exact(u.rel j a hj h0 h5).other (r:=⟨2,i,q,t⟩) e J
def aCg(k:eu N h y)(hp:h.pl[q]? =p)(o):eu N (h.l9 q {p with out:=o}) (y.adX q o):=by
 have key:∀tl,Core N h y tl->Core N (h.l9 q {p with out:=o}) (y.adX q o) tl:=λtl c=>by
  refine{c with dO:=⟨by show(h.pl.set q _).length=_;rw[Je];exact c.dO.len,λj a b ha hb=>?_,λj a ha=>?_⟩,opn:=λj a ha i t hi=>?_,ms:=c.ms.set hp Zv}
  ·rcases La ha with⟨e1,rfl⟩|⟨e1,H⟩
   ·subst e1;exact c.dO.rel j p b hp hb
   ·exact c.dO.rel j a b H hb
  ·show(y.aPW.set q o)[j]? =_;rcases La ha with⟨e1,rfl⟩|⟨e1,H⟩
   ·subst e1;have:=c.dO.out j p hp;grind
   grind[E5.out,cases Core]
  ·rcases La ha with⟨e1,rfl⟩|⟨e1,H⟩
   ·subst e1;exact c.opn j p hp i t hi
   ·exact c.opn j a H i t hi
 cases k with
 |up c u=>exact .up (key _ c) {u with tie:=u.tie.set hp Zv}
 |down tl c d=>exact .down tl (key _ c) {d with}
def aCh(c:Core N h y [])(u:kR h y)(k):eu N (h.breaks k) (y.breaks k):=
 .up {c with kp:=by show 0<=Iq k/\Iq k<=16;unfold Iq;omega} {u with br:=J,kp:=λ_=>J}
def aCi(c:Core N h y []):eu N h.EU {y with dn:=A,br:=ah}:=
 .down [] {c with kp:=by simp[HS.EU]} ⟨J,J,J,J,J⟩
def aiF(L:List Rc)(tm:Int)(Q:Nat):∀k,∀d∈rP L tm Q k,0<=d.p/\d.p<(k:Int)|0=>(by intro d H;simp[rP]at H)|k+1=>by intro d H;have ih:=aiF L tm Q k;rw[rP]at H;split at H;{rcases yu.1 H with H|H;{grind};simp only[lq,Dz]at H;grind};grind
theorem aiG(L:List Rc)(tm:Int)(Q:Nat)(i:Nat):∀k,i<k->(rP L tm Q k).filter (λd=>decide<|d.p=(i:Int))=if 2<=(aF L i).s then lq i tm (aF L i).ps Q else[]|0,h=>YV|k+1,h=>by rw[rP];by_cases e:i=k;{subst e;(have aOi:(rP L tm Q i).filter (λd=>decide<|d.p=(i:Int))=[]:=by rw[alT];intro d hd;have:=aiF L tm Q i d hd;grind);by_cases h1:1<(aF L i).s;{rw[if_pos h1,if_pos YV,FY,aou,aov,zy]};grind};have ih:=aiG L tm Q i k YV;split;{rwa[FY,apE _ _ _ YV,apF _ _ _ _ _ YV,pV]};omega
theorem Valid.own(hv:Valid P Q L):∀p,(aF L p).s≠0->0<=p/\p<P:=by induction hv with|nil=>intro p h;exact absurd J h| @snoc L r hv hn ih=>grind[yA,cases Next,St.Jt]
def aCj(c:Core N h y tl)(d:aah h y)(jv dv){H}(hl:O H=y.H)(hs:∀j,j<O y.H->H[j]? =y.tm):eu N (h.PH jv y.L) (y.rising y.H dv H):=by
 have⟨Qn,hQn⟩:=lW (show 0<=h.Q by have:=c.Q1;omega);have YP:y.Q.toNat=Qn:=by rw[c.Q];omega
 have Yk:=c.hl;have Jy:=c.P1.2;have iy:∀i q,2<=(aF y.L i).s->q∈(aF _ i).ps->(⟨i,q,y.tm+1,1⟩:Du)∈rP y.L y.tm y.Q.toNat y.H:=λi q h2 hq=>by
  have⟨o1,o2⟩:=c.valid.own i YV;obtain⟨j,rfl⟩:=lW o1;have⟨o6,o7⟩:=(c.valid.pY j).ps _ hq;have hfd:=aiG y.L y.tm y.Q.toNat j y.H YV;rw[if_pos h2]at hfd;have hd:(⟨j,q,y.tm+1,1⟩:Du)∈(rP y.L y.tm y.Q.toNat y.H).filter (λd=>decide<|d.p=(j:Int)):=by
   grind[apC]
  grind
 have acf:DY h.pl y.L (rP y.L y.tm y.Q.toNat y.H):=by
  refine⟨λq a i t ha hi h2=>?_,λi h2=>?_⟩
  ·have⟨_,_,_,_,o5⟩:=c.opn q a ha i t hi;grind
  ·have⟨q,l,hq⟩:=List.exists_cons_of_ne_nil (c.valid.parts i YV);exact⟨_,iy i q h2 (by rw[hq];simp),J⟩
 have Yj:kR (h.PH jv y.L) (y.rising y.H dv H):=by
  refine⟨J,J,?_,λe=>?_,λi x hi hx hh=>?_,λq hq=>?_,acf,aB5 c.tm.1 _⟩
  ·show h.br=y.br;rw[d.br,d.yr]
  ·have:y.br=true:=e;rw[d.yr]at this;grind
  ·show jk _ (rP y.L y.tm y.Q.toNat y.H) y.tm hi i x;have AU:i<H:=(kY.1 hh).1;have e:hi=y.tm:=by
    have h1:H[i]? =hi:=hh;grind
   subst e;have⟨x',OA,hr⟩:=c.valid.replay c.Q1.2 i YV;have hxx:(replay _)[i]? =x:=hx;rw[OA]at hxx;obtain rfl:=Kz hxx;have hf:=c.valid.pY i;exact hr.azN (Q:=Qn) (by have:=c.Q1.2;omega) hf.s0 (by grind[cases St.iH])<|by grind[aiG]
  ·have:=aiF _ _ y.Q.toNat y.H q hq;show 0<=q.p/\q.p<h.P;omega
 refine .up {c with jb:=?_,t16:=Xy,qx:=⟨J,J⟩,hl:=by show(H:Int)=h.P;omega,dl:=?_} Yj
 ·show gu (y.L.flatMap dQ)=gu (y.L.flatMap dQ++[]);grind
 ·exact Yj.apG c.P1 (by show(H:Int)=h.P;omega)<|aot _
end
end
section
section
variable{N:Nat}{h h':HS}{y y':RS}{tl:List UInt8}
variable{i t P Q:Int}{l:List Ms}{m:Ms}{pl:List PL}{L:List Rc}{q:Nat}{p:PL}{v':ai}
theorem aai{s:aN}{j u c}(h:(s.closed i t c).nw j=(u,A)):s.nw j=(u,A)/\¬(j=i/\u=t):=by unfold aN.closed at h;split at h;{unfold aN.set at h;simp only at h;split at h;{simp at h};rename_i e;exact⟨h,λz=>e z.1⟩};{rename_i e;refine⟨h,?_⟩;rintro⟨rfl,rfl⟩;exact e<|by simp[aN.isOpen,h]}
def Core.kL(c:Core N h y tl)(fv nv)(hl:O l<=100)(H:xh h.pl h.P h.Q y.L l):Core N (h.dV fv l) (y.dV nv l) tl:=
 {c with fl:=J,E6:=hl,ms:=H}
theorem aaj(k:eu N h y)(fv H)(hl:O l<=100)(hm:xh h.pl h.P h.Q y.L l):eu N (h.dV fv l) (y.dV H l):=by
 cases k with
 |up c u=>exact .up (c.kL fv H hl hm) {u with}
 |down tl c d=>exact .down tl (c.kL fv H hl hm) {d with}
theorem eu.ms(k:eu N h y):xh h.pl h.P h.Q y.L y.N:=by grind[cases eu,Core.ms]
def aiH(hl:O l<=100)(m):(oP l m).length<=100:=by unfold oP;grind
def aCk{x}(h:x∈oP l m):x∈l\/x=m:=by unfold oP at h;grind
theorem xh.send(h:xh pl P Q L l)(hm:yD P Q L m)(ha:m.k=2->AOk pl m):xh pl P Q L (oP l m):=λx H=>by rcases aCk H with H|rfl;{exact h x H};grind
def aCl(k:eu N h y){g u' cm}(hp:h.pl[q]? =p)(hg:y.G[q]? =Y g)(hi:0<=i/\i<h.P)(hT:fF t):
 eu (N+1) (h.l9 q ⟨p.lb,p.bm,v',p.s.closed i t cm,p.out⟩) (y.jZ q ⟨g.yb,u',qW g.L i t cm⟩):=by
 have H:∀tl,Core N h y tl->Core _ (h.l9 q {p with v:=v',s:=p.s.closed i t cm}) (y.jZ q ⟨g.yb,u',qW g.L i t cm⟩) tl:=λtl c=>by
  have hrel:=c.dO.rel q p g hp hg;have kM:=c.P1.2;have SQ:=c.tm.2;refine{c with ny:=MP c.ny,dO:=c.dO.set hp (by grind[Rel.closed,yY]) ?_ J,opn:=c.opn.set λj s hj=>c.opn q p hp j s (aai hj).1,tm:=⟨c.tm.1,by show y.tm<=((N+1:Nat):Int);omega⟩,ms:=c.ms.set hp<|by grind[aai]}
  grind[ahk]
 cases k with
 |up c u=>exact .up (H _ c) {u with tie:=u.tie.set hp<|by grind[aai]}
 |down tl c d=>exact .down tl (H _ c) {d with}
def aCm(H:yD P Q L m)(hq:m.q=(q:Int)):yD P Q L ⟨2,m.q,m.p,m.t,m.c⟩/\AOk (pl.set q ⟨p.lb,p.bm,v',p.s.closed m.p m.t m.c,p.out⟩) ⟨2,m.q,m.p,m.t,m.c⟩:=by
 refine⟨{H with k:=.inr J},λj a ha hj hi=>?_⟩;have AB:m.q=(j:Int):=hj;rcases La ha with⟨e1,rfl⟩|⟨e1,ha'⟩
 ·exact(aai hi).2 ⟨J,J⟩
 ·omega
def jk.ik{z D D' tm H x}(p:jk z D tm H i x)(hD:D'.filter (λd=>decide<|d.p=i)=D.filter (λd=>decide<|d.p=i)):jk z D' tm H i x:=
 {p with due:=hD.t p.due}
def apI(D:List Du)(i q j)(BN:i≠j):(D.filter<|Du.stays i q).filter (λd=>decide<|d.p=j)=D.filter (λd=>decide<|d.p=j):=by rw[UB];apply af0;intro d _;by_cases e:d.p=j;{simp[Du.stays,e]<;>omega};grind
def aCn(D:List Du)(i q)(H:0<=q):(D.filter<|Du.stays i q).filter (λd=>decide<|d.p=i)=(D.filter λd=>decide<|d.p=i).filter (λd=>decide<|d.q≠q):=by rw[UB,UB];apply af0;intro d _;by_cases e:d.p=i;{simp[Du.stays,e,H]};grind
theorem aCo(x:PS)(q)(h0:0<=q)(h4:q<4):dH (x.tie q 1).bU 2 4=(dH x.bU 2 4).filter (λk=>decide<|k≠q):=by unfold dH;rw[List.filter_map,UB];grind[Zy]
def aCp(ts l):(dH ts l 4).Nodup:=by unfold dH;grind[List.nodup_range]
inductive zJ(y:RS)(m:Ms):RS->Prop
 |idle (hi:¬(y.dn=ah/\2<=(aF y.L m.p).s/\(aF y.L m.p).t=m.t)):zJ y m y
 |tie (hi:y.dn=ah/\2<=(aF y.L m.p).s/\(aF y.L m.p).t=m.t) (dv:ai) (hs:∃d∈y.D.filter (Du.stays m.p m.q),d.p=m.p):zJ y m (y.ik dv<|y.D.filter<|Du.stays m.p m.q)
 |done {ok:Bool} {y':RS} (hi:y.dn=ah/\2<=(aF y.L m.p).s/\(aF y.L m.p).t=m.t) (dv:ai) (hs:∀d∈y.D.filter (Du.stays m.p m.q),d.p≠m.p) (hw:ni (y.ik dv<|y.D.filter<|Du.stays m.p m.q) ⟨4,m.p,0,(aF y.L m.p).t⟩ ok y'):zJ y m y'
def Core.ik(c:Core N h y tl)(dv){D}(H:O D<=24):Core N h (y.ik dv D) tl:=
 {c with dl:=H}
def Core.aej(c:Core N h y tl)(ps):Core N {h with ps:=ps} y tl:=
 {c with}
def apJ(k:eu N h y)(h6:O h.ps=6){m}(hm:yD h.P h.Q y.L m)(ha:AOk h.pl m){i:Nat}{x}(hi:m.p=(i:Int))(hx:h.ps[i]? =Y x)(a:Ai h i x m h')(b:zJ y m y'):eu (N+1) h' y':=by cases k with|down tl c d=>(have hu:=d.up;have hd:=d.dn;cases a with|done jC=>grind|tie jC=>grind|idle=>cases b with|tie jC=>grind|done jC=>grind|idle=>exact(eu.down tl c d).z YV)|up c u=>have hP:=hm.p;have Jy:=c.P1.2;have Yk:=c.hl;(have AU:i<y.H:=YV);have pr:=u.rel i x y.H[i] hx<|gG AU;rw[<-hi]at pr;have hf:=c.valid.pY m.p;have zo:=hf.s1;have AQ:=hf.s0;have e1:=pr.s;have e2:=pr.t;(have jP:m.q<4:=by grind[cases Core,cases yD]);(have atQ:(h.up=A/\(x.s=2\/x.s=3)/\x.t=m.t)↔(y.dn=ah/\2<=(aF y.L m.p).s/\(aF y.L m.p).t=m.t):=by grind[cases kR]);(have fK:(y.D.filter<|Du.stays m.p m.q).filter (λd=>decide<|d.p=m.p)=((dH x.bU 2 4).filter λk=>decide<|k≠m.q).map λq=>⟨m.p,q,y.tm+x.wa,x.ga⟩:=by rw[aCn _ _ _ hm.q.1,pr.due,List.filter_map];rfl);have hlen:(y.D.filter<|Du.stays m.p m.q).length<=24:=(by grind[cases Core]);cases b with|idle hb=>(cases a with|idle=>(exact(eu.up c u).z YV)|done jC=>grind|tie jC=>grind)|tie hb dv hs=>(have⟨d0,Yl,hd1⟩:=hs;have xA:d0∈(y.D.filter<|Du.stays m.p m.q).filter (λd=>decide<|d.p=m.p):=Zv;have fE:dH x.bU 2 4≠[m.q]:=Zv;cases a with|idle jC=>grind|done _ ht=>grind|tie jC ht=>(have Jr:((m.q.toNat:Nat):Int)=m.q:=by have:=hm.q;omega);rw[Jr];(refine eu.z (N:=N) (eu.up ((c.ik dv hlen).aej<|h.ps.set i<|x.tie m.q 1) ⟨u.up,u.dn,u.br,u.kp,λj z hj hz hh=>?_,λd hd=>u.dr d (EE.1 hd).1,?_,u.fin.set (have⟨_,_,_,r4,r5,r6⟩:=Xp x m.q 1;have f:=u.fin x Zv;⟨by rw[r4];exact f.si,by rw[r5];exact f.wa,by rw[r6];exact f.ga⟩) i⟩) YV);{show jk (aF y.L j) (y.D.filter<|Du.stays m.p m.q) y.tm hj j z;rcases La hz with⟨rfl,rfl⟩|⟨e,Hl⟩;{have pr2:=u.rel j x hj hx hh;rw[<-hi]at pr2⊢;have⟨r1,r2,r3,r4,r5,r6⟩:=Xp x m.q 1;refine⟨r1.t pr2.e,r2.t pr2.t,r3.t pr2.s,λz=>?_,λ_ q hq=>?_,λq=>?_,?_,λz=>?_⟩;{omega};{rw[Zy x m.q 1 hm.q.1 jP q];by_cases e:(q:Int)=m.q;{rw[if_pos e,e];grind[cases yD]};rw[if_neg e];exact pr2.some YV q hq};{rw[Zy x m.q 1 hm.q.1 jP q,r3];grind[cases jk]};{grind[aCo]};omega};{exact(u.rel j z hj Hl hh).ik<|apI _ _ _ _ YV}};refine⟨λq p j t hp hj h2=>?_,λj h2=>?_⟩;{have⟨d,hd,d1,d2⟩:=u.tie.opn q p j t hp hj h2;refine⟨d,EE.2 ⟨hd,?_⟩,d1,d2⟩;simp only[Du.stays,ne_eq,decide_not,acN,af2,au2,pq,OU];by_cases e:d.p=m.p;{refine .inr ⟨hm.q.1,λe2=>?_⟩;have hjm:j=m.p:=YV;subst hjm;have ho:=c.opn q p hp _ t hj;apply ha q p hp YV;grind};omega};by_cases e:j=m.p;{subst e;exact⟨d0,Yl,hd1⟩};have⟨d,hd,d1⟩:=u.tie.PK j h2;exact⟨d,EE.2 ⟨hd,by simp[Du.stays]<;>omega⟩,d1⟩)|done hb dv hs hw=>(have atO:(dH x.bU 2 4).filter (λk=>decide<|k≠m.q)=[]:=by (have:(y.D.filter<|Du.stays m.p m.q).filter (λd=>decide<|d.p=m.p)=[]:=by grind[List.filter_eq_nil_iff]);rw[fK]at this;simpa using this);have⟨d0,Yl,hd1⟩:=u.tie.PK m.p hb.2.1;have apK:d0∈y.D.filter (λd=>decide<|d.p=m.p):=Zv;(have aKq:dH x.bU 2 4=[m.q]:=by rw[pr.due]at apK;have⟨q0,oJ,_⟩:=Dz.1 apK;have lT:∀k∈dH x.bU 2 4,k=m.q:=(by grind[List.filter_eq_nil_iff]);have hnd:=aCp x.bU 2;revert lT oJ hnd;cases dH x.bU 2 4 with|nil=>grind|cons a l=>intro _ lT hnd;have ea:=lT a Xy;subst ea;cases l with|nil=>rfl|cons b l=>have eb:=lT b Xy;grind);(have hD':(y.D.filter<|Du.stays m.p m.q).filter (λd=>decide<|d.p=m.p)=[]:=Zv);cases a with|idle jC=>grind|tie _ ht=>grind|done jC _ ho=>rw[e2,<-hi]at ho;have hn:Next h.P h.Q y.L ⟨4,m.p,0,(aF y.L m.p).t⟩:=⟨hP.1,hP.2,Zv⟩;(have h4:∀q (p:PL),h.pl[q]? =Y p->∀t,p.s.nw m.p≠Y (t,A):=λq p hp t hj=>by have⟨d,hd,d1,d2⟩:=u.tie.opn q p m.p t hp hj hb.2.1;have QF:d∈y.D.filter (λd=>decide<|d.p=m.p):=Zv;rw[pr.due,aKq]at QF;simp only[uj,uA,yQ]at QF;have ho:=c.opn q p hp _ t hj;refine ha q p hp ?_ ?_;{grind};grind);cases ho with|ok jv iM=>(cases hw with|ok lv PM=>(have hc:=(c.ik dv hlen).wrote hn (λ_=>h4) jv lv (mQ h.ps ⟨4,m.p,0,(aF y.L m.p).t⟩) (y.D.filter<|Du.stays m.p m.q) hlen dv;refine .up hc ⟨u.up,u.dn,u.br,u.kp,λj z hj hz hh=>?_,λd hd=>u.dr d (EE.1 hd).1,?_,u.fin.mQ c.tm.1 _⟩;{show jk (aF (y.L++[⟨4,m.p,0,(aF y.L m.p).t⟩]) j) (y.D.filter<|Du.stays m.p m.q) y.tm hj j z;rw[yA];rcases aeh hz hn.p0 Zv h6 with⟨x0,h0,e,rfl⟩|⟨e,h0⟩;{have e':=e;exact(u.rel j x0 hj h0 hh).done e J Zv};exact(u.rel j z hj h0 hh).other e<|apI _ _ _ _ e};(have key:∀j,2<=(aF (y.L++[⟨4,m.p,0,(aF y.L m.p).t⟩]) j).s->m.p≠j/\2<=(aF y.L j).s:=λj h2=>by rw[yA]at h2;by_cases e:m.p=j;{subst e;simp[St.step]at h2};grind[St.Jt]);refine⟨λq p j t hp hj h2=>?_,λj h2=>?_⟩;{have⟨d,hd,d1,d2⟩:=u.tie.opn q p j t hp hj (key j h2).2;exact⟨d,EE.2 ⟨hd,by have:=(key j h2).1;simp[Du.stays]<;>omega⟩,d1,d2⟩};have⟨d,hd,d1⟩:=u.tie.PK j (key j h2).2;exact⟨d,EE.2 ⟨hd,by have:=(key j h2).1;simp[Du.stays]<;>omega⟩,d1⟩)|whole lv PM=>exact absurd (u.br.s.t iM) (by rw[show y.br=A from PM];simp)|qx s PM=>exact absurd (u.br.s.t iM) (by rw[show y.br=A from PM];simp)|none PM=>exact absurd (u.br.s.t iM) (by rw[show y.br=A from PM];simp))|lC jv iM=>have hyb:=u.br.s.t iM;(have uP:ni (y.ik dv<|y.D.filter<|Du.stays m.p m.q) ⟨4,m.p,0,(aF y.L m.p).t⟩ ah y':=by cases hw with|ok lv PM=>(exact absurd (show y.br=ah from PM) Zv)|whole lv g1 g2=>exact .whole lv g1 g2|qx s g1 g2 g3 g4=>exact .qx s g1 g2 g3 g4|none g1 g2=>exact .none g1 g2);exact apD (c.ik dv hlen) u.br u.kp hn (λ_=>h4) (.lC jv iM) uP
end
end
section
section
variable{w w':ae}{B yb:Nat}{y:RS}
def dG.box{w1 w2 H c}(a:dG w w1 B yb y H)(f:Fr (λq=>q=c) w1 w2)(hc:w<=c)(hn:¬H.dJ yb c):dG w w2 B yb y H:=⟨a.at_.stay f (λk e hf=>hn (by subst e;exact hf)),a.fr.t f (λk e=>.inr YV),a.sub⟩
def DZ(m:Ms):Value:=jf #[m.k,m.q,m.p,m.t,m.c]
def apL(h:aY w B yb y){q:Nat}(H:y.aPW[q]? =A)(m)(hq:m.q=(q:Int)):aH aj 144 #[ak yb,DZ m] w λe w'=>e=dZ #[DZ ⟨0,0,0,0,ah⟩,ah]/\Fr aB w w':=by
 have xJ:w ⟨yb,13,U⟩=y.ov:=h.c 13;have⟨og,EL,uX,Fz,hoc,k0⟩:=h.Po H;rw[uX]at xJ;have zI:=(kY.1 H).1;have ZE:(0:Int)<=(q:Int):=YV
 have ZF:(q:Int)<y.aPW:=YV
 have aO:=bF h.blk;unfold DZ;rw[hq];clear h H uX hq;go_enter func144,ntmps144;go_wp2_with fail;go_quiet (fail);go_wp2;have hb:=eX (eX (eX (eX (eX (b:=w+1) (w:=((w.alloc<|aC #[m.k,q,m.p,m.t,m.c] 119).alloc<|aC #[V Z 0,V Z 0,V Z 0,V Z 0,ah] 119).drewN nq) (rM _ Xy) 0<|V Z 0) 1<|V Z 0) 2<|V Z 0) 3<|V Z 0) 4 ah;apply aQY (Bf J _ _ _ 119 _ (0,0) _ J hb underlying119 J KG) J;refine⟨J,?_⟩;have f0:Fr aB w (((w.alloc<|aC #[m.k,q,m.p,m.t,m.c] 119).alloc<|aC #[V Z 0,V Z 0,V Z 0,V Z 0,ah] 119).drewN nq):=((aQ _).alloc _).drewN _;exact((((f0.setCell (p:=⟨M (R w)+1,0,U⟩) (.inr<|MS _) _).setCell (p:=⟨M (R w)+1,1,U⟩) (.inr<|MS _) _).setCell (p:=⟨M (R w)+1,2,U⟩) (.inr<|MS _) _).setCell (p:=⟨M (R w)+1,3,U⟩) (.inr<|MS _) _).setCell (p:=⟨M (R w)+1,4,U⟩) (.inr<|MS _) _
def apM(h:aY w B yb y)(nI:lN y.G){q:Nat}(ho:y.aPW[q]? =ah){g}(hg:y.G[q]? =Y g)(m)(hq:m.q=(q:Int))(hb:(O g.L+1)*40<=2^47):aH aj 144 #[ak yb,DZ m] w λe w'=>e=dZ #[DZ ⟨2,m.q,m.p,m.t,m.c⟩,A]/\∃u',dG w w' B yb y (y.jZ q ⟨g.yb,u',qW g.L m.p m.t m.c⟩)/\lN (y.jZ q ⟨g.yb,u',qW g.L m.p m.t m.c⟩).G:=by
 have H:=aQe h;have DW:=aQe nI;have HG:=aQe hg;have HB:=aQe hb;have xJ:au w (yb,13)=Y y.ov:=h.c 13;have⟨og,EL,uX,Fz,hoc,k0⟩:=h.Po ho;rw[uX]at xJ;have⟨gg,jG,Dp,PE,QO,g0⟩:=h.Pn hg;have BQ:au w (yb,12)=Y y.gv:=h.c 12;rw[Dp]at BQ;have zI:=(kY.1 ho).1;have zk:=(kY.1 hg).1;have ZE:(0:Int)<=(q:Int):=YV
 have ZF:(q:Int)<O y.aPW:=YV
 have ah3:(q:Int)<O y.G:=YV
 have aO:=bF h.blk;have HR:=aQe<|h.refs g<|iO hg;have NY:I ((¬(yb=g.yb\/g.u.ownBlock=Y yb))/\¬(gg=g.yb\/g.u.ownBlock=Y gg)):=⟨h.Zp<|iO hg,λe=>by have t0:=ig h.dO (k:=gg) (by rw[Dp];rfl);rcases(h.refs g<|iO hg).tags e with t1|t1<;>rw[t0]at t1<;>cases t1⟩;have NF:I (∀k,M (R w)<=k->¬(k=g.yb\/g.u.ownBlock=Y k)):=λk hk e=>by have:=(h.lZ (k:=k)<|.inr<|.inr<|.inr<|.inr<|.inr<|.inr<|.inr ⟨g,iO hg,e⟩).1;omega
 unfold DZ;rw[hq];clear h ho uX hq Dp hg nI hb;go_enter func144,ntmps144;go_wp2_with fail;go_quiet (fail);go_wp2_with fail;have S0:I (∀W,Fr aB (((w.alloc<|aC #[V Z m.k,V Z q,V Z m.p,V Z m.t,aA m.c] 119).alloc<|aC #[V Z 0,V Z 0,V Z 0,V Z 0,aA ah] 119).drewN nq) W->au W (yb,12)=Y (aP gg (O y.G) jG)/\au W (gg,q)=Y (ak g.yb)/\au W (M (R w),1)=Y (V Z q)/\au W (M (R w),2)=Y (V Z m.p)/\au W (M (R w),3)=Y (V Z m.t)/\au W (M (R w),4)=Y (aA m.c)):=λW f=>have F0:Fr aB w W:=(((aQ _).alloc _).drewN _).t f dA;have zq:W.heap[M (R w)]? =Y (aC #[V Z m.k,V Z q,V Z m.p,V Z m.t,aA m.c] 119 (0,0)):=(f.block (M (R w)) aQF id).t (((Fr.refl (λ_=>False) _).alloc _).block (M (R w)) Xy id |>.t (heap_alloc_new _ _));⟨(F0.cell (p:=(yb,12)) aO id).t BQ,(F0.cell (p:=(gg,q)) PE id).t g0,aJ zq 1,aJ zq 2,aJ zq 3,aJ zq 4⟩
 go_region_held3 (λW=>au W (yb,12)=Y (aP gg (O y.G) jG)/\au W (gg,q)=Y (ak g.yb)/\au W (M (R w),1)=Y (V Z q)/\au W (M (R w),2)=Y (V Z m.p)/\au W (M (R w),3)=Y (V Z m.t)/\au W (M (R w),4)=Y (aA m.c)) (first|with_reducible exact C1|exact S0 _ eH|exact S0 _ (eH.drew)|go_keep) ((go_at_call 188;apply(axs (Fr.qw ((((aQ _).alloc _).drewN _).drew) HR id λ_ _=>id) m.p m.t m.c HB).z;rintro e w1 ⟨rfl,u',nX⟩;have HL:=aQe nX;have b0:w1.heap[M (R w)]? =Y (aC #[V Z m.k,V Z q,V Z m.p,V Z m.t,aA m.c] 119 (0,0)):=(nX.fr.block (M (R w)) aQF<|NF _<|fC _).t<|((Fr.refl (λ_=>False) _).alloc _).block (M (R w)) Xy id |>.t (heap_alloc_new _ _);(have b1:w1.heap[M (R w)+1]? =Y (aC #[V Z 0,V Z 0,V Z 0,V Z 0,aA ah] 119 (0,0)):=(nX.fr.block (M (R w)+1) aQy<|NF _<|MS _).t<|rM _ Xy);have BB:=aQe b1;have k1:au w1 (M (R w),1)=Y (V Z q):=aJ b0 1;have k2:au w1 (M (R w),2)=Y (V Z m.p):=aJ b0 2;have k3:au w1 ⟨M (R w),3,U⟩=Y (V Z m.t):=aJ b0 3;have k4:au w1 ⟨M (R w),4,U⟩=Y (aA m.c):=aJ b0 4;have p0:au w1 ⟨M (R w)+1,0,U⟩=Y (V Z 0):=aJ b1 0;have p1:au w1 ⟨M (R w)+1,1,U⟩=Y (V Z 0):=aJ b1 1;have p2:au w1 ⟨M (R w)+1,2,U⟩=Y (V Z 0):=aJ b1 2;have p3:au w1 ⟨M (R w)+1,3,U⟩=Y (V Z 0):=aJ b1 3;have p4:au w1 ⟨M (R w)+1,4,U⟩=Y (aA ah):=aJ b1 4;have C1:au w1 ⟨yb,12,U⟩=Y (aP (Y ⟨gg,0,U⟩) (O y.G) jG)/\au w1 ⟨gg,q,U⟩=Y (ak<|Y ⟨g.yb,0,U⟩)/\au w1 ⟨M (R w),1,U⟩=Y (V Z q)/\au w1 ⟨M (R w),2,U⟩=Y (V Z m.p)/\au w1 ⟨M (R w),3,U⟩=Y (V Z m.t)/\au w1 ⟨M (R w),4,U⟩=Y (aA m.c):=⟨(nX.fr.cell (p:=⟨yb,12,U⟩) aQF NY.1).t (S0 _<|eH.drew).1,(nX.fr.cell (p:=⟨gg,q,U⟩) aQF NY.2).t (S0 _<|eH.drew).2.1,k1,k2,k3,k4⟩;have pf:∀o,w1.frozen? ⟨M (R w)+1,o,U⟩=false:=gJ b1;clear nX b0 b1));all_goals go_wp2;have hb:=eX (eX (eX (eX (eX BB 0<|V Z 2) 1<|V Z q) 2<|V Z m.p) 3<|V Z m.t) 4<|aA m.c;apply aQY (Bf J _ _ _ 119 _ (0,0) _ J hb underlying119 J KG) J;have F0:Fr aB w (((w.alloc<|aC #[V Z m.k,V Z q,V Z m.p,V Z m.t,aA m.c] 119).alloc<|aC #[V Z 0,V Z 0,V Z 0,V Z 0,aA ah] 119).drewN nq).drew:=(((aQ _).alloc _).drewN _).drew;have⟨mv,ga⟩:=(H.a F0).NL DW HG HL;refine⟨J,u',(mv.behind F0).box (((((Fr.refl (λx=>x=M (R w)+1) w1).setCell (p:=⟨M (R w)+1,0,U⟩) (.inl J) _).setCell (p:=⟨M (R w)+1,1,U⟩) (.inl J) _).setCell (p:=⟨M (R w)+1,2,U⟩) (.inl J) _).setCell (p:=⟨M (R w)+1,3,U⟩) (.inl J) _ |>.setCell (p:=⟨M (R w)+1,4,U⟩) (.inl J) _) (MS _) ?_,ga⟩;intro e;have t:=lM BB;rcases mv.at_.Js e with t2|t2|t2|t2|t2|t2|⟨t2,t3⟩|t2|t2;all_goals first|(rw[t]at t2;cases t2;done)|(have:=(H.lZ<|.inr<|.inr<|.inr<|.inr<|.inr<|.inr<|.inl t3).1;omega)
end
end
section
section
variable{w w':ae}{B yb:Nat}{y:RS}
def dG.aCq{dv D}(h:aY w' B yb {y with dv:=dv,D:=D})(f:Fr (λk=>k=yb) w w')(hd:∀k,dw dv=Y k->w<=k):dG w w' B yb y (y.ik dv D):=
 ⟨h,f.z λk e=>.inl<|.inl e,λk H=>by
   rcases H with e|e|e|e|e|e|e|e
   ·exact .inl<|.inl e
   ·exact .inl<|.inr<|.inl e
   ·exact .inr<|hd k e
   ·exact .inl<|.inr<|.inr<|.inr<|.inl e
   ·exact .inl<|.inr<|.inr<|.inr<|.inr<|.inl e
   ·exact .inl<|.inr<|.inr<|.inr<|.inr<|.inr<|.inl e
   ·exact .inl<|.inr<|.inr<|.inr<|.inr<|.inr<|.inr<|.inl e
   ·exact .inl<|.inr<|.inr<|.inr<|.inr<|.inr<|.inr<|.inr e⟩
def aCr(h:aY w B yb y)(hF:y.iH)(m)(hi:¬(y.dn=ah/\2<=(aF y.L m.p).s/\(aF y.L m.p).t=m.t)):aH aj 143 #[ak yb,DZ m] w λe w'=>e=dZ #[]/\Fr aB w w':=by
 have H:=aQe h;have HF:=aQe hF;have lu:I ((O y.L+1)*8<=2^47):=by have:=hF.lL;exact aQw
 have c4:w (yb,4)=(y.dn):=h.c 4;have aO:=bF h.blk;have⟨z,hz⟩:∃z,aF y.L m.p=z:=⟨_,J⟩;have HZ:=aQe hz;rw[hz]at hi;unfold DZ;clear h hF hz;have fin:∀dn,y.dn=dn->(dn=A\/z.s<2\/z.t≠m.t)->aH aj 143 #[ak yb,jf #[m.k,m.q,m.p,m.t,m.c]] w λe w'=>e=dZ #[]/\Fr aB w w':=by intro dn MK hor;rw[MK]at c4;clear MK;(have key:(dn=A)\/(dn=ah/\decide (z.s<2)=A)\/(dn=ah/\decide (z.s<2)=ah/\(z.t !=m.t)=A):=by cases dn with|true=>exact .inl J|false=>by_cases g:z.s<2;{exact .inr<|.inl ⟨J,iC g⟩};refine .inr<|.inr ⟨J,jr g,?_⟩;rcases hor with e|e|e;{cases e};{exact absurd e g};simpa using e);clear hor;rcases key with rfl|⟨rfl,hs⟩|⟨rfl,hs,ht⟩;all_goals go_enter func143,ntmps143;go_wp2_with ((go_at_call 105;apply(sG (H.a<|aQ _) m.p HF.arg lu).z;rw[HZ];rintro e w1 ⟨v1,rfl,bV,aI⟩;obtain⟨va,vc,rfl,_⟩:=jg bV;have F1:=aQe<|(aQ _).t aI dA;have b0:w1.heap[M (R w)]? =aC #[m.k,m.q,m.p,m.t,m.c] 119 (0,0):=(aI.block _ Xy id).t<|heap_alloc_new _ _;have hbz:=bF b0;have k3:w1 (M (R w),3)=(m.t):=aJ b0 3;have d4:=(F1.cell (p:=(yb,4)) aO id).t c4;have abW:yb<w1:=gZ aO F1.size;clear bV aI b0));apply aQY (aRs J _ _ _) J;exact⟨J,F1.alloc _⟩
 apply fin y.dn J;by_cases h1:y.dn=A;{exact .inl h1};(have BK:y.dn=false:=by simpa using h1);by_cases h2:z.s<2;{exact .inr<|.inl h2};exact .inr<|.inr λe=>hi ⟨BK,YV,e⟩
variable{W:ae}{B':Nat}{l:List Du}
def apN{v}(h:bI W B' 204 4 v l (l.flatMap Du.cs)):∃a c,v=.slice a l c/\l<=maxLen:=by rcases h.2 with⟨rfl,h0⟩|⟨g,cap,cur,rfl,_,_,h1,h2,_⟩;{exact⟨U,0,by rw[h0],YV⟩};exact⟨_,_,J,dX h1 h2⟩
def apO{a c n}(h:bI W B' 204 4 (.slice a n c) (O l) (l.flatMap Du.cs)){k}(hk:k<O l):∃g,a=Y ⟨g,0,U⟩/\g<W/\l<=c:=by rcases h.2 with⟨e,h0⟩|⟨g,cap,H,e,hg,h3,h1,_⟩;{omega};simp only[aQQ]at e;obtain⟨rfl,rfl,rfl⟩:=e;exact⟨g,J,(uZ.1 h3).1,h1⟩
def aCs(h:aY w B yb y)(hF:y.iH)(m)(hi:y.dn=ah/\2<=(aF y.L m.p).s/\(aF y.L m.p).t=m.t)(hD:O y.D<=24)(hO:(⟨4,m.p,0,(aF y.L m.p).t⟩:Rc).Ok):aH aj 143 #[ak yb,DZ m] w λe w'=>e=dZ #[]/\∃y',zJ y m y'/\dG w w' B yb y y':=by
 have H:=aQe h;have HF:=aQe hF;have HI:=aQe hi;have lu:I ((O y.L+1)*8<=2^47):=by have:=hF.lL;exact aQw
 have Io:I ((O y.L+1)*32<=2^47):=by have:=hF.lL;show(O y.L+1)*32<=2^47;omega
 have HD:I ((O y.D+1)*32<=2^47):=by show(O y.D+1)*32<=2^47;omega
 have HO:=aQe hO;have c4:au w (yb,4)=Y (y.dn):=h.c 4;rw[hi.1]at c4;have aO:=bF h.blk;have⟨z,hz⟩:∃z,aF y.L m.p=z:=⟨_,J⟩;have HZ:=aQe hz;rw[hz]at hi;have hs:decide (z.s<2)=false:=jr YV;have ht:(z.t !=m.t)=false:=by simp[hi.2.2]
 unfold DZ;clear h hF hz hi hD hO;go_enter func143,ntmps143;go_wp2_with (first|(go_at_call 105;apply(sG (H.a<|aQ _) m.p HF.arg lu).z;rw[HZ];rintro e w1 ⟨v1,rfl,bV,aI⟩;obtain⟨va,vc,rfl,_⟩:=jg bV;have F1:=aQe<|(aQ _).t aI dA;have b0:w1.heap[M (R w)]? =Y (aC #[m.k,m.q,m.p,m.t,m.c] 119 (0,0)):=(aI.block _ Xy id).t<|heap_alloc_new _ _;have B0:=aQe b0;have hbz:=bF b0;have k1:au w1 (M (R w),1)=Y (m.q):=aJ b0 1;have k2:au w1 (M (R w),2)=Y (V Z m.p):=aJ b0 2;have k3:au w1 (M (R w),3)=Y (V Z m.t):=aJ b0 3;have d4:=(F1.cell (p:=(yb,4)) aO id).t c4;have abW:yb<M (R w1):=gZ aO F1.size;clear bV aI b0)|(go_at_call 151;apply(aof (H.a<|F1.alloc _) m.p m.q HD).z;rintro e w2 ⟨rfl,dv,J9,bJ,hd2⟩;have A2:=aQe<|dG.aCq J9 bJ hd2;have b0:w2.heap[M (R w)]? =Y (aC #[V Z m.k,V Z m.q,V Z m.p,V Z m.t,aA m.c] 119 (0,0)):=(bJ.block _ Xz YV).t<|((aQ _).block _ hbz id).t B0;have BM:=aQe b0;have b1:w2.heap[M (R w1)]? =Y (aC #[V Z z.e,V Z z.t,V Z z.s,.slice va (O z.ps) vc] 157 (0,0)):=(bJ.block _ Xy YV).t<|heap_alloc_new _ _;have BS:=aQe b1;clear J9 bJ hd2 b0 b1));go_loopw [5] (λiv w'=>∃j,j<=(y.D.filter<|Du.stays m.p m.q).length/\iv=V Z j/\(∀d∈(y.D.filter<|Du.stays m.p m.q).take j,d.p≠m.p)/\Fr aB w2 w') (λiv _=>(y.D.filter<|Du.stays m.p m.q).length-(bM iv).toNat);case atStart=>exact⟨0,jQ _,J,Xy,Fr.refl _ _⟩
 case round=>obtain⟨j,hj,rfl,vK,bT⟩:=hrel;have FR:=aQe bT;have NO:=aQe vK;have AR:=aQe<|A2.at_.a bT;have bm:=(bT.block _ (bF BM) id).t BM;have bs:=(bT.block _ (bF BS) id).t BS;have q2:au wr (M (R w),2)=Y (V Z m.p):=aJ bm 2;have s1:au wr (M (R w1),1)=Y (V Z z.t):=aJ bs 1;have hbm:=bF bm;have Md:=bF bs;have Sr:=bF AR.blk;have⟨da,dc,Hf,Yh⟩:=apN AR.ik;have zF:au wr (yb,10)=Y dv:=AR.c 10;have KR:dv=.slice da (y.D.filter<|Du.stays m.p m.q).length dc:=Hf;rw[KR]at zF;have aCt:(y.D.filter<|Du.stays m.p m.q).length<=maxLen:=Yh;unfold cZ at aCt;(have RW:I (bI wr B 204 4 (.slice da (y.D.filter<|Du.stays m.p m.q).length dc) (y.D.filter<|Du.stays m.p m.q).length<|(y.D.filter<|Du.stays m.p m.q).flatMap Du.cs):=by rw[<-KR];exact AR.ik);clear bT vK bm bs Hf KR Yh;by_cases jD:j<(y.D.filter<|Du.stays m.p m.q).length;{obtain⟨g,rfl,hg,QO⟩:=apO RW jD;have⟨d,hd⟩:∃d,(y.D.filter<|Du.stays m.p m.q)[j]? =Y d:=⟨_,gG jD⟩;have HDJ:=aQe hd;have⟨r0,_,_,_⟩:=Xm RW hd;(have zg:(j:Int)<((y.D.filter<|Du.stays m.p m.q).length:Int):=YV);clear hd;by_cases he:d.p=m.p;{(have eb:(d.p==m.p)=true:=by simpa using he);go_wp2_with fail;go_quiet (fail);go_wp2;apply aQY (aRs J _ _ _) J;refine⟨J,_,.tie HI dv ⟨d,iO HDJ,he⟩,?_⟩;exact(A2.behind<|F1.alloc _).a<|FR.drewN _};{(have eb:(d.p==m.p)=false:=by simpa using he);go_wp2_with fail;go_quiet (fail);go_wp2;go_roundw;(case rel=>refine⟨j+1,YV,Y4,?_,FR.drewN _⟩;intro x hx;rw[uz,HDJ]at hx;rcases yu.1 hx with hx|hx;{exact NO x hx};simp only[Cb,yQ]at hx;subst hx;exact he);case measure=>simp[bM]<;>omega}};have afx:∀d∈y.D.filter (Du.stays m.p m.q),d.p≠m.p:=λd hd=>NO d (by rw[xN YV];exact hd);have HFU:=aQe afx;clear afx;go_wp2_with ((go_at_call 131;apply(ahF AR ⟨4,m.p,0,z.t⟩ (by have:=HO;rw[HZ]at this;exact this) Io).z;rintro e w5 ⟨ok,y5,rfl,hy5,uG⟩;have M5:=aQe uG;have Y5:=aQe hy5;clear uG hy5));go_end0;exact⟨J,y5,.done HI dv HFU (by rw[HZ];exact Y5),((A2.behind<|F1.alloc _).a FR).t M5⟩
def apQ(h:aY w B yb y)(hF:y.iH)(m)(hD:O y.D<=24)(hO:2<=(aF y.L m.p).s->(⟨4,m.p,0,(aF y.L m.p).t⟩:Rc).Ok):aH aj 143 #[ak yb,DZ m] w λe w'=>e=dZ #[]/\∃y',zJ y m y'/\dG w w' B yb y y':=by by_cases H:y.dn=ah/\2<=(aF y.L m.p).s/\(aF y.L m.p).t=m.t;{exact aCs h hF m H hD<|hO H.2.1};exact(aCr h hF m H).z λe w' ⟨h1,h2⟩=>⟨h1,y,.idle H,(dG.refl h).a h2⟩
end
end
