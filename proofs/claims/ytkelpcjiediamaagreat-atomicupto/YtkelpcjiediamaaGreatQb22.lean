import Derived.Test.YtkelpcjiediamaaGreatQb21
import Derived.BigRegion
set_option maxRecDepth 100000
set_option maxHeartbeats 0
set_option linter.all false
namespace Go.Proofs.YtkelpcjiediamaaGreat
def aDe:=@Go.World.ownsRow_lit
open Go renaming Calls→aK,TypeId→bW,Value→aj,World→ah,maxLen→dH
open Go.RowKit renaming intOf→dX
open Option renaming none→af,some→ae
open Go.Proofs.Tryz
open Go.RowKit Go.Maps
section
def HS.dE(h:HS)(i:Nat)(x:PS):HS:={h with ps:=h.ps.set i x}
def aeC:∀(l:List PS) (i j:Nat) (x x':PS) (v:aj),l[i]? =ae x->j<10->x'.cs=x.cs.set j v->(l.flatMap PS.cs).set (i*10+j) v=(l.set i x').flatMap PS.cs
 |[],i,j,x,x',v,h,_,_=>by simp at h
 |y::r,0,j,x,x',v,h,hj,hx=>by
  simp only[xA,fJ]at h;subst h;simp only[nZ,List.set_cons_zero,Nat.zero_mul,Cm];rw[List.set_append_left _ _ (by simp[PS.cs]<;>omega),hx]
 |y::r,i+1,j,x,x',v,h,hj,hx=>by
  simp only[zJ]at h;have:=aeC r i j x x' v h hj hx;simp only[nZ,List.set_cons_succ];rw[adI _ _ (by simp[PS.cs]<;>omega),<-this];congr 2;simp[PS.cs]<;>omega
variable{i q:Nat}{x x':PS}
def HS.amG{h:HS}{j:Nat}{v:aj}(hx:h.ps[i]? =ae x)(hj:j<10)(hv:x'.cs=x.cs.set j v):h.cells.toArray.setIfInBounds (6+i*10+j) v=(h.dE i x').cells.toArray:=by
 have hk:=(dD.1 hx).1;rw[List.setIfInBounds_toArray];congr 1;unfold HS.cells HS.dE;simp only;rw[adI _ _ (by simp<;>omega),List.set_append_left _ _ (by rw[UM];simp only[ny,vC];omega),<-aeC h.ps i j x x' v hx hj hv];congr 3;simp<;>omega
def rW{h:HS}(hx:h.ps[i]? =ae x):(h.dE i x').ps[i]? =ae x':=by
 have hk:=(dD.1 hx).1;simp[HS.dE,hk]
def JZ(x:PS)(hq:q<4):x.cs[3+q]? =ae (.int .i64<|x.aT.getD q 0):=by
 match q,hq with
 |0,_|1,_|2,_|3,_=>rfl
def UW(x:PS)(hq:q<4)(v:Int):(x.tie q v).cs=x.cs.set (3+q) (.int .i64 v):=by
 match q,hq with
 |0,_|1,_|2,_|3,_=>rfl
def FQ(h:HS)(i:Nat)(x x':PS):(h.dE i x).dE i x'=h.dE i x':=by simp[HS.dE]
section
variable{w w':ah}{B xb n:Nat}{h:HS}
def ay.setCell(hh:ay w B xb n h){i j:Nat}{x:PS}(x':PS){v:aj}(hx:h.ps[i]? =ae x)(hj:j<10)(hv:x'.cs=x.cs.set j v):ay (w.setCell ⟨xb,6+i*10+j,af⟩ v) B xb n (h.dE i x')/\Fr (fun k=>k=xb) w (w.setCell ⟨xb,6+i*10+j,af⟩ v):=by
 have f:Fr (fun k=>k=xb) w (w.setCell ⟨xb,6+i*10+j,af⟩ v):=(Fr.refl (fun k=>k=xb) w).setCell (p:=⟨xb,6+i*10+j,af⟩) (.inl rfl) v;refine⟨hh.put f ?_ rfl rfl rfl rfl rfl rfl rfl rfl<|by simp[HS.dE,hh.h6],f⟩;rw[jQ hh.blk,HS.amG hx hj hv]
abbrev vG(w:ah)(b xb:Nat):Prop:=w.heap[b]? =ae (.cells #[.pointer<|ae ⟨xb,4,af⟩] 181 (0,0))
variable{i b:Nat}{x:PS}
def ay.cellP(hh:ay w B xb n h)(hx:h.ps[i]? =ae x):
 (w.cell? ⟨xb,6+i*10,af⟩=ae (.int .i64 x.e)/\w.cell? ⟨xb,6+i*10+1,af⟩=ae (.int .i64 x.t)/\w.cell? ⟨xb,6+i*10+2,af⟩=ae (.int .i64 x.s))/\(∀o,w.frozen? ⟨xb,o,af⟩=false):=
 ⟨⟨hh.iJ hx 0 _ rfl,hh.iJ hx 1 _ rfl,hh.iJ hx 2 _ rfl⟩,jP hh.blk⟩
def aeD(hh:ay w B xb n h)(hb:vG w b xb)(hi:i<6)(hx:h.ps[i]? =ae x)(k a m:Int):
 aK prog 179 #[.agg #[.int .i64 k,.int .i64 i,.int .i64 a,.int .i64 m],.pointer<|ae ⟨b,0,af⟩] w fun e w'=>e=.returned (.tuple #[])/\ay w' B xb n (h.dE i {x with e:=m})/\Fr (fun k=>k=xb) w w':=by
 have HH:Hid (ay w B xb n h):=hh;have HX:Hid (h.ps[i]? =ae x):=hx;have k0:w.cell? ⟨b,0,af⟩=ae (.pointer<|ae ⟨xb,4,af⟩):=by rw[aG hb];rfl
 have DT:=aS hb;have fZ:=aS hh.blk;obtain⟨⟨e0,e1,e2⟩,ef⟩:=hh.cellP hx;have dF:(0:Int)<=(i:Int):=by omega
 have kG:(i:Int)<6:=by omega
 clear hh hx hb;go_enter func179,ntmps179
 go_wp2_with fail
 go_region
 go_end0
 have hs:=HH.out.setCell {x with e:=m} (j:=0) (v:=.int .i64 m) HX.out (by omega) rfl;have fa:Fr aH (w.setCell ⟨xb,6+i*10,af⟩<|.int .i64 m) ((w.setCell ⟨xb,6+i*10,af⟩<|.int .i64 m).alloc<|.cells #[.int .i64 k,.int .i64 i,.int .i64 a,.int .i64 m] 184).drew:=(aZ _).drew;exact⟨rfl,hs.1.after fa,hs.2.trans fa fun _ h=>h.elim⟩
def aeE(hh:ay w B xb n h){q:Nat}(hb:vG w b xb)(hi:i<6)(hq:q<4)(hx:h.ps[i]? =ae x)(k m:Int):
 aK prog 180 #[.agg #[.int .i64 k,.int .i64 i,.int .i64 q,.int .i64 m],.pointer<|ae ⟨b,0,af⟩] w fun e w'=>e=.returned (.tuple #[])/\ay w' B xb n (h.dE i<|({x with s:=1,t:=m}:PS).tie q 1)/\Fr (fun k=>k=xb) w w':=by
 have HH:Hid (ay w B xb n h):=hh;have HX:Hid (h.ps[i]? =ae x):=hx;have k0:w.cell? ⟨b,0,af⟩=ae (.pointer<|ae ⟨xb,4,af⟩):=by rw[aG hb];rfl
 have DT:=aS hb;have fZ:=aS hh.blk;obtain⟨⟨e0,e1,e2⟩,ef⟩:=hh.cellP hx;have e3:w.cell? ⟨xb,6+i*10+3+q,af⟩=ae (.int .i64<|x.aT.getD q 0):=by
  match q,hq with
  |0,_=>exact hh.iJ hx 3 _ rfl
  |1,_=>exact hh.iJ hx 4 _ rfl
  |2,_=>exact hh.iJ hx 5 _ rfl
  |3,_=>exact hh.iJ hx 6 _ rfl
 have dF:(0:Int)<=(i:Int):=by omega
 have kG:(i:Int)<6:=by omega
 have qV:(0:Int)<=(q:Int):=by omega
 have uV:(q:Int)<4:=by omega
 clear hh hx hb;go_enter func180,ntmps180
 go_wp2_with fail
 go_region
 go_wp2_with fail
 go_region
 go_wp2_with fail
 go_region
 go_end0
 have s1:=HH.out.setCell {x with s:=1} (j:=2) (v:=.int .i64 1) HX.out (by omega) rfl;have s2:=s1.1.setCell {x with s:=1,t:=m} (j:=1) (v:=.int .i64 m) (rW HX.out) (by omega) rfl;rw[FQ]at s2;have s3:=s2.1.setCell (({x with s:=1,t:=m}:PS).tie q 1) (j:=3+q) (v:=.int .i64 1) (rW HX.out) (by omega)<|UW _ hq 1;rw[FQ,<-yL]at s3;refine⟨rfl,?_,?_⟩
 ·exact s3.1.after (((aZ _).drew).drew).drew
 ·exact((s1.2.trans s2.2 fun _=>.inl).trans s3.2 fun _=>.inl).trans (((aZ _).drew).drew).drew fun _ h=>h.elim
def aeF:∀(l:List PS) (i:Nat) (x x':PS),l[i]? =ae x->∃u v,l.flatMap PS.cs=u++(x.cs++v)/\u.length=i*10/\(l.set i x').flatMap PS.cs=u++(x'.cs++v)
 |[],i,x,x',h=>by simp at h
 |y::r,0,x,x',h=>by
  simp only[xA,fJ]at h;subst h;exact⟨[],r.flatMap PS.cs,by simp,by simp,by simp⟩
 |y::r,i+1,x,x',h=>by
  simp only[zJ]at h;obtain⟨u,v,h1,h2,h3⟩:=aeF r i x x' h;exact⟨y.cs++u,v,by simp[h1],by simp[h2,PS.cs]<;>omega,by simp[h3]⟩
def aeG:∀(vs us pre post:List aj),us.length=vs.length->Nk (pre++(us++post)).toArray pre.length vs=(pre++(vs++post)).toArray
 |[],us,pre,post,h=>by
  have:us=[]:=Uo.1 h;subst this;rfl
 |v::vs,us,pre,post,h=>by
  match us,h with
  |u::us,h=>
   rw[Nk,List.setIfInBounds_toArray];have e1:(pre++(u::us++post)).set pre.length v=(pre++[v])++(us++post):=by
    rw[adI _ _<|bV _];simp
   rw[e1];have:=aeG vs us (pre++[v]) post (by simpa using h);rw[iQ,D9]at this;rw[this];simp
def HS.amH{h:HS}(x':PS)(hx:h.ps[i]? =ae x):Nk h.cells.toArray (6+i*10) x'.cs=(h.dE i x').cells.toArray:=by
 obtain⟨u,v,h1,h2,h3⟩:=aeF h.ps i x x' hx;unfold HS.dE HS.cells;simp only;rw[h1,h3];have:=aeG x'.cs x.cs ([.int .i64 h.P,.int .i64 h.Q,.int .i64 h.T,.int .i64 h.K,h.jv,.bool h.up]++u) (v++[.bool h.br,.int .i64 h.kp,h.pv,h.fv]) rfl;rw[iQ,h2]at this;simp only[Cj,ny,vC]at this⊢
 exact this
def aeH(hh:ay w B xb n h)(hb:vG w b xb)(hi:i<6)(hx:h.ps[i]? =ae x)(k a m:Int):
 aK prog 182 #[.agg #[.int .i64 k,.int .i64 i,.int .i64 a,.int .i64 m],.pointer<|ae ⟨b,0,af⟩] w fun e w'=>e=.returned (.tuple #[])/\ay w' B xb n (h.dE i ⟨x.e,x.t,0,0,0,0,0,0,0,0⟩)/\Fr (fun k=>k=xb) w w':=by
 have HH:Hid (ay w B xb n h):=hh;have HX:Hid (h.ps[i]? =ae x):=hx;have k0:w.cell? ⟨b,0,af⟩=ae (.pointer<|ae ⟨xb,4,af⟩):=by rw[aG hb];rfl
 have DT:=aS hb;have fZ:=aS hh.blk;obtain⟨⟨e0,e1,e2⟩,ef⟩:=hh.cellP hx;have e3:w.cell? ⟨xb,6+i*10+3,af⟩=ae (.int .i64 x.a):=hh.iJ hx 3 _ rfl;have e4:w.cell? ⟨xb,6+i*10+4,af⟩=ae (.int .i64 x.b):=hh.iJ hx 4 _ rfl;have e5:w.cell? ⟨xb,6+i*10+5,af⟩=ae (.int .i64 x.c):=hh.iJ hx 5 _ rfl;have e6:w.cell? ⟨xb,6+i*10+6,af⟩=ae (.int .i64 x.d):=hh.iJ hx 6 _ rfl;have e7:w.cell? ⟨xb,6+i*10+7,af⟩=ae (.int .i64 x.si):=hh.iJ hx 7 _ rfl;have e8:w.cell? ⟨xb,6+i*10+8,af⟩=ae (.int .i64 x.wa):=hh.iJ hx 8 _ rfl;have e9:w.cell? ⟨xb,6+i*10+9,af⟩=ae (.int .i64 x.ga):=hh.iJ hx 9 _ rfl;have dF:(0:Int)<=(i:Int):=by omega
 have kG:(i:Int)<6:=by omega
 clear hh hx hb;go_enter func182,ntmps182
 go_wp2_with fail
 go_region
 go_wp2_with fail
 go_region
 go_end0
 have fs:Fr (fun k=>k=xb) w (w.setCells xb (6+i*10) (⟨x.e,x.t,0,0,0,0,0,0,0,0⟩:PS).cs):=Fr.setCells (S:=fun k=>k=xb) (.inl rfl) _ _<|Fr.refl _ _;have hs:ay (w.setCells xb (6+i*10) (⟨x.e,x.t,0,0,0,0,0,0,0,0⟩:PS).cs) B xb n (h.dE i ⟨x.e,x.t,0,0,0,0,0,0,0,0⟩):=by
  refine HH.out.put fs ?_ rfl rfl rfl rfl rfl rfl rfl rfl (by simp[HS.dE,HH.out.h6]);rw[<-HS.amH _ HX.out];exact Ii _ _ HH.out.blk
 exact⟨rfl,hs.after<|((aZ _).drew).drew,fs.trans (((aZ _).drew).drew) fun _ h=>h.elim⟩
def aeI(ts:List Int)(l:Int):∀q∈bF ts l 4,∃q':Nat,q=q'/\q'<4:=by
 intro q hq;simp only[bF,Ie,JL,Ic]at hq;obtain⟨q',⟨h1,_⟩,rfl⟩:=hq;exact⟨q',rfl,h1⟩
def Io{w:ah}{B:Nat}{ty:bW}{wd:Nat}{v:aj}{n:Nat}{xs:List aj}(h:w.ownsRow B ty wd v n xs)(hn:0<n):∃g cap,v=.slice (ae ⟨g,0,af⟩) n cap/\n<=cap:=by
 rcases h.2 with⟨_,h0⟩|⟨g,cap,cur,hv,hb,hg,h1,h2,_⟩
 ·omega
 ·exact⟨g,cap,hv,h1⟩
def PS.pend(x:PS):List Int->PS
 |[]=>x
 |q::r=>(x.tie q 2).pend r
def PS.aeJ(x:PS)(l:List Int)(q:Int):x.pend (l++[q])=(x.pend l).tie q 2:=by
 induction l generalizing x with
 |nil=>rfl
 |cons a r ih=>exact ih<|x.tie a 2
def Zo(hh:ay w B xb n h)(hb:vG w b xb)(hi:i<6)(hx:h.ps[i]? =ae x)(k m:Int){c:Bool}{a s':Int}(ha:a=if c then 1 else 0)(sZ:s'=if c then 2 else 3):
 aK prog 181 #[.agg #[.int .i64 k,.int .i64 i,.int .i64 a,.int .i64 m],.pointer<|ae ⟨b,0,af⟩] w fun e w'=>e=.returned (.tuple #[])/\ay w' B xb n (h.dE i {({x with s:=s'}:PS).pend (bF x.aT 1 4)with wa:=1,ga:=1})/\Fr (fun k=>k=xb) w w':=by
 have HH:Hid (ay w B xb n h):=hh;have HX:Hid (h.ps[i]? =ae x):=hx;have k0:w.cell? ⟨b,0,af⟩=ae (.pointer<|ae ⟨xb,4,af⟩):=by rw[aG hb];rfl
 have DT:=aS hb;have fZ:=aS hh.blk;obtain⟨⟨e0,e1,e2⟩,ef⟩:=hh.cellP hx;have dF:(0:Int)<=(i:Int):=by omega
 have kG:(i:Int)<6:=by omega
 clear hh hx hb;cases c
 ·obtain rfl:a=0:=ha;obtain rfl:s'=3:=sZ;go_enter func181,ntmps181
  go_wp2_with fail
  go_region
  go_wp2_with fail
  have hW:=(HH.out.setCell {x with s:=3} (j:=2) (v:=.int .i64 3) HX.out (by omega) rfl);have fW:Fr aH (w.setCell ⟨xb,6+i*10+2,af⟩<|.int .i64 3) ((w.setCell ⟨xb,6+i*10+2,af⟩<|.int .i64 3).alloc<|.cells #[.int .i64 k,.int .i64 i,.int .i64 0,.int .i64 m] 184).drew:=(aZ _).drew;replace hW:=(⟨hW.1.after fW,hW.2.trans fW fun _ h=>h.elim⟩:ay _ B xb n (h.dE i {x with s:=3})/\Fr (fun k=>k=xb) w _);generalize((w.setCell ⟨xb,6+i*10+2,af⟩<|.int .i64 3).alloc<|.cells #[.int .i64 k,.int .i64 i,.int .i64 0,.int .i64 m] 184).drew=W at hW⊢
  clear fW;have HW:Hid (ay W B xb n<|h.dE i {x with s:=3}):=hW.1;have FW:Hid (Fr (fun k=>k=xb) w W):=hW.2;have bx:xb<W.heap.size:=dY fZ hW.2.size;have Ig:Hid (∀j v,({x with s:=3}:PS).cs[j]? =ae v->W.cell? ⟨xb,6+i*10+j,af⟩=ae v):=fun j v hv=>hW.1.iJ (rW HX.out) j v hv;clear hW e0 e1 e2 ef;refine(JX (p:={x with s:=3}) Ig.out 1).mono ?_;rintro e w1 ⟨v,rfl,hv,hf⟩;have F1:Hid (Fr aH W w1):=hf;obtain⟨S,hS⟩:∃S,bF ({x with s:=3}:PS).aT 1 4=S:=⟨_,rfl⟩;have HS:Hid (bF x.aT 1 4=S):=hS;have Qc:Hid (∀q∈S,∃q':Nat,q=q'/\q'<4):=by
   show∀q∈S,∃q':Nat,q=q'/\q'<4;rw[<-hS];exact aeI _ _
  rw[hS]at hv;have V1:Hid (zQ W w1 v S):=hv;have H1:Hid (ay w1 B xb n<|h.dE i {x with s:=3}):=HW.out.after hf;obtain⟨va,vc,rfl,BL⟩:=lC hv;have Jn:S.length<=4:=by rw[<-hS];exact Zj _ _ _
  clear hf hS hv BL;go_wp2_with fail
  go_loopw [24] (fun ii w'=>∃j:Nat,j<=S.length/\ii=.int .i64 j/\ay w' B xb n (h.dE i<|({x with s:=3}:PS).pend<|S.take j)/\Fr (fun k=>k=xb) w1 w') (fun ii _=>(S.length-dX ii).toNat)
  case atStart=>exact⟨0,by omega,rfl,H1.out,Fr.refl _ _⟩
  case round=>
   obtain⟨j,hj,rfl,dM,dA⟩:=hrel
   have HR:Hid (ay wr B xb n<|h.dE i<|({x with s:=3}:PS).pend<|S.take j):=dM
   have FR:Hid (Fr (fun k=>k=xb) w1 wr):=dA
   have rf:∀o,wr.frozen? ⟨xb,o,af⟩=false:=jP dM.blk
   by_cases aB:j<S.length
   ·obtain⟨q,hq⟩:∃q,S[j]? =ae q:=⟨_,dR aB⟩
    obtain⟨q',rfl,l9⟩:=Qc.out q<|fD hq
    have HT:Hid (({x with s:=3}:PS).pend (S.take<|j+1)=(({x with s:=3}:PS).pend<|S.take j).tie q' 2):=by
     show PS.pend _ _=_;rw[zK,hq,Ea,PS.aeJ]
    have bY:=dA.ownsRow V1.out (fun k hk e=>by have:=(V1.out.lt k hk).1;omega)
    obtain⟨g,gc,wz,_⟩:=Io bY<|by omega
    simp only[aB7]at wz
    obtain⟨rfl,_,rfl⟩:=wz
    have cq:=zO bY hq
    have e3:wr.cell? ⟨xb,6+i*10+3+q',af⟩=ae (.int .i64<|(({x with s:=3}:PS).pend<|S.take j).aT.getD q' 0):=by
     rw[yL];exact dM.iJ (rW HX.out) (3+q') _<|JZ _ l9
    have qV:(0:Int)<=(q':Int):=by omega
    have uV:(q':Int)<4:=by omega
    have hj0:(0:Int)<=(j:Int):=by omega
    have qW:(j:Int)<S.length:=by omega
    clear bY dM dA hq
    go_wp2_with fail
    go_roundw
    case rel=>
     have hs:=HR.out.setCell ((({x with s:=3}:PS).pend<|S.take j).tie q' 2) (j:=3+q') (v:=.int .i64 2) (rW HX.out) (by omega)<|UW _ l9 2
     rw[FQ,<-yL]at hs
     refine⟨j+1,by omega,by go_num,?_,FR.out.trans hs.2 fun _=>.inl⟩
     rw[HT.out]
     exact hs.1
    case measure=>simp[dX]<;>omega
   ·have HT:Hid (S.take j=S):=D8 (by omega)
    have e8:=dM.iJ (rW HX.out) 8 _ rfl
    have e9:=dM.iJ (rW HX.out) 9 _ rfl
    clear dM dA
    go_wp2_with fail
    go_end0
    have s1:=HR.out.setCell {(({x with s:=3}:PS).pend<|S.take j)with wa:=1} (j:=8) (v:=.int .i64 1) (rW HX.out) (by omega) rfl
    rw[FQ]at s1
    have s2:=s1.1.setCell {(({x with s:=3}:PS).pend<|S.take j)with wa:=1,ga:=1} (j:=9) (v:=.int .i64 1) (rW HX.out) (by omega) rfl
    rw[FQ]at s2
    refine⟨rfl,?_,(((FW.out.trans F1.out fun _ h=>h.elim).trans FR.out fun _=>.inl).trans s1.2 fun _=>.inl).trans s2.2 fun _=>.inl⟩
    rw[HS.out,<-HT.out]
    exact s2.1
 ·obtain rfl:a=1:=ha;obtain rfl:s'=2:=sZ;go_enter func181,ntmps181
  go_wp2_with fail
  go_region
  go_wp2_with fail
  have Jp:=(HH.out.setCell {x with s:=3} (j:=2) (v:=.int .i64 3) HX.out (by omega) rfl);have hW:=(Jp.1.setCell {x with s:=2} (j:=2) (v:=.int .i64 2) (rW HX.out) (by omega) rfl);rw[FQ]at hW;have fW:Fr aH ((w.setCell ⟨xb,6+i*10+2,af⟩<|.int .i64 3).setCell ⟨xb,6+i*10+2,af⟩<|.int .i64 2) (((w.setCell ⟨xb,6+i*10+2,af⟩<|.int .i64 3).setCell ⟨xb,6+i*10+2,af⟩<|.int .i64 2).alloc<|.cells #[.int .i64 k,.int .i64 i,.int .i64 1,.int .i64 m] 184).drew:=(aZ _).drew;replace hW:=(⟨hW.1.after fW,(Jp.2.trans hW.2 fun _=>.inl).trans fW fun _ h=>h.elim⟩:ay _ B xb n (h.dE i {x with s:=2})/\Fr (fun k=>k=xb) w _);generalize(((w.setCell ⟨xb,6+i*10+2,af⟩<|.int .i64 3).setCell ⟨xb,6+i*10+2,af⟩<|.int .i64 2).alloc<|.cells #[.int .i64 k,.int .i64 i,.int .i64 1,.int .i64 m] 184).drew=W at hW⊢
  clear fW Jp;have HW:Hid (ay W B xb n<|h.dE i {x with s:=2}):=hW.1;have FW:Hid (Fr (fun k=>k=xb) w W):=hW.2;have bx:xb<W.heap.size:=dY fZ hW.2.size;have Ig:Hid (∀j v,({x with s:=2}:PS).cs[j]? =ae v->W.cell? ⟨xb,6+i*10+j,af⟩=ae v):=fun j v hv=>hW.1.iJ (rW HX.out) j v hv;clear hW e0 e1 e2 ef;refine(JX (p:={x with s:=2}) Ig.out 1).mono ?_;rintro e w1 ⟨v,rfl,hv,hf⟩;have F1:Hid (Fr aH W w1):=hf;obtain⟨S,hS⟩:∃S,bF ({x with s:=2}:PS).aT 1 4=S:=⟨_,rfl⟩;have HS:Hid (bF x.aT 1 4=S):=hS;have Qc:Hid (∀q∈S,∃q':Nat,q=q'/\q'<4):=by
   show∀q∈S,∃q':Nat,q=q'/\q'<4;rw[<-hS];exact aeI _ _
  rw[hS]at hv;have V1:Hid (zQ W w1 v S):=hv;have H1:Hid (ay w1 B xb n<|h.dE i {x with s:=2}):=HW.out.after hf;obtain⟨va,vc,rfl,BL⟩:=lC hv;have Jn:S.length<=4:=by rw[<-hS];exact Zj _ _ _
  clear hf hS hv BL;go_wp2_with fail
  go_loopw [24] (fun ii w'=>∃j:Nat,j<=S.length/\ii=.int .i64 j/\ay w' B xb n (h.dE i<|({x with s:=2}:PS).pend<|S.take j)/\Fr (fun k=>k=xb) w1 w') (fun ii _=>(S.length-dX ii).toNat)
  case atStart=>exact⟨0,by omega,rfl,H1.out,Fr.refl _ _⟩
  case round=>
   obtain⟨j,hj,rfl,dM,dA⟩:=hrel
   have HR:Hid (ay wr B xb n<|h.dE i<|({x with s:=2}:PS).pend<|S.take j):=dM
   have FR:Hid (Fr (fun k=>k=xb) w1 wr):=dA
   have rf:∀o,wr.frozen? ⟨xb,o,af⟩=false:=jP dM.blk
   by_cases aB:j<S.length
   ·obtain⟨q,hq⟩:∃q,S[j]? =ae q:=⟨_,dR aB⟩
    obtain⟨q',rfl,l9⟩:=Qc.out q<|fD hq
    have HT:Hid (({x with s:=2}:PS).pend (S.take<|j+1)=(({x with s:=2}:PS).pend<|S.take j).tie q' 2):=by
     show PS.pend _ _=_;rw[zK,hq,Ea,PS.aeJ]
    have bY:=dA.ownsRow V1.out (fun k hk e=>by have:=(V1.out.lt k hk).1;omega)
    obtain⟨g,gc,wz,_⟩:=Io bY<|by omega
    simp only[aB7]at wz
    obtain⟨rfl,_,rfl⟩:=wz
    have cq:=zO bY hq
    have e3:wr.cell? ⟨xb,6+i*10+3+q',af⟩=ae (.int .i64<|(({x with s:=2}:PS).pend<|S.take j).aT.getD q' 0):=by
     rw[yL];exact dM.iJ (rW HX.out) (3+q') _<|JZ _ l9
    have qV:(0:Int)<=(q':Int):=by omega
    have uV:(q':Int)<4:=by omega
    have hj0:(0:Int)<=(j:Int):=by omega
    have qW:(j:Int)<S.length:=by omega
    clear bY dM dA hq
    go_wp2_with fail
    go_roundw
    case rel=>
     have hs:=HR.out.setCell ((({x with s:=2}:PS).pend<|S.take j).tie q' 2) (j:=3+q') (v:=.int .i64 2) (rW HX.out) (by omega)<|UW _ l9 2
     rw[FQ,<-yL]at hs
     refine⟨j+1,by omega,by go_num,?_,FR.out.trans hs.2 fun _=>.inl⟩
     rw[HT.out]
     exact hs.1
    case measure=>simp[dX]<;>omega
   ·have HT:Hid (S.take j=S):=D8 (by omega)
    have e8:=dM.iJ (rW HX.out) 8 _ rfl
    have e9:=dM.iJ (rW HX.out) 9 _ rfl
    clear dM dA
    go_wp2_with fail
    go_end0
    have s1:=HR.out.setCell {(({x with s:=2}:PS).pend<|S.take j)with wa:=1} (j:=8) (v:=.int .i64 1) (rW HX.out) (by omega) rfl
    rw[FQ]at s1
    have s2:=s1.1.setCell {(({x with s:=2}:PS).pend<|S.take j)with wa:=1,ga:=1} (j:=9) (v:=.int .i64 1) (rW HX.out) (by omega) rfl
    rw[FQ]at s2
    refine⟨rfl,?_,(((FW.out.trans F1.out fun _ h=>h.elim).trans FR.out fun _=>.inl).trans s1.2 fun _=>.inl).trans s2.2 fun _=>.inl⟩
    rw[HS.out,<-HT.out]
    exact s2.1
end
end
def amI(m k:Nat):jJ m (k+1)=UInt8.ofNat (m/256^k%256)::jJ m k:=by
 induction k generalizing m with
 |zero=>simp[jJ]
 |succ k ih=>
  rw[jJ,ih<|m/256];show UInt8.ofNat (m/256/256^k%256)::jJ (m/256) k++[UInt8.ofNat<|m%256]=_;rw[Nat.div_div_eq_div_mul,Nat.pow_succ,YN];rfl
def amJ(m k i:Nat)(h:i<k):(jJ m k)[i]? =ae (UInt8.ofNat<|m/256^(k-1-i)%256):=by
 induction k generalizing i with
 |zero=>omega
 |succ k ih=>
  rw[amI];match i with
  |0=>simp
  |i+1=>
   rw[zJ,ih i<|by omega];have:k-1-i=k+1-1-(i+1):=by omega
   rw[this]
def numOf(l:List UInt8):Nat:=l.foldl (fun n x=>n*256+x.toNat) 0
def Zp(l:List UInt8)(x:UInt8):numOf (l++[x])=numOf l*256+x.toNat:=by simp[numOf,UC]
def amK(l:List UInt8):numOf l<256^l.length:=by
 suffices h:∀(k:Nat) (l:List UInt8),l.length=k->numOf l<256^k from h _ l rfl
 intro k;induction k with
 |zero=>intro l hl;rw[Uo.1 hl];simp[numOf]
 |succ k ih=>
  intro l hl;have bM:l≠[]:=fun e=>by simp[e]at hl
  rw[<-List.dropLast_concat_getLast bM,Zp];have h1:=ih l.dropLast (by simp[hl]);have h2:=(l.getLast bM).toNat_lt;rw[Nat.pow_succ];simp at h2;omega
def amL(m k:Nat):numOf (jJ m k)=m%256^k:=by
 induction k generalizing m with
 |zero=>simp[jJ,numOf,Nat.mod_one]
 |succ k ih=>
  rw[jJ,Zp,ih,Nat.pow_succ,YN<|256^k,Nat.mod_mul];simp<;>omega
def aeK{m k:Nat}(h:m<256^k):numOf (jJ m k)=m:=by rw[amL,Nat.mod_eq_of_lt h]
section
def mW(l:List UInt8):Int:=(pK l).2*65536+(pK l).1
def wrap_u32{n:Int}(h0:0<=n)(hm:n<4294967296):IntKind.u32.wrap n=n:=by
 unfold IntKind.wrap;simp[IntKind.bits,IntKind.signed]<;>omega
def wrap_u64{n:Int}(h0:0<=n)(hm:n<18446744073709551616):IntKind.u64.wrap n=n:=by
 unfold IntKind.wrap;simp[IntKind.bits,IntKind.signed]<;>omega
def rZ(w:ah)(g o:Nat)(l:List UInt8):Prop:=∀j x,l[j]? =ae x->w.cell? ⟨g,o+j,af⟩=ae (.int .u8 x.toNat)
variable{n g o cap x:Nat}{w:ah}{l:List UInt8}
def aeL(h:rZ w g o l)(hl:l.length<=1000):
 aK prog 195 #[.slice (ae ⟨g,o,af⟩) l.length cap] w fun e w'=>e=.returned (.int .u32<|mW l)/\w=w':=by
 have HB:Hid (rZ w g o l):=h;obtain⟨n,hn⟩:∃n,l.length=n:=⟨_,rfl⟩;rw[hn]at hl⊢
 clear h;go_enter func195,ntmps195
 go_wp2_with fail
 go_loopw [3,4,9] (fun a b i w'=>∃k:Nat,k<=n/\i=.int .i64 k/\a=.int .u32 (pK<|l.take k).1/\b=.int .u32 (pK<|l.take k).2/\w=w') (fun _ _ i _=>(n-dX i).toNat)
 case atStart=>exact⟨0,by omega,rfl,rfl,rfl,rfl⟩
 case round=>
  obtain⟨k,hk,rfl,rfl,rfl,rfl⟩:=hrel
  by_cases aB:k<n
  ·obtain⟨c,hc⟩:∃c,l[k]? =ae c:=⟨_,dR<|by omega⟩
   have hcell:=HB.out k c hc
   have HA:Hid (pK (l.take<|k+1)=A7 (pK<|l.take k) c):=by show pK (l.take<|k+1)=_;rw[zK,hc,Ea,amA]
   have CO:=P7<|l.take k
   generalize pK (l.take k)=ab at HA CO
   obtain⟨a,b⟩:=ab
   simp only at CO⊢
   obtain⟨i1,i2,i3,i4⟩:=CO
   obtain⟨x,hx⟩:∃x:Int,(c.toNat:Int)=x:=⟨_,rfl⟩
   rw[hx]at hcell
   have pq:0<=x:=by omega
   have gq:x<256:=by have:=c.toNat_lt;omega
   obtain⟨a1,LJ⟩:∃a1:Int,(a+x)%65521=a1:=⟨_,rfl⟩
   obtain⟨b1,BN⟩:∃b1:Int,(b+a1)%65521=b1:=⟨_,rfl⟩
   have q1:IntKind.u32.wrap (a+x)=a+x:=wrap_u32 (by omega)<|by omega
   have q2:(a+x).tmod 65521=a1:=by rw[ak9<|by omega];exact LJ
   have q3:IntKind.u32.wrap (b+a1)=b+a1:=wrap_u32 (by omega)<|by omega
   have q4:(b+a1).tmod 65521=b1:=by rw[ak9<|by omega];exact BN
   have q5:IntKind.u32.wrap x=x:=wrap_u32 pq<|by omega
   have q6:IntKind.u32.wrap a1=a1:=wrap_u32 (by omega)<|by omega
   have q7:IntKind.u32.wrap b1=b1:=wrap_u32 (by omega)<|by omega
   have Jl:Hid (pK (l.take<|k+1)=(a1,b1)):=by show pK (l.take<|k+1)=(a1,b1);rw[HA.out];simp only[A7];rw[hx,LJ,BN]
   have sV:(0:Int)<=(k:Int):=by omega
   have aI:(k:Int)<n:=by omega
   clear HA LJ BN i1 i2 i3 i4 pq gq hc
   go_wp2_with fail
   go_roundw
   case rel=>exact⟨k+1,by omega,by go_num,by rw[Jl.out],by rw[Jl.out],trivial⟩
   case measure=>simp[dX]<;>omega
  ·have hkn:k=n:=by omega
   have HT:Hid (l.take k=l):=D8<|by omega
   subst hkn
   have CO:=P7 l
   have HE:Hid (mW l=(pK l).2*65536+(pK l).1):=rfl
   rw[HT.out]
   generalize pK l=ab at CO HE
   obtain⟨a,b⟩:=ab
   simp only at CO⊢
   obtain⟨i1,i2,i3,i4⟩:=CO
   have q1:IntKind.u32.wrap (b*65536)=b*65536:=wrap_u32 (by omega)<|by omega
   have q2:IntKind.u32.wrap (b*65536+a)=b*65536+a:=wrap_u32 (by omega)<|by omega
   clear i1 i2 i3 i4
   go_wp2_with fail
   go_ret
   exact⟨by rw[HE.out];rfl,rfl⟩
def amM(hn:n<72057594037927936)(hx:x<256):(BitVec.ofInt 64 ((n:Int)*256)|||BitVec.ofInt 64 (x:Int)).toNat=n*256+x:=by
 have e1:BitVec.ofInt 64 ((n:Int)*256)=BitVec.ofNat 64 (n*256):=by
  apply BitVec.eq_of_toNat_eq;simp<;>omega
 have e2:BitVec.ofInt 64 (x:Int)=BitVec.ofNat 64 x:=by
  apply BitVec.eq_of_toNat_eq;simp
 rw[e1,e2,BitVec.toNat_or,BitVec.toNat_ofNat,BitVec.toNat_ofNat,Nat.mod_eq_of_lt<|by omega,Nat.mod_eq_of_lt<|by omega];have:=Nat.two_pow_add_eq_or_of_lt (i:=8) (show x<2^8 by omega) n;rw[YN n 256];exact this.symm
def amN(hn:n<72057594037927936)(hx:x<256):bits .or .u64 ((n:Int)*256) (x:Int)=((n*256+x:Nat):Int):=by
 have:=amM hn hx;show IntKind.u64.wrap _=_;rw[show(BitVec.ofInt IntKind.u64.bits ((n:Int)*256)|||BitVec.ofInt IntKind.u64.bits (x:Int)).toNat=n*256+x from this];exact wrap_u64 (by omega)<|by omega
def aeM(h:rZ w g o l)(hl:l.length<=8):
 aK prog 178 #[.slice (ae ⟨g,o,af⟩) l.length cap] w fun e w'=>e=.returned (.int .u64<|numOf l)/\w=w':=by
 have HB:Hid (rZ w g o l):=h;obtain⟨n,hn⟩:∃n,l.length=n:=⟨_,rfl⟩;rw[hn]at hl⊢
 clear h;go_enter func178,ntmps178
 go_wp2_with fail
 go_loopw [3,8] (fun a i w'=>∃k:Nat,k<=n/\i=.int .i64 k/\a=.int .u64 (numOf<|l.take k)/\w=w') (fun _ i _=>(n-dX i).toNat)
 case atStart=>exact⟨0,by omega,rfl,rfl,rfl⟩
 case round=>
  obtain⟨k,hk,rfl,rfl,rfl⟩:=hrel
  by_cases aB:k<n
  ·obtain⟨c,hc⟩:∃c,l[k]? =ae c:=⟨_,dR<|by omega⟩
   have hcell:=HB.out k c hc
   have HA:Hid (numOf (l.take<|k+1)=numOf (l.take k)*256+c.toNat):=by show numOf (l.take<|k+1)=_;rw[zK,hc,Ea,Zp]
   have nU:=amK<|l.take k
   have hp:256^(l.take k).length<=256^7:=Nat.pow_le_pow_right (by omega) (by simp<;>omega)
   generalize numOf (l.take k)=m at HA nU⊢
   have hm:m<72057594037927936:=by omega
   obtain⟨x,hx⟩:∃x:Nat,c.toNat=x:=⟨_,rfl⟩
   rw[hx]at hcell HA
   have gq:x<256:=by have:=c.toNat_lt;omega
   clear nU hp hx hc
   go_wp2_with fail
   go_roundw
   case rel=>exact⟨k+1,by omega,by go_num,by rw[HA.out,amN hm gq],trivial⟩
   case measure=>simp[dX]<;>omega
  ·have hkn:k=n:=by omega
   have HT:Hid (l.take k=l):=D8<|by omega
   subst hkn
   rw[HT.out]
   go_wp2_with fail
   go_ret
   exact⟨rfl,rfl⟩
def rZ.sub(h:rZ w g o l)(i n:Nat):rZ w g (o+i) ((l.drop i).take n):=fun j x hj=>by
 rw[List.getElem?_take]at hj;split at hj
 ·rw[List.getElem?_drop]at hj;rw[yL];exact h _ _ hj
 ·cases hj
def Qd(l:List UInt8):Bool:=decide<|((numOf ((l.drop 12).take 4):Nat):Int)=mW (l.take 12)
def amO(w:ah)(a:Option Addr)(hn:n<16):aK prog 177 #[.slice a n cap] w fun r w'=>r=.returned (.bool false)/\Fr aH w w':=by
 match n,hn with
 |0,_|1,_|2,_|3,_|4,_|5,_|6,_|7,_|8,_|9,_|10,_|11,_|12,_|13,_|14,_|15,_=>
  go_enter func177,ntmps177
  go_wp2_with fail
  go_quiet (fail)
  go_wp2
  go_ret;exact⟨rfl,(Fr.refl _ _).drewN _⟩
 |n+16,h=>omega
def amP(h:rZ w g o l)(hl:16<=l.length)(uU:l.length<=cap):
 aK prog 177 #[.slice (ae ⟨g,o,af⟩) l.length cap] w fun e w'=>e=.returned (.bool<|Qd l)/\Fr aH w w':=by
 have H1:Hid (rZ w g (o+12)<|(l.drop 12).take 4):=h.sub 12 4;have H2:Hid (rZ w g o<|l.take 12):=by have:=h.sub 0 12;simp at this;exact this
 have L1:Hid (((l.drop 12).take 4).length=4):=by show((l.drop 12).take 4).length=4;simp<;>omega
 have L2:Hid ((l.take 12).length=12):=by show(l.take 12).length=12;simp<;>omega
 have HW:Hid (Qd l=decide (((numOf ((l.drop 12).take 4):Nat):Int)=mW (l.take 12))):=rfl;obtain⟨n,hn⟩:∃n,l.length=n:=⟨_,rfl⟩;rw[hn]at hl uU⊢
 generalize(l.drop 12).take 4=l1 at H1 L1 HW;generalize l.take 12=l2 at H2 L2 HW;have rG:(16:Int)<=n:=by omega
 have eF:=P7 l2;have S9:0<=mW l2:=by unfold mW;omega
 have Zq:mW l2<4294967296:=by unfold mW;omega
 have as2:IntKind.u64.wrap (mW l2)=mW l2:=wrap_u64 S9 (by omega);have oH:(16:Int)<=cap:=by omega
 have kM:(12:Int)<=cap:=by omega
 have hc3:¬cap=12:=by omega
 clear h eF;go_enter func177,ntmps177
 go_wp2_with fail
 go_region_held3 (fun _=>True) (first|trivial|go_keep)
  (first
    |(go_at_call 178;refine(show aK prog 178 _ _ _ from by have:=aeM (w:=w.drew) (cap:=cap-12) H1.out (by have:=L1.out;omega);rw[L1.out]at this;exact this).mono ?_;rintro e w1 ⟨rfl,rfl⟩)
    |(go_at_call 195;refine(show aK prog 195 _ _ _ from by have:=aeL (w:=w.drew) (cap:=cap) H2.out (by have:=L2.out;omega);rw[L2.out]at this;exact this).mono ?_;rintro e w2 ⟨rfl,rfl⟩))
 go_wp2
 go_ret;exact⟨by rw[HW.out];exact eP (fun b=>Ending.returned<|.bool b) rfl,(Fr.refl _ _).drew⟩
end
section
def Zr:(prog.info? 5).map (fun i=>(i.zero,i.size,i.bytes))=ae (ae<|.int .u8 0,1,1):=by kernel_rfl
def ed(l:List UInt8):List Value:=l.map fun b=>.int .u8 b.toNat
def FT(l:List UInt8):(ed l).length=l.length:=by simp[ed]
def Zt(l m:List UInt8):ed (l++m)=ed l++ed m:=by simp[ed]
def amR(m j:Nat):((m:Int)/2^(8*j)%256)=((UInt8.ofNat<|m/256^j%256).toNat:Int):=by
 rw[UInt8.toNat_ofNat'];have:(2:Int)^(8*j)=((256^j:Nat):Int):=by
  rw[Int.pow_mul];simp
 rw[this];omega
variable{w:ah}{B n:Nat}{l:List UInt8}{x:Int}
def aeN{v:aj}{m k:Nat}(h:w.ownsRow B 5 1 v l.length (ed l))(hk:k<=8)(hl:l.length<=1000)(hB:B<=w.heap.size):
 aK prog 194 #[v,.int .u64 m,.int .i64 k] w fun e w'=>∃v',e=.returned v'/\w'.ownsRow B 5 1 v' (l++jJ m k).length (ed<|l++jJ m k)/\Fr (fun x=>B<=x) w w':=by
 have HV:Hid (w.ownsRow B 5 1 v l.length<|ed l):=h;obtain⟨i0,dF,gG,fO,iH⟩:=aCf Zr;clear h;go_enter func194,ntmps194
 go_wp2_with fail
 go_loopw [0,9] (fun v' i w'=>∃j:Nat,j<=k/\i=.int .i64 j/\w'.ownsRow B 5 1 v' (l++(jJ m k).take j).length (ed<|l++(jJ m k).take j)/\Fr (fun x=>B<=x) w w') (fun _ i _=>(k-dX i).toNat)
 case atStart=>exact⟨0,by omega,rfl,by simpa using HV.out,Fr.refl _ _⟩
 case round=>
  obtain⟨j,hj,rfl,bY,dA⟩:=hrel
  have HF:Hid (Fr (fun x=>B<=x) w wr):=dA
  obtain⟨p,hp⟩:∃p,l++(jJ m k).take j=p:=⟨_,rfl⟩
  rw[hp]at bY
  have HP:Hid (l++(jJ m k).take j=p):=hp
  have iF:p.length=l.length+j:=by rw[<-hp];simp[PZ]<;>omega
  have dS:=dA.size
  have rH:p.length<=1008:=by omega
  obtain⟨va,vc,rfl,_⟩:=oL bY
  obtain⟨pl,O1⟩:∃pl,p.length=pl:=⟨_,rfl⟩
  have HW:Hid (wr.ownsRow B 5 1 (.slice va pl vc) pl<|ed p):=by rw[<-O1];exact bY
  rw[O1]at rH⊢
  have yP:Hid (p.length=pl):=O1
  by_cases aB:j<k
  ·have HG:Hid (l++(jJ m k).take (j+1)=p++[UInt8.ofNat<|m/256^(k-1-j)%256]):=by
    show l++(jJ m k).take (j+1)=_;rw[zK,amJ m k j aB,Ea,<-Cj,HP.out]
   have HBY:Hid ((m:Int)/2^(8*(k-1-j))%256=((UInt8.ofNat<|m/256^(k-1-j)%256).toNat:Int)):=amR m<|k-1-j
   clear dA hp iF O1 bY
   have qW:(j:Int)<k:=by omega
   have q1:(0:Int)<=(k:Int)-1-j:=by omega
   go_wp2_with (at_builtin;refine aCv _ rfl _ _ 99 rfl B 5 i0 _ 1 1 underlying99 dF gG fO iH rfl (by decide) _ _ (ed p) rfl (by exact HW.out.alloc _) ⟨wr.heap.size,0,af⟩ 1 1 [.int .u8<|(m:Int)/2^(8*(k-1-j))%256] rfl rfl (aB9 (cs:=#[.int .u8<|(m:Int)/2^(8*(k-1-j))%256]) (t:=5) (fr:=(0,0))<|aB0 _ _) (by simp[Value.oneCell']) (by decide) (by simp only[dH];omega) (by omega) (by simp<;>omega) (wr.heap.size+1) (by simp) ?_;intro gg Nh w3 o9 lV uF uT)
   go_roundw
   case rel=>
    have BK:Fr (fun x=>B<=x) wr w3:=((Fr.refl _ _).alloc _).grown lV fun x ex=>.inl (HW.out.lt x ex).1
    refine⟨j+1,by omega,by go_num,?_,HF.out.trans BK fun _ h=>.inl h⟩
    rw[HG.out,iQ,yP.out,Zt]
    rw[HBY.out]at o9
    exact o9
   case measure=>simp[dX]<;>omega
  ·have LM:j=k:=by omega
   have HT:Hid (l++jJ m k=p):=by have:=HP.out;rw[D8 (by rw[PZ];omega)]at this;exact this
   clear dA hp iF O1 bY
   subst LM
   go_wp2_with fail
   go_ret
   exact⟨_,rfl,by rw[HT.out,yP.out];exact HW.out,HF.out⟩
def rZ.aeO{g cap:Nat}(h:w.ownsRow B 5 1 (.slice (ae ⟨g,0,af⟩) n cap) l.length (ed l)):rZ w g 0 l:=fun j x hj=>by
 have:=h.cells (g:=g) rfl j (.int .u8 x.toNat) (by simp[ed,hj]);rw[aCo]at this;exact this
def Zu(h0:0<=x)(h1:x<256):IntKind.u8.wrap x=x:=by
 unfold IntKind.wrap;simp[IntKind.bits,IntKind.signed]<;>omega
def FU(h0:0<=x)(h1:x<256):jJ x.toNat 1=[UInt8.ofNat x.toNat]:=by
 simp[jJ];congr 1;omega
def toNat_one(h0:0<=x)(h1:x<256):((UInt8.ofNat x.toNat).toNat:Int)=x:=by
 rw[UInt8.toNat_ofNat'];omega
def Zv(w:ah){r:Rc}(h:r.Small n)(hn:n<1000000000000):
 aK prog 171 #[.agg #[.int .i64 r.k,.int .i64 r.p,.int .i64 r.a,.int .i64 r.m]] w fun e w'=>∃v,e=.returned v/\w'.ownsRow w.heap.size 5 1 v 16 (ed<|dL r)/\Fr aH w w':=by
 obtain⟨k0,k1,p0,p1,a0,a1,m0,m1⟩:=h;have q1:IntKind.u8.wrap r.k=r.k:=Zu (by omega) (by omega);have q2:IntKind.u8.wrap r.p=r.p:=Zu (by omega) (by omega);have q3:IntKind.u8.wrap r.a=r.a:=Zu (by omega) (by omega);have q4:IntKind.u64.wrap r.m=r.m:=wrap_u64 (by omega) (by omega);obtain⟨l4,LI⟩:∃l4:List UInt8,l4=[UInt8.ofNat r.k.toNat,UInt8.ofNat r.p.toNat,UInt8.ofNat r.a.toNat,0]:=⟨_,rfl⟩;have HB4:Hid (ed l4=[.int .u8 r.k,.int .u8 r.p,.int .u8 r.a,.int .u8 0]):=by
  show ed l4=_;rw[LI];simp only[ed,yM,zL];rw[toNat_one (by omega)<|by omega,toNat_one (by omega)<|by omega,toNat_one (by omega)<|by omega];rfl
 have HL4:Hid (l4.length=4):=by show l4.length=4;rw[LI];rfl
 have HH:Hid (l4++jJ r.m.toNat 8=jK r):=by
  show l4++jJ r.m.toNat 8=jK r;unfold jK;rw[LI,FU (by omega)<|by omega,FU (by omega)<|by omega,FU (by omega)<|by omega];rfl
 have HM:Hid (r.m=(r.m.toNat:Int)):=by show r.m=(r.m.toNat:Int);omega
 have eF:=P7<|jK r;have S9:0<=mW (jK r):=by unfold mW;omega
 have Zq:mW (jK r)<4294967296:=by unfold mW;omega
 have as2:IntKind.u64.wrap (mW<|jK r)=mW (jK r):=wrap_u64 S9 (by omega);have HS:Hid (mW (jK r)=((mW<|jK r).toNat:Int)):=by show mW (jK r)=((mW<|jK r).toNat:Int);omega
 have HR:Hid (jK r++jJ (mW<|jK r).toNat 4=dL r):=rfl;clear LI eF S9 Zq k0 k1 p0 p1 a0 a1 m0 m1;go_enter func171,ntmps171
 go_wp2_with fail
 obtain⟨W,hW⟩:∃W,((w.alloc<|.cells #[.int .i64 r.k,.int .i64 r.p,.int .i64 r.a,.int .i64 r.m] 184).alloc<|.cells #[.int .u8 r.k,.int .u8 r.p,.int .u8 r.a,.int .u8 0] 5)=W:=⟨_,rfl⟩;have HWF:Hid (Fr aH w W):=by rw[<-hW];exact(aZ _).alloc _
 have HW0:W.ownsRow w.heap.size 5 1 (.slice (ae ⟨w.heap.size+1,0,af⟩) 4 4) l4.length (ed l4):=by
  rw[<-hW,HL4.out,HB4.out];have:=aDe (base:=w.heap.size) (e:=5) (size:=1) (w.alloc<|.cells #[.int .i64 r.k,.int .i64 r.p,.int .i64 r.a,.int .i64 r.m] 184) #[.int .u8 r.k,.int .u8 r.p,.int .u8 r.a,.int .u8 0] 4 (by simp) (by decide) (by simp);simpa using this
 have HW:Hid (W.ownsRow w.heap.size 5 1 (.slice (ae ⟨w.heap.size+1,0,af⟩) 4 4) l4.length<|ed l4):=HW0;rw[hW];clear hW HW0;have rU:Hid (aK prog 194 #[.slice (ae ⟨w.heap.size+1,0,af⟩) 4 4,.int .u64 r.m,.int .i64 8] W fun e w'=>∃v',e=.returned v'/\w'.ownsRow w.heap.size 5 1 v' (jK r).length (ed<|jK r)/\Fr (fun x=>w.heap.size<=x) W w'):=by
  have:=aeN (m:=r.m.toNat) (k:=8) HW.out (by decide) (by have:=HL4.out;omega) HWF.out.size;rw[<-HM.out,HH.out]at this;exact this
 refine rU.out.mono ?_;rintro e w1 ⟨v1,rfl,jf,bg⟩;have F1:Hid (Fr aH w w1):=HWF.out.trans bg fun _ h=>.inr h;have V1:Hid (w1.ownsRow w.heap.size 5 1 v1 (jK r).length<|ed<|jK r):=jf;obtain⟨g,cap,rfl,uU⟩:=Io jf (by rw[Nq];decide);have HB:Hid (rZ w1 g 0<|jK r):=rZ.aeO jf;have HRL:Hid ((jK r).length=12):=Nq r;have fO:=F1.out.size;clear jf bg rU;have rJ:Hid (aK prog 195 #[.slice (ae ⟨g,0,af⟩) (jK r).length cap] w1 fun e w'=>e=.returned (.int .u32<|mW<|jK r)/\w1=w'):=aeL HB.out (by rw[Nq];decide);have HC3:Hid (aK prog 194 #[.slice (ae ⟨g,0,af⟩) (jK r).length cap,.int .u64<|mW<|jK r,.int .i64 4] w1 fun e w'=>∃v',e=.returned v'/\w'.ownsRow w.heap.size 5 1 v' (dL r).length (ed<|dL r)/\Fr (fun x=>w.heap.size<=x) w1 w'):=by
  have:=aeN (m:=(mW<|jK r).toNat) (k:=4) V1.out (by decide) (by have:=HRL.out;omega) fO;rw[<-HS.out,HR.out]at this;exact this
 go_wp2_with (first
  |(go_at_call 195;(with_reducible refine rJ.out.mono ?_);rintro e w2 ⟨rfl,rfl⟩)
  |(go_at_call 194;(with_reducible refine HC3.out.mono ?_);rintro e w3 ⟨v3,rfl,O0,lG⟩;have V3:Hid (w3.ownsRow w.heap.size 5 1 v3 (dL r).length<|ed<|dL r):=O0;have F3:Hid (Fr (fun x=>w.heap.size<=x) w1 w3):=lG;clear O0 lG))
 go_ret;refine⟨_,rfl,?_,F1.out.trans F3.out fun _ h=>.inr h⟩;have:=V3.out;rw[Ed]at this;exact this
end
end Go.Proofs.YtkelpcjiediamaaGreat
