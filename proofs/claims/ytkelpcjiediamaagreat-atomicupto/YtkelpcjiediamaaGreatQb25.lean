import Derived.Test.YtkelpcjiediamaaGreatQb24
set_option maxRecDepth 100000
set_option maxHeartbeats 0
set_option linter.all false
namespace Go.Proofs.YtkelpcjiediamaaGreat
open Go renaming Calls→aK,TypeId→bW,Value→aj,World→ah,maxLen→dH
open Go.RowKit renaming intOf→dX
open Option renaming none→af,some→ae
open Go.Proofs.Tryz
open Go.RowKit Go.Maps
section
section
variable{w w':ah}{B xb n:Nat}{h:HS}
inductive ZE(w:ah)(B xb n:Nat)(h:HS)(i q:Nat)(x:PS)(p:PL):Ending->ah->Prop
 |ok {h1:HS} {v':aj} {w':ah} (ho:jo h ⟨2,i,q,x.next⟩ true h1) (hm:bI w w' B xb n h (n+1) ((h1.gy q ⟨p.lb,p.bm,v',p.s.opened i x.next,p.out⟩).dE i {x.bJ ⟨2,i,q,x.next⟩with si:=0})) (ha:iC (h1.gy q ⟨p.lb,p.bm,v',p.s.opened i x.next,p.out⟩).pl):ZE w B xb n h i q x p (.returned<|.int .i64 0) w'
 |sD {h':HS} {w':ah} (ho:jo h ⟨2,i,q,x.next⟩ false h') (hm:bI w w' B xb n h n h'):ZE w B xb n h i q x p (.returned<|.int .i64 5) w'
def ae2(x:PS)(i q:Int)(t:Int):(x.bJ ⟨2,i,q,t⟩).t=t/\(x.bJ ⟨2,i,q,t⟩).si=x.si/\(x.bJ ⟨2,i,q,t⟩).s=1:=by
 have e:x.bJ ⟨2,i,q,t⟩=({x with s:=1,t:=t}:PS).tie q 1:=by simp[PS.bJ]
 obtain⟨r1,r2,r3,r4,r5,r6⟩:=FP ({x with s:=1,t:=t}:PS) q 1;rw[e];exact⟨r2,r4,r3⟩
def jo.ani{r:Rc}{h1:HS}(ho:jo h r true h1):h1.pl=h.pl/\h1.pv=h.pv/\h1.Q=h.Q/\h1.P=h.P:=by
 cases ho;exact⟨rfl,rfl,rfl,rfl⟩
def anj(hh:ay w B xb n h)(ha:iC h.pl){i q:Nat}(hm:(i:Int)<h.P){p:PL}(hp:h.pl[q]? =ae p)(ho:p.out=false){x:PS}(hx:h.ps[i]? =ae x){ep:Int}(hb:h.bars x ep=0)(hs:x.s=0\/x.s=1)(ht:x.aT.getD q 0=0)(hn:n<dH)(hy:lM h ⟨2,i,q,x.next⟩):
 aK prog 63 #[.pointer<|ae ⟨xb,0,af⟩,.int .i64 i,.int .i64 ep,.int .i64 q] w (ZE w B xb n h i q x p):=by
 have HH:Hid (ay w B xb n h):=hh;have HX:Hid (h.ps[i]? =ae x):=hx;have HA:Hid (iC h.pl):=ha;have yP:Hid (h.pl[q]? =ae p):=hp;have hq:=(dD.1 hp).1;have l9:q<4:=by have:=hh.hQ;omega
 have HL:Hid (h.qZ i q=0):=FX hm hq;have jw:i<6:=by have:=hh.hP.2;omega
 have HB:Hid (h.bars x ep=0):=hb;have HE:Hid (decide (x.s=2\/x.s=3)=false):=qC (by omega);have fF:Hid (n<dH):=hn;have HI:Hid (dQ (i:Int)):=J3 (by omega) (by omega);have HC:Hid (aK prog 125 #[.pointer<|ae ⟨xb,4,af⟩,.int .i64 i,.int .i64 q] w.drew<|FV h ⟨2,i,q,x.next⟩ w.drew B xb n):=am6 (hh.after<|(Fr.refl _ _).drew) hx hy;obtain⟨⟨e0,e1,e2⟩,ef⟩:=hh.cellP hx;have mO:Hid (w.cell? ⟨xb,6+i*10+2,af⟩=ae (.int .i64 x.s)):=e2;have e3:w.cell? ⟨xb,6+i*10+3+q,af⟩=ae (.int .i64<|x.aT.getD q 0):=by rw[yL];exact hh.iJ hx (3+q) _<|JZ _ l9
 rw[ht]at e3;obtain⟨g,cap,gZ,hg,uU,c0,c1⟩:=hh.place hp;rw[ho]at c1;have cV:=hh.cV;rw[gZ]at cV;have Nv:Hid (h.pv=.slice (ae ⟨g,0,af⟩) h.pl.length cap):=gZ;have kG:(i:Int)<6:=by omega
 have dF:(0:Int)<=(i:Int):=by omega
 have qV:(0:Int)<=(q:Int):=by omega
 have uV:(q:Int)<h.pl.length:=by omega
 have ZC:(q:Int)<4:=by omega
 clear hh hm hx hb hs hp gZ ho ha hn ht hy;go_enter func63,ntmps63
 go_wp2_with (first
  |(go_at_call 124;refine(Ef HH.out i q).mono ?_;rw[HL.out];rintro e w1 ⟨rfl,rfl⟩)
  |(go_at_call 65;refine(yQ HH.out jw HX.out ep).mono ?_;rw[HB.out];rintro e w1 ⟨rfl,rfl⟩))
 go_region
 go_wp2_with (first
  |(go_at_call 66;refine(wL x.s<|by exact mO.out).mono ?_;rw[HE.out];rintro e w1 ⟨rfl,rfl⟩)
  |(go_at_call 125;fail))
 refine HC.out.mono ?_;rintro e w2 ⟨ho,dm⟩;rename_i ok h1;cases ok
 ·have R2:Hid (jo h ⟨2,i,q,x.next⟩ false h1/\bI w w2 B xb n h n h1):=⟨ho,dm.behind<|(Fr.refl _ _).drew⟩;clear ho dm;go_wp2_with fail
  go_ret;exact .sD R2.out.1 R2.out.2
 ·have HO:Hid (jo h ⟨2,i,q,x.next⟩ true h1):=ho;have R2:Hid (bI w w2 B xb n h n h1):=dm.behind<|(Fr.refl _ _).drew;have gq:=U0 HX.out rfl ho;obtain⟨ZF,acB,_,_⟩:=ho.ani;obtain⟨dt,dsi,_⟩:=ae2 x i q x.next;obtain⟨x1,Jr⟩:∃x1,x.bJ ⟨2,i,q,x.next⟩=x1:=⟨_,rfl⟩;rw[Jr]at gq dt dsi;have Va:Hid (x.bJ ⟨2,i,q,x.next⟩=x1):=Jr;have HX1:Hid (h1.ps[i]? =ae x1):=gq;have ZG:Hid (h1.pl[q]? =ae p):=by show h1.pl[q]? =ae p;rw[ZF];exact yP.out
  have HA1:Hid (iC h1.pl):=by show iC h1.pl;rw[ZF];exact HA.out
  have k1:w2.cell? ⟨xb,6+i*10+1,af⟩=ae (.int .i64 x.next):=by have:=(dm.at_.cellP gq).1.2.1;rw[dt]at this;exact this
  obtain⟨g',acs,ZH,kZ,_,c0',_⟩:=dm.at_.place ZG.out;rw[acB,Nv.out]at ZH;simp only[aB7,fJ,Addr.mk.injEq,and_true]at ZH;obtain⟨rfl,_,_⟩:=ZH;have qA:p∈h1.pl:=fD ZG.out;have Qj:Hid (¬(g=p.lb\/g=p.bm\/p.v.ownBlock=ae g)):=fun e=>by
   have t0:=ig dm.at_.jD (k:=g) (by rw[acB,Nv.out];rfl);rcases(dm.at_.dG p qA).tags e with t1|t1|t1<;>rw[t0]at t1<;>cases t1
  have Qk:Hid (¬(xb=p.lb\/xb=p.bm\/p.v.ownBlock=ae xb)):=dm.at_.JV qA;have FD:Hid (Fr aH w2 w2.drew):=(Fr.refl _ _).drew;have Qi:Hid (dK w2.drew B p.lb p.bm p.v n p.s):=FD.out.logAt (dm.at_.dG p qA) id id fun _ _=>id;have fZ:=aS dm.at_.blk;have HH1:Hid (ay w2.drew B xb n h1):=dm.at_.after FD.out;clear ho dm gq ZF acB dt dsi Jr qA c0 c1 cV e0 e1 e2 e3 ef hg;go_wp2_with fail
  go_region_held3 (fun w'=>w'.cell? ⟨g,q*2,af⟩=ae (.pointer<|ae ⟨p.lb,0,af⟩)/\w'.cell? ⟨xb,6+i*10+1,af⟩=ae (.int .i64 x.next))
   (first|with_reducible exact C2|exact⟨c0',k1⟩|go_keep)
   ((go_at_call 126;refine(aem (w:=w2.drew) Qi.out i x.next HI.out fF.out).mono ?_;rintro e w3 ⟨rfl,hl⟩
     have dm:=HH1.out.U1 HA1.out ZG.out (by omega) hl
     have L3:Hid (bI w w3 B xb n h (n+1) (h1.gy q ⟨p.lb,p.bm,p.v,p.s.opened i x.next,p.out⟩)/\iC (h1.gy q ⟨p.lb,p.bm,p.v,p.s.opened i x.next,p.out⟩).pl):=⟨R2.out.trans<|dm.1.behind FD.out,dm.2⟩
     have C2:w3.cell? ⟨g,q*2,af⟩=ae (.pointer<|ae ⟨p.lb,0,af⟩)/\w3.cell? ⟨xb,6+i*10+1,af⟩=ae (.int .i64 x.next):=⟨(hl.fr.cell (p:=⟨g,q*2,af⟩) kZ Qj.out).trans c0',(hl.fr.cell (p:=⟨xb,6+i*10+1,af⟩) fZ Qk.out).trans k1⟩
     have d7:w3.cell? ⟨xb,6+i*10+7,af⟩=ae (.int .i64 x1.si):=L3.out.1.at_.iJ (p:=x1) HX1.out 7 _ rfl
     have df:∀o,w3.frozen? ⟨xb,o,af⟩=false:=jP L3.out.1.at_.blk
     clear hl dm))
  go_wp2_with fail
  go_ret;have Jq:(h1.gy q ⟨p.lb,p.bm,p.v,p.s.opened i x.next,p.out⟩).ps[i]? =ae x1:=HX1.out;refine .ok (v':=p.v) HO.out ?_ L3.out.2;rw[Va.out];exact L3.out.1.trans<|L3.out.1.at_.quiet Jq
end
end
section
section
variable{w w':ah}{B xb n:Nat}{h:HS}
variable{v:aj}{xs:List Int}{i q:Nat}{x:PS}{ep:Int}{ts:ByteArray}
def anl(hr:w.ownsRow B 3 1 v xs.length (fK xs))(m:Int):
 aK prog 183 #[v,.int .i64 m] w fun r w'=>(∃j:Int,r=.returned (.int .i64 j)/\(0<=j↔m∈xs)/\j<9223372036854775807/\-1<=j)/\w=w':=by
 obtain⟨va,vc,rfl,hl⟩:=lC hr;unfold dH at hl;have H:Hid (w.ownsRow B 3 1 (.slice va xs.length vc) xs.length<|fK xs):=hr;clear hr;go_enter func183,ntmps183
 go_wp2_with fail
 go_loop [8] (fun i=>∃k:Nat,k<=xs.length/\i=.int .i64 k/\∀(j:Nat) x,j<k->xs[j]? =ae x->x≠m) (fun i=>xs.length-(dX i).toNat)
 case atStart=>exact⟨0,lK _,rfl,fun j x hj=>by omega⟩
 case round=>
  obtain⟨k,hk,rfl,ji⟩:=hrel
  have HA:Hid (∀(j:Nat) x,j<k->xs[j]? =ae x->x≠m):=ji
  clear ji
  by_cases aB:k<xs.length
  ·obtain⟨x,hx⟩:∃x,xs[k]? =ae x:=⟨_,dR aB⟩
   have HX:Hid (xs[k]? =ae x):=hx
   rcases H.out.2 with⟨_,h0⟩|⟨g,cap,cur,hv,hb,hg,h1,h2,_⟩
   ·omega
   ·simp only[aB7]at hv
    obtain⟨rfl,_,rfl⟩:=hv
    have c0:=zO H.out hx
    have yh:(k:Int)<(xs.length:Int):=by omega
    have sV:(0:Int)<=(k:Int):=by omega
    clear hx hg h2 hb
    by_cases e:m=x
    ·have HM:Hid (m∈xs):=by show m∈xs;rw[e];exact fD HX.out
     have e':(m==x)=true:=by simpa using e
     clear e
     go_wp2
     go_ret
     exact⟨⟨(k:Int),rfl,⟨fun _=>HM.out,fun _=>sV⟩,by omega,by omega⟩,rfl⟩
    ·have e':(m==x)=false:=by simpa using e
     have Jl:Hid (∀(j:Nat) z,j<k+1->xs[j]? =ae z->z≠m):=fun j z hj hz=>by
      by_cases ej:j=k
      ·subst ej;have:=HX.out.symm.trans hz;cases this;exact fun e2=>e e2.symm
      ·exact HA.out j z (by omega) hz
     clear e
     go_wp2
     go_round
     case rel=>exact⟨k+1,by omega,by go_num,Jl.out⟩
     case measure=>simp[dX]<;>omega
  ·have HM:Hid (m∉xs):=fun hm=>by
    obtain⟨j,hj,rfl⟩:=List.getElem_of_mem hm;exact HA.out j _ (by omega) (dR hj) rfl
   go_wp2
   go_ret
   exact⟨⟨-1,rfl,⟨fun e=>by omega,fun e=>absurd e HM.out⟩,by omega,by omega⟩,rfl⟩
def ae5(hr:w.ownsRow B 3 1 v xs.length (fK xs))(m:Int):
 aK prog 135 #[v,.int .i64 m] w fun r w'=>r=.returned (.bool<|decide<|m∈xs)/\w=w':=by
 obtain⟨va,vc,rfl,hl⟩:=lC hr;have HC:Hid (aK prog 183 #[.slice va xs.length vc,.int .i64 m] w fun r w'=>(∃j:Int,r=.returned (.int .i64 j)/\(0<=j↔m∈xs)/\j<9223372036854775807/\-1<=j)/\w=w'):=anl hr m;clear hr hl;go_enter func135,ntmps135
 go_wp2_with fail
 refine HC.out.mono ?_;rintro e w1 ⟨⟨j,rfl,hj,_,_⟩,rfl⟩;by_cases h0:0<=j
 ·have HM:Hid (decide (m∈xs)=true):=jI<|hj.1 h0;clear hj;go_wp2
  go_ret;exact⟨by rw[HM.out]<;>rfl,rfl⟩
 ·have HM:Hid (decide (m∈xs)=false):=qC fun e=>h0<|hj.2 e;clear hj;go_wp2
  go_ret;exact⟨by rw[HM.out,show false=decide (0<=j)from(qC<|by omega).symm]<;>rfl,rfl⟩
def ae6(hh:ay w B xb n h)(hm:(i:Int)<h.P)(hq:q<h.pl.length)(hx:h.ps[i]? =ae x)(hb:h.bars x ep≠0)(ht:ts.size<=8):
 aK prog 77 #[.pointer<|ae ⟨xb,0,af⟩,.int .i64 i,.int .i64 ep,.int .i64 q,.string ts] w fun e w'=>e=.returned (.int .i64<|h.bars x ep)/\w=w':=by
 have HH:Hid (ay w B xb n h):=hh;have HX:Hid (h.ps[i]? =ae x):=hx;have HL:Hid (h.qZ i q=0):=FX hm hq;have jw:i<6:=by have:=hh.hP.2;omega
 obtain⟨b,DU⟩:∃b,h.bars x ep=b:=⟨_,rfl⟩;have HB:Hid (h.bars x ep=b):=DU;rw[DU]at hb⊢
 have zt:(b==0)=false:=by simpa using hb
 have O3:¬(8:Int)<(ts.size:Int):=by omega
 clear hh hm hx DU hq;go_enter func77,ntmps77
 go_wp2_with (first
  |(go_at_call 124;refine(Ef HH.out i q).mono ?_;rw[HL.out];rintro e w1 ⟨rfl,rfl⟩)
  |(go_at_call 65;refine(yQ HH.out jw HX.out ep).mono ?_;rw[HB.out];rintro e w1 ⟨rfl,rfl⟩))
 go_ret;exact⟨rfl,rfl⟩
def anm(hh:ay w B xb n h)(hm:(i:Int)<h.P)(hq:q<h.pl.length)(hx:h.ps[i]? =ae x)(hb:h.bars x ep=0)(hs:x.s=0\/x.s=2\/x.s=3)(ht:ts.size<=8):
 aK prog 77 #[.pointer<|ae ⟨xb,0,af⟩,.int .i64 i,.int .i64 ep,.int .i64 q,.string ts] w fun e w'=>e=.returned (.int .i64<|if x.s=0 then 8 else 9)/\Fr aH w w':=by
 have HH:Hid (ay w B xb n h):=hh;have HX:Hid (h.ps[i]? =ae x):=hx;have HL:Hid (h.qZ i q=0):=FX hm hq;have jw:i<6:=by have:=hh.hP.2;omega
 have HB:Hid (h.bars x ep=0):=hb;obtain⟨⟨e0,e1,e2⟩,ef⟩:=hh.cellP hx;obtain⟨p,hp⟩:∃p,h.pl[q]? =ae p:=⟨_,dR hq⟩;obtain⟨g,cap,gZ,hg,uU,c0,c1⟩:=hh.place hp;have cV:=hh.cV;rw[gZ]at cV;have kG:(i:Int)<6:=by omega
 have dF:(0:Int)<=(i:Int):=by omega
 have qV:(0:Int)<=(q:Int):=by omega
 have uV:(q:Int)<h.pl.length:=by omega
 have O3:¬(8:Int)<(ts.size:Int):=by omega
 have mO:Hid (w.cell? ⟨xb,6+i*10+2,af⟩=ae (.int .i64 x.s)):=e2;clear hh hm hx hb hp gZ;by_cases h0:x.s=0
 ·rw[if_pos h0];rw[h0]at e2;go_enter func77,ntmps77
  go_wp2_with (first
   |(go_at_call 124;refine(Ef HH.out i q).mono ?_;rw[HL.out];rintro e w1 ⟨rfl,rfl⟩)
   |(go_at_call 65;refine(yQ HH.out jw HX.out ep).mono ?_;rw[HB.out];rintro e w1 ⟨rfl,rfl⟩))
  go_region
  go_wp2_with fail
  go_ret;exact⟨rfl,(Fr.refl _ _).drew⟩
 ·rw[if_neg h0];have HE:Hid (decide (x.s=2\/x.s=3)=true):=jI (by omega);have h0':(x.s==0)=false:=by simpa using h0
  go_enter func77,ntmps77
  go_wp2_with (first
   |(go_at_call 124;refine(Ef HH.out i q).mono ?_;rw[HL.out];rintro e w1 ⟨rfl,rfl⟩)
   |(go_at_call 65;refine(yQ HH.out jw HX.out ep).mono ?_;rw[HB.out];rintro e w1 ⟨rfl,rfl⟩))
  go_region
  go_wp2_with (first
   |(go_at_call 66;refine(wL x.s<|by exact mO.out).mono ?_;rw[HE.out];rintro e w1 ⟨rfl,rfl⟩))
  go_ret;exact⟨rfl,(Fr.refl _ _).drew⟩
end
end
section
section
variable{w w':ah}{B xb n:Nat}{h:HS}
def ann(hh:ay w B xb n h){i q:Nat}(hm:(i:Int)<h.P)(hq:q<h.pl.length){x:PS}(hx:h.ps[i]? =ae x){ep:Int}(hb:h.bars x ep=0)(hs:x.s=1)(Js:x.aT.getD q 0=0){ts:ByteArray}(ht:ts.size<=8):
 aK prog 77 #[.pointer<|ae ⟨xb,0,af⟩,.int .i64 i,.int .i64 ep,.int .i64 q,.string ts] w fun e w'=>e=.returned (.int .i64 11)/\Fr aH w w':=by
 have HH:Hid (ay w B xb n h):=hh;have HX:Hid (h.ps[i]? =ae x):=hx;have HL:Hid (h.qZ i q=0):=FX hm hq;have jw:i<6:=by have:=hh.hP.2;omega
 have l9:q<4:=by have:=hh.hQ;omega
 have HB:Hid (h.bars x ep=0):=hb;obtain⟨⟨e0,e1,e2⟩,ef⟩:=hh.cellP hx;rw[hs]at e2;have e3:w.cell? ⟨xb,6+i*10+3+q,af⟩=ae (.int .i64<|x.aT.getD q 0):=by rw[yL];exact hh.iJ hx (3+q) _<|JZ _ l9
 rw[Js]at e3;obtain⟨p,hp⟩:∃p,h.pl[q]? =ae p:=⟨_,dR hq⟩;obtain⟨g,cap,gZ,hg,uU,c0,c1⟩:=hh.place hp;have cV:=hh.cV;rw[gZ]at cV;have kG:(i:Int)<6:=by omega
 have dF:(0:Int)<=(i:Int):=by omega
 have qV:(0:Int)<=(q:Int):=by omega
 have uV:(q:Int)<h.pl.length:=by omega
 have ZC:(q:Int)<4:=by omega
 have O3:¬(8:Int)<(ts.size:Int):=by omega
 have mO:Hid (w.cell? ⟨xb,6+i*10+2,af⟩=ae (.int .i64 1)):=e2;clear hh hm hx hb hp gZ Js hs;go_enter func77,ntmps77
 go_wp2_with (first
  |(go_at_call 124;refine(Ef HH.out i q).mono ?_;rw[HL.out];rintro e w1 ⟨rfl,rfl⟩)
  |(go_at_call 65;refine(yQ HH.out jw HX.out ep).mono ?_;rw[HB.out];rintro e w1 ⟨rfl,rfl⟩))
 go_region
 go_wp2_with (first
  |(go_at_call 66;refine(wL 1<|by exact mO.out).mono ?_;rintro e w1 ⟨rfl,rfl⟩))
 go_ret;exact⟨rfl,(Fr.refl _ _).drew⟩
inductive Ql(w:ah)(B xb n:Nat)(h:HS)(i q:Nat)(x:PS)(p:PL)(ts:ByteArray):Ending->ah->Prop
 |not {w':ah} (ho:∀t,p.s.nw i≠ae (t,true)) (f:Fr aH w w'):Ql w B xb n h i q x p ts (.returned<|.int .i64 11) w'
 |out {w':ah} {t:Int} (ho:p.s.nw i=ae (t,true)) (hp:p.out=true) (f:Fr aH w w'):Ql w B xb n h i q x p ts (.returned<|.int .i64 10) w'
 |bad {w':ah} {t:Int} {v':aj} (ho:p.s.nw i=ae (t,true)) (hp:p.out=false) (hc:p.s.nD i x.t ts≠0) (hm:bI w w' B xb n h n (h.gy q ⟨p.lb,p.bm,v',p.s.kH i x.t ts,p.out⟩)) (ha:iC (h.gy q ⟨p.lb,p.bm,v',p.s.kH i x.t ts,p.out⟩).pl):Ql w B xb n h i q x p ts (.returned<|.int .i64<|p.s.nD i x.t ts) w'
 |ok {w':ah} {t:Int} {v':aj} (ho:p.s.nw i=ae (t,true)) (hp:p.out=false) (hc:p.s.nD i x.t ts=0) (hm:bI w w' B xb n h n ((h.gy q ⟨p.lb,p.bm,v',p.s.kH i x.t ts,p.out⟩).dE i {x with si:=0})) (ha:iC (h.gy q ⟨p.lb,p.bm,v',p.s.kH i x.t ts,p.out⟩).pl):Ql w B xb n h i q x p ts (.returned<|.int .i64 0) w'
def ae7(hh:ay w B xb n h)(BO:iC h.pl){i q:Nat}(hm:(i:Int)<h.P){p:PL}(hp:h.pl[q]? =ae p){x:PS}(hx:h.ps[i]? =ae x){ep:Int}(hb:h.bars x ep=0)(hs:x.s=1)(Js:x.aT.getD q 0≠0){ts:ByteArray}(ht:ts.size<=8)(hn:(n+1)*8<=140737488355328)(pF:(p.s.es.length+1)*40<=140737488355328):
 aK prog 77 #[.pointer<|ae ⟨xb,0,af⟩,.int .i64 i,.int .i64 ep,.int .i64 q,.string ts] w (Ql w B xb n h i q x p ts):=by
 have HH:Hid (ay w B xb n h):=hh;have ZI:Hid (iC h.pl):=BO;have HX:Hid (h.ps[i]? =ae x):=hx;have yP:Hid (h.pl[q]? =ae p):=hp;have hq:=(dD.1 hp).1;have HL:Hid (h.qZ i q=0):=FX hm hq;have jw:i<6:=by have:=hh.hP.2;omega
 have l9:q<4:=by have:=hh.hQ;omega
 have HB:Hid (h.bars x ep=0):=hb;have fF:Hid ((n+1)*8<=140737488355328):=hn;have ZJ:Hid ((p.s.es.length+1)*40<=140737488355328):=pF;have HI:Hid (dQ (i:Int)):=J3 (by omega) (by omega);have HTS:Hid (ts.size<=dH):=by show ts.size<=dH;unfold dH;omega
 obtain⟨⟨e0,e1,e2⟩,ef⟩:=hh.cellP hx;rw[hs]at e2;have e3:w.cell? ⟨xb,6+i*10+3+q,af⟩=ae (.int .i64<|x.aT.getD q 0):=by rw[yL];exact hh.iJ hx (3+q) _<|JZ _ l9
 obtain⟨tv,Qh⟩:∃tv,x.aT.getD q 0=tv:=⟨_,rfl⟩;rw[Qh]at e3 Js;have ht0:(tv==0)=false:=by simpa using Js
 have qA:=fD hp;have U9:Hid (dK w B p.lb p.bm p.v n p.s):=hh.dG p qA;obtain⟨g,cap,gZ,hg,uU,c0,c1⟩:=hh.place hp;have cV:=hh.cV;rw[gZ]at cV;have Qj:Hid (¬(g=p.lb\/g=p.bm\/p.v.ownBlock=ae g)):=fun e=>by
  have t0:=ig hh.jD (k:=g) (by rw[gZ];rfl);rcases(hh.dG p qA).tags e with t1|t1|t1<;>rw[t0]at t1<;>cases t1
 have Qk:Hid (¬(xb=p.lb\/xb=p.bm\/p.v.ownBlock=ae xb)):=hh.JV qA;have fZ:=aS hh.blk;have kG:(i:Int)<6:=by omega
 have dF:(0:Int)<=(i:Int):=by omega
 have qV:(0:Int)<=(q:Int):=by omega
 have uV:(q:Int)<h.pl.length:=by omega
 have ZC:(q:Int)<4:=by omega
 have O3:¬(8:Int)<(ts.size:Int):=by omega
 have mO:Hid (w.cell? ⟨xb,6+i*10+2,af⟩=ae (.int .i64 1)):=e2;clear hh hm hx hb hp gZ hs BO hn pF Js Qh qA;go_enter func77,ntmps77
 go_wp2_with (first
  |(go_at_call 124;refine(Ef HH.out i q).mono ?_;rw[HL.out];rintro e w1 ⟨rfl,rfl⟩)
  |(go_at_call 65;refine(yQ HH.out jw HX.out ep).mono ?_;rw[HB.out];rintro e w1 ⟨rfl,rfl⟩))
 go_region
 go_wp2_with (first
  |(go_at_call 66;refine(wL 1<|by exact mO.out).mono ?_;rintro e w1 ⟨rfl,rfl⟩)
  |(go_at_call 60;refine(aej (by exact((Fr.refl (fun _=>False) w).drew).logAt U9.out id id fun _ _=>id) fF.out).mono ?_;rintro e w2 ⟨v2,S,rfl,DL,jB,uX,XP,hS3,Tc⟩
    obtain⟨va,vc,rfl,_⟩:=lC DL
    have F2:Hid (Fr aH w w2):=((Fr.refl _ _).drew:Fr aH w w.drew).trans jB fun _ h=>h.elim
    have V2:Hid (w2.ownsRow w.drew.heap.size 3 1 (.slice va S.length vc) S.length<|fK S):=DL
    have S4:Hid ((i:Int)∈S↔∃t,p.s.nw i=ae (t,true)):=Tc i HI.out
    clear DL jB uX XP hS3 Tc)
  |(go_at_call 135;fail))
 by_cases eF:(i:Int)∈S
 ·have CO:Hid (decide ((i:Int)∈S)=true):=jI eF;obtain⟨t,Jt⟩:=S4.out.1 eF;have HT:Hid (p.s.nw i=ae (t,true)):=Jt;have Qi:Hid (dK w2.drew B p.lb p.bm p.v n p.s):=(F2.out.drew).logAt U9.out id id fun _ _=>id;have HH2:Hid (ay w2.drew B xb n h):=HH.out.after F2.out.drew;have k0:w2.cell? ⟨g,q*2,af⟩=ae (.pointer<|ae ⟨p.lb,0,af⟩):=(F2.out.cell (p:=⟨g,q*2,af⟩) hg id).trans c0;have k1:w2.cell? ⟨g,q*2+1,af⟩=ae (.bool p.out):=(F2.out.cell (p:=⟨g,q*2+1,af⟩) hg id).trans c1;have kt:w2.cell? ⟨xb,6+i*10+1,af⟩=ae (.int .i64 x.t):=(F2.out.cell (p:=⟨xb,6+i*10+1,af⟩) fZ id).trans e1;have EO:g<w2.heap.size:=dY hg F2.out.size;have anq:xb<w2.heap.size:=dY fZ F2.out.size;refine(ae5 V2.out i).mono ?_;rw[CO.out];rintro e w3 ⟨rfl,rfl⟩;clear eF Jt;by_cases ES:p.out=true
  ·rw[ES]at k1;have Qm:Hid (p.out=true):=ES;clear ES;go_wp2_with fail
   go_ret;exact .out HT.out Qm.out F2.out
  ·have Qm:Hid (p.out=false):=by show p.out=false;simpa using ES
   rw[show p.out=false from Qm.out]at k1;clear ES;go_wp2_with fail
   go_region_held3 (fun w'=>w'.cell? ⟨g,q*2,af⟩=ae (.pointer<|ae ⟨p.lb,0,af⟩)/\w'.cell? ⟨xb,6+i*10+1,af⟩=ae (.int .i64 x.t))
    (first|with_reducible exact C4|exact⟨k0,kt⟩|go_keep)
    ((go_at_call 136;refine(alo (w:=w2.drew) Qi.out i x.t ts HI.out HTS.out ZJ.out).mono ?_;rintro e w4 ⟨rfl,v',hl⟩
      have dm:=HH2.out.U1 ZI.out yP.out (bV n) hl
      have L4:Hid (bI w w4 B xb n h n (h.gy q ⟨p.lb,p.bm,v',p.s.kH i x.t ts,p.out⟩)/\iC (h.gy q ⟨p.lb,p.bm,v',p.s.kH i x.t ts,p.out⟩).pl):=⟨dm.1.behind F2.out.drew,dm.2⟩
      have C4:w4.cell? ⟨g,q*2,af⟩=ae (.pointer<|ae ⟨p.lb,0,af⟩)/\w4.cell? ⟨xb,6+i*10+1,af⟩=ae (.int .i64 x.t):=⟨(hl.fr.cell (p:=⟨g,q*2,af⟩) EO Qj.out).trans k0,(hl.fr.cell (p:=⟨xb,6+i*10+1,af⟩) anq Qk.out).trans kt⟩
      have d7:w4.cell? ⟨xb,6+i*10+7,af⟩=ae (.int .i64 x.si):=L4.out.1.at_.iJ (p:=x) HX.out 7 _ rfl
      have df:∀o,w4.frozen? ⟨xb,o,af⟩=false:=jP L4.out.1.at_.blk
      clear hl dm))
   by_cases hc:p.s.nD i x.t ts=0
   ·have HC:Hid (p.s.nD i x.t ts=0):=hc;rw[hc];clear hc;go_wp2_with fail
    go_ret;have Jq:(h.gy q ⟨p.lb,p.bm,v',p.s.kH i x.t ts,p.out⟩).ps[i]? =ae x:=HX.out;exact .ok HT.out Qm.out HC.out (L4.out.1.trans<|L4.out.1.at_.quiet Jq) L4.out.2
   ·have HC:Hid (p.s.nD i x.t ts≠0):=hc;have yu:(p.s.nD i x.t ts==0)=false:=by simpa using hc
    clear hc;go_wp2_with fail
    go_ret;exact .bad HT.out Qm.out HC.out L4.out.1 L4.out.2
 ·have CO:Hid (decide ((i:Int)∈S)=false):=qC eF;have HT:Hid (∀t,p.s.nw i≠ae (t,true)):=fun t ht=>eF<|S4.out.2 ⟨t,ht⟩;refine(ae5 V2.out i).mono ?_;rw[CO.out];rintro e w3 ⟨rfl,rfl⟩;clear eF;go_wp2_with fail
  go_ret;exact .not HT.out F2.out
end
end
section
def anz{w:ah}{B:Nat}{ty:bW}{a:Option Addr}{n cap m:Nat}{xs:List aj}(h:w.ownsRow B ty 1 (.slice a n cap) n xs)(hm:m<=n):w.ownsRow B ty 1 (.slice a m cap) m (xs.take m):=by
 refine⟨by rw[JK,h.1];omega,?_⟩;rcases h.2 with⟨hv,h0⟩|⟨g,c,cur,hv,hb,hg,h1,h2,h3,h4⟩
 ·simp only[aB7]at hv;obtain⟨rfl,_,rfl⟩:=hv;exact .inl ⟨by rw[show m=0 by omega],by omega⟩
 ·simp only[aB7]at hv;obtain⟨rfl,_,rfl⟩:=hv;refine .inr ⟨g,cap,cur,rfl,hb,hg,by omega,h2,h3,?_⟩;rw[<-h4,List.take_take];congr 1;omega
def anA{w:ah}{B g n cap:Nat}{l:List Rc}(h:w.ownsRow B 184 4 (.slice (ae ⟨g,0,af⟩) n cap) l.length (l.flatMap Rc.cs)){k:Nat}{e:Rc}(hk:l[k]? =ae e):
 w.cell? ⟨g,k*4,af⟩=ae (.int .i64 e.k)/\w.cell? ⟨g,k*4+1,af⟩=ae (.int .i64 e.p)/\w.cell? ⟨g,k*4+2,af⟩=ae (.int .i64 e.a)/\w.cell? ⟨g,k*4+3,af⟩=ae (.int .i64 e.m):=by
 have hc:=h.cells (g:=g) rfl;have key:∀j u,j<4->e.cs[j]? =ae u->w.cell? ⟨g,k*4+j,af⟩=ae u:=fun j u hj hu=>by
  have:=hc (k*4+j) u<|(aez l k e j hk hj).trans hu;rw[aCo]at this;simpa using this
 exact⟨key 0 _ (by omega) rfl,key 1 _ (by omega) rfl,key 2 _ (by omega) rfl,key 3 _ (by omega) rfl⟩
section
variable{w w':ah}{B xb n:Nat}{h:HS}
def HS.mid(h:HS)(jv:aj)(L:List Rc)(j:Nat):HS:={h with jv:=jv,jb:=ed<|L.flatMap dL,ps:=replay<|L.take j}
def HS.FY(h:HS)(jv:aj)(L:List Rc):HS:={h with jv:=jv,jb:=ed<|L.flatMap dL,ps:=replay L,up:=true}
variable{i b:Nat}{x:PS}
def anB(h:HS)(jv:aj){L:List Rc}{j:Nat}{r:Rc}(hr:L[j]? =ae r)(hi:r.p=i)(hx:(replay<|L.take j)[i]? =ae x):h.mid jv L (j+1)=(h.mid jv L j).dE i (x.bJ r):=by
 have e:r.p.toNat=i:=by omega
 have:replay (L.take<|j+1)=(replay<|L.take j).set i (x.bJ r):=by
  rw[zK,hr,Ea,aeB];unfold jE;rw[e];simp[List.getD,hx]
 unfold HS.mid HS.dE;simp only[this]
def anC{w3:ah}{db kb:Nat}(hb:w3.heap[db]? =ae (.cells (qF kb) 193 (0,0))):
 w3.cell? ⟨db,1,af⟩=ae (.func (.func 179) #[] #[.pointer<|ae ⟨kb,0,af⟩])/\w3.cell? ⟨db,2,af⟩=ae (.func (.func 180) #[] #[.pointer<|ae ⟨kb,0,af⟩])/\w3.cell? ⟨db,3,af⟩=ae (.func (.func 181) #[] #[.pointer<|ae ⟨kb,0,af⟩])/\w3.cell? ⟨db,4,af⟩=ae (.func (.func 182) #[] #[.pointer<|ae ⟨kb,0,af⟩]):=by
 refine⟨?_,?_,?_,?_⟩<;>(rw[aG hb];rfl)
def anD(hh:ay w B xb n h)(hb:vG w b xb)(hi:i<6)(hx:h.ps[i]? =ae x)(a m:Int):
 aK prog 179 #[.agg #[.int .i64 1,.int .i64 i,.int .i64 a,.int .i64 m],.pointer<|ae ⟨b,0,af⟩] w fun e w'=>e=.returned (.tuple #[])/\ay w' B xb n (h.dE i<|x.bJ ⟨1,i,a,m⟩)/\Fr (fun k=>k=xb) w w':=by
 have:=aeD hh hb hi hx 1 a m;rw[show x.bJ ⟨1,i,a,m⟩={x with e:=m}by simp[PS.bJ]];exact this
def anE(hh:ay w B xb n h){q:Nat}(hb:vG w b xb)(hi:i<6)(hq:q<4)(hx:h.ps[i]? =ae x)(m:Int):
 aK prog 180 #[.agg #[.int .i64 2,.int .i64 i,.int .i64 q,.int .i64 m],.pointer<|ae ⟨b,0,af⟩] w fun e w'=>e=.returned (.tuple #[])/\ay w' B xb n (h.dE i<|x.bJ ⟨2,i,q,m⟩)/\Fr (fun k=>k=xb) w w':=by
 have:=aeE hh hb hi hq hx 2 m;rw[show x.bJ ⟨2,i,q,m⟩=(({x with s:=1,t:=m}:PS).tie q 1)by simp[PS.bJ]];exact this
def anF(hh:ay w B xb n h)(hb:vG w b xb)(hi:i<6)(hx:h.ps[i]? =ae x)(m:Int){a:Int}(ha:a=0\/a=1):
 aK prog 181 #[.agg #[.int .i64 3,.int .i64 i,.int .i64 a,.int .i64 m],.pointer<|ae ⟨b,0,af⟩] w fun e w'=>e=.returned (.tuple #[])/\ay w' B xb n (h.dE i<|x.bJ ⟨3,i,a,m⟩)/\Fr (fun k=>k=xb) w w':=by
 have key:∀(c:Bool) (s':Int),a=(if c then 1 else 0)->s'=(if c then 2 else 3)->x.bJ ⟨3,i,a,m⟩={({x with s:=s'}:PS).pend (bF x.aT 1 4)with wa:=1,ga:=1}:=fun c s' h1 h2=>by
  have e1:bF x.aT 1 4=bF ({x with s:=s'}:PS).aT 1 4:=rfl;rw[e1,aeS];cases c
  ·simp only[lq,↓reduceIte]at h1 h2;simp[PS.bJ,h1,h2]
  ·simp only[↓reduceIte]at h1 h2;simp[PS.bJ,h1,h2]
 rcases ha with ha|ha
 ·rw[key false 3 (by simpa using ha) rfl];exact Zo hh hb hi hx 3 m (c:=false) (by simpa using ha) rfl
 ·rw[key true 2 (by simpa using ha) rfl];exact Zo hh hb hi hx 3 m (c:=true) (by simpa using ha) rfl
def anG(hh:ay w B xb n h)(hb:vG w b xb)(hi:i<6)(hx:h.ps[i]? =ae x)(a m:Int):
 aK prog 182 #[.agg #[.int .i64 4,.int .i64 i,.int .i64 a,.int .i64 m],.pointer<|ae ⟨b,0,af⟩] w fun e w'=>e=.returned (.tuple #[])/\ay w' B xb n (h.dE i<|x.bJ ⟨4,i,a,m⟩)/\Fr (fun k=>k=xb) w w':=by
 have:=aeH hh hb hi hx 4 a m;rw[show x.bJ ⟨4,i,a,m⟩=⟨x.e,x.t,0,0,0,0,0,0,0,0⟩by simp[PS.bJ]];exact this
def ay.cut(hh:ay w B xb n h){jv:aj}{jb:List aj}(bY:w.ownsRow B 5 1 jv jb.length jb)(bM:jv.ownBlock≠ae xb):
 ay (w.setCell ⟨xb,4,af⟩ jv) B xb n {h with jv:=jv,jb:=jb}/\Fr (fun k=>k=xb) w (w.setCell ⟨xb,4,af⟩ jv):=by
 have fs:Fr (fun q=>q=xb) w (w.setCell ⟨xb,4,af⟩ jv):=(Fr.refl (fun q=>q=xb) w).setCell (p:=⟨xb,4,af⟩) (.inl rfl) _;refine⟨⟨?_,fs.ownsRow bY (fun q hq e=>bM<|by rw[hq,e]),fs.ownsRow hh.jD (fun k hk e=>hh.Zf (by subst e;exact hk)),fs.ownsRow hh.lY (fun k hk e=>hh.Zg (by subst e;exact hk)),fun p hp=>(hh.dG p hp).stay fs (fun k e hf=>hh.JV hp (by subst e;exact hf)),hh.hx,hh.hP,hh.hQ,hh.h6⟩,fs⟩;rw[jQ hh.blk];have:=h.aeR jv [];rw[this];rfl
structure Ve(h:HS)(L:List Rc)(tl:List UInt8):Prop where
 jb:h.jb=ed (L.flatMap dL++tl)
 tl:tl.length<16
 small:∃m,m<1000000000000/\∀r∈L,r.Small m
 end_:∀r∈L,r.k=3->r.a=0\/r.a=1
 eG:L.length<100000000000
def anH(hh:ay w B xb n h)(hz:h.ps=vF){L:List Rc}{tl:List UInt8}(hJ:Ve h L tl):
 aK prog 68 #[.pointer<|ae ⟨xb,4,af⟩] w fun r w'=>r=.returned (.tuple #[])/\∃jv,ay w' B xb n (h.FY jv L)/\Fr (fun k=>k=xb) w w'/\jv.ownBlock=h.jv.ownBlock:=by
 have HH:Hid (ay w B xb n h):=hh;have HJ:Hid (Ve h L tl):=hJ;have HZ:Hid (h.ps=vF):=hz;obtain⟨m,qy,qB⟩:=hJ.small;have Qc:Hid (∀r∈L,r.Small m):=qB;have c4:=hh.cJ;have c5:=hh.cU;obtain⟨ja,jc,hj,Ju⟩:=oL hh.lL;have XM:h.jb.length=(L.flatMap dL++tl).length:=by rw[hJ.jb,FT]
 have hlen:(L.flatMap dL++tl).length=16*L.length+tl.length:=by rw[iQ,CP]
 have bY:=hh.lL;rw[hj]at c4 bY;rw[XM,hlen]at c4 bY hj;rw[hJ.jb]at bY;have J4:Hid (w.ownsRow B 5 1 (.slice ja (16*L.length+tl.length) jc) (16*L.length+tl.length)<|ed<|L.flatMap dL++tl):=bY;have HJV:Hid (h.jv=.slice ja (16*L.length+tl.length) jc):=hj;have Vb:Hid (aK prog 127 #[.slice ja (16*L.length+tl.length) jc] w fun e w'=>∃v',e=.returned v'/\w'.ownsRow w.heap.size 184 4 v' L.length (L.flatMap Rc.cs)/\Fr aH w w'):=anw (L:=L) (tl:=tl) (by rw[hlen];exact bY) hJ.tl qB qy hJ.eG;have uU:16*L.length+tl.length<=jc:=by
  rcases bY.2 with⟨hv,h0⟩|⟨g,cap,cur,hv,_,_,h1,_⟩
  ·omega
  ·simp only[aB7]at hv;omega
 have aB:=aS hh.blk;have hLf:=hJ.eG;have azz:(L.length:Int)*16<=(jc:Int):=by omega
 clear hh hJ hz bY hj XM hlen qB;cases ja;all_goals
  go_enter func68,ntmps68
  go_wp2_with (first
   |(go_at_call 127;refine Vb.out.mono ?_;rintro e w1 ⟨v1,rfl,jf,bg⟩
     obtain⟨ra,rc,rfl,Td⟩:=oL jf
     have V1:Hid (w1.ownsRow w.heap.size 184 4 (.slice ra L.length rc) L.length<|L.flatMap Rc.cs):=jf
     have F1:Hid (Fr aH w w1):=bg
     have B1:Hid (w1.heap[xb]? =ae (.cells h.cells.toArray 111 (0,0))):=(bg.block xb aB id).trans HH.out.blk
     have d4:=(bg.cell (p:=⟨xb,4,af⟩) aB id).trans c4
     have d5:w1.cell? ⟨xb,5,af⟩=ae (.bool h.up):=(bg.cell (p:=⟨xb,5,af⟩) aB id).trans c5
     have df:∀o,w1.frozen? ⟨xb,o,af⟩=false:=jP B1.out
     have fO:xb<w1.heap.size:=dY aB bg.size
     have hzw:w.heap.size<=w1.heap.size:=bg.size
     clear bg jf))
  generalize ZN:Value.slice _ (L.length*16) jc=jv
  have hcut:ay (w1.setCell ⟨xb,4,af⟩ jv) B xb n {h with jv:=jv,jb:=ed<|L.flatMap dL}/\Fr (fun k=>k=xb) w1 (w1.setCell ⟨xb,4,af⟩ jv):=by
   have hr:=anz (F1.out.ownsRow J4.out fun _ _=>id) (m:=L.length*16) (by omega);have et:(ed<|L.flatMap dL++tl).take (L.length*16)=ed (L.flatMap dL):=by
    rw[Zt,List.take_left' (by rw[FT,CP];omega)]
   rw[et,ZN]at hr;refine(HH.out.after F1.out).cut (by rw[FT,CP,YN];exact hr) fun e=>?_;have t1:=ig hr e;rw[lD B1.out]at t1;cases t1
  have HOB:Hid (jv.ownBlock=h.jv.ownBlock):=by show jv.ownBlock=h.jv.ownBlock;rw[<-ZN,HJV.out];rfl
  have DI:Hid (ay (w1.setCell ⟨xb,4,af⟩ jv) B xb n<|h.mid jv L 0):=by
   have e0:h.mid jv L 0={h with jv:=jv,jb:=ed<|L.flatMap dL}:=by
    unfold HS.mid;rw[List.take_zero,show replay []=h.ps from HZ.out.symm]
   show ay _ _ _ _ _;rw[e0];exact hcut.1
  have gX:Hid (Fr (fun k=>k=xb) w<|w1.setCell ⟨xb,4,af⟩ jv):=(F1.out.mono (fun _ h=>h.elim):Fr (fun k=>k=xb) w w1).trans hcut.2 fun _ e=>.inl e
  have VW1:Hid ((w1.setCell ⟨xb,4,af⟩ jv).ownsRow w.heap.size 184 4 (.slice ra L.length rc) L.length<|L.flatMap Rc.cs):=hcut.2.ownsRow V1.out (fun q hq e=>by have:=(V1.out.lt q hq).1;omega)
  generalize w1.setCell ⟨xb,4,af⟩ jv=W1 at DI gX VW1⊢
  clear hcut d4 d5 df ZN
  have gq:xb<W1.heap.size:=dY aB gX.out.size
  refine(Np (w:=W1) _).mono ?_
  rintro e w2 ⟨rfl,qU,jB⟩
  have KB2:Hid (vG w2 W1.heap.size xb):=qU
  have S2:Hid (Fr aH W1 w2):=jB
  have T2:Hid ((w2.alloc<|.cells #[.nilFunc,.nilFunc,.nilFunc,.nilFunc,.nilFunc] 193).there w2.heap.size 0 5):=JU (aB0 _ _)<|by simp
  clear qU jB
  go_wp2_with (first
   |(refine aCz rfl 193 _ _ rfl w2.heap.size 0 (qF W1.heap.size) rfl rfl T2.out UO (by simp[qF,Value.oneCell']) ?_
     have hW:Fr aH w2 _:=Fr.setCells (S:=fun _=>False) (b:=w2.heap.size) (.inr<|bV _) (qF W1.heap.size).toList 0<|(Fr.refl (fun _=>False) w2).alloc<|.cells #[.nilFunc,.nilFunc,.nilFunc,.nilFunc,.nilFunc] 193
     have hD:=Ii (qF W1.heap.size).toList 0<|aB0 w2<|.cells #[.nilFunc,.nilFunc,.nilFunc,.nilFunc,.nilFunc] 193
     generalize((w2.alloc<|.cells #[.nilFunc,.nilFunc,.nilFunc,.nilFunc,.nilFunc] 193).setCells w2.heap.size 0 (qF W1.heap.size).toList)=w3 at hW hD⊢
     have S3:Hid (Fr aH W1 w3):=S2.out.trans hW fun _ h=>h.elim
     have KB3:Hid (vG w3 W1.heap.size xb):=(hW.block _ (aS KB2.out) id).trans KB2.out
     have D3:Hid (w3.heap[w2.heap.size]? =ae (.cells (qF W1.heap.size) 193 (0,0))):=hD
     have H3:Hid (ay w3 B xb n<|h.mid jv L 0):=DI.out.after S3.out
     have V3:Hid (w3.ownsRow w.heap.size 184 4 (.slice ra L.length rc) L.length<|L.flatMap Rc.cs):=S3.out.ownsRow VW1.out fun _ _=>id
     have azA:xb<w2.heap.size:=dY gq S2.out.size
     clear hW hD))
  go_loopw [26] (fun ii w'=>∃j:Nat,j<=L.length/\ii=.int .i64 j/\ay w' B xb n (h.mid jv L j)/\Fr (fun k=>k=xb) w3 w') (fun ii _=>(L.length-dX ii).toNat)
  case atStart=>exact⟨0,by omega,rfl,H3.out,Fr.refl _ _⟩
  case round=>
   obtain⟨j,hj,rfl,dM,dA⟩:=hrel
   have HR:Hid (ay wr B xb n<|h.mid jv L j):=dM
   have FR:Hid (Fr (fun k=>k=xb) w3 wr):=dA
   have rf:∀o,wr.frozen? ⟨xb,o,af⟩=false:=jP dM.blk
   have r5:wr.cell? ⟨xb,5,af⟩=ae (.bool h.up):=dM.cU
   by_cases nU:j<L.length
   ·obtain⟨r,hr⟩:∃r,L[j]? =ae r:=⟨_,dR nU⟩
    have bY:=dA.ownsRow V3.out (fun k hk e=>by have:=(V3.out.lt k hk).1;omega)
    obtain⟨g,gc,wz,_⟩:=Io bY<|by omega
    simp only[aB7]at wz
    obtain⟨rfl,_,rfl⟩:=wz
    obtain⟨r0,r1,r2,r3⟩:=anA bY hr
    have Eg:=Qc.out r<|fD hr
    have her:=HJ.out.end_ r<|fD hr
    obtain⟨i,hi⟩:=vw Eg.p0
    have jw:i<6:=by have:=Eg.p1;omega
    obtain⟨x,hx⟩:∃x,(replay<|L.take j)[i]? =ae x:=⟨_,dR (by rw[UU];exact jw)⟩
    have wB:=anB h jv hr hi hx
    have HX:Hid ((h.mid jv L j).ps[i]? =ae x):=hx
    have hdb:w2.heap.size<wr.heap.size:=dY (aS D3.out) dA.size
    have afe:=(dA.block _ (aS D3.out)<|by omega).trans D3.out
    have XR:vG wr W1.heap.size xb:=(dA.block _ (aS KB3.out)<|by omega).trans KB3.out
    have HKB:Hid (vG wr W1.heap.size xb):=XR
    have dc:=anC afe
    have hxr:xb<wr.heap.size:=aS dM.blk
    obtain⟨kk,p,a,mm⟩:=r
    simp only at hi
    subst hi
    have Vf:Hid (h.mid jv L (j+1)=(h.mid jv L j).dE i (x.bJ ⟨kk,i,a,mm⟩)):=wB
    have sV:=Eg.k0
    have aI:=Eg.k1
    have ha0:0<=a:=Eg.a0
    have LJ:a<4:=Eg.a1
    simp only at sV aI r0 r1 r2 r3 her
    have hj0:(0:Int)<=(j:Int):=by omega
    have qW:(j:Int)<L.length:=by omega
    have Vg:Hid (ay (wr.alloc<|.cells #[.int .i64 kk,.int .i64 i,.int .i64 a,.int .i64 mm] 184).drew B xb n<|h.mid jv L j):=dM.after (aZ _).drew
    have XU:Hid (vG (wr.alloc<|.cells #[.int .i64 kk,.int .i64 i,.int .i64 a,.int .i64 mm] 184).drew W1.heap.size xb):=((aZ _).drew.block _ (aS XR) id).trans XR
    have Vh:Hid (∀(c:Nat) {v:aj},wr.cell? ⟨w2.heap.size,c,af⟩=ae v->(wr.alloc<|.cells #[.int .i64 kk,.int .i64 i,.int .i64 a,.int .i64 mm] 184).cell? ⟨wr.heap.size,0,af⟩=ae (.int .i64 kk)/\(wr.alloc<|.cells #[.int .i64 kk,.int .i64 i,.int .i64 a,.int .i64 mm] 184).cell? ⟨wr.heap.size,1,af⟩=ae (.int .i64 i)/\(wr.alloc<|.cells #[.int .i64 kk,.int .i64 i,.int .i64 a,.int .i64 mm] 184).cell? ⟨wr.heap.size,2,af⟩=ae (.int .i64 a)/\(wr.alloc<|.cells #[.int .i64 kk,.int .i64 i,.int .i64 a,.int .i64 mm] 184).cell? ⟨wr.heap.size,3,af⟩=ae (.int .i64 mm)/\(wr.alloc<|.cells #[.int .i64 kk,.int .i64 i,.int .i64 a,.int .i64 mm] 184).cell? ⟨w2.heap.size,c,af⟩=ae v):=fun c v hv=>
     ⟨aG (aB0 _ _) 0,aG (aB0 _ _) 1,aG (aB0 _ _) 2,aG (aB0 _ _) 3,((aZ _).cell (p:=⟨w2.heap.size,c,af⟩) hdb id).trans hv⟩
    have Vj:Hid (∀(c:Nat) {v:aj} (w5:ah),wr.cell? ⟨w2.heap.size,c,af⟩=ae v->Fr (fun k=>k=xb) (wr.alloc<|.cells #[.int .i64 kk,.int .i64 i,.int .i64 a,.int .i64 mm] 184).drew w5->w5.cell? ⟨wr.heap.size,0,af⟩=ae (.int .i64 kk)/\w5.cell? ⟨wr.heap.size,1,af⟩=ae (.int .i64 i)/\w5.cell? ⟨wr.heap.size,2,af⟩=ae (.int .i64 a)/\w5.cell? ⟨wr.heap.size,3,af⟩=ae (.int .i64 mm)/\w5.cell? ⟨w2.heap.size,c,af⟩=ae v):=fun c v w5 hv f5=>by
     have XV:=(f5.block wr.heap.size (by simp)<|by omega).trans<|aB0 wr<|.cells #[.int .i64 kk,.int .i64 i,.int .i64 a,.int .i64 mm] 184;exact⟨aG XV 0,aG XV 1,aG XV 2,aG XV 3,(f5.cell (p:=⟨w2.heap.size,c,af⟩) (by simp<;>omega) (by simp<;>omega)).trans<|((aZ _).cell (p:=⟨w2.heap.size,c,af⟩) hdb id).trans hv⟩
    clear bY dM dA hr hx wB afe XR Eg
    rcases(show kk=1\/kk=2\/kk=3\/kk=4 by omega)with hk|hk|hk|hk
    ·skip
     subst hk
     have yx:=dc.1
     go_wp2_with fail
     go_region_held3 (fun w'=>w'.cell? ⟨wr.heap.size,0,af⟩=ae (.int .i64 1)/\w'.cell? ⟨wr.heap.size,1,af⟩=ae (.int .i64 i)/\w'.cell? ⟨wr.heap.size,2,af⟩=ae (.int .i64 a)/\w'.cell? ⟨wr.heap.size,3,af⟩=ae (.int .i64 mm)/\w'.cell? ⟨w2.heap.size,1,af⟩=ae (.func (.func 179) #[] #[.pointer<|ae ⟨W1.heap.size,0,af⟩]))
      (first|with_reducible exact C5|exact Vh.out 1 yx|go_keep)
      ((go_at_call 179;refine(anD Vg.out XU.out jw HX.out a mm).mono ?_;rintro e w5 ⟨rfl,h5,lI⟩
        have H5:Hid (ay w5 B xb n<|h.mid jv L<|j+1):=(Vf.out▸h5)
        have F5:Hid (Fr (fun k=>k=xb) wr w5):=((aZ _).drew.mono (fun _ h=>h.elim):Fr (fun k=>k=xb) wr _).trans lI fun _ e=>.inl e
        have C5:=Vj.out 1 w5 yx lI
        clear h5 lI))
     go_wp2_with fail
     go_roundw
     case rel=>exact⟨j+1,by omega,by go_num,H5.out,FR.out.trans F5.out fun _ e=>.inl e⟩
     case measure=>simp[dX]<;>omega
    ·skip
     subst hk
     obtain⟨q,hq⟩:=vw ha0
     subst hq
     have l9:q<4:=by omega
     have yx:=dc.2.1
     go_wp2_with fail
     go_region_held3 (fun w'=>w'.cell? ⟨wr.heap.size,0,af⟩=ae (.int .i64 2)/\w'.cell? ⟨wr.heap.size,1,af⟩=ae (.int .i64 i)/\w'.cell? ⟨wr.heap.size,2,af⟩=ae (.int .i64 q)/\w'.cell? ⟨wr.heap.size,3,af⟩=ae (.int .i64 mm)/\w'.cell? ⟨w2.heap.size,2,af⟩=ae (.func (.func 180) #[] #[.pointer<|ae ⟨W1.heap.size,0,af⟩]))
      (first|with_reducible exact C5|exact Vh.out 2 yx|go_keep)
      ((go_at_call 180;refine(anE Vg.out XU.out jw l9 HX.out mm).mono ?_;rintro e w5 ⟨rfl,h5,lI⟩
        have H5:Hid (ay w5 B xb n<|h.mid jv L<|j+1):=(Vf.out▸h5)
        have F5:Hid (Fr (fun k=>k=xb) wr w5):=((aZ _).drew.mono (fun _ h=>h.elim):Fr (fun k=>k=xb) wr _).trans lI fun _ e=>.inl e
        have C5:=Vj.out 2 w5 yx lI
        clear h5 lI))
     go_wp2_with fail
     go_roundw
     case rel=>exact⟨j+1,by omega,by go_num,H5.out,FR.out.trans F5.out fun _ e=>.inl e⟩
     case measure=>simp[dX]<;>omega
    ·skip
     subst hk
     have HER:Hid (a=0\/a=1):=her rfl
     have yx:=dc.2.2.1
     go_wp2_with fail
     go_region_held3 (fun w'=>w'.cell? ⟨wr.heap.size,0,af⟩=ae (.int .i64 3)/\w'.cell? ⟨wr.heap.size,1,af⟩=ae (.int .i64 i)/\w'.cell? ⟨wr.heap.size,2,af⟩=ae (.int .i64 a)/\w'.cell? ⟨wr.heap.size,3,af⟩=ae (.int .i64 mm)/\w'.cell? ⟨w2.heap.size,3,af⟩=ae (.func (.func 181) #[] #[.pointer<|ae ⟨W1.heap.size,0,af⟩]))
      (first|with_reducible exact C5|exact Vh.out 3 yx|go_keep)
      ((go_at_call 181;refine(anF Vg.out XU.out jw HX.out mm HER.out).mono ?_;rintro e w5 ⟨rfl,h5,lI⟩
        have H5:Hid (ay w5 B xb n<|h.mid jv L<|j+1):=(Vf.out▸h5)
        have F5:Hid (Fr (fun k=>k=xb) wr w5):=((aZ _).drew.mono (fun _ h=>h.elim):Fr (fun k=>k=xb) wr _).trans lI fun _ e=>.inl e
        have C5:=Vj.out 3 w5 yx lI
        clear h5 lI))
     go_wp2_with fail
     go_roundw
     case rel=>exact⟨j+1,by omega,by go_num,H5.out,FR.out.trans F5.out fun _ e=>.inl e⟩
     case measure=>simp[dX]<;>omega
    ·skip
     subst hk
     have yx:=dc.2.2.2
     go_wp2_with fail
     go_region_held3 (fun w'=>w'.cell? ⟨wr.heap.size,0,af⟩=ae (.int .i64 4)/\w'.cell? ⟨wr.heap.size,1,af⟩=ae (.int .i64 i)/\w'.cell? ⟨wr.heap.size,2,af⟩=ae (.int .i64 a)/\w'.cell? ⟨wr.heap.size,3,af⟩=ae (.int .i64 mm)/\w'.cell? ⟨w2.heap.size,4,af⟩=ae (.func (.func 182) #[] #[.pointer<|ae ⟨W1.heap.size,0,af⟩]))
      (first|with_reducible exact C5|exact Vh.out 4 yx|go_keep)
      ((go_at_call 182;refine(anG Vg.out XU.out jw HX.out a mm).mono ?_;rintro e w5 ⟨rfl,h5,lI⟩
        have H5:Hid (ay w5 B xb n<|h.mid jv L<|j+1):=(Vf.out▸h5)
        have F5:Hid (Fr (fun k=>k=xb) wr w5):=((aZ _).drew.mono (fun _ h=>h.elim):Fr (fun k=>k=xb) wr _).trans lI fun _ e=>.inl e
        have C5:=Vj.out 4 w5 yx lI
        clear h5 lI))
     go_wp2_with fail
     go_roundw
     case rel=>exact⟨j+1,by omega,by go_num,H5.out,FR.out.trans F5.out fun _ e=>.inl e⟩
     case measure=>simp[dX]<;>omega
   ·have hjL:j=L.length:=by omega
    subst hjL
    have HT:Hid (L.take L.length=L):=D8<|bV _
    clear dM dA
    go_wp2_with fail
    go_end0
    have fs:Fr (fun k=>k=xb) wr (wr.setCell ⟨xb,5,af⟩<|.bool true):=(Fr.refl (fun k=>k=xb) wr).setCell (p:=⟨xb,5,af⟩) (.inl rfl) _
    refine⟨rfl,jv,?_,(((gX.out.trans S3.out fun _ h=>h.elim).trans FR.out fun _ e=>.inl e).trans fs fun _ e=>.inl e),HOB.out⟩
    have e1:h.FY jv L=(h.mid jv L L.length).xB:=by unfold HS.FY HS.mid HS.xB;rw[HT.out]
    rw[e1]
    refine HR.out.put fs ?_ rfl rfl rfl rfl rfl rfl rfl rfl HR.out.h6
    rw[jQ HR.out.blk,HS.aew]
end
end
end Go.Proofs.YtkelpcjiediamaaGreat
