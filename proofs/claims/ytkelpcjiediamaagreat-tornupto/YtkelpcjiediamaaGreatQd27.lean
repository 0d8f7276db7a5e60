import Derived.Test.YtkelpcjiediamaaGreatQd26
set_option maxRecDepth 100000
set_option maxHeartbeats 0
set_option linter.all false
namespace Go.Proofs.YtkelpcjiediamaaGreat
open Go renaming Calls→aU,Frame→bu,TypeId→dw,Value→az,World→aj,execOp→dP,maxLen→dU,stepG→bD,undef→ai
open Go.Ending renaming returned→aT
open Go.IntKind renaming i64→ah
open Go.Item renaming inRegion→bQ
open Go.Obj renaming cells→aC
open Go.RowKit renaming intOf→fH
open Go.Value renaming bool→aB,int→ag,pointer→ay,slice→aJ,string→dA,tuple→dK
open Option renaming none→af,some→ae
open Go.Proofs.Tryz
open Go.RowKit Go.Maps
section
section
variable{w w':aj}{B pb xb N:Nat}{s s':dB}{fo s0:Nat->Prop}
variable{ts:ByteArray}
def axc(a:bH w B pb xb N s)(hN:N<=70000000)(k p q m:Int)(hp:eP p)(hq:eP q)(hm:eP m)(fl:Bool)(h5:k≠5)(KN:k≠11):
 akm #[ay<|ae ⟨pb,0,af⟩,vP k p q m ts fl] w (kV w B pb xb s<|N+21):=by
 obtain⟨P,hP⟩:=uA (show 0<=s.h.P by have:=a.pg.sn.P1;omega);obtain⟨Q,hQ⟩:=uA (show 0<=s.h.Q by have:=a.pg.sn.Q1;omega);have Zu:1<=P/\P<=6:=by have:=a.pg.sn.P1;omega
 have Yk:1<=Q/\Q<=4:=by have:=a.pg.sn.Q1;omega
 have A:Hid (bH w B pb xb N s):=a;have HM:Hid (eP m):=hm;have fF:Hid (N<=70000000):=hN;have yY:Hid (eP p/\eP q/\s.h.P=(P:Int)/\s.h.Q=(Q:Int)):=⟨hp,hq,hP,hQ⟩;obtain⟨c0,c1,c2,_⟩:=a.cells;rw[hP]at c1;rw[hQ]at c2;have aI:=aX a.pa.blk;unfold vP;clear a hN hp hq hm hP hQ;unfold akm;simp only[ntmps48,GK,oq,wB,Nat.reduceAdd,Nat.reduceSub,VQ,VP,VT,VR,xH,nP];obtain⟨Q0,gX⟩:∃Q0,bodyPost prog Tryz.f48 (kV w B pb xb s<|N+21)=Q0:=⟨_,rfl⟩;rw[gX];simp only[b48,Tryz.f48,ik,au.cutAt,if_true,kQ,kP];rw[<-gX];clear gX;go_wp2_with fail
 have ZW:Hid (∃W:aj,W=w.alloc (aC #[ag ah k,ag ah p,ag ah q,ag ah m,dA ts,aB fl] 28 (0,0))):=⟨_,rfl⟩;obtain⟨W1,eW⟩:=ZW.o;rw[<-eW];have iH:Hid (Fr aP w W1):=by subst eW;exact bG _
 have BX:Hid (W1.heap[w.heap.size]? =ae (aC #[ag ah k,ag ah p,ag ah q,ag ah m,dA ts,aB fl] 28 (0,0))):=by subst eW;exact aDY _ _
 clear ZW eW;have b0:W1.cell? ⟨w.heap.size,0,af⟩=ae (ag ah k):=aK BX.o 0;have b1:W1.cell? ⟨w.heap.size,1,af⟩=ae (ag ah p):=aK BX.o 1;have b2:W1.cell? ⟨w.heap.size,2,af⟩=ae (ag ah q):=aK BX.o 2;have b3:W1.cell? ⟨w.heap.size,3,af⟩=ae (ag ah m):=aK BX.o 3;have b4:W1.cell? ⟨w.heap.size,4,af⟩=ae (dA ts):=aK BX.o 4;have b5:W1.cell? ⟨w.heap.size,5,af⟩=ae (aB fl):=aK BX.o 5;have d1:=(iH.o.cell (p:=⟨pb,1,af⟩) aI id).trans c1;have d2:=(iH.o.cell (p:=⟨pb,2,af⟩) aI id).trans c2;have tH:Hid (∀V,aU prog 49 #[ag ah p,ag ah P] V fun e w'=>∃k:Nat,k<P/\e=aT (ag ah k)/\V=w'):=fun V=>vO p yY.o.1 Zu.1 (by omega) V;have sV:Hid (∀V,aU prog 49 #[ag ah q,ag ah Q] V fun e w'=>∃k:Nat,k<Q/\e=aT (ag ah k)/\V=w'):=fun V=>vO q yY.o.2.1 Yk.1 (by omega) V;go_region_held3 (fun w'=>w'.cell? ⟨w.heap.size,1,af⟩=ae (ag ah p)/\w'.cell? ⟨pb,1,af⟩=ae (ag ah P))
  (first|exact⟨b1,d1⟩|go_keep)
  ((go_at_call 49;with_reducible refine(tH.o _).mono ?_;rintro e w2 ⟨i,hi,rfl,rfl⟩))
 go_wp2_with fail
 go_region_held3 (fun w'=>w'.cell? ⟨w.heap.size,2,af⟩=ae (ag ah q)/\w'.cell? ⟨pb,2,af⟩=ae (ag ah Q))
  (first|exact⟨b2,d2⟩|go_keep)
  ((go_at_call 49;with_reducible refine(sV.o _).mono ?_;rintro e w3 ⟨j,hj,rfl,rfl⟩))
 have F2:Hid (Fr aP w W1.drew.drew):=(iH.o.drew).drew;have HI:Hid ((i:Int)<s.h.P/\(j:Int)<s.h.Q):=⟨by have:=yY.o.2.2.1;omega,by have:=yY.o.2.2.2;omega⟩;by_cases k1:k=1
 ·subst k1;go_wp2_with fail
  refine(awg (A.o.after F2.o) (by have:=fF.o;omega) HI.o.1).mono ?_;rintro e w4 ⟨rfl,s2,t2⟩;have T:Hid (kV w B pb xb s (N+21) (aT<|aB true) w4):=⟨rfl,s2,(bW.skip A.o F2.o t2).mono<|by omega⟩;clear t2;go_wp2_with fail
  go_ret;exact T.o
 by_cases k2:k=2
 ·subst k2;go_wp2_with fail
  refine(avW (A.o.after F2.o) (by have:=fF.o;omega) HI.o.1 HI.o.2).mono ?_;rintro e w4 ⟨rfl,s2,t2⟩;have T:Hid (kV w B pb xb s (N+21) (aT<|aB true) w4):=⟨rfl,s2,(bW.skip A.o F2.o t2).mono<|by omega⟩;clear t2;go_wp2_with fail
  go_ret;exact T.o
 by_cases k3:k=3
 ·subst k3;have jQ:∀{ts':ByteArray},ts'.size<=8->aU prog 61 #[ay<|ae ⟨pb,0,af⟩,ag ah i,ag ah j,dA ts'] W1.drew.drew fun e w'=>e=aT (aB true)/\Hid (kV w B pb xb s (N+21) (aT<|aB true) w'):=fun h8=>
   (aw8 (A.o.after F2.o) (by have:=fF.o;omega) HI.o.1 HI.o.2 h8).mono fun e w' ⟨h1,s2,t2⟩=>⟨h1,rfl,s2,(bW.skip A.o F2.o t2).mono<|by omega⟩
  have HF:Hid (∀{ts':ByteArray},ts'.size<=8->aU prog 61 #[ay<|ae ⟨pb,0,af⟩,ag ah i,ag ah j,dA ts'] W1.drew.drew fun e w'=>e=aT (aB true)/\Hid (kV w B pb xb s (N+21) (aT<|aB true) w')):=jQ;clear jQ;by_cases h8:(8:Int)<(ts.size:Int)
  ·go_wp2_with fail
   refine(HF.o (ts':=ts.extract 0 8) (by rw[ByteArray.size_extract];omega)).mono ?_;rintro e w4 ⟨rfl,T⟩;go_wp2_with fail
   go_ret;exact T.o
  ·go_wp2_with fail
   refine(HF.o<|by omega).mono ?_;rintro e w4 ⟨rfl,T⟩;go_wp2_with fail
   go_ret;exact T.o
 by_cases k4:k=4
 ·subst k4;go_wp2_with fail
  refine(av9 (A.o.after F2.o) (by have:=fF.o;omega) HI.o.1 fl).mono ?_;rintro e w4 ⟨rfl,s2,t2⟩;have T:Hid (kV w B pb xb s (N+21) (aT<|aB true) w4):=⟨rfl,s2,(bW.skip A.o F2.o t2).mono<|by omega⟩;clear t2;go_wp2_with fail
  go_ret;exact T.o
 by_cases k6:k=6
 ·subst k6;go_wp2_with fail
  refine(adp (A.o.after F2.o) (by have:=fF.o;omega) 6 p q m HM.o fl<|by decide).mono ?_;rintro e w4 ⟨rfl,s2,t2⟩;have T:Hid (kV w B pb xb s (N+21) (aT<|aB true) w4):=⟨rfl,s2,(bW.skip A.o F2.o t2).mono<|by omega⟩;clear t2;go_wp2_with fail
  go_ret;exact T.o
 by_cases k7:k=7
 ·subst k7;go_wp2_with fail
  refine(adp (A.o.after F2.o) (by have:=fF.o;omega) 7 p q m HM.o fl<|by decide).mono ?_;rintro e w4 ⟨rfl,s2,t2⟩;have T:Hid (kV w B pb xb s (N+21) (aT<|aB true) w4):=⟨rfl,s2,(bW.skip A.o F2.o t2).mono<|by omega⟩;clear t2;go_wp2_with fail
  go_ret;exact T.o
 by_cases k8:k=8
 ·subst k8;go_wp2_with fail
  refine(adp (A.o.after F2.o) (by have:=fF.o;omega) 8 p q m HM.o fl<|by decide).mono ?_;rintro e w4 ⟨rfl,s2,t2⟩;have T:Hid (kV w B pb xb s (N+21) (aT<|aB true) w4):=⟨rfl,s2,(bW.skip A.o F2.o t2).mono<|by omega⟩;clear t2;go_wp2_with fail
  go_ret;exact T.o
 by_cases k9:k=9
 ·subst k9;go_wp2_with fail
  refine(avZ (A.o.after F2.o) (by have:=fF.o;omega) p q m HM.o fl).mono ?_;rintro e w4 ⟨rfl,s2,t2⟩;have T:Hid (kV w B pb xb s (N+21) (aT<|aB true) w4):=⟨rfl,s2,(bW.skip A.o F2.o t2).mono<|by omega⟩;clear t2;go_wp2_with fail
  go_ret;exact T.o
 by_cases VH:k=10
 ·subst VH;have d0:W1.drew.drew.cell? ⟨pb,0,af⟩=ae (ay<|ae ⟨xb,0,af⟩):=(F2.o.cell (p:=⟨pb,0,af⟩) aI id).trans c0;have g5:W1.drew.drew.cell? ⟨w.heap.size,5,af⟩=ae (aB fl):=b5;have TN:Hid (W1.drew.drew.drew.heap[w.heap.size]? =ae (aC #[ag ah 10,ag ah p,ag ah q,ag ah m,dA ts,aB fl] 28 (0,0))):=BX.o;have HC:Hid (∀V:aj,Fr aP w V->V.heap[w.heap.size]? =ae (aC #[ag ah 10,ag ah p,ag ah q,ag ah m,dA ts,aB fl] 28 (0,0))->aU prog 52 #[ay<|ae ⟨xb,0,af⟩,ag ah j,aB fl] V fun e w'=>e=aT (ag ah 0)/\Hid (kV w B pb xb s (N+21) (aT<|aB true) w')/\(w'.cell? ⟨pb,0,af⟩=ae (ay<|ae ⟨xb,0,af⟩)/\w'.cell? ⟨w.heap.size,5,af⟩=ae (aB fl))):=fun V f Af=>
   (aw9 (A.o.after f) HI.o.2 fl).mono fun e w' ⟨h1,s2,t2⟩=>⟨h1,⟨rfl,s2,(bW.skip A.o f t2.to).mono<|by omega⟩,t2.to.at_.cells.1,aK ((t2.to.fr.block _ (aX Af)<|(A.o.after f).zV Af rfl).trans Af) 5⟩
  go_wp2_with fail
  go_region_held3 (fun w'=>w'.cell? ⟨pb,0,af⟩=ae (ay<|ae ⟨xb,0,af⟩)/\w'.cell? ⟨w.heap.size,5,af⟩=ae (aB fl))
   (first|with_reducible exact C4|exact⟨d0,g5⟩|go_keep)
   ((go_at_call 52;with_reducible refine(HC.o _ (F2.o.drew) TN.o).mono ?_;rintro e w4 ⟨rfl,T,C4⟩))
  go_wp2_with fail
  go_ret;exact T.o
 by_cases VI:k=13
 ·subst VI;have d0:W1.drew.drew.cell? ⟨pb,0,af⟩=ae (ay<|ae ⟨xb,0,af⟩):=(F2.o.cell (p:=⟨pb,0,af⟩) aI id).trans c0;have HC:=axa<|A.o.after F2.o;have HC0:Hid (aU prog 44 #[ay<|ae ⟨xb,0,af⟩] W1.drew.drew fun e w'=>e=aT (.int .i64<|if s.h.up then 0 else 5)/\JX W1.drew.drew w' B pb xb N s):=HC;clear HC;go_wp2_with fail
  refine HC0.o.mono ?_;rintro e w4 ⟨rfl,fe⟩;have T:Hid (∀V,Fr aP w4 V->kV w B pb xb s (N+21) (aT<|aB true) (V.setCell ⟨pb,6,af⟩<|aB true)):=fun V f=>by
   obtain⟨s2,t2⟩:=fe.note f;exact⟨rfl,s2,(bW.skip A.o F2.o t2).mono<|by omega⟩
  have e6:w4.cell? ⟨pb,6,af⟩=ae (.bool<|!s.h.up):=fe.cell A.o;have Np:pb<w4.heap.size:=nU e6;have Ea:w4.frozen? ⟨pb,6,af⟩=false:=fe.soft;clear fe;cases hu:s.h.up with
  |true=>
   rw[hu]at e6;simp only[if_true,Oh]at*
   go_wp2
   go_ret;exact T.o _<|Fr.refl _ _
  |false=>
   rw[hu]at e6;simp only[kP,kQ,afk]at*
   go_wp2
   go_ret;exact T.o _<|Fr.refl _ _
 by_cases VJ:k=14
 ·subst VJ;have d0:W1.drew.drew.cell? ⟨pb,0,af⟩=ae (ay<|ae ⟨xb,0,af⟩):=(F2.o.cell (p:=⟨pb,0,af⟩) aI id).trans c0;have HC:=axb (A.o.after F2.o) fF.o;have HC0:Hid (aU prog 29 #[ay<|ae ⟨xb,0,af⟩] W1.drew.drew fun e w'=>e=aT (.int .i64<|if s.h.up then 6 else 0)/\JY W1.drew.drew w' B pb xb N s):=HC;clear HC;go_wp2_with fail
  refine HC0.o.mono ?_;rintro e w4 ⟨rfl,fe⟩;have T:Hid (∀V,Fr aP w4 V->kV w B pb xb s (N+21) (aT<|aB true) (V.setCell ⟨pb,6,af⟩<|aB false)):=fun V f=>by
   obtain⟨s2,t2⟩:=fe.note f;exact⟨rfl,s2,(bW.skip A.o F2.o t2).mono<|by omega⟩
  have e6:w4.cell? ⟨pb,6,af⟩=ae (.bool<|!s.h.up):=fe.cell A.o;have Np:pb<w4.heap.size:=nU e6;have Ea:w4.frozen? ⟨pb,6,af⟩=false:=fe.soft;clear fe;cases hu:s.h.up with
  |true=>
   rw[hu]at e6;simp only[if_true,Oh]at*
   go_wp2
   go_ret;exact T.o _<|Fr.refl _ _
  |false=>
   rw[hu]at e6;simp only[kP,kQ,afk]at*
   go_wp2
   go_ret;exact T.o _<|Fr.refl _ _
 have hk:k≠1/\k≠2/\k≠3/\k≠4/\k≠5/\k≠6/\k≠7/\k≠8/\k≠9/\k≠10/\k≠11/\k≠13/\k≠14:=⟨k1,k2,k3,k4,h5,k6,k7,k8,k9,VH,KN,VI,VJ⟩;have T:Hid (kV w B pb xb s (N+21) (aT<|aB true) W1.drew.drew):=⟨rfl,s,(bW.still A.o F2.o).mono<|by omega⟩;obtain⟨k1,k2,k3,k4,k5,k6,k7,k8,k9,VH,k11,VI,VJ⟩:=hk;go_wp2
 go_ret;exact T.o
def adJ{Bn:au.cO}(k p q m:Int)(ts:ByteArray)(fl:Bool):au.aG Bn (vP k p q m ts fl):=.agg fun x hx=>by
 simp only[tu,jR,pF,pG]at hx;rcases hx with rfl|rfl|rfl|rfl|rfl|rfl
 ·exact .int
 ·exact .int
 ·exact .int
 ·exact .int
 ·exact .string
 ·exact .bool
def axd(a:bH w B pb xb N s)(hN:N<=70000000)(hp:¬(s0 pb\/fo pb))(k p q m:Int)(ip:eP p)(iq:eP q)(im:eP m)(fl:Bool)(h5:k≠5)(KN:k≠11):
 au.tX (au.bJ fo s0) prog 48 #[ay<|ae ⟨pb,0,af⟩,vP k p q m ts fl] w (fun B' v w'=>v=aB true/\ug fo s0 w w' B pb xb s (N+21) B'):=by
 intro c cs;refine au.Reach.ok fun bP=>?_;have yl:∀b,s0 b\/fo b->1<=b:=fun b hb=>(bP.low b hb).1;refine(au.adC (R:=fun t d=>kV (au.re w t d) B pb xb s<|N+21) (au.lets yl) (yZ yl) func48 rfl (au.aki [true,true,true,false,true,true,true,true,true,true,true,true,true,true,false] _) aw3 (au.bT.two (Bi hp<|aX a.pa.blk)<|adJ k p q m ts fl) (fun t d=>axc (a.re t d) hN k p q m ip iq im fl h5 KN) (fun t d e w' hq=>⟨_,hq.1⟩) c cs).mono ?_;rintro B' fr' w' ⟨v,rfl,rfl,_,on,t,d,t',j,hq⟩;obtain⟨h1,⟨s',ht⟩⟩:=hq;exact⟨v,rfl,by simpa using h1,⟨_,s',rfl,fun k hk=>.inl hk,(ht.JP on).zY a⟩⟩
end
end
section
section
variable{w w' w1:aj}{B pb xb N:Nat}{s s':dB}{s0 fo:Nat->Prop}
structure Eo(w w':aj)(B pb xb N:Nat)(s:dB):Prop where
 ex:∃h',aF w' B xb N h'/\gQ w' B pb xb h' s.g s.v/\Fr (s.h.fA xb) w w'/\Pg N h' s.L {s.g with dn:=false}/\(h'.P=s.h.P/\h'.Q=s.h.Q/\h'.T=s.h.T/\h'.K=s.h.K)/\(∀k,h'.fA xb k->s.h.fA xb k\/w.heap.size<=k)/\h'.up=true/\h'.pl=s.h.pl
structure Fair(q:Nat)(s:dB):Prop where
 up:s.h.up=true
 ins:∀(k:Nat) (p:PL),k<q->s.h.pl[k]? =ae p->p.out=false
def Eo.note{V:aj}(a:bH w B pb xb N s)(f:Eo w w' B pb xb N s)(g:Fr aP w' V):∃s2,bW w (V.setCell ⟨pb,6,af⟩<|aB false) B pb xb s N s2/\Fair 0 s2:=by
 obtain⟨h',ha,b,fr,pg,cf,sub,hu,hl⟩:=f.ex;obtain⟨n1,n2,n3⟩:=adi (d:=false) (ha.after g)<|b.after g;exact⟨⟨h',s.L,{s.g with dn:=false},s.v⟩,⟨⟨n2,by rw[hl];exact a.ax,n1,pg,a.wr,a.fa⟩,((fr.trans g fun _ h=>h.elim).mono fun k e=>.inl<|.inl e).trans n3 fun k e=>.inl<|.inr<|.inl e,fun k hk=>hk.elim (fun e=>(sub k e).imp .inl id) fun e=>.inl<|.inr e,cf⟩,hu,fun k p hk=>by omega⟩
def Eo.cell(f:Eo w w' B pb xb N s):w'.cell? ⟨pb,6,af⟩=ae (aB s.g.dn)/\w'.frozen? ⟨pb,6,af⟩=false:=by
 obtain⟨h',_,b,_⟩:=f.ex;exact⟨aK b.blk 6,jS b.blk 6⟩
def Eo.lt(f:Eo w w' B pb xb N s):pb<w'.heap.size:=by
 obtain⟨h',_,b,_⟩:=f.ex;exact aX b.blk
def axe(a:bH w B pb xb N s)(hN:N<=70000000)(hu:s.h.up=true):aU prog 44 #[ay<|ae ⟨xb,0,af⟩] w fun e w1=>e=aT (ag ah 0)/\gQ w1 B pb xb s.h s.g s.v/\
 ∀V,Fr aP w1 V->aU prog 29 #[ay<|ae ⟨xb,0,af⟩] V fun e w'=>e=aT (ag ah 0)/\Eo w w' B pb xb N s:=
 (afZ a.ha).mono fun e w1 ⟨h1,h2,h3⟩=>by
   rw[hu,if_pos rfl]at h1 h2;have Am:gQ w1 B pb xb s.h s.g s.v:=a.pa.stay h3 fun k e hk=>a.ha.off a.pa (.inl e) hk;have pg1:=a.pg.PN;refine⟨h1,Am,fun V f=>(WI (h2.after f) rfl (pg1.sn.dn rfl)<|pg1.sn.kT<|by omega).mono fun e w' ⟨r1,jv,mv⟩=>⟨r1,?_⟩⟩;have QB:gQ V B pb xb s.h.qY s.g s.v:=by
    have b:=Am.after f;exact⟨b.blk,b.ep,b.wr,b.fa,b.gt,b.gl,b.rc,b.st,b.ap,b.hb⟩
   have st:gQ w' B pb xb s.h.qY s.g s.v:=QB.stay mv.fr fun k e hk=>(h2.after f).off QB e hk;have fr:Fr (s.h.fA xb) w w':=((h3.mono fun k e=>.inl<|.inl e).trans (f.mono fun _ h=>h.elim) fun _=>.inl).trans mv.fr fun k hk=>.inl hk;exact⟨s.h.qY.DV jv s.L,mv.at_,⟨st.blk,st.ep,st.wr,st.fa,st.gt,st.gl,st.rc,st.st,st.ap,st.hb⟩,fr,pg1.MI jv,⟨rfl,rfl,rfl,rfl⟩,fun k hk=>(mv.sub k hk).imp id fun e=>eG (h3.trans (f.mono fun _ h=>h.elim) fun _=>.inl).size e,rfl,rfl⟩
def axf(a:bH w B pb xb N s)(hN:N<=70000000)(hu:s.h.up=false):aU prog 29 #[ay<|ae ⟨xb,0,af⟩] w fun e w'=>e=aT (ag ah 0)/\Eo w w' B pb xb N s:=
 (WI a.ha hu (a.pg.sn.dn hu)<|a.pg.sn.kT<|by omega).mono fun e w' ⟨h1,jv,mv⟩=>⟨h1,by
   have st:gQ w' B pb xb s.h s.g s.v:=a.pa.stay mv.fr fun k e hk=>a.ha.off a.pa e hk;exact⟨s.h.DV jv s.L,mv.at_,⟨st.blk,st.ep,st.wr,st.fa,st.gt,st.gl,st.rc,st.st,st.ap,st.hb⟩,mv.fr,a.pg.MI jv,⟨rfl,rfl,rfl,rfl⟩,mv.sub,rfl,rfl⟩⟩
def akq(a:bH w B pb xb N s){q:Nat}(hq:(q:Int)<s.h.Q)(F:Fair q s):aU prog 52 #[ay<|ae ⟨xb,0,af⟩,ag ah q,aB false] w fun e w'=>e=aT (ag ah 0)/\∃s2,bW w w' B pb xb s (N+1) s2/\Fair (q+1) s2:=by
 obtain⟨p,hp⟩:=a.q hq;refine(agO a.ha hp false).mono fun e w' ⟨h1,mv⟩=>⟨h1,_,(kK.Eh a mv (a.ax.out hp false) (by omega) (by omega) (a.pg.sn.out hp false) ⟨rfl,rfl,rfl,rfl,rfl,.refl _,.set hp ⟨.refl _,rfl⟩⟩).to,F.up,fun k p' hk vU=>?_⟩;by_cases e:q=k
 ·subst e;rw[show(s.h.gZ q {p with out:=false}).pl[q]? =ae _ from mQ (dM.1 hp).1]at vU;cases vU;rfl
 ·rw[show(s.h.gZ q {p with out:=false}).pl[k]? =_ from uZ e]at vU;exact F.ins k p' (by omega) vU
def Yu(w:aj)(B pb xb N:Nat)(s:dB)(e:Ending)(w':aj):Prop:=e=aT (aB true)/\∃s',bW w w' B pb xb s (N+4) s'/\s'.h.up=true/\∀(k:Nat) (p:PL),s'.h.pl[k]? =ae p->p.out=false
noncomputable def b19:Code:=Tryz.f19.body.getD .skip
def axg:au.codeOk prog au.lF b19=true:=by kernel_rfl
def akr(args:Array az)(w:aj)(R:Ending->aj->Prop):Prop:=b19.wp prog (bodyPost prog Tryz.f19 R) {tmps:=args++Array.replicate (Tryz.f19.ntmps-args.size) ai,defers:=[]} w
def axh(a:bH w B pb xb N s)(hN:N<=60000000):akr #[ay<|ae ⟨pb,0,af⟩] w (Yu w B pb xb N s):=by
 have A:Hid (bH w B pb xb N s):=a;have fF:Hid (N<=60000000):=hN;obtain⟨Q,hQ⟩:=uA (show 0<=s.h.Q by have:=a.pg.sn.Q1;omega);have HQ:Hid (s.h.Q=Q):=hQ;have hQ4:Q<=4:=by have:=a.pg.sn.Q1.2;omega
 obtain⟨c0,_,_,_,c6,_⟩:=a.cells;have aI:=aX a.pa.blk;have HDN:Hid (s.g.dn= !s.h.up):=a.pg.dn;clear a hN hQ;unfold akr;simp only[ntmps19,GK,oq,wB,Nat.reduceAdd,Nat.reduceSub,VQ,VP,VT,VR,xH,nP];obtain⟨Q0,gX⟩:∃Q0,bodyPost prog Tryz.f19 (Yu w B pb xb N s)=Q0:=⟨_,rfl⟩;rw[gX];simp only[b19,Tryz.f19,ik];rw[<-gX];clear gX;have jQ:Hid (∀V s',bW w V B pb xb s (N+Q) s'->Fair Q s'->Yu w B pb xb N s (aT<|aB true) V):=fun V s' t F=>⟨rfl,s',t.mono<|by omega,F.up,fun k p hp=>F.ins k p (by
  have h1:=(dM.1 hp).1;have h2:=t.at_.ha.hQ.1;have h3:s'.h.Q=Q:=t.cf.2.1.trans HQ.o;omega) hp⟩
 obtain⟨u,hu⟩:∃u,s.h.up=u:=⟨_,rfl⟩;have HU:Hid (s.h.up=u):=hu;have kE:=HDN.o;rw[hu]at kE;rw[kE]at c6;clear kE hu HDN;cases u
 ·go_wp2_with fail
  refine(axf A.o (by have:=fF.o;omega) HU.o).mono ?_;rintro e w1 ⟨rfl,ri⟩;have RI:Hid (Eo w w1 B pb xb N s):=ri;clear ri c0 c6 aI;obtain⟨s0,t0,F0⟩:=RI.o.note A.o<|Fr.refl _ _;have T0:Hid (bW w (w1.setCell ⟨pb,6,af⟩<|aB false) B pb xb s N s0/\Fair 0 s0):=⟨t0,F0⟩;obtain⟨c6',f6⟩:=RI.o.cell;have lU:=RI.o.lt;clear t0 F0;go_wp2_with fail
  go_loopw [5] (fun iv w'=>∃i:Nat,i<=Q/\iv=ag ah i/\∃s2,bW w w' B pb xb s (N+i) s2/\Fair i s2) (fun iv _=>Q-(fH iv).toNat)
  case atStart=>exact⟨0,mi _,rfl,s0,T0.o⟩
  case round=>
   obtain⟨i,hi,rfl,s2,t2,F2⟩:=hrel
   obtain⟨y0,_,y2,_⟩:=t2.at_.cells
   rw[show s2.h.Q=Q from t2.cf.2.1.trans HQ.o]at y2
   have TQ:=aX t2.at_.pa.blk
   have T2:Hid (bW w wr B pb xb s (N+i) s2/\Fair i s2):=⟨t2,F2⟩
   clear t2 F2 c6' f6 lU
   by_cases hlq:i<Q
   ·have Yh:(i:Int)<(Q:Int):=by omega
    go_wp2_with fail
    refine(akq T2.o.1.at_ (by rw[show s2.h.Q=Q from T2.o.1.cf.2.1.trans HQ.o];exact Yh) T2.o.2).mono ?_
    rintro e w3 ⟨rfl,s3,t3,F3⟩
    have T3:Hid (bW w w3 B pb xb s (N+(i+1)) s3/\Fair (i+1) s3):=⟨T2.o.1.trans t3,F3⟩
    clear t3 F3 y0 y2 TQ
    go_wp2_with fail
    go_roundw
    case rel=>exact⟨i+1,by omega,by go_num,s3,T3.o⟩
    case measure=>simp[fH]<;>omega
   ·obtain rfl:i=Q:=by omega
    go_wp2
    go_ret
    exact jQ.o _ s2 T2.o.1 T2.o.2
 ·go_wp2_with fail
  refine(axe A.o (by have:=fF.o;omega) HU.o).mono ?_;rintro e w1 ⟨rfl,b1,K⟩;have K1:Hid (∀V,Fr aP w1 V->aU prog 29 #[ay<|ae ⟨xb,0,af⟩] V fun e w'=>e=aT (ag ah 0)/\Eo w w' B pb xb N s):=K;have Zk:w1.cell? ⟨pb,0,af⟩=ae (ay<|ae ⟨xb,0,af⟩):=aK b1.blk 0;have Zg:=aX b1.blk;clear K b1 c0 aI;go_wp2_with fail
  refine(K1.o _<|Fr.refl _ _).mono ?_;rintro e w2 ⟨rfl,ri⟩;have RI:Hid (Eo w w2 B pb xb N s):=ri;clear ri Zk c6 Zg K1;obtain⟨s0,t0,F0⟩:=RI.o.note A.o<|Fr.refl _ _;have T0:Hid (bW w (w2.setCell ⟨pb,6,af⟩<|aB false) B pb xb s N s0/\Fair 0 s0):=⟨t0,F0⟩;obtain⟨c6',f6⟩:=RI.o.cell;have lU:=RI.o.lt;clear t0 F0;go_wp2_with fail
  go_loopw [5] (fun iv w'=>∃i:Nat,i<=Q/\iv=ag ah i/\∃s2,bW w w' B pb xb s (N+i) s2/\Fair i s2) (fun iv _=>Q-(fH iv).toNat)
  case atStart=>exact⟨0,mi _,rfl,s0,T0.o⟩
  case round=>
   obtain⟨i,hi,rfl,s2,t2,F2⟩:=hrel
   obtain⟨y0,_,y2,_⟩:=t2.at_.cells
   rw[show s2.h.Q=Q from t2.cf.2.1.trans HQ.o]at y2
   have TQ:=aX t2.at_.pa.blk
   have T2:Hid (bW w wr B pb xb s (N+i) s2/\Fair i s2):=⟨t2,F2⟩
   clear t2 F2 c6' f6 lU
   by_cases hlq:i<Q
   ·have Yh:(i:Int)<(Q:Int):=by omega
    go_wp2_with fail
    refine(akq T2.o.1.at_ (by rw[show s2.h.Q=Q from T2.o.1.cf.2.1.trans HQ.o];exact Yh) T2.o.2).mono ?_
    rintro e w3 ⟨rfl,s3,t3,F3⟩
    have T3:Hid (bW w w3 B pb xb s (N+(i+1)) s3/\Fair (i+1) s3):=⟨T2.o.1.trans t3,F3⟩
    clear t3 F3 y0 y2 TQ
    go_wp2_with fail
    go_roundw
    case rel=>exact⟨i+1,by omega,by go_num,s3,T3.o⟩
    case measure=>simp[fH]<;>omega
   ·obtain rfl:i=Q:=by omega
    go_wp2
    go_ret
    exact jQ.o _ s2 T2.o.1 T2.o.2
def axi(a:bH w B pb xb N s)(hN:N<=60000000)(hp:¬(s0 pb\/fo pb)):
 au.tX (au.bJ fo s0) prog 19 #[ay<|ae ⟨pb,0,af⟩] w (fun B' v w'=>B'=au.bJ fo s0/\v=aB true/\∃s',wV w w' B pb xb s (N+4) s'/\s'.h.up=true/\∀(k:Nat) (p:PL),s'.h.pl[k]? =ae p->p.out=false):=by
 intro c cs;refine au.Reach.ok fun bP=>?_;have h5:∀b,s0 b\/fo b->1<=b:=fun b hb=>(bP.low b hb).1;refine(au.adC (R:=fun t d=>Yu (au.re w t d) B pb xb N s) (au.lets h5) (yZ h5) func19 rfl (.same _<|.off rfl _) axg (au.bT.one<|Bi hp<|aX a.pa.blk) (fun t d=>axh (a.re t d) hN) (fun t d e w' hq=>⟨_,hq.1⟩) c cs).mono ?_;rintro B' fr' w' ⟨v,rfl,rfl,_,on,t,d,t',j,hq⟩;obtain⟨h1,s',ht,hu,fE⟩:=hq;exact⟨v,rfl,rfl,by simpa using h1,s',(ht.JP on).zY a,hu,fE⟩
end
end
section
section
variable{N:Nat}{h:HS}{L:List Rc}{g:PG}
variable{q:Nat}{p:PL}
def Sn.axj(c:Sn N h L)(hu:h.up=true)(hz:∀(i:Nat) (x:PS),(i:Int)<h.P->h.ps[i]? =ae x->x.s=0)(hp:h.pl[q]? =ae p)(i t:Int):p.s.nw i≠ae (t,true):=fun e=>by
 obtain⟨h1,h2,h3,_⟩:=c.opn q p hp i t e;have hP:=c.P1;have hl:i.toNat<h.ps.length:=by rw[c.h6];omega
 have hx:=eY hl;have:=hz i.toNat _ (by omega) hx;have k:=(c.up hu i.toNat _ hx).k.s;rw[show((i.toNat:Nat):Int)=i by omega]at k;omega
def axk{s:aH}(qI:∀i t,s.nw i≠ae (t,true)):s.dC=s.es.length:=by
 unfold aH.dC;refine List.findIdx_eq_length.2 fun e _=>?_;simp[aH.blocked,QS.2<|qI e.p e.t]
def Pg.count(c:Pg N h L g)(hp:h.pl[q]? =ae p)(di:p.s.dC=p.s.es.length):(p.s.bn 0 p.s.dC).length=(g.wr.filter fun w=>decide (w.q=(q:Int))&&decide (jI g.fa w.p w.t=1)).length:=by
 have:=fG List.length<|c.ajD hp;rw[di,List.drop_length]at this;simp at this;rw[di,<-this]
end
end
section
section
variable{P Q T K:Int}{pv:az}{pl:List PL}
def akt(hg:Good P Q T K)(hn:∀p∈pl,p.s=rq/\p.out=false):Sn 0 (yJ P Q T K pv pl).yI []:=by
 have lg:∀(q:Nat) (p:PL),(yJ P Q T K pv pl).yI.pl[q]? =ae p->p.s=rq:=fun q p hp=>(hn p<|gz hp).1;have ps:∀(i:Nat) (x:PS),(yJ P Q T K pv pl).yI.ps[i]? =ae x->x=pJ:=fun i x hx=>by
  have yx:wE[i]? =ae x:=hx;match i,yx with
  |0,h|1,h|2,h|3,h|4,h|5,h=>simpa[wE]using h.symm
  |i+6,h=>simp[wE]at h
 refine⟨hg.1,hg.2.1,hg.2.2.1,hg.2.2.2,rfl,.nil,dm _,rfl,rfl,⟨by show(0:Int)<=0;decide,by show(0:Int)<=16;decide⟩,fun q p hp i t hw=>?_,fun q p hp=>?_,fun m hm=>?_,fun m hm=>?_,(by show 0<=100;decide),fun _ i x hx=>?_,fun h=>?_⟩
 ·rw[lg q p hp]at hw;cases hw
 ·rw[lg q p hp];exact⟨anz,fun e he=>(by cases he),dm _⟩
 ·cases hm
 ·cases hm
 ·rw[ps i x hx];refine⟨⟨rfl,rfl,rfl,fun _=>⟨rfl,rfl,rfl,rfl⟩,fun h=>absurd rfl h,fun q=>?_⟩,⟨⟨by decide,by decide,fun _=>?_⟩,by decide,by decide,fun h=>absurd h<|by decide⟩,⟨fun h=>absurd h<|by decide,fun h=>absurd h<|by decide⟩⟩
  ·have:pJ.aZ.getD q 0=0:=by
    match q with
    |0|1|2|3=>rfl
    |q+4=>rfl
   rw[this];decide
  ·show(0:Int)<T;have:=hg.2.2.1.1;omega
 ·cases h
structure Mk(n:Nat)(h:HS)(L:List Rc):Prop where
 sn:Sn n h L
 up:h.up=true
 fl:h.fl=[]
 idle:∀(i:Nat) (x:PS),h.ps[i]? =ae x->x.s=0
 one:∀(i:Nat),i<n->(bz L i).e=1
 zero:∀(i:Nat),n<=i->(bz L i).e=0
 ed:∀p∈h.pl,p.s=rq/\p.out=false
 no:∀p t b,¬gm L p t b
def axl(hg:Good P Q T K)(hn:∀p∈pl,p.s=rq/\p.out=false):Mk 0 (yJ P Q T K pv pl).yI []:=
 ⟨akt hg hn,rfl,rfl,fun i x hx=>by
  have k:=((akt (pv:=pv) hg hn).up rfl i x hx).k.s;exact k,fun _ h=>by omega,fun _ _=>rfl,hn,fun _ _ _ ⟨_,hr,_⟩=>by cases hr⟩
def Mk.step{n:Nat}{h h':HS}{L:List Rc}{w w':aj}{B xb:Nat}{x:PS}(k:Mk n h L)(hx:h.ps[n]? =ae x)(en:xY w w' B xb n h L ⟨1,n,0,x.e+1⟩ h'):Mk (n+1) h' (L++[⟨1,n,0,x.e+1⟩]):=by
 have e0:x.e=0:=by rw[((k.sn.up k.up n x hx).k).e,k.zero n<|dm _]
 have st:∀i:Nat,(bz (L++[⟨1,n,0,x.e+1⟩]) i).e=if i=n then 1 else(bz L i).e:=fun i=>by
  rw[xJ];by_cases e:i=n
  ·subst e;simp[St.step,e0]
  ·rw[St.GZ _ (by show(n:Int)≠i;omega),if_neg e]
 have wo:=en.wo;refine⟨en.sn,en.up.trans k.up,?_,fun i y hy=>?_,fun i hi=>?_,fun i hi=>?_,by rw[en.pl];exact k.ed,fun p t b d=>?_⟩
 ·cases wo;exact k.fl
 ·by_cases e:i=n
  ·subst e;rw[Ws hx rfl wo]at hy;cases hy;have:=k.idle _ _ hx;simp[PS.bY,this]
  ·rw[(qF.wrote (i:=n) rfl wo).ot i e]at hy;exact k.idle i y hy
 ·rw[st];split
  ·rfl
  ·exact k.one i<|by omega
 ·rw[st,if_neg<|by omega];exact k.zero i<|by omega
 ·rcases d.DX with d|⟨h3,_⟩
  ·exact k.no p t b d
  ·cases h3
def o5(n q:Nat):PG:=⟨List.replicate n 1,false,[],[],List.replicate q [],List.replicate q 0⟩
def Mk.pg{n q:Nat}{h:HS}{L:List Rc}(k:Mk n h L)(hP:h.P=n)(hQ:h.pl.length=q):Pg n h L (o5 n q):=by
 have lg:∀(j:Nat) (p:PL),h.pl[j]? =ae p->p.s=rq:=fun j p hp=>(k.ed p<|gz hp).1;refine⟨k.sn,by simp[o5,hP],fun i e he=>?_,by rw[k.up];rfl,fun j p hp=>?_,fun f hf=>?_,fun p t d=>absurd d<|k.no p t true,by simp[o5,hQ],by simp[o5,hQ],fun j p hp=>?_⟩
 ·have hl:i<n:=by
   have:=(dM.1 he).1;simpa[o5]using this
  have:e=1:=by
   have:=gz he;exact amT this
  subst this;exact⟨(k.one i hl).symm,by decide⟩
 ·rw[lg j p hp];rfl
 ·cases hf
 ·have hl:j<q:=by rw[<-hQ];exact(dM.1 hp).1
  rw[lg j p hp];refine⟨rq,.refl _,?_,?_⟩
  ·simp[o5,hl,aH.bn,rq,aH.dC]
  ·simp[o5,hl,rq,aH.dC]
end
end
section
noncomputable def d47:Code:=Tryz.f47.body.getD .skip
def Es:List Bool:=[true,true,true,true]
noncomputable def Et:Code:=au.gq Es d47
def axm:au.codeOk prog au.lF (au.qG Es d47)=true:=by kernel_rfl
def axn:(prog.info? 67).map (fun i=>(i.zero,i.size,i.bytes))=ae (ae<|aJ af 0 0,1,24):=by kernel_rfl
def axo(w:aj)(p:Nat)(hp:p<=6):(Instr.makeSlice 46 (ag ah (p:Int))<|ag ah (p:Int)).run prog w=.ok (aJ (ae ⟨w.heap.size,0,af⟩) p p) (w.alloc<|.cells (madeCells #[aJ af 0 0] p) 67):=
 run_make_row' 46 67 (aJ af 0 0) 24 underlying46 axn rfl .i64 .i64 p (by omega) (by omega) w
def aku(w:aj){B p:Nat}(hB:B<=w.heap.size)(hp:p<=6):(w.alloc<|.cells (madeCells #[aJ af 0 0] p) 67).ownsRow B 67 1 (aJ (ae ⟨w.heap.size,0,af⟩) p p) (List.replicate p<|Value.slice af 0 0).length (List.replicate p<|Value.slice af 0 0):=by
 have:=aFd w (base:=B) (e:=67) (size:=1) (madeCells #[aJ af 0 0] p) p hB (by simp only[dU];omega) (by simp[size_madeCells]);rw[aFp]at this;simpa using this
structure Yv(cb xb pb:Nat)(a:Array az):Prop where
 sz:a.size=101
 a1:a.getD 1 ai=ay (ae ⟨cb,0,af⟩)
 a3:a.getD 3 ai=ay (ae ⟨xb,0,af⟩)
 a5:a.getD 5 ai=ay (ae ⟨pb,0,af⟩)
def TW(g s q:Nat):PV:=⟨aJ af 0 0,aJ af 0 0,aJ af 0 0,aJ (ae ⟨g,0,af⟩) q q,aJ (ae ⟨s,0,af⟩) q q,List.replicate q<|aJ af 0 0⟩
def axp{W:aj}{B pb xb g s q:Nat}{h:HS}(hb:W.heap[pb]? =ae (aC #[ay<|ae ⟨xb,0,af⟩,ag ah h.P,ag ah h.Q,ag ah h.T,ag ah h.K,aJ af 0 0,aB false,aJ af 0 0,aJ af 0 0,aJ (ae ⟨g,0,af⟩) q q,aJ (ae ⟨s,0,af⟩) q q] 48 (0,0)))
 (h1:W.ownsRow B 67 1 (aJ (ae ⟨g,0,af⟩) q q) (List.replicate q<|Value.slice af 0 0).length (List.replicate q<|Value.slice af 0 0))(h2:W.ownsRow B 3 1 (aJ (ae ⟨s,0,af⟩) q q) (List.replicate q (0:Int)).length (gy<|List.replicate q 0))(hB:B<=pb):gQ W B pb xb h (o5 0 q) (TW g s q):=by
 refine⟨hb,aD9 _ _ _ _,aD9 _ _ _ _,aD9 _ _ _ _,h1,by simp[TW,o5],fun j u l hu hl=>?_,?_,fun k hk=>by simp[TW,Value.ownBlock]at hk,hB⟩
 ·have e1:=amT<|gz hu;have e2:=amT<|gz hl;rw[e1,e2];exact aD9 _ _ _ _
 ·simpa[TW,o5]using h2
structure Started(w w':aj)(p q t k:Nat)(cb xb pb:Nat)(h:HS)(v:PV):Prop where
 Qa:w'.heap[cb]? =ae (aC #[ag ah p,ag ah q,ag ah t,ag ah k] 23 (0,0))
 lt:cb<w.heap.size+1
 ha:aF w' (w.heap.size+1) xb 0 h
 ax:iP h.pl
 wW:Mk 0 h []
 cf:h.P=p/\h.Q=q/\h.T=t/\h.K=k
 pa:gQ w' (w.heap.size+1) pb xb h (o5 0 q) v
 fr:Fr aP w w'
variable{w:aj}{p q t k:Nat}
def akv{w1 W:aj}{xb pb g s:Nat}{pv:az}{pl:List PL}(hg:Good p q t k)(hx:aF w1 (w.heap.size+1) xb 0 (yJ p q t k pv pl).yI/\(∀p∈pl,p.s=rq/\p.out=false)/\iP pl)(hf:Fr aP w w1)(hb:w1.heap[w.heap.size]? =ae (aC #[ag ah p,ag ah q,ag ah t,ag ah k] 23 (0,0)))(f:Fr aP w1 W)
 (blk:W.heap[pb]? =ae (aC #[ay<|ae ⟨xb,0,af⟩,ag ah p,ag ah q,ag ah t,ag ah k,aJ af 0 0,aB false,aJ af 0 0,aJ af 0 0,aJ (ae ⟨g,0,af⟩) q q,aJ (ae ⟨s,0,af⟩) q q] 48 (0,0)))
 (h1:W.ownsRow (w.heap.size+1) 67 1 (aJ (ae ⟨g,0,af⟩) q q) (List.replicate q<|Value.slice af 0 0).length (List.replicate q<|Value.slice af 0 0))(h2:W.ownsRow (w.heap.size+1) 3 1 (aJ (ae ⟨s,0,af⟩) q q) (List.replicate q (0:Int)).length (gy<|List.replicate q 0))(hB:w.heap.size+1<=pb):
 Started w W p q t k w.heap.size xb pb (yJ p q t k pv pl).yI (TW g s q):=
 ⟨(f.block _ (aX hb) id).trans hb,by omega,hx.1.after f,hx.2.2,axl hg hx.2.1,⟨rfl,rfl,rfl,rfl⟩,axp blk h1 h2 hB,hf.trans f fun _ h=>h.elim⟩
def axq(hg:Good p q t k):
 (au.qG Es d47).wp prog (fun e x w'=>e=.ret/\∃xb pb h v,Yv w.heap.size xb pb x.tmps/\Started w w' p q t k w.heap.size xb pb h v) {tmps:=#[jg p q t k]++Array.replicate (Tryz.f47.ntmps- #[jg p q t k].size) ai,defers:=[]} w:=by
 have HG:Hid (Good p q t k):=hg;have qR:=fun w=>axo w q (by have:=hg.2.1.2;omega);have ED:=fun w=>aoi w q (by have:=hg.2.1.2;omega);have HQ:Hid (q<=6):=by have:=hg.2.1.2;show q<=6;omega
 clear hg;have HNW:Hid (∀V,aU prog 31 #[jg p q t k] V fun r w'=>∃xb pv pl,r=aT (dK #[ptr xb,ag ah 0])/\aF w' V.heap.size xb 0 (yJ p q t k pv pl).yI/\(∀p∈pl,p.s=rq/\p.out=false)/\iP pl/\Fr aP V w'):=fun V=>aoc V HG.o;unfold jg at HNW⊢
 simp only[ntmps47,GK,oq,wB,Nat.reduceAdd,Nat.reduceSub,VQ,VP,VT,VR,xH,nP];obtain⟨Q0,gX⟩:∃Q0:Exit->Act->aj->Prop,(fun e x w'=>e=.ret/\∃xb pb h v,Yv w.heap.size xb pb x.tmps/\Started w w' p q t k w.heap.size xb pb h v)=Q0:=⟨_,rfl⟩;rw[gX];simp only[Es,d47,Tryz.f47,ik,au.qG,au.Ep,if_true];go_wp2_with fail
 have ZW:Hid (∃W:aj,W=w.alloc (aC #[ag ah p,ag ah q,ag ah t,ag ah k] 23)):=⟨_,rfl⟩;obtain⟨W1,eW⟩:=ZW.o;rw[<-eW];have iH:Hid (Fr aP w W1/\W1.heap.size=w.heap.size+1):=by subst eW;exact⟨bG _,by simp⟩
 have BX:Hid (W1.heap[w.heap.size]? =ae (aC #[ag ah p,ag ah q,ag ah t,ag ah k] 23 (0,0))):=by subst eW;exact aDY _ _
 clear ZW eW;refine(HNW.o W1).mono ?_;rintro e w1 ⟨xb,pv,pl,rfl,gJ,yj,Nq,bM⟩;have HX:Hid (aF w1 (w.heap.size+1) xb 0 (yJ p q t k pv pl).yI/\(∀p∈pl,p.s=rq/\p.out=false)/\iP pl):=⟨by rw[<-iH.o.2];exact gJ,yj,Nq⟩;have F1:Hid (Fr aP w w1):=iH.o.1.trans bM fun _ h=>h.elim;have B1:Hid (w1.heap[w.heap.size]? =ae (aC #[ag ah p,ag ah q,ag ah t,ag ah k] 23 (0,0))):=(bM.block _ (aX BX.o) id).trans BX.o;have aI:w.heap.size<w1.heap.size:=aX B1.o;have b0:w1.cell? ⟨w.heap.size,0,af⟩=ae (ag ah p):=aK B1.o 0;have b1:w1.cell? ⟨w.heap.size,1,af⟩=ae (ag ah q):=aK B1.o 1;have b2:w1.cell? ⟨w.heap.size,2,af⟩=ae (ag ah t):=aK B1.o 2;have b3:w1.cell? ⟨w.heap.size,3,af⟩=ae (ag ah k):=aK B1.o 3;clear gJ yj Nq bM;unfold ptr;go_wp2_with fail
 go_region
 ·go_wp2_with fail
  rw[<-gX];refine⟨rfl,xb,_,_,_,⟨rfl,rfl,rfl,rfl⟩,akv HG.o HX.o F1.o B1.o (g:=w1.heap.size) (s:=w1.heap.size+1) ((((bG _).alloc _).alloc _).drew) (BQ _<|by simp) ?_ ?_ (by omega)⟩
  ·exact(((bG _).alloc _).drew).ownsRow (aku w1 (B:=w.heap.size+1) (by omega) HQ.o) fun _ _=>id
  ·have:=af6 (w1.alloc<|.cells (madeCells #[aJ af 0 0] q) 67) (B:=w.heap.size+1) (by simp<;>omega) HQ.o;exact((bG _).drew).ownsRow (by simpa using this) fun _ _=>id
 ·go_wp2_with fail
  rw[<-gX];refine⟨rfl,xb,_,_,_,⟨rfl,rfl,rfl,rfl⟩,akv HG.o HX.o F1.o B1.o (g:=w1.heap.size+1) (s:=w1.heap.size) ((((bG _).alloc _).alloc _).drew) (BQ _<|by simp) ?_ ?_ (by omega)⟩
  ·have:=aku (w1.alloc<|.cells (madeCells #[ag ah 0] q) 3) (B:=w.heap.size+1) (by simp<;>omega) HQ.o;exact((bG _).drew).ownsRow (by simpa using this) fun _ _=>id
  ·exact(((bG _).alloc _).drew).ownsRow (af6 w1 (B:=w.heap.size+1) (by omega) HQ.o) fun _ _=>id
end
section
noncomputable def Ir:Code:=au.gq Es Et
def axr:au.codeOk prog au.lF (au.qG Es Et)=true:=by kernel_rfl
def akx:List.range 101=[0,1,2,3,4,5,6,7,8,9,10,11,12,13,14,15,16,17,18,19,20,21,22,23,24,25,26,27,28,29,30,31,32,33,34,35,36,37,38,39,40,41,42,43,44,45,46,47,48,49,50,51,52,53,54,55,56,57,58,59,60,61,62,63,64,65,66,67,68,69,70,71,72,73,74,75,76,77,78,79,80,81,82,83,84,85,86,87,88,89,90,91,92,93,94,95,96,97,98,99,100]:=by kernel_rfl
def Eu(a:Array az):a=((List.range a.size).map fun i=>a.getD i ai).toArray:=Array.ext (by simp) fun i h1 h2=>by simp[Array.getD,h1]
section
variable{w w1 w' W w3:aj}{B p q t k cb xb pb n:Nat}{h h':HS}{L:List Rc}{v:PV}{g:PG}
def gQ.axs{yF:az}(ha:aF w B xb n h)(b:gQ w B pb xb h g v)(hW:Fr aP w W)(hg:W.grownBy w1 v.ev.ownBlock)(iO:w1.ownsRow B 3 1 yF (g.ep.length+1) (gy g.ep++[ag ah 1]))(dX:∀k,yF.ownBlock=ae k->v.ev.ownBlock=ae k\/w.heap.size<=k):
 gQ (w1.setCell ⟨pb,5,af⟩ yF) B pb xb h {g with ep:=g.ep++[1]} {v with ev:=yF}/\aF (w1.setCell ⟨pb,5,af⟩ yF) B xb n h/\Fr (fun k=>k=pb\/v.ev.ownBlock=ae k) w (w1.setCell ⟨pb,5,af⟩ yF):=by
 have f1:Fr (fun k=>v.ev.ownBlock=ae k) w w1:=(hW.mono fun _ h=>h.elim).grown hg fun k e=>.inl e;have f2:Fr (fun k=>k=pb\/v.ev.ownBlock=ae k) w (w1.setCell ⟨pb,5,af⟩ yF):=(f1.mono fun k h=>.inl<|.inr h).setCell (.inl<|.inl rfl) _;have dh:v.ev.ownBlock≠ae pb:=GY b.ep b.blk (by decide);have b1:=(f1.block pb (aX b.blk) dh).trans b.blk;have ht:∀k,(k=pb\/v.ev.ownBlock=ae k)->tag w k=48\/tag w k=3:=fun k e=>e.imp (fun e=>by rw[e];exact lM b.blk) fun e=>iK b.ep e;have st:∀{ty:dw} {wd:Nat} {u:az} {m:Nat} {xs:List az},w.ownsRow B ty wd u m xs->ty≠48->ty≠3->(w1.setCell ⟨pb,5,af⟩ yF).ownsRow B ty wd u m xs:=fun ho h1 h2=>MJ ho f2 fun k e e2=>(ht k e).elim (fun z=>h1<|e2.symm.trans z) fun z=>h2<|e2.symm.trans z;refine⟨⟨?_,?_,st b.wr (by decide)<|by decide,st b.fa (by decide)<|by decide,st b.gt (by decide)<|by decide,b.gl,fun q u l h1 h2=>st (b.rc q u l h1 h2) (by decide)<|by decide,?_,fun k hk e=>?_,b.hb⟩,ha.stay f2 fun k e hk=>ha.off b hk<|e.imp id fun e=>.inl e,f2⟩
 ·rw[jT b1];rfl
 ·have hr:Fr (fun k=>k=pb) w1 (w1.setCell ⟨pb,5,af⟩ yF):=(Fr.refl (fun k=>k=pb) w1).setCell (p:=⟨pb,5,af⟩) (.inl rfl) _;have:=hr.ownsRow iO (fun k hk e=>by
   subst e;rcases dX _ hk with h1|h1
   ·exact dh h1
   ·have:=aX b.blk;omega)
  show World.ownsRow _ B 3 1 yF (g.ep++[1]).length (gy<|g.ep++[1]);simpa[gy]using this
 ·exact f2.ownsRow b.st fun k hk e=>e.elim (fun e=>by subst e;exact GY b.st b.blk (by decide) hk) fun e=>b.ap k e hk
 ·rcases dX k hk with h1|h1
  ·exact b.ap k h1 e
  ·have:=(b.st.lt k e).2;omega
structure FT(w:aj)(B p q t k cb xb pb n:Nat)(h:HS)(L:List Rc)(v:PV)(w':aj):Prop where
 Qa:w'.heap[cb]? =ae (aC #[ag ah p,ag ah q,ag ah t,ag ah k] 23 (0,0))
 lt:cb<B
 ha:aF w' B xb n h
 ax:iP h.pl
 wW:Mk n h L
 cf:h.P=p/\h.Q=q/\h.T=t/\h.K=k
 pa:gQ w' B pb xb h (o5 n q) v
 fr:Fr (fun k=>B<=k) w w'
def gQ.kC(b:gQ w B pb xb h g v)(cf:h'.P=h.P/\h'.Q=h.Q/\h'.T=h.T/\h'.K=h.K):gQ w B pb xb h' g v:=by
 refine⟨?_,b.ep,b.wr,b.fa,b.gt,b.gl,b.rc,b.st,b.ap,b.hb⟩;rw[cf.1,cf.2.1,cf.2.2.1,cf.2.2.2];exact b.blk
def FT.step{wr:aj}{x:PS}{yF:az}(G:FT w B p q t k cb xb pb n h L v wr)(hx:h.ps[n]? =ae x)(en:xY wr w1 B xb n h L ⟨1,n,0,x.e+1⟩ h')(hW:Fr aP w1 W)(hg:W.grownBy w3 v.ev.ownBlock)(iO:w3.ownsRow B 3 1 yF (n+1) (gy (List.replicate n 1)++[ag ah 1]))(dX:∀k,yF.ownBlock=ae k->v.ev.ownBlock=ae k\/w1.heap.size<=k):
 FT w B p q t k cb xb pb (n+1) h' (L++[⟨1,n,0,x.e+1⟩]) {v with ev:=yF} (w3.setCell ⟨pb,5,af⟩ yF):=by
 have pa1:gQ w1 B pb xb h' (o5 n q) v:=(G.pa.stay en.mv.fr fun k e hk=>G.ha.off G.pa e hk).kC en.cf;obtain⟨p2,h2,f2⟩:=pa1.axs en.mv.at_ hW hg (by simpa[o5]using iO) dX;have dL:Fr (fun k=>B<=k) wr (w3.setCell ⟨pb,5,af⟩ yF):=(en.mv.fr.mono fun k e=>.inl (G.ha.qK e).2).trans f2 fun k e=>.inl<|e.elim (fun e=>e▸pa1.hb) fun e=>(pa1.ep.lt k e).1;refine⟨(dL.block cb (aX G.Qa) (by have:=G.lt;omega)).trans G.Qa,G.lt,h2.mono<|by omega,by rw[en.pl];exact G.ax,G.wW.step hx en,⟨en.cf.1.trans G.cf.1,en.cf.2.1.trans G.cf.2.1,en.cf.2.2.1.trans G.cf.2.2.1,en.cf.2.2.2.trans G.cf.2.2.2⟩,?_,G.fr.trans dL fun _=>.inl⟩;have e:o5 (n+1) q={o5 n q with ep:=(o5 n q).ep++[1]}:=by simp[o5,List.replicate_succ']
 rw[e];exact p2
def FT.pl(G:FT w B p q t k cb xb pb p h L v w')(h6:p<=6):bH w' B pb xb 6 ⟨h,L,o5 p q,v⟩:=
 bH.mono (N:=p) ⟨G.ha,G.ax,G.pa,G.wW.pg G.cf.1 (by have:=G.ha.hQ.1;have:=G.cf.2.1;omega),mi _,mi _⟩ h6
def Iu:ByteArray:=⟨#[102,105,114,115,116]⟩
structure wX(s:dB)(m:Nat):Prop where
 up:s.h.up=true
 ins:∀(q:Nat) (p:PL),s.h.pl[q]? =ae p->p.out=false
 wr:∃t,s.g.wr=[⟨0,0,t,Iu⟩]/\gm s.L 0 t true
 lv:∀(i:Nat) (x:PS),(i:Int)<s.h.P->s.h.ps[i]? =ae x->Lv s.h.T s.h.fl i x m
def axt{x:PS}{p2:PL}(h1:x.s=1)(h2:x.aZ.getD 0 0≠0)(h3:p2.s=rq.opened 0 x.t)(h4:p2.out=false):Ej x p2 0 0 Iu:=by
 have e:(rq.opened 0 x.t).nw 0=ae (x.t,true):=by simp[aH.opened,aH.zH,rq,aH.set]
 refine⟨h1,h2,by rw[h3];exact e,h4,?_⟩;rw[h3];have:(rq.opened 0 x.t).isOpen ((0:Nat):Int) x.t=true:=V4.2 e;unfold aH.ou;rw[this,if_neg<|by simp,if_neg<|by decide,if_neg<|by simp[aH.opened,aH.zH,rq,aH.set]]
def axu{s0 s1 s2 s3:dB}{x1 x2:PS}(mk:Mk n s0.h s0.L)(hw:s0.g.wr=[])(c1:qF 0 s0.h s1.h)(w1:s1.g.wr=s0.g.wr)(f2:P9 s1 0 0 x1 Iu s2)(f3:PY s2 0 x2 true s3)(ht:x2.t=x1.t):wX s3 2:=by
 have c:=(c1.trans f2.Ei).trans f3.Ei;refine⟨c.up.trans mk.up,fun q p hp=>?_,⟨x1.t,?_,ht▸f3.dec⟩,fun i x _ hx=>?_⟩
 ·obtain⟨p0,vW,e⟩:=c.out q p hp;rw[e];exact(mk.ed p0<|gz vW).2
 ·rw[f3.wr,f2.wr,w1,hw];rfl
 ·by_cases e:i=0
  ·subst e;obtain⟨x',yx,k1,k2⟩:=f3.me;rw[hx]at yx;cases yx;exact .due (.inl k1) (by rw[k2];decide)
  ·rw[c.ot i e]at hx;exact .idle<|mk.idle i x hx
structure Iw(xb pb:Nat)(a:Array az):Prop where
 sz:a.size=101
 a3:a.getD 3 ai=ay (ae ⟨xb,0,af⟩)
 a5:a.getD 5 ai=ay (ae ⟨pb,0,af⟩)
 a9:a.getD 9 ai=aB true
 wY:a.getD 10 ai=aB true
 zZ:a.getD 11 ai=aB true
def axv{a:Array az}(G:FT w B p q t k cb xb pb 0 h [] v w)(hg:Good p q t k)(T:Yv cb xb pb a):
 (au.qG Es Et).wp prog (fun e x w'=>e=.ret/\Iw xb pb x.tmps/\∃s,bH w' B pb xb 18 s/\wX s 2/\Fr (fun k=>B<=k) w w') ⟨a,[]⟩ w:=by
 have HG:Hid (FT w B p q t k cb xb pb 0 h [] v w):=G;have HGD:Hid (Good p q t k):=hg;have hp6:p<=6:=by have:=hg.1.2;omega
 obtain⟨i0,dR,iE,gG,iU⟩:=aEd V5;obtain⟨sz,a1,a3,a5⟩:=T;rw[Eu a,sz,akx];simp only[uF,wC,a1,a3,a5];simp only[ET];clear G hg sz a1 a3 a5;obtain⟨Q0,gX⟩:∃Q0:Exit->Act->aj->Prop,(fun e x w'=>e=.ret/\Iw xb pb x.tmps/\∃s,bH w' B pb xb 18 s/\wX s 2/\Fr (fun k=>B<=k) w w')=Q0:=⟨_,rfl⟩;rw[gX];simp only[Es,Et,au.gq,d47,Tryz.f47,ik,au.qG,au.Ep,if_true];have JZ:Hid ((fun e x w'=>e=.ret/\Iw xb pb x.tmps/\∃s,bH w' B pb xb 18 s/\wX s 2/\Fr (fun k=>B<=k) w w')=Q0):=gX;clear gX;go_wp2_with fail
 go_loopw [6] (fun iv w'=>∃(n:Nat) (h:HS) (L:List Rc) (v:PV),n<=p/\iv=ag ah n/\FT w B p q t k cb xb pb n h L v w') (fun iv _=>p-(fH iv).toNat)
 case atStart=>exact⟨0,_,_,_,mi _,rfl,HG.o⟩
 case round=>
  obtain⟨n,h1,L1,v1,hn,rfl,G1⟩:=hrel
  have GR:Hid (FT w B p q t k cb xb pb n h1 L1 v1 wr):=G1
  have cp:wr.cell? ⟨cb,0,af⟩=ae (ag ah p):=aK G1.Qa 0
  have Qn:=aX G1.Qa
  clear G1
  by_cases aI:n<p
  ·have hli:(n:Int)<(p:Int):=by omega
   obtain⟨x,hx⟩:∃x,h1.ps[n]? =ae x:=⟨_,eY (by rw[GR.o.wW.sn.h6];omega)⟩
   have HX:Hid (h1.ps[n]? =ae x):=hx
   have x0:x.e=0:=by rw[((GR.o.wW.sn.up GR.o.wW.up n x hx).k).e,GR.o.wW.zero n<|dm _]
   have HC:Hid (aU prog 74 #[ay<|ae ⟨xb,0,af⟩,ag ah n] wr fun e w'=>e=aT (dK #[ag ah 1,ag ah 0])/\∃h',xY wr w' B xb n h1 L1 ⟨1,n,0,x.e+1⟩ h'):=by
    have:=ajY GR.o.ha GR.o.wW.sn (by omega) (by rw[GR.o.cf.1];exact hli) GR.o.wW.up hx<|GR.o.wW.idle n x hx;refine this.mono fun e w' hq=>⟨?_,hq.2⟩;rw[hq.1,x0];rfl
   clear hx x0
   go_wp2_with fail
   refine HC.o.mono ?_
   rintro e w1 ⟨rfl,h2,en⟩
   have EN:Hid (xY wr w1 B xb n h1 L1 ⟨1,n,0,x.e+1⟩ h2):=en
   have MR:Hid (gQ w1 B pb xb h2 (o5 n q) v1):=(GR.o.pa.stay en.mv.fr fun k e hk=>GR.o.ha.off GR.o.pa e hk).kC en.cf
   have eH:wr.heap.size<=w1.heap.size:=en.mv.fr.size
   clear en
   have dF:w1.ownsRow B 3 1 v1.ev n (gy<|List.replicate n 1):=by have:=MR.o.ep;simpa[o5]using this
   obtain⟨ea,ec,dS⟩:∃ea ec,v1.ev=.slice ea n ec:=by
    obtain⟨ea,ec,e,_⟩:=kR (l:=List.replicate n 1) (by simpa using dF);exact⟨ea,ec,by simpa using e⟩
   have kU:Hid (v1.ev=.slice ea n ec):=dS
   rw[dS]at dF
   have ROW:Hid (w1.ownsRow B 3 1 (.slice ea n ec) n<|gy<|List.replicate n 1):=dF
   have c5:w1.cell? ⟨pb,5,af⟩=ae (.slice ea n ec):=(aK MR.o.blk 5).trans<|fG ae dS
   have cf:w1.frozen? ⟨pb,5,af⟩=false:=jS MR.o.blk 5
   have hx:=aX MR.o.blk
   have Kt:Value.ownBlock (.slice ea n ec)≠ae pb:=by rw[<-dS];exact GY MR.o.ep MR.o.blk<|by decide
   have hB:B<=pb:=MR.o.hb
   clear dF dS
   go_wp2_with (at_builtin;refine aEu _ rfl _ _ 43 rfl B 3 i0 _ 1 8 underlying43 dR iE gG iU rfl (by decide) _ n (gy<|List.replicate n 1) rfl (by exact(bG _).ownsRow ROW.o fun _ _=>id) ⟨w1.heap.size,0,af⟩ 1 1 [ag ah 1] rfl rfl (aD7 (cs:=#[ag ah 1]) (t:=3) (fr:=(0,0))<|BQ _<|by simp) (by simp[Value.oneCell']) (by decide) (by simp only[dU];omega) (by omega) (by simp<;>omega) (w1.heap.size+1) (by simp) ?_;intro gg Oq w3 pY mO vk uk;have r5:=(mO.cell_far ⟨pb,5,af⟩ (by simp<;>omega)<|iW Kt);have rf:=(mO.frozen_far ⟨pb,5,af⟩ (by simp<;>omega)<|iW Kt);rw[(bG _).cell (p:=⟨pb,5,af⟩) hx id,c5]at r5;rw[KZ hx,cf]at rf)
   go_roundw
   case rel=>
    refine⟨n+1,h2,_,_,by omega,by go_num,GR.o.step HX.o EN.o (bG _) (by rw[kU.o];exact mO) pY fun k hk=>?_⟩
    simp only[Value.ownBlock,gu]at hk
    subst hk
    rw[kU.o]
    rcases vk with e|e
    ·exact .inl e
    ·exact .inr<|by omega
   case measure=>simp[fH]<;>omega
  ·obtain rfl:n=p:=by omega
   have Yw:Hid (bH wr B pb xb 6 ⟨h1,L1,o5 n q,v1⟩):=GR.o.pl hp6
   have P1:Hid ((0:Int)<h1.P/\(0:Int)<h1.Q):=by
    have h1:=HGD.o.1.1;have h2:=HGD.o.2.1.1;have h3:=GR.o.cf;exact⟨by rw[h3.1];omega,by rw[h3.2.1];omega⟩
   obtain⟨x0,og⟩:=Yw.o.ps (i:=0) P1.o.1
   obtain⟨p0,vW⟩:=Yw.o.q (q:=0) P1.o.2
   have DI:Hid (h1.ps[0]? =ae x0/\h1.pl[0]? =ae p0):=⟨og,vW⟩
   have HPA:Hid (aU prog 25 #[ay<|ae ⟨pb,0,af⟩,ag ah 0,ag ah 0] wr fun e w'=>e=aT (aB true)/\∃s',bW wr w' B pb xb ⟨h1,L1,o5 n q,v1⟩ 10 s'/\s'.h.up=true/\TL ⟨h1,L1,o5 n q,v1⟩ 0 0 s'):=adm (i:=0) (q:=0) Yw.o (by omega) P1.o.1 P1.o.2 GR.o.wW.up
   clear og vW
   go_wp2_with fail
   refine HPA.o.mono ?_
   rintro e w1 ⟨rfl,s1,t1,u1,f1⟩
   obtain⟨x1,p1,gJ,k1,k2,rU,k3,k4,_⟩:=f1.ok x0 p0 DI.o.1 (.inl<|GR.o.wW.idle 0 x0 DI.o.1) DI.o.2 (GR.o.wW.ed p0<|gz DI.o.2).2
   have MS:Hid (bW wr w1 B pb xb ⟨h1,L1,o5 n q,v1⟩ 10 s1):=t1
   have FF1:Hid (TL ⟨h1,L1,o5 n q,v1⟩ 0 0 s1):=f1
   have XO:Hid (aU prog 61 #[ay<|ae ⟨pb,0,af⟩,ag ah 0,ag ah 0,dA Iu] w1<|CX w1 B pb xb s1 14 fun s'=>Ej x1 p1 0 0 Iu->P9 s1 0 0 x1 Iu s'):=akn (i:=0) (q:=0) t1.at_ (by omega) (by rw[t1.cf.1];exact P1.o.1) u1 gJ rU<|by decide
   have PFX:Hid (Ej x1 p1 0 0 Iu):=(axt k1 k2 (k3.trans (by rw[(GR.o.wW.ed p0<|gz DI.o.2).1];rfl)) k4)
   unfold Iu at XO
   clear t1 u1 f1 gJ rU k1 k2 k3 k4
   go_wp2_with fail
   refine XO.o.mono ?_
   rintro e w2 ⟨rfl,s2,t2,f20⟩
   have f2:=f20 PFX.o
   clear f20
   obtain⟨x2,qh,k1,k2⟩:=f2.me
   have TO2:Hid (bW w1 w2 B pb xb s1 14 s2):=t2
   have FF2:Hid (P9 s1 0 0 x1 Iu s2):=f2
   have JS:Hid (s2.h.ps[0]? =ae x2/\x2.t=x1.t/\x2.s=1):=⟨qh,k2,k1⟩
   have HPC:Hid (aU prog 62 #[ay<|ae ⟨pb,0,af⟩,ag ah 0,aB true] w2 (CX w2 B pb xb s2 18 fun s'=>∀x,s2.h.ps[0]? =ae x->x.s=1->PY s2 0 x true s')):=ajW (i:=0) t2.at_ (by omega) (by rw[t2.cf.1,MS.o.cf.1];exact P1.o.1) (by rw[f2.Ei.up,FF1.o.Ei.up];exact GR.o.wW.up) true fun y hy=>by rw[qh]at hy;cases hy;exact .inr<|.inl k1
   clear t2 f2 qh k1 k2
   go_wp2_with fail
   refine HPC.o.mono ?_
   rintro e w3 ⟨rfl,s3,t3,f3⟩
   have jQ:Hid (bH w3 B pb xb 18 s3/\wX s3 2/\Fr (fun k=>B<=k) w w3):=⟨t3.at_,axu (n:=n) (s0:=⟨h1,L1,o5 n q,v1⟩) GR.o.wW rfl FF1.o.Ei FF1.o.wr FF2.o (f3 x2 JS.o.1 JS.o.2.2) JS.o.2.1,GR.o.fr.trans (((MS.o.dL Yw.o).trans (TO2.o.dL MS.o.at_) fun _=>.inl).trans (t3.dL TO2.o.at_) fun _=>.inl) fun _=>.inl⟩
   clear t3 f3
   go_wp2_with fail
   rw[<-JZ.o]
   exact⟨rfl,⟨rfl,rfl,rfl,rfl,rfl,rfl⟩,s3,jQ.o⟩
end
end
section
section
variable{w w1 w':aj}{B pb xb N M:Nat}{s:dB}{fo s0:Nat->Prop}{B':au.cO}
def bH.base(a:bH w B pb xb N s):B<=w.heap.size:=aaq<|aai a.pa.hb<|aX a.pa.blk
def ug.mono(p:ug fo s0 w w' B pb xb s N B')(h:N<=M):ug fo s0 w w' B pb xb s M B':=by
 obtain⟨s1,s',e,g,f⟩:=p.ex;exact⟨s1,s',e,g,f.mono h⟩
def ug.go(p:ug fo s0 w w' B pb xb s N B')(a:bH w B pb xb M s)(hp:¬(s0 pb\/fo pb))(hB:∀k,s0 k->B<=k):
 ∃s1 s',B'=au.bJ fo s1/\(∀k,s1 k->s0 k\/w.heap.size<=k)/\¬(s1 pb\/fo pb)/\(∀k,s1 k->B<=k)/\wV w w' B pb xb s N s':=by
 obtain⟨s1,s',e,g,f⟩:=p.ex;refine⟨s1,s',e,g,fun z=>z.elim (fun z=>(g pb z).elim (fun y=>hp<|.inl y) fun y=>?_) fun y=>hp<|.inr y,fun k hk=>(g k hk).elim (hB k) fun y=>eG a.base y,f⟩;have:=aX a.pa.blk;omega
def ug.trans{fo s1:Nat->Prop}{s2:dB}(f:wV w w1 B pb xb s N s2)(g:∀k,s1 k->s0 k\/w.heap.size<=k)(q:ug fo s1 w1 w' B pb xb s2 M B'):ug fo s0 w w' B pb xb s M B':=by
 obtain⟨s3,s',e,g2,f2⟩:=q.ex;exact⟨s3,s',e,fun k hk=>(g2 k hk).elim (g k) fun y=>.inr<|eG f.dL.size y,f.trans f2⟩
end
end
section
open Go Go.Conc
open _root_.Go.Proofs.YtkelpcjiediamaaGreat.Twin _root_.Go.Proofs.YtkelpcjiediamaaGreat.fJ
def axC{a:Act}{i j:Nat}{v:az}(h:i≠j):(a.put (ae i) v).tmps.getD j ai=a.tmps.getD j undef:=by
 simp[Act.put,ET,iw h]
def put_eq{a:Act}{i:Nat}{v:az}(h:i<a.tmps.size):(a.put (ae i) v).tmps.getD i ai=v:=by
 simp[Act.put,ET,h]
def axD{a:Act}{i:Nat}{v:az}:(a.put (ae i) v).tmps.size=a.tmps.size:=by simp[Act.put]
structure FU(a:Act)(i:Nat)(v:az)(a':Act):Prop where
 sz:a'.tmps.size=a.tmps.size
 at_:i<a.tmps.size->a'.tmps.getD i ai=v
 ne:∀j,i≠j->a'.tmps.getD j ai=a.tmps.getD j ai
 df:a'.defers=a.defers
 ok:∀B:au.cO,au.bT B a.tmps->au.aG B v->au.bT B a'.tmps
def FU.of(a:Act)(i:Nat)(v:az):FU a i v (a.put (ae i) v):=⟨axD,put_eq,fun _ h=>axC h,rfl,fun _ h hv=>h.set hv i⟩
section
variable{fo s:Nat->Prop}{b:bu}{a:Act}{ops:Array Oper}{i:Nat}{rest:List Nat}{k:List Item}{cs cs2:List bu}{w:aj}{Q:au.cO->bu->aj->Prop}{o:Oper}{v:az}{d:Nat}
def Bj(ho:ops[i]? =ae o)(hg:o.guard=af)(hd:o.dst=ae d)(hk:b.kind≠.early)(aO:au.sG prog (au.bJ fo s).let_ o.op=true)(hf:∃fn,prog.funcs[b.fn]? =ae fn)(KE:au.bT (au.bJ fo s) a.tmps)
 (hr:∀d,(dP a.eval o).run prog (w.at d)=.ok (.value v) (w.at d))
 (hn:∀a' dd,FU a d v a'->au.Reach (au.bJ fo s) prog (b.at a'<|bQ ops rest::k) cs (w.at dd) Q cs2):au.Reach (au.bJ fo s) prog (b.at a<|bQ ops (i::rest)::k) cs w Q cs2:=
 akh ho (by simp[Region.wanted,hg]) hk aO hf KE hr fun dd=>by rw[hd];exact hn _ dd<|.of a d v
variable{f:FuncId}{n:Nat}{s0 s1:Nat->Prop}
def J3{fn:Func}{c:Code}{args:Array Operand}{lK:Array dw}{vs:Array az}{post:au.cO->az->aj->Prop}(ho:ops[i]? =ae o)(hg:o.guard=af)(hd:o.dst=ae d)(hk:b.kind≠.early)(aO:o.op=.call {callee:=.value<|.func f,args,argTypes:=lK})(hf:prog.funcs[f]? =ae fn)(IZ:(fn.name== "runtime.NumGoroutine")=false)(hb:fn.body=ae c)(hv:args.map a.eval=vs)
 (QD:∀d,au.tX (au.bJ fo s) prog f vs (w.at d) post)(hn:∀B' v w' a',FU a d v a'->post B' v w'->au.Reach B' prog (b.at a'<|bQ ops rest::k) cs w' Q cs2):au.Reach (au.bJ fo s) prog (b.at a<|bQ ops (i::rest)::k) cs w Q cs2:=
 XP ho (by simp[Region.wanted,hg]) hk aO hf IZ hb hv QD fun B' v w' hp=>by rw[hd];exact hn B' v w' _ (.of a d v) hp
def J4{W:aj}(h:a.tmps.getD n ai=v)(aO:o.op=.move (.tmp n)\/o.op=.assign (.tmp n)):(dP a.eval o).run prog W=.ok (.value v) W:=by
 subst h;rcases aO with aO|aO<;>(unfold dP;rw[aO];rfl)
def step_ret{l:List Item}{w1:aj}:bD prog true (G ((base f).at a<|.code .ret::l) cs) w1=.go (G {(base f).at a (.code .ret::l)with mode:=.returning} cs) w1 #[]:=by
 simp[bD,stepG.exec,Frame.at,G,base]
def J5{fo:Nat->Prop}{m:Nat}(g:∀k,s1 k->s0 k\/n<=k)(hm:n<=m)(hv:au.aG ((au.bJ fo s0).cut n) v):au.aG ((au.bJ fo s1).cut m) v:=
 au.aG.mono (B:=(au.bJ fo s1).cut m) (B':=(au.bJ fo s0).cut n) (fun b (z:(s1 b\/fo b)\/m<=b)=>show(s0 b\/fo b)\/n<=b from z.elim (fun z=>z.elim (fun z=>(g b z).imp .inl id) fun z=>.inl<|.inr z) fun z=>.inr<|eG hm z) rfl hv
def Bl{fo:Nat->Prop}(g:∀k,s1 k->s0 k\/n<=k)(hv:au.aG ((au.bJ fo s0).cut n) v):au.aG (au.bJ fo s1) v:=
 au.aG.mono (B:=au.bJ fo s1) (B':=(au.bJ fo s0).cut n) (fun b (z:s1 b\/fo b)=>show(s0 b\/fo b)\/n<=b from z.elim (fun z=>(g b z).imp .inl id) fun z=>.inl<|.inr z) rfl hv
end
end
section
noncomputable def Qb:Code:=au.gq [true] Ir
def axE:au.codeOk prog au.lF Qb=true:=by kernel_rfl
section
variable{w w':aj}{B xb pb N:Nat}{s s':dB}
def wX.one(F:wX s 0)(a:bH w B pb xb N s){p:PL}(hp:s.h.pl[0]? =ae p):(p.s.bn 0 p.s.dC).length=1:=by
 have hz:∀(i:Nat) (x:PS),(i:Int)<s.h.P->s.h.ps[i]? =ae x->x.s=0:=fun i x hi hx=>(F.lv i x hi hx).over<|a.pg.sn.up F.up i x hx;have qI:=a.pg.sn.axj F.up hz hp;obtain⟨t,hw,hd⟩:=F.wr;rw[a.pg.count hp<|axk qI,hw];have:jI s.g.fa 0 t=1:=(Yb a.pg).2 hd;simp[this]
def axF{a:Array az}(U:Iw xb pb a)(A:bH w B pb xb N s)(hN:N<=80000000)(F:wX s 0):
 Qb.wp prog (fun e x w'=>e=.ret/\x.tmps.getD 2 ai=ay (ae ⟨pb,0,af⟩)/\∃s',bW w w' B pb xb s (N+6) s') ⟨a,[]⟩ w:=by
 obtain⟨p0,vW⟩:=A.q (q:=0) (by have:=A.pg.sn.Q1.1;omega);have HL:Hid (aU prog 21 #[ay<|ae ⟨pb,0,af⟩] w<|CX w B pb xb s (N+6)<|aj0 s):=aj1 A hN;have H1:Hid ((p0.s.bn 0 p0.s.dC).length=1/\s.h.pl[0]? =ae p0/\1<=s.h.Q):=⟨F.one A vW,vW,A.pg.sn.Q1.1⟩;obtain⟨sz,a3,a5,a9,wY,zZ⟩:=U;rw[Eu a,sz,akx];simp only[uF,wC,a3,a5,a9,wY,zZ];simp only[ET];clear sz a3 a5 a9 wY zZ A hN F vW;obtain⟨Q0,gX⟩:∃Q0:Exit->Act->aj->Prop,(fun e x w'=>e=.ret/\x.tmps[2]?.getD ai=ay (ae ⟨pb,0,af⟩)/\∃s',bW w w' B pb xb s (N+6) s')=Q0:=⟨_,rfl⟩;rw[gX];simp only[Qb,Ir,Es,Et,au.gq,d47,Tryz.f47,ik,if_true];have JZ:Hid ((fun e x w'=>e=.ret/\x.tmps[2]?.getD ai=ay (ae ⟨pb,0,af⟩)/\∃s',bW w w' B pb xb s (N+6) s')=Q0):=gX;clear gX;go_wp2_with fail
 refine HL.o.mono ?_;rintro e w1 ⟨rfl,s1,t1,Q,hQ,lk⟩;have T1:Hid (bW w w1 B pb xb s (N+6) s1):=t1;have BA:=lk.gt 0 p0 (by have:=H1.o.2.2;omega) H1.o.2.1;have ZO:0<s1.v.gs.length:=by rw[t1.at_.pa.gl];exact(dM.1 BA).1
 obtain⟨gg,gc,wz,adu,_⟩:=vN t1.at_.pa.gt ZO;obtain⟨u0,hu0⟩:∃u,s1.v.gs[0]? =ae u:=⟨_,eY ZO⟩;have hr:=t1.at_.pa.rc 0 u0 _ hu0 BA;obtain⟨ua,uc,rfl⟩:=aax hr;rw[H1.o.1]at hu0;have e9:w1.cell? ⟨pb,9,af⟩=ae (aJ (ae ⟨gg,0,af⟩) s1.v.gs.length gc):=by rw[<-wz];exact t1.at_.cells.2.2.2.2.2.2.2.1
 have eg:w1.cell? ⟨gg,0,af⟩=ae (.slice ua 1 uc):=by
  have hr:=t1.at_.pa.gt;rw[wz]at hr;rw[hr.cellAt 0<|by omega];exact hu0
 have aI:=aX t1.at_.pa.blk;have IX:(0:Int)<(s1.v.gs.length:Int):=by omega
 clear t1 lk BA hr hu0 wz hQ;go_wp2_with fail
 rw[<-JZ.o];exact⟨rfl,rfl,s1,T1.o⟩
end
end
section
open Go.RowKit Go.Maps Go.Conc Go.Proofs.YtkelpcjiediamaaGreat.Twin fJ
noncomputable def d48:Code:=Tryz.f48.body.getD .skip
def TY:List Bool:=[true,true,true,false,true,true,true,true,true,true,true,true,true,true,false]
noncomputable def s48:Code:=au.gq TY d48
noncomputable def J6:Array Oper:=match iQ s48 with| .region _ o _=>o|_=>#[]
def akA:s48=.seq (.region 17 J6 false) .ret:=by kernel_rfl
def axG:au.codeOk prog au.lF (au.qG TY d48)=true:=by kernel_rfl
noncomputable def uh(i:Nat):Oper:=J6.getD i default
def TZ:J6[0]? =ae (uh 0)/\J6[1]? =ae (uh 1)/\J6[2]? =ae (uh 2)/\J6[3]? =ae (uh 3)/\J6[4]? =ae (uh 4):=by and_intros<;>kernel_rfl
def Ua:(uh 0).guard=af/\(uh 1).guard=af/\(uh 2).guard=af/\(uh 3).guard=af/\(uh 4).guard=none:=by and_intros<;>kernel_rfl
def Ub:(uh 0).dst=ae 66/\(uh 1).dst=ae 67/\(uh 2).dst=ae 68/\(uh 3).dst=ae 69/\(uh 4).dst=ae 4:=by and_intros<;>kernel_rfl
def Iy:(uh 0).op=.move (.tmp 0)/\(uh 1).op=.fieldAddr 28 (.tmp 3) 0/\(uh 2).op=.load 3 (.tmp 67)/\(uh 3).op=.call {callee:=.value<|.func 108,args:=#[.tmp 66,.tmp 68],argTypes:=#[40,3]}/\(uh 4).op=.assign (.tmp 69):=by and_intros<;>kernel_rfl
def axH:List.range J6.size=[0,1,2,3,4]:=by kernel_rfl
structure T48(pb b:Nat)(k p q m:Int)(ts:ByteArray)(fl:Bool)(a:Array az)(w':aj):Prop where
 sz:a.size=150
 a0:a.getD 0 ai=ay (ae ⟨pb,0,af⟩)
 a3:a.getD 3 ai=ay (ae ⟨b,0,af⟩)
 bx:w'.heap[b]? =ae (aC #[ag ah k,ag ah p,ag ah q,ag ah m,dA ts,aB fl] 28 (0,0))
section
variable{w w':aj}{B pb xb N:Nat}{s s':dB}{fo s0:Nat->Prop}
variable{ts:ByteArray}{W:aj}{a:Act}{b:Nat}{o:Oper}{k:Int}
def axI(a:bH w B pb xb N s)(k p q m:Int)(hk:k=5\/k=11)(hp:eP p)(hq:eP q)(fl:Bool):
 (au.qG TY d48).wp prog (fun e x w'=>e=.ret/\T48 pb w.heap.size k p q m ts fl x.tmps w'/\Fr aP w w') {tmps:=#[ay<|ae ⟨pb,0,af⟩,vP k p q m ts fl]++Array.replicate (Tryz.f48.ntmps- #[Value.pointer<|ae ⟨pb,0,af⟩,vP k p q m ts fl].size) ai,defers:=[]} w:=by
 obtain⟨P,hP⟩:=uA (show 0<=s.h.P by have:=a.pg.sn.P1;omega);obtain⟨Q,hQ⟩:=uA (show 0<=s.h.Q by have:=a.pg.sn.Q1;omega);have Zu:1<=P/\P<=6:=by have:=a.pg.sn.P1;omega
 have Yk:1<=Q/\Q<=4:=by have:=a.pg.sn.Q1;omega
 have A:Hid (bH w B pb xb N s):=a;have yY:Hid (eP p/\eP q/\s.h.P=(P:Int)/\s.h.Q=(Q:Int)):=⟨hp,hq,hP,hQ⟩;obtain⟨c0,c1,c2,_⟩:=a.cells;rw[hP]at c1;rw[hQ]at c2;have aI:=aX a.pa.blk;unfold vP;have HK:Hid (k=5\/k=11):=hk;clear a hp hq hP hQ hk;simp only[ntmps48,GK,oq,wB,Nat.reduceAdd,Nat.reduceSub,VQ,VP,VT,VR,xH,nP];obtain⟨Q0,gX⟩:∃Q0:Exit->Act->aj->Prop,(fun e x w'=>e=.ret/\T48 pb w.heap.size k p q m ts fl x.tmps w'/\Fr aP w w')=Q0:=⟨_,rfl⟩;rw[gX];simp only[TY,d48,Tryz.f48,ik,au.qG,au.Ep,if_true,kQ,kP];rw[<-gX];clear gX;go_wp2_with fail
 have ZW:Hid (∃W:aj,W=w.alloc (aC #[ag ah k,ag ah p,ag ah q,ag ah m,dA ts,aB fl] 28 (0,0))):=⟨_,rfl⟩;obtain⟨W1,eW⟩:=ZW.o;rw[<-eW];have iH:Hid (Fr aP w W1):=by subst eW;exact bG _
 have BX:Hid (W1.heap[w.heap.size]? =ae (aC #[ag ah k,ag ah p,ag ah q,ag ah m,dA ts,aB fl] 28 (0,0))):=by subst eW;exact aDY _ _
 clear ZW eW;have b0:W1.cell? ⟨w.heap.size,0,af⟩=ae (ag ah k):=aK BX.o 0;have b1:W1.cell? ⟨w.heap.size,1,af⟩=ae (ag ah p):=aK BX.o 1;have b2:W1.cell? ⟨w.heap.size,2,af⟩=ae (ag ah q):=aK BX.o 2;have d1:=(iH.o.cell (p:=⟨pb,1,af⟩) aI id).trans c1;have d2:=(iH.o.cell (p:=⟨pb,2,af⟩) aI id).trans c2;have tH:Hid (∀V,aU prog 49 #[ag ah p,ag ah P] V fun e w'=>∃k:Nat,k<P/\e=aT (ag ah k)/\V=w'):=fun V=>vO p yY.o.1 Zu.1 (by omega) V;have sV:Hid (∀V,aU prog 49 #[ag ah q,ag ah Q] V fun e w'=>∃k:Nat,k<Q/\e=aT (ag ah k)/\V=w'):=fun V=>vO q yY.o.2.1 Yk.1 (by omega) V;go_region_held3 (fun w'=>w'.cell? ⟨w.heap.size,1,af⟩=ae (ag ah p)/\w'.cell? ⟨pb,1,af⟩=ae (ag ah P))
  (first|exact⟨b1,d1⟩|go_keep)
  ((go_at_call 49;with_reducible refine(tH.o _).mono ?_;rintro e w2 ⟨i,hi,rfl,rfl⟩))
 go_wp2_with fail
 go_region_held3 (fun w'=>w'.cell? ⟨w.heap.size,2,af⟩=ae (ag ah q)/\w'.cell? ⟨pb,2,af⟩=ae (ag ah Q))
  (first|exact⟨b2,d2⟩|go_keep)
  ((go_at_call 49;with_reducible refine(sV.o _).mono ?_;rintro e w3 ⟨j,hj,rfl,rfl⟩))
 have F2:Hid (Fr aP w W1.drew.drew):=(iH.o.drew).drew;have X2:Hid (W1.drew.drew.heap[w.heap.size]? =ae (aC #[ag ah k,ag ah p,ag ah q,ag ah m,dA ts,aB fl] 28 (0,0))):=BX.o;rcases HK.o with rfl|rfl;all_goals
  go_wp2_with fail
  exact⟨⟨rfl,rfl,rfl,X2.o⟩,F2.o⟩
def axJ(h:a.eval (.tmp 3)=ay (ae ⟨b,0,af⟩))(aO:o.op=.fieldAddr 28 (.tmp 3) 0):(dP a.eval o).run prog W=.ok (.value<|ay<|ae ⟨b,0,af⟩) W:=by
 unfold dP;rw[aO];simp only[h];go_simp
def axK(h:a.eval (.tmp 67)=ay (ae ⟨b,0,af⟩))(hc:W.cell? ⟨b,0,af⟩=ae (ag ah k))(aO:o.op=.load 3 (.tmp 67)):(dP a.eval o).run prog W=.ok (.value<|ag ah k) W:=by
 unfold dP;rw[aO];simp only[h];go_simp
def ug.at{d N:Nat}{B':au.cO}(h:ug fo s0 (w.at d) w' B pb xb s N B'):ug fo s0 w w' B pb xb s N B':=by
 obtain⟨s1,s2,e,g,f⟩:=h.ex;exact⟨s1,s2,e,g,f.at_,⟨f.dL.os,f.dL.tape,f.dL.output,f.dL.size,f.dL.block⟩,f.cf⟩
def axL(a:bH w B pb xb N s)(hN:N<=70000000)(hp:¬(s0 pb\/fo pb))(hB:∀k,s0 k->B<=k)(hk:k=5\/k=11):
 au.tX (au.bJ fo s0) prog 108 #[ay<|ae ⟨pb,0,af⟩,ag ah k] w (fun B' v w'=>v=aB true/\ug fo s0 w w' B pb xb s (N+306) B'):=by
 rcases hk with rfl|rfl
 ·exact(awI a (by omega) hp).mono fun B' v w' h=>⟨h.1,h.2.mono<|by omega⟩
 ·exact awZ a hN hp hB
def akB(a:bH w B pb xb N s)(hN:N<=70000000)(hp:¬(s0 pb\/fo pb))(hB:∀k,s0 k->B<=k)(k p q m:Int)(hk:k=5\/k=11)(ip:eP p)(iq:eP q)(fl:Bool):
 au.tX (au.bJ fo s0) prog 48 #[ay<|ae ⟨pb,0,af⟩,vP k p q m ts fl] w (fun B' v w'=>v=aB true/\ug fo s0 w w' B pb xb s (N+306) B'):=by
 intro c cs;refine au.Reach.ok fun bP=>?_;have h5:∀b,s0 b\/fo b->1<=b:=fun b hb=>(bP.low b hb).1;have hl:=aX a.pa.blk;rw[aEX (c:=d48) _ func48 rfl];refine au.adN (p:=TY) (c:=d48) (S:=s48) (w:=w) (K:=fun t d x w'=>T48 pb w.heap.size k p q m ts fl x.tmps w'/\Fr aP (au.re w t d) w') (au.lets h5) (yZ h5) rfl (by rw[akA];intro e;cases e) axG (au.bT.append (au.bT.two (Bi hp hl)<|adJ k p q m ts fl) fun v hv=>by
  obtain⟨_,rfl⟩:=Oa.1 hv;exact au.rC) rfl ⟨_,func48⟩ rfl (fun t d=>axI (a.re t d) k p q m hk ip iq fl) ?_
 rintro⟨a1,df⟩ w1 l lY MF hd ⟨t,d,t',j,T,hf⟩;obtain rfl:df=[]:=hd;have f1:Fr aP w w1:=⟨lY.os,lY.tape,lY.output,lY.size,fun b hb h=>hf.block b hb h⟩;have Qc:=a.after f1;have Af:w1.heap[w.heap.size]? =ae (aC #[ag ah k,ag ah p,ag ah q,ag ah m,dA ts,aB fl] 28 (0,0)):=T.bx;have vp:au.aG ((au.bJ fo s0).cut w1.heap.size) (ay<|ae ⟨pb,0,af⟩):=Bi hp<|fK hl f1.size;have vb:au.aG ((au.bJ fo s0).cut w1.heap.size) (ay<|ae ⟨w.heap.size,0,af⟩):=Bi (fun z=>Og _<|(bP.low _ z).2)<|aX Af;have FV:∀k,s0 k->s0 k\/w1.heap.size<=k:=fun _=>.inl;clear hf lY;rw[akA];refine jO fun d1=>?_;refine vK fun d2=>?_;rw[axH];refine Bj (v:=ay<|ae ⟨pb,0,af⟩) TZ.1 Ua.1 Ub.1 (by decide) (by rw[Iy.1];rfl) ⟨_,func48⟩ (fun v hv=>Bl FV<|MF v hv) (fun d=>J4 T.a0<|.inl Iy.1) fun a2 d3 q2=>?_;have uy:=q2.ok _ MF vp;refine Bj (v:=ay<|ae ⟨w.heap.size,0,af⟩) TZ.2.1 Ua.2.1 Ub.2.1 (by decide) (by rw[Iy.2.1];rfl) ⟨_,func48⟩ (fun v hv=>Bl FV<|uy v hv) (fun d=>axJ ((q2.ne 3<|by decide).trans T.a3) Iy.2.1) fun a3 d4 q3=>?_;have zf:=q3.ok _ uy vb;have z2:a2.tmps.size=150:=q2.sz.trans T.sz;have z3:a3.tmps.size=150:=q3.sz.trans z2;refine Bj (v:=ag ah k) TZ.2.2.1 Ua.2.2.1 Ub.2.2.1 (by decide) (by rw[Iy.2.2.1];rfl) ⟨_,func48⟩ (fun v hv=>Bl FV<|zf v hv) (fun d=>axK (q3.at_ (by rw[z2];decide)) (by exact aK Af 0) Iy.2.2.1) fun a4 d5 q4=>?_;have Ew:=q4.ok _ zf .int;have z4:a4.tmps.size=150:=q4.sz.trans z3;refine J3 (f:=108) (post:=fun B' v w'=>v=aB true/\ug fo s0 w1 w' B pb xb s (N+306) B') TZ.2.2.2.1 Ua.2.2.2.1 Ub.2.2.2.1 (by decide) Iy.2.2.2.1 func108 rfl rfl (vs:=#[ay<|ae ⟨pb,0,af⟩,ag ah k]) ?_ (fun d=>(axL (w:=w1.at d) (Qc.same rfl) hN hp hB hk).mono fun B' v w' hg=>⟨hg.1,hg.2.at⟩) ?_
 ·have e1:a4.eval (.tmp 66)=ay (ae ⟨pb,0,af⟩):=(q4.ne 66<|by decide).trans ((q3.ne 66<|by decide).trans<|q2.at_ (by rw[T.sz];decide));have e2:a4.eval (.tmp 68)=ag ah k:=q4.at_ (by rw[z3];decide);simp[e1,e2]
 rintro B' v w2 a5 q5 ⟨rfl,hw⟩;obtain⟨s1,s',rfl,g,dL⟩:=hw.ex;have Bo:=q5.ok _ Ew .bool;have z5:a5.tmps.size=150:=q5.sz.trans z4;refine au.Reach.ok fun N7=>?_;have FQ:∀b,s1 b\/fo b->1<=b:=fun b hb=>(N7.low b hb).1;refine Bj (v:=aB true) TZ.2.2.2.2 Ua.2.2.2.2 Ub.2.2.2.2 (by decide) (by rw[Iy.2.2.2.2];rfl) ⟨_,func48⟩ (fun v hv=>Bl g<|Bo v hv) (fun d=>J4 (q5.at_ (by rw[z4];decide))<|.inr Iy.2.2.2.2) fun a6 d6 q6=>?_;have Bq:=q6.ok _ Bo .bool;have r6:a6.tmps.getD 4 ai=aB true:=q6.at_ (by rw[z5];decide);have df6:a6.defers=[]:=q6.df.trans<|q5.df.trans<|q4.df.trans<|q3.df.trans q2.df;refine vM fun d7=>?_;refine jD (fun _=>step_ret) fun d8=>?_;have Iz:w1.heap.size<=w2.heap.size:=dL.dL.size;refine au.TU (au.lets FQ) (yZ FQ) (fn:=Tryz.f48) (v:=aB true) (t:=w2.tape) (k:=0) rfl df6 rfl func48 (fun v hv=>J5 g Iz<|Bq v hv) ?_ fun d9 _=>⟨_,rfl,rfl,ug.trans ((bW.still a f1).zY a) (fun _=>.inl) ⟨s1,s',rfl,g,dL.at_.same rfl,⟨dL.dL.os,dL.dL.tape,dL.dL.output,dL.dL.size,dL.dL.block⟩,dL.cf⟩⟩;rw[<-r6];exact aET rfl _ _ _
def axN(a:bH w B pb xb N s)(hN:N<=70000000)(hp:¬(s0 pb\/fo pb))(hB:∀k,s0 k->B<=k)(k p q m:Int)(ip:eP p)(iq:eP q)(im:eP m)(fl:Bool):
 au.tX (au.bJ fo s0) prog 48 #[ay<|ae ⟨pb,0,af⟩,vP k p q m ts fl] w (fun B' v w'=>v=aB true/\ug fo s0 w w' B pb xb s (N+306) B'):=by
 by_cases h5:k=5
 ·exact akB a hN hp hB k p q m (.inl h5) ip iq fl
 by_cases KN:k=11
 ·exact akB a hN hp hB k p q m (.inr KN) ip iq fl
 exact(axd a hN hp k p q m ip iq im fl h5 KN).mono fun B' v w' h=>⟨h.1,h.2.mono<|by omega⟩
end
end
section
open Go.RowKit Go.Maps Go.Conc
open _root_.Go.Proofs.YtkelpcjiediamaaGreat.Twin _root_.Go.Proofs.YtkelpcjiediamaaGreat.fJ
def opsOf:Code->Array Oper
 | .region _ o _=>o
 | .block _ c=>opsOf c
 |_=>#[]
noncomputable def MW:Array Oper:=opsOf<|au.gq [false,false] Ir
noncomputable def CZ:Array Oper:=opsOf<|au.gq [false,true,false,false] Ir
noncomputable def C9:Array Oper:=opsOf<|au.gq [false,true,true,false] Ir
noncomputable def wZ:Array Oper:=opsOf<|au.gq [false,true,true,true] Ir
noncomputable def Uc:Code:=.seq (.seq (.region 16 CZ false)<|.cond (.tmp 69) .skip<|.exit 2)<|.seq (.block 3<|.region 18 C9 false)<|.region 17 wZ false
def axO:Et≠.ret:=by
 have:Et=.seq (au.gq [false] Et) (au.gq [true] Et):=by kernel_rfl
 rw[this];intro e;cases e
def akC:Ir=.seq (.seq (.region 15 MW false)<|.block 2<|.loop Uc) Qb:=by kernel_rfl
def axP:Ir≠.ret:=by
 rw[akC];intro e;cases e
noncomputable def opAt(q:Array Oper)(i:Nat):Oper:=q.getD i default
def Qd:MW[0]? =ae (opAt MW 0)/\(opAt MW 0).guard=af/\(opAt MW 0).dst=ae 12/\(opAt MW 0).op=.assign (.const<|ag ah 0)/\List.range MW.size=[0]:=by and_intros<;>kernel_rfl
def Dc:CZ[0]? =ae (opAt CZ 0)/\(opAt CZ 0).guard=af/\(opAt CZ 0).dst=ae 68/\(opAt CZ 0).op=.move (.tmp 12)/\List.range CZ.size=[0,1]:=by and_intros<;>kernel_rfl
def FX:CZ[1]? =ae (opAt CZ 1)/\(opAt CZ 1).guard=af/\(opAt CZ 1).dst=ae 69/\(opAt CZ 1).op=.binOp .lss 3 (.tmp 68) (.const<|ag ah 3) 3:=by and_intros<;>kernel_rfl
def Qe:C9[0]? =ae (opAt C9 0)/\(opAt C9 0).guard=af/\(opAt C9 0).dst=ae 72/\(opAt C9 0).op=.move (.tmp 3)/\List.range C9.size=[0,1]:=by and_intros<;>kernel_rfl
def Yx:C9[1]? =ae (opAt C9 1)/\(opAt C9 1).guard=af/\(opAt C9 1).dst=ae 73/\(opAt C9 1).op=.call {callee:=.value<|.func 20,args:=#[.tmp 72],argTypes:=#[33]}:=by and_intros<;>kernel_rfl
def Qg:wZ[0]? =ae (opAt wZ 0)/\(opAt wZ 0).guard=af/\(opAt wZ 0).dst=ae 70/\(opAt wZ 0).op=.move (.tmp 12)/\List.range wZ.size=[0,1,2]:=by and_intros<;>kernel_rfl
def Ud:wZ[1]? =ae (opAt wZ 1)/\(opAt wZ 1).guard=af/\(opAt wZ 1).dst=ae 71/\(opAt wZ 1).op=.binOp .add 3 (.tmp 70) (.const<|ag ah 1) 3:=by and_intros<;>kernel_rfl
def Ue:wZ[2]? =ae (opAt wZ 2)/\(opAt wZ 2).guard=af/\(opAt wZ 2).dst=ae 12/\(opAt wZ 2).op=.assign (.tmp 71):=by and_intros<;>kernel_rfl
section
variable{a a':Act}{o:Oper}{W:aj}
variable{v:az}{x y:Operand}{i j:Int}
def adS(aO:o.op=.assign (.const v)):(dP a.eval o).run prog W=.ok (.value v) W:=by
 unfold dP;rw[aO];rfl
def akD(h:a.eval x=ag ah i)(h2:a.eval y=ag ah j)(aO:o.op=.binOp .lss 3 x y 3):(dP a.eval o).run prog W=.ok (.value<|.bool<|decide<|i<j) W:=by
 unfold dP;rw[aO];simp only[h,h2];go_simp
def axQ(h:a.eval x=ag ah i)(h2:a.eval y=ag ah j)(aO:o.op=.binOp .add 3 x y 3):(dP a.eval o).run prog W=.ok (.value<|.int .i64<|IntKind.i64.wrap<|i+j) W:=by
 unfold dP;rw[aO];simp only[h,h2];go_simp
def Iw.put{xb pb i:Nat}(U:Iw xb pb a.tmps)(q:FU a i v a')(h:i≠3/\i≠5/\i≠9/\i≠10/\i≠11):Iw xb pb a'.tmps:=
 ⟨q.sz.trans U.sz,(q.ne 3 h.1).trans U.a3,(q.ne 5 h.2.1).trans U.a5,(q.ne 9 h.2.2.1).trans U.a9,(q.ne 10 h.2.2.2.1).trans U.wY,(q.ne 11 h.2.2.2.2).trans U.zZ⟩
end
def eU{w:aj}{x y:Nat}:(w.at x).at y=w.at y:=rfl
structure Rd(fo s0:Nat->Prop)(B pb xb:Nat)(w0:aj)(i n:Nat)(a:Act)(w:aj)(s:dB):Prop where
 U:Iw xb pb a.tmps
 a12:a.tmps.getD 12 ai=ag ah i
 df:a.defers=[]
 ok:au.bT ((au.bJ fo s0).cut w.heap.size) a.tmps
 at_:bH w B pb xb n s
 fB:n<=18+306*i
 F:wX s (2-i)
 hp:¬(s0 pb\/fo pb)
 hB:∀k,s0 k->B<=k
 fr:Fr (fun k=>B<=k) w0 w
def wX.next{s s2:dB}{w:aj}{B pb xb N m:Nat}(F:wX s (m+1))(a:bH w B pb xb N s)(hN:N<=90000000)(hg:s2.g=s.g)(hu:s2.h.up=s.h.up)(hP:s2.h.P=s.h.P)(r:TR s.h s2.h)(hd:∀p t b,gm s.L p t b->gm s2.L p t b):wX s2 m:=by
 obtain⟨l1,l2⟩:=ake (m:=m) a.pg.sn hN F.up a.ha.hQ.1 F.ins r F.lv;obtain⟨t,h1,h2⟩:=F.wr;exact⟨hu.trans F.up,l2,⟨t,by rw[hg];exact h1,hd _ _ _ h2⟩,fun i x hi hx=>l1 i x (by rw[<-hP];exact hi) hx⟩
def wX.mono{s:dB}{m k:Nat}(F:wX s m)(h:m<=k):wX s k:=⟨F.up,F.ins,F.wr,fun i x hi hx=>(F.lv i x hi hx).mono (fun _ z=>z) h⟩
section
variable{fo:Nat->Prop}{B pb xb:Nat}{w0:aj}{l:List Item}{cs cs2:List bu}{Q:au.cO->bu->aj->Prop}
def axR(sW:∀s1 n a w s,Rd fo s1 B pb xb w0 3 n a w s->au.Reach (au.bJ fo s1) prog ((base 47).at a<|.code Qb::l) cs w Q cs2):
 ∀(m i n:Nat) (s0:Nat->Prop) (a:Act) (w:aj) (s:dB),i+m=3->Rd fo s0 B pb xb w0 i n a w s->au.Reach (au.bJ fo s0) prog ((base 47).at a<|.code Uc:: .inLoop Uc:: .inBlock 2:: .code Qb::l) cs w Q cs2:=by
 intro m;induction m with
 |zero=>
  intro i n s0 a w s hi R;obtain rfl:i=3:=by omega
  have FV:∀k,s0 k->s0 k\/w.heap.size<=k:=fun _=>.inl;unfold Uc;refine jO fun d1=>?_;refine jO fun d2=>?_;refine vK fun d3=>?_;rw[Dc.2.2.2.2];refine Bj (v:=ag ah 3) Dc.1 Dc.2.1 Dc.2.2.1 (by decide) (by rw[Dc.2.2.2.1];rfl) ⟨_,func47⟩ (fun v hv=>Bl FV<|R.ok v hv) (fun d=>J4 R.a12<|.inl Dc.2.2.2.1) fun a2 d4 p2=>?_;have uy:=p2.ok _ R.ok .int;refine Bj (v:=aB false) FX.1 FX.2.1 FX.2.2.1 (by decide) (by rw[FX.2.2.2];rfl) ⟨_,func47⟩ (fun v hv=>Bl FV<|uy v hv) (fun d=>akD (a:=a2) (x:=.tmp 68) (y:=.const<|ag ah 3) (i:=3) (j:=3) (p2.at_ (by rw[R.U.sz];decide)) rfl FX.2.2.2) fun a3 d5 p3=>?_;have zf:=p3.ok _ uy .bool;refine vM fun d6=>?_;refine jD (fun _=>aEc (t:=false)<|p3.at_ (by rw[p2.sz,R.U.sz];decide)) fun d7=>?_;rw[if_neg<|by decide];refine jD (fun _=>aFh rfl) fun d8=>?_;exact sW s0 n a3 _ s ⟨(R.U.put p2<|by decide).put p3<|by decide,(p3.ne 12<|by decide).trans<|(p2.ne 12<|by decide).trans R.a12,p3.df.trans<|p2.df.trans R.df,zf,R.at_.same rfl,R.fB,R.F,R.hp,R.hB,⟨R.fr.os,R.fr.tape,R.fr.output,R.fr.size,R.fr.block⟩⟩
 |succ m ih=>
  intro i n s0 a w s hi R;have FV:∀k,s0 k->s0 k\/w.heap.size<=k:=fun _=>.inl;have hd:decide ((i:Int)<3)=true:=kF (by omega);have hn:n<=70000000:=by have:=R.fB;omega
  have hw:IntKind.i64.wrap ((i:Int)+1)=((i+1:Nat):Int):=by rw[wrap_i64 (by omega)<|by omega];rfl
  unfold Uc;refine jO fun d1=>?_;refine jO fun d2=>?_;refine vK fun d3=>?_;rw[Dc.2.2.2.2];refine Bj (v:=ag ah i) Dc.1 Dc.2.1 Dc.2.2.1 (by decide) (by rw[Dc.2.2.2.1];rfl) ⟨_,func47⟩ (fun v hv=>Bl FV<|R.ok v hv) (fun d=>J4 R.a12<|.inl Dc.2.2.2.1) fun a2 d4 p2=>?_;have uy:=p2.ok _ R.ok .int;have U2:=R.U.put p2 (by decide);refine Bj (v:=aB true) FX.1 FX.2.1 FX.2.2.1 (by decide) (by rw[FX.2.2.2];rfl) ⟨_,func47⟩ (fun v hv=>Bl FV<|uy v hv) (fun d=>by rw[<-hd];exact akD (a:=a2) (x:=.tmp 68) (y:=.const<|ag ah 3) (p2.at_ (by rw[R.U.sz];decide)) rfl FX.2.2.2) fun a3 d5 p3=>?_;have zf:=p3.ok _ uy .bool;have U3:=U2.put p3 (by decide);refine vM fun d6=>?_;refine jD (fun _=>aEc (t:=true)<|p3.at_ (by rw[U2.sz];decide)) fun d7=>?_;rw[if_pos rfl];refine jD (fun _=>aEe) fun d8=>?_;refine jO fun d9=>?_;refine jD (fun _=>aEg) fun d10=>?_;refine vK fun d11=>?_;rw[Qe.2.2.2.2];refine Bj (v:=ay<|ae ⟨xb,0,af⟩) Qe.1 Qe.2.1 Qe.2.2.1 (by decide) (by rw[Qe.2.2.2.1];rfl) ⟨_,func47⟩ (fun v hv=>Bl FV<|zf v hv) (fun d=>J4 U3.a3<|.inl Qe.2.2.2.1) fun a4 d12 p4=>?_;have vx:au.aG ((au.bJ fo s0).cut w.heap.size) (ay<|ae ⟨xb,0,af⟩):=by rw[<-R.U.a3];exact R.ok.getD au.rC
  have Ew:=p4.ok _ zf vx;have U4:=U3.put p4 (by decide);rw[eU,eU,eU,eU,eU,eU,eU,eU,eU,eU,eU];refine J3 (f:=20) (post:=fun B' v w'=>∃(d:Nat) (Wg:Nat) (s2:dB),B'=au.bJ fo (fun b=>s0 b\/b=Wg)/\w.heap.size<=Wg/\v=ag ah s.h.fl.length/\wV (w.at d) w' B pb xb s (n+306) s2/\s2.g=s.g/\s2.h.up=s.h.up/\TR s.h s2.h/\∀p t b,gm s.L p t b->gm s2.L p t b) Yx.1 Yx.2.1 Yx.2.2.1 (by decide) Yx.2.2.2 func20 rfl rfl (vs:=#[ay<|ae ⟨xb,0,af⟩]) ?_ (fun d=>(adB (w:=w.at d) (N:=n) (s:=s) (R.at_.same rfl) hn R.hp R.hB).mono fun B' v w' hg=>?_) ?_
  ·have e1:a4.eval (.tmp 72)=ay (ae ⟨xb,0,af⟩):=p4.at_ (by rw[U3.sz];decide);simp[e1]
  ·obtain⟨Wg,s2,q1,q2,q3,q4,q5⟩:=hg;exact⟨d,Wg,s2,q1,q2,q3,q4,q5⟩
  rintro B' v w2 a5 p5 ⟨dd,Wg,s2,rfl,bV,rfl,dL,eg,eu,rn,dc⟩;have g:∀k,(s0 k\/k=Wg)->s0 k\/w.heap.size<=k:=fun k hk=>hk.imp id fun e=>by rw[e];exact bV
  have Iz:w.heap.size<=w2.heap.size:=dL.dL.size;have Bo:=p5.ok _ Ew .int;have U5:=U4.put p5 (by decide);refine vM fun d13=>?_;refine jD (fun _=>aEy) fun d14=>?_;refine vK fun d15=>?_;rw[Qg.2.2.2.2];have e12:a5.tmps.getD 12 ai=ag ah i:=(p5.ne 12<|by decide).trans ((p4.ne 12<|by decide).trans<|(p3.ne 12<|by decide).trans<|(p2.ne 12<|by decide).trans R.a12);refine Bj (v:=ag ah i) Qg.1 Qg.2.1 Qg.2.2.1 (by decide) (by rw[Qg.2.2.2.1];rfl) ⟨_,func47⟩ (fun v hv=>Bl g<|Bo v hv) (fun d=>J4 e12<|.inl Qg.2.2.2.1) fun a6 d16 p6=>?_;have Bq:=p6.ok _ Bo .int;have U6:=U5.put p6 (by decide);refine Bj (v:=ag ah ((i+1:Nat):Int)) Ud.1 Ud.2.1 Ud.2.2.1 (by decide) (by rw[Ud.2.2.2];rfl) ⟨_,func47⟩ (fun v hv=>Bl g<|Bq v hv) (fun d=>by rw[<-hw];exact axQ (a:=a6) (x:=.tmp 70) (y:=.const<|ag ah 1) (p6.at_ (by rw[U5.sz];decide)) rfl Ud.2.2.2) fun a7 d17 p7=>?_;have IA:=p7.ok _ Bq .int;have U7:=U6.put p7 (by decide);refine Bj (v:=ag ah ((i+1:Nat):Int)) Ue.1 Ue.2.1 Ue.2.2.1 (by decide) (by rw[Ue.2.2.2];rfl) ⟨_,func47⟩ (fun v hv=>Bl g<|IA v hv) (fun d=>J4 (p7.at_ (by rw[U6.sz];decide))<|.inr Ue.2.2.2) fun a8 d18 p8=>?_;have J7:=p8.ok _ IA .int;have U8:=U7.put p8 (by decide);refine vM fun d19=>?_;refine jD (fun _=>aEI) fun d20=>?_;refine ih (i+1) (n+306) _ a8 _ s2 (by omega) ⟨U8,p8.at_ (by rw[U7.sz];decide),p8.df.trans<|p7.df.trans<|p6.df.trans<|p5.df.trans<|p4.df.trans<|p3.df.trans<|p2.df.trans R.df,fun v hv=>J5 g Iz<|J7 v hv,dL.at_.same rfl,by have:=R.fB;omega,?_,fun z=>z.elim (fun z=>z.elim (fun y=>R.hp<|.inl y) fun e=>?_) fun y=>R.hp<|.inr y,fun k hk=>hk.elim (R.hB k) fun e=>?_,?_⟩
  ·have F':wX s (2-(i+1)+1):=R.F.mono (by omega);exact F'.next R.at_ (by omega) eg eu dL.cf.1 rn dc
  ·have:=aX R.at_.pa.blk;omega
  ·have:=R.at_.base;omega
  ·have f:Fr (fun k=>B<=k) w w2:=⟨dL.dL.os,dL.dL.tape,dL.dL.output,dL.dL.size,dL.dL.block⟩;have f2:=R.fr.trans f fun _=>.inl;exact⟨f2.os,f2.tape,f2.output,f2.size,f2.block⟩
end
def aF.heap{w w1:aj}{B xb n:Nat}{h:HS}(a:aF w B xb n h)(e:w1.heap=w.heap):aF w1 B xb n h:=Twin.aF.same a (fun b _=>by rw[e]) (by rw[e];exact dm _)
structure Uf(fo:Nat->Prop)(w:aj)(B':au.cO)(v:az)(w':aj):Prop where
 ex:∃(s1:Nat->Prop) (pb xb n:Nat) (s:dB),B'=au.bJ fo s1/\v=ay (ae ⟨pb,0,af⟩)/\bH w' (w.heap.size+1) pb xb n s/\n<=1000/\¬(s1 pb\/fo pb)/\(∀k,s1 k->w.heap.size+1<=k)/\Fr (fun k=>w.heap.size+1<=k) w w'
def axS{fo:Nat->Prop}{w:aj}{p q t k:Nat}(hg:Good p q t k):au.tX (au.bJ fo fun _=>False) prog 47 #[jg p q t k] w (Uf fo w):=by
 intro c cs;refine au.Reach.ok fun bP=>?_;have h5:∀b,False\/fo b->1<=b:=fun b hb=>(bP.low b hb).1;rw[aEX (c:=d47) _ func47 rfl];refine au.adN (p:=Es) (c:=d47) (S:=Et) (w:=w) (K:=fun ta d x w'=>∃xb pb h v,Yv w.heap.size xb pb x.tmps/\Started (au.re w ta d) w' p q t k w.heap.size xb pb h v) (au.lets h5) (yZ h5) rfl axO axm ?_ rfl ⟨_,func47⟩ rfl (fun ta d=>axq (w:=au.re w ta d) hg) ?_
 ·refine au.bT.append (au.bT.one<|.agg fun x hx=>?_) fun v hv=>?_
  ·simp only[tu,jR,pF,pG]at hx;rcases hx with rfl|rfl|rfl|rfl<;>exact .int
  ·obtain⟨_,rfl⟩:=Oa.1 hv;exact au.rC
 rintro⟨a1,df⟩ w1 l1 lY MF hd ⟨ta,d,ta',j,xb,pb,h,v,T,st⟩;obtain rfl:df=[]:=hd;have bM:Fr aP w w1:=⟨lY.os,lY.tape,lY.output,lY.size,fun b hb h=>st.fr.block b hb h⟩;have G:∀(ta:Nat->Question->Nat) (d:Nat),FT (au.re w1 ta d) (w.heap.size+1) p q t k w.heap.size xb pb 0 h [] v (au.re w1 ta d):=fun ta d=>⟨st.Qa,st.lt,aF.heap st.ha rfl,st.ax,st.wW,st.cf,st.pa.same rfl,Fr.refl _ _⟩;refine au.adN (p:=Es) (c:=Et) (S:=Ir) (w:=w1) (K:=fun ta d x w'=>Iw xb pb x.tmps/\∃s,bH w' (w.heap.size+1) pb xb 18 s/\wX s 2/\Fr (fun k=>w.heap.size+1<=k) (au.re w1 ta d) w') (au.lets h5) (yZ h5) rfl axP axr MF rfl ⟨_,func47⟩ rfl (fun ta d=>axv (G ta d) hg T) ?_;rintro⟨a2,df⟩ w2 l2 JR PI hd ⟨tb,d',tb',j',U,s,A,F,fr⟩;obtain rfl:df=[]:=hd;have jP:Fr (fun k=>w.heap.size+1<=k) w1 w2:=⟨JR.os,JR.tape,JR.output,JR.size,fun b hb h=>fr.block b hb h⟩;have A2:bH w2 (w.heap.size+1) pb xb 18 s:=A.same rfl;rw[akC];refine jO fun d1=>?_;refine jO fun d2=>?_;refine vK fun d3=>?_;rw[Qd.2.2.2.2,eU,eU];refine Bj (v:=ag ah 0) Qd.1 Qd.2.1 Qd.2.2.1 (by decide) (by rw[Qd.2.2.2.1];rfl) ⟨_,func47⟩ (fun v hv=>Bl (s0:=fun _=>False) (n:=w2.heap.size) (fun _=>.inl)<|PI v hv) (fun d=>adS Qd.2.2.2.1) fun a3 d4 p3=>?_;refine vM fun d5=>?_;refine jD (fun _=>aEg) fun d6=>?_;refine jD (fun _=>aEO) fun d7=>?_;rw[eU,eU,eU,eU];refine axR (B:=w.heap.size+1) (pb:=pb) (xb:=xb) (w0:=w) ?_ 3 0 18 (fun _=>False) a3 _ s rfl ⟨U.put p3<|by decide,p3.at_ (by show 12<a2.size;rw[U.sz];decide),p3.df,p3.ok _ PI .int,A2.same rfl,dm _,F,fun z=>z.elim id fun y=>by have:=(bP.low pb<|.inr y).2;have:=A2.pa.hb;omega,fun _ h=>h.elim,?_⟩;rotate_left
 ·have:=(bM.mono fun _ h=>h.elim).trans jP fun _=>.inl;exact⟨this.os,this.tape,this.output,this.size,this.block⟩
 rintro s1 n ⟨a4,df⟩ w3 s3 R;obtain rfl:df=[]:=R.df;refine au.Reach.ok fun ac3=>?_;have MG:∀b,s1 b\/fo b->1<=b:=fun b hb=>(ac3.low b hb).1;have hn:n<=80000000:=by have:=R.fB;omega
 refine au.Hr (w:=w3) (K:=fun t d e x w'=>e=.ret/\x.tmps.getD 2 ai=ay (ae ⟨pb,0,af⟩)/\∃s',bW (au.re w3 t d) w' (w.heap.size+1) pb xb s3 (n+6) s') (au.lets MG) (yZ MG) axE R.ok rfl ⟨_,func47⟩ rfl (fun t d=>aEq (axF R.U (R.at_.re t d) hn R.F) fun e a' w' hq=>⟨.inr hq.1,hq⟩) ?_ ?_
 ·rintro a5 w4 _ _ _ ⟨t,d,t',j,e,_⟩;cases e
 rintro a5 w4 todo CV ac5 hd4 ⟨t,d,t',j,_,uo,s4,t4⟩;refine au.TU (au.lets MG) (yZ MG) (fn:=Tryz.f47) (v:=ay<|ae ⟨pb,0,af⟩) (t:=t') (k:=j) rfl hd4 rfl func47 ac5 ?_ fun d9 _=>⟨_,rfl,⟨s1,pb,xb,n+6,s4,rfl,rfl,t4.at_.same rfl,by have:=R.fB;omega,R.hp,R.hB,?_⟩⟩
 ·rw[<-uo];exact aET rfl _ _ _
 ·have t5:=(t4.JP CV).dL R.at_;have:=R.fr.trans t5 fun _=>.inl;exact⟨this.os,this.tape,this.output,this.size,this.block⟩
end
section
open Go.RowKit Go.Maps Go.Conc
open _root_.Go.Proofs.YtkelpcjiediamaaGreat.Twin _root_.Go.Proofs.YtkelpcjiediamaaGreat.fJ
open au (jA jL pK)
def qH(D:List Nat)(B:au.cO)(t:Array az):Prop:=∀j,D.contains j=false->∀v,t[j]? =ae v->au.aG B v
def lay(D:List Nat)(f:Nat->az):List (Nat×az):=D.map fun j=>(j,f j)
def tidy(D:List Nat)(t:Array az):Array Value:=jA (lay D fun _=>ai) t
def akE(D:List Nat)(f:Nat->az):jL (lay D f)=D:=by
 simp[jL,lay,Function.comp_def]
variable{t:Array az}{f:Nat->az}{D:List Nat}{B:au.cO}
def Bv:∀{ov:List (Nat×az)},(jA ov t).size=t.size
 |[]=>rfl
 |x::r=>by simp only[jA,Array.size_setIfInBounds];exact Bv
def J8{i:Nat}:∀{D:List Nat},(jA (lay D f) t)[i]? =if D.contains i then(if i<t.size then ae (f i)else af)else t[i]?
 |[]=>rfl
 |j::D=>by
  show((jA (lay D f) t).setIfInBounds j<|f j)[i]? =_;rw[ae6,Bv];by_cases e:j=i
  ·subst e;simp
  ·have e':¬i=j:=fun h=>e h.symm;rw[if_neg e,J8];simp[e']
def akF:jA (lay D fun j=>t.getD j ai) (tidy D t)=t:=by
 refine Array.ext_getElem? fun i=>?_;rw[J8,tidy,Bv];by_cases h:D.contains i=true
 ·rw[if_pos h];by_cases hi:i<t.size
  ·rw[if_pos hi];simp[Array.getD,hi]
  ·rw[if_neg hi];simp[hi]
 ·rw[if_neg h,J8,if_neg h]
def nX{i:Nat}(h:D.contains i=false):(jA (lay D f) t).getD i ai=t.getD i undef:=by
 rw[ET,ET,J8,h,if_neg<|by decide]
def Qh{i:Nat}(h:D.contains i=true)(hi:i<t.size):(jA (lay D f) t).getD i ai=f i:=by
 rw[ET,J8,if_pos h,if_pos hi];rfl
def qH.tidy(h:qH D B t):au.bT B (tidy D t):=fun v hv=>by
 obtain⟨i,hi⟩:=amV.1 hv;rw[YtkelpcjiediamaaGreat.tidy,J8]at hi;split at hi
 ·split at hi
  ·cases hi;exact au.rC
  ·cases hi
 ·exact h i (Bool.eq_false_iff.2 ‹_›) v hi
def qH.of(h:au.bT B t):qH D B (jA (lay D f) t):=fun j hj v hv=>by
 rw[J8,hj,if_neg<|by decide]at hv;exact h v<|KR hv
def qH.mono{B':au.cO}(h:qH D B t)(hi:∀v,au.aG B v->au.aG B' v):qH D B' t:=fun j hj v hv=>hi v<|h j hj v hv
def qH.getD(h:qH D B t){j:Nat}(hj:D.contains j=false):au.aG B (t.getD j ai):=by
 rw[ET];cases e:t[j]? with
 |none=>exact au.rC
 |some v=>exact h j hj v e
def qH.put{a a':Act}{i:Nat}{v:az}(h:qH D B a.tmps)(p:FU a i v a')(hv:D.contains i=true\/au.aG B v):qH D B a'.tmps:=fun j hj u hu=>by
 have aI:j<a'.tmps.size:=(jk.1 hu).1;have aAH:j<a.tmps.size:=p.sz▸aI;have e1:a'.tmps.getD j ai=u:=by rw[ET,hu];rfl
 by_cases e:i=j
 ·subst e;have:=p.at_ aAH;rw[e1]at this;subst this;exact hv.elim (fun h=>by rw[hj]at h;cases h) id
 ·have:=p.ne j e;rw[e1]at this;rw[this];exact h.getD hj
def axT(h:D.contains 1=true/\D.contains 0=false){c s:az}{n:Nat}:tidy D (#[c,s]++Array.replicate n ai)=#[c,ai]++Array.replicate n undef:=by
 refine Array.ext_getElem? fun i=>?_;rw[tidy,J8];match i with
 |0=>
  rw[h.2,if_neg<|by decide,N8,N8];rfl
 |1=>
  rw[if_pos h.1,if_pos (by simp<;>omega),N8];rfl
 |i+2=>
  have e:∀v:az,(#[c,v]++Array.replicate n undef:Array az)[i+2]? =if i<n then ae ai else none:=fun v=>by
   rw[N8,if_neg<|by simp,amU];rfl
  rw[e,e];split
  ·have hz:(#[c,s]++Array.replicate n undef:Array az).size=n+2:=by simp<;>omega
   rw[hz];simp
  ·rfl
section
variable{fo s:Nat->Prop}{b:bu}{a:Act}{ops:Array Oper}{i:Nat}{rest:List Nat}{k:List Item}{cs cs2:List bu}{w:aj}{Q:au.cO->bu->aj->Prop}{o:Oper}{v:az}{d:Nat}
def Df(ho:ops[i]? =ae o)(hg:o.guard=af)(hd:o.dst=ae d)(hk:b.kind≠.early)
 (hr:∀d,(dP a.eval o).run prog (w.at d)=.ok (.value v) (w.at d))
 (dS:∀d,∀e∈(dP a.eval o).events prog (w.at d) #[],EvL (au.tV<|au.bJ fo s) w.heap.size e)
 (hn:∀a' dd,FU a d v a'->au.Reach (au.bJ fo s) prog (b.at a'<|bQ ops rest::k) cs (w.at dd) Q cs2):au.Reach (au.bJ fo s) prog (b.at a<|bQ ops (i::rest)::k) cs w Q cs2:=by
 refine au.Reach.ok fun bP=>au.Reach.step fun dd=>?_;refine⟨_,_,w.at dd,_,aEF ho (by simp[Region.wanted,hg]) hk<|hr dd,⟨bP.obj,bP.low,bP.mG⟩,dm _,fun e he=>dS dd e<|aD4 he,?_⟩;rw[hd];exact hn _ dd<|.of a d v
variable{n:Nat}{c:Code}{D:List Nat}{f:FuncId}{fn:Func}{K:Array az->aj->Prop}
def axU{W:aj}(aO:o.op=.move (.tmp n)\/o.op=.assign (.tmp n)):(dP a.eval o).events prog W #[]=#[]:=by
 rcases aO with aO|aO<;>(unfold dP;rw[aO];rfl)
def Dh(ho:ops[i]? =ae o)(hg:o.guard=af)(hd:o.dst=ae d)(hk:b.kind≠.early)(aO:o.op=.move (.tmp n)\/o.op=.assign (.tmp n))(h:a.tmps.getD n ai=v)
 (hn:∀a' dd,FU a d v a'->au.Reach (au.bJ fo s) prog (b.at a'<|bQ ops rest::k) cs (w.at dd) Q cs2):au.Reach (au.bJ fo s) prog (b.at a<|bQ ops (i::rest)::k) cs w Q cs2:=
 Df ho hg hd hk (fun _=>J4 h aO) (fun _ e he=>by rw[axU aO]at he;simp at he) hn
def Yy{c:Addr}(h:c.block<n)(hs:¬s c.block):EvL (au.tV<|au.bJ fo s) n ⟨.cell c,false,false⟩:=
 aiV (B:=au.bJ fo s) (S:=fun b=>b=c.block) (E:=⟨fun _=>False,fun _=>False,fun _ z=>z⟩) (.inl rfl) (fun _ e=>e▸⟨h,hs⟩) fun _ e=>e.elim
def IB(hK:∀x w t d,K x (au.re w t d)->K x w)(qy:prog.funcs[f]? =ae fn)(bP:au.codeOk prog au.lF c=true)(hM:pK D c=true)(ha:qH D ((au.bJ fo s).cut w.heap.size) a.tmps)(hd:a.defers=[])
 (BD:∀t d,c.wp prog (fun e x w'=>e=.normal/\K x.tmps w') ⟨tidy D a.tmps,[]⟩<|au.re w t d)
 (hn:∀x w1,au.On w w1->K x w1->qH D ((au.bJ fo s).cut w1.heap.size) (jA (lay D fun j=>a.tmps.getD j ai) x)->au.Reach (au.bJ fo s) prog ((base f).at ⟨jA (lay D fun j=>a.tmps.getD j ai) x,[]⟩ k) cs w1 Q cs2):
 au.Reach (au.bJ fo s) prog ((base f).at a<|.code c::k) cs w Q cs2:=by
 refine au.Reach.ok fun ae3=>?_;have h5:∀b,s b\/fo b->1<=b:=fun b hb=>(ae3.low b hb).1;obtain⟨tm,df⟩:=a;obtain rfl:df=[]:=hd;have:=au.ab7 (ov:=lay D fun j=>tm.getD j ai) (z:=false) (S:=.ret) (b:=base f) (k:=k) (cs:=cs) (cs2:=cs2) (Q:=Q) (K:=fun t d e a' w'=>e=.normal/\K a'.tmps w') (au.lets h5) (yZ h5) (fun it hi=>by
  obtain rfl:it=.code c:=by simpa using hi
  rw[akE];exact .inr hM) (.same c<|.off rfl _) bP ha.tidy rfl ⟨_,qy⟩ rfl (fun t d=>aEq (BD t d) fun e a' w' hq=>⟨.inl hq.1,hq⟩)
  (fun a' w' on Yz hd ⟨t,d,t',j,_,h⟩=>by
    obtain⟨x,df⟩:=a';obtain rfl:df=[]:=hd;exact hn x w' on (hK _ _ _ _ h)<|.of Yz) (fun h=>by cases h) (fun _ a' w' todo _ _ _ ⟨t,d,t',j,e,_⟩=>by cases e) (fun h=>absurd rfl h)
 rw[akF]at this;exact this
def akG(hK:∀x w t d,K x (au.re w t d)->K x w)(qy:prog.funcs[f]? =ae fn)(bP:au.codeOk prog au.lF c=true)(hM:pK D c=true)(ha:qH D ((au.bJ fo s).cut w.heap.size) a.tmps)(hd:a.defers=[])
 (BD:∀t d,c.wp prog (fun e x w'=>e=.ret/\K x.tmps w') ⟨tidy D a.tmps,[]⟩<|au.re w t d)
 (hn:∀x w1 todo,au.On w w1->K x w1->au.bT ((au.bJ fo s).cut w1.heap.size) x->au.Reach (au.bJ fo s) prog {(base f).at ⟨jA (lay D fun j=>a.tmps.getD j ai) x,[]⟩ todo with mode:=.returning} cs w1 Q cs2):
 au.Reach (au.bJ fo s) prog ((base f).at a<|.code c::k) cs w Q cs2:=by
 refine au.Reach.ok fun ae3=>?_;have h5:∀b,s b\/fo b->1<=b:=fun b hb=>(ae3.low b hb).1;obtain⟨tm,df⟩:=a;obtain rfl:df=[]:=hd;have:=au.ab7 (ov:=lay D fun j=>tm.getD j ai) (z:=false) (S:=.ret) (b:=base f) (k:=k) (cs:=cs) (cs2:=cs2) (Q:=Q) (K:=fun t d e a' w'=>e=.ret/\K a'.tmps w') (au.lets h5) (yZ h5) (fun it hi=>by
  obtain rfl:it=.code c:=by simpa using hi
  rw[akE];exact .inr hM) (.same c<|.off rfl _) bP ha.tidy rfl ⟨_,qy⟩ rfl (fun t d=>aEq (BD t d) fun e a' w' hq=>⟨.inr hq.1,hq⟩)
  (fun a' w' on Yz hd ⟨t,d,t',j,e,_⟩=>by cases e) (fun h=>by cases h) (fun _ a' w' todo on Yz hd ⟨t,d,t',j,_,h⟩=>by
    obtain⟨x,df⟩:=a';obtain rfl:df=[]:=hd;exact hn x w' todo on (hK _ _ _ _ h) Yz) (fun h=>absurd rfl h)
 rw[akF]at this;exact this
end
end
section
open Go.RowKit Go.Maps Go.Conc
open _root_.Go.Proofs.YtkelpcjiediamaaGreat.Twin _root_.Go.Proofs.YtkelpcjiediamaaGreat.fJ
section
variable{a a':Act}{o:Oper}{W:aj}
variable{x y:Operand}{b sb so f:Nat}{p q t k m:Int}{ts:ByteArray}{fl:Bool}
def akH(h:a.eval x=ay (ae ⟨b,0,af⟩))(hb:W.heap[b]? =ae (aC #[ag ah p,ag ah q,ag ah t,ag ah k] 23 (0,0)))(aO:o.op=.load 23 x):(dP a.eval o).run prog W=.ok (.value<|jg p q t k) W:=by
 have h0:W.cell? ⟨b,0,af⟩=ae (ag ah p):=aK hb 0;have h1:W.cell? ⟨b,1,af⟩=ae (ag ah q):=aK hb 1;have h2:W.cell? ⟨b,2,af⟩=ae (ag ah t):=aK hb 2;have h3:W.cell? ⟨b,3,af⟩=ae (ag ah k):=aK hb 3;clear hb;unfold dP jg;rw[aO];simp only[h];go_simp
def axV{n cap i:Nat}(h:a.eval x=aJ (ae ⟨sb,so,af⟩) n cap)(h2:a.eval y=ag ah i)(hi:i<n)(aO:o.op=.indexAddr 26 x y):(dP a.eval o).run prog W=.ok (.value<|ay<|ae ⟨sb,so+i*6,af⟩) W:=by
 have h3:(i:Int)<(n:Int):=by omega
 have h4:(0:Int)<=(i:Int):=by omega
 unfold dP;rw[aO];simp only[h,h2];go_simp
def axW(h:a.eval x=ay (ae ⟨b,f,af⟩))(h0:W.cell? ⟨b,f,af⟩=ae (ag ah k))(h1:W.cell? ⟨b,f+1,af⟩=ae (ag ah p))(h2:W.cell? ⟨b,f+2,af⟩=ae (ag ah q))(h3:W.cell? ⟨b,f+3,af⟩=ae (ag ah m))(h4:W.cell? ⟨b,f+4,af⟩=ae (dA ts))(h5:W.cell? ⟨b,f+5,af⟩=ae (aB fl))(aO:o.op=.load 28 x):(dP a.eval o).run prog W=.ok (.value<|vP k p q m ts fl) W:=by
 unfold dP vP;rw[aO];simp only[h];go_simp
def akI(h:a.eval x=ay (ae ⟨b,0,af⟩))(hb:W.heap[b]? =ae (aC #[ag ah p,ag ah q,ag ah t,ag ah k] 23 (0,0)))(aO:o.op=.load 23 x):∀e∈(dP a.eval o).events prog W #[],∃n,e=⟨.cell ⟨b,n,af⟩,false,false⟩:=by
 intro e he;have h0:W.cell? ⟨b,0,af⟩=ae (ag ah p):=aK hb 0;have h1:W.cell? ⟨b,1,af⟩=ae (ag ah q):=aK hb 1;have h2:W.cell? ⟨b,2,af⟩=ae (ag ah t):=aK hb 2;have h3:W.cell? ⟨b,3,af⟩=ae (ag ah k):=aK hb 3;clear hb;unfold dP at he;rw[aO]at he;simp only[h]at he;simp[go_sem,h0,h1,h2,h3]at he;rcases he with rfl|rfl|rfl|rfl<;>exact⟨_,rfl⟩
def axX(h:a.eval x=ay (ae ⟨b,f,af⟩))(h0:W.cell? ⟨b,f,af⟩=ae (ag ah k))(h1:W.cell? ⟨b,f+1,af⟩=ae (ag ah p))(h2:W.cell? ⟨b,f+2,af⟩=ae (ag ah q))(h3:W.cell? ⟨b,f+3,af⟩=ae (ag ah m))(h4:W.cell? ⟨b,f+4,af⟩=ae (dA ts))(h5:W.cell? ⟨b,f+5,af⟩=ae (aB fl))(aO:o.op=.load 28 x):∀e∈(dP a.eval o).events prog W #[],∃n,e=⟨.cell ⟨b,n,af⟩,false,false⟩:=by
 intro e he;unfold dP at he;rw[aO]at he;simp only[h]at he;simp[go_sem,h0,h1,h2,h3,h4,h5]at he;rcases he with rfl|rfl|rfl|rfl|rfl|rfl<;>exact⟨_,rfl⟩
def axY{n cap i:Nat}(h:a.eval x=aJ (ae ⟨sb,so,af⟩) n cap)(h2:a.eval y=ag ah i)(hi:i<n)(aO:o.op=.indexAddr 26 x y):(dP a.eval o).events prog W #[]=#[]:=by
 have h3:(i:Int)<(n:Int):=by omega
 have h4:(0:Int)<=(i:Int):=by omega
 unfold dP;rw[aO];simp only[h,h2];simp[go_sem,h3]
def akJ{v:az}(aO:o.op=.assign (.const v)):(dP a.eval o).events prog W #[]=#[]:=by
 unfold dP;rw[aO];rfl
def akK{ao:Option Addr}{n cap:Nat}(h:a.eval x=.slice ao n cap)(aO:o.op=.call {callee:=.builtin .len,args:=#[x],argTypes:=#[26]}):(dP a.eval o).run prog W=.ok (.value<|ag ah n) W/\(dP a.eval o).events prog W #[]=#[]:=by
 unfold dP;rw[aO];have h':#[x].map a.eval=#[.slice ao n cap]:=by simp only[afh,uF,wC,h]
 constructor
 ·simp only[resolve,h'];simp[go_sem]
 ·simp only[resolve,h'];simp[go_sem]
def akL{i n:Nat}(h:a.eval x=ag ah i)(h2:a.eval y=ag ah n)(aO:o.op=.binOp .lss 3 x y 3):(dP a.eval o).run prog W=.ok (.value<|.bool<|decide<|i<n) W/\(dP a.eval o).events prog W #[]=#[]:=by
 unfold dP;rw[aO];simp only[h,h2];constructor
 ·simp[go_sem]
 ·simp[go_sem]
end
structure Aa where
 k:Int
 p:Int
 q:Int
 m:Int
 s:ByteArray
 c:Bool
def Aa.at_(w:aj)(sb o:Nat)(x:Aa):Prop:=
 w.cell? ⟨sb,o,af⟩=ae (ag ah x.k)/\w.cell? ⟨sb,o+1,af⟩=ae (ag ah x.p)/\w.cell? ⟨sb,o+2,af⟩=ae (ag ah x.q)/\
 w.cell? ⟨sb,o+3,af⟩=ae (ag ah x.m)/\w.cell? ⟨sb,o+4,af⟩=ae (dA x.s)/\w.cell? ⟨sb,o+5,af⟩=ae (aB x.c)
def Qi(w:aj)(ao:Option Addr)(l:List Aa):Prop:=
 ∀(i:Nat) x,l[i]? =ae x->(∃sb so,ao=ae ⟨sb,so,af⟩/\sb<w.heap.size/\x.at_ w sb (so+i*6))/\eP x.p/\eP x.q/\eP x.m
def Aa.aY{w w':aj}{sb o B:Nat}{x:Aa}(h:x.at_ w sb o)(f:Fr (fun k=>B<=k) w w')(hB:w.heap.size<=B)(hs:sb<w.heap.size):x.at_ w' sb o:=by
 obtain⟨c0,c1,c2,c3,c4,c5⟩:=h;have k:∀o,w'.cell? ⟨sb,o,af⟩=w.cell? ⟨sb,o,af⟩:=fun o=>f.cell (p:=⟨sb,o,af⟩) hs (fun e=>by have:B<=sb:=e;omega);exact⟨by rw[k];exact c0,by rw[k];exact c1,by rw[k];exact c2,by rw[k];exact c3,by rw[k];exact c4,by rw[k];exact c5⟩
noncomputable def d15:Code:=Tryz.f15.body.getD .skip
noncomputable def Ug:Code:=au.gq [false] d15
noncomputable def xh:Array Oper:=opsOf<|au.gq [true,false] d15
noncomputable def Uh:Code:=au.gq [true,true,false] d15
noncomputable def MX:Array Oper:=opsOf<|au.gq [true,true,true,false,false] d15
noncomputable def MZ:Code:=au.gq [true,true,true,true] d15
noncomputable def YA:Code:=au.gq [true,true,true,false,true,false,false] d15
noncomputable def kX:Array Oper:=opsOf<|au.gq [true,true,true,false,true,true,false,false] d15
noncomputable def Ui:Code:=au.gq [true,true,true,false,true,true,false,true] d15
noncomputable def Uj:Code:=au.gq [true,true,true,false,true,true,true] d15
noncomputable def Uk:Code:=.seq (.seq YA<|.cond (.tmp 16) .skip<|.exit 0)<|.seq (.block 1<|.seq (.region 7 kX false) Ui) Uj
def axZ:d15=.seq Ug (.seq (.region 1 xh false)<|.seq Uh<|.seq (.seq (.region 4 MX false)<|.block 0<|.loop Uk) MZ):=by kernel_rfl
noncomputable def rM:Array Oper:=opsOf YA
def ax0:YA=.region 5 rM false:=by kernel_rfl
def ax1:List.range rM.size=[0,1,2,3]:=by kernel_rfl
def YB:rM[0]? =ae (opAt rM 0)/\(opAt rM 0).guard=af/\(opAt rM 0).dst=ae 13/\(opAt rM 0).op=.move (.tmp 6):=by and_intros<;>kernel_rfl
def YC:rM[1]? =ae (opAt rM 1)/\(opAt rM 1).guard=af/\(opAt rM 1).dst=ae 14/\(opAt rM 1).op=.move (.tmp 1):=by and_intros<;>kernel_rfl
def Ul:rM[2]? =ae (opAt rM 2)/\(opAt rM 2).guard=af/\(opAt rM 2).dst=ae 15/\(opAt rM 2).op=.call {callee:=.builtin .len,args:=#[.tmp 14],argTypes:=#[26]}:=by and_intros<;>kernel_rfl
def Um:rM[3]? =ae (opAt rM 3)/\(opAt rM 3).guard=af/\(opAt rM 3).dst=ae 16/\(opAt rM 3).op=.binOp .lss 3 (.tmp 13) (.tmp 15) 3:=by and_intros<;>kernel_rfl
def oK:List Nat:=[1,14,20,22]
def Un:au.pK oK Ug=true/\au.pK oK Uh=true/\au.pK oK MZ=true/\au.pK oK Ui=true/\au.pK oK Uj=true:=by and_intros<;>kernel_rfl
def Uo:au.codeOk prog au.lF Ug=true/\au.codeOk prog au.lF Uh=true/\au.codeOk prog au.lF MZ=true/\au.codeOk prog au.lF Ui=true/\au.codeOk prog au.lF Uj=true:=by and_intros<;>kernel_rfl
def Qj:xh[0]? =ae (opAt xh 0)/\(opAt xh 0).guard=af/\(opAt xh 0).dst=ae 9/\(opAt xh 0).op=.load 23 (.tmp 2)/\List.range xh.size=[0,1,2]:=by and_intros<;>kernel_rfl
def YD:xh[1]? =ae (opAt xh 1)/\(opAt xh 1).guard=af/\(opAt xh 1).dst=ae 10/\(opAt xh 1).op=.call {callee:=.value<|.func 47,args:=#[.tmp 9],argTypes:=#[23]}:=by and_intros<;>kernel_rfl
def YE:xh[2]? =ae (opAt xh 2)/\(opAt xh 2).guard=af/\(opAt xh 2).dst=ae 5/\(opAt xh 2).op=.assign (.tmp 10):=by and_intros<;>kernel_rfl
def Qk:MX[0]? =ae (opAt MX 0)/\(opAt MX 0).guard=af/\(opAt MX 0).dst=ae 6/\(opAt MX 0).op=.assign (.const<|ag ah 0)/\List.range MX.size=[0]:=by and_intros<;>kernel_rfl
def ax2:List.range kX.size=[0,1,2,3,4,5,6]:=by kernel_rfl
def YF:kX[0]? =ae (opAt kX 0)/\(opAt kX 0).guard=af/\(opAt kX 0).dst=ae 19/\(opAt kX 0).op=.move (.tmp 5):=by and_intros<;>kernel_rfl
def YG:kX[1]? =ae (opAt kX 1)/\(opAt kX 1).guard=af/\(opAt kX 1).dst=ae 20/\(opAt kX 1).op=.move (.tmp 1):=by and_intros<;>kernel_rfl
def YH:kX[2]? =ae (opAt kX 2)/\(opAt kX 2).guard=af/\(opAt kX 2).dst=ae 21/\(opAt kX 2).op=.move (.tmp 6):=by and_intros<;>kernel_rfl
def Ur:kX[3]? =ae (opAt kX 3)/\(opAt kX 3).guard=af/\(opAt kX 3).dst=ae 22/\(opAt kX 3).op=.indexAddr 26 (.tmp 20) (.tmp 21):=by and_intros<;>kernel_rfl
def Us:kX[4]? =ae (opAt kX 4)/\(opAt kX 4).guard=af/\(opAt kX 4).dst=ae 23/\(opAt kX 4).op=.load 28 (.tmp 22):=by and_intros<;>kernel_rfl
def YI:kX[5]? =ae (opAt kX 5)/\(opAt kX 5).guard=af/\(opAt kX 5).dst=ae 24/\(opAt kX 5).op=.call {callee:=.value<|.func 48,args:=#[.tmp 19,.tmp 23],argTypes:=#[40,28]}:=by and_intros<;>kernel_rfl
def YJ:kX[6]? =ae (opAt kX 6)/\(opAt kX 6).guard=af/\(opAt kX 6).dst=ae 7/\(opAt kX 6).op=.assign (.tmp 24):=by and_intros<;>kernel_rfl
def YK:List.range 34=[0,1,2,3,4,5,6,7,8,9,10,11,12,13,14,15,16,17,18,19,20,21,22,23,24,25,26,27,28,29,30,31,32,33]:=by kernel_rfl
structure rO(v1:az)(pb:Nat)(i:Nat)(a:Array az):Prop where
 sz:a.size=34
 a1:a.getD 1 ai=v1
 a5:a.getD 5 ai=ay (ae ⟨pb,0,af⟩)
 a6:a.getD 6 ai=ag ah i
variable{v1:az}
def rO.put{pb i j:Nat}{a a':Act}{v:az}(T:rO v1 pb i a.tmps)(q:FU a j v a')(h:j≠1/\j≠5/\j≠6):rO v1 pb i a'.tmps:=
 ⟨q.sz.trans T.sz,(q.ne 1 h.1).trans T.a1,(q.ne 5 h.2.1).trans T.a5,(q.ne 6 h.2.2).trans T.a6⟩
def rO.tidy{pb i:Nat}{t:Array az}(T:rO v1 pb i t):rO ai pb i (tidy oK t):=
 ⟨Bv.trans T.sz,Qh rfl (by rw[T.sz];decide),(nX rfl).trans T.a5,(nX rfl).trans T.a6⟩
def rO.lay{pb i:Nat}{f:Nat->az}{x:Array az}(T:rO ai pb i x)(h:f 1=v1):rO v1 pb i (au.jA (lay oK f) x):=
 ⟨Bv.trans T.sz,(Qh rfl (by rw[T.sz];decide)).trans h,(nX rfl).trans T.a5,(nX rfl).trans T.a6⟩
section
variable{w W:aj}{B pb xb N i n cap:Nat}{s:dB}{ao:Option Addr}{a:Array az}
variable{v1:az}
def ax4(T:rO v1 pb i a)(hi:i<1000000):Uj.wp prog (fun e x w'=>e=.normal/\rO v1 pb (i+1) x.tmps/\w'=W) ⟨a,[]⟩ W:=by
 obtain⟨sz,a1,a5,a6⟩:=T;have hw:IntKind.i64.wrap ((i:Int)+1)=(i:Int)+1:=wrap_i64 (by omega) (by omega);rw[Eu a,sz,YK];simp only[uF,wC,a1,a5,a6];obtain⟨Q0,gX⟩:∃Q0:Exit->Act->aj->Prop,(fun e x w'=>e=.normal/\rO v1 pb (i+1) x.tmps/\w'=W)=Q0:=⟨_,rfl⟩;rw[gX];simp only[Uj,d15,au.gq,Tryz.f15,ik,if_true,kQ,kP];go_wp2
 rw[<-gX];exact⟨rfl,⟨rfl,rfl,rfl,rfl⟩,rfl⟩
def ax5(T:rO v1 pb i a)(h7:a.getD 7 ai=aB true)(A:bH w B pb xb N s)(hN:N<=80000000):Ui.wp prog (fun e x w'=>e=.normal/\rO v1 pb i x.tmps/\∃s',bW w w' B pb xb s (N+6) s') ⟨a,[]⟩ w:=by
 obtain⟨sz,a1,a5,a6⟩:=T;have HL:Hid (aU prog 21 #[ay<|ae ⟨pb,0,af⟩] w<|kV w B pb xb s<|N+6):=awt A hN;rw[Eu a,sz,YK];simp only[uF,wC,a1,a5,a6,h7];clear A hN sz a1 a5 a6 h7;obtain⟨Q0,gX⟩:∃Q0:Exit->Act->aj->Prop,(fun e x w'=>e=.normal/\rO v1 pb i x.tmps/\∃s',bW w w' B pb xb s (N+6) s')=Q0:=⟨_,rfl⟩;rw[gX];simp only[Ui,d15,au.gq,Tryz.f15,ik,if_true,kQ,kP];have JZ:Hid ((fun e x w'=>e=.normal/\rO v1 pb i x.tmps/\∃s',bW w w' B pb xb s (N+6) s')=Q0):=gX;clear gX;go_wp2_with fail
 refine HL.o.mono ?_;rintro e w1 ⟨rfl,s1,t1⟩;have T1:Hid (bW w w1 B pb xb s (N+6) s1):=t1;clear t1;go_wp2_with fail
 rw[<-JZ.o];exact⟨rfl,⟨rfl,rfl,rfl,rfl⟩,s1,T1.o⟩
def ax6(sz:a.size=34)(a1:a.getD 1 ai=v1)(a5:a.getD 5 ai=ay (ae ⟨pb,0,af⟩)):Uh.wp prog (fun e x w'=>e=.normal/\(x.tmps.size=34/\x.tmps.getD 1 ai=v1/\x.tmps.getD 5 ai=ay (ae ⟨pb,0,af⟩))/\w'=W) ⟨a,[]⟩ W:=by
 rw[Eu a,sz,YK];simp only[uF,wC,a1,a5];obtain⟨Q0,gX⟩:∃Q0:Exit->Act->aj->Prop,(fun e x w'=>e=.normal/\(x.tmps.size=34/\x.tmps.getD 1 ai=v1/\x.tmps.getD 5 ai=ay (ae ⟨pb,0,af⟩))/\w'=W)=Q0:=⟨_,rfl⟩;rw[gX];simp only[Uh,d15,au.gq,Tryz.f15,ik,if_true,kQ,kP];go_wp2
 rw[<-gX];exact⟨rfl,⟨rfl,rfl,rfl⟩,rfl⟩
def ax7(T:rO v1 pb i a):MZ.wp prog (fun e x w'=>e=.ret/\x.tmps.getD 4 ai=ay (ae ⟨pb,0,af⟩)/\w'=W) ⟨a,[]⟩ W:=by
 obtain⟨sz,a1,a5,a6⟩:=T;rw[Eu a,sz,YK];simp only[uF,wC,a1,a5,a6];obtain⟨Q0,gX⟩:∃Q0:Exit->Act->aj->Prop,(fun e x w'=>e=.ret/\x.tmps.getD 4 ai=ay (ae ⟨pb,0,af⟩)/\w'=W)=Q0:=⟨_,rfl⟩;rw[gX];simp only[MZ,d15,au.gq,Tryz.f15,ik,if_true];go_wp2
 rw[<-gX];exact⟨rfl,rfl,rfl⟩
def ax8{p q t k:Int}:Ug.wp prog (fun e x w'=>e=.normal/\(x.tmps.size=34/\x.tmps.getD 1 ai=v1/\x.tmps.getD 2 ai=ay (ae ⟨W.heap.size,0,af⟩))/\w'.heap[W.heap.size]? =ae (aC #[ag ah p,ag ah q,ag ah t,ag ah k] 23 (0,0))/\w'.heap.size=W.heap.size+1/\Fr aP W w') ⟨#[jg p q t k,v1]++Array.replicate (Tryz.f15.ntmps- #[jg p q t k,v1].size) ai,[]⟩ W:=by
 unfold jg;simp only[ntmps15,GK,oq,wB,Nat.reduceAdd,Nat.reduceSub,VQ,VP,VT,VR,xH,nP];obtain⟨Q0,gX⟩:∃Q0:Exit->Act->aj->Prop,(fun e x w'=>e=.normal/\(x.tmps.size=34/\x.tmps.getD 1 ai=v1/\x.tmps.getD 2 ai=ay (ae ⟨W.heap.size,0,af⟩))/\w'.heap[W.heap.size]? =ae (aC #[ag ah p,ag ah q,ag ah t,ag ah k] 23 (0,0))/\w'.heap.size=W.heap.size+1/\Fr aP W w')=Q0:=⟨_,rfl⟩;rw[gX];simp only[Ug,d15,au.gq,Tryz.f15,ik,kQ,kP];go_wp2
 rw[<-gX];exact⟨rfl,⟨rfl,rfl,rfl⟩,aDY _ _,by simp,bG _⟩
end
end
end Go.Proofs.YtkelpcjiediamaaGreat
