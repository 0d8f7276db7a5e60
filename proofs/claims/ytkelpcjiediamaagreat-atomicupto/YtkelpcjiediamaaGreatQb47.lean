import Derived.Test.YtkelpcjiediamaaGreatQb46
set_option maxRecDepth 100000
set_option maxHeartbeats 0
set_option linter.all false
namespace Go.Proofs.YtkelpcjiediamaaGreat
open Go renaming Calls→aK,Value→aj,World→ah
open Go.RowKit renaming intOf→dX
open Option renaming none→af,some→ae
open Go.Proofs.Tryz
open Go.RowKit Go.Maps
section
variable{w w' V:ah}{B pb xb N:Nat}{s s':dB}
def au7(a:bu w B pb xb N s)(hN:N<=90000000){q:Nat}{p:PL}(hp:s.h.pl[q]? =ae p):
 aK prog 57 #[.pointer<|ae ⟨xb,0,af⟩,.int .i64 q,.int .i64 0,.int .i64 1000] w fun e w'=>∃va,e=.returned (.tuple #[va,.int .i64 0])/\w'.ownsRow w.heap.size 94 3 va (p.s.aU 0 p.s.bZ).length (qi<|p.s.aU 0 p.s.bZ)/\Fr aH w w':=by
 have k:=a.pg.sn.dG q p hp;have:=k.eG;have h:=amg a.ha hp 0 1000 k.inv (by omega);rw[alU k.inv]at h;exact h
def dB.Jd(s:dB)(q:Nat)(p:PL)(u:aj):dB:=⟨s.h,s.L,{s.g with gt:=s.g.gt.set q<|p.s.aU 0 p.s.bZ,st:=s.g.st.set q p.s.bZ},{s.v with gs:=s.v.gs.set q u}⟩
def au8{gg gc sg sc q:Nat}{u:aj}{p:PL}(a:bu w B pb xb N s)(f:Fr aH w V)(hp:s.h.pl[q]? =ae p)(vk:s.v.gv=.slice (ae ⟨gg,0,af⟩) s.v.gs.length gc)(Ci:s.v.sv=.slice (ae ⟨sg,0,af⟩) s.g.st.length sc)(hu:V.ownsRow w.heap.size 94 3 u (p.s.aU 0 p.s.bZ).length (qi<|p.s.aU 0 p.s.bZ))(hB:B<=w.heap.size):
 bQ w ((V.setCell ⟨gg,q,af⟩ u).setCell ⟨sg,q,af⟩<|.int .i64 p.s.bZ) B pb xb s N (s.Jd q p u):=by
 have hq:q<s.v.gs.length:=by rw[a.pa.gl,a.pg.gl];exact(dD.1 hp).1
 obtain⟨b1,h1,f1,g1⟩:=aud (q:=q) (a.after f) vk (AX hu hB) hq;obtain⟨b2,h2,f2,g2⟩:=aue (q:=q) (m:=p.s.bZ) (g:={s.g with gt:=s.g.gt.set q<|p.s.aU 0 p.s.bZ}) h1 b1 Ci;have g2':s.dZ pb xb sg:=.inr (.inr<|.inr<|.inr<|.inr<|.inr<|.inl (by rw[Ci];rfl));refine⟨⟨h2,a.ax,b2,a.pg.looked hp,a.wr,a.fa⟩,((f.mono fun _ h=>h.elim).trans f1 fun k e=>.inl (by rw[e];exact g1)).trans f2 (fun k e=>.inl (by rw[e];exact g2')),fun k hk=>?_,rfl,rfl,rfl,rfl⟩;rcases hk with hk|hk|hk|hk|hk|hk|hk|⟨z,hz,hk⟩
 ·exact .inl<|.inl hk
 ·exact .inl<|.inr<|.inl hk
 ·exact .inl<|.inr<|.inr<|.inl hk
 ·exact .inl<|.inr<|.inr<|.inr<|.inl hk
 ·exact .inl<|.inr<|.inr<|.inr<|.inr<|.inl hk
 ·exact .inl<|.inr<|.inr<|.inr<|.inr<|.inr<|.inl hk
 ·exact .inl<|.inr<|.inr<|.inr<|.inr<|.inr<|.inr<|.inl hk
 ·have EX:z∈s.v.gs.set q u:=hz;rcases adD EX with EX|rfl
  ·exact .inl<|.inr<|.inr<|.inr<|.inr<|.inr<|.inr<|.inr ⟨z,EX,hk⟩
  ·exact .inr (hu.lt k hk).1
structure zh(s:dB)(q:Nat)(s':dB):Prop where
 h:s'.h=s.h
 L:s'.L=s.L
 wr:s'.g.wr=s.g.wr
 gt:∀(k:Nat) (p:PL),k<q->s.h.pl[k]? =ae p->s'.g.gt[k]? =ae (p.s.aU 0 p.s.bZ)
def aiN(s s':dB):Prop:=∃Q:Nat,s.h.Q=Q/\zh s Q s'
def zh.zero(s:dB):zh s 0 s:=⟨rfl,rfl,rfl,fun _ _ h=>by omega⟩
variable{q:Nat}{s1:dB}
def zh.fH(a:zh s q s1)(fa:List Fa)(fv:aj):zh s q (s1.fH fa fv):=⟨a.h,a.L,a.wr,a.gt⟩
def zh.Jd(a:zh s q s1){p:PL}(hp:s1.h.pl[q]? =ae p)(hl:q<s1.g.gt.length)(u:aj):zh s (q+1) (s1.Jd q p u):=⟨a.h,a.L,a.wr,fun k p' hk Am=>by
 by_cases e:k=q
 ·subst e;rw[a.h,Am]at hp;cases hp;exact mD hl
 ·exact(vz<|iI e).trans<|a.gt k p' (by omega) Am⟩
def aiO(a:bu w B pb xb N s)(hN:N<=80000000):aK prog 21 #[.pointer<|ae ⟨pb,0,af⟩] w (BD w B pb xb s (N+6)<|aiN s):=by
 have A:Hid (bu w B pb xb N s):=a;have fF:Hid (N<=80000000):=hN;obtain⟨Q,hQ⟩:=vw (show 0<=s.h.Q by have:=a.pg.sn.Q1;omega);obtain⟨P,hP⟩:=vw (show 0<=s.h.P by have:=a.pg.sn.P1;omega);have HQ:Hid (s.h.Q=Q):=hQ;have HP:Hid (s.h.P=P):=hP;have hQ4:Q<=4:=by have:=a.pg.sn.Q1.2;omega
 have Qp:P<=6:=by have:=a.pg.sn.P1.2;omega
 clear a hN hQ hP;go_enter func21,ntmps21
 go_wp2_with fail
 go_loopw [3] (fun i w'=>∃(q:Nat) (s':dB),q<=Q/\i=.int .i64 q/\bQ w w' B pb xb s N s'/\zh s q s') (fun i _=>Q-(dX i).toNat)
 case atStart=>exact⟨0,s,lK _,rfl,bQ.refl A.out,.zero s⟩
 case round=>
  obtain⟨q,s1,hq,rfl,t1,lk1⟩:=hrel
  have LK1:Hid (zh s q s1):=lk1
  clear lk1
  have T1:Hid (bQ w wr B pb xb s N s1):=t1
  obtain⟨c0,c1,c2,_,_,c7,c8,c9,Yy⟩:=t1.at_.cells
  rw[t1.cf.2.1,HQ.out]at c2
  rw[t1.cf.1,HP.out]at c1
  have aB:=aS t1.at_.pa.blk
  clear t1
  by_cases hlq:q<Q
  ·have aiQ:(q:Int)<(Q:Int):=by omega
   have qV:(0:Int)<=(q:Int):=by omega
   obtain⟨p,hp⟩:=T1.out.at_.q (q:=q) (by rw[T1.out.cf.2.1,HQ.out];omega)
   have xY:Hid (s1.h.pl[q]? =ae p):=hp
   clear hp
   go_wp2_with fail
   refine(RN T1.out.at_ (by have:=fF.out;omega) xY.out).mono ?_
   rintro e w1 ⟨va,vl,rfl,rM,bg⟩
   obtain⟨pa,pc,rfl⟩:=rM
   have F1:Hid (Fr aH wr w1):=bg
   have d0:=(bg.cell (p:=⟨pb,0,af⟩) aB id).trans c0
   have kz:pb<w1.heap.size:=dY aB bg.size
   clear bg
   go_wp2_with fail
   have ZW:Hid (∃W:ah,W=w1.alloc (.cells #[.bool p.out,.int .i64 p.s.es.length,.int .i64 p.s.bZ,.slice pa vl pc] 62)):=⟨_,rfl⟩
   obtain⟨W1,eW⟩:=ZW.out
   rw[<-eW]
   have gX:Hid (Fr aH wr W1):=by subst eW;exact F1.out.trans (aZ _) fun _ h=>h.elim
   have Y1:Hid (W1.heap[w1.heap.size]? =ae (.cells #[.bool p.out,.int .i64 p.s.es.length,.int .i64 p.s.bZ,.slice pa vl pc] 62 (0,0))):=by subst eW;exact aB0 _ _
   clear ZW eW d0 kz
   refine(au7 (T1.out.at_.after gX.out) (by have:=fF.out;omega) xY.out).mono ?_
   rintro e w2 ⟨u,rfl,hu,jB⟩
   obtain⟨ua,uc,rfl⟩:=YV hu
   obtain⟨rs,yA⟩:∃rs,rs=p.s.aU 0 p.s.bZ:=⟨_,rfl⟩
   rw[<-yA]at hu⊢
   have OD:Hid (rs=p.s.aU 0 p.s.bZ):=yA
   have U2:Hid (w2.ownsRow wr.heap.size 94 3 (.slice ua rs.length uc) rs.length<|qi rs):=AX hu gX.out.size
   have F2:Hid (Fr aH wr w2):=gX.out.trans jB fun _ h=>h.elim
   have Y2:Hid (w2.heap[w1.heap.size]? =ae (.cells #[.bool p.out,.int .i64 p.s.es.length,.int .i64 p.s.bZ,.slice pa vl pc] 62 (0,0))):=(jB.block _ (aS Y1.out) id).trans Y1.out
   have kX:Hid (bu w2 B pb xb N s1):=T1.out.at_.after F2.out
   clear hu jB yA
   have vV:q<s1.h.pl.length:=(dD.1 xY.out).1
   have LKS:Hid (zh s (q+1)<|s1.Jd q p<|.slice ua rs.length uc):=LK1.out.Jd xY.out (by rw[kX.out.pg.gl];exact vV) _
   obtain⟨s0,ab1,Aj,x8⟩:=kX.out.pg.aU q p xY.out
   have ab2:q<s1.v.gs.length:=by rw[kX.out.pa.gl,kX.out.pg.gl];exact vV
   obtain⟨gg,gc,vk,ab3,_⟩:=uO kX.out.pa.gt<|by omega
   have aAf:q<s1.g.st.length:=by rw[kX.out.pg.sl];exact vV
   obtain⟨sg,sc,Ci,aiS,_⟩:=uO kX.out.pa.st<|by omega
   have Xi:Hid (s1.v.gv=.slice (ae ⟨gg,0,af⟩) s1.v.gs.length gc):=vk
   have HSV:Hid (s1.v.sv=.slice (ae ⟨sg,0,af⟩) s1.g.st.length sc):=Ci
   obtain⟨uq,huq⟩:∃uq,s1.v.gs[q]? =ae uq:=⟨_,dR ab2⟩
   have UQ:Hid (w2.ownsRow B 94 3 uq (s0.aU 0 s0.bZ).length<|qi<|s0.aU 0 s0.bZ):=kX.out.pa.rc q uq _ huq Aj
   have e9:w2.cell? ⟨pb,9,af⟩=ae (.slice (ae ⟨gg,0,af⟩) s1.v.gs.length gc):=by rw[<-vk];exact kX.out.cells.2.2.2.2.2.2.2.1
   have e10:w2.cell? ⟨pb,10,af⟩=ae (.slice (ae ⟨sg,0,af⟩) s1.g.st.length sc):=by rw[<-Ci];exact kX.out.cells.2.2.2.2.2.2.2.2
   have eg:w2.cell? ⟨gg,q,af⟩=ae uq:=by
    have hr:=kX.out.pa.gt;rw[vk]at hr;rw[hr.cellAt q<|by omega];exact huq
   have es:w2.cell? ⟨sg,q,af⟩=ae (.int .i64 s0.bZ):=by
    have hr:=kX.out.pa.st;rw[Ci]at hr;exact zO (l:=s1.g.st.map Int.ofNat) (by rw[Ib];exact hr) (by rw[adK,x8];rfl)
   have efg:w2.frozen? ⟨gg,q,af⟩=false:=by
    have hr:=kX.out.pa.gt;rw[vk]at hr;exact hr.frozenAt q
   have efs:w2.frozen? ⟨sg,q,af⟩=false:=by
    have hr:=kX.out.pa.st;rw[Ci]at hr;exact hr.frozenAt q
   have aAg:(q:Int)<(s1.v.gs.length:Int):=by omega
   have aAh:(q:Int)<(s1.g.st.length:Int):=by omega
   obtain⟨tl,Uf⟩:=ab1.aU
   have BEG:Hid (aK prog 58 #[uq,.slice ua rs.length uc] w2 fun e w'=>e=.returned (.bool true)/\∃n,w'=w2.drewN n):=by
    have h2:=ad7 U2.out;rw[OD.out,Uf]at h2;have:=au5 (ad7 UQ.out) h2;rw[OD.out,Uf];exact this
   have au9:(s0.bZ:Int)<=(p.s.bZ:Int):=by have:=ab1.bZ;omega
   have zu:pb<w2.heap.size:=aS kX.out.pa.blk
   have y2:w2.cell? ⟨w1.heap.size,2,af⟩=ae (.int .i64 p.s.bZ):=aG Y2.out 2
   have qU:w1.heap.size<w2.heap.size:=aS Y2.out
   clear ab1 Aj x8 vk Ci Uf huq c9 Yy
   go_wp2_with fail
   refine BEG.out.mono ?_
   rintro e W3 ⟨rfl,n3,Xj⟩
   have F3:Hid (Fr aH w2 W3):=by rw[Xj];exact(Fr.refl _ _).drewN n3
   have x9:=(F3.out.cell (p:=⟨pb,9,af⟩) zu id).trans e9
   have Yz:=(F3.out.cell (p:=⟨pb,10,af⟩) zu id).trans e10
   have xg:=(F3.out.cell (p:=⟨gg,q,af⟩) ab3 id).trans eg
   have xs:=(F3.out.cell (p:=⟨sg,q,af⟩) aiS id).trans es
   have xy:=(F3.out.cell (p:=⟨w1.heap.size,2,af⟩) qU id).trans y2
   have xfg:W3.frozen? ⟨gg,q,af⟩=false:=by rw[Xj];simpa using efg
   have xfs:W3.frozen? ⟨sg,q,af⟩=false:=by rw[Xj];simpa using efs
   have hsd:decide ((p.s.bZ:Int)<(s0.bZ:Int))=false:=qC<|by omega
   have hsn:decide (p.s.bZ<s0.bZ)=false:=qC<|by omega
   have Pv:pb<W3.heap.size:=dY zu F3.out.size
   have aAi:gg<W3.heap.size:=dY ab3 F3.out.size
   have avc:sg<W3.heap.size:=dY aiS F3.out.size
   have avd:w1.heap.size<W3.heap.size:=dY qU F3.out.size
   clear Xj e9 e10 eg es y2 efg efs BEG au9
   go_wp2_with fail
   go_quiet (fail)
   go_wp2_with fail
   have ZW:Hid (∃W:ah,W=(W3.drewN nq).setCell ⟨gg,q,af⟩ (.slice ua rs.length uc)):=⟨_,rfl⟩
   obtain⟨W4,eW⟩:=ZW.out
   rw[<-eW]
   have tu:gg≠sg:=fun e=>by
    have h1:=ig kX.out.pa.gt (k:=gg) (by rw[Xi.out];rfl);have h2:=ig kX.out.pa.st (k:=sg) (by rw[HSV.out];rfl);rw[e,h2]at h1;exact absurd h1<|by decide
   have hgp:gg≠pb:=fun e=>by
    have h1:=ig kX.out.pa.gt (k:=gg) (by rw[Xi.out];rfl);rw[e,lD kX.out.pa.blk]at h1;exact absurd h1<|by decide
   have hgb:gg≠w1.heap.size:=fun e=>by
    have h1:=ig kX.out.pa.gt (k:=gg) (by rw[Xi.out];rfl);rw[e,lD Y2.out]at h1;exact absurd h1<|by decide
   have F4:Hid (Fr (fun k=>k=gg) W3 W4):=by rw[eW];exact Fr.setCell (S:=fun k=>k=gg) (p:=⟨gg,q,af⟩) (((Fr.refl (fun _=>False) _).drewN nq).mono fun _ h=>h.elim) (.inl rfl) _
   have v10:=(F4.out.cell (p:=⟨pb,10,af⟩) Pv fun e=>hgp e.symm).trans Yz
   have vs:=(F4.out.cell (p:=⟨sg,q,af⟩) avc fun e=>tu e.symm).trans xs
   have vy:=(F4.out.cell (p:=⟨w1.heap.size,2,af⟩) avd fun e=>hgb e.symm).trans xy
   have vfs:W4.frozen? ⟨sg,q,af⟩=false:=by
    have hr:=kX.out.pa.st;rw[HSV.out]at hr;exact((F4.out.mono fun k h=>.inl h).ownsRow (F3.out.ownsRow hr fun _ _=>id) fun k hk e=>tu (by rw[<-e];simpa[Value.ownBlock]using hk.symm)).frozenAt q
   have E4:Hid (∃m,W4=(W3.drewN m).setCell ⟨gg,q,af⟩ (.slice ua rs.length uc)):=⟨nq,eW⟩
   clear ZW eW x9 Yz xg xs xy xfg xfs hsd hsn
   go_region
   have ZW:Hid (∃W:ah,W=(W4.setCell ⟨sg,q,af⟩<|.int .i64 p.s.bZ).drew):=⟨_,rfl⟩
   obtain⟨W5,eW⟩:=ZW.out
   rw[<-eW]
   have T5:Hid (bQ wr W5 B pb xb s1 N<|s1.Jd q p<|.slice ua rs.length uc):=by
    obtain⟨m,e4⟩:=E4.out;have fV:Fr aH wr (W3.drewN m):=(F2.out.trans F3.out fun _ h=>h.elim).trans ((Fr.refl (fun _=>False) _).drewN m) fun _ h=>h.elim;have hu:=((Fr.refl (fun _=>False) W3).drewN m).ownsRow (F3.out.ownsRow U2.out fun _ _=>id) fun _ _=>id;rw[OD.out]at hu e4;have:=au8 T1.out.at_ fV xY.out Xi.out HSV.out hu<|YO<|YF T1.out.at_.pa.hb<|aS T1.out.at_.pa.blk;rw[<-e4]at this;rw[eW,OD.out];exact this.after<|(Fr.refl _ _).drew
   clear ZW eW v10 vs vy vfs E4 F4 tu hgp hgb
   obtain⟨rest,BP⟩:=T5.out.at_.pg.atF xY.out
   have ab6:Hid ((oG s1.g.fa q s1.g.wr).map (fun w=>(w.p,w.s))=rs.map (fun r=>(r.p,r.s))++rest):=by
    show _=rs.map _++rest;rw[OD.out];exact BP
   obtain⟨z0,z1,z2,_,_,z7,z8,_,_⟩:=T5.out.at_.cells
   obtain⟨wa,wc,hwv,hwm⟩:=oL T5.out.at_.pa.wr
   have HWV:Hid (W5.ownsRow B 66 4 (.slice wa s1.g.wr.length wc) s1.g.wr.length<|s1.g.wr.flatMap Wn.cs):=by have:=T5.out.at_.pa.wr;rw[hwv]at this;exact this
   have z7':W5.cell? ⟨pb,7,af⟩=ae (.slice wa s1.g.wr.length wc):=z7.trans<|eP ae hwv
   have HFR:Hid (W5.ownsRow B 114 3 s1.v.fv s1.g.fa.length<|s1.g.fa.flatMap Fa.cs):=T5.out.at_.pa.fa
   have HU5:Hid (W5.ownsRow B 94 3 (.slice ua rs.length uc) rs.length<|qi rs):=by
    have:=T5.out.at_.pa.rc q (.slice ua rs.length uc) (p.s.aU 0 p.s.bZ) (mD ab2) (mD (by rw[<-kX.out.pa.gl];exact ab2));rw[<-OD.out]at this;exact this
   have GM:=aS T5.out.at_.pa.blk
   have X7:(s1.g.wr.length:Int)<=80000000:=by have:=T1.out.at_.wr;have:=fF.out;omega
   have Td:(rs.length:Int)<=100000000:=by
    have h1:=aiM ab6.out;have h2:(oG s1.g.fa q s1.g.wr).length<=s1.g.wr.length:=Fj _ _;omega
   clear BP hwv z7 z1 z2 hwm
   go_wp2_with fail
   go_loopw [9,10] (fun av kv w'=>∃kk:Nat,kk<=s1.g.wr.length/\av=.int .i64 (oG s1.g.fa q<|s1.g.wr.take kk).length/\kv=.int .i64 kk/\Fr aH W5 w') (fun _ kv _=>s1.g.wr.length-(dX kv).toNat)
   case atStart=>exact⟨0,lK _,rfl,rfl,Fr.refl _ _⟩
   case round=>
    obtain⟨kk,uu,rfl,rfl,dA⟩:=hrel
    have FR:Hid (Fr aH W5 wr):=dA
    have y0:=(dA.cell (p:=⟨pb,0,af⟩) GM id).trans z0
    have y7:=(dA.cell (p:=⟨pb,7,af⟩) GM id).trans z7'
    have y8:=(dA.cell (p:=⟨pb,8,af⟩) GM id).trans z8
    have RS:pb<wr.heap.size:=dY GM dA.size
    have h4:(oG s1.g.fa q<|s1.g.wr.take kk).length<=kk:=dP (Fj _ _) (by rw[JK];omega)
    generalize dM:(oG s1.g.fa q<|s1.g.wr.take kk).length=av at h4⊢
    have Ui:Hid ((oG s1.g.fa q<|s1.g.wr.take kk).length=av):=dM
    clear dA dM
    by_cases h1:kk<s1.g.wr.length
    ·by_cases h2:av<rs.length
     ·have h1i:(kk:Int)<(s1.g.wr.length:Int):=by omega
      have h2i:(av:Int)<(rs.length:Int):=by omega
      have sV:(0:Int)<=(kk:Int):=by omega
      have ha0:(0:Int)<=(av:Int):=by omega
      obtain⟨x,hx⟩:∃x,s1.g.wr[kk]? =ae x:=⟨_,dR h1⟩
      have HX:Hid (s1.g.wr[kk]? =ae x):=hx
      have bY:=FR.out.ownsRow HWV.out fun _ _=>id
      obtain⟨wg,avi,hv,bH,_⟩:=uO bY<|by omega
      simp only[aB7]at hv
      obtain⟨rfl,_,rfl⟩:=hv
      have r0:wr.cell? ⟨wg,kk*4,af⟩=ae (.int .i64 x.q):=BC Wn.len bY hx (j:=0) rfl
      have r1:wr.cell? ⟨wg,kk*4+1,af⟩=ae (.int .i64 x.p):=BC Wn.len bY hx (j:=1) rfl
      have r2:wr.cell? ⟨wg,kk*4+2,af⟩=ae (.int .i64 x.t):=BC Wn.len bY hx (j:=2) rfl
      have r3:wr.cell? ⟨wg,kk*4+3,af⟩=ae (.string x.s):=BC Wn.len bY hx (j:=3) rfl
      obtain⟨r,hr⟩:∃r,rs[av]? =ae r:=⟨_,dR h2⟩
      have HR:Hid (rs[av]? =ae r):=hr
      have YA:=FR.out.ownsRow HU5.out fun _ _=>id
      obtain⟨rg,YY,DL,hrg,_⟩:=uO YA<|by omega
      simp only[aB7]at DL
      obtain⟨rfl,_,rfl⟩:=DL
      have q1:wr.cell? ⟨rg,av*3+1,af⟩=ae (.int .i64 r.p):=BC (cs:=Rec.cs) (fun _=>rfl) YA hr (j:=1) rfl
      have q2:wr.cell? ⟨rg,av*3+2,af⟩=ae (.string r.s):=BC (cs:=Rec.cs) (fun _=>rfl) YA hr (j:=2) rfl
      have Ee:Hid (oG s1.g.fa q (s1.g.wr.take<|kk+1)=oG s1.g.fa q (s1.g.wr.take kk)++if x.q=(q:Int)/\iE s1.g.fa x.p x.t=1 then[x]else[]):=by
       show oG s1.g.fa q (s1.g.wr.take<|kk+1)=_;rw[zK,hx,Ea,aiL]
      clear hx hr bY YA
      go_wp2_with fail
      refine(WS (B:=B) (fs:=s1.g.fa) (v:=s1.v.fv) ((FR.out.trans (aZ _) fun _ h=>h.elim).ownsRow HFR.out fun _ _=>id) (((aZ _).cell (p:=⟨pb,8,af⟩) RS id).trans y8) _ _).mono ?_
      rintro e w6 ⟨rfl,rfl⟩
      generalize AO:iE s1.g.fa x.p x.t=f0
      have EF:Hid (iE s1.g.fa x.p x.t=f0):=AO
      clear AO
      by_cases e1:x.q=(q:Int)
      ·have e1':(x.q==(q:Int))=true:=by simpa using e1
       by_cases e2:f0=1
       ·obtain⟨m1,m2⟩:=au6 ab6.out HX.out ⟨e1,by rw[EF.out];exact e2⟩ (by rw[Ui.out];exact HR.out)
        rw[m1]at q1
        rw[m2]at q2
        have HL:Hid ((oG s1.g.fa q<|s1.g.wr.take<|kk+1).length=av+1):=by
         show _=av+1;rw[Ee.out,if_pos ⟨e1,by rw[EF.out];exact e2⟩,iQ,Ui.out];rfl
        subst e2
        clear m1 m2 Ee
        go_wp2_with fail
        go_quiet (fail)
        go_wp2_with fail
        go_roundw
        case rel=>exact⟨kk+1,by omega,by rw[HL.out];go_num,by go_num,FR.out.trans ((aZ _).drewN _) fun _ h=>h.elim⟩
        case measure=>simp[dX]<;>omega
       ·have e2':(f0==1)=false:=by simpa using e2
        have HL:Hid ((oG s1.g.fa q<|s1.g.wr.take<|kk+1).length=av):=by
         show _=av;rw[Ee.out,if_neg (fun z=>e2 (by rw[<-EF.out];exact z.2)),qh,Ui.out]
        clear Ee e2 e1
        go_wp2_with fail
        go_roundw
        case rel=>exact⟨kk+1,by omega,by rw[HL.out],by go_num,FR.out.trans (aZ _) fun _ h=>h.elim⟩
        case measure=>simp[dX]<;>omega
      ·have e1':(x.q==(q:Int))=false:=by simpa using e1
       have HL:Hid ((oG s1.g.fa q<|s1.g.wr.take<|kk+1).length=av):=by
        show _=av;rw[Ee.out,if_neg fun z=>e1 z.1,qh,Ui.out]
       clear Ee e1
       go_wp2_with fail
       go_roundw
       case rel=>exact⟨kk+1,by omega,by rw[HL.out],by go_num,FR.out.trans (aZ _) fun _ h=>h.elim⟩
       case measure=>simp[dX]<;>omega
     ·have TE:Hid (bQ w wr B pb xb s N<|s1.Jd q p<|.slice ua rs.length uc):=(T1.out.trans T5.out).after FR.out
      go_wp2_with fail
      exact⟨⟨q+1,_,by omega,by go_num,TE.out,LKS.out⟩,by simp[dX]<;>omega⟩
    ·have TE:Hid (bQ w wr B pb xb s N<|s1.Jd q p<|.slice ua rs.length uc):=(T1.out.trans T5.out).after FR.out
     have h2:¬av<rs.length:=by
      have h3:=aiM ab6.out;have h5:=Ui.out;rw[D8<|by omega]at h5;omega
     go_wp2_with fail
     exact⟨⟨q+1,_,by omega,by go_num,TE.out,LKS.out⟩,by simp[dX]<;>omega⟩
  ·clear c0 c7 c8 c9 Yy
   go_wp2_with fail
   go_loopw [13] (fun nv w'=>∃(n:Nat) (s':dB),n<=P/\nv=.int .i64 n/\bQ w w' B pb xb s (N+n) s'/\zh s Q s') (fun nv _=>P-(dX nv).toNat)
   case atStart=>exact⟨0,s1,lK _,rfl,T1.out,(by omega:q=Q)▸LK1.out⟩
   case round=>
    clear T1 c1 c2 aB hlq hq
    obtain⟨n,s2,hn,rfl,t2,lk2⟩:=hrel
    have LK2:Hid (zh s Q s2):=lk2
    clear lk2 LK1
    have T2:Hid (bQ w wr B pb xb s (N+n) s2):=t2
    obtain⟨_,c1,_,_,_,_⟩:=t2.at_.cells
    rw[t2.cf.1,HP.out]at c1
    have aB:=aS t2.at_.pa.blk
    clear t2
    by_cases C9:n<P
    ·have ab8:(n:Int)<(P:Int):=by omega
     go_wp2_with fail
     cases hu:s2.h.up with
     |true=>
      obtain⟨x,hx⟩:=T2.out.at_.ps (i:=n) (by rw[T2.out.cf.1,HP.out];exact ab8)
      refine(Ja T2.out.at_ (by have:=fF.out;omega) (by rw[T2.out.cf.1,HP.out];exact ab8) hu hx).mono ?_
      rintro e w3 ⟨n1,n2,t3⟩
      rename_i va vb fv3 fa3
      obtain⟨ca,cc,rfl,_⟩:=lC n1
      obtain⟨da,dc,rfl,_⟩:=lC n2
      have T3:Hid (bQ w w3 B pb xb s (N+n+1)<|s2.fH fa3 fv3):=T2.out.trans t3
      generalize(bF x.aT 1 4).length=m1
      generalize(bF x.aT 2 4).length=m2
      clear n1 n2 t3 hx
      go_wp2_with fail
      go_roundw
      case rel=>exact⟨n+1,_,by omega,by go_num,T3.out.after<|aZ _,LK2.out.fH _ _⟩
      case measure=>simp[dX]<;>omega
     |false=>
      refine(Ov T2.out.at_ (by rw[T2.out.cf.1,HP.out];exact ab8) hu).mono ?_
      rintro e w3 ⟨rfl,lG⟩
      have T3:Hid (bQ w w3 B pb xb s (N+n+1) s2):=(T2.out.after lG).mono<|by omega
      clear lG
      go_wp2_with fail
      go_roundw
      case rel=>exact⟨n+1,_,by omega,by go_num,T3.out.after<|aZ _,LK2.out⟩
      case measure=>simp[dX]<;>omega
    ·go_wp2
     go_ret
     exact⟨rfl,s2,T2.out.mono<|by omega,Q,HQ.out,LK2.out⟩
def avk(a:bu w B pb xb N s)(hN:N<=80000000):aK prog 21 #[.pointer<|ae ⟨pb,0,af⟩] w (jZ w B pb xb s<|N+6):=(aiO a hN).mono fun _ _ d=>d.done
end
end Go.Proofs.YtkelpcjiediamaaGreat
