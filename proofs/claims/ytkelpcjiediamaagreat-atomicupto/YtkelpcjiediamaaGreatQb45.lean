import Derived.Test.YtkelpcjiediamaaGreatQb44
set_option maxRecDepth 100000
set_option maxHeartbeats 0
set_option linter.all false
namespace Go.Proofs.YtkelpcjiediamaaGreat
open Go renaming Calls→aK,TypeId→bW,Value→aj,World→ah,maxLen→dH,undef→ag
open Option renaming none→af,some→ae
open Go.Proofs.Tryz
open Go.RowKit Go.Maps
section
section
variable{N:Nat}{h:HS}{L:List Rc}{g:PG}
variable{q:Nat}{p:PL}
def Sn.aut(c:Sn N h L)(hu:h.up=true)(hz:∀(i:Nat) (x:PS),(i:Int)<h.P->h.ps[i]? =ae x->x.s=0)(hp:h.pl[q]? =ae p)(i t:Int):p.s.nw i≠ae (t,true):=fun e=>by
 obtain⟨h1,h2,h3,_⟩:=c.opn q p hp i t e;have hP:=c.P1;have hl:i.toNat<h.ps.length:=by rw[c.h6];omega
 have hx:=dR hl;have:=hz i.toNat _ (by omega) hx;have k:=(c.up hu i.toNat _ hx).k.s;rw[show((i.toNat:Nat):Int)=i by omega]at k;omega
def auu{s:aA}(qc:∀i t,s.nw i≠ae (t,true)):s.bZ=s.es.length:=by
 unfold aA.bZ;refine List.findIdx_eq_length.2 fun e _=>?_;simp[aA.blocked,PQ.2<|qc e.p e.t]
def Pg.count(c:Pg N h L g)(hp:h.pl[q]? =ae p)(bU:p.s.bZ=p.s.es.length):(p.s.aU 0 p.s.bZ).length=(g.wr.filter fun w=>decide (w.q=(q:Int))&&decide (iE g.fa w.p w.t=1)).length:=by
 have:=eP List.length<|c.ah7 hp;rw[bU,List.drop_length]at this;simp at this;rw[bU,<-this]
end
end
section
section
variable{P Q T K:Int}{pv:aj}{pl:List PL}
def aix(hg:Good P Q T K)(hn:∀p∈pl,p.s=qG/\p.out=false):Sn 0 (xC P Q T K pv pl).xB []:=by
 have lg:∀(q:Nat) (p:PL),(xC P Q T K pv pl).xB.pl[q]? =ae p->p.s=qG:=fun q p hp=>(hn p<|fD hp).1;have ps:∀(i:Nat) (x:PS),(xC P Q T K pv pl).xB.ps[i]? =ae x->x=oQ:=fun i x hx=>by
  have xq:vF[i]? =ae x:=hx;match i,xq with
  |0,h|1,h|2,h|3,h|4,h|5,h=>simpa[vF]using h.symm
  |i+6,h=>simp[vF]at h
 refine⟨hg.1,hg.2.1,hg.2.2.1,hg.2.2.2,rfl,.nil,bV _,rfl,rfl,⟨by show(0:Int)<=0;decide,by show(0:Int)<=16;decide⟩,fun q p hp i t hw=>?_,fun q p hp=>?_,fun m hm=>?_,fun m hm=>?_,(by show 0<=100;decide),fun _ i x hx=>?_,fun h=>?_⟩
 ·rw[lg q p hp]at hw;cases hw
 ·rw[lg q p hp];exact⟨alP,fun e he=>(by cases he),bV _⟩
 ·cases hm
 ·cases hm
 ·rw[ps i x hx];refine⟨⟨rfl,rfl,rfl,fun _=>⟨rfl,rfl,rfl,rfl⟩,fun h=>absurd rfl h,fun q=>?_⟩,⟨⟨by decide,by decide,fun _=>?_⟩,by decide,by decide,fun h=>absurd h<|by decide⟩,⟨fun h=>absurd h<|by decide,fun h=>absurd h<|by decide⟩⟩
  ·have:oQ.aT.getD q 0=0:=by
    match q with
    |0|1|2|3=>rfl
    |q+4=>rfl
   rw[this];decide
  ·show(0:Int)<T;have:=hg.2.2.1.1;omega
 ·cases h
structure Mk(n:Nat)(h:HS)(L:List Rc):Prop where
 sn:Sn n h L
 up:h.up=true
 fl:h.fl=[]
 idle:∀(i:Nat) (x:PS),h.ps[i]? =ae x->x.s=0
 one:∀(i:Nat),i<n->(aY L i).e=1
 zero:∀(i:Nat),n<=i->(aY L i).e=0
 dG:∀p∈h.pl,p.s=qG/\p.out=false
 no:∀p t b,¬fM L p t b
def auv(hg:Good P Q T K)(hn:∀p∈pl,p.s=qG/\p.out=false):Mk 0 (xC P Q T K pv pl).xB []:=
 ⟨aix hg hn,rfl,rfl,fun i x hx=>by
  have k:=((aix (pv:=pv) hg hn).up rfl i x hx).k.s;exact k,fun _ h=>by omega,fun _ _=>rfl,hn,fun _ _ _ ⟨_,hr,_⟩=>by cases hr⟩
def Mk.step{n:Nat}{h h':HS}{L:List Rc}{w w':ah}{B xb:Nat}{x:PS}(k:Mk n h L)(hx:h.ps[n]? =ae x)(en:wX w w' B xb n h L ⟨1,n,0,x.e+1⟩ h'):Mk (n+1) h' (L++[⟨1,n,0,x.e+1⟩]):=by
 have e0:x.e=0:=by rw[((k.sn.up k.up n x hx).k).e,k.zero n<|bV _]
 have st:∀i:Nat,(aY (L++[⟨1,n,0,x.e+1⟩]) i).e=if i=n then 1 else(aY L i).e:=fun i=>by
  rw[xE];by_cases e:i=n
  ·subst e;simp[St.step,e0]
  ·rw[St.FM _ (by show(n:Int)≠i;omega),if_neg e]
 have wo:=en.wo;refine⟨en.sn,en.up.trans k.up,?_,fun i y hy=>?_,fun i hi=>?_,fun i hi=>?_,by rw[en.pl];exact k.dG,fun p t b d=>?_⟩
 ·cases wo;exact k.fl
 ·by_cases e:i=n
  ·subst e;rw[U0 hx rfl wo]at hy;cases hy;have:=k.idle _ _ hx;simp[PS.bJ,this]
  ·rw[(pX.wrote (i:=n) rfl wo).ot i e]at hy;exact k.idle i y hy
 ·rw[st];split
  ·rfl
  ·exact k.one i<|by omega
 ·rw[st,if_neg<|by omega];exact k.zero i<|by omega
 ·rcases d.CS with d|⟨h3,_⟩
  ·exact k.no p t b d
  ·cases h3
def oD(n q:Nat):PG:=⟨List.replicate n 1,false,[],[],List.replicate q [],List.replicate q 0⟩
def Mk.pg{n q:Nat}{h:HS}{L:List Rc}(k:Mk n h L)(hP:h.P=n)(hQ:h.pl.length=q):Pg n h L (oD n q):=by
 have lg:∀(j:Nat) (p:PL),h.pl[j]? =ae p->p.s=qG:=fun j p hp=>(k.dG p<|fD hp).1;refine⟨k.sn,by simp[oD,hP],fun i e he=>?_,by rw[k.up];rfl,fun j p hp=>?_,fun f hf=>?_,fun p t d=>absurd d<|k.no p t true,by simp[oD,hQ],by simp[oD,hQ],fun j p hp=>?_⟩
 ·have hl:i<n:=by
   have:=(dD.1 he).1;simpa[oD]using this
  have:e=1:=by
   have:=fD he;exact ala this
  subst this;exact⟨(k.one i hl).symm,by decide⟩
 ·rw[lg j p hp];rfl
 ·cases hf
 ·have hl:j<q:=by rw[<-hQ];exact(dD.1 hp).1
  rw[lg j p hp];refine⟨qG,.refl _,?_,?_⟩
  ·simp[oD,hl,aA.aU,qG,aA.bZ]
  ·simp[oD,hl,qG,aA.bZ]
end
end
section
noncomputable def d47:Code:=Tryz.f47.body.getD .skip
def Dw:List Bool:=[true,true,true,true]
noncomputable def Dx:Code:=ai.gK Dw d47
def auw:ai.codeOk prog ai.mZ (ai.pY Dw d47)=true:=by kernel_rfl
def auy:(prog.info? 67).map (fun i=>(i.zero,i.size,i.bytes))=ae (ae<|.slice af 0 0,1,24):=by kernel_rfl
def auz(w:ah)(p:Nat)(hp:p<=6):(Instr.makeSlice 46 (.int .i64 (p:Int))<|.int .i64 (p:Int)).run prog w=.ok (.slice (ae ⟨w.heap.size,0,af⟩) p p) (w.alloc<|.cells (madeCells #[.slice af 0 0] p) 67):=
 run_make_row' 46 67 (.slice af 0 0) 24 underlying46 auy rfl .i64 .i64 p (by omega) (by omega) w
def aiA(w:ah){B p:Nat}(hB:B<=w.heap.size)(hp:p<=6):(w.alloc<|.cells (madeCells #[.slice af 0 0] p) 67).ownsRow B 67 1 (.slice (ae ⟨w.heap.size,0,af⟩) p p) (List.replicate p<|Value.slice af 0 0).length (List.replicate p<|Value.slice af 0 0):=by
 have:=aDe w (base:=B) (e:=67) (size:=1) (madeCells #[.slice af 0 0] p) p hB (by simp only[dH];omega) (by simp[size_madeCells]);rw[aDp]at this;simpa using this
structure WY(cb xb pb:Nat)(a:Array aj):Prop where
 sz:a.size=101
 a1:a.getD 1 ag=.pointer (ae ⟨cb,0,af⟩)
 a3:a.getD 3 ag=.pointer (ae ⟨xb,0,af⟩)
 a5:a.getD 5 ag=.pointer (ae ⟨pb,0,af⟩)
def RJ(g s q:Nat):PV:=⟨.slice af 0 0,.slice af 0 0,.slice af 0 0,.slice (ae ⟨g,0,af⟩) q q,.slice (ae ⟨s,0,af⟩) q q,List.replicate q<|.slice af 0 0⟩
def auA{W:ah}{B pb xb g s q:Nat}{h:HS}(hb:W.heap[pb]? =ae (.cells #[.pointer<|ae ⟨xb,0,af⟩,.int .i64 h.P,.int .i64 h.Q,.int .i64 h.T,.int .i64 h.K,.slice af 0 0,.bool false,.slice af 0 0,.slice af 0 0,.slice (ae ⟨g,0,af⟩) q q,.slice (ae ⟨s,0,af⟩) q q] 48 (0,0)))
 (h1:W.ownsRow B 67 1 (.slice (ae ⟨g,0,af⟩) q q) (List.replicate q<|Value.slice af 0 0).length (List.replicate q<|Value.slice af 0 0))(h2:W.ownsRow B 3 1 (.slice (ae ⟨s,0,af⟩) q q) (List.replicate q (0:Int)).length (fK<|List.replicate q 0))(hB:B<=pb):gU W B pb xb h (oD 0 q) (RJ g s q):=by
 refine⟨hb,aCb _ _ _ _,aCb _ _ _ _,aCb _ _ _ _,h1,by simp[RJ,oD],fun j u l hu hl=>?_,?_,fun k hk=>by simp[RJ,Value.ownBlock]at hk,hB⟩
 ·have e1:=ala<|fD hu;have e2:=ala<|fD hl;rw[e1,e2];exact aCb _ _ _ _
 ·simpa[RJ,oD]using h2
structure Started(w w':ah)(p q t k:Nat)(cb xb pb:Nat)(h:HS)(v:PV):Prop where
 Oz:w'.heap[cb]? =ae (.cells #[.int .i64 p,.int .i64 q,.int .i64 t,.int .i64 k] 23 (0,0))
 lt:cb<w.heap.size+1
 ha:ay w' (w.heap.size+1) xb 0 h
 ax:iC h.pl
 vW:Mk 0 h []
 cf:h.P=p/\h.Q=q/\h.T=t/\h.K=k
 pa:gU w' (w.heap.size+1) pb xb h (oD 0 q) v
 fr:Fr aH w w'
variable{w:ah}{p q t k:Nat}
def aiB{w1 W:ah}{xb pb g s:Nat}{pv:aj}{pl:List PL}(hg:Good p q t k)(hx:ay w1 (w.heap.size+1) xb 0 (xC p q t k pv pl).xB/\(∀p∈pl,p.s=qG/\p.out=false)/\iC pl)(hf:Fr aH w w1)(hb:w1.heap[w.heap.size]? =ae (.cells #[.int .i64 p,.int .i64 q,.int .i64 t,.int .i64 k] 23 (0,0)))(f:Fr aH w1 W)
 (blk:W.heap[pb]? =ae (.cells #[.pointer<|ae ⟨xb,0,af⟩,.int .i64 p,.int .i64 q,.int .i64 t,.int .i64 k,.slice af 0 0,.bool false,.slice af 0 0,.slice af 0 0,.slice (ae ⟨g,0,af⟩) q q,.slice (ae ⟨s,0,af⟩) q q] 48 (0,0)))
 (h1:W.ownsRow (w.heap.size+1) 67 1 (.slice (ae ⟨g,0,af⟩) q q) (List.replicate q<|Value.slice af 0 0).length (List.replicate q<|Value.slice af 0 0))(h2:W.ownsRow (w.heap.size+1) 3 1 (.slice (ae ⟨s,0,af⟩) q q) (List.replicate q (0:Int)).length (fK<|List.replicate q 0))(hB:w.heap.size+1<=pb):
 Started w W p q t k w.heap.size xb pb (xC p q t k pv pl).xB (RJ g s q):=
 ⟨(f.block _ (aS hb) id).trans hb,by omega,hx.1.after f,hx.2.2,auv hg hx.2.1,⟨rfl,rfl,rfl,rfl⟩,auA blk h1 h2 hB,hf.trans f fun _ h=>h.elim⟩
def auB(hg:Good p q t k):
 (ai.pY Dw d47).wp prog (fun e x w'=>e=.ret/\∃xb pb h v,WY w.heap.size xb pb x.tmps/\Started w w' p q t k w.heap.size xb pb h v) {tmps:=#[iK p q t k]++Array.replicate (Tryz.f47.ntmps- #[iK p q t k].size) ag,defers:=[]} w:=by
 have HG:Hid (Good p q t k):=hg;have qy:=fun w=>auz w q (by have:=hg.2.1.2;omega);have DK:=fun w=>amB w q (by have:=hg.2.1.2;omega);have HQ:Hid (q<=6):=by have:=hg.2.1.2;show q<=6;omega
 clear hg;have HNW:Hid (∀V,aK prog 31 #[iK p q t k] V fun r w'=>∃xb pv pl,r=.returned (.tuple #[ptr xb,.int .i64 0])/\ay w' V.heap.size xb 0 (xC p q t k pv pl).xB/\(∀p∈pl,p.s=qG/\p.out=false)/\iC pl/\Fr aH V w'):=fun V=>amv V HG.out;unfold iK at HNW⊢
 simp only[ntmps47,Fv,ny,vC,Nat.reduceAdd,Nat.reduceSub,Uy,Ux,UB,Uz,wI,mV];obtain⟨Q0,iT⟩:∃Q0:Exit->Act->ah->Prop,(fun e x w'=>e=.ret/\∃xb pb h v,WY w.heap.size xb pb x.tmps/\Started w w' p q t k w.heap.size xb pb h v)=Q0:=⟨_,rfl⟩;rw[iT];simp only[Dw,d47,Tryz.f47,gQ,ai.pY,ai.Dv,if_true];go_wp2_with fail
 have ZW:Hid (∃W:ah,W=w.alloc (.cells #[.int .i64 p,.int .i64 q,.int .i64 t,.int .i64 k] 23)):=⟨_,rfl⟩;obtain⟨W1,eW⟩:=ZW.out;rw[<-eW];have gX:Hid (Fr aH w W1/\W1.heap.size=w.heap.size+1):=by subst eW;exact⟨aZ _,by simp⟩
 have BX:Hid (W1.heap[w.heap.size]? =ae (.cells #[.int .i64 p,.int .i64 q,.int .i64 t,.int .i64 k] 23 (0,0))):=by subst eW;exact aB0 _ _
 clear ZW eW;refine(HNW.out W1).mono ?_;rintro e w1 ⟨xb,pv,pl,rfl,gq,xh,LJ,bg⟩;have HX:Hid (ay w1 (w.heap.size+1) xb 0 (xC p q t k pv pl).xB/\(∀p∈pl,p.s=qG/\p.out=false)/\iC pl):=⟨by rw[<-gX.out.2];exact gq,xh,LJ⟩;have F1:Hid (Fr aH w w1):=gX.out.1.trans bg fun _ h=>h.elim;have B1:Hid (w1.heap[w.heap.size]? =ae (.cells #[.int .i64 p,.int .i64 q,.int .i64 t,.int .i64 k] 23 (0,0))):=(bg.block _ (aS BX.out) id).trans BX.out;have aB:w.heap.size<w1.heap.size:=aS B1.out;have b0:w1.cell? ⟨w.heap.size,0,af⟩=ae (.int .i64 p):=aG B1.out 0;have b1:w1.cell? ⟨w.heap.size,1,af⟩=ae (.int .i64 q):=aG B1.out 1;have b2:w1.cell? ⟨w.heap.size,2,af⟩=ae (.int .i64 t):=aG B1.out 2;have b3:w1.cell? ⟨w.heap.size,3,af⟩=ae (.int .i64 k):=aG B1.out 3;clear gq xh LJ bg;unfold ptr;go_wp2_with fail
 go_region
 ·go_wp2_with fail
  rw[<-iT];refine⟨rfl,xb,_,_,_,⟨rfl,rfl,rfl,rfl⟩,aiB HG.out HX.out F1.out B1.out (g:=w1.heap.size) (s:=w1.heap.size+1) ((((aZ _).alloc _).alloc _).drew) (AZ _<|by simp) ?_ ?_ (by omega)⟩
  ·exact(((aZ _).alloc _).drew).ownsRow (aiA w1 (B:=w.heap.size+1) (by omega) HQ.out) fun _ _=>id
  ·have:=aeA (w1.alloc<|.cells (madeCells #[.slice af 0 0] q) 67) (B:=w.heap.size+1) (by simp<;>omega) HQ.out;exact((aZ _).drew).ownsRow (by simpa using this) fun _ _=>id
 ·go_wp2_with fail
  rw[<-iT];refine⟨rfl,xb,_,_,_,⟨rfl,rfl,rfl,rfl⟩,aiB HG.out HX.out F1.out B1.out (g:=w1.heap.size+1) (s:=w1.heap.size) ((((aZ _).alloc _).alloc _).drew) (AZ _<|by simp) ?_ ?_ (by omega)⟩
  ·have:=aiA (w1.alloc<|.cells (madeCells #[.int .i64 0] q) 3) (B:=w.heap.size+1) (by simp<;>omega) HQ.out;exact((aZ _).drew).ownsRow (by simpa using this) fun _ _=>id
  ·exact(((aZ _).alloc _).drew).ownsRow (aeA w1 (B:=w.heap.size+1) (by omega) HQ.out) fun _ _=>id
end
section
section
variable{w w':ah}{B pb xb N:Nat}{s:dB}
def Dy(x:PS)(p:PL)(i q:Nat)(ts:ByteArray):Prop:=x.s=1/\x.aT.getD q 0≠0/\p.s.nw i=ae (x.t,true)/\p.out=false/\p.s.nD i x.t ts=0
structure WZ(w w':ah)(B pb xb N:Nat)(s:dB)(q:Nat)(p:PL)(x:PS)(code:Int)(s2:dB):Prop where
 to:jY w w' B pb xb s (N+1) s2
 no:code≠0
 len:∃p2,s2.h.pl[q]? =ae p2/\p2.s=p.s
 ok:x.s≠1\/code=11\/code=10\/code=12
structure W9(w w':ah)(B xb N:Nat)(h:HS)(L:List Rc)(i q:Nat)(p:PL)(t:Int)(ts:ByteArray)(h':HS)(p':PL):Prop where
 mv:bI w w' B xb N h N h'
 ax:iC h'.pl
 sn:Sn (N+1) h' L
 pl:h'.pl=h.pl.set q p'
 data:p'.s.data=p.s.data++[⟨1,i,t,ts⟩]
 ext:Ext p.s p'.s
 len:p'.s.es.length=p.s.es.length+1
 up:h'.up=h.up
 cf:h'.P=h.P/\h'.Q=h.Q/\h'.T=h.T/\h'.K=h.K
 Dq:pX i h h'
 me:∃x',h'.ps[i]? =ae x'/\x'.s=1/\x'.t=t
variable{i q:Nat}{ts:ByteArray}{x:PS}{p:PL}{ep:Int}
def auC{s0:aA}{i t:Int}(ho:s0.nw i=ae (t,true))(h8:ts.size<=8)(hc:s0.nD i t ts≠0):s0.nD i t ts=12:=by
 have h1:s0.isOpen i t=true:=UJ.2 ho;unfold aA.nD at hc⊢
 rw[h1,if_neg<|by simp,if_neg<|by omega]at hc⊢
 split
 ·rfl
 ·rename_i hn;rw[if_neg hn]at hc;exact absurd rfl hc
def auD(a:bu w B pb xb N s)(hN:N<=90000000)(hi:(i:Int)<s.h.P)(hu:s.h.up=true)(hx:s.h.ps[i]? =ae x)(hp:s.h.pl[q]? =ae p)(he:s.g.ep[i]? =ae ep)(h8:ts.size<=8)(qc:¬Dy x p i q ts):
 aK prog 77 #[.pointer<|ae ⟨xb,0,af⟩,.int .i64 i,.int .i64 ep,.int .i64 q,.string ts] w fun e w'=>∃code s2,e=.returned (.int .i64 code)/\WZ w w' B pb xb N s q p x code s2:=by
 obtain⟨e1,e2,_⟩:=a.Dp hu hx he;have hb:s.h.bars x ep=0:=by
  unfold HS.bars;rw[hu,if_neg<|by simp,if_neg<|by omega]
 have vV:=(dD.1 hp).1;have k:=(a.pg.sn.up hu i x hx).k;have f:=a.pg.sn.valid.qY i;have s0:=f.s0;have s1:=f.s1;rw[<-k.s]at s0 s1;have still:∀{w':ah} {code:Int},Fr aH w w'->code≠0->(x.s≠1\/code=11\/code=10\/code=12)->WZ w w' B pb xb N s q p x code s:=fun g h1 h2=>⟨(jY.still a g).mono<|by omega,h1,⟨p,hp,rfl⟩,h2⟩;by_cases h1:x.s=1
 ·by_cases ht:x.aT.getD q 0=0
  ·exact(ann a.ha hi vV hx hb h1 ht h8).mono fun e w' ⟨g1,g2⟩=>⟨11,s,g1,still g2 (by decide)<|.inr<|.inl rfl⟩
  ·have pF:=(a.pg.sn.dG q p hp).eG;refine(ae7 a.ha a.ax hi hp hx hb h1 ht h8 (by omega)<|by omega).mono fun e w' h=>?_;cases h with
   |not ho g=>exact⟨11,s,rfl,still g (by decide)<|.inr<|.inl rfl⟩
   |out ho MJ g=>exact⟨10,s,rfl,still g (by decide)<|.inr<|.inr<|.inl rfl⟩
   | @bad _ t v' ho MJ hc hm ha=>
     have abR:=a.pg.sn.opn q p hp i t ho;have Jt:p.s.nw i=ae (x.t,true):=by rw[ho,k.t,abR.2.2.2.1]
     have h12:=auC Jt h8 hc;rw[h12];have EP:=atB hc;obtain⟨sn,gr⟩:=a.pg.sn.atC v' hp EP;exact⟨12,_,rfl,⟨jY.of a hm ⟨rfl,rfl,rfl,rfl⟩ ha (by omega) (by omega) rfl<|a.pg.same sn rfl rfl gr,by decide,⟨_,mD vV,EP⟩,.inr<|.inr<|.inr rfl⟩⟩
   | @ok _ t v' ho MJ hc hm ha=>
     have abR:=a.pg.sn.opn q p hp i t ho;have Jt:p.s.nw i=ae (x.t,true):=by rw[ho,k.t,abR.2.2.2.1]
     exact absurd ⟨h1,ht,Jt,MJ,hc⟩ qc
 ·exact(anm a.ha hi vV hx hb (by omega) h8).mono fun e w' ⟨g1,g2⟩=>⟨_,s,g1,still g2 (by split<;>decide)<|.inl h1⟩
def auE(a:bu w B pb xb N s)(hN:N<=90000000)(hi:(i:Int)<s.h.P)(hu:s.h.up=true)(hx:s.h.ps[i]? =ae x)(hp:s.h.pl[q]? =ae p)(he:s.g.ep[i]? =ae ep)(h8:ts.size<=8)(hy:Dy x p i q ts):
 aK prog 77 #[.pointer<|ae ⟨xb,0,af⟩,.int .i64 i,.int .i64 ep,.int .i64 q,.string ts] w fun e w'=>e=.returned (.int .i64 0)/\∃h' p',W9 w w' B xb N s.h s.L i q p x.t ts h' p':=by
 obtain⟨h1,ht,Jt,MJ,hc⟩:=hy;obtain⟨e1,e2,_⟩:=a.Dp hu hx he;have hb:s.h.bars x ep=0:=by
  unfold HS.bars;rw[hu,if_neg<|by simp,if_neg<|by omega]
 have pF:=(a.pg.sn.dG q p hp).eG;refine(ae7 a.ha a.ax hi hp hx hb h1 ht h8 (by omega)<|by omega).mono fun e w' h=>?_;cases h with
 |not ho g=>exact absurd Jt<|ho _
 |out ho xu g=>rw[MJ]at xu;cases xu
 |bad ho xu kM hm ha=>exact absurd hc kM
 | @ok _ t v' ho xu kM hm ha=>
   obtain⟨sn,ext⟩:=a.pg.sn.put (by omega) hu v' hi hx hp hc;exact⟨rfl,_,⟨p.lb,p.bm,v',p.s.kH i x.t ts,p.out⟩,hm,ha,sn,rfl,atA hc,ext,by show(p.s.kH i x.t ts).es.length=_;rw[WO hc];simp,rfl,⟨rfl,rfl,rfl,rfl⟩,(pX.gy (p':=⟨p.lb,p.bm,v',p.s.kH i x.t ts,p.out⟩) hp rfl).trans<|.dE _ _ _,_,mD (dD.1 hx).1,h1,rfl⟩
def auF(a:bu w B pb xb N s)(hi:(i:Int)<s.h.P)(hu:s.h.up=true)(hx:s.h.ps[i]? =ae x)(hq:q<s.h.pl.length)(he:s.g.ep[i]? =ae ep)(h8:ts.size<=8):
 aK prog 77 #[.pointer<|ae ⟨xb,0,af⟩,.int .i64 i,.int .i64<|ep-1,.int .i64 q,.string ts] w fun e w'=>e=.returned (.int .i64 7)/\w=w':=by
 have hb:=abL a hu hx he;have:=ae6 (ep:=ep-1) a.ha hi hq hx (by rw[hb];decide) h8;rw[hb]at this;exact this
end
end
section
section
variable{w w':ah}{B pb xb N:Nat}{s:dB}
variable{q:Nat}{p:PL}
def aiD{h:HS}{L:List Rc}{n M:Nat}(ha:ay w B xb n h)(sn:Sn M h L)(hn:n<=90000000)(hM:M<=90000000)(hp:h.pl[q]? =ae p):
 aK prog 23 #[.pointer<|ae ⟨xb,0,af⟩,.int .i64 q] w fun e w'=>∃va vl,e=.returned (.tuple #[.agg #[.bool p.out,.int .i64 p.s.es.length,.int .i64 p.s.bZ,va],.int .i64 0])/\(∃pa pc,va=.slice pa vl pc)/\Fr aH w w':=by
 have k:=sn.dG q p hp;have:=k.eG;refine(amj ha hp k.inv (by omega)<|by omega).mono fun e w' ⟨va,S,h1,_,h3,h4⟩=>?_;obtain⟨pa,pc,h5,_⟩:=lC h3;exact⟨va,S.length,h1,⟨pa,pc,h5⟩,h4⟩
def RN(a:bu w B pb xb N s)(hN:N<=90000000)(hp:s.h.pl[q]? =ae p):
 aK prog 23 #[.pointer<|ae ⟨xb,0,af⟩,.int .i64 q] w fun e w'=>∃va vl,e=.returned (.tuple #[.agg #[.bool p.out,.int .i64 p.s.es.length,.int .i64 p.s.bZ,va],.int .i64 0])/\(∃pa pc,va=.slice pa vl pc)/\Fr aH w w':=aiD a.ha a.pg.sn hN hN hp
end
end
section
def auG:(prog.info? 66).map (fun i=>(i.zero,i.size,i.bytes))=ae (ae<|.agg #[.int .i64 0,.int .i64 0,.int .i64 0,.string ⟨#[]⟩],4,40):=by kernel_rfl
section
variable{w w':ah}{B pb xb N:Nat}{s s':dB}
def auH{W W3 W5 w5:ah}{iL:aj}{i q:Nat}{t:Int}{ts:ByteArray}{h':HS}{p p':PL}(a:bu W B pb xb N s)(hp:s.h.pl[q]? =ae p)(en:W9 W.drew.drew W3 B xb N s.h s.L i q p t ts h' p')(b:gU W5 B pb xb s.h s.g s.v)(f5:Fr aH W3 W5){V:ah}(hW:Fr aH W5 V)(hg:V.grownBy w5 s.v.wv.ownBlock)(iy:w5.ownsRow B 66 4 iL (s.g.wr.length+1) (s.g.wr.flatMap Wn.cs++Wn.cs ⟨q,i,t,ts⟩))(dM:∀k,iL.ownBlock=ae k->s.v.wv.ownBlock=ae k\/W5.heap.size<=k):
 bQ W3 (w5.setCell ⟨pb,7,af⟩ iL) B pb xb ⟨h',s.L,s.g,s.v⟩ (N+1) ⟨h',s.L,{s.g with wr:=s.g.wr++[⟨q,i,t,ts⟩]},{s.v with wv:=iL}⟩:=by
 have b':gU W5 B pb xb h' s.g s.v:=by
  refine⟨?_,b.ep,b.wr,b.fa,b.gt,b.gl,b.rc,b.st,b.ap,b.hb⟩;rw[en.cf.1,en.cf.2.1,en.cf.2.2.1,en.cf.2.2.2];exact b.blk
 exact bQ.behind f5<|aub (s:=⟨h',s.L,s.g,s.v⟩) (en.mv.at_.after f5) en.ax b' a.wr a.fa (by omega) hW hg iy dM<|a.pg.put hp en.sn en.cf.1 en.up en.pl en.data en.ext
structure OA(s:dB)(i q:Nat)(x:PS)(ts:ByteArray)(s':dB):Prop where
 wr:s'.g.wr=s.g.wr++[⟨q,i,x.t,ts⟩]
 Dq:pX i s.h s'.h
 me:∃x',s'.h.ps[i]? =ae x'/\x'.s=1/\x'.t=x.t
def aiE(a:bu w B pb xb N s)(hN:N<=80000000){i q:Nat}(hi:(i:Int)<s.h.P)(hu:s.h.up=true){x:PS}(hx:s.h.ps[i]? =ae x){p:PL}(hp:s.h.pl[q]? =ae p){ts:ByteArray}(h8:ts.size<=8):
 aK prog 61 #[.pointer<|ae ⟨pb,0,af⟩,.int .i64 i,.int .i64 q,.string ts] w (BD w B pb xb s (N+4) fun s'=>Dy x p i q ts->OA s i q x ts s'):=by
 obtain⟨i0,dF,gG,fO,iH⟩:=aCf auG;obtain⟨ep,he⟩:=a.ep hi;obtain⟨e1,e2,e3⟩:=a.Dp hu hx he;have qg:i<s.g.ep.length:=(dD.1 he).1;obtain⟨eg,je,dI,_⟩:=uO a.pa.ep (by omega);have A:Hid (bu w B pb xb N s):=a;have fF:Hid (N<=80000000):=hN;have HI:Hid ((i:Int)<s.h.P):=hi;have HU:Hid (s.h.up=true):=hu;have HX:Hid (s.h.ps[i]? =ae x):=hx;have HE:Hid (s.g.ep[i]? =ae ep):=he;have jX:Hid (s.v.ev=.slice (ae ⟨eg,0,af⟩) s.g.ep.length je):=dI;have yh:(i:Int)<(s.g.ep.length:Int):=by omega
 have sV:(0:Int)<=(i:Int):=by omega
 have hep:ep<=80000000:=by omega
 have yE:IntKind.i64.wrap (ep-1)=ep-1:=wrap_i64 (by omega) (by omega);have HP:Hid (s.h.pl[q]? =ae p):=hp;have H8:Hid (ts.size<=8):=h8;have hlen:(p.s.es.length:Int)<=80000000:=by have:=(a.pg.sn.dG q p hp).eG;omega
 have aBP:(0:Int)<=(p.s.es.length:Int):=by omega
 have X7:IntKind.i64.wrap ((p.s.es.length:Int)+1)=(p.s.es.length:Int)+1:=wrap_i64 (by omega) (by omega);clear a hi hu hx he dI hN e1 e3 qg hp h8;go_enter func61,ntmps61
 go_wp2_with fail
 refine(Ja A.out (by have:=fF.out;omega) HI.out HU.out HX.out).mono ?_;rintro e w1 ⟨n1,n2,t1⟩;rename_i va vb gY fC;obtain⟨aa,ac,rfl,_⟩:=lC n1;obtain⟨ba,bc,rfl,_⟩:=lC n2;have T1:Hid (bQ w w1 B pb xb s (N+1)<|s.fH fC gY):=t1;obtain⟨d0,d5,de,d6,aB,oC⟩:=t1.at_.sK jX.out HE.out;generalize AP:(bF x.aT 1 4).length=l1;generalize AQ:(bF x.aT 2 4).length=l2;clear n1 n2 t1 AP AQ;go_wp2_with fail
 have ZW:Hid (∃W:ah,W=w1.alloc (.cells #[.int .i64 x.e,.int .i64 x.t,.int .i64 x.s,.slice aa l1 ac,.slice ba l2 bc] 58)):=⟨_,rfl⟩;obtain⟨W1,eW⟩:=ZW.out;rw[<-eW];have gX:Hid (Fr aH w1 W1):=by subst eW;exact aZ _
 have X1:Hid (W1.heap[w1.heap.size]? =ae (.cells #[.int .i64 x.e,.int .i64 x.t,.int .i64 x.s,.slice aa l1 ac,.slice ba l2 bc] 58 (0,0))):=by subst eW;exact aB0 _ _
 have kL:Hid (bu W1 B pb xb (N+1)<|s.fH fC gY):=T1.out.at_.after gX.out;clear ZW eW d0 d5 de d6 aB oC;refine(RN kL.out (by have:=fF.out;omega) HP.out).mono ?_;rintro e w2 ⟨va,vl,rfl,rM,jB⟩;obtain⟨pa,pc,rfl⟩:=rM;have F2:Hid (Fr aH W1 w2):=jB;have aiF:Hid (bu w2 B pb xb (N+1)<|s.fH fC gY):=kL.out.after jB;obtain⟨d0,d5,de,d6,aB,oC⟩:=aiF.out.sK jX.out HE.out;clear jB;go_wp2_with fail
 have ZW:Hid (∃W:ah,W=w2.alloc (.cells #[.bool p.out,.int .i64 p.s.es.length,.int .i64 p.s.bZ,.slice pa vl pc] 62)):=⟨_,rfl⟩;obtain⟨W2,eW⟩:=ZW.out;rw[<-eW];have FW2:Hid (Fr aH w2 W2):=by subst eW;exact aZ _
 have Y2:Hid (W2.heap[w2.heap.size]? =ae (.cells #[.bool p.out,.int .i64 p.s.es.length,.int .i64 p.s.bZ,.slice pa vl pc] 62 (0,0))):=by subst eW;exact aB0 _ _
 have Xa:Hid (Fr aH W1 W2):=F2.out.trans FW2.out fun _ h=>h.elim;have X2:Hid (W2.heap[w1.heap.size]? =ae (.cells #[.int .i64 x.e,.int .i64 x.t,.int .i64 x.s,.slice aa l1 ac,.slice ba l2 bc] 58 (0,0))):=(Xa.out.block _ (aS X1.out) id).trans X1.out;have kX:Hid (bu W2 B pb xb (N+1)<|s.fH fC gY):=kL.out.after Xa.out;clear ZW eW d0 d5 de d6 aB oC aiF;obtain⟨d0,d5,de,d6,aB,oC⟩:=kX.out.sK jX.out HE.out;have HC:Hid (∀(V:ah) (ts:ByteArray),ts.size<=8->Fr aH W2 V->aK prog 77 #[.pointer<|ae ⟨xb,0,af⟩,.int .i64 i,.int .i64<|ep-1,.int .i64 q,.string ts] V fun e w'=>e=.returned (.int .i64 7)/\V=w'):=fun V ts h8 f=>auF (kX.out.after f) HI.out HU.out HX.out (dD.1 HP.out).1 HE.out h8;go_region_held3 (fun w'=>w'.cell? ⟨pb,0,af⟩=ae (.pointer<|ae ⟨xb,0,af⟩)/\w'.cell? ⟨pb,5,af⟩=ae (.slice (ae ⟨eg,0,af⟩) s.g.ep.length je)/\w'.cell? ⟨eg,i,af⟩=ae (.int .i64 ep))
  (first|exact⟨d0,d5,de⟩|go_keep)
  ((go_at_call 77;with_reducible refine(HC.out _ _ (by decide)<|(Fr.refl _ _).drew).mono ?_;rintro e w4 ⟨rfl,rfl⟩))
 go_wp2_with fail
 by_cases hy:Dy x p i q ts
 ·have HY:Hid (Dy x p i q ts):=hy;clear hy;have rJ:Hid (∀(V:ah),Fr aH W2 V->aK prog 77 #[.pointer<|ae ⟨xb,0,af⟩,.int .i64 i,.int .i64 ep,.int .i64 q,.string ts] V fun e w'=>e=.returned (.int .i64 0)/\∃h' p',W9 V w' B xb (N+1) s.h s.L i q p x.t ts h' p'):=fun V f=>auE (s:=s.fH fC gY) (kX.out.after f) (by have:=fF.out;omega) HI.out HU.out HX.out HP.out HE.out H8.out HY.out;go_region_held3 (fun w'=>w'.cell? ⟨pb,0,af⟩=ae (.pointer<|ae ⟨xb,0,af⟩)/\w'.cell? ⟨pb,5,af⟩=ae (.slice (ae ⟨eg,0,af⟩) s.g.ep.length je)/\w'.cell? ⟨eg,i,af⟩=ae (.int .i64 ep))
   (first|with_reducible exact C3|exact⟨d0,d5,de⟩|go_keep)
   ((go_at_call 77;with_reducible refine(rJ.out _<|((Fr.refl _ _).drew).drew).mono ?_;rintro e w3 ⟨rfl,h3,p3,en⟩
     have EN:Hid (W9 W2.drew.drew w3 B xb (N+1) s.h s.L i q p x.t ts h3 p3):=en
     have Ug:gU w3 B pb xb s.h (s.fH fC gY).g (s.fH fC gY).v:=((kX.out.after<|((Fr.refl _ _).drew).drew).pa).stay en.mv.fr fun k e hf=>(kX.out.after<|((Fr.refl _ _).drew).drew).ha.off (kX.out.after<|((Fr.refl _ _).drew).drew).pa e hf
     have P3:Hid (gU w3 B pb xb s.h (s.fH fC gY).g (s.fH fC gY).v):=Ug
     have C3:w3.cell? ⟨pb,0,af⟩=ae (.pointer<|ae ⟨xb,0,af⟩)/\w3.cell? ⟨pb,5,af⟩=ae (.slice (ae ⟨eg,0,af⟩) s.g.ep.length je)/\w3.cell? ⟨eg,i,af⟩=ae (.int .i64 ep):=⟨aG Ug.blk 0,(aG Ug.blk 5).trans (by rw[<-jX.out];rfl),zO (by have:=Ug.ep;rw[show(s.fH fC gY).v.ev=.slice (ae ⟨eg,0,af⟩) s.g.ep.length je from jX.out]at this;exact this) HE.out⟩
     clear en Ug))
  have kR:(s.fH fC gY).g.dn=false:=by
   show s.g.dn=false;rw[A.out.pg.dn,HU.out];rfl
  have g0:w3.cell? ⟨pb,0,af⟩=ae (.pointer<|ae ⟨xb,0,af⟩):=aG P3.out.blk 0;have uT:pb<w3.heap.size:=aS P3.out.blk;have nb:∀{b:Nat} {cs:Array aj} {ty:bW},W2.heap[b]? =ae (.cells cs ty (0,0))->[48,3,66,114,67,94,111,5,98,119,163,1000000,55].contains ty=false->w3.heap[b]? =ae (.cells cs ty (0,0)):=fun{b cs ty} hb He=>(EN.out.mv.fr.block _ (aS hb) fun e=>(kX.out.after<|((Fr.refl _ _).drew).drew).zf (show W2.drew.drew.heap[b]? =_ from hb) He<|.inl e).trans hb;have X3:Hid (w3.heap[w1.heap.size]? =ae (.cells #[.int .i64 x.e,.int .i64 x.t,.int .i64 x.s,.slice aa l1 ac,.slice ba l2 bc] 58 (0,0))):=nb X2.out (by decide);have Y3:Hid (w3.heap[w2.heap.size]? =ae (.cells #[.bool p.out,.int .i64 p.s.es.length,.int .i64 p.s.bZ,.slice pa vl pc] 62 (0,0))):=nb Y2.out (by decide);clear nb HC rJ d0 d5 de d6 C3 aB oC;go_wp2_with fail
  refine(aiD EN.out.mv.at_ EN.out.sn (by have:=fF.out;omega) (by have:=fF.out;omega) (q:=q) (p:=p3) (by rw[EN.out.pl];exact mD (dD.1 HP.out).1)).mono ?_;rw[EN.out.len];rintro e w5 ⟨va,Xb,rfl,rM,lI⟩;obtain⟨Xc,Xd,rfl⟩:=rM;simp only[Int.natCast_add,Int.cast_ofNat_Int];have P5:Hid (gU w5 B pb xb s.h (s.fH fC gY).g (s.fH fC gY).v):=P3.out.after lI;have F5:Hid (Fr aH w3 w5):=lI;have GM:pb<w5.heap.size:=aS P5.out.blk;have g6:w5.cell? ⟨pb,6,af⟩=ae (.bool false):=by rw[<-kR];exact aG P5.out.blk 6
  have X5:Hid (w5.heap[w1.heap.size]? =ae (.cells #[.int .i64 x.e,.int .i64 x.t,.int .i64 x.s,.slice aa l1 ac,.slice ba l2 bc] 58 (0,0))):=(lI.block _ (aS X3.out) id).trans X3.out;have Y5:Hid (w5.heap[w2.heap.size]? =ae (.cells #[.bool p.out,.int .i64 p.s.es.length,.int .i64 p.s.bZ,.slice pa vl pc] 62 (0,0))):=(lI.block _ (aS Y3.out) id).trans Y3.out;have auI:Hid (x.s=1):=HY.out.1;have b1:w1.heap.size<w5.heap.size:=aS X5.out;have b2:w2.heap.size<w5.heap.size:=aS Y5.out;clear lI kR g0;go_wp2_with fail
  have ZW:Hid (∃W:ah,W=w5.alloc (.cells #[.bool p3.out,.int .i64<|(p.s.es.length:Int)+1,.int .i64 p3.s.bZ,.slice Xc Xb Xd] 62)):=⟨_,rfl⟩;obtain⟨W5,eW⟩:=ZW.out;rw[<-eW];have Xe:Hid (Fr aH w5 W5):=by subst eW;exact aZ _
  have Z6:Hid (W5.heap[w5.heap.size]? =ae (.cells #[.bool p3.out,.int .i64<|(p.s.es.length:Int)+1,.int .i64 p3.s.bZ,.slice Xc Xb Xd] 62 (0,0))):=by subst eW;exact aB0 _ _
  have X6:Hid (W5.heap[w1.heap.size]? =ae (.cells #[.int .i64 x.e,.int .i64 x.t,.int .i64 x.s,.slice aa l1 ac,.slice ba l2 bc] 58 (0,0))):=(Xe.out.block _ (aS X5.out) id).trans X5.out;have Y6:Hid (W5.heap[w2.heap.size]? =ae (.cells #[.bool p.out,.int .i64 p.s.es.length,.int .i64 p.s.bZ,.slice pa vl pc] 62 (0,0))):=(Xe.out.block _ (aS Y5.out) id).trans Y5.out;have P6:Hid (gU W5 B pb xb s.h (s.fH fC gY).g (s.fH fC gY).v):=P5.out.after Xe.out;clear ZW eW g6 GM b1 b2 uT;obtain⟨fa,fc,oM,_⟩:=oL P6.out.wr;have Dl:Hid ((s.fH fC gY).v.wv=.slice fa s.g.wr.length fc):=oM;have zg:Hid (W5.ownsRow B 66 4 (.slice fa s.g.wr.length fc) s.g.wr.length<|s.g.wr.flatMap Wn.cs):=by have:=P6.out.wr;rw[oM]at this;exact this
  have q8:W5.cell? ⟨pb,7,af⟩=ae (.slice fa s.g.wr.length fc):=(aG P6.out.blk 7).trans<|eP ae oM;have bM:Value.ownBlock (.slice fa s.g.wr.length fc)≠ae pb:=FK zg.out P6.out.blk (by decide);have auJ:pb<W5.heap.size:=aS P6.out.blk;have f8:W5.frozen? ⟨pb,7,af⟩=false:=jP P6.out.blk 7;have f9:∀o,(W5.alloc o).frozen? ⟨pb,7,af⟩=false:=fun o=>(JQ auJ o).trans f8;have Ak:Hid (s.g.wr.length<=N+1):=kL.out.wr;have y1:W5.cell? ⟨w1.heap.size,1,af⟩=ae (.int .i64 x.t):=aG X6.out 1;clear oM;go_region_law
   ((refine aCu _ (by rfl) _ _ _ (by rfl) B 66 i0 _ 4 40 underlying44 dF gG fO iH rfl (by omega) (.slice fa s.g.wr.length fc) s.g.wr.length (s.g.wr.flatMap Wn.cs) (by rfl) (by first|exact(((Fr.refl (fun _=>False) W5).alloc _).drew).ownsRow zg.out (fun _ _=>id)|exact(((Fr.refl (fun _=>False) W5).drew).alloc _).ownsRow zg.out fun _ _=>id)
      ⟨W5.heap.size,0,af⟩ 1 1 [.int .i64 q,.int .i64 i,.int .i64 x.t,.string ts] (by rfl) (by rfl) (aB9 (cs:=#[.int .i64 q,.int .i64 i,.int .i64 x.t,.string ts]) (t:=66) (fr:=(0,0)) (by first|exact aB0 _ _|exact PN _ _ _)) (by simp[Value.oneCell'])
      (by omega) (by have:=fF.out;have:=Ak.out;simp only[dH];omega) (by have:=fF.out;have:=Ak.out;omega) (by have:=P6.out.hb;simp<;>omega) (W5.heap.size+1) (by simp) ?_;intro gg cap w7 o9 lV uF KJ;have k0:=(lV.cell_far ⟨pb,7,af⟩ (by simp<;>omega)<|iI bM);have k1:=(lV.frozen_far ⟨pb,7,af⟩ (by simp<;>omega)<|iI bM);simp only[World.cell?_drew,World.frozen?_drew,f9]at k0 k1))
  all_goals
   have H6:∀k,Value.ownBlock (.slice (ae ⟨gg,0,af⟩) (s.g.wr.length+1) cap)=ae k->(s.fH fC gY).v.wv.ownBlock=ae k\/W5.heap.size<=k:=fun k hk=>by
    rw[Dl.out];simp only[Value.ownBlock,fJ]at hk;subst hk;rcases uF with h1|h1
    ·exact .inl h1
    ·exact .inr<|by omega
   have G3:∃V,Fr aH W5 V/\V.grownBy w7 (Value.ownBlock<|.slice fa s.g.wr.length fc):=⟨_,by first|exact((Fr.refl _ _).alloc _).drew|exact((Fr.refl _ _).drew).alloc _,lV⟩
   obtain⟨V,fV,gV⟩:=G3
   have TO:=auH kX.out HP.out EN.out P6.out (F5.out.trans Xe.out fun _ h=>h.elim) fV (by rw[Dl.out];exact gV) o9 H6
   have F7:Fr (fun k=>k=pb\/Value.ownBlock (.slice fa s.g.wr.length fc)=ae k) W5 (w7.setCell ⟨pb,7,af⟩<|.slice (ae ⟨gg,0,af⟩) (s.g.wr.length+1) cap):=((fV.mono fun _ h=>h.elim).grown gV fun k e=>.inl<|.inr e).setCell (p:=⟨pb,7,af⟩) (.inl<|.inl rfl) _
   clear o9 lV uF KJ k0 k1 H6 fV gV
   generalize w7.setCell ⟨pb,7,af⟩ (.slice (ae ⟨gg,0,af⟩) (s.g.wr.length+1) cap)=W7 at TO F7⊢
   generalize(Value.slice (ae ⟨gg,0,af⟩) (s.g.wr.length+1) cap)=fv7 at TO
   have ho:∀{b:Nat} {cs:Array aj} {ty:bW},W5.heap[b]? =ae (.cells cs ty (0,0))->ty≠48->ty≠66->W7.heap[b]? =ae (.cells cs ty (0,0)):=fun{b cs ty} hb h1 h2=>(F7.block b (aS hb) (fun e=>by
    rcases e with e|e
    ·rw[e,P6.out.blk]at hb;simp only[fJ,Obj.cells.injEq]at hb;exact h1 hb.2.1.symm
    ·have h3:=ig zg.out e;rw[lD hb]at h3;exact h2 h3)).trans hb
   have u1:W7.cell? ⟨w1.heap.size,2,af⟩=ae (.int .i64 x.s):=aG (ho X6.out (by decide)<|by decide) 2
   have u2:W7.cell? ⟨w2.heap.size,1,af⟩=ae (.int .i64 p.s.es.length):=aG (ho Y6.out (by decide)<|by decide) 1
   have u3:W7.cell? ⟨w5.heap.size,1,af⟩=ae (.int .i64<|(p.s.es.length:Int)+1):=aG (ho Z6.out (by decide)<|by decide) 1
   have kT:Hid (BD w B pb xb s (N+4) (fun s'=>Dy x p i q ts->OA s i q x ts s') (.returned<|.bool true) W7):=⟨rfl,_,((((T1.out.after gX.out).after Xa.out).after<|((Fr.refl _ _).drew).drew).mid EN.out.mv TO EN.out.cf).mono<|by omega,fun _=>⟨rfl,EN.out.Dq,EN.out.me⟩⟩
   rw[auI.out]at u1
   clear TO F7 ho y1 q8
   go_wp2
   go_ret
   exact kT.out
 ·have HNO:Hid (¬Dy x p i q ts):=hy;clear hy;have rJ:Hid (∀(V:ah),Fr aH W2 V->aK prog 77 #[.pointer<|ae ⟨xb,0,af⟩,.int .i64 i,.int .i64 ep,.int .i64 q,.string ts] V fun e w'=>∃code s2,e=.returned (.int .i64 code)/\WZ V w' B pb xb (N+1) (s.fH fC gY) q p x code s2):=fun V f=>auD (kX.out.after f) (by have:=fF.out;omega) HI.out HU.out HX.out HP.out HE.out H8.out HNO.out;go_region_held3 (fun w'=>w'.cell? ⟨pb,0,af⟩=ae (.pointer<|ae ⟨xb,0,af⟩)/\w'.cell? ⟨pb,5,af⟩=ae (.slice (ae ⟨eg,0,af⟩) s.g.ep.length je)/\w'.cell? ⟨eg,i,af⟩=ae (.int .i64 ep))
   (first|with_reducible exact C3|exact⟨d0,d5,de⟩|go_keep)
   ((go_at_call 77;with_reducible refine(rJ.out _<|((Fr.refl _ _).drew).drew).mono ?_;rintro e w3 ⟨code,s2,rfl,un⟩
     have UN:Hid (WZ W2.drew.drew w3 B pb xb (N+1) (s.fH fC gY) q p x code s2):=un
     have Jc:Hid (s2.v.ev=.slice (ae ⟨eg,0,af⟩) s2.g.ep.length je):=by show s2.v.ev=_;rw[un.to.v,un.to.g];exact jX.out
     have mO:Hid (s2.g.ep[i]? =ae ep):=by show s2.g.ep[i]? =_;rw[un.to.g];exact HE.out
     have C3:w3.cell? ⟨pb,0,af⟩=ae (.pointer<|ae ⟨xb,0,af⟩)/\w3.cell? ⟨pb,5,af⟩=ae (.slice (ae ⟨eg,0,af⟩) s.g.ep.length je)/\w3.cell? ⟨eg,i,af⟩=ae (.int .i64 ep):=by
      obtain⟨k0,k5,ke,_⟩:=un.to.to.at_.sK Jc.out mO.out;rw[un.to.g]at k5;exact⟨k0,k5,ke⟩
     clear un))
  obtain⟨p2,xu,pF⟩:=UN.out.len;have HP2:Hid (s2.h.pl[q]? =ae p2):=xu;have ZJ:Hid (p2.s=p.s):=pF;clear xu pF;obtain⟨g0,_,_,g6,uT,_⟩:=UN.out.to.to.at_.sK Jc.out mO.out;have F3:Hid (Fr ((s.fH fC gY).dZ pb xb) W2 w3):=((((Fr.refl (fun _=>False) _).drew).drew).mono fun _ h=>h.elim).trans UN.out.to.to.fr fun _=>.inl;have X3:Hid (w3.heap[w1.heap.size]? =ae (.cells #[.int .i64 x.e,.int .i64 x.t,.int .i64 x.s,.slice aa l1 ac,.slice ba l2 bc] 58 (0,0))):=(F3.out.block _ (aS X2.out)<|kX.out.zf X2.out<|by decide).trans X2.out;have Y3:Hid (w3.heap[w2.heap.size]? =ae (.cells #[.bool p.out,.int .i64 p.s.es.length,.int .i64 p.s.bZ,.slice pa vl pc] 62 (0,0))):=(F3.out.block _ (aS Y2.out)<|kX.out.zf Y2.out<|by decide).trans Y2.out;clear g6 d0 d5 de d6 aB oC HC rJ C3;go_wp2_with fail
  refine(RN UN.out.to.to.at_ (by have:=fF.out;omega) HP2.out).mono ?_;rw[ZJ.out];rintro e w5 ⟨va,Xb,rfl,rM,lI⟩;obtain⟨Xc,Xd,rfl⟩:=rM;have F5:Hid (Fr aH w3 w5):=lI;obtain⟨g0,_,_,g6,GM,_⟩:=(UN.out.to.to.at_.after lI).sK Jc.out mO.out;have kR:s2.g.dn=false:=by rw[UN.out.to.to.at_.pg.dn,show s2.h.up=true from UN.out.to.up.trans HU.out];rfl
  rw[kR]at g6;have X5:Hid (w5.heap[w1.heap.size]? =ae (.cells #[.int .i64 x.e,.int .i64 x.t,.int .i64 x.s,.slice aa l1 ac,.slice ba l2 bc] 58 (0,0))):=(lI.block _ (aS X3.out) id).trans X3.out;have Y5:Hid (w5.heap[w2.heap.size]? =ae (.cells #[.bool p.out,.int .i64 p.s.es.length,.int .i64 p.s.bZ,.slice pa vl pc] 62 (0,0))):=(lI.block _ (aS Y3.out) id).trans Y3.out;have y2:w5.cell? ⟨w1.heap.size,2,af⟩=ae (.int .i64 x.s):=aG X5.out 2;have y3:w5.cell? ⟨w2.heap.size,1,af⟩=ae (.int .i64 p.s.es.length):=aG Y5.out 1;have b1:w1.heap.size<w5.heap.size:=aS X5.out;have b2:w2.heap.size<w5.heap.size:=aS Y5.out;have kT:Hid (∀V,Fr aH w5 V->BD w B pb xb s (N+4) (fun s'=>Dy x p i q ts->OA s i q x ts s') (.returned<|.bool true) V):=fun V f=>⟨rfl,_,(((((T1.out.after gX.out).after Xa.out).trans<|bQ.behind (((Fr.refl _ _).drew).drew) UN.out.to.to).after F5.out).after f).mono<|by omega,fun h=>absurd h HNO.out⟩;have hcb:(code==0)=false:=by simpa using UN.out.no
  have bD:=UN.out.ok;clear lI kR F3 g0;obtain⟨xe,xt,xs,xa,wW,xc,xd,xi,xw,xg⟩:=x;simp only at bD y2;generalize(p.s.es.length:Int)=ln at y3⊢
  by_cases hs:xs=1
  ·subst hs;rcases bD with bD|bD|bD|bD
   ·exact absurd rfl bD
   all_goals
    subst bD
    clear hcb
    go_wp2
    go_ret
    exact kT.out _<|aZ _
  ·have sZ:(xs !=1)=true:=by simpa using hs
   clear bD hs;go_wp2
   go_ret;exact kT.out _<|aZ _
end
end
end Go.Proofs.YtkelpcjiediamaaGreat
