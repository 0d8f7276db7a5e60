import Derived.Test.YtkelpcjiediamaaGreatQb42
set_option maxRecDepth 100000
set_option maxHeartbeats 0
set_option linter.all false
namespace Go.Proofs.YtkelpcjiediamaaGreat
open Go renaming Calls→aK,TypeId→bW,Value→aj,World→ah,maxLen→dH
open Option renaming none→af,some→ae
open Go.Proofs.Tryz
open Go.RowKit Go.Maps
section
def aib:(prog.info? 114).map (fun i=>(i.zero,i.size,i.bytes))=ae (ae<|.agg #[.int .i64 0,.int .i64 0,.int .i64 0],3,24):=by kernel_rfl
section
variable{w w':ah}{B pb xb N:Nat}{s:dB}
def dB.fH(s:dB)(fa:List Fa)(fv:aj):dB:=⟨s.h,s.L,{s.g with fa:=fa},{s.v with fv:=fv}⟩
variable{ty:bW}{wd m b i:Nat}{u iL:aj}{xs:List aj}{w1 W:ah}{f:Fa}
def KW{S:Nat->Prop}(ho:w.ownsRow B ty wd u m xs)(f:Fr S w w')(hS:∀k,S k->tag w k≠ty):w'.ownsRow B ty wd u m xs:=f.ownsRow ho fun k hk e=>hS k e<|ig ho hk
def Ou(f:Fr aH w1 W)(vs:List aj):Fr (fun k=>k=b) w1 (W.setCells b 0 vs):=Fr.setCells (S:=fun k=>k=b) (.inl rfl) vs 0<|f.mono fun _ h=>h.elim
def WT{SY:bW}{cs:Array aj}{fr:Nat×Nat}(ho:w.ownsRow B ty wd u m xs)(hb:w.heap[b]? =ae (.cells cs SY fr))(bM:SY≠ty):∀k,u.ownBlock=ae k->¬k=b:=fun k hk e=>by
 have h1:=ig ho hk;rw[e,lD hb]at h1;exact bM h1
def aic{n:Nat}{L':List Rc}(ha:ay w B xb n s.h)(ax:iC s.h.pl)(b:gU w B pb xb s.h s.g s.v)(yE:s.g.wr.length<=N)(Ue:s.g.fa.length<=N)(hn:n<=N+1)(hW:Fr aH w W)(hg:W.grownBy w1 s.v.fv.ownBlock)(iy:w1.ownsRow B 114 3 iL (s.g.fa.length+1) (s.g.fa.flatMap Fa.cs++f.cs))(dM:∀k,iL.ownBlock=ae k->s.v.fv.ownBlock=ae k\/w.heap.size<=k)(pg:Pg (N+1) s.h L' {s.g with fa:=s.g.fa++[f]}):
 bQ w (w1.setCell ⟨pb,8,af⟩ iL) B pb xb s (N+1) ⟨s.h,L',{s.g with fa:=s.g.fa++[f]},{s.v with fv:=iL}⟩:=by
 have f1:Fr (fun k=>s.v.fv.ownBlock=ae k) w w1:=(hW.mono fun _ h=>h.elim).grown hg fun k e=>.inl e;have f2:Fr (fun k=>k=pb\/s.v.fv.ownBlock=ae k) w (w1.setCell ⟨pb,8,af⟩ iL):=(f1.mono fun k h=>.inl<|.inr h).setCell (.inl<|.inl rfl) _;have bM:s.v.fv.ownBlock≠ae pb:=FK b.fa b.blk (by decide);have b1:=(f1.block pb (aS b.blk) bM).trans b.blk;have ht:∀k,(k=pb\/s.v.fv.ownBlock=ae k)->tag w k=48\/tag w k=114:=fun k e=>e.imp (fun e=>by rw[e];exact lD b.blk) fun e=>ig b.fa e;have st:∀{ty:bW} {wd:Nat} {u:aj} {m:Nat} {xs:List aj},w.ownsRow B ty wd u m xs->ty≠48->ty≠114->(w1.setCell ⟨pb,8,af⟩ iL).ownsRow B ty wd u m xs:=fun ho h1 h2=>KW ho f2 fun k e e2=>(ht k e).elim (fun z=>h1<|e2.symm.trans z) fun z=>h2<|e2.symm.trans z;have hf:∀k,(k=pb\/s.v.fv.ownBlock=ae k)->s.dZ pb xb k:=fun k e=>.inr<|e.imp id fun e=>.inr<|.inr<|.inl e;have hh:ay (w1.setCell ⟨pb,8,af⟩ iL) B xb n s.h:=ha.stay f2 fun k e hk=>ha.off b hk<|e.imp id fun e=>.inr<|.inr<|.inl e;refine⟨⟨hh.mono hn,ax,⟨?_,st b.ep (by decide)<|by decide,st b.wr (by decide)<|by decide,?_,st b.gt (by decide)<|by decide,b.gl,fun q u l h1 h2=>st (b.rc q u l h1 h2) (by decide)<|by decide,st b.st (by decide)<|by decide,b.ap,b.hb⟩,pg,YI yE,?_⟩,f2.mono fun k e=>.inl<|hf k e,fun k hk=>?_,rfl,rfl,rfl,rfl⟩
 ·rw[jQ b1];rfl
 ·have hr:Fr (fun k=>k=pb) w1 (w1.setCell ⟨pb,8,af⟩ iL):=(Fr.refl (fun k=>k=pb) w1).setCell (p:=⟨pb,8,af⟩) (.inl rfl) _;have:=hr.ownsRow iy (fun k hk e=>by
   subst e;rcases dM _ hk with h1|h1
   ·exact bM h1
   ·have:=aS b.blk;omega)
  show World.ownsRow _ B 114 3 iL (s.g.fa++[f]).length ((s.g.fa++[f]).flatMap Fa.cs);simpa using this
 ·have:=Ue;show(s.g.fa++[f]).length<=N+1;simp<;>omega
 ·rcases hk with hk|hk|hk|hk|hk|hk
  ·exact .inl<|.inl hk
  ·exact .inl<|.inr<|.inl hk
  ·exact .inl<|.inr<|.inr<|.inl hk
  ·exact .inl<|.inr<|.inr<|.inr<|.inl hk
  ·rcases dM k hk with e|e
   ·exact .inl<|.inr<|.inr<|.inr<|.inr<|.inl e
   ·exact .inr e
  ·exact .inl<|.inr<|.inr<|.inr<|.inr<|.inr hk
def bu.fH(a:bu w B pb xb N s)(hW:Fr aH w W)(hg:W.grownBy w1 s.v.fv.ownBlock)(iy:w1.ownsRow B 114 3 iL (s.g.fa.length+1) (s.g.fa.flatMap Fa.cs++f.cs))(dM:∀k,iL.ownBlock=ae k->s.v.fv.ownBlock=ae k\/w.heap.size<=k)(pg:Pg N s.h s.L {s.g with fa:=s.g.fa++[f]}):
 bQ w (w1.setCell ⟨pb,8,af⟩ iL) B pb xb s (N+1) (s.fH (s.g.fa++[f]) iL):=aic a.ha a.ax a.pa a.wr a.fa (by omega) hW hg iy dM<|pg.mono<|by omega
def Ov(a:bu w B pb xb N s)(hi:(i:Int)<s.h.P)(hu:s.h.up=false):
 aK prog 22 #[.pointer<|ae ⟨pb,0,af⟩,.int .i64 i] w fun e w'=>e=.returned (.tuple #[.agg #[.int .i64 0,.int .i64 0,.int .i64 0,.slice af 0 0,.slice af 0 0],.bool true])/\Fr aH w w':=by
 have A:Hid (bu w B pb xb N s):=a;have HI:Hid (0<=(i:Int)/\(i:Int)<s.h.P):=⟨by omega,hi⟩;have HU:Hid (s.h.up=false):=hu;obtain⟨c0,_,_,_,c6,_⟩:=a.cells;have hd:s.g.dn=true:=by rw[a.pg.dn,hu];rfl
 rw[hd]at c6;have aB:=aS a.pa.blk;clear a hi hu hd;go_enter func22,ntmps22
 go_wp2_with (first
  |(go_at_call 30;refine(amf (by exact A.out.ha.after<|aZ _) HI.out HU.out).mono ?_;rintro e w1 ⟨rfl,bg⟩
    have F1:Hid (Fr aH w w1):=(aZ _).trans bg fun _ h=>h.elim
    have B1:Hid (w1.heap[w.heap.size]? =ae (.cells #[.int .i64 0,.int .i64 0,.int .i64 0,.slice af 0 0,.slice af 0 0] 58 (0,0))):=(bg.block _ (by simp) id).trans<|aB0 _ _
    have d6:=(F1.out.cell (p:=⟨pb,6,af⟩) aB id).trans c6
    have vg:pb<w1.heap.size:=dY aB F1.out.size
    clear bg)
  |(refine aCz rfl 58 _ _ rfl w.heap.size 0 #[.int .i64 0,.int .i64 0,.int .i64 0,.slice af 0 0,.slice af 0 0] rfl rfl (JU (((aZ _).block _ (aS B1.out) id).trans B1.out)<|by simp) Ik (by simp[Value.oneCell']) ?_))
 refine aCk (Ij rfl _ _ _ 58 _ (0,0) _ rfl (Ii _ 0<|((aZ _).block _ (aS B1.out) id).trans B1.out) underlying58 rfl Ik) rfl ?_;exact⟨rfl,(F1.out.trans (aZ _) fun _ h=>h.elim).trans (Fr.setCells (S:=fun k=>k=w.heap.size) (.inl rfl) _ 0<|Fr.refl _ _) fun k hk=>.inr<|by omega⟩
def atL(a:bu w B pb xb N s)(hi:(i:Int)<s.h.P)(hu:s.h.up=true){x:PS}(hx:s.h.ps[i]? =ae x){e0:Int}(he:s.g.ep[i]? =ae e0)(wV:x.e=e0){f0:Int}(AO:iE s.g.fa i x.t=f0)(bD:(x.s=0)\/(x.s=1/\f0=0)\/(x.s=2/\f0=1)\/(x.s=3/\f0=2)):
 aK prog 22 #[.pointer<|ae ⟨pb,0,af⟩,.int .i64 i] w fun e w'=>∃va vb,e=.returned (.tuple #[.agg #[.int .i64 x.e,.int .i64 x.t,.int .i64 x.s,va,vb],.bool true])/\zQ w w' va (bF x.aT 1 4)/\zQ w w' vb (bF x.aT 2 4)/\Fr aH w w':=by
 obtain⟨ve,vt,vs,xa,wW,xc,xd,xi,xw,xg⟩:=x;simp only at wV AO bD;subst wV;have A:Hid (bu w B pb xb N s):=a;have HI:Hid ((i:Int)<s.h.P):=hi;have HU:Hid (s.h.up=true):=hu;have HX:Hid (s.h.ps[i]? =ae ⟨ve,vt,vs,xa,wW,xc,xd,xi,xw,xg⟩):=hx;have EF:Hid (iE s.g.fa i vt=f0):=AO;obtain⟨c0,_,_,c5,c6,_,c8,_⟩:=a.cells;have hd:s.g.dn=false:=by rw[a.pg.dn,hu];rfl
 rw[hd]at c6;have aB:=aS a.pa.blk;have qg:i<s.g.ep.length:=(dD.1 he).1;obtain⟨eg,je,dI,oC,_,_,_⟩:=uO a.pa.ep (by omega);have bY:=a.pa.ep;rw[dI]at c5 bY;have ce:w.cell? ⟨eg,i,af⟩=ae (.int .i64 ve):=zO bY he;have yh:(i:Int)<(s.g.ep.length:Int):=by omega
 have sV:(0:Int)<=(i:Int):=by omega
 generalize AP:bF (⟨ve,vt,vs,xa,wW,xc,xd,xi,xw,xg⟩:PS).aT 1 4=T1;generalize AQ:bF (⟨ve,vt,vs,xa,wW,xc,xd,xi,xw,xg⟩:PS).aT 2 4=T2;have HT1:Hid (bF (⟨ve,vt,vs,xa,wW,xc,xd,xi,xw,xg⟩:PS).aT 1 4=T1):=AP;have LH:Hid (bF (⟨ve,vt,vs,xa,wW,xc,xd,xi,xw,xg⟩:PS).aT 2 4=T2):=AQ;clear a hi hu hx hd he AO bY dI AP AQ qg;rcases bD with rfl|⟨rfl,rfl⟩|⟨rfl,rfl⟩|⟨rfl,rfl⟩;all_goals
  go_enter func22,ntmps22
  go_wp2_with (first
   |(go_at_call 30;refine(aer (by exact A.out.ha.after<|aZ _) HI.out HU.out HX.out).mono ?_;rintro e w1 ⟨va,vb,rfl,rM,Hz,_,bg⟩
     simp only[HT1.out,LH.out]at rM Hz
     obtain⟨aa,ac,rfl,_⟩:=lC rM
     obtain⟨ba,bc,rfl,_⟩:=lC Hz
     have F1:Hid (Fr aH w w1):=(aZ _).trans bg fun _ h=>h.elim
     have VA:Hid (w1.ownsRow w.heap.size 3 1 (.slice aa T1.length ac) T1.length<|fK T1):=AX rM<|by simp
     have VB:Hid (w1.ownsRow w.heap.size 3 1 (.slice ba T2.length bc) T2.length<|fK T2):=AX Hz<|by simp
     have B1:Hid (w1.heap[w.heap.size]? =ae (.cells #[.int .i64 0,.int .i64 0,.int .i64 0,.slice af 0 0,.slice af 0 0] 58 (0,0))):=(bg.block _ (by simp) id).trans<|aB0 _ _
     have d6:=(F1.out.cell (p:=⟨pb,6,af⟩) aB id).trans c6
     have d5:=(F1.out.cell (p:=⟨pb,5,af⟩) aB id).trans c5
     have d8:=(F1.out.cell (p:=⟨pb,8,af⟩) aB id).trans c8
     have de:=(F1.out.cell (p:=⟨eg,i,af⟩) oC id).trans ce
     have vg:pb<w1.heap.size:=dY aB F1.out.size
     have uy:eg<w1.heap.size:=dY oC F1.out.size
     clear bg rM Hz)
   |(go_at_call 18;refine(WS (B:=B) (fs:=s.g.fa) (v:=s.v.fv) (by exact((F1.out.trans (aZ _) fun _ h=>h.elim).ownsRow A.out.pa.fa fun _ _=>id)) (by exact((aZ _).cell (p:=⟨pb,8,af⟩) vg id).trans d8) _ _).mono ?_;rw[EF.out];rintro e w2 ⟨rfl,rfl⟩))
  go_quiet (fail)
  go_wp2_with (refine aCz rfl 58 _ _ rfl w.heap.size 0 #[.int .i64 ve,.int .i64 vt,.int .i64 _,.slice aa T1.length ac,.slice ba T2.length bc] rfl rfl (JU ((((aZ _).drewN _).block _ (aS B1.out) id).trans B1.out)<|by simp) Ik (by simp[Value.oneCell']) ?_)
  refine aCk (Ij rfl _ _ _ 58 _ (0,0) _ rfl (Ii _ 0<|(((aZ _).drewN _).block _ (aS B1.out) id).trans B1.out) underlying58 rfl Ik) rfl ?_
  exact⟨_,_,rfl,(Ou ((aZ _).drewN _) _).ownsRow VA.out<|WT VA.out B1.out<|by decide,(Ou ((aZ _).drewN _) _).ownsRow VB.out<|WT VB.out B1.out<|by decide,F1.out.trans (Ou ((aZ _).drewN _) _) fun k hk=>.inr<|by omega⟩
end
end
section
def bQ.boxed{w w1 w2:ah}{B pb xb N b:Nat}{s s':dB}(t:bQ w w1 B pb xb s N s')(hb:w.heap.size<=b)(f:Fr (fun k=>k=b) w1 w2)(qU:¬s'.dZ pb xb b):bQ w w2 B pb xb s N s':=
 ⟨⟨t.at_.ha.stay f fun k e hk=>qU<|e▸.inl hk,t.at_.ax,t.at_.pa.stay f fun k e hk=>qU<|e▸.inr hk,t.at_.pg,t.at_.wr,t.at_.fa⟩,t.fr.trans f (fun k e=>.inr<|by omega),t.sub,t.cf⟩
def bu.zf{w:ah}{B pb xb N b:Nat}{s:dB}(a:bu w B pb xb N s){cs:Array aj}{ty:bW}{fr:Nat×Nat}(hb:w.heap[b]? =ae (.cells cs ty fr))(He:[48,3,66,114,67,94,111,5,98,119,163,1000000,55].contains ty=false):¬s.dZ pb xb b:=by
 rintro(hk|hk)
 ·have:=a.ha.tags hk;rw[lD hb]at this;rcases this with rfl|rfl|rfl|rfl|rfl|rfl|rfl<;>simp at He
 ·have:=a.pa.tags hk;rw[lD hb]at this;rcases this with rfl|rfl|rfl|rfl|rfl|rfl<;>simp at He
section
variable{w w':ah}{B pb xb N:Nat}{s s':dB}
def atM(a:bu w B pb xb N s){i:Nat}(hi:(i:Int)<s.h.P)(hu:s.h.up=true){x:PS}(hx:s.h.ps[i]? =ae x){e0:Int}(he:s.g.ep[i]? =ae e0)(wV:x.e=e0)(AO:iE s.g.fa i x.t=0)(yl:x.s=3)(hN:N<=100000000)(pg:Pg N s.h s.L {s.g with fa:=s.g.fa++[⟨i,x.t,2⟩]}):
 aK prog 22 #[.pointer<|ae ⟨pb,0,af⟩,.int .i64 i] w fun e w'=>∃va vb,e=.returned (.tuple #[.agg #[.int .i64 x.e,.int .i64 x.t,.int .i64 x.s,va,vb],.bool true])/\zQ w w' va (bF x.aT 1 4)/\zQ w w' vb (bF x.aT 2 4)/\∃iL,bQ w w' B pb xb s (N+1) (s.fH (s.g.fa++[⟨i,x.t,2⟩]) iL):=by
 obtain⟨ve,vt,vs,xa,wW,xc,xd,xi,xw,xg⟩:=x;simp only at wV AO yl pg;subst wV yl;obtain⟨i0,dF,gG,fO,iH⟩:=aCf aib;have fF:Hid (N<=100000000):=hN;have PGG:Hid (Pg N s.h s.L {s.g with fa:=s.g.fa++[⟨i,vt,2⟩]}):=pg;clear hN pg;have A:Hid (bu w B pb xb N s):=a;have HI:Hid ((i:Int)<s.h.P):=hi;have HU:Hid (s.h.up=true):=hu;have HX:Hid (s.h.ps[i]? =ae ⟨ve,vt,3,xa,wW,xc,xd,xi,xw,xg⟩):=hx;have EF:Hid (iE s.g.fa i vt=0):=AO;obtain⟨c0,_,_,c5,c6,_,c8,_⟩:=a.cells;have hd:s.g.dn=false:=by rw[a.pg.dn,hu];rfl
 rw[hd]at c6;have aB:=aS a.pa.blk;have qg:i<s.g.ep.length:=(dD.1 he).1;obtain⟨eg,je,dI,oC,_,_,_⟩:=uO a.pa.ep (by omega);have bY:=a.pa.ep;have jX:Hid (s.v.ev=.slice (ae ⟨eg,0,af⟩) s.g.ep.length je):=dI;have HE:Hid (s.g.ep[i]? =ae ve):=he;rw[dI]at c5 bY;have ce:w.cell? ⟨eg,i,af⟩=ae (.int .i64 ve):=zO bY he;have yh:(i:Int)<(s.g.ep.length:Int):=by omega
 have sV:(0:Int)<=(i:Int):=by omega
 generalize AP:bF (⟨ve,vt,3,xa,wW,xc,xd,xi,xw,xg⟩:PS).aT 1 4=T1;generalize AQ:bF (⟨ve,vt,3,xa,wW,xc,xd,xi,xw,xg⟩:PS).aT 2 4=T2;have HT1:Hid (bF (⟨ve,vt,3,xa,wW,xc,xd,xi,xw,xg⟩:PS).aT 1 4=T1):=AP;have LH:Hid (bF (⟨ve,vt,3,xa,wW,xc,xd,xi,xw,xg⟩:PS).aT 2 4=T2):=AQ;clear a hi hu hx hd he AO bY dI AP AQ qg;obtain⟨fa,fc,oM,_⟩:=oL A.out.pa.fa;rw[oM]at c8;have Dl:Hid (s.v.fv=.slice fa s.g.fa.length fc):=oM;have zg:Hid (w.ownsRow B 114 3 (.slice fa s.g.fa.length fc) s.g.fa.length<|s.g.fa.flatMap Fa.cs):=by have:=A.out.pa.fa;rw[oM]at this;exact this
 have bM:Value.ownBlock (.slice fa s.g.fa.length fc)≠ae pb:=FK zg.out A.out.pa.blk (by decide);clear oM;go_enter func22,ntmps22
 go_wp2_with (first
  |(go_at_call 30;refine(aer (by exact A.out.ha.after<|aZ _) HI.out HU.out HX.out).mono ?_;rintro e w1 ⟨va,vb,rfl,rM,Hz,_,bg⟩
    simp only[HT1.out,LH.out]at rM Hz
    obtain⟨aa,ac,rfl,_⟩:=lC rM
    obtain⟨ba,bc,rfl,_⟩:=lC Hz
    have F1:Hid (Fr aH w w1):=(aZ _).trans bg fun _ h=>h.elim
    have VA:Hid (w1.ownsRow w.heap.size 3 1 (.slice aa T1.length ac) T1.length<|fK T1):=AX rM<|by simp
    have VB:Hid (w1.ownsRow w.heap.size 3 1 (.slice ba T2.length bc) T2.length<|fK T2):=AX Hz<|by simp
    have B1:Hid (w1.heap[w.heap.size]? =ae (.cells #[.int .i64 0,.int .i64 0,.int .i64 0,.slice af 0 0,.slice af 0 0] 58 (0,0))):=(bg.block _ (by simp) id).trans<|aB0 _ _
    have d6:=(F1.out.cell (p:=⟨pb,6,af⟩) aB id).trans c6
    have d5:=(F1.out.cell (p:=⟨pb,5,af⟩) aB id).trans c5
    have d8:=(F1.out.cell (p:=⟨pb,8,af⟩) aB id).trans c8
    have de:=(F1.out.cell (p:=⟨eg,i,af⟩) oC id).trans ce
    have vg:pb<w1.heap.size:=dY aB F1.out.size
    have uy:eg<w1.heap.size:=dY oC F1.out.size
    clear bg rM Hz)
  |(go_at_call 18;refine(WS (B:=B) (fs:=s.g.fa) (v:=.slice fa s.g.fa.length fc) (by exact((F1.out.trans (aZ _) fun _ h=>h.elim).ownsRow zg.out fun _ _=>id)) (by exact((aZ _).cell (p:=⟨pb,8,af⟩) vg id).trans d8) _ _).mono ?_;rw[EF.out];rintro e w2 ⟨rfl,rfl⟩))
 have ZW:Hid (∃W:ah,W=w1.alloc (.cells #[.int .i64 ve,.int .i64 vt,.int .i64 3,.slice aa T1.length ac,.slice ba T2.length bc] 58)):=⟨_,rfl⟩;obtain⟨W,eW⟩:=ZW.out;rw[<-eW];have gX:Hid (Fr aH w1 W):=by subst eW;exact aZ _
 have T6:Hid (W.heap[w1.heap.size]? =ae (.cells #[.int .i64 ve,.int .i64 vt,.int .i64 3,.slice aa T1.length ac,.slice ba T2.length bc] 58 (0,0))):=by subst eW;exact aB0 _ _
 have FW:Hid (Fr aH w W):=F1.out.trans gX.out fun _ h=>h.elim;clear ZW eW;have q8:W.cell? ⟨pb,8,af⟩=ae (.slice fa s.g.fa.length fc):=(FW.out.cell (p:=⟨pb,8,af⟩) aB id).trans c8;have q1:W.cell? ⟨w1.heap.size,1,af⟩=ae (.int .i64 vt):=aG T6.out 1;have hwW:pb<W.heap.size:=dY aB FW.out.size;have PBW:Hid (W.heap[pb]? =w.heap[pb]?):=FW.out.block pb aB id;have f8:W.frozen? ⟨pb,8,af⟩=false:=jP (PBW.out.trans A.out.pa.blk) 8;have f9:∀o,(W.alloc o).frozen? ⟨pb,8,af⟩=false:=fun o=>(JQ hwW o).trans f8;have Ak:Hid (s.g.fa.length<=N):=A.out.fa;go_region_law
  ((refine aCu _ (by rfl) _ _ _ (by rfl) B 114 i0 _ 3 24 underlying45 dF gG fO iH rfl (by omega) (.slice fa s.g.fa.length fc) s.g.fa.length (s.g.fa.flatMap Fa.cs) (by rfl) (by first|exact((FW.out.alloc _).drew).ownsRow zg.out (fun _ _=>id)|exact((FW.out.drew).alloc _).ownsRow zg.out fun _ _=>id)
     ⟨W.heap.size,0,af⟩ 1 1 [.int .i64 i,.int .i64 vt,.int .i64 2] (by rfl) (by rfl) (aB9 (cs:=#[.int .i64 i,.int .i64 vt,.int .i64 2]) (t:=114) (fr:=(0,0)) (by first|exact aB0 _ _|exact PN _ _ _)) (by simp[Value.oneCell'])
     (by omega) (by have:=fF.out;have:=Ak.out;simp only[dH];omega) (by have:=fF.out;have:=Ak.out;omega) (by have:=A.out.pa.hb;simp<;>omega) (W.heap.size+1) (by simp) ?_;intro gg cap w3 o9 lV uF uT;have k0:=(lV.cell_far ⟨pb,8,af⟩ (by simp<;>omega)<|iI bM);have k1:=(lV.frozen_far ⟨pb,8,af⟩ (by simp<;>omega)<|iI bM);simp only[World.cell?_drew,World.frozen?_drew,f9]at k0 k1))
 all_goals
  have H6:∀k,Value.ownBlock (.slice (ae ⟨gg,0,af⟩) (s.g.fa.length+1) cap)=ae k->s.v.fv.ownBlock=ae k\/w.heap.size<=k:=fun k hk=>by
   rw[Dl.out];simp only[Value.ownBlock,fJ]at hk;subst hk;rcases uF with h1|h1
   ·exact .inl h1
   ·exact .inr (by have:=FW.out.size;omega)
  have G3:∃V,Fr aH W V/\V.grownBy w3 (Value.ownBlock<|.slice fa s.g.fa.length fc):=⟨_,by first|exact((Fr.refl _ _).alloc _).drew|exact((Fr.refl _ _).drew).alloc _,lV⟩
  obtain⟨V,fV,gV⟩:=G3
  have TO:=A.out.fH (f:=⟨i,vt,2⟩) (FW.out.trans fV fun _ h=>h.elim) (by rw[Dl.out];exact gV) o9 H6 PGG.out
  have F4:Fr (fun k=>k=pb\/Value.ownBlock (.slice fa s.g.fa.length fc)=ae k) W (w3.setCell ⟨pb,8,af⟩<|.slice (ae ⟨gg,0,af⟩) (s.g.fa.length+1) cap):=((fV.mono fun _ h=>h.elim).grown gV fun k e=>.inl<|.inr e).setCell (p:=⟨pb,8,af⟩) (.inl<|.inl rfl) _
  clear fV gV
  clear o9 lV uF uT k0 k1 H6
  generalize w3.setCell ⟨pb,8,af⟩ (.slice (ae ⟨gg,0,af⟩) (s.g.fa.length+1) cap)=W4 at TO F4⊢
  generalize(Value.slice (ae ⟨gg,0,af⟩) (s.g.fa.length+1) cap)=EG at TO
  have TT:Hid (bQ w W4 B pb xb s (N+1)<|s.fH (s.g.fa++[⟨i,vt,2⟩]) EG):=TO
  have Yv:∀k,Value.ownBlock (.slice fa s.g.fa.length fc)=ae k->k<w.heap.size:=fun k hk=>(zg.out.lt k hk).2
  have RG:Hid (W4.heap[w1.heap.size]? =ae (.cells #[.int .i64 ve,.int .i64 vt,.int .i64 3,.slice aa T1.length ac,.slice ba T2.length bc] 58 (0,0))):=(F4.block _ (aS T6.out) (fun e=>by
   have:=F1.out.size;rcases e with e|e
   ·omega
   ·have:=Yv _ e;omega)).trans T6.out
  have R4:Hid (W4.heap[w.heap.size]? =ae (.cells #[.int .i64 0,.int .i64 0,.int .i64 0,.slice af 0 0,.slice af 0 0] 58 (0,0))):=(F4.block _ (dY (aS B1.out) gX.out.size) (fun e=>by
   rcases e with e|e
   ·omega
   ·have:=Yv _ e;omega)).trans ((gX.out.block _ (aS B1.out) id).trans B1.out)
  have ho:∀k,w.heap.size<=k->¬(k=pb\/Value.ownBlock (.slice fa s.g.fa.length fc)=ae k):=fun k hk e=>by
   rcases e with e|e
   ·omega
   ·have:=Yv _ e;omega
  have VA4:Hid (W4.ownsRow w.heap.size 3 1 (.slice aa T1.length ac) T1.length<|fK T1):=F4.ownsRow (gX.out.ownsRow VA.out fun _ _=>id) fun k hk=>ho k (VA.out.lt k hk).1
  have VB4:Hid (W4.ownsRow w.heap.size 3 1 (.slice ba T2.length bc) T2.length<|fK T2):=F4.ownsRow (gX.out.ownsRow VB.out fun _ _=>id) fun k hk=>ho k (VB.out.lt k hk).1
  have z0:W4.cell? ⟨w1.heap.size,0,af⟩=ae (.int .i64 ve):=aG RG.out 0
  have z1:W4.cell? ⟨w1.heap.size,1,af⟩=ae (.int .i64 vt):=aG RG.out 1
  have z2:W4.cell? ⟨w1.heap.size,2,af⟩=ae (.int .i64 3):=aG RG.out 2
  have z3:W4.cell? ⟨w1.heap.size,3,af⟩=ae (.slice aa T1.length ac):=aG RG.out 3
  have z4:W4.cell? ⟨w1.heap.size,4,af⟩=ae (.slice ba T2.length bc):=aG RG.out 4
  have z5:W4.cell? ⟨pb,5,af⟩=ae (.slice (ae ⟨eg,0,af⟩) s.g.ep.length je):=by rw[<-jX.out];exact aG TO.at_.pa.blk 5
  have ze:W4.cell? ⟨eg,i,af⟩=ae (.int .i64 ve):=zO (by have:=TO.at_.pa.ep;simp only[dB.fH]at this;rw[jX.out]at this;exact this) HE.out
  clear TO F4 ho Yv
  go_wp2_with fail
  go_quiet (fail)
  go_wp2_with (refine aCz rfl 58 _ _ rfl w.heap.size 0 #[.int .i64 ve,.int .i64 vt,.int .i64 _,.slice aa T1.length ac,.slice ba T2.length bc] rfl rfl (JU ((((Fr.refl (fun _=>False) _).drewN _).block _ (aS R4.out) id).trans R4.out)<|by simp) Ik (by simp[Value.oneCell']) ?_)
  refine aCk (Ij rfl _ _ _ 58 _ (0,0) _ rfl (Ii _ 0<|(((Fr.refl (fun _=>False) _).drewN _).block _ (aS R4.out) id).trans R4.out) underlying58 rfl Ik) rfl ?_
  exact⟨_,_,rfl,(Ou ((Fr.refl _ _).drewN _) _).ownsRow VA4.out<|WT VA4.out R4.out<|by decide,(Ou ((Fr.refl _ _).drewN _) _).ownsRow VB4.out<|WT VB4.out R4.out<|by decide,EG,TT.out.boxed (bV _) (Ou ((Fr.refl _ _).drewN _) _)<|TT.out.at_.zf R4.out<|by decide⟩
end
end
section
section
variable{w w':ah}{B pb xb N:Nat}{s:dB}
variable{i:Nat}
def bu.ps(a:bu w B pb xb N s)(hi:(i:Int)<s.h.P):∃x,s.h.ps[i]? =ae x:=by
 have:=a.pg.sn.h6;have:=a.pg.sn.P1.2;exact⟨_,dR<|show i<s.h.ps.length by omega⟩
def bu.ep(a:bu w B pb xb N s)(hi:(i:Int)<s.h.P):∃e,s.g.ep[i]? =ae e:=by
 have:=a.pg.ep;exact⟨_,dR<|show i<s.g.ep.length by omega⟩
def bu.Dp(a:bu w B pb xb N s)(hu:s.h.up=true){x:PS}{e:Int}(hx:s.h.ps[i]? =ae x)(he:s.g.ep[i]? =ae e):x.e=e/\1<=e/\e<=N:=by
 have h1:=(a.pg.sn.up hu i x hx).k.e;have h2:=a.pg.ee i e he;have h3:=(a.pg.sn.valid.qY i).e1;have h4:=a.pg.sn.eG;exact⟨h1.trans h2.1.symm,h2.2,by omega⟩
inductive Saw(w:ah)(B pb xb N:Nat)(s:dB)(x:PS):Ending->ah->Prop
 |mk {va vb iL:aj} {fa':List Fa} {w':ah} (n1:zQ w w' va (bF x.aT 1 4)) (n2:zQ w w' vb (bF x.aT 2 4)) (t:bQ w w' B pb xb s (N+1) (s.fH fa' iL)):Saw w B pb xb N s x (.returned<|.tuple #[.agg #[.int .i64 x.e,.int .i64 x.t,.int .i64 x.s,va,vb],.bool true]) w'
def Ja(a:bu w B pb xb N s)(hN:N<=100000000){i:Nat}(hi:(i:Int)<s.h.P)(hu:s.h.up=true){x:PS}(hx:s.h.ps[i]? =ae x):
 aK prog 22 #[.pointer<|ae ⟨pb,0,af⟩,.int .i64 i] w (Saw w B pb xb N s x):=by
 obtain⟨e,he⟩:=a.ep hi;have wV:=(a.Dp hu hx he).1;have k:=(a.pg.sn.up hu i x hx).k;have f:=a.pg.sn.valid.qY i;obtain⟨n1,n2,n3⟩:=atD a.pg i;rw[<-k.s,<-k.t]at n1 n2 n3;have s0:=f.s0;have s1:=f.s1;rw[<-k.s]at s0 s1;by_cases hn:x.s=3/\iE s.g.fa i x.t=0
 ·have hd:fM s.L i x.t false:=by
   have:=(a.pg.sn.valid.NC i).now (by rw[<-k.s];omega);rw[<-k.s,<-k.t,hn.1]at this;exact this
  exact(atM a hi hu hx he wV hn.2 hn.1 hN<|a.pg.atG hd).mono fun e w' ⟨va,vb,h1,h2,h3,iL,h4⟩=>by rw[h1];exact .mk h2 h3 h4
 ·refine(atL a hi hu hx he wV rfl ?_).mono fun e w' ⟨va,vb,h1,h2,h3,h4⟩=>by rw[h1];exact .mk h2 h3 (fa':=s.g.fa) (iL:=s.v.fv) ((bQ.still a h4).mono<|by omega)
  rcases(show x.s=0\/x.s=1\/x.s=2\/x.s=3 by omega)with e|e|e|e
  ·exact .inl e
  ·exact .inr<|.inl ⟨e,n1 e⟩
  ·exact .inr<|.inr<|.inl ⟨e,n2 e⟩
  ·refine .inr<|.inr<|.inr ⟨e,?_⟩;rcases n3 e with z|z
   ·exact absurd ⟨e,z⟩ hn
   ·exact z
end
end
section
structure jY(w w':ah)(B pb xb:Nat)(s:dB)(N:Nat)(s':dB):Prop where
 to:bQ w w' B pb xb s N s'
 g:s'.g=s.g
 v:s'.v=s.v
 up:s'.h.up=s.h.up
section
variable{w w':ah}{B pb xb N M:Nat}{s s':dB}
def jY.still(a:bu w B pb xb N s)(f:Fr aH w w'):jY w w' B pb xb s N s:=⟨bQ.still a f,rfl,rfl,rfl⟩
def jY.mono(t:jY w w' B pb xb s N s')(hM:N<=M):jY w w' B pb xb s M s':=⟨t.to.mono hM,t.g,t.v,t.up⟩
def jY.of(a:bu w B pb xb N s){n':Nat}{h':HS}{L':List Rc}(m:bI w w' B xb N s.h n' h')(hc:h'.P=s.h.P/\h'.Q=s.h.Q/\h'.T=s.h.T/\h'.K=s.h.K)(ax:iC h'.pl)(hn:n'<=M)(hM:N<=M)(hu:h'.up=s.h.up)(pg:Pg M h' L' s.g):jY w w' B pb xb s M ⟨h',L',s.g,s.v⟩:=⟨bQ.atJ a m hc ax hn hM pg,rfl,rfl,hu⟩
def bu.q(a:bu w B pb xb N s){q:Nat}(hq:(q:Int)<s.h.Q):∃p,s.h.pl[q]? =ae p:=by
 have:=a.ha.hQ.1;exact⟨_,dR<|show q<s.h.pl.length by omega⟩
structure pX(i:Nat)(h h':HS):Prop where
 up:h'.up=h.up
 fl:h'.fl=h.fl
 ot:∀j,j≠i->h'.ps[j]? =h.ps[j]?
 out:∀(q:Nat) (p':PL),h'.pl[q]? =ae p'->∃p,h.pl[q]? =ae p/\p'.out=p.out
def pX.refl(i:Nat)(h:HS):pX i h h:=⟨rfl,rfl,fun _ _=>rfl,fun _ p' hp=>⟨p',hp,rfl⟩⟩
variable{i:Nat}{h h':HS}
def pX.trans{h1:HS}(a:pX i h h1)(b:pX i h1 h'):pX i h h':=⟨b.up.trans a.up,b.fl.trans a.fl,fun j hj=>(b.ot j hj).trans<|a.ot j hj,fun q p' hp=>by
 obtain⟨p1,h1,e1⟩:=b.out q p' hp;obtain⟨p,h0,e0⟩:=a.out q p1 h1;exact⟨p,h0,e1.trans e0⟩⟩
def pX.dE(i:Nat)(h:HS)(x:PS):pX i h (h.dE i x):=⟨rfl,rfl,fun _ hj=>vz hj.symm,fun _ p' hp=>⟨p',hp,rfl⟩⟩
def pX.gy{q:Nat}{p p':PL}(hp:h.pl[q]? =ae p)(e:p'.out=p.out):pX i h (h.gy q p'):=⟨rfl,rfl,fun _ _=>rfl,fun k y hy=>by
 by_cases hk:q=k
 ·subst hk;rw[show(h.gy q p').pl[q]? =ae p' from mD (dD.1 hp).1]at hy;cases hy;exact⟨p,hp,e⟩
 ·rw[show(h.gy q p').pl[k]? =h.pl[k]? from vz hk]at hy;exact⟨y,hy,rfl⟩⟩
def pX.wrote{r:Rc}(hr:r.p=(i:Int))(ho:jo h r true h'):pX i h h':=by
 cases ho with
 |ok jv _=>
  refine⟨rfl,rfl,fun j hj=>?_,fun _ p' hp=>⟨p',hp,rfl⟩⟩;show(h.ps.set r.p.toNat _)[j]? =_;exact vz<|by omega
structure aii(s:dB)(i q:Nat)(x:PS)(s2:dB)(x2:PS):Prop where
 Dq:pX i s.h s2.h
 ok:(x.s=0\/x.s=1)->∀p,s.h.pl[q]? =ae p->p.out=false->x2.s=1/\x2.aT.getD q 0≠0/\∃p2,s2.h.pl[q]? =ae p2/\p2.s=p.s.opened i x2.t/\p2.out=false
inductive Ox(x:PS):Int->PS->Prop
 |busy (hs:x.s=2\/x.s=3):Ox x 9 x
 |out (hs:x.s=0\/x.s=1):Ox x 10 x
 |new {x2:PS} (hs:x.s=0) (h1:x2.s=1) (h2:x2.t=x.t+1) (h3:(bF x2.aT 1 4).length=1):Ox x 0 x2
 |more {x2:PS} (hs:x.s=1) (h1:x2.s=1) (h2:x2.t=x.t):Ox x 0 x2
inductive abK(w:ah)(B pb xb N:Nat)(s:dB)(i q:Nat)(x:PS):Ending->ah->Prop
 |mk {code:Int} {x2:PS} {s2:dB} {w':ah} (t:jY w w' B pb xb s (N+2) s2) (hx:s2.h.ps[i]? =ae x2) (r:Ox x code x2) (ax:aii s i q x s2 x2):abK w B pb xb N s i q x (.returned<|.int .i64 code) w'
variable{x:PS}{q:Nat}{ep:Int}
def atQ(hq:q<4)(hz:∀j:Nat,j<4->x.aT.getD j 0=if j=q then 1 else 0):(bF x.aT 1 4).length=1:=by
 have:bF x.aT 1 4=[(q:Int)]:=by
  unfold bF;have h:(List.range 4).filter (fun i=>decide<|(1:Int)<=x.aT.getD i 0)=(List.range 4).filter fun i=>decide (i=q):=by
   refine UE fun j hj=>?_;rw[hz j<|Ic.1 hj];by_cases e:j=q<;>simp[e]
  rw[h];match q,hq with
  |0,_|1,_|2,_|3,_=>rfl
 rw[this];rfl
def aij(hl:i<h.ps.length)(x:PS):(h.dE i x).ps[i]? =ae x:=mD hl
def atS(a:bu w B pb xb N s)(hN:N<=90000000)(hi:(i:Int)<s.h.P)(hq:(q:Int)<s.h.Q)(hu:s.h.up=true)(hx:s.h.ps[i]? =ae x)(he:s.g.ep[i]? =ae ep):
 aK prog 63 #[.pointer<|ae ⟨xb,0,af⟩,.int .i64 i,.int .i64 ep,.int .i64 q] w (abK w B pb xb N s i q x):=by
 obtain⟨p,hp⟩:=a.q hq;obtain⟨e1,e2,_⟩:=a.Dp hu hx he;have hb:s.h.bars x ep=0:=by
  unfold HS.bars;rw[hu,if_neg<|by simp,if_neg<|by omega]
 have f:=a.pg.sn.valid.qY i;have pr:=a.pg.sn.up hu i x hx;have s0:=f.s0;have s1:=f.s1;rw[<-pr.k.s]at s0 s1;have hQ:=a.pg.sn.Q1.2;have vV:=(dD.1 hp).1;have kQ:=(dD.1 hx).1;by_cases h2:x.s=2\/x.s=3
 ·exact(anf a.ha hi vV hx hb h2).mono fun e w' ⟨g1,g2⟩=>by rw[g1];exact .mk ((jY.still a g2).mono<|by omega) hx (.busy h2) ⟨.refl _ _,fun z=>by omega⟩
 have MM:x.s=0\/x.s=1:=by omega
 cases ho:p.out with
 |true=>exact(ang a.ha hi hp ho hx hb MM).mono fun e w' ⟨g1,g2⟩=>by rw[g1];exact .mk ((jY.still a g2).mono<|by omega) hx (.out MM) ⟨.refl _ _,fun _ p1 sW Jm=>by rw[hp]at sW;cases sW;rw[ho]at Jm;cases Jm⟩
 |false=>
  by_cases ht:x.aT.getD q 0=0
  ·have hn:=a.pg.sn.atz hu hi hq hx MM ht;refine(anj a.ha a.ax hi hp ho hx hb MM ht (by unfold dH;omega)<|a.pg.sn.may (by omega) hn).mono fun e w' h=>?_;cases h with
   |sD hw=>
    cases hw with
    |sD jv pz=>rw[a.pg.sn.br]at pz;cases pz
   | @ok h1 v' _ hw hm ha=>
     obtain⟨_,sn,gr,Yw,hP,hQ',hT,hK⟩:=a.pg.sn.added hu v' hi hq hx hp hn hw;have fP:h1.ps.length=6:=by
      cases hw with
      |ok jv _=>show(jE s.h.ps _).length=6;simp[jE,a.pg.sn.h6]
     refine .mk (x2:={x.bJ ⟨2,i,q,x.next⟩with si:=0}) (jY.of a hm ⟨hP,hQ',hT,hK⟩ ha (by omega) (by omega) (Yw.trans hu.symm)<|a.pg.add rfl sn hP (Yw.trans hu.symm) gr) (aij (by show i<h1.ps.length;have:=a.pg.sn.h6;omega) _) ?_ ⟨((pX.wrote rfl hw).trans<|pX.gy (p:=p) (p':=⟨p.lb,p.bm,v',p.s.opened i x.next,p.out⟩) (by cases hw;exact hp) rfl).trans<|.dE _ _ _,fun _ p1 sW Jm=>?_⟩;rotate_left
     ·rw[hp]at sW;cases sW;obtain⟨y1,_,y3⟩:=ae2 x i q x.next;refine⟨y3,?_,⟨p.lb,p.bm,v',p.s.opened i x.next,p.out⟩,mD (by cases hw;exact vV),by show _=p.s.opened i (x.bJ ⟨2,i,q,x.next⟩).t;rw[y1],Jm⟩;show(x.bJ ⟨2,i,q,x.next⟩).aT.getD q 0≠0;rw[show x.bJ ⟨2,i,q,x.next⟩=({x with s:=1,t:=x.next}:PS).tie q 1 by simp[PS.bJ],FO _ q 1 (by omega) (by omega) q];simp
     have hd:x.bJ ⟨2,i,q,x.next⟩=({x with s:=1,t:=x.next}:PS).tie q 1:=by simp[PS.bJ]
     obtain⟨_,r2,r3,_⟩:=FP ({x with s:=1,t:=x.next}:PS) q 1;have k1:({x.bJ ⟨2,i,q,x.next⟩with si:=0}:PS).s=1:=by show(x.bJ ⟨2,i,q,x.next⟩).s=1;rw[hd,r3]
     have k2:({x.bJ ⟨2,i,q,x.next⟩with si:=0}:PS).t=x.next:=by show(x.bJ ⟨2,i,q,x.next⟩).t=x.next;rw[hd,r2]
     rcases MM with hs|hs
     ·refine .new hs k1 (k2.trans (by unfold PS.next;rw[if_pos hs])) (atQ (q:=q) (by omega) fun j hj=>?_);show(x.bJ ⟨2,i,q,x.next⟩).aT.getD j 0=_;rw[hd,FO _ q 1 (by omega) (by omega) j];obtain⟨z1,z2,z3,z4⟩:=pr.k.none hs;by_cases e:j=q
      ·subst e;simp
      ·rw[if_neg<|by omega,if_neg e,P8 _ j hj];simp[z1,z2,z3,z4]
     ·exact .more hs k1<|k2.trans (by unfold PS.next;rw[if_neg<|by omega])
  ·refine(anh a.ha a.ax hi hp ho hx hb MM ht (by unfold dH;omega)).mono fun e w' h=>?_;cases h with
   | @mk v' _ hm ha=>
     obtain⟨G8,sn,gr⟩:=a.pg.sn.again hu v' hi hq hx hp ht MM;exact .mk (x2:={x with si:=0}) ((jY.of a hm ⟨rfl,rfl,rfl,rfl⟩ ha (bV _) (by omega) rfl<|a.pg.same sn rfl rfl gr).mono<|by omega) (aij kQ _) (.more G8 G8 rfl) ⟨(pX.gy (p':=⟨p.lb,p.bm,v',p.s.opened i x.t,p.out⟩) hp rfl).trans<|.dE _ _ _,fun _ p1 sW Jm=>by rw[hp]at sW;cases sW;exact⟨G8,ht,_,mD vV,rfl,Jm⟩⟩
def abL(a:bu w B pb xb N s)(hu:s.h.up=true)(hx:s.h.ps[i]? =ae x)(he:s.g.ep[i]? =ae ep):s.h.bars x (ep-1)=7:=by
 obtain⟨e1,e2,_⟩:=a.Dp hu hx he;unfold HS.bars;rw[hu,if_neg<|by simp,if_pos<|by omega]
def abM(hu:s.h.up=false)(x:PS)(e:Int):s.h.bars x e=5:=by
 unfold HS.bars;rw[hu,if_pos rfl]
end
end
section
section
variable{w w':ah}{B pb xb N:Nat}{s s':dB}
def bu.sK(a:bu w B pb xb N s){eg cap i:Nat}{e:Int}(dI:s.v.ev=.slice (ae ⟨eg,0,af⟩) s.g.ep.length cap)(he:s.g.ep[i]? =ae e):w.cell? ⟨pb,0,af⟩=ae (.pointer<|ae ⟨xb,0,af⟩)/\w.cell? ⟨pb,5,af⟩=ae (.slice (ae ⟨eg,0,af⟩) s.g.ep.length cap)/\w.cell? ⟨eg,i,af⟩=ae (.int .i64 e)/\w.cell? ⟨pb,6,af⟩=ae (.bool s.g.dn)/\pb<w.heap.size/\eg<w.heap.size:=by
 obtain⟨c0,_,_,c5,c6,_⟩:=a.cells;have bY:=a.pa.ep;rw[dI]at c5 bY;exact⟨c0,c5,zO bY he,c6,aS a.pa.blk,(bY.lt eg rfl).2⟩
structure WU(s:dB)(i q:Nat)(s':dB):Prop where
 wr:s'.g.wr=s.g.wr
 Dq:pX i s.h s'.h
 ok:∀x p,s.h.ps[i]? =ae x->(x.s=0\/x.s=1)->s.h.pl[q]? =ae p->p.out=false->∃x2 p2,s'.h.ps[i]? =ae x2/\x2.s=1/\x2.aT.getD q 0≠0/\s'.h.pl[q]? =ae p2/\p2.s=p.s.opened i x2.t/\p2.out=false/\(x.s=0->(bF x2.aT 1 4).length=1)
def aik(a:bu w B pb xb N s)(hN:N<=80000000){i q:Nat}(hi:(i:Int)<s.h.P)(hq:(q:Int)<s.h.Q)(hu:s.h.up=true):
 aK prog 25 #[.pointer<|ae ⟨pb,0,af⟩,.int .i64 i,.int .i64 q] w fun e w'=>e=.returned (.bool true)/\∃s',bQ w w' B pb xb s (N+4) s'/\s'.h.up=true/\WU s i q s':=by
 obtain⟨x,hx⟩:=a.ps hi;obtain⟨ep,he⟩:=a.ep hi;obtain⟨e1,e2,e3⟩:=a.Dp hu hx he;have qg:i<s.g.ep.length:=(dD.1 he).1;obtain⟨eg,je,dI,_⟩:=uO a.pa.ep (by omega);have A:Hid (bu w B pb xb N s):=a;have fF:Hid (N<=80000000):=hN;have HI:Hid ((i:Int)<s.h.P):=hi;have HQ:Hid ((q:Int)<s.h.Q):=hq;have HU:Hid (s.h.up=true):=hu;have HX:Hid (s.h.ps[i]? =ae x):=hx;have HE:Hid (s.g.ep[i]? =ae ep):=he;have jX:Hid (s.v.ev=.slice (ae ⟨eg,0,af⟩) s.g.ep.length je):=dI;have yh:(i:Int)<(s.g.ep.length:Int):=by omega
 have sV:(0:Int)<=(i:Int):=by omega
 have hep:ep<=80000000:=by omega
 have yE:IntKind.i64.wrap (ep-1)=ep-1:=wrap_i64 (by omega) (by omega);clear a hi hq hu hx he dI hN e1 e3 qg;go_enter func25,ntmps25
 go_wp2_with fail
 refine(Ja A.out (by have:=fF.out;omega) HI.out HU.out HX.out).mono ?_;rintro e w1 ⟨n1,n2,t1⟩;rename_i va vb gY fC;obtain⟨aa,ac,rfl,_⟩:=lC n1;obtain⟨ba,bc,rfl,_⟩:=lC n2;have T1:Hid (bQ w w1 B pb xb s (N+1)<|s.fH fC gY):=t1;generalize AP:(bF x.aT 1 4).length=l1;generalize AQ:(bF x.aT 2 4).length=l2;clear n1 n2 t1 AP AQ;go_wp2_with fail
 have ZW:Hid (∃W:ah,W=w1.alloc (.cells #[.int .i64 x.e,.int .i64 x.t,.int .i64 x.s,.slice aa l1 ac,.slice ba l2 bc] 58)):=⟨_,rfl⟩;obtain⟨W1,eW⟩:=ZW.out;rw[<-eW];have gX:Hid (Fr aH w1 W1):=by subst eW;exact aZ _
 have X1:Hid (W1.heap[w1.heap.size]? =ae (.cells #[.int .i64 x.e,.int .i64 x.t,.int .i64 x.s,.slice aa l1 ac,.slice ba l2 bc] 58 (0,0))):=by subst eW;exact aB0 _ _
 have kL:Hid (bu W1 B pb xb (N+1)<|s.fH fC gY):=T1.out.at_.after gX.out;clear ZW eW;obtain⟨d0,d5,de,d6,aB,oC⟩:=kL.out.sK jX.out HE.out;have HC:Hid (aK prog 63 #[.pointer<|ae ⟨xb,0,af⟩,.int .i64 i,.int .i64<|ep-1,.int .i64 q] W1.drew fun e w'=>e=.returned (.int .i64 7)/\W1.drew=w'):=by
  have hb:=abL kL.out HU.out HX.out HE.out;have vV:q<s.h.pl.length:=by
   have h1:=HQ.out;have h2:s.h.Q=s.h.pl.length:=kL.out.ha.hQ.1;omega
  have:=ae0 (ep:=ep-1) (kL.out.ha.after<|(Fr.refl _ _).drew) HI.out vV HX.out (by rw[hb];decide);rw[hb]at this;exact this
 go_region_held3 (fun w'=>w'.cell? ⟨pb,0,af⟩=ae (.pointer<|ae ⟨xb,0,af⟩)/\w'.cell? ⟨pb,5,af⟩=ae (.slice (ae ⟨eg,0,af⟩) s.g.ep.length je)/\w'.cell? ⟨eg,i,af⟩=ae (.int .i64 ep))
  (first|exact⟨d0,d5,de⟩|go_keep)
  ((go_at_call 63;with_reducible refine HC.out.mono ?_;rintro e w2 ⟨rfl,rfl⟩))
 go_wp2_with fail
 have rJ:Hid (∀V,Fr aH W1 V->aK prog 63 #[.pointer<|ae ⟨xb,0,af⟩,.int .i64 i,.int .i64 ep,.int .i64 q] V (abK V B pb xb (N+1) (s.fH fC gY) i q x)):=fun V f=>atS (kL.out.after f) (by have:=fF.out;omega) HI.out HQ.out HU.out HX.out HE.out;go_region_held3 (fun w'=>w'.cell? ⟨pb,0,af⟩=ae (.pointer<|ae ⟨xb,0,af⟩)/\w'.cell? ⟨pb,5,af⟩=ae (.slice (ae ⟨eg,0,af⟩) s.g.ep.length je)/\w'.cell? ⟨eg,i,af⟩=ae (.int .i64 ep))
  (first|with_reducible exact C3|exact⟨d0,d5,de⟩|go_keep)
  ((go_at_call 63;with_reducible refine(rJ.out _<|((Fr.refl _ _).drew).drew).mono ?_;rintro e w3 ⟨t3,Jq,r3,ax3⟩
    rename_i code x2 s2
    have T3:Hid (jY W1.drew.drew w3 B pb xb (s.fH fC gY) (N+3) s2):=t3
    have Jb:Hid (s2.h.ps[i]? =ae x2):=Jq
    have R3:Hid (Ox x code x2):=r3
    have Jc:Hid (s2.v.ev=.slice (ae ⟨eg,0,af⟩) s2.g.ep.length je):=by show s2.v.ev=_;rw[t3.v,t3.g];exact jX.out
    have mO:Hid (s2.g.ep[i]? =ae ep):=by show s2.g.ep[i]? =_;rw[t3.g];exact HE.out
    have C3:w3.cell? ⟨pb,0,af⟩=ae (.pointer<|ae ⟨xb,0,af⟩)/\w3.cell? ⟨pb,5,af⟩=ae (.slice (ae ⟨eg,0,af⟩) s.g.ep.length je)/\w3.cell? ⟨eg,i,af⟩=ae (.int .i64 ep):=by
     obtain⟨k0,k5,ke,_⟩:=t3.to.at_.sK Jc.out mO.out;rw[t3.g]at k5;exact⟨k0,k5,ke⟩
    have AX3:Hid (aii (s.fH fC gY) i q x s2 x2):=ax3
    clear t3 Jq r3 ax3))
 go_wp2_with fail
 have F3:Hid (Fr ((s.fH fC gY).dZ pb xb) W1 w3):=((((Fr.refl (fun _=>False) _).drew).drew).mono fun _ h=>h.elim).trans T3.out.to.fr fun _=>.inl;have X3:Hid (w3.heap[w1.heap.size]? =ae (.cells #[.int .i64 x.e,.int .i64 x.t,.int .i64 x.s,.slice aa l1 ac,.slice ba l2 bc] 58 (0,0))):=(F3.out.block _ (aS X1.out)<|kL.out.zf X1.out<|by decide).trans X1.out;refine(Ja T3.out.to.at_ (by have:=fF.out;omega) (by have h1:s2.h.P=s.h.P:=T3.out.to.cf.1;rw[h1];exact HI.out) (T3.out.up.trans HU.out) Jb.out).mono ?_;rintro e w4 ⟨n1,n2,t4⟩;rename_i va vb EG Px;obtain⟨ca,cc,rfl,_⟩:=lC n1;obtain⟨da,dc,rfl,_⟩:=lC n2;have T4:Hid (bQ w3 w4 B pb xb s2 (N+4)<|s2.fH Px EG):=t4;obtain⟨_,_,_,g6,ayB,_⟩:=t4.at_.sK Jc.out mO.out;have X4:Hid (w4.heap[w1.heap.size]? =ae (.cells #[.int .i64 x.e,.int .i64 x.t,.int .i64 x.s,.slice aa l1 ac,.slice ba l2 bc] 58 (0,0))):=(t4.fr.block _ (aS X3.out)<|T3.out.to.at_.zf X3.out<|by decide).trans X3.out;have kR:(s2.fH Px EG).g.dn=false:=by
  show s2.g.dn=false;rw[T3.out.to.at_.pg.dn,show s2.h.up=true from T3.out.up.trans HU.out];rfl
 rw[kR]at g6;have y1:w4.cell? ⟨w1.heap.size,1,af⟩=ae (.int .i64 x.t):=aG X4.out 1;have y2:w4.cell? ⟨w1.heap.size,2,af⟩=ae (.int .i64 x.s):=aG X4.out 2;have y1l:w1.heap.size<w4.heap.size:=aS X4.out;have kT:Hid (∀V,Fr aH w4 V->bQ w V B pb xb s (N+4) (s2.fH Px EG)):=fun V f=>(((T1.out.after gX.out).trans<|bQ.behind (((Fr.refl _ _).drew).drew) T3.out.to).trans T4.out).after f;have WV:Hid ((s2.fH Px EG).h.up=true/\WU s i q (s2.fH Px EG)):=⟨T3.out.up.trans HU.out,(show s2.g.wr=s.g.wr by rw[T3.out.g];rfl),AX3.out.Dq,fun y p hy hs hp ho=>by
  rw[HX.out]at hy;cases hy;obtain⟨z1,z2,p2,z3,z4,z5⟩:=AX3.out.ok hs p hp ho;refine⟨x2,p2,Jb.out,z1,z2,z3,z4,z5,fun h0=>?_⟩;have r:=R3.out;cases r with
  |new _ _ _ h3=>exact h3
  |_=>omega⟩
 clear n1 n2 t4 kR d0 d5 de d6 aB oC;have XT:Hid (0<=x.t/\x.t<=80000000):=by
  have k:=(A.out.pg.sn.up HU.out i x HX.out).k;have f:=A.out.pg.sn.valid.qY i;have:=A.out.pg.sn.eG;have:=fF.out;exact⟨by rw[k.t];exact f.t0,by rw[k.t];have:=f.t1;omega⟩
 obtain⟨xe,xt,xs,xa,wW,xc,xd,xi,xw,xg⟩:=x;have XT':Hid (0<=xt/\xt<=80000000):=XT.out;obtain⟨ye,yt,ys,ya,RH,yc,yd,yi,yw,yg⟩:=x2;simp only at y1 y2;generalize Uf:(bF (⟨ye,yt,ys,ya,RH,yc,yd,yi,yw,yg⟩:PS).aT 1 4).length=tl;generalize(bF (⟨ye,yt,ys,ya,RH,yc,yd,yi,yw,yg⟩:PS).aT 2 4).length=tl2;have r:=R3.out;clear R3;cases r with
 |busy hs=>
  rcases hs with hs|hs<;>simp only at hs<;>subst hs<;>go_wp2<;>go_ret<;>exact⟨rfl,_,kT.out _<|aZ _,WV.out⟩
 |out hs=>
  rcases hs with hs|hs<;>simp only at hs<;>subst hs<;>go_wp2<;>go_ret<;>exact⟨rfl,_,kT.out _<|aZ _,WV.out⟩
 |new hs h1 h2 h3=>
  simp only at hs h1 h2;rw[Uf]at h3;subst hs h1 h2 h3;have uy:IntKind.i64.wrap (xt+1)=xt+1:=wrap_i64 (by have:=XT'.out;omega) (by have:=XT'.out;omega);go_wp2
  go_ret;exact⟨rfl,_,kT.out _<|aZ _,WV.out⟩
 |more hs h1 h2=>
  simp only at hs h1 h2;subst hs h1 h2;go_wp2
  go_ret;exact⟨rfl,_,kT.out _<|aZ _,WV.out⟩
end
end
section
section
variable{w w':ah}{B pb xb N:Nat}{s s':dB}
def atT(a:bu w B pb xb N s)(hN:N<=80000000){i q:Nat}(hi:(i:Int)<s.h.P)(hq:(q:Int)<s.h.Q)(hu:s.h.up=false):
 aK prog 25 #[.pointer<|ae ⟨pb,0,af⟩,.int .i64 i,.int .i64 q] w fun e w'=>e=.returned (.bool true)/\Fr aH w w':=by
 obtain⟨x,hx⟩:=a.ps hi;obtain⟨ep,he⟩:=a.ep hi;have wV:=a.pg.ee i ep he;have MN:=(a.pg.sn.valid.qY i).e1;have JI:=a.pg.sn.eG;have qg:i<s.g.ep.length:=(dD.1 he).1;obtain⟨eg,je,dI,_⟩:=uO a.pa.ep (by omega);have yE:IntKind.i64.wrap (ep-1)=ep-1:=wrap_i64 (by omega) (by omega);have A:Hid (bu w B pb xb N s):=a;have HI:Hid ((i:Int)<s.h.P):=hi;have HU:Hid (s.h.up=false):=hu;have HE:Hid (s.g.ep[i]? =ae ep):=he;have jX:Hid (s.v.ev=.slice (ae ⟨eg,0,af⟩) s.g.ep.length je):=dI;have HC:Hid (∀(V:ah) (e0:Int),Fr aH w V->aK prog 63 #[.pointer<|ae ⟨xb,0,af⟩,.int .i64 i,.int .i64 e0,.int .i64 q] V fun e w'=>e=.returned (.int .i64 5)/\V=w'):=fun V e0 f=>by
  have hb:=abM hu x e0;have vV:q<s.h.pl.length:=by
   have h2:s.h.Q=s.h.pl.length:=a.ha.hQ.1;omega
  have:=ae0 (ep:=e0) (a.ha.after f) hi vV hx (by rw[hb];decide);rw[hb]at this;exact this
 have yh:(i:Int)<(s.g.ep.length:Int):=by omega
 have sV:(0:Int)<=(i:Int):=by omega
 clear a hi hq hu hx he dI hN qg wV MN JI;go_enter func25,ntmps25
 go_wp2_with fail
 refine(Ov A.out HI.out HU.out).mono ?_;rintro e w1 ⟨rfl,bg⟩;have F1:Hid (Fr aH w w1):=bg;clear bg;go_wp2_with fail
 have ZW:Hid (∃W:ah,W=w1.alloc (.cells #[.int .i64 0,.int .i64 0,.int .i64 0,.slice af 0 0,.slice af 0 0] 58)):=⟨_,rfl⟩;obtain⟨W1,eW⟩:=ZW.out;rw[<-eW];have gX:Hid (Fr aH w W1):=by subst eW;exact F1.out.trans (aZ _) fun _ h=>h.elim
 clear ZW eW;obtain⟨d0,d5,de,d6,aB,oC⟩:=(A.out.after gX.out).sK jX.out HE.out;go_region_held3 (fun w'=>w'.cell? ⟨pb,0,af⟩=ae (.pointer<|ae ⟨xb,0,af⟩)/\w'.cell? ⟨pb,5,af⟩=ae (.slice (ae ⟨eg,0,af⟩) s.g.ep.length je)/\w'.cell? ⟨eg,i,af⟩=ae (.int .i64 ep))
  (first|exact⟨d0,d5,de⟩|go_keep)
  ((go_at_call 63;with_reducible refine(HC.out _ (ep-1)<|gX.out.drew).mono ?_;rintro e w2 ⟨rfl,rfl⟩))
 go_wp2_with fail
 go_region_held3 (fun w'=>w'.cell? ⟨pb,0,af⟩=ae (.pointer<|ae ⟨xb,0,af⟩)/\w'.cell? ⟨pb,5,af⟩=ae (.slice (ae ⟨eg,0,af⟩) s.g.ep.length je)/\w'.cell? ⟨eg,i,af⟩=ae (.int .i64 ep))
  (first|exact⟨d0,d5,de⟩|go_keep)
  ((go_at_call 63;with_reducible refine(HC.out _ ep<|(gX.out.drew).drew).mono ?_;rintro e w2 ⟨rfl,rfl⟩))
 go_wp2_with fail
 refine(Ov (A.out.after<|(gX.out.drew).drew) HI.out HU.out).mono ?_;rintro e w4 ⟨rfl,qX⟩;have F4:Hid (Fr aH w w4):=((gX.out.drew).drew).trans qX fun _ h=>h.elim;obtain⟨_,_,_,g6,ayB,_⟩:=(A.out.after F4.out).sK jX.out HE.out;have kR:s.g.dn=true:=by rw[A.out.pg.dn,HU.out];rfl
 rw[kR]at g6;clear qX kR;go_wp2
 go_ret;exact⟨rfl,F4.out.trans (aZ _) fun _ h=>h.elim⟩
def BD(w:ah)(B pb xb:Nat)(s:dB)(N:Nat)(R:dB->Prop)(e:Ending)(w':ah):Prop:=e=.returned (.bool true)/\∃s',bQ w w' B pb xb s N s'/\R s'
structure atU(w w':ah)(B pb xb:Nat)(s:dB)(N:Nat):Prop where
 ex:∃s',bQ w w' B pb xb s N s'
def jZ(w:ah)(B pb xb:Nat)(s:dB)(N:Nat)(e:Ending)(w':ah):Prop:=e=.returned (.bool true)/\atU w w' B pb xb s N
def BD.done{R:dB->Prop}{e:Ending}(d:BD w B pb xb s N R e w'):jZ w B pb xb s N e w':=⟨d.1,d.2.choose,d.2.choose_spec.1⟩
def atW(a:bu w B pb xb N s)(hN:N<=80000000){i q:Nat}(hi:(i:Int)<s.h.P)(hq:(q:Int)<s.h.Q):aK prog 25 #[.pointer<|ae ⟨pb,0,af⟩,.int .i64 i,.int .i64 q] w (jZ w B pb xb s<|N+4):=by
 cases hu:s.h.up with
 |true=>exact(aik a hN hi hq hu).mono fun e w' ⟨h1,s',h2,_⟩=>⟨h1,s',h2⟩
 |false=>exact(atT a hN hi hq hu).mono fun e w' ⟨h1,h2⟩=>⟨h1,s,(bQ.still a h2).mono<|by omega⟩
end
end
section
section
variable{w w':ah}{B pb xb N:Nat}{s:dB}
variable{i:Nat}{x:PS}{ep:Int}
def atX(a:bu w B pb xb N s)(hi:(i:Int)<s.h.P)(hu:s.h.up=true)(hx:s.h.ps[i]? =ae x)(he:s.g.ep[i]? =ae ep)(hs:x.s=0\/x.s=2\/x.s=3)(c:Bool):
 aK prog 28 #[.pointer<|ae ⟨xb,0,af⟩,.int .i64 i,.int .i64 ep,.bool c] w fun e w'=>e=.returned (.int .i64<|if x.s=0 then 8 else 9)/\w=w':=by
 obtain⟨e1,e2,_⟩:=a.Dp hu hx he;have hb:s.h.bars x ep=0:=by
  unfold HS.bars;rw[hu,if_neg<|by simp,if_neg<|by omega]
 by_cases h0:x.s=0
 ·rw[if_pos h0];exact anb a.ha hi hx hb h0 c
 ·rw[if_neg h0];exact anc a.ha hi hx hb (by omega) c
def atY(a:bu w B pb xb N s)(hi:(i:Int)<s.h.P)(hu:s.h.up=true)(hx:s.h.ps[i]? =ae x)(he:s.g.ep[i]? =ae ep)(c:Bool):
 aK prog 28 #[.pointer<|ae ⟨xb,0,af⟩,.int .i64 i,.int .i64<|ep-1,.bool c] w fun e w'=>e=.returned (.int .i64 7)/\w=w':=by
 have hb:=abL a hu hx he;have:=aeY (ep:=ep-1) a.ha hi hx (by rw[hb];decide) c;rw[hb]at this;exact this
end
end
end Go.Proofs.YtkelpcjiediamaaGreat
