import Derived.Test.YtkelpcjiediamaaGreatQf20
set_option maxRecDepth 100000
set_option maxHeartbeats 0
set_option linter.all false
namespace Go.Proofs.YtkelpcjiediamaaGreat
noncomputable section
open Go renaming Calls→aW,Frame→bH,FuncId→ji,TypeId→dJ,Value→aA,World→ay,execOp→dY,maxLen→eP,stepG→bK,undef→ai
open Go.Ending renaming returned→aV
open Go.IntKind renaming i64→ah,wrap→eF
open Go.Item renaming inRegion→bW
open Go.Obj renaming cells→aG
open Go.RowKit renaming Hid→aj,intOf→eU
open Go.Value renaming agg→iF,bool→aF,int→ag,ownBlock→bY,pointer→az,slice→aN,string→dK,tuple→dU
open Go.World renaming alloc→bz,cell?→aB,ownsRow→bD,setCell→aX
open Option renaming none→af,some→ae
open _root_.Array renaming replicate→gz
open Go.Proofs.Tryz
open Go.RowKit Go.Maps
section
def awS:(prog.info? 66).map (fun i=>(i.zero,i.size,i.bytes))=ae (ae<|iF #[ag ah 0,ag ah 0,ag ah 0,dK ⟨#[]⟩],4,40):=by kernel_rfl
variable{w w':ay}{B pb xb N:Nat}{s s':dm}
def awT{W W3 W5 w5:ay}{jA:aA}{i q:Nat}{t:Int}{ts:ByteArray}{h':HS}{p p':PL}(a:bJ W B pb xb N s)(hp:s.h.pl[q]? =ae p)(en:YN W.drew.drew W3 B xb N s.h s.L i q p t ts h' p')(b:iE W5 B pb xb s.h s.g s.v)(f5:Fr aS W3 W5){V:ay}(hW:Fr aS W5 V)(hg:V.grownBy w5 s.v.wv.ownBlock)(jf:bD w5 B 66 4 jA (s.g.wr.length+1) (s.g.wr.flatMap Wn.cs++Wn.cs ⟨q,i,t,ts⟩))(fC:∀k,bY jA=ae k->s.v.wv.ownBlock=ae k\/W5.heap.size<=k):
 cO W3 (aX w5 ⟨pb,7,af⟩ jA) B pb xb ⟨h',s.L,s.g,s.v⟩ (N+1) ⟨h',s.L,{s.g with wr:=s.g.wr++[⟨q,i,t,ts⟩]},{s.v with wv:=jA}⟩:=by
 have b':iE W5 B pb xb h' s.g s.v:=by
  refine⟨?_,b.ep,b.wr,b.fa,b.gt,b.gl,b.rc,b.st,b.ap,b.hb⟩;rw[en.cf.1,en.cf.2.1,en.cf.2.2.1,en.cf.2.2.2];exact b.blk
 exact cO.behind f5<|awu (s:=⟨h',s.L,s.g,s.v⟩) (en.mv.at_.a f5) en.ax b' a.wr a.fa (by omega) hW hg jf fC<|a.pg.put hp en.sn en.cf.1 en.up en.pl en.data en.ext
structure Ns(s:dm)(i q:Nat)(x:PS)(ts:ByteArray)(s':dm):Prop where
 wr:s'.g.wr=s.g.wr++[⟨q,i,x.t,ts⟩]
 qE:pO i s.h s'.h
 me:∃x',s'.h.ps[i]? =ae x'/\x'.s=1/\x'.t=x.t
structure Nu(s:dm)(i q:Nat)(x:PS)(p:PL)(ts:ByteArray)(s':dm):Prop where
 qE:pO i s.h s'.h
 gt:s'.g.gt=s.g.gt
 sub:∀r∈s.L,r∈s'.L
 me:∃x',s'.h.ps[i]? =ae x'/\x'.s=x.s/\x'.t=x.t
 wr:(Ar x p i q ts/\s'.g.wr=s.g.wr++[⟨q,i,x.t,ts⟩])\/(¬Ar x p i q ts/\s'.g.wr=s.g.wr)
def adP(a:bJ w B pb xb N s)(hN:N<=80000000){i q:Nat}(hi:(i:Int)<s.h.P)(hu:s.h.up=true){x:PS}(hx:s.h.ps[i]? =ae x){p:PL}(hp:s.h.pl[q]? =ae p){ts:ByteArray}(h8:ts.size<=8):
 aW prog 61 #[az<|ae ⟨pb,0,af⟩,ag ah i,ag ah q,dK ts] w (yK w B pb xb s (N+4) fun s'=>(Ar x p i q ts->Ns s i q x ts s')/\Nu s i q x p ts s'):=by
 obtain⟨i0,ed,iI,ig,jg⟩:=aFq awS;obtain⟨ep,he⟩:=a.ep hi;obtain⟨e1,e2,e3⟩:=a.EI hu hx he;have qX:i<s.g.ep.length:=(dS.1 he).1;obtain⟨eg,jO,eX,_⟩:=rF a.pa.ep (by omega);have A:aj (bJ w B pb xb N s):=a;have fK:aj (N<=80000000):=hN;have HI:aj ((i:Int)<s.h.P):=hi;have HU:aj (s.h.up=true):=hu;have HX:aj (s.h.ps[i]? =ae x):=hx;have HE:aj (s.g.ep[i]? =ae ep):=he;have lD:aj (s.v.ev=aN (ae ⟨eg,0,af⟩) s.g.ep.length jO):=eX;have zH:(i:Int)<(s.g.ep.length:Int):=by omega
 have sU:(0:Int)<=(i:Int):=by omega
 have hep:ep<=80000000:=by omega
 have zV:eF ah (ep-1)=ep-1:=wrap_i64 (by omega) (by omega);have HP:aj (s.h.pl[q]? =ae p):=hp;have H8:aj (ts.size<=8):=h8;have hlen:(p.s.es.length:Int)<=80000000:=by have:=(a.pg.sn.dZ q p hp).fM;omega
 have aET:(0:Int)<=(p.s.es.length:Int):=by omega
 have Q4:eF ah ((p.s.es.length:Int)+1)=(p.s.es.length:Int)+1:=wrap_i64 (by omega) (by omega);clear a hi hu hx he eX hN e1 e3 qX hp h8;go_enter func61,ntmps61
 go_wp2_with fail
 refine(IX A.o (by have:=fK.o;omega) HI.o HU.o HX.o).z ?_;rintro e w1 ⟨n1,n2,t1⟩;rename_i va vb iL gq;obtain⟨aa,ac,rfl,_⟩:=lI n1;obtain⟨ba,bc,rfl,_⟩:=lI n2;have T1:aj (cO w w1 B pb xb s (N+1)<|s.gG gq iL):=t1;obtain⟨d0,d5,de,d6,aK,pM⟩:=t1.at_.uK lD.o HE.o;generalize Bg:(bZ x.bG 1 4).length=l1;generalize CG:(bZ x.bG 2 4).length=l2;clear n1 n2 t1 Bg CG;go_wp2_with fail
 have ZW:aj (∃W:ay,W=bz w1 (aG #[ag ah x.e,ag ah x.t,ag ah x.s,.slice aa l1 ac,.slice ba l2 bc] 58)):=⟨_,rfl⟩;obtain⟨W1,eW⟩:=ZW.o;rw[<-eW];have iU:aj (Fr aS w1 W1):=by subst eW;exact bQ _
 have X1:aj (W1.heap[w1.heap.size]? =ae (aG #[ag ah x.e,ag ah x.t,ag ah x.s,.slice aa l1 ac,.slice ba l2 bc] 58 (0,0))):=by subst eW;exact aFb _ _
 have lV:aj (bJ W1 B pb xb (N+1)<|s.gG gq iL):=T1.o.at_.a iU.o;clear ZW eW d0 d5 de d6 aK pM;refine(UF lV.o (by have:=fK.o;omega) HP.o).z ?_;rintro e w2 ⟨va,vl,rfl,uk,jS⟩;obtain⟨pa,pc,rfl⟩:=uk;have F2:aj (Fr aS W1 w2):=jS;have akA:aj (bJ w2 B pb xb (N+1)<|s.gG gq iL):=lV.o.a jS;obtain⟨d0,d5,de,d6,aK,pM⟩:=akA.o.uK lD.o HE.o;clear jS;go_wp2_with fail
 have ZW:aj (∃W:ay,W=bz w2 (aG #[aF p.out,ag ah p.s.es.length,ag ah p.s.dC,.slice pa vl pc] 62)):=⟨_,rfl⟩;obtain⟨W2,eW⟩:=ZW.o;rw[<-eW];have FW2:aj (Fr aS w2 W2):=by subst eW;exact bQ _
 have Y2:aj (W2.heap[w2.heap.size]? =ae (aG #[aF p.out,ag ah p.s.es.length,ag ah p.s.dC,.slice pa vl pc] 62 (0,0))):=by subst eW;exact aFb _ _
 have YP:aj (Fr aS W1 W2):=F2.o.t FW2.o dw;have X2:aj (W2.heap[w1.heap.size]? =ae (aG #[ag ah x.e,ag ah x.t,ag ah x.s,.slice aa l1 ac,.slice ba l2 bc] 58 (0,0))):=(YP.o.block _ (bn X1.o) id).t X1.o;have mF:aj (bJ W2 B pb xb (N+1)<|s.gG gq iL):=lV.o.a YP.o;clear ZW eW d0 d5 de d6 aK pM akA;obtain⟨d0,d5,de,d6,aK,pM⟩:=mF.o.uK lD.o HE.o;have HC:aj (∀(V:ay) (ts:ByteArray),ts.size<=8->Fr aS W2 V->aW prog 77 #[az<|ae ⟨xb,0,af⟩,ag ah i,.int .i64<|ep-1,ag ah q,dK ts] V fun e w'=>e=aV (ag ah 7)/\V=w'):=fun V ts h8 f=>awD (mF.o.a f) HI.o HU.o HX.o (dS.1 HP.o).1 HE.o h8;go_region_held3 (fun w'=>aB w' ⟨pb,0,af⟩=ae (az<|ae ⟨xb,0,af⟩)/\aB w' ⟨pb,5,af⟩=ae (aN (ae ⟨eg,0,af⟩) s.g.ep.length jO)/\aB w' ⟨eg,i,af⟩=ae (ag ah ep))
  (first|exact⟨d0,d5,de⟩|go_keep)
  ((go_at_call 77;with_reducible refine(HC.o _ _ (by decide)<|dR.drew).z ?_;rintro e w4 ⟨rfl,rfl⟩))
 go_wp2_with fail
 by_cases hy:Ar x p i q ts
 ·have HY:aj (Ar x p i q ts):=hy;clear hy;have ui:aj (∀(V:ay),Fr aS W2 V->aW prog 77 #[az<|ae ⟨xb,0,af⟩,ag ah i,ag ah ep,ag ah q,dK ts] V fun e w'=>e=aV (ag ah 0)/\∃h' p',YN V w' B xb (N+1) s.h s.L i q p x.t ts h' p'):=fun V f=>awC (s:=s.gG gq iL) (mF.o.a f) (by have:=fK.o;omega) HI.o HU.o HX.o HP.o HE.o H8.o HY.o;go_region_held3 (fun w'=>aB w' ⟨pb,0,af⟩=ae (az<|ae ⟨xb,0,af⟩)/\aB w' ⟨pb,5,af⟩=ae (aN (ae ⟨eg,0,af⟩) s.g.ep.length jO)/\aB w' ⟨eg,i,af⟩=ae (ag ah ep))
   (first|with_reducible exact C3|exact⟨d0,d5,de⟩|go_keep)
   ((go_at_call 77;with_reducible refine(ui.o _<|(dR.drew).drew).z ?_;rintro e w3 ⟨rfl,h3,p3,en⟩
     have EN:aj (YN W2.drew.drew w3 B xb (N+1) s.h s.L i q p x.t ts h3 p3):=en
     have Wp:iE w3 B pb xb s.h (s.gG gq iL).g (s.gG gq iL).v:=((mF.o.a<|(dR.drew).drew).pa).stay en.mv.fr fun k e hf=>(mF.o.a<|(dR.drew).drew).ha.off (mF.o.a<|(dR.drew).drew).pa e hf
     have P3:aj (iE w3 B pb xb s.h (s.gG gq iL).g (s.gG gq iL).v):=Wp
     have C3:aB w3 ⟨pb,0,af⟩=ae (az<|ae ⟨xb,0,af⟩)/\aB w3 ⟨pb,5,af⟩=ae (aN (ae ⟨eg,0,af⟩) s.g.ep.length jO)/\aB w3 ⟨eg,i,af⟩=ae (ag ah ep):=⟨aQ Wp.blk 0,(aQ Wp.blk 5).t (by rw[<-lD.o];rfl),Bo (by have:=Wp.ep;rw[show(s.gG gq iL).v.ev=aN (ae ⟨eg,0,af⟩) s.g.ep.length jO from lD.o]at this;exact this) HE.o⟩
     clear en Wp))
  have kT:(s.gG gq iL).g.dn=false:=by
   show s.g.dn=false;rw[A.o.pg.dn,HU.o];rfl
  have g0:aB w3 ⟨pb,0,af⟩=ae (az<|ae ⟨xb,0,af⟩):=aQ P3.o.blk 0;have uQ:pb<w3.heap.size:=bn P3.o.blk;have nb:∀{b:Nat} {cs:Array aA} {ty:dJ},W2.heap[b]? =ae (.cells cs ty (0,0))->[48,3,66,114,67,94,111,5,98,119,163,1000000,55].contains ty=false->w3.heap[b]? =ae (.cells cs ty (0,0)):=fun{b cs ty} hb Je=>(EN.o.mv.fr.block _ (bn hb) fun e=>(mF.o.a<|(dR.drew).drew).Ap (show W2.drew.drew.heap[b]? =_ from hb) Je<|.inl e).t hb;have X3:aj (w3.heap[w1.heap.size]? =ae (aG #[ag ah x.e,ag ah x.t,ag ah x.s,.slice aa l1 ac,.slice ba l2 bc] 58 (0,0))):=nb X2.o (by decide);have Y3:aj (w3.heap[w2.heap.size]? =ae (aG #[aF p.out,ag ah p.s.es.length,ag ah p.s.dC,.slice pa vl pc] 62 (0,0))):=nb Y2.o (by decide);clear nb HC ui d0 d5 de d6 C3 aK pM;go_wp2_with fail
  refine(akz EN.o.mv.at_ EN.o.sn (by have:=fK.o;omega) (by have:=fK.o;omega) (q:=q) (p:=p3) (by rw[EN.o.pl];exact nJ (dS.1 HP.o).1)).z ?_;rw[EN.o.len];rintro e w5 ⟨va,YQ,rfl,uk,nU⟩;obtain⟨YR,YS,rfl⟩:=uk;simp only[Int.natCast_add,Int.cast_ofNat_Int];have P5:aj (iE w5 B pb xb s.h (s.gG gq iL).g (s.gG gq iL).v):=P3.o.a nU;have F5:aj (Fr aS w3 w5):=nU;have IY:pb<w5.heap.size:=bn P5.o.blk;have g6:aB w5 ⟨pb,6,af⟩=ae (aF false):=by rw[<-kT];exact aQ P5.o.blk 6
  have X5:aj (w5.heap[w1.heap.size]? =ae (aG #[ag ah x.e,ag ah x.t,ag ah x.s,.slice aa l1 ac,.slice ba l2 bc] 58 (0,0))):=(nU.block _ (bn X3.o) id).t X3.o;have Y5:aj (w5.heap[w2.heap.size]? =ae (aG #[aF p.out,ag ah p.s.es.length,ag ah p.s.dC,.slice pa vl pc] 62 (0,0))):=(nU.block _ (bn Y3.o) id).t Y3.o;have akB:aj (x.s=1):=HY.o.1;have b1:w1.heap.size<w5.heap.size:=bn X5.o;have b2:w2.heap.size<w5.heap.size:=bn Y5.o;clear nU kT g0;go_wp2_with fail
  have ZW:aj (∃W:ay,W=bz w5 (aG #[aF p3.out,.int .i64<|(p.s.es.length:Int)+1,ag ah p3.s.dC,.slice YR YQ YS] 62)):=⟨_,rfl⟩;obtain⟨W5,eW⟩:=ZW.o;rw[<-eW];have YT:aj (Fr aS w5 W5):=by subst eW;exact bQ _
  have Z6:aj (W5.heap[w5.heap.size]? =ae (aG #[aF p3.out,.int .i64<|(p.s.es.length:Int)+1,ag ah p3.s.dC,.slice YR YQ YS] 62 (0,0))):=by subst eW;exact aFb _ _
  have X6:aj (W5.heap[w1.heap.size]? =ae (aG #[ag ah x.e,ag ah x.t,ag ah x.s,.slice aa l1 ac,.slice ba l2 bc] 58 (0,0))):=(YT.o.block _ (bn X5.o) id).t X5.o;have Y6:aj (W5.heap[w2.heap.size]? =ae (aG #[aF p.out,ag ah p.s.es.length,ag ah p.s.dC,.slice pa vl pc] 62 (0,0))):=(YT.o.block _ (bn Y5.o) id).t Y5.o;have P6:aj (iE W5 B pb xb s.h (s.gG gq iL).g (s.gG gq iL).v):=P5.o.a YT.o;clear ZW eW g6 IY b1 b2 uQ;obtain⟨fa,fc,qg,_⟩:=oP P6.o.wr;have EE:aj ((s.gG gq iL).v.wv=.slice fa s.g.wr.length fc):=qg;have Aq:aj (bD W5 B 66 4 (.slice fa s.g.wr.length fc) s.g.wr.length<|s.g.wr.flatMap Wn.cs):=by have:=P6.o.wr;rw[qg]at this;exact this
  have q8:aB W5 ⟨pb,7,af⟩=ae (.slice fa s.g.wr.length fc):=(aQ P6.o.blk 7).t<|gy ae qg;have dD:Value.ownBlock (.slice fa s.g.wr.length fc)≠ae pb:=Hy Aq.o P6.o.blk (by decide);have awU:pb<W5.heap.size:=bn P6.o.blk;have f8:W5.frozen? ⟨pb,7,af⟩=false:=kK P6.o.blk 7;have f9:∀o,(bz W5 o).frozen? ⟨pb,7,af⟩=false:=fun o=>(LI awU o).t f8;have BZ:aj (s.g.wr.length<=N+1):=lV.o.wr;have y1:aB W5 ⟨w1.heap.size,1,af⟩=ae (ag ah x.t):=aQ X6.o 1;clear qg;go_region_law
   ((refine aFH _ (by rfl) _ _ _ (by rfl) B 66 i0 _ 4 40 underlying44 ed iI ig jg rfl (by omega) (.slice fa s.g.wr.length fc) s.g.wr.length (s.g.wr.flatMap Wn.cs) (by rfl) (by first|exact(((Fr.refl (fun _=>False) W5).alloc _).drew).ownsRow Aq.o (fun _ _=>id)|exact(((Fr.refl (fun _=>False) W5).drew).alloc _).ownsRow Aq.o fun _ _=>id)
      ⟨W5.heap.size,0,af⟩ 1 1 [ag ah q,ag ah i,ag ah x.t,dK ts] (by rfl) (by rfl) (aFk (cs:=#[ag ah q,ag ah i,ag ah x.t,dK ts]) (t:=66) (fr:=(0,0)) (by first|exact aFb _ _|exact RP _ _ _)) (by simp[Value.oneCell'])
      (by omega) (by have:=fK.o;have:=BZ.out;simp only[eP];omega) (by have:=fK.o;have:=BZ.out;omega) (by have:=P6.o.hb;simp<;>omega) (W5.heap.size+1) (by simp) ?_;intro gg cap w7 o8 lX tH MZ;have k0:=(lX.cell_far ⟨pb,7,af⟩ (by simp<;>omega)<|Ne.s dD);have k1:=(lX.frozen_far ⟨pb,7,af⟩ (by simp<;>omega)<|Ne.s dD);simp only[World.cell?_drew,World.frozen?_drew,f9]at k0 k1))
  all_goals
   have Jq:∀k,Value.ownBlock (aN (ae ⟨gg,0,af⟩) (s.g.wr.length+1) cap)=ae k->(s.gG gq iL).v.wv.ownBlock=ae k\/W5.heap.size<=k:=fun k hk=>by
    rw[EE.o];simp only[Value.ownBlock,gU]at hk;subst hk;rcases tH with h1|h1
    ·exact .inl h1
    ·exact .inr<|by omega
   have G3:∃V,Fr aS W5 V/\V.grownBy w7 (Value.ownBlock<|.slice fa s.g.wr.length fc):=⟨_,by first|exact(dR.alloc _).drew|exact(dR.drew).alloc _,lX⟩
   obtain⟨V,fV,gV⟩:=G3
   have TO:=awT mF.o HP.o EN.o P6.o (F5.o.t YT.o dw) fV (by rw[EE.o];exact gV) o8 Jq
   have F7:Fr (fun k=>k=pb\/Value.ownBlock (.slice fa s.g.wr.length fc)=ae k) W5 (aX w7 ⟨pb,7,af⟩<|aN (ae ⟨gg,0,af⟩) (s.g.wr.length+1) cap):=((fV.z dw).grown gV fun k e=>.inl<|.inr e).setCell (p:=⟨pb,7,af⟩) (.inl<|.inl rfl) _
   clear o8 lX tH MZ k0 k1 Jq fV gV
   generalize w7.setCell ⟨pb,7,af⟩ (aN (ae ⟨gg,0,af⟩) (s.g.wr.length+1) cap)=W7 at TO F7⊢
   generalize(Value.slice (ae ⟨gg,0,af⟩) (s.g.wr.length+1) cap)=fv7 at TO
   have ho:∀{b:Nat} {cs:Array aA} {ty:dJ},W5.heap[b]? =ae (.cells cs ty (0,0))->ty≠48->ty≠66->W7.heap[b]? =ae (.cells cs ty (0,0)):=fun{b cs ty} hb h1 h2=>(F7.block b (bn hb) (fun e=>by
    rcases e with e|e
    ·rw[e,P6.o.blk]at hb;simp only[gU,Obj.cells.injEq]at hb;exact h1 hb.2.1.s
    ·have h3:=iY Aq.o e;rw[mO hb]at h3;exact h2 h3)).t hb
   have u1:aB W7 ⟨w1.heap.size,2,af⟩=ae (ag ah x.s):=aQ (ho X6.o (by decide)<|by decide) 2
   have u2:aB W7 ⟨w2.heap.size,1,af⟩=ae (ag ah p.s.es.length):=aQ (ho Y6.o (by decide)<|by decide) 1
   have u3:aB W7 ⟨w5.heap.size,1,af⟩=ae (.int .i64<|(p.s.es.length:Int)+1):=aQ (ho Z6.o (by decide)<|by decide) 1
   have kF:aj (yK w B pb xb s (N+4) (fun s'=>(Ar x p i q ts->Ns s i q x ts s')/\Nu s i q x p ts s') (aV<|aF true) W7):=⟨rfl,_,((((T1.o.a iU.o).a YP.o).a<|(dR.drew).drew).mid EN.o.mv TO EN.o.cf).z<|by omega,fun _=>⟨rfl,EN.o.qE,EN.o.me⟩,⟨EN.o.qE,rfl,fun _ z=>z,by obtain⟨x',z1,z2,z3⟩:=EN.o.me;exact⟨x',z1,z2.t akB.o.s,z3⟩,.inl ⟨HY.o,rfl⟩⟩⟩
   rw[akB.o]at u1
   clear TO F7 ho y1 q8
   go_wp2
   go_ret
   exact kF.o
 ·have HNO:aj (¬Ar x p i q ts):=hy;clear hy;have ui:aj (∀(V:ay),Fr aS W2 V->aW prog 77 #[az<|ae ⟨xb,0,af⟩,ag ah i,ag ah ep,ag ah q,dK ts] V fun e w'=>∃code s2,e=aV (ag ah code)/\YM V w' B pb xb (N+1) (s.gG gq iL) i q p x code s2):=fun V f=>awz (mF.o.a f) (by have:=fK.o;omega) HI.o HU.o HX.o HP.o HE.o H8.o HNO.o;go_region_held3 (fun w'=>aB w' ⟨pb,0,af⟩=ae (az<|ae ⟨xb,0,af⟩)/\aB w' ⟨pb,5,af⟩=ae (aN (ae ⟨eg,0,af⟩) s.g.ep.length jO)/\aB w' ⟨eg,i,af⟩=ae (ag ah ep))
   (first|with_reducible exact C3|exact⟨d0,d5,de⟩|go_keep)
   ((go_at_call 77;with_reducible refine(ui.o _<|(dR.drew).drew).z ?_;rintro e w3 ⟨code,s2,rfl,un⟩
     have UN:aj (YM W2.drew.drew w3 B pb xb (N+1) (s.gG gq iL) i q p x code s2):=un
     have Ku:aj (s2.v.ev=aN (ae ⟨eg,0,af⟩) s2.g.ep.length jO):=by show s2.v.ev=_;rw[un.to.v,un.to.g];exact lD.o
     have ou:aj (s2.g.ep[i]? =ae ep):=by show s2.g.ep[i]? =_;rw[un.to.g];exact HE.o
     have C3:aB w3 ⟨pb,0,af⟩=ae (az<|ae ⟨xb,0,af⟩)/\aB w3 ⟨pb,5,af⟩=ae (aN (ae ⟨eg,0,af⟩) s.g.ep.length jO)/\aB w3 ⟨eg,i,af⟩=ae (ag ah ep):=by
      obtain⟨k0,k5,ke,_⟩:=un.to.to.at_.uK Ku.o ou.o;rw[un.to.g]at k5;exact⟨k0,k5,ke⟩
     clear un))
  obtain⟨p2,rO,qJ⟩:=UN.o.len;have HP2:aj (s2.h.pl[q]? =ae p2):=rO;have HES:aj (p2.s=p.s):=qJ;clear rO qJ;obtain⟨g0,_,_,g6,uQ,_⟩:=UN.o.to.to.at_.uK Ku.o ou.o;have F3:aj (Fr ((s.gG gq iL).eG pb xb) W2 w3):=((((Fr.refl (fun _=>False) _).drew).drew).z dw).t UN.o.to.to.fr fun _=>.inl;have X3:aj (w3.heap[w1.heap.size]? =ae (aG #[ag ah x.e,ag ah x.t,ag ah x.s,.slice aa l1 ac,.slice ba l2 bc] 58 (0,0))):=(F3.o.block _ (bn X2.o)<|mF.o.Ap X2.o<|by decide).t X2.o;have Y3:aj (w3.heap[w2.heap.size]? =ae (aG #[aF p.out,ag ah p.s.es.length,ag ah p.s.dC,.slice pa vl pc] 62 (0,0))):=(F3.o.block _ (bn Y2.o)<|mF.o.Ap Y2.o<|by decide).t Y2.o;clear g6 d0 d5 de d6 aK pM HC ui C3;go_wp2_with fail
  refine(UF UN.o.to.to.at_ (by have:=fK.o;omega) HP2.o).z ?_;rw[HES.o];rintro e w5 ⟨va,YQ,rfl,uk,nU⟩;obtain⟨YR,YS,rfl⟩:=uk;have F5:aj (Fr aS w3 w5):=nU;obtain⟨g0,_,_,g6,IY,_⟩:=(UN.o.to.to.at_.a nU).uK Ku.o ou.o;have kT:s2.g.dn=false:=by rw[UN.o.to.to.at_.pg.dn,show s2.h.up=true from UN.o.to.up.t HU.o];rfl
  rw[kT]at g6;have X5:aj (w5.heap[w1.heap.size]? =ae (aG #[ag ah x.e,ag ah x.t,ag ah x.s,.slice aa l1 ac,.slice ba l2 bc] 58 (0,0))):=(nU.block _ (bn X3.o) id).t X3.o;have Y5:aj (w5.heap[w2.heap.size]? =ae (aG #[aF p.out,ag ah p.s.es.length,ag ah p.s.dC,.slice pa vl pc] 62 (0,0))):=(nU.block _ (bn Y3.o) id).t Y3.o;have y2:aB w5 ⟨w1.heap.size,2,af⟩=ae (ag ah x.s):=aQ X5.o 2;have y3:aB w5 ⟨w2.heap.size,1,af⟩=ae (ag ah p.s.es.length):=aQ Y5.o 1;have b1:w1.heap.size<w5.heap.size:=bn X5.o;have b2:w2.heap.size<w5.heap.size:=bn Y5.o;have kF:aj (∀V,Fr aS w5 V->yK w B pb xb s (N+4) (fun s'=>(Ar x p i q ts->Ns s i q x ts s')/\Nu s i q x p ts s') (aV<|aF true) V):=fun V f=>⟨rfl,_,(((((T1.o.a iU.o).a YP.o).t<|cO.behind ((dR.drew).drew) UN.o.to.to).a F5.o).a f).z<|by omega,fun h=>absurd h HNO.o,⟨UN.o.qE,by rw[UN.o.to.g];rfl,fun r z=>by rw[UN.o.sub];exact z,UN.o.me,.inr ⟨HNO.o,by rw[UN.o.to.g];rfl⟩⟩⟩;have hcb:(code==0)=false:=by simpa using UN.o.no
  have bT:=UN.o.ok;clear nU kT F3 g0;obtain⟨xe,xt,xs,xa,xM,xc,xd,xi,xw,xg⟩:=x;simp only at bT y2;generalize(p.s.es.length:Int)=ln at y3⊢
  by_cases hs:xs=1
  ·subst hs;rcases bT with bT|bT|bT|bT
   ·exact absurd rfl bT
   all_goals
    subst bT
    clear hcb
    go_wp2
    go_ret
    exact kF.o _<|bQ _
  ·have uU:(xs !=1)=true:=by simpa using hs
   clear bT hs;go_wp2
   go_ret;exact kF.o _<|bQ _
end
section
def fD.z{L L':List Rc}{p t:Int}{c:Bool}(d:fD L p t c)(h:∀r∈L,r∈L'):fD L' p t c:=by
 obtain⟨r,hr,h1⟩:=d;exact⟨r,h r hr,h1⟩
section
variable{N:Nat}{h:HS}{L:List Rc}{g:PG}
variable{q:Nat}{p:PL}
def Pg.awV(c:Pg N h L g)(hp:h.pl[q]? =ae p)(dF:p.s.dC=p.s.es.length){w:Wn}(hw:w∈g.wr)(hq:w.q=(q:Int)):fD L w.p w.t true\/fD L w.p w.t false:=by
 have hm:w.Uz∈p.s.data:=by
  rw[c.wr q p hp];exact Hr.2 ⟨w,Hq.2 ⟨hw,by simp[hq]⟩,rfl⟩
 have he:=(Hq.1 hm).1;obtain⟨i,hi⟩:=anH he;have k:=c.sn.dZ q p hp;obtain⟨k1,st⟩:=agk k.inv i _ (by rw[dF];exact(dS.1 hi).1) hi rfl;obtain⟨m,x,_,hx,h1,h2,h3⟩:=st.late;have d:=k.dec x (gZ hx) h1;rw[h2,h3]at d;by_cases e:x.k=2
 ·rw[jY e]at d;exact .inl d
 ·rw[qZ e]at d;exact .inr d
def Dw(q:Nat)(w:Wn):Bool:=decide<|w.q=(q:Int)
def Nv(g:PG)(q:Nat):Nat:=(g.wr.filter fun w=>decide (w.q=(q:Int))&&decide (iR g.fa w.p w.t=1)).length
def Pg.more{N1:Nat}{h1:HS}{L1:List Rc}{g1:PG}(c:Pg N h L g)(c1:Pg N1 h1 L1 g1)(sub:∀p t b,fD L p t b->fD L1 p t b)(hp:h.pl[q]? =ae p)(dF:p.s.dC=p.s.es.length){A:List Wn}(hw:g1.wr=g.wr++A)(hA:∀w∈A,fD L1 w.p w.t true):Nv g1 q=Nv g q+(A.filter<|Dw q).length:=by
 unfold Nv;rw[hw,tu,iW];congr 1
 ·congr 1;refine OL fun w hm=>?_;by_cases e:w.q=(q:Int)
  ·have:iR g1.fa w.p w.t=1↔iR g.fa w.p w.t=1:=by
    rw[Np c1,Np c];refine⟨fun d=>?_,fun d=>sub _ _ _ d⟩;rcases c.awV hp dF hm e with d0|d0
    ·exact d0
    ·have:=(c1.sn.valid.Me w.p).one _ _ _ d<|sub _ _ _ d0;cases this
   simp[e,this]
  ·simp[e]
 ·congr 1;refine OL fun w hm=>?_;have:=(Np c1).2<|hA w hm;simp[Dw,this]
end
structure Gn(s0:dm)(i:Nat)(s:dm):Prop where
 up:s.h.up=true
 ins:∀(q:Nat) (p:PL),s.h.pl[q]? =ae p->p.out=false
 ot:∀j,j≠0->s.h.ps[j]? =s0.h.ps[j]?
 gt:s.g.gt=s0.g.gt
 sub:∀r∈s0.L,r∈s.L
 ex:∃x A,s.h.ps[0]? =ae x/\(x.s=0\/x.s=1)/\(x.s=0->A=[])/\(i≠0->x.s=1)/\s.g.wr=s0.g.wr++A/\(∀w∈A,w.p=0/\w.t=x.t)/\(∀q,i<=q->A.filter (Dw q)=[])/\∀q,q<i->(A.filter<|Dw q).length=1\/(A.filter (Dw q)=[]/\200<=(s.g.wr.filter<|Dw q).length)
def awW{N M:Nat}{s s1:dm}(c:Pg N s.h s.L s.g)(c1:Pg M s1.h s1.L s1.g)(u:s.h.up=true)(u1:s1.h.up=true)(sub:∀r∈s.L,r∈s1.L){q:Nat}{p:PL}(hp:s.h.pl[q]? =ae p){x x2:PS}(hx:s.h.ps[0]? =ae x)(mW:s1.h.ps[0]? =ae x2)(h2:x2.s=1)(ht:x.s=1->x2.t=x.t)(hs:x.s=0\/x.s=1):(p.s.opened 0 x2.t).nw 0=ae (x2.t,true):=by
 have k:=(c.sn.up u 0 x hx).k;have k2:=(c1.sn.up u1 0 x2 mW).k;unfold aJ.opened;cases e:p.s.nw 0 with
 |none=>simp[aJ.wZ,e,aJ.set]
 |some y=>
  obtain⟨t',o⟩:=y;cases o with
  |true=>
   obtain⟨_,_,h3,h4,_⟩:=c.sn.opn q p hp 0 t' e;rw[if_neg<|by simp[aJ.wZ,e],e];have e1:x.s=(bI s.L 0).s:=k.s;have e2:x.t=(bI s.L 0).t:=k.t;rw[ht<|by omega,e2,h4]
  |false=>
   obtain⟨y,hy,y1,y2,y3⟩:=(c.sn.dZ q p hp).inv.shut 0 t' e;have d:=((c.sn.dZ q p hp).dec y hy y1).z sub;rw[y2,y3]at d;have:=(c1.sn.valid.Me 0).le _ _ d;have e1:x2.s=(bI s1.L 0).s:=k2.s;have e2:x2.t=(bI s1.L 0).t:=k2.t;have aK:t'<x2.t:=by omega
   rw[if_pos<|by simp[aJ.wZ,e,aK]];simp[aJ.set]
def full_of{s:aJ}(hi:Inv s){t:Int}{ts:ByteArray}(ho:s.nw 0=ae (t,true))(h8:ts.size<=8)(hc:s.nK 0 t ts≠0):200<=s.data.length:=by
 have h1:s.isOpen 0 t=true:=RS.2 ho;unfold aJ.nK at hc;rw[h1,if_neg<|by simp,if_neg<|by omega]at hc;split at hc
 ·rename_i h;have:=hi.d;unfold cnt at this;unfold aJ.data;omega
 ·exact absurd rfl hc
def Gn.step{w w1:ay}{B pb xb N M i:Nat}{s0 s s1:dm}(G:Gn s0 i s)(a:bJ w B pb xb N s)(a1:bJ w1 B pb xb M s1)(hi:(i:Int)<s.h.Q)(f:Qu s 0 i s1)(ts:ByteArray)(h8:ts.size<=8):
 ∃x2 p2,s1.h.ps[0]? =ae x2/\s1.h.pl[i]? =ae p2/\∀s2,Nu s1 0 i x2 p2 ts s2->Gn s0 (i+1) s2:=by
 obtain⟨x,A,hx,hs,DY,_,hw,hA,hz,hq⟩:=G.ex;obtain⟨p,hp⟩:=a.q hi;obtain⟨x2,p2,mW,k1,k2,rO,k3,k4,_,k6⟩:=f.ok x p hx hs hp<|G.ins i p hp;have u1:s1.h.up=true:=f.qE.up.t G.up;have ho:=awW a.pg a1.pg G.up u1 f.sub hp hx mW k1 k6 hs;refine⟨x2,p2,mW,rO,fun s2 X=>?_⟩;obtain⟨x3,E7,e1,e2⟩:=X.me;have qE:=f.qE.t X.qE;have hAt:∀w∈A,w.p=0/\w.t=x3.t:=fun w hm=>by
  rcases hs with h|h
  ·rw[DY h]at hm;simp at hm
  ·exact⟨(hA w hm).1,by rw[(hA w hm).2,e2,k6 h]⟩
 refine⟨qE.up.t G.up,fun q p' qV=>?_,fun j hj=>(qE.ot j hj).t<|G.ot j hj,X.gt.t<|f.gt.t G.gt,fun r hr=>X.sub r<|f.sub r<|G.sub r hr,?_⟩
 ·obtain⟨p0,h0,e⟩:=qE.out q p' qV;rw[e];exact G.ins q p0 h0
 have new:∀q:Nat,q≠i->([⟨i,0,x2.t,ts⟩]:List Wn).filter (Dw q)=[]:=fun q dD=>by
  have:¬(i:Int)=(q:Int):=by omega
  simp[Dw,this]
 rcases X.wr with⟨hy,ew⟩|⟨hn,ew⟩
 ·refine⟨x3,A++[⟨i,0,x2.t,ts⟩],E7,.inr<|e1.t k1,fun h=>by omega,fun _=>e1.t k1,by rw[ew,f.wr,hw,CP];rfl,fun w hm=>?_,fun q qH=>?_,fun q qH=>?_⟩
  ·rcases oN.1 hm with hm|hm
   ·exact hAt w hm
   ·obtain rfl:=oM.1 hm;exact⟨rfl,e2.s⟩
  ·rw[tu,hz q<|by omega,new q<|by omega];rfl
  ·by_cases e:q=i
   ·subst e;left;rw[tu,hz q<|dI _];simp[Dw]
   ·rw[tu,new q e,qM];rcases hq q (by omega)with h|⟨h,h'⟩
    ·exact .inl h
    ·refine .inr ⟨h,?_⟩;rw[ew,f.wr,tu,iW];omega
 ·refine⟨x3,A,E7,.inr<|e1.t k1,fun h=>by omega,fun _=>e1.t k1,by rw[ew,f.wr,hw],hAt,fun q qH=>hz q<|by omega,fun q qH=>?_⟩;by_cases e:q=i
  ·subst e;refine .inr ⟨hz q<|dI _,?_⟩;have hc:p2.s.nK ((0:Nat):Int) x2.t ts≠0:=fun z=>hn ⟨k1,k2,by rw[k3];exact ho,k4,z⟩;have:=full_of (a1.pg.sn.dZ q p2 rO).inv (by rw[k3];exact ho) h8 hc;rw[a1.pg.wr q p2 rO,Fz]at this;rw[ew];exact this
  ·rw[ew,f.wr];exact hq q<|by omega
end
section
variable{P Q T K:Int}{pv:aA}{pl:List PL}
def akC(hg:Good P Q T K)(hn:∀p∈pl,p.s=rV/\p.out=false):Sn 0 (yY P Q T K pv pl).yX []:=by
 have lg:∀(q:Nat) (p:PL),(yY P Q T K pv pl).yX.pl[q]? =ae p->p.s=rV:=fun q p hp=>(hn p<|gZ hp).1;have ps:∀(i:Nat) (x:PS),(yY P Q T K pv pl).yX.ps[i]? =ae x->x=ql:=fun i x hx=>by
  have vV:xm[i]? =ae x:=hx;match i,vV with
  |0,h|1,h|2,h|3,h|4,h|5,h=>simpa[xm]using h.s
  |i+6,h=>simp[xm]at h
 refine⟨hg.1,hg.2.1,hg.2.2.1,hg.2.2.2,rfl,.nil,dI _,rfl,rfl,⟨by show(0:Int)<=0;decide,by show(0:Int)<=16;decide⟩,fun q p hp i t hw=>?_,fun q p hp=>?_,fun m hm=>?_,fun m hm=>?_,(by show 0<=100;decide),fun _ i x hx=>?_,fun h=>?_⟩
 ·rw[lg q p hp]at hw;cases hw
 ·rw[lg q p hp];exact⟨aof,fun e he=>(by cases he),dI _⟩
 ·cases hm
 ·cases hm
 ·rw[ps i x hx];refine⟨⟨rfl,rfl,rfl,fun _=>⟨rfl,rfl,rfl,rfl⟩,fun h=>absurd rfl h,fun q=>?_⟩,⟨⟨by decide,by decide,fun _=>?_⟩,by decide,by decide,fun h=>absurd h<|by decide⟩,⟨fun h=>absurd h<|by decide,fun h=>absurd h<|by decide⟩⟩
  ·have:ql.bG.getD q 0=0:=by
    match q with
    |0|1|2|3=>rfl
    |q+4=>rfl
   rw[this];decide
  ·show(0:Int)<T;have:=hg.2.2.1.1;omega
 ·cases h
structure Mk(n:Nat)(h:HS)(L:List Rc):Prop where
 sn:Sn n h L
 up:h.up=true
 fl:h.fl=[]
 idle:∀(i:Nat) (x:PS),h.ps[i]? =ae x->x.s=0
 one:∀(i:Nat),i<n->(bI L i).e=1
 zero:∀(i:Nat),n<=i->(bI L i).e=0
 dZ:∀p∈h.pl,p.s=rV/\p.out=false
 no:∀p t b,¬fD L p t b
def awX(hg:Good P Q T K)(hn:∀p∈pl,p.s=rV/\p.out=false):Mk 0 (yY P Q T K pv pl).yX []:=
 ⟨akC hg hn,rfl,rfl,fun i x hx=>by
  have k:=((akC (pv:=pv) hg hn).up rfl i x hx).k.s;exact k,fun _ h=>by omega,fun _ _=>rfl,hn,fun _ _ _ ⟨_,hr,_⟩=>by cases hr⟩
def Mk.step{n:Nat}{h h':HS}{L:List Rc}{w w':ay}{B xb:Nat}{x:PS}(k:Mk n h L)(hx:h.ps[n]? =ae x)(en:yL w w' B xb n h L ⟨1,n,0,x.e+1⟩ h'):Mk (n+1) h' (L++[⟨1,n,0,x.e+1⟩]):=by
 have e0:x.e=0:=by rw[((k.sn.up k.up n x hx).k).e,k.zero n<|dI _]
 have st:∀i:Nat,(bI (L++[⟨1,n,0,x.e+1⟩]) i).e=if i=n then 1 else(bI L i).e:=fun i=>by
  rw[yZ];by_cases e:i=n
  ·subst e;simp[St.step,e0]
  ·rw[St.Hz _ (by show(n:Int)≠i;omega),if_neg e]
 have wo:=en.wo;refine⟨en.sn,en.up.t k.up,?_,fun i y hy=>?_,fun i hi=>?_,fun i hi=>?_,by rw[en.pl];exact k.dZ,fun p t b d=>?_⟩
 ·cases wo;exact k.fl
 ·by_cases e:i=n
  ·subst e;rw[Xe hx rfl wo]at hy;cases hy;have:=k.idle _ _ hx;simp[PS.dA,this]
  ·rw[(pO.wrote (i:=n) rfl wo).ot i e]at hy;exact k.idle i y hy
 ·rw[st];split
  ·rfl
  ·exact k.one i<|by omega
 ·rw[st,if_neg<|by omega];exact k.zero i<|by omega
 ·rcases d.Ei with d|⟨h3,_⟩
  ·exact k.no p t b d
  ·cases h3
def pR(n q:Nat):PG:=⟨List.replicate n 1,false,[],[],List.replicate q [],List.replicate q 0⟩
def Mk.pg{n q:Nat}{h:HS}{L:List Rc}(k:Mk n h L)(hP:h.P=n)(hQ:h.pl.length=q):Pg n h L (pR n q):=by
 have lg:∀(j:Nat) (p:PL),h.pl[j]? =ae p->p.s=rV:=fun j p hp=>(k.dZ p<|gZ hp).1;refine⟨k.sn,by simp[pR,hP],fun i e he=>?_,by rw[k.up];rfl,fun j p hp=>?_,fun f hf=>?_,fun p t d=>absurd d<|k.no p t true,by simp[pR,hQ],by simp[pR,hQ],fun j p hp=>?_⟩
 ·have hl:i<n:=by
   have:=(dS.1 he).1;simpa[pR]using this
  have:e=1:=by
   have:=gZ he;exact anC this
  subst this;exact⟨(k.one i hl).s,by decide⟩
 ·rw[lg j p hp];rfl
 ·cases hf
 ·have hl:j<q:=by rw[<-hQ];exact(dS.1 hp).1
  rw[lg j p hp];refine⟨rV,.refl _,?_,?_⟩
  ·simp[pR,hl,aJ.bF,rV,aJ.dC]
  ·simp[pR,hl,rV,aJ.dC]
end
section
def d47:Code:=Tryz.f47.body.getD .skip
def EJ:List Bool:=[true,true,true,true]
def EK:Code:=au.fH EJ d47
def awY:au.codeOk prog au.kN (au.lW EJ d47)=true:=by kernel_rfl
def awZ:(prog.info? 67).map (fun i=>(i.zero,i.size,i.bytes))=ae (ae<|aN af 0 0,1,24):=by kernel_rfl
def aw0(w:ay)(p:Nat)(hp:p<=6):(Instr.makeSlice 46 (ag ah (p:Int))<|ag ah (p:Int)).run prog w=.ok (aN (ae ⟨w.heap.size,0,af⟩) p p) (w.alloc<|.cells (madeCells #[aN af 0 0] p) 67):=
 run_make_row' 46 67 (aN af 0 0) 24 underlying46 awZ rfl .i64 .i64 p (by omega) (by omega) w
def akE(w:ay){B p:Nat}(hB:B<=w.heap.size)(hp:p<=6):(w.alloc<|.cells (madeCells #[aN af 0 0] p) 67).ownsRow B 67 1 (aN (ae ⟨w.heap.size,0,af⟩) p p) (List.replicate p<|Value.slice af 0 0).length (List.replicate p<|Value.slice af 0 0):=by
 have:=aGq w (base:=B) (e:=67) (size:=1) (madeCells #[aN af 0 0] p) p hB (by simp only[eP];omega) (by simp[size_madeCells]);rw[aGD]at this;simpa using this
structure T47(cb xb pb:Nat)(a:Array aA):Prop where
 sz:a.size=101
 a1:a.getD 1 ai=az (ae ⟨cb,0,af⟩)
 a3:a.getD 3 ai=az (ae ⟨xb,0,af⟩)
 a5:a.getD 5 ai=az (ae ⟨pb,0,af⟩)
def UH(g s q:Nat):PV:=⟨aN af 0 0,aN af 0 0,aN af 0 0,aN (ae ⟨g,0,af⟩) q q,aN (ae ⟨s,0,af⟩) q q,List.replicate q<|aN af 0 0⟩
def aw1{W:ay}{B pb xb g s q:Nat}{h:HS}(hb:W.heap[pb]? =ae (aG #[az<|ae ⟨xb,0,af⟩,ag ah h.P,ag ah h.Q,ag ah h.T,ag ah h.K,aN af 0 0,aF false,aN af 0 0,aN af 0 0,aN (ae ⟨g,0,af⟩) q q,aN (ae ⟨s,0,af⟩) q q] 48 (0,0)))
 (h1:bD W B 67 1 (aN (ae ⟨g,0,af⟩) q q) (List.replicate q<|Value.slice af 0 0).length (List.replicate q<|Value.slice af 0 0))(h2:bD W B 3 1 (aN (ae ⟨s,0,af⟩) q q) (List.replicate q (0:Int)).length (gm<|List.replicate q 0))(hB:B<=pb):iE W B pb xb h (pR 0 q) (UH g s q):=by
 refine⟨hb,aFm _ _ _ _,aFm _ _ _ _,aFm _ _ _ _,h1,by simp[UH,pR],fun j u l hu hl=>?_,?_,fun k hk=>by simp[UH,Value.ownBlock]at hk,hB⟩
 ·have e1:=anC<|gZ hu;have e2:=anC<|gZ hl;rw[e1,e2];exact aFm _ _ _ _
 ·simpa[UH,pR]using h2
structure Started(w w':ay)(p q t k:Nat)(cb xb pb:Nat)(h:HS)(v:PV):Prop where
 Qv:w'.heap[cb]? =ae (aG #[ag ah p,ag ah q,ag ah t,ag ah k] 23 (0,0))
 lt:cb<w.heap.size+1
 ha:aH w' (w.heap.size+1) xb 0 h
 ax:jk h.pl
 xN:Mk 0 h []
 cf:h.P=p/\h.Q=q/\h.T=t/\h.K=k
 pa:iE w' (w.heap.size+1) pb xb h (pR 0 q) v
 fr:Fr aS w w'
variable{w:ay}{p q t k:Nat}
def akF{w1 W:ay}{xb pb g s:Nat}{pv:aA}{pl:List PL}(hg:Good p q t k)(hx:aH w1 (w.heap.size+1) xb 0 (yY p q t k pv pl).yX/\(∀p∈pl,p.s=rV/\p.out=false)/\jk pl)(hf:Fr aS w w1)(hb:w1.heap[w.heap.size]? =ae (aG #[ag ah p,ag ah q,ag ah t,ag ah k] 23 (0,0)))(f:Fr aS w1 W)
 (blk:W.heap[pb]? =ae (aG #[az<|ae ⟨xb,0,af⟩,ag ah p,ag ah q,ag ah t,ag ah k,aN af 0 0,aF false,aN af 0 0,aN af 0 0,aN (ae ⟨g,0,af⟩) q q,aN (ae ⟨s,0,af⟩) q q] 48 (0,0)))
 (h1:bD W (w.heap.size+1) 67 1 (aN (ae ⟨g,0,af⟩) q q) (List.replicate q<|Value.slice af 0 0).length (List.replicate q<|Value.slice af 0 0))(h2:bD W (w.heap.size+1) 3 1 (aN (ae ⟨s,0,af⟩) q q) (List.replicate q (0:Int)).length (gm<|List.replicate q 0))(hB:w.heap.size+1<=pb):
 Started w W p q t k w.heap.size xb pb (yY p q t k pv pl).yX (UH g s q):=
 ⟨(f.block _ (bn hb) id).t hb,by omega,hx.1.a f,hx.2.2,awX hg hx.2.1,⟨rfl,rfl,rfl,rfl⟩,aw1 blk h1 h2 hB,hf.t f dw⟩
def aw2(hg:Good p q t k):
 (au.lW EJ d47).wp prog (fun e x w'=>e=.ret/\∃xb pb h v,T47 w.heap.size xb pb x.tmps/\Started w w' p q t k w.heap.size xb pb h v) {tmps:=#[jI p q t k]++gz (Tryz.f47.ntmps- #[jI p q t k].size) ai,defers:=[]} w:=by
 have HG:aj (Good p q t k):=hg;have rH:=fun w=>aw0 w q (by have:=hg.2.1.2;omega);have EX:=fun w=>aoV w q (by have:=hg.2.1.2;omega);have HQ:aj (q<=6):=by have:=hg.2.1.2;show q<=6;omega
 clear hg;have HNW:aj (∀V,aW prog 31 #[jI p q t k] V fun r w'=>∃xb pv pl,r=aV (dU #[ptr xb,ag ah 0])/\aH w' V.heap.size xb 0 (yY p q t k pv pl).yX/\(∀p∈pl,p.s=rV/\p.out=false)/\jk pl/\Fr aS V w'):=fun V=>aoP V HG.o;unfold jI at HNW⊢
 simp only[ntmps47,Fv,oH,wu,Nat.reduceAdd,Nat.reduceSub,RD,Rz,RH,RF,wY,nY];refine wK fun Q0 lh=>?_;simp only[EJ,d47,Tryz.f47,ik,au.lW,au.BL,if_true];go_wp2_with fail
 have ZW:aj (∃W:ay,W=bz w (aG #[ag ah p,ag ah q,ag ah t,ag ah k] 23)):=⟨_,rfl⟩;obtain⟨W1,eW⟩:=ZW.o;rw[<-eW];have iU:aj (Fr aS w W1/\W1.heap.size=w.heap.size+1):=by subst eW;exact⟨bQ _,by simp⟩
 have BX:aj (W1.heap[w.heap.size]? =ae (aG #[ag ah p,ag ah q,ag ah t,ag ah k] 23 (0,0))):=by subst eW;exact aFb _ _
 clear ZW eW;refine(HNW.o W1).z ?_;rintro e w1 ⟨xb,pv,pl,rfl,iJ,yQ,NW,bU⟩;have HX:aj (aH w1 (w.heap.size+1) xb 0 (yY p q t k pv pl).yX/\(∀p∈pl,p.s=rV/\p.out=false)/\jk pl):=⟨by rw[<-iU.o.2];exact iJ,yQ,NW⟩;have F1:aj (Fr aS w w1):=iU.o.1.t bU dw;have B1:aj (w1.heap[w.heap.size]? =ae (aG #[ag ah p,ag ah q,ag ah t,ag ah k] 23 (0,0))):=(bU.block _ (bn BX.o) id).t BX.o;have aK:w.heap.size<w1.heap.size:=bn B1.o;have b0:aB w1 ⟨w.heap.size,0,af⟩=ae (ag ah p):=aQ B1.o 0;have b1:aB w1 ⟨w.heap.size,1,af⟩=ae (ag ah q):=aQ B1.o 1;have b2:aB w1 ⟨w.heap.size,2,af⟩=ae (ag ah t):=aQ B1.o 2;have b3:aB w1 ⟨w.heap.size,3,af⟩=ae (ag ah k):=aQ B1.o 3;clear iJ yQ NW bU;unfold ptr;go_wp2_with fail
 go_region
 ·go_wp2_with fail
  rw[<-lh.o];refine⟨rfl,xb,_,_,_,⟨rfl,rfl,rfl,rfl⟩,akF HG.o HX.o F1.o B1.o (g:=w1.heap.size) (s:=w1.heap.size+1) ((((bQ _).alloc _).alloc _).drew) (Bz _<|by simp) ?_ ?_ (by omega)⟩
  ·exact(((bQ _).alloc _).drew).ownsRow (akE w1 (B:=w.heap.size+1) (by omega) HQ.o) fun _ _=>id
  ·have:=agI (w1.alloc<|.cells (madeCells #[aN af 0 0] q) 67) (B:=w.heap.size+1) (by simp<;>omega) HQ.o;exact((bQ _).drew).ownsRow (by simpa using this) fun _ _=>id
 ·go_wp2_with fail
  rw[<-lh.o];refine⟨rfl,xb,_,_,_,⟨rfl,rfl,rfl,rfl⟩,akF HG.o HX.o F1.o B1.o (g:=w1.heap.size+1) (s:=w1.heap.size) ((((bQ _).alloc _).alloc _).drew) (Bz _<|by simp) ?_ ?_ (by omega)⟩
  ·have:=akE (w1.alloc<|.cells (madeCells #[ag ah 0] q) 3) (B:=w.heap.size+1) (by simp<;>omega) HQ.o;exact((bQ _).drew).ownsRow (by simpa using this) fun _ _=>id
  ·exact(((bQ _).alloc _).drew).ownsRow (agI w1 (B:=w.heap.size+1) (by omega) HQ.o) fun _ _=>id
end
section
def d24:Code:=Tryz.f24.body.getD .skip
def Kw:List Bool:=[true,true,true,true]
def EL:Code:=au.fH Kw d24
def aw3:au.codeOk prog au.kN (au.lW Kw d24)=true:=by kernel_rfl
def lastT:ByteArray:=⟨#[108,97,115,116]⟩
def lens(l:List (List Rec))(i:Nat):List Int:=(l.take i).map fun r=>(r.length:Int)
structure yM(w:ay)(b pb xb:Nat)(s0 s:dm)(i:Nat)(hv:aA):Prop where
 row:bD w b 3 1 hv i (gm<|lens s0.g.gt i)
 off:∀k,bY hv=ae k->¬s.eG pb xb k
structure YV(pb:Nat)(hv:aA)(a:Array aA):Prop where
 sz:a.size=120
 a0:a.getD 0 ai=az (ae ⟨pb,0,af⟩)
 a3:a.getD 3 ai=hv
 a7:a.getD 7 ai=aF true
variable{w w':ay}{B pb xb N:Nat}{s0 s s':dm}
def yM.go{b i M:Nat}{hv:aA}(h:yM w b pb xb s0 s i hv)(t:cO w w' B pb xb s M s'):yM w' b pb xb s0 s' i hv:=
 ⟨t.fr.ownsRow h.row fun k hk e=>h.off k hk e,fun k hk e=>(t.sub k e).e (h.off k hk) fun z=>by have:=(h.row.lt k hk).2;omega⟩
def bJ.stay{S:Nat->Prop}(a:bJ w B pb xb N s)(f:Fr S w w')(hS:∀k,S k->¬s.eG pb xb k):bJ w' B pb xb N s:=
 ⟨a.ha.stay f fun k e hk=>hS k e<|.inl hk,a.ax,a.pa.stay f fun k e hk=>hS k e<|.inr hk,a.pg,a.wr,a.fa⟩
def aw4{l:List (List Rec)}{i:Nat}{r:List Rec}(h:l[i]? =ae r):gm (lens l<|i+1)=gm (lens l i)++[ag ah (r.length:Int)]:=by
 unfold lens;rw[yu,h];simp[gm]
def aw5(A0:bJ w B pb xb N s0)(hN:N<=70000000)(G0:Gn s0 0 s0):(au.lW Kw d24).wp prog (fun e x w'=>e=.ret/\∃hv s1 s2,YV pb hv x.tmps/\cO w w' B pb xb s0 (N+40) s2/\Gn s0 s0.h.Q.toNat s1/\(∃x,s1.h.ps[0]? =ae x/\Gl s1 0 x true s2)/\yM w' w.heap.size pb xb s0 s2 s0.h.Q.toNat hv)
 {tmps:=#[az<|ae ⟨pb,0,af⟩]++gz (Tryz.f24.ntmps- #[Value.pointer<|ae ⟨pb,0,af⟩].size) ai,defers:=[]} w:=by
 have A:aj (bJ w B pb xb N s0):=A0;have fK:aj (N<=70000000):=hN;have HG0:aj (Gn s0 0 s0):=G0;obtain⟨Q,hQ⟩:=qY (show 0<=s0.h.Q by have:=A0.pg.sn.Q1;omega);have HQ:aj (s0.h.Q=Q):=hQ;have Qo:Q<=4:=by have:=A0.pg.sn.Q1.2;omega
 obtain⟨i0,ed,iI,ig,jg⟩:=aFq RV;have HP:aj (((0:Nat):Int)<s0.h.P):=by have:=A0.pg.sn.P1;show((0:Nat):Int)<s0.h.P;omega
 clear A0 hN G0 hQ;simp only[ntmps24,Fv,oH,wu,Nat.reduceAdd,Nat.reduceSub,RD,Rz,RH,RF,wY,nY];refine wK fun Q0 lh=>?_;simp only[Kw,d24,Tryz.f24,ik,au.lW,au.BL,if_true];go_wp2_with fail
 go_loopw [3,4] (fun hu iv w'=>∃(i:Nat) (s:dm) (hv:aA),hv=hu/\i<=Q/\iv=ag ah i/\cO w w' B pb xb s0 (N+8*i) s/\Gn s0 i s/\yM w' w.heap.size pb xb s0 s i hv) (fun _ iv _=>Q-(eU iv).toNat)
 case atStart=>exact⟨0,s0,_,rfl,kH _,rfl,cO.still A.o dR,HG0.o,⟨aFm _ _ _ _,fun k hk=>by simp[Value.ownBlock]at hk⟩⟩
 case round=>
  obtain⟨i,s,hv,ehv,hi,rfl,t,G,H⟩:=hrel
  subst ehv
  have T:aj (cO w wr B pb xb s0 (N+8*i) s):=t
  have GG:aj (Gn s0 i s):=G
  have HH:aj (yM wr w.heap.size pb xb s0 s i hv):=H
  obtain⟨y0,-,y2,-⟩:=t.at_.cells
  rw[show s.h.Q=Q from t.cf.2.1.t HQ.o]at y2
  have hlr:=bn t.at_.pa.blk
  clear t G H
  by_cases Lp:i<Q
  ·have EM:(i:Int)<(Q:Int):=by omega
   have sU:(0:Int)<=(i:Int):=by omega
   have iT:i<s.g.gt.length:=by
    have h1:=T.o.at_.pg.gl;have h2:=T.o.at_.ha.hQ.1;have h3:s.h.Q=Q:=T.o.cf.2.1.t HQ.o;omega
   obtain⟨l,hl⟩:∃l,s.g.gt[i]? =ae l:=⟨_,eY iT⟩
   have CB:i<s.v.gs.length:=by rw[T.o.at_.pa.gl];exact iT
   obtain⟨gg,gc,oG,Qw,_⟩:=rF T.o.at_.pa.gt<|by omega
   obtain⟨u0,yT⟩:∃u,s.v.gs[i]? =ae u:=⟨_,eY CB⟩
   have hr:=T.o.at_.pa.rc i u0 l yT hl
   obtain⟨ua,uc,rfl⟩:=OY hr
   have e9:aB wr ⟨pb,9,af⟩=ae (aN (ae ⟨gg,0,af⟩) s.v.gs.length gc):=by rw[<-oG];exact T.o.at_.cells.2.2.2.2.2.2.2.1
   have eg:aB wr ⟨gg,i,af⟩=ae (.slice ua l.length uc):=by
    have hr:=T.o.at_.pa.gt;rw[oG]at hr;have:=hr.cellAt i (by omega);rw[this];exact yT
   have DX:(i:Int)<(s.v.gs.length:Int):=by omega
   have HL:aj (s.g.gt[i]? =ae l):=hl
   obtain⟨ha,hc,rfl,_⟩:=oP HH.o.row
   have ROW:aj (bD wr w.heap.size 3 1 (.slice ha i hc) i<|gm<|lens s0.g.gt i):=HH.o.row
   have HW:aj (w.heap.size<=wr.heap.size):=T.o.fr.size
   clear hr yT hl oG iT CB
   go_wp2_with (at_builtin;refine aFE _ rfl _ _ 43 rfl w.heap.size 3 i0 _ 1 8 underlying43 ed iI ig jg rfl (by decide) _ i (gm<|lens s0.g.gt i) rfl (by exact(bQ _).ownsRow ROW.o fun _ _=>id) ⟨wr.heap.size,0,af⟩ 1 1 [ag ah l.length] rfl rfl (aFk (cs:=#[ag ah l.length]) (t:=3) (fr:=(0,0))<|Bz _<|by simp) (by simp[Value.oneCell']) (by decide) (by simp only[eP];omega) (by omega) (by have:=HW.o;simp<;>omega) (wr.heap.size+1) (by simp) ?_;intro gg3 FC w3 o8 lX tH uQ)
   have F3:aj (Fr (fun k=>Value.ownBlock (.slice ha i hc)=ae k) wr w3):=((bQ _).z dw).grown lX fun k e=>.inl e
   have PL3:aj (bJ w3 B pb xb (N+8*i) s):=T.o.at_.stay F3.o fun k e=>HH.o.off k e
   have T3:aj (cO w w3 B pb xb s0 (N+8*i) s):=⟨PL3.o,T.o.fr.t F3.o fun k e=>.inr (HH.o.row.lt k e).1,T.o.sub,T.o.cf⟩
   have H3:aj (yM w3 w.heap.size pb xb s0 s (i+1)<|aN (ae ⟨gg3,0,af⟩) (i+1) FC):=⟨by rw[aw4 (by rw[<-GG.o.gt];exact HL.o)];exact o8,fun k hk e=>by
    simp only[Value.ownBlock,gU]at hk;subst hk;have:=(T.o.at_.lt e).1;rcases tH with h1|h1
    ·exact HH.o.off _ h1 e
    ·omega⟩
   have akH:aj (aW prog 25 #[az<|ae ⟨pb,0,af⟩,ag ah 0,ag ah i] w3 fun e w'=>e=aV (aF true)/\∃s',cO w3 w' B pb xb s (N+8*i+4) s'/\s'.h.up=true/\Qu s 0 i s'):=adL (i:=0) (q:=i) PL3.o (by have:=fK.o;omega) (by rw[T.o.cf.1];exact HP.o) (by rw[show s.h.Q=Q from T.o.cf.2.1.t HQ.o];exact EM) GG.o.up
   clear o8 lX tH uQ y0 y2 hlr e9 eg
   refine akH.o.z ?_
   rintro e w4 ⟨rfl,s1,t4,u4,f4⟩
   obtain⟨x2,p2,mW,rO,Tn⟩:=GG.o.step PL3.o t4.at_ (by rw[show s.h.Q=Q from T.o.cf.2.1.t HQ.o];exact EM) f4 lastT<|by decide
   have T4:aj (cO w w4 B pb xb s0 (N+8*i+4) s1):=T3.o.t t4
   have STP:aj (∀s2,Nu s1 0 i x2 p2 lastT s2->Gn s0 (i+1) s2):=Tn
   have H4:aj (yM w4 w.heap.size pb xb s0 s1 (i+1)<|aN (ae ⟨gg3,0,af⟩) (i+1) FC):=H3.o.go t4
   have adX:aj (aW prog 61 #[az<|ae ⟨pb,0,af⟩,ag ah 0,ag ah i,dK lastT] w4<|yK w4 B pb xb s1 (N+8*i+4+4) fun s'=>(Ar x2 p2 0 i lastT->Ns s1 0 i x2 lastT s')/\Nu s1 0 i x2 p2 lastT s'):=adP (i:=0) (q:=i) t4.at_ (by have:=fK.o;omega) (by rw[t4.cf.1,T.o.cf.1];exact HP.o) u4 mW rO<|by decide
   unfold lastT at adX
   clear t4 u4 f4 mW rO Tn akH
   go_wp2_with fail
   refine adX.o.z ?_
   rintro e w5 ⟨rfl,s2,t5,_,px⟩
   have REL:aj (cO w w5 B pb xb s0 (N+8*(i+1)) s2/\Gn s0 (i+1) s2/\yM w5 w.heap.size pb xb s0 s2 (i+1) (aN (ae ⟨gg3,0,af⟩) (i+1) FC)):=⟨(T4.o.t t5).z<|by omega,STP.o s2 px,H4.o.go t5⟩
   clear t5 px adX
   go_wp2_with fail
   go_roundw
   case rel=>exact⟨i+1,s2,_,rfl,by omega,by go_num,REL.o⟩
   case measure=>simp[eU]<;>omega
  ·obtain rfl:i=Q:=by omega
   obtain⟨x,A1,hx,_,_,h1,_⟩:=GG.o.ex
   have HX:aj (s.h.ps[0]? =ae x/\x.s=1):=⟨hx,h1 (by have:=A.o.pg.sn.Q1.1;have:=HQ.o;omega)⟩
   have akI:aj (aW prog 62 #[az<|ae ⟨pb,0,af⟩,ag ah 0,aF true] wr (yK wr B pb xb s (N+8*i+4) fun s'=>∀x,s.h.ps[0]? =ae x->x.s=1->Gl s 0 x true s')):=adO (i:=0) T.o.at_ (by have:=fK.o;omega) (by rw[T.o.cf.1];exact HP.o) GG.o.up true fun y hy=>by rw[hx]at hy;cases hy;exact .inr<|.inl HX.o.2
   clear hx h1 y0
   go_wp2_with fail
   refine akI.o.z ?_
   rintro e w3 ⟨rfl,s2,t3,ef⟩
   have kF:aj (cO w w3 B pb xb s0 (N+40) s2/\Gn s0 s0.h.Q.toNat s/\(∃x,s.h.ps[0]? =ae x/\Gl s 0 x true s2)/\yM w3 w.heap.size pb xb s0 s2 s0.h.Q.toNat hv):=by
    rw[show s0.h.Q.toNat=i by have:=HQ.o;omega];exact⟨(T.o.t t3).z<|by omega,GG.o,⟨x,HX.o.1,ef x HX.o.1 HX.o.2⟩,HH.o.go t3⟩
   clear t3 ef akI
   go_wp2_with fail
   rw[<-lh.o]
   exact⟨rfl,hv,s,s2,⟨rfl,rfl,rfl,rfl⟩,kF.o⟩
end
section
variable{w w':ay}{B pb xb N M:Nat}{s:dm}
def kZ.EG(a:bJ w B pb xb N s){n':Nat}{h':HS}{L':List Rc}(m:di w w' B xb N s.h n' h')(ax:jk h'.pl)(hn:n'<=M)(hM:N<=M)(sn:Sn M h' L')(wd:vC s.h s.L h' L'):kZ w w' B pb xb s M ⟨h',L',s.g,s.v⟩:=kZ.of a m ⟨wd.P,wd.Q,wd.T,wd.K⟩ ax hn hM wd.up<|a.pg.EG sn wd
variable{k:Nat}{m:Ms}
def aw9(a:bJ w B pb xb N s)(hk:s.h.fl[k]? =ae m):aW prog 83 #[az<|ae ⟨xb,0,af⟩,ag ah k] w fun e w'=>e=aV (ag ah 0)/\∃s2,kZ w w' B pb xb s (N+1) s2:=
 (aqh a.ha hk).z fun e w' ⟨h1,fv,mv⟩=>⟨h1,_,kZ.EG a mv a.ax (by omega) (by omega) ((a.pg.sn.drop fv k).z<|by omega)<|.YG fv _⟩
def axa(a:bJ w B pb xb N s)(hk:s.h.fl[k]? =ae m):aW prog 85 #[az<|ae ⟨xb,0,af⟩,ag ah k] w fun e w'=>e=aV (ag ah 0)/\∃s2,kZ w w' B pb xb s (N+1) s2:=
 (ap9 a.ha hk).z fun e w' ⟨h1,hs⟩=>(by
   obtain⟨fv,mv⟩:=hs.going a.ha;exact⟨h1,_,kZ.EG a mv a.ax (by omega) (by omega) ((a.pg.sn.copy fv<|gZ hk).z<|by omega)<|.YG fv _⟩)
def axb(a:bJ w B pb xb N s)(hN:N<=90000000)(hk:s.h.fl[k]? =ae m):aW prog 81 #[az<|ae ⟨xb,0,af⟩,ag ah k] w fun e w'=>e=aV (ag ah 0)/\∃s2,kZ w w' B pb xb s (N+1) s2:=by
 have hm:=gZ hk;obtain⟨mo,ma⟩:=a.pg.sn.ms m hm;have hP:=mo.p;have hQ:=mo.q;have Pn:=a.pg.sn.P1.2;have Qo:=a.pg.sn.Q1.2;obtain⟨i,hi⟩:=qY hP.1;obtain⟨q,hq⟩:=qY hQ.1;rcases mo.k with aT|lq
 ·obtain⟨p,hp⟩:=a.q (q:=q) (by omega);cases ho:p.out with
  |true=>exact(avS a.ha hk aT hq hp ho).z fun e w' ⟨h1,fv,mv⟩=>⟨h1,_,kZ.EG a mv a.ax (by omega) (by omega) ((a.pg.sn.drop fv k).z<|by omega)<|.YG fv _⟩
  |false=>
   have qJ:=(a.pg.sn.dZ q p hp).fM;refine(avT a.ha a.ax hk aT hq hp ho (a.pg.sn.Xu (by omega) mo).1 (by unfold eP;omega)<|by omega).z fun e w' ⟨h1,fv,v',w3,mv,ax,EH⟩=>?_;obtain⟨jA,YB⟩:=EH.going mv.at_;obtain⟨sn,wd⟩:=a.pg.sn.marked hN hk hq hp fv v' jA;exact⟨h1,_,kZ.EG a (mv.t YB) ax (dI _) (by omega) sn wd⟩
 ·obtain⟨x,hx⟩:=a.ps (i:=i) (by omega);refine(avR a.ha hk lq (by omega) hx hq (by omega) hi<|a.pg.sn.adA (by omega) (.inr rfl) (.inl rfl) (by omega) hx).z fun e w' ⟨h1,fv,h',kr,mv⟩=>?_;obtain⟨L',sn,wd,_,iT,_⟩:=(a.pg.sn.drop fv k).lJ mo (ma lq) hi hx kr;exact⟨h1,_,kZ.EG a mv (by rw[iT];exact a.ax) (by omega) (by omega) sn<|(vC.YG fv _).t wd⟩
def axc(a:bJ w B pb xb N s)(hN:N<=80000000):aW prog 56 #[az<|ae ⟨xb,0,af⟩] w fun e w'=>e=aV (.int .i64<|if s.h.up then 0 else 5)/\∃s2,kZ w w' B pb xb s (N+6) s2:=by
 cases hu:s.h.up with
 |false=>exact(ahw a.ha hu).z fun e w' ⟨h1,h2⟩=>by subst h2;exact⟨h1,s,(kZ.still a dR).z<|by omega⟩
 |true=>
  refine(ahx a.ha hu fun j h1 x hj t hx=>a.pg.sn.akc (by omega) hu hj t hx).z fun e w' ⟨ok,h',h1,ho,mv⟩=>?_;obtain⟨e1,L',sn,wd,iT⟩:=a.pg.sn.tick hu ho;subst e1;exact⟨h1,_,kZ.EG a mv (by rw[iT];exact a.ax) (by omega) (by omega) sn wd⟩
end
def wL(c:Int)(hc:fO c){n:Nat}(hn:1<=n)(tq:n<=1000)(w:ay):aW prog 49 #[ag ah c,ag ah n] w fun e w'=>∃k:Nat,k<n/\e=aV (.int .i64 k)/\w=w':=by
 have hx: -9223372036854775808<=c/\c<=9223372036854775807:=by simpa[fO,Lit.wf,IntKind.min,IntKind.max,IntKind.signed,IntKind.bits]using hc
 obtain⟨h1,h2⟩:=hx;have ZT:(n:Int)≠0:=by omega
 have hnm:(n:Int)≠-1:=by omega
 have e0:((n:Int)==0)=false:=by simpa using ZT
 have key:∀d:Int,0<=d->d<=9223372036854775807->eF ah (d.tmod n)=((d%n).toNat:Int)/\(d%n).toNat<n/\d.tmod n=((d%n).toNat:Int):=fun d hd hd2=>by
  have h3:d.tmod n=d%n:=anB hd;have h4:=Int.emod_nonneg d ZT;have h5:=Int.emod_lt_of_pos d (show(0:Int)<n by omega);refine⟨?_,by omega,by omega⟩;rw[h3,wrap_i64 h4<|by omega];omega
 clear hc;by_cases aEV:c<0
 ·obtain⟨k1,k2,k3⟩:=key (-(c+1)) (by omega) (by omega);have w1:eF ah (c+1)=c+1:=by
   simp only[IntKind.wrap,IntKind.bits,IntKind.signed];simp<;>omega
  have w2:eF ah (-(c+1))= -(c+1):=wrap_i64 (by omega) (by omega);clear key;go_enter func49,ntmps49
  go_wp2
  go_ret;refine⟨(-(c+1)%n).toNat,k2,?_,rfl⟩;show Ending.returned (Value.int .i64<|max (-(c+1)%n) 0)=_;exact gy (fun z=>Ending.returned<|Value.int .i64 z)<|by omega
 ·obtain⟨k1,k2,k3⟩:=key c (by omega) (by omega);clear key;go_enter func49,ntmps49
  go_wp2
  go_ret;refine⟨(c%n).toNat,k2,?_,rfl⟩;show Ending.returned (Value.int .i64<|max (c%n) 0)=_;exact gy (fun z=>Ending.returned<|Value.int .i64 z)<|by omega
section
variable{w w':ay}{B pb xb N:Nat}{s:dm}
def wM(k p q m:Int)(ts:ByteArray)(fl:Bool):Value:=iF #[ag ah k,ag ah p,ag ah q,ag ah m,dK ts,aF fl]
def Qx(a:bJ w B pb xb N s):aW prog 36 #[az<|ae ⟨xb,0,af⟩] w fun e w'=>e=aV (ag ah s.h.fl.length)/\Fr aS w w':=aoG a.ha
def adY(f:Nat):Prop:=∀{w:ay} {B pb xb N:Nat} {s:dm} {k:Nat} {m:Ms},bJ w B pb xb N s->N<=90000000->s.h.fl[k]? =ae m->aW prog f #[az<|ae ⟨xb,0,af⟩,ag ah k] w fun e w'=>e=aV (ag ah 0)/\∃s2,kZ w w' B pb xb s (N+1) s2
def axd:adY 83:=fun a _ hk=>aw9 a hk
def axe:adY 85:=fun a _ hk=>axa a hk
def akJ:adY 81:=fun a hN hk=>axb a hN hk
variable{ts:ByteArray}
def adZ(a:bJ w B pb xb N s)(hN:N<=80000000)(k p q m:Int)(hm:fO m)(fl:Bool)(hk:k=6\/k=7\/k=8):
 aW prog 109 #[az<|ae ⟨pb,0,af⟩,wM k p q m ts fl] w (lF w B pb xb s<|N+21):=by
 have A:aj (bJ w B pb xb N s):=a;have fK:aj (N<=80000000):=hN;have HM:aj (fO m):=hm;obtain⟨c0,_⟩:=a.cells;have aK:=bn a.pa.blk;have BZ:=a.pg.sn.fl;unfold wM;clear a hN hm;rcases hk with rfl|rfl|rfl
 ·go_enter func109,ntmps109
  go_wp2_with fail
  refine(Qx<|A.o.a<|bQ _).z ?_;rintro e w1 ⟨rfl,bU⟩;have F1:aj (Fr aS w w1):=(bQ _).t bU dw;have BX:aj (w1.heap[w.heap.size]? =ae (aG #[ag ah 6,ag ah p,ag ah q,ag ah m,dK ts,aF fl] 28 (0,0))):=(bU.block _ (by simp) id).t<|aFb _ _;have d0:=(F1.o.cell (p:=⟨pb,0,af⟩) aK id).t c0;have lH:pb<w1.heap.size:=gu aK F1.o.size;have b0:aB w1 ⟨w.heap.size,0,af⟩=ae (ag ah 6):=aQ BX.o 0;have b3:aB w1 ⟨w.heap.size,3,af⟩=ae (ag ah m):=aQ BX.o 3;clear bU;go_wp2_with fail
  go_loopw [5,6] (fun v iv w'=>v=ag ah s.h.fl.length/\iv=ag ah 0/\w'=w1) (fun _ _ _=>0)
  case atStart=>exact⟨rfl,rfl,rfl⟩
  case round=>
   obtain⟨rfl,rfl,rfl⟩:=hrel
   by_cases hz:0<s.h.fl.length
   ·have hzi:(0:Int)<(s.h.fl.length:Int):=by omega
    go_wp2_with fail
    refine(wL m HM.o (n:=20) (by omega) (by omega) _).z ?_
    rintro e w2 ⟨zX,Qy,rfl,rfl⟩
    have DT:(0:Int)<=(zX:Int):=by omega
    go_wp2_with fail
    refine(wL m HM.o (n:=s.h.fl.length) (by omega) (by omega) _).z ?_
    rintro e w2 ⟨kk,uS,rfl,rfl⟩
    go_wp2_with fail
    refine(akJ (A.o.a F1.o) (by have:=fK.o;omega)<|eY uS).z ?_
    rintro e w3 ⟨rfl,s2,t3⟩
    have kF:aj (lF w B pb xb s (N+21) (aV<|aF true) w3):=⟨rfl,s2,(cO.behind F1.o t3.to).z<|by omega⟩
    have e0:aB w3 ⟨w.heap.size,0,af⟩=ae (ag ah 6):=aQ ((t3.to.fr.block _ (bn BX.o)<|(A.o.a F1.o).Ap BX.o<|by decide).t BX.o) 0
    clear t3
    go_wp2
    go_ret
    exact kF.o
   ·have iI:s.h.fl.length=0:=by omega
    have kF:aj (lF w B pb xb s (N+21) (aV<|aF true) wr):=⟨rfl,s,(cO.still A.o F1.o).z<|by omega⟩
    rw[iI]
    go_wp2_with fail
    refine(wL m HM.o (n:=20) (by omega) (by omega) _).z ?_
    rintro e w2 ⟨zX,Qy,rfl,rfl⟩
    have DT:(0:Int)<=(zX:Int):=by omega
    go_wp2
    go_ret
    exact kF.o
 ·go_enter func109,ntmps109
  go_wp2_with fail
  refine(Qx<|A.o.a<|bQ _).z ?_;rintro e w1 ⟨rfl,bU⟩;have F1:aj (Fr aS w w1):=(bQ _).t bU dw;have BX:aj (w1.heap[w.heap.size]? =ae (aG #[ag ah 7,ag ah p,ag ah q,ag ah m,dK ts,aF fl] 28 (0,0))):=(bU.block _ (by simp) id).t<|aFb _ _;have d0:=(F1.o.cell (p:=⟨pb,0,af⟩) aK id).t c0;have lH:pb<w1.heap.size:=gu aK F1.o.size;have b0:aB w1 ⟨w.heap.size,0,af⟩=ae (ag ah 7):=aQ BX.o 0;have b3:aB w1 ⟨w.heap.size,3,af⟩=ae (ag ah m):=aQ BX.o 3;clear bU;go_wp2_with fail
  go_loopw [5,6] (fun v iv w'=>v=ag ah s.h.fl.length/\iv=ag ah 0/\w'=w1) (fun _ _ _=>0)
  case atStart=>exact⟨rfl,rfl,rfl⟩
  case round=>
   obtain⟨rfl,rfl,rfl⟩:=hrel
   by_cases hz:0<s.h.fl.length
   ·have hzi:(0:Int)<(s.h.fl.length:Int):=by omega
    go_wp2_with fail
    refine(wL m HM.o (n:=20) (by omega) (by omega) _).z ?_
    rintro e w2 ⟨zX,Qy,rfl,rfl⟩
    have DT:(0:Int)<=(zX:Int):=by omega
    go_wp2_with fail
    refine(wL m HM.o (n:=s.h.fl.length) (by omega) (by omega) _).z ?_
    rintro e w2 ⟨kk,uS,rfl,rfl⟩
    go_wp2_with fail
    refine(axd (A.o.a F1.o) (by have:=fK.o;omega)<|eY uS).z ?_
    rintro e w3 ⟨rfl,s2,t3⟩
    have kF:aj (lF w B pb xb s (N+21) (aV<|aF true) w3):=⟨rfl,s2,(cO.behind F1.o t3.to).z<|by omega⟩
    have e0:aB w3 ⟨w.heap.size,0,af⟩=ae (ag ah 7):=aQ ((t3.to.fr.block _ (bn BX.o)<|(A.o.a F1.o).Ap BX.o<|by decide).t BX.o) 0
    clear t3
    go_wp2
    go_ret
    exact kF.o
   ·have iI:s.h.fl.length=0:=by omega
    have kF:aj (lF w B pb xb s (N+21) (aV<|aF true) wr):=⟨rfl,s,(cO.still A.o F1.o).z<|by omega⟩
    rw[iI]
    go_wp2_with fail
    refine(wL m HM.o (n:=20) (by omega) (by omega) _).z ?_
    rintro e w2 ⟨zX,Qy,rfl,rfl⟩
    have DT:(0:Int)<=(zX:Int):=by omega
    go_wp2
    go_ret
    exact kF.o
 ·go_enter func109,ntmps109
  go_wp2_with fail
  refine(Qx<|A.o.a<|bQ _).z ?_;rintro e w1 ⟨rfl,bU⟩;have F1:aj (Fr aS w w1):=(bQ _).t bU dw;have BX:aj (w1.heap[w.heap.size]? =ae (aG #[ag ah 8,ag ah p,ag ah q,ag ah m,dK ts,aF fl] 28 (0,0))):=(bU.block _ (by simp) id).t<|aFb _ _;have d0:=(F1.o.cell (p:=⟨pb,0,af⟩) aK id).t c0;have lH:pb<w1.heap.size:=gu aK F1.o.size;have b0:aB w1 ⟨w.heap.size,0,af⟩=ae (ag ah 8):=aQ BX.o 0;have b3:aB w1 ⟨w.heap.size,3,af⟩=ae (ag ah m):=aQ BX.o 3;clear bU;go_wp2_with fail
  go_loopw [5,6] (fun v iv w'=>v=ag ah s.h.fl.length/\iv=ag ah 0/\w'=w1) (fun _ _ _=>0)
  case atStart=>exact⟨rfl,rfl,rfl⟩
  case round=>
   obtain⟨rfl,rfl,rfl⟩:=hrel
   by_cases hz:0<s.h.fl.length
   ·have hzi:(0:Int)<(s.h.fl.length:Int):=by omega
    go_wp2_with fail
    refine(wL m HM.o (n:=20) (by omega) (by omega) _).z ?_
    rintro e w2 ⟨zX,Qy,rfl,rfl⟩
    have DT:(0:Int)<=(zX:Int):=by omega
    go_wp2_with fail
    refine(wL m HM.o (n:=s.h.fl.length) (by omega) (by omega) _).z ?_
    rintro e w2 ⟨kk,uS,rfl,rfl⟩
    go_wp2_with fail
    refine(axe (A.o.a F1.o) (by have:=fK.o;omega)<|eY uS).z ?_
    rintro e w3 ⟨rfl,s2,t3⟩
    have kF:aj (lF w B pb xb s (N+21) (aV<|aF true) w3):=⟨rfl,s2,(cO.behind F1.o t3.to).z<|by omega⟩
    have e0:aB w3 ⟨w.heap.size,0,af⟩=ae (ag ah 8):=aQ ((t3.to.fr.block _ (bn BX.o)<|(A.o.a F1.o).Ap BX.o<|by decide).t BX.o) 0
    clear t3
    go_wp2
    go_ret
    exact kF.o
   ·have iI:s.h.fl.length=0:=by omega
    have kF:aj (lF w B pb xb s (N+21) (aV<|aF true) wr):=⟨rfl,s,(cO.still A.o F1.o).z<|by omega⟩
    rw[iI]
    go_wp2_with fail
    refine(wL m HM.o (n:=20) (by omega) (by omega) _).z ?_
    rintro e w2 ⟨zX,Qy,rfl,rfl⟩
    have DT:(0:Int)<=(zX:Int):=by omega
    go_wp2
    go_ret
    exact kF.o
def axf(a:bJ w B pb xb N s)(hN:N<=80000000)(p q m:Int)(hm:fO m)(fl:Bool):
 aW prog 109 #[az<|ae ⟨pb,0,af⟩,wM 9 p q m ts fl] w (lF w B pb xb s<|N+21):=by
 have A:aj (bJ w B pb xb N s):=a;have fK:aj (N<=80000000):=hN;have HM:aj (fO m):=hm;obtain⟨c0,_⟩:=a.cells;have aK:=bn a.pa.blk;unfold wM;clear a hN hm;go_enter func109,ntmps109
 go_wp2_with fail
 refine(Qx<|A.o.a<|bQ _).z ?_;rintro e w1 ⟨rfl,bU⟩;have F1:aj (Fr aS w w1):=(bQ _).t bU dw;have BX:aj (w1.heap[w.heap.size]? =ae (aG #[ag ah 9,ag ah p,ag ah q,ag ah m,dK ts,aF fl] 28 (0,0))):=(bU.block _ (by simp) id).t<|aFb _ _;clear bU;go_wp2_with fail
 go_loopw [5,6] (fun v iv w'=>∃(i:Nat) (s2:dm),v=ag ah s2.h.fl.length/\iv=ag ah i/\i<=20/\cO w w' B pb xb s (N+i) s2/\w'.heap[w.heap.size]? =ae (aG #[ag ah 9,ag ah p,ag ah q,ag ah m,dK ts,aF fl] 28 (0,0))) (fun _ iv _=>21-(eU iv).toNat)
 case atStart=>exact⟨0,s,rfl,rfl,by omega,cO.still A.o F1.o,BX.o⟩
 case round=>
  obtain⟨i,s2,rfl,rfl,aDe,t2,aav⟩:=hrel
  have T2:aj (cO w wr B pb xb s (N+i) s2):=t2
  have BX2:aj (wr.heap[w.heap.size]? =ae (aG #[ag ah 9,ag ah p,ag ah q,ag ah m,dK ts,aF fl] 28 (0,0))):=aav
  obtain⟨d0,_⟩:=t2.at_.cells
  have lH:=bn t2.at_.pa.blk
  have b0:aB wr ⟨w.heap.size,0,af⟩=ae (ag ah 9):=aQ aav 0
  have b3:aB wr ⟨w.heap.size,3,af⟩=ae (ag ah m):=aQ aav 3
  have BZ:=t2.at_.pg.sn.fl
  have kF:aj (lF w B pb xb s (N+21) (aV<|aF true) wr):=⟨rfl,s2,t2.z<|by omega⟩
  clear t2 aav c0 aK
  go_wp2_with fail
  refine(wL m HM.o (n:=20) (by omega) (by omega) _).z ?_
  rintro e w2 ⟨zX,Qy,rfl,rfl⟩
  by_cases hik:(i:Int)<=(zX:Int)
  ·by_cases hz:0<s2.h.fl.length
   ·have hzi:(0:Int)<(s2.h.fl.length:Int):=by omega
    go_wp2_with fail
    refine(akJ (k:=0) T2.o.at_ (by have:=fK.o;omega)<|eY hz).z ?_
    rintro e w3 ⟨rfl,s3,t3⟩
    have T3:aj (cO w w3 B pb xb s (N+i+1) s3):=T2.o.t t3.to
    have UI:aj (w3.heap[w.heap.size]? =ae (aG #[ag ah 9,ag ah p,ag ah q,ag ah m,dK ts,aF fl] 28 (0,0))):=(t3.to.fr.block _ (bn BX2.o)<|T2.o.at_.Ap BX2.o<|by decide).t BX2.o
    obtain⟨g0,_⟩:=t3.to.at_.cells
    have Rj:=bn t3.to.at_.pa.blk
    have e0:aB w3 ⟨w.heap.size,0,af⟩=ae (ag ah 9):=aQ UI.o 0
    clear t3 d0 b0 b3 lH
    go_wp2_with fail
    refine(Qx T3.o.at_).z ?_
    rintro e w4 ⟨rfl,qW⟩
    have T4:aj (cO w w4 B pb xb s (N+i+1) s3):=T3.o.a qW
    have BX4:aj (w4.heap[w.heap.size]? =ae (aG #[ag ah 9,ag ah p,ag ah q,ag ah m,dK ts,aF fl] 28 (0,0))):=(qW.block _ (bn UI.o) id).t UI.o
    clear qW g0 Rj e0
    go_wp2_with fail
    go_roundw
    case rel=>exact⟨i+1,s3,rfl,by go_num,by omega,T4.o,BX4.o⟩
    case measure=>simp[eU]<;>omega
   ·have iI:((s2.h.fl.length:Nat):Int)=0:=by omega
    rw[iI]
    go_wp2
    go_ret
    exact kF.o
  ·go_wp2
   go_ret
   exact kF.o
end
section
def axh{w:ay}{va vb:aA}{ra t:List Rec}(ha:FH w va ra)(hb:FH w vb (ra++t)):
 aW prog 58 #[va,vb] w fun e w'=>e=aV (aF true)/\∃q,w'=w.drewN q:=by
 have HA:aj (FH w va ra):=ha;obtain⟨a1,c1,e1,pV⟩:∃a1 c1,va=.slice a1 ra.length c1/\ra.length<=maxLen:=by
  rcases ha with⟨rfl,rfl⟩|⟨g,cap,rfl,h1,h2,_⟩
  ·exact⟨af,0,rfl,kH _⟩
  ·exact⟨_,_,rfl,fG h1 h2⟩
 subst e1;unfold eP at pV;rcases hb with⟨rfl,h0⟩|⟨g,cap,rfl,h1,h2,h3⟩
 ·obtain⟨rfl,rfl⟩:=List.append_eq_nil_iff.1 h0;have HB:aj (FH w (aN af 0 0) []):=.inl ⟨rfl,rfl⟩;clear ha h0;go_enter func58,ntmps58
  go_wp2_with (go_at_call 98;refine(agc HA.o HB.o).z ?_;rintro e w1 ⟨rfl,q,rfl⟩)
  go_ret;exact⟨rfl,q,rfl⟩
 ·have HB:aj (FH w (aN (ae ⟨g,0,af⟩) ra.length cap) ra):=.inr ⟨g,cap,rfl,by simp at h1;omega,h2,fun k r hk=>h3 k r (by rw[vg (dS.1 hk).1];exact hk)⟩;have hl:(ra++t).length=ra.length+t.length:=by simp
  rw[hl]at h1⊢
  unfold eP at h2;have hi:(0:Int)<=(ra.length:Int):=Int.natCast_nonneg _;have hj:(ra.length:Int)<=(cap:Int):=by omega
  clear ha h3 hl;go_enter func58,ntmps58
  go_wp2_with (go_at_call 98;refine(agc HA.o HB.o).z ?_;rintro e w1 ⟨rfl,q,rfl⟩)
  go_ret;exact⟨rfl,q,rfl⟩
def pU(fa:List Fa)(q:Nat)(l:List Wn):List Wn:=l.filter fun w=>decide (w.q=(q:Int))&&decide (iR fa w.p w.t=1)
def akK(fa:List Fa)(q:Nat)(l:List Wn)(x:Wn):pU fa q (l++[x])=pU fa q l++if x.q=(q:Int)/\iR fa x.p x.t=1 then[x]else[]:=by
 unfold pU;rw[tu];congr 1;by_cases h1:x.q=(q:Int)<;>by_cases h2:iR fa x.p x.t=1<;>simp[h1,h2]
variable{fa:List Fa}{q:Nat}{l:List Rec}
def axi{wr:List Wn}{rest:List (Int×ByteArray)}(hf:(pU fa q wr).map (fun w=>(w.p,w.s))=l.map (fun r=>(r.p,r.s))++rest){k:Nat}{x:Wn}(hk:wr[k]? =ae x)(hx:x.q=(q:Int)/\iR fa x.p x.t=1){r:Rec}(hr:l[(pU fa q<|wr.take k).length]? =ae r):r.p=x.p/\r.s=x.s:=by
 have h1:pU fa q (wr.take<|k+1)=pU fa q (wr.take k)++[x]:=by
  rw[yu,hk,CO,akK,if_pos hx]
 have h2:pU fa q wr=pU fa q (wr.take<|k+1)++pU fa q (wr.drop<|k+1):=by
  unfold pU;rw[<-tu,aaD]
 have h3:((pU fa q wr).map fun w=>(w.p,w.s))[(pU fa q<|wr.take k).length]? =ae (x.p,x.s):=by
  rw[h2,h1,OO,OO,CP,yj<|by simp,Fz,Nat.sub_self];rfl
 rw[hf,vg (by rw[Fz];exact(dS.1 hr).1),afP,hr]at h3;simp only[Ho,gU,uu]at h3;exact h3
def akL{wr:List Wn}{rest:List (Int×ByteArray)}(hf:(pU fa q wr).map (fun w=>(w.p,w.s))=l.map (fun r=>(r.p,r.s))++rest):l.length<=(pU fa q wr).length:=by
 have:=gy List.length hf;simp only[Fz,iW]at this;omega
end
section
variable{w w' V:ay}{B pb xb N:Nat}{s s':dm}
def axj(a:bJ w B pb xb N s)(hN:N<=90000000){q:Nat}{p:PL}(hp:s.h.pl[q]? =ae p):
 aW prog 57 #[az<|ae ⟨xb,0,af⟩,ag ah q,ag ah 0,ag ah 1000] w fun e w'=>∃va,e=aV (dU #[va,ag ah 0])/\bD w' w.heap.size 94 3 va (p.s.bF 0 p.s.dC).length (rq<|p.s.bF 0 p.s.dC)/\Fr aS w w':=by
 have k:=a.pg.sn.dZ q p hp;have:=k.fM;have h:=aoE a.ha hp 0 1000 k.inv (by omega);rw[aoj k.inv]at h;exact h
def dm.Ky(s:dm)(q:Nat)(p:PL)(u:aA):dm:=⟨s.h,s.L,{s.g with gt:=s.g.gt.set q<|p.s.bF 0 p.s.dC,st:=s.g.st.set q p.s.dC},{s.v with gs:=s.v.gs.set q u}⟩
def axk{gg gc sg sc q:Nat}{u:aA}{p:PL}(a:bJ w B pb xb N s)(f:Fr aS w V)(hp:s.h.pl[q]? =ae p)(oG:s.v.gv=aN (ae ⟨gg,0,af⟩) s.v.gs.length gc)(D6:s.v.sv=aN (ae ⟨sg,0,af⟩) s.g.st.length sc)(hu:bD V w.heap.size 94 3 u (p.s.bF 0 p.s.dC).length (rq<|p.s.bF 0 p.s.dC))(hB:B<=w.heap.size):
 cO w ((aX V ⟨gg,q,af⟩ u).setCell ⟨sg,q,af⟩<|ag ah p.s.dC) B pb xb s N (s.Ky q p u):=by
 have hq:q<s.v.gs.length:=by rw[a.pa.gl,a.pg.gl];exact(dS.1 hp).1
 obtain⟨b1,h1,f1,g1⟩:=aww (q:=q) (a.a f) oG (CU hu hB) hq;obtain⟨b2,h2,f2,g2⟩:=awx (q:=q) (m:=p.s.dC) (g:={s.g with gt:=s.g.gt.set q<|p.s.bF 0 p.s.dC}) h1 b1 D6;have g2':s.eG pb xb sg:=.inr (.inr<|.inr<|.inr<|.inr<|.inr<|.inl (by rw[D6];rfl));refine⟨⟨h2,a.ax,b2,a.pg.looked hp,a.wr,a.fa⟩,((f.z dw).t f1 fun k e=>.inl (by rw[e];exact g1)).t f2 (fun k e=>.inl (by rw[e];exact g2')),fun k hk=>?_,rfl,rfl,rfl,rfl⟩;rcases hk with hk|hk|hk|hk|hk|hk|hk|⟨z,hz,hk⟩
 ·exact .inl<|.inl hk
 ·exact .inl<|.inr<|.inl hk
 ·exact .inl<|.inr<|.inr<|.inl hk
 ·exact .inl<|.inr<|.inr<|.inr<|.inl hk
 ·exact .inl<|.inr<|.inr<|.inr<|.inr<|.inl hk
 ·exact .inl<|.inr<|.inr<|.inr<|.inr<|.inr<|.inl hk
 ·exact .inl<|.inr<|.inr<|.inr<|.inr<|.inr<|.inr<|.inl hk
 ·have GV:z∈s.v.gs.set q u:=hz;rcases afI GV with GV|rfl
  ·exact .inl<|.inr<|.inr<|.inr<|.inr<|.inr<|.inr<|.inr ⟨z,GV,hk⟩
  ·exact .inr (hu.lt k hk).1
structure zx(s:dm)(q:Nat)(s':dm):Prop where
 h:s'.h=s.h
 L:s'.L=s.L
 wr:s'.g.wr=s.g.wr
 gt:∀(k:Nat) (p:PL),k<q->s.h.pl[k]? =ae p->s'.g.gt[k]? =ae (p.s.bF 0 p.s.dC)
def YW(s s':dm):Prop:=∃Q:Nat,s.h.Q=Q/\zx s Q s'
def zx.zero(s:dm):zx s 0 s:=⟨rfl,rfl,rfl,fun _ _ h=>by omega⟩
variable{q:Nat}{s1:dm}
def zx.gG(a:zx s q s1)(fa:List Fa)(fv:aA):zx s q (s1.gG fa fv):=⟨a.h,a.L,a.wr,a.gt⟩
def zx.Ky(a:zx s q s1){p:PL}(hp:s1.h.pl[q]? =ae p)(hl:q<s1.g.gt.length)(u:aA):zx s (q+1) (s1.Ky q p u):=⟨a.h,a.L,a.wr,fun k p' hk qV=>by
 by_cases e:k=q
 ·subst e;rw[a.h,qV]at hp;cases hp;exact nJ hl
 ·exact(vZ<|Ne.s e).t<|a.gt k p' (by omega) qV⟩
def YX(a:bJ w B pb xb N s)(hN:N<=80000000):aW prog 21 #[az<|ae ⟨pb,0,af⟩] w (yK w B pb xb s (N+6)<|YW s):=by
 have A:aj (bJ w B pb xb N s):=a;have fK:aj (N<=80000000):=hN;obtain⟨Q,hQ⟩:=qY (show 0<=s.h.Q by have:=a.pg.sn.Q1;omega);obtain⟨P,hP⟩:=qY (show 0<=s.h.P by have:=a.pg.sn.P1;omega);have HQ:aj (s.h.Q=Q):=hQ;have HP:aj (s.h.P=P):=hP;have Qo:Q<=4:=by have:=a.pg.sn.Q1.2;omega
 have Pn:P<=6:=by have:=a.pg.sn.P1.2;omega
 clear a hN hQ hP;go_enter func21,ntmps21
 go_wp2_with fail
 go_loopw [3] (fun i w'=>∃(q:Nat) (s':dm),q<=Q/\i=ag ah q/\cO w w' B pb xb s N s'/\zx s q s') (fun i _=>Q-(eU i).toNat)
 case atStart=>exact⟨0,s,kH _,rfl,cO.refl A.o,.zero s⟩
 case round=>
  obtain⟨q,s1,hq,rfl,t1,lk1⟩:=hrel
  have LK1:aj (zx s q s1):=lk1
  clear lk1
  have T1:aj (cO w wr B pb xb s N s1):=t1
  obtain⟨c0,c1,c2,_,_,c7,c8,c9,c10⟩:=t1.at_.cells
  rw[t1.cf.2.1,HQ.o]at c2
  rw[t1.cf.1,HP.o]at c1
  have aK:=bn t1.at_.pa.blk
  clear t1
  by_cases Lp:q<Q
  ·have EM:(q:Int)<(Q:Int):=by omega
   have sW:(0:Int)<=(q:Int):=by omega
   obtain⟨p,hp⟩:=T1.o.at_.q (q:=q) (by rw[T1.o.cf.2.1,HQ.o];omega)
   have zy:aj (s1.h.pl[q]? =ae p):=hp
   clear hp
   go_wp2_with fail
   refine(UF T1.o.at_ (by have:=fK.o;omega) zy.o).z ?_
   rintro e w1 ⟨va,vl,rfl,uk,bU⟩
   obtain⟨pa,pc,rfl⟩:=uk
   have F1:aj (Fr aS wr w1):=bU
   have d0:=(bU.cell (p:=⟨pb,0,af⟩) aK id).t c0
   have lH:pb<w1.heap.size:=gu aK bU.size
   clear bU
   go_wp2_with fail
   have ZW:aj (∃W:ay,W=bz w1 (aG #[aF p.out,ag ah p.s.es.length,ag ah p.s.dC,.slice pa vl pc] 62)):=⟨_,rfl⟩
   obtain⟨W1,eW⟩:=ZW.o
   rw[<-eW]
   have iU:aj (Fr aS wr W1):=by subst eW;exact F1.o.t (bQ _) dw
   have Y1:aj (W1.heap[w1.heap.size]? =ae (aG #[aF p.out,ag ah p.s.es.length,ag ah p.s.dC,.slice pa vl pc] 62 (0,0))):=by subst eW;exact aFb _ _
   clear ZW eW d0 lH
   refine(axj (T1.o.at_.a iU.o) (by have:=fK.o;omega) zy.o).z ?_
   rintro e w2 ⟨u,rfl,hu,jS⟩
   obtain⟨ua,uc,rfl⟩:=OY hu
   obtain⟨rs,zQ⟩:∃rs,rs=p.s.bF 0 p.s.dC:=⟨_,rfl⟩
   rw[<-zQ]at hu⊢
   have Qz:aj (rs=p.s.bF 0 p.s.dC):=zQ
   have U2:aj (bD w2 wr.heap.size 94 3 (.slice ua rs.length uc) rs.length<|rq rs):=CU hu iU.o.size
   have F2:aj (Fr aS wr w2):=iU.o.t jS dw
   have Y2:aj (w2.heap[w1.heap.size]? =ae (aG #[aF p.out,ag ah p.s.es.length,ag ah p.s.dC,.slice pa vl pc] 62 (0,0))):=(jS.block _ (bn Y1.o) id).t Y1.o
   have mF:aj (bJ w2 B pb xb N s1):=T1.o.at_.a F2.o
   clear hu jS zQ
   have uf:q<s1.h.pl.length:=(dS.1 zy.o).1
   have LKS:aj (zx s (q+1)<|s1.Ky q p<|.slice ua rs.length uc):=LK1.o.Ky zy.o (by rw[mF.o.pg.gl];exact uf) _
   obtain⟨s0,ad3,BV,zG⟩:=mF.o.pg.bF q p zy.o
   have ad4:q<s1.v.gs.length:=by rw[mF.o.pa.gl,mF.o.pg.gl];exact uf
   obtain⟨gg,gc,oG,Qw,_⟩:=rF mF.o.pa.gt<|by omega
   have aDf:q<s1.g.st.length:=by rw[mF.o.pg.sl];exact uf
   obtain⟨sg,sc,D6,akO,_⟩:=rF mF.o.pa.st<|by omega
   have YY:aj (s1.v.gv=aN (ae ⟨gg,0,af⟩) s1.v.gs.length gc):=oG
   have HSV:aj (s1.v.sv=aN (ae ⟨sg,0,af⟩) s1.g.st.length sc):=D6
   obtain⟨uq,huq⟩:∃uq,s1.v.gs[q]? =ae uq:=⟨_,eY ad4⟩
   have UQ:aj (bD w2 B 94 3 uq (s0.bF 0 s0.dC).length<|rq<|s0.bF 0 s0.dC):=mF.o.pa.rc q uq _ huq BV
   have e9:aB w2 ⟨pb,9,af⟩=ae (aN (ae ⟨gg,0,af⟩) s1.v.gs.length gc):=by rw[<-oG];exact mF.o.cells.2.2.2.2.2.2.2.1
   have e10:aB w2 ⟨pb,10,af⟩=ae (aN (ae ⟨sg,0,af⟩) s1.g.st.length sc):=by rw[<-D6];exact mF.o.cells.2.2.2.2.2.2.2.2
   have eg:aB w2 ⟨gg,q,af⟩=ae uq:=by
    have hr:=mF.o.pa.gt;rw[oG]at hr;rw[hr.cellAt q<|by omega];exact huq
   have es:aB w2 ⟨sg,q,af⟩=ae (ag ah s0.dC):=by
    have hr:=mF.o.pa.st;rw[D6]at hr;exact Bo (l:=s1.g.st.map Int.ofNat) (by rw[Fz];exact hr) (by rw[afP,zG];rfl)
   have efg:w2.frozen? ⟨gg,q,af⟩=false:=by
    have hr:=mF.o.pa.gt;rw[oG]at hr;exact hr.frozenAt q
   have efs:w2.frozen? ⟨sg,q,af⟩=false:=by
    have hr:=mF.o.pa.st;rw[D6]at hr;exact hr.frozenAt q
   have aDg:(q:Int)<(s1.v.gs.length:Int):=by omega
   have aDh:(q:Int)<(s1.g.st.length:Int):=by omega
   obtain⟨tl,Wl⟩:=ad3.bF
   have BEG:aj (aW prog 58 #[uq,.slice ua rs.length uc] w2 fun e w'=>e=aV (aF true)/\∃n,w'=w2.drewN n):=by
    have h2:=agb U2.o;rw[Qz.o,Wl]at h2;have:=axh (agb UQ.o) h2;rw[Qz.o,Wl];exact this
   have axl:(s0.dC:Int)<=(p.s.dC:Int):=by have:=ad3.dC;omega
   have AU:pb<w2.heap.size:=bn mF.o.pa.blk
   have y2:aB w2 ⟨w1.heap.size,2,af⟩=ae (ag ah p.s.dC):=aQ Y2.o 2
   have sV:w1.heap.size<w2.heap.size:=bn Y2.o
   clear ad3 BV zG oG D6 Wl huq c9 c10
   go_wp2_with fail
   refine BEG.o.z ?_
   rintro e W3 ⟨rfl,n3,YZ⟩
   have F3:aj (Fr aS w2 W3):=by rw[YZ];exact dR.drewN n3
   have x9:=(F3.o.cell (p:=⟨pb,9,af⟩) AU id).t e9
   have x10:=(F3.o.cell (p:=⟨pb,10,af⟩) AU id).t e10
   have xg:=(F3.o.cell (p:=⟨gg,q,af⟩) Qw id).t eg
   have xs:=(F3.o.cell (p:=⟨sg,q,af⟩) akO id).t es
   have xy:=(F3.o.cell (p:=⟨w1.heap.size,2,af⟩) sV id).t y2
   have xfg:W3.frozen? ⟨gg,q,af⟩=false:=by rw[YZ];simpa using efg
   have xfs:W3.frozen? ⟨sg,q,af⟩=false:=by rw[YZ];simpa using efs
   have hsd:decide ((p.s.dC:Int)<(s0.dC:Int))=false:=qZ<|by omega
   have hsn:decide (p.s.dC<s0.dC)=false:=qZ<|by omega
   have Rj:pb<W3.heap.size:=gu AU F3.o.size
   have aDi:gg<W3.heap.size:=gu Qw F3.o.size
   have axo:sg<W3.heap.size:=gu akO F3.o.size
   have axp:w1.heap.size<W3.heap.size:=gu sV F3.o.size
   clear YZ e9 e10 eg es y2 efg efs BEG axl
   go_wp2_with fail
   go_quiet (fail)
   go_wp2_with fail
   have ZW:aj (∃W:ay,W=(W3.drewN nq).setCell ⟨gg,q,af⟩ (.slice ua rs.length uc)):=⟨_,rfl⟩
   obtain⟨W4,eW⟩:=ZW.o
   rw[<-eW]
   have uX:gg≠sg:=fun e=>by
    have h1:=iY mF.o.pa.gt (k:=gg) (by rw[YY.o];rfl);have h2:=iY mF.o.pa.st (k:=sg) (by rw[HSV.o];rfl);rw[e,h2]at h1;exact absurd h1<|by decide
   have hgp:gg≠pb:=fun e=>by
    have h1:=iY mF.o.pa.gt (k:=gg) (by rw[YY.o];rfl);rw[e,mO mF.o.pa.blk]at h1;exact absurd h1<|by decide
   have hgb:gg≠w1.heap.size:=fun e=>by
    have h1:=iY mF.o.pa.gt (k:=gg) (by rw[YY.o];rfl);rw[e,mO Y2.o]at h1;exact absurd h1<|by decide
   have F4:aj (Fr (fun k=>k=gg) W3 W4):=by rw[eW];exact Fr.setCell (S:=fun k=>k=gg) (p:=⟨gg,q,af⟩) (((Fr.refl (fun _=>False) _).drewN nq).z dw) (.inl rfl) _
   have v10:=(F4.o.cell (p:=⟨pb,10,af⟩) Rj fun e=>hgp e.s).t x10
   have vs:=(F4.o.cell (p:=⟨sg,q,af⟩) axo fun e=>uX e.s).t xs
   have vy:=(F4.o.cell (p:=⟨w1.heap.size,2,af⟩) axp fun e=>hgb e.s).t xy
   have vfs:W4.frozen? ⟨sg,q,af⟩=false:=by
    have hr:=mF.o.pa.st;rw[HSV.o]at hr;exact((F4.o.z fun k h=>.inl h).ownsRow (F3.o.ownsRow hr fun _ _=>id) fun k hk e=>uX (by rw[<-e];simpa[Value.ownBlock]using hk.s)).frozenAt q
   have E4:aj (∃m,W4=(W3.drewN m).setCell ⟨gg,q,af⟩ (.slice ua rs.length uc)):=⟨nq,eW⟩
   clear ZW eW x9 x10 xg xs xy xfg xfs hsd hsn
   go_region
   have ZW:aj (∃W:ay,W=(aX W4 ⟨sg,q,af⟩<|ag ah p.s.dC).drew):=⟨_,rfl⟩
   obtain⟨W5,eW⟩:=ZW.o
   rw[<-eW]
   have T5:aj (cO wr W5 B pb xb s1 N<|s1.Ky q p<|.slice ua rs.length uc):=by
    obtain⟨m,e4⟩:=E4.o;have fV:Fr aS wr (W3.drewN m):=(F2.o.t F3.o dw).t ((Fr.refl (fun _=>False) _).drewN m) dw;have hu:=((Fr.refl (fun _=>False) W3).drewN m).ownsRow (F3.o.ownsRow U2.o fun _ _=>id) fun _ _=>id;rw[Qz.o]at hu e4;have:=axk T1.o.at_ fV zy.o YY.o HSV.o hu<|aaN<|aaE T1.o.at_.pa.hb<|bn T1.o.at_.pa.blk;rw[<-e4]at this;rw[eW,Qz.o];exact this.a<|dR.drew
   clear ZW eW v10 vs vy vfs E4 F4 uX hgp hgb
   obtain⟨rest,DL⟩:=T5.o.at_.pg.av7 zy.o
   have ad7:aj ((pU s1.g.fa q s1.g.wr).map (fun w=>(w.p,w.s))=rs.map (fun r=>(r.p,r.s))++rest):=by
    show _=rs.map _++rest;rw[Qz.o];exact DL
   obtain⟨z0,z1,z2,_,_,z7,z8,_,_⟩:=T5.o.at_.cells
   obtain⟨wa,wc,Jr,hwm⟩:=oP T5.o.at_.pa.wr
   have HWV:aj (bD W5 B 66 4 (.slice wa s1.g.wr.length wc) s1.g.wr.length<|s1.g.wr.flatMap Wn.cs):=by have:=T5.o.at_.pa.wr;rw[Jr]at this;exact this
   have z7':aB W5 ⟨pb,7,af⟩=ae (.slice wa s1.g.wr.length wc):=z7.t<|gy ae Jr
   have HFR:aj (bD W5 B 114 3 s1.v.fv s1.g.fa.length<|s1.g.fa.flatMap Fa.cs):=T5.o.at_.pa.fa
   have HU5:aj (bD W5 B 94 3 (.slice ua rs.length uc) rs.length<|rq rs):=by
    have:=T5.o.at_.pa.rc q (.slice ua rs.length uc) (p.s.bF 0 p.s.dC) (nJ ad4) (nJ (by rw[<-mF.o.pa.gl];exact ad4));rw[<-Qz.o]at this;exact this
   have IY:=bn T5.o.at_.pa.blk
   have Q4:(s1.g.wr.length:Int)<=80000000:=by have:=T1.o.at_.wr;have:=fK.o;omega
   have Vx:(rs.length:Int)<=100000000:=by
    have h1:=akL ad7.o;have h2:(pU s1.g.fa q s1.g.wr).length<=s1.g.wr.length:=D8 _ _;omega
   clear DL Jr z7 z1 z2 hwm
   go_wp2_with fail
   go_loopw [9,10] (fun av kv w'=>∃kk:Nat,kk<=s1.g.wr.length/\av=ag ah (pU s1.g.fa q<|s1.g.wr.take kk).length/\kv=ag ah kk/\Fr aS W5 w') (fun _ kv _=>s1.g.wr.length-(eU kv).toNat)
   case atStart=>exact⟨0,kH _,rfl,rfl,Fr.refl _ _⟩
   case round=>
    obtain⟨kk,uS,rfl,rfl,dP⟩:=hrel
    have FR:aj (Fr aS W5 wr):=dP
    have y0:=(dP.cell (p:=⟨pb,0,af⟩) IY id).t z0
    have y7:=(dP.cell (p:=⟨pb,7,af⟩) IY id).t z7'
    have y8:=(dP.cell (p:=⟨pb,8,af⟩) IY id).t z8
    have Dx:pb<wr.heap.size:=gu IY dP.size
    have h4:(pU s1.g.fa q<|s1.g.wr.take kk).length<=kk:=fG (D8 _ _) (by rw[LC];omega)
    generalize fC:(pU s1.g.fa q<|s1.g.wr.take kk).length=av at h4⊢
    have Wq:aj ((pU s1.g.fa q<|s1.g.wr.take kk).length=av):=fC
    clear dP fC
    by_cases h1:kk<s1.g.wr.length
    ·by_cases h2:av<rs.length
     ·have h1i:(kk:Int)<(s1.g.wr.length:Int):=by omega
      have h2i:(av:Int)<(rs.length:Int):=by omega
      have sU:(0:Int)<=(kk:Int):=by omega
      have ha0:(0:Int)<=(av:Int):=by omega
      obtain⟨x,hx⟩:∃x,s1.g.wr[kk]? =ae x:=⟨_,eY h1⟩
      have HX:aj (s1.g.wr[kk]? =ae x):=hx
      have dG:=FR.o.ownsRow HWV.o fun _ _=>id
      obtain⟨wg,akT,hv,dh,_⟩:=rF dG<|by omega
      simp only[aFi]at hv
      obtain⟨rfl,_,rfl⟩:=hv
      have r0:aB wr ⟨wg,kk*4,af⟩=ae (ag ah x.q):=BK Wn.len dG hx (j:=0) rfl
      have r1:aB wr ⟨wg,kk*4+1,af⟩=ae (ag ah x.p):=BK Wn.len dG hx (j:=1) rfl
      have r2:aB wr ⟨wg,kk*4+2,af⟩=ae (ag ah x.t):=BK Wn.len dG hx (j:=2) rfl
      have r3:aB wr ⟨wg,kk*4+3,af⟩=ae (dK x.s):=BK Wn.len dG hx (j:=3) rfl
      obtain⟨r,hr⟩:∃r,rs[av]? =ae r:=⟨_,eY h2⟩
      have HR:aj (rs[av]? =ae r):=hr
      have aay:=FR.o.ownsRow HU5.o fun _ _=>id
      obtain⟨rg,aaX,AB,hrg,_⟩:=rF aay<|by omega
      simp only[aFi]at AB
      obtain⟨rfl,_,rfl⟩:=AB
      have q1:aB wr ⟨rg,av*3+1,af⟩=ae (ag ah r.p):=BK (cs:=Rec.cs) (fun _=>rfl) aay hr (j:=1) rfl
      have q2:aB wr ⟨rg,av*3+2,af⟩=ae (dK r.s):=BK (cs:=Rec.cs) (fun _=>rfl) aay hr (j:=2) rfl
      have FK:aj (pU s1.g.fa q (s1.g.wr.take<|kk+1)=pU s1.g.fa q (s1.g.wr.take kk)++if x.q=(q:Int)/\iR s1.g.fa x.p x.t=1 then[x]else[]):=by
       show pU s1.g.fa q (s1.g.wr.take<|kk+1)=_;rw[yu,hx,CO,akK]
      clear hx hr dG aay
      go_wp2_with fail
      refine(YK (B:=B) (fs:=s1.g.fa) (v:=s1.v.fv) ((FR.o.t (bQ _) dw).ownsRow HFR.o fun _ _=>id) (((bQ _).cell (p:=⟨pb,8,af⟩) Dx id).t y8) _ _).z ?_
      rintro e w6 ⟨rfl,rfl⟩
      generalize CE:iR s1.g.fa x.p x.t=f0
      have IW:aj (iR s1.g.fa x.p x.t=f0):=CE
      clear CE
      by_cases e1:x.q=(q:Int)
      ·have e1':(x.q==(q:Int))=true:=by simpa using e1
       by_cases e2:f0=1
       ·obtain⟨m1,m2⟩:=axi ad7.o HX.o ⟨e1,by rw[IW.o];exact e2⟩ (by rw[Wq.o];exact HR.o)
        rw[m1]at q1
        rw[m2]at q2
        have HL:aj ((pU s1.g.fa q<|s1.g.wr.take<|kk+1).length=av+1):=by
         show _=av+1;rw[FK.o,if_pos ⟨e1,by rw[IW.o];exact e2⟩,iW,Wq.o];rfl
        subst e2
        clear m1 m2 FK
        go_wp2_with fail
        go_quiet (fail)
        go_wp2_with fail
        go_roundw
        case rel=>exact⟨kk+1,by omega,by rw[HL.o];go_num,by go_num,FR.o.t ((bQ _).drewN _) dw⟩
        case measure=>simp[eU]<;>omega
       ·have e2':(f0==1)=false:=by simpa using e2
        have HL:aj ((pU s1.g.fa q<|s1.g.wr.take<|kk+1).length=av):=by
         show _=av;rw[FK.o,if_neg (fun z=>e2 (by rw[<-IW.o];exact z.2)),qM,Wq.o]
        clear FK e2 e1
        go_wp2_with fail
        go_roundw
        case rel=>exact⟨kk+1,by omega,by rw[HL.o],by go_num,FR.o.t (bQ _) dw⟩
        case measure=>simp[eU]<;>omega
      ·have e1':(x.q==(q:Int))=false:=by simpa using e1
       have HL:aj ((pU s1.g.fa q<|s1.g.wr.take<|kk+1).length=av):=by
        show _=av;rw[FK.o,if_neg fun z=>e1 z.1,qM,Wq.o]
       clear FK e1
       go_wp2_with fail
       go_roundw
       case rel=>exact⟨kk+1,by omega,by rw[HL.o],by go_num,FR.o.t (bQ _) dw⟩
       case measure=>simp[eU]<;>omega
     ·have TE:aj (cO w wr B pb xb s N<|s1.Ky q p<|.slice ua rs.length uc):=(T1.o.t T5.o).a FR.o
      go_wp2_with fail
      exact⟨⟨q+1,_,by omega,by go_num,TE.o,LKS.o⟩,by simp[eU]<;>omega⟩
    ·have TE:aj (cO w wr B pb xb s N<|s1.Ky q p<|.slice ua rs.length uc):=(T1.o.t T5.o).a FR.o
     have h2:¬av<rs.length:=by
      have h3:=akL ad7.o;have h5:=Wq.o;rw[Fp<|by omega]at h5;omega
     go_wp2_with fail
     exact⟨⟨q+1,_,by omega,by go_num,TE.o,LKS.o⟩,by simp[eU]<;>omega⟩
  ·clear c0 c7 c8 c9 c10
   go_wp2_with fail
   go_loopw [13] (fun nv w'=>∃(n:Nat) (s':dm),n<=P/\nv=ag ah n/\cO w w' B pb xb s (N+n) s'/\zx s Q s') (fun nv _=>P-(eU nv).toNat)
   case atStart=>exact⟨0,s1,kH _,rfl,T1.o,(by omega:q=Q)▸LK1.o⟩
   case round=>
    clear T1 c1 c2 aK Lp hq
    obtain⟨n,s2,hn,rfl,t2,lk2⟩:=hrel
    have LK2:aj (zx s Q s2):=lk2
    clear lk2 LK1
    have T2:aj (cO w wr B pb xb s (N+n) s2):=t2
    obtain⟨_,c1,_,_,_,_⟩:=t2.at_.cells
    rw[t2.cf.1,HP.o]at c1
    have aK:=bn t2.at_.pa.blk
    clear t2
    by_cases Et:n<P
    ·have ad9:(n:Int)<(P:Int):=by omega
     go_wp2_with fail
     cases hu:s2.h.up with
     |true=>
      obtain⟨x,hx⟩:=T2.o.at_.ps (i:=n) (by rw[T2.o.cf.1,HP.o];exact ad9)
      refine(IX T2.o.at_ (by have:=fK.o;omega) (by rw[T2.o.cf.1,HP.o];exact ad9) hu hx).z ?_
      rintro e w3 ⟨n1,n2,t3⟩
      rename_i va vb fv3 fa3
      obtain⟨ca,cc,rfl,_⟩:=lI n1
      obtain⟨da,dc,rfl,_⟩:=lI n2
      have T3:aj (cO w w3 B pb xb s (N+n+1)<|s2.gG fa3 fv3):=T2.o.t t3
      generalize(bZ x.bG 1 4).length=m1
      generalize(bZ x.bG 2 4).length=m2
      clear n1 n2 t3 hx
      go_wp2_with fail
      go_roundw
      case rel=>exact⟨n+1,_,by omega,by go_num,T3.o.a<|bQ _,LK2.o.gG _ _⟩
      case measure=>simp[eU]<;>omega
     |false=>
      refine(Qr T2.o.at_ (by rw[T2.o.cf.1,HP.o];exact ad9) hu).z ?_
      rintro e w3 ⟨rfl,lM⟩
      have T3:aj (cO w w3 B pb xb s (N+n+1) s2):=(T2.o.a lM).z<|by omega
      clear lM
      go_wp2_with fail
      go_roundw
      case rel=>exact⟨n+1,_,by omega,by go_num,T3.o.a<|bQ _,LK2.o⟩
      case measure=>simp[eU]<;>omega
    ·go_wp2
     go_ret
     exact⟨rfl,s2,T2.o.z<|by omega,Q,HQ.o,LK2.o⟩
def axv(a:bJ w B pb xb N s)(hN:N<=80000000):aW prog 21 #[az<|ae ⟨pb,0,af⟩] w (lF w B pb xb s<|N+6):=(YX a hN).z fun _ _ d=>d.done
end
section
variable{a:Addr}{v:aA}{b:Nat}
def akV{fo s0:Nat->Prop}{w:ay}(bT:au.pI (au.bP fo s0) w)(h1:¬(s0 a.block\/fo a.block))(hc:aB w a=ae v):au.aI ((au.bP fo s0).cut w.heap.size) v:=
 bT.obj.cell (fun z=>z.e h1 fun y=>by have:=oJ hc;have:w.heap.size<=a.block:=y;omega) hc
def axw{fo s0:Nat->Prop}{w:ay}(bT:au.pI (au.bP fo s0) w){off:Nat}(h1:¬(s0 a.block\/fo a.block))(hc:aB w a=ae (az<|ae ⟨b,off,af⟩)):¬(s0 b\/fo b):=fun z=>(akV bT h1 hc).ptr<|.inl z
def Nz{fo s0:Nat->Prop}{w:ay}(bT:au.pI (au.bP fo s0) w)(h1:¬(s0 a.block\/fo a.block))(hc:aB w a=ae v)(hb:bY v=ae b):¬(s0 b\/fo b):=fun z=>Twin.Ut (akV bT h1 hc) hb<|.inl z
variable{w w1 w':ay}{B pb xb N:Nat}{s s':dm}{fo s0:Nat->Prop}
def iE.same{h:HS}{g:PG}{v:PV}(a:iE w B pb xb h g v)(e:w1.heap=w.heap):iE w1 B pb xb h g v:=by
 have row:∀{ty:dJ} {wd:Nat} {v:aA} {k:Nat} {xs:List aA},bD w B ty wd v k xs->bD w1 B ty wd v k xs:=fun{ty wd v k xs} ho=>by
  refine⟨ho.1,?_⟩;rcases ho.2 with⟨q1,q2⟩|⟨g,cap,cur,q1,q2,q3,q4⟩
  ·exact .inl ⟨q1,q2⟩
  ·exact .inr ⟨g,cap,cur,q1,q2,by rw[e];exact q3,q4⟩
 exact⟨by rw[e];exact a.blk,row a.ep,row a.wr,row a.fa,row a.gt,a.gl,fun q u l h1 h2=>row<|a.rc q u l h1 h2,row a.st,a.ap,a.hb⟩
def bJ.same(a:bJ w B pb xb N s)(e:w1.heap=w.heap):bJ w1 B pb xb N s:=⟨Twin.aH.same a.ha (fun b _=>by rw[e]) (by rw[e];exact dI _),a.ax,a.pa.same e,a.pg,a.wr,a.fa⟩
def bJ.re(a:bJ w B pb xb N s)(t:Nat->Question->Nat)(d:Nat):bJ (au.re w t d) B pb xb N s:=a.same rfl
def bJ.free(a:bJ w B pb xb N s)(bT:au.pI (au.bP fo s0) w)(hp:¬(s0 pb\/fo pb)):∀b,s.eG pb xb b->¬(s0 b\/fo b):=by
 obtain⟨c0,_,_,c5,_,c7,c8,c9,c10⟩:=a.cells;have hx:¬(s0 xb\/fo xb):=axw bT (a:=⟨pb,0,af⟩) hp c0;rintro b (hk|rfl|hk|hk|hk|hk|hk|⟨u,hu,hk⟩)
 ·exact Twin.aH.free a.ha bT hx b hk
 ·exact hp
 ·exact Nz bT (a:=⟨pb,5,af⟩) hp c5 hk
 ·exact Nz bT (a:=⟨pb,7,af⟩) hp c7 hk
 ·exact Nz bT (a:=⟨pb,8,af⟩) hp c8 hk
 ·exact Nz bT (a:=⟨pb,9,af⟩) hp c9 hk
 ·exact Nz bT (a:=⟨pb,10,af⟩) hp c10 hk
 ·obtain⟨k,lq⟩:=WL.1 hu;have oq:=(dS.1 lq).1;obtain⟨gg,gc,oG,_⟩:=rF a.pa.gt (by omega);have G6:¬(s0 gg\/fo gg):=Nz bT (a:=⟨pb,9,af⟩) hp c9 (by rw[oG];rfl);have hr:=a.pa.gt;rw[oG]at hr;exact Nz bT (a:=⟨gg,k,af⟩) G6 (by rw[hr.cellAt k<|by omega];exact lq) hk
structure wO(w w':ay)(B pb xb:Nat)(s:dm)(N:Nat)(s':dm):Prop where
 at_:bJ w' B pb xb N s'
 dX:Fr (fun k=>B<=k) w w'
 cf:s'.h.P=s.h.P/\s'.h.Q=s.h.Q/\s'.h.T=s.h.T/\s'.h.K=s.h.K
variable{M:Nat}
def cO.Au(a:bJ w B pb xb M s)(t:cO w w' B pb xb s N s'):wO w w' B pb xb s N s':=⟨t.at_,t.dX a,t.cf⟩
def wO.z(t:wO w w' B pb xb s N s')(hM:N<=M):wO w w' B pb xb s M s':=⟨t.at_.z hM,t.dX,t.cf⟩
def wO.t{s2:dm}(a:wO w w1 B pb xb s M s2)(b:wO w1 w' B pb xb s2 N s'):wO w w' B pb xb s N s':=
 ⟨b.at_,a.dX.t b.dX fun _=>.inl,⟨b.cf.1.t a.cf.1,b.cf.2.1.t a.cf.2.1,b.cf.2.2.1.t a.cf.2.2.1,b.cf.2.2.2.t a.cf.2.2.2⟩⟩
def akW(a:bJ w B pb xb N s)(hN:N<=70000000)(hp:¬(s0 pb\/fo pb))(hB:∀k,s0 k->B<=k):
 au.sG (au.bP fo s0) prog 20 #[az<|ae ⟨xb,0,af⟩] w (fun B' v w'=>∃Wg s2,B'=au.bP fo (fun b=>s0 b\/b=Wg)/\w.heap.size<=Wg/\v=ag ah s.h.fl.length/\wO w w' B pb xb s (N+306) s2/\s2.g=s.g/\s2.h.up=s.h.up/\Qp s.h s2.h/\(∀p t b,fD s.L p t b->fD s2.L p t b)/\(∀b,b<w.heap.size->¬s0 b->¬s.eG pb xb b->w'.heap[b]? =w.heap[b]?)/\∀k,s2.eG pb xb k->s.eG pb xb k\/w.heap.size<=k):=by
 intro c cs;refine au.Reach.ok fun bT=>?_;have Cj:=a.free bT hp;have hx:¬(s0 xb\/fo xb):=Cj xb<|.inl<|.inl rfl;have sn:=a.pg.sn;have D5:=YF s.h.fl s.h.pl;have BZ:=sn.fl;have key:=Twin.avF (s:=s0) a.ha a.ax hx sn.fl (by omega) (fun p hp=>by
  obtain⟨q,hq⟩:=WL.1 hp;have:=(sn.dZ q p hq).fM;omega) (fun m hm=>(sn.Xu (by omega) (sn.ms m hm).1).1) (fun m hm _=>by
  have h1:=(sn.ms m hm).1.q;have h2:=a.ha.hQ.1;exact⟨m.q.toNat,by omega,by omega⟩) (fun gW k h2 m hs kr hm=>sn.avW (by omega) hs kr hm) (fun gW h2 hs kr hu j h1 x hj t hx=>sn.avX (by omega) hs kr hu hj t hx) (by omega)
 refine(key c cs).z ?_;rintro B' fr' w' ⟨v,rfl,Wg,h3,rfl,rfl,pr⟩;obtain⟨gW,h2,hs,_,kr,tk⟩:=pr.ex;obtain⟨L',sn',wd⟩:=sn.round (by omega) hs kr tk;refine⟨_,rfl,Wg,⟨h3,L',s.g,s.v⟩,rfl,pr.wg,rfl,?_,rfl,wd.up,⟨gW,h2,hs,kr,tk⟩,fun _ _ _ d=>wd.qt.more d,fun b h1 h2 h3=>pr.fr b h1 h2 fun z=>h3<|.inl z,fun k hk=>hk.e (fun z=>(pr.sub k z).imp .inl id) fun z=>.inl<|.inr z⟩;have VP:∀b,s.v.eG pb b->w'.heap[b]? =w.heap[b]? :=fun b hb=>pr.fr b (a.pa.uz hb).1 (fun z=>Cj b (.inr hb)<|.inl z) fun z=>a.ha.off a.pa z hb;have f:Fr (fun k=>¬s.v.eG pb k) w w':=⟨pr.os,pr.tape,pr.output,pr.size,fun k _ hk=>VP k<|Classical.not_not.1 hk⟩;have p1:=a.pa.stay f fun k e hk=>e hk;refine⟨⟨pr.at_.z<|by omega,pr.apart,⟨?_,p1.ep,p1.wr,p1.fa,p1.gt,p1.gl,p1.rc,p1.st,p1.ap,p1.hb⟩,a.pg.EG sn' wd,fG a.wr<|by omega,fG a.fa<|by omega⟩,⟨pr.os,pr.tape,pr.output,pr.size,fun k hk hb=>?_⟩,⟨wd.P,wd.Q,wd.T,wd.K⟩⟩
 ·show _=ae (Obj.cells #[_,ag ah h3.P,ag ah h3.Q,ag ah h3.T,ag ah h3.K,_,_,_,_,_,_] 48 (0,0));rw[wd.P,wd.Q,wd.T,wd.K];exact p1.blk
 ·exact pr.fr k hk (fun z=>hb<|hB k z) fun z=>hb (a.ha.uz z).2
def akX(a:bJ w B pb xb N s)(hN:N<=70000000)(hp:¬(s0 pb\/fo pb))(hB:∀k,s0 k->B<=k):
 au.sG (au.bP fo s0) prog 20 #[az<|ae ⟨xb,0,af⟩] w (fun B' v w'=>∃Wg s2,B'=au.bP fo (fun b=>s0 b\/b=Wg)/\w.heap.size<=Wg/\v=ag ah s.h.fl.length/\wO w w' B pb xb s (N+306) s2/\s2.g=s.g/\s2.h.up=s.h.up/\Qp s.h s2.h/\∀p t b,fD s.L p t b->fD s2.L p t b):=
 (akW a hN hp hB).z fun _ _ _ ⟨Wg,s2,h1,h2,h3,h4,h5,h6,h7,h8,_⟩=>⟨Wg,s2,h1,h2,h3,h4,h5,h6,h7,h8⟩
end
section
open Go Go.Conc Twin fU
def akY{fo s:Nat->Prop}{b:bH}{a:Act}{ops:Array Oper}{i:Nat}{rest:List Nat}{k:List Item}{cs cs2:List bH}{w:ay}{Q:au.dE->bH->ay->Prop}{o:Oper}{v:aA}
 (ho:ops[i]? =ae o)(hw:Region.wanted o (yielded ops a.tmps)=true)(hk:b.kind≠.early)(aP:au.tN prog (au.bP fo s).let_ o.op=true)(hf:∃fn,prog.funcs[b.fn]? =ae fn)(KY:au.cZ (au.bP fo s) a.tmps)
 (hr:∀d,(dY a.eval o).run prog (w.at d)=.ok (.value v) (w.at d))
 (hn:∀d,au.Reach (au.bP fo s) prog (b.at (a.put o.dst v)<|bW ops rest::k) cs (w.at d) Q cs2):au.Reach (au.bP fo s) prog (b.at a<|bW ops (i::rest)::k) cs w Q cs2:=by
 refine au.Reach.ok fun bT=>au.Reach.step fun d=>?_;have h5:∀q,s q\/fo q->1<=q:=fun q hq=>(bT.low q hq).1;have L:=au.lets h5;obtain⟨fn,qc⟩:=hf;let fr:Frame:={(default:bH)with fn:=b.fn,kind:=.normal,tmps:=a.tmps}
 have hF:au.gI (au.bP fo s) prog fr:=⟨⟨fn,qc⟩,KY,(fun it jJ=>absurd jJ<|by simp[fr,default,instInhabitedFrame.default]),rfl,.inl rfl,rfl,rfl⟩;have hE:au.Env (au.bP fo s) prog a.eval:=hF.env L.toFit;have hc:=au.acf L.toFit L.ach hE (o:=o) aP;have eX:=ajW hc (w:=w.at d) ⟨bT.okW.obj,bT.okW.low⟩<|hr d;refine⟨_,_,w.at d,_,aFS ho hw hk<|hr d,⟨bT.obj,bT.low,bT.ng⟩,dI _,fun e he=>?_,hn d⟩;exact au.MJ<|eX e<|aFh he
end
section
def aea:Code:=au.cutAt (.refuse "") [true,false,true,false]<|Tryz.f108.body.getD .skip
def axy:au.codeOk prog au.kN aea=true:=by kernel_rfl
def akZ(args:Array aA)(w:ay)(R:Ending->ay->Prop):Prop:=
 aea.wp prog (bodyPost prog Tryz.f108 R) {tmps:=args++gz (Tryz.f108.ntmps-args.size) ai,defers:=[]} w
variable{w w':ay}{B pb xb N:Nat}{s s':dm}{fo s0:Nat->Prop}
def axz(a:bJ w B pb xb N s)(hN:N<=80000000):akZ #[az<|ae ⟨pb,0,af⟩,ag ah 5] w (lF w B pb xb s<|N+6):=by
 have A:aj (bJ w B pb xb N s):=a;have fK:aj (N<=80000000):=hN;obtain⟨c0,_⟩:=a.cells;have aK:=bn a.pa.blk;clear a hN;unfold akZ;simp only[ntmps108,Fv,oH,wu,Nat.reduceAdd,Nat.reduceSub,RD,Rz,RH,RF,wY,nY];obtain⟨Q0,EO⟩:∃Q0,bodyPost prog Tryz.f108 (lF w B pb xb s<|N+6)=Q0:=⟨_,rfl⟩;rw[EO];simp only[aea,Tryz.f108,ik,au.cutAt,if_true,kJ,kG];rw[<-EO];clear EO;go_wp2_with fail
 refine(axc A.o fK.o).z ?_;rintro e w1 ⟨rfl,s2,ht⟩;have T:aj (cO w w1 B pb xb s (N+6) s2):=ht.to;obtain⟨_,_,_,_,e6,_⟩:=ht.to.at_.cells;have lH:=bn ht.to.at_.pa.blk;have kT:s2.g.dn= !s.h.up:=by rw[ht.to.at_.pg.dn,ht.up]
 rw[kT]at e6;clear kT ht;cases hu:s.h.up with
 |true=>
  rw[hu]at e6;simp only[if_true]at*
  go_wp2
  go_ret;exact⟨rfl,⟨s2,T.o⟩⟩
 |false=>
  rw[hu]at e6;simp only[kG,kJ,afS]at*
  go_wp2
  go_ret;exact⟨rfl,⟨s2,T.o⟩⟩
def cO.IU{t t':Nat->Question->Nat}{d d':Nat}(b:cO (au.re w t d) (au.re w' t' d') B pb xb s N s')(on:au.On w w'):cO w w' B pb xb s N s':=
 ⟨b.at_.same rfl,⟨on.os,on.tape,on.output,on.size,b.fr.block⟩,b.sub,b.cf⟩
def zA(hp:¬(s0 pb\/fo pb))(hl:pb<w.heap.size):au.aI ((au.bP fo s0).cut w.heap.size) (az<|ae ⟨pb,0,af⟩):=.sF fun z=>z.e hp fun y=>by have:w.heap.size<=pb:=y;omega
def xO(h5:∀b,s0 b\/fo b->1<=b):au.Dh (au.bP fo s0) prog:=fun k hk=>au.ML fun b hb=>hb.e (h5 b) fun z=>by omega
structure uM(fo s0:Nat->Prop)(w w':ay)(B pb xb:Nat)(s:dm)(N:Nat)(B':au.dE):Prop where
 ex:∃s1 s',B'=au.bP fo s1/\(∀k,s1 k->s0 k\/w.heap.size<=k)/\wO w w' B pb xb s N s'
def axA(a:bJ w B pb xb N s)(hN:N<=80000000)(hp:¬(s0 pb\/fo pb)):
 au.sG (au.bP fo s0) prog 108 #[az<|ae ⟨pb,0,af⟩,ag ah 5] w (fun B' v w'=>v=aF true/\uM fo s0 w w' B pb xb s (N+6) B'):=by
 intro c cs;refine au.Reach.ok fun bT=>?_;have h5:∀b,s0 b\/fo b->1<=b:=fun b hb=>(bT.low b hb).1;refine(au.adS (R:=fun t d=>lF (au.re w t d) B pb xb s<|N+6) (au.lets h5) (xO h5) func108 rfl (au.akD [true,false,true,false] _) axy (au.cZ.two (zA hp<|bn a.pa.blk) .int) (fun t d=>axz (a.re t d) hN) (fun t d e w' hq=>⟨_,hq.1⟩) c cs).z ?_;rintro B' fr' w' ⟨v,rfl,rfl,_,on,t,d,t',j,hq⟩;obtain⟨h1,⟨s',ht⟩⟩:=hq;exact⟨v,rfl,by simpa using h1,⟨_,s',rfl,fun k hk=>.inl hk,(ht.IU on).Au a⟩⟩
end
section
open Go.RowKit Go.Maps Go.Conc Go.Proofs.YtkelpcjiediamaaGreat.Twin fU
def d108:Code:=Tryz.f108.body.getD .skip
def Y0:Code:=jo<|gQ d108
def QA:Code:=au.fH [true,false,true,false] d108
def axB:d108=.seq (jo d108) (.seq (.seq (jo Y0)<|.cond (.tmp 9) QA .skip)<|gQ<|gQ d108):=rfl
def axC:au.codeOk prog au.kN (jo d108)=true:=by kernel_rfl
def axD:au.codeOk prog au.kN (jo Y0)=true:=by kernel_rfl
def axE:au.codeOk prog au.kN (jo QA)=true:=by kernel_rfl
def Kz:Code:=au.fH [true,false,true,false,true]<|Tryz.f108.body.getD .skip
def zB:Array Oper:=match jo Kz with| .region _ o _=>o|_=>#[]
def axF:QA=.seq (jo QA) Kz:=rfl
def axG:Kz=.seq (.region 3 zB false) (gQ Kz):=rfl
def axH:au.codeOk prog au.kN (gQ Kz)=true:=by kernel_rfl
def t108(pb xb n:Nat)(u6 He u16 Gm Gp QB:aA):Array Value:=#[az<|ae ⟨pb,0,af⟩,ag ah 11,ai,ai,aF false,ag ah n,u6,ai,ag ah 11,aF true,az<|ae ⟨pb,0,af⟩,az<|ae ⟨pb,0,af⟩,az<|ae ⟨pb,0,af⟩,az<|ae ⟨xb,0,af⟩,ag ah n,He,u16,Gm,Gp,QB,ai,ai,ai,ai,ai,ai,ai,ai,ai,ai,ai,ai,ai,ai,ai,ai,ai,ai,ai,ai]
def Dy(pb:Nat)(u4 u8 u9:aA):Array Value:=#[az<|ae ⟨pb,0,af⟩,ag ah 11,ai,ai,u4,ai,ai,ai,u8,u9,ai,ai,ai,ai,ai,ai,ai,ai,ai,ai,ai,ai,ai,ai,ai,ai,ai,ai,ai,ai,ai,ai,ai,ai,ai,ai,ai,ai,ai,ai]
def ak0(pb:Nat):#[Value.pointer<|ae ⟨pb,0,af⟩,ag ah 11]++gz (Tryz.f108.ntmps- #[Value.pointer<|ae ⟨pb,0,af⟩,ag ah 11].size) ai=Dy pb ai ai undef:=by kernel_rfl
variable{w w':ay}{B pb xb N:Nat}{s:dm}{fo s0:Nat->Prop}
variable{W:ay}
def axI(pb:Nat):(jo d108).wp prog (fun e a' w'=>e=.normal/\a'=⟨Dy pb (aF false) ai ai,[]⟩/\w'=W) ⟨Dy pb ai ai ai,[]⟩ W:=by
 simp only[d108,Tryz.f108,ik,jo,Dy];go_wp2
def axJ(pb:Nat):(jo Y0).wp prog (fun e a' w'=>e=.normal/\a'=⟨Dy pb (aF false) (ag ah 11)<|aF true,[]⟩/\w'=W) ⟨Dy pb (aF false) ai ai,[]⟩ W:=by
 simp only[Y0,d108,Tryz.f108,ik,jo,gQ,Dy];go_wp2
def axK(a:bJ w B pb xb N s):(jo QA).wp prog (fun e a' w'=>e=.normal/\a'=⟨t108 pb xb s.h.fl.length ai ai ai ai ai ai,[]⟩/\Fr aS w w') ⟨Dy pb (aF false) (ag ah 11)<|aF true,[]⟩ w:=by
 have A:aj (bJ w B pb xb N s):=a;obtain⟨c0,_⟩:=a.cells;have aK:=bn a.pa.blk;clear a;simp only[QA,au.fH,d108,Tryz.f108,ik,jo,Dy,if_true,kJ,kG];go_wp2_with fail
 refine(Qx A.o).z ?_;rintro e w1 ⟨rfl,bU⟩;have F:aj (Fr aS w w1):=bU;clear bU;go_wp2
 exact⟨rfl,F.o⟩
def axL(n:Nat)(He u16 Gm Gp QB:aA):(gQ Kz).wp prog (fun e a' w'=>e=.ret/\a'.tmps.getD 4 ai=aF true/\w'=W) ⟨t108 pb xb n (ag ah n) He u16 Gm Gp QB,[]⟩ W:=by
 simp only[Kz,au.fH,Tryz.f108,ik,gQ,t108,if_true,kJ,kG];go_wp2
def axM(n:Nat)(k:List Item)(cs:List bH)(w:ay):bK prog true (G ((base 108).at ⟨t108 pb xb n ai ai ai ai ai ai,[]⟩<|bW zB [0,1,2,3,4,5]::k) cs) w=
 .go (G ((base 108).at ⟨t108 pb xb n ai (az<|ae ⟨pb,0,af⟩) ai ai ai ai,[]⟩<|bW zB [1,2,3,4,5]::k) cs) w #[]:=
 IP (P:=prog) (main:=true) (b:=base 108) (a:=⟨t108 pb xb n ai ai ai ai ai ai,[]⟩) (ops:=zB) (i:=0) (rest:=[1,2,3,4,5]) (k:=k) (cs:=cs) (w:=w) (v:=az<|ae ⟨pb,0,af⟩) rfl rfl (by decide) rfl rfl
def axN(n:Nat)(k:List Item)(cs:List bH)(w:ay):bK prog true (G ((base 108).at ⟨t108 pb xb n ai (az<|ae ⟨pb,0,af⟩) ai ai ai ai,[]⟩<|bW zB [1,2,3,4,5]::k) cs) w=
 .go (G ((base 108).at ⟨t108 pb xb n ai (az<|ae ⟨pb,0,af⟩) (az<|ae ⟨pb,0,af⟩) ai ai ai,[]⟩<|bW zB [2,3,4,5]::k) cs) w #[]:=
 IP (P:=prog) (main:=true) (b:=base 108) (a:=⟨t108 pb xb n ai (az<|ae ⟨pb,0,af⟩) ai ai ai ai,[]⟩) (ops:=zB) (i:=1) (rest:=[2,3,4,5]) (k:=k) (cs:=cs) (w:=w) (v:=az<|ae ⟨pb,0,af⟩) rfl rfl (by decide) (by kernel_rfl) (by kernel_rfl)
def axO(n:Nat)(k:List Item)(cs:List bH)(w:ay):bK prog true (G ((base 108).at ⟨t108 pb xb n ai (az<|ae ⟨pb,0,af⟩) (az<|ae ⟨pb,0,af⟩) ai ai ai,[]⟩<|bW zB [2,3,4,5]::k) cs) w=
 .go (G ((base 108).at ⟨t108 pb xb n ai (az<|ae ⟨pb,0,af⟩) (az<|ae ⟨pb,0,af⟩) (az<|ae ⟨pb,0,af⟩) ai ai,[]⟩<|bW zB [3,4,5]::k) cs) w #[]:=
 IP (P:=prog) (main:=true) (b:=base 108) (a:=⟨t108 pb xb n ai (az<|ae ⟨pb,0,af⟩) (az<|ae ⟨pb,0,af⟩) ai ai ai,[]⟩) (ops:=zB) (i:=2) (rest:=[3,4,5]) (k:=k) (cs:=cs) (w:=w) (v:=az<|ae ⟨pb,0,af⟩) rfl rfl (by decide) (by kernel_rfl) (by kernel_rfl)
def axP(n m:Nat)(k:List Item)(cs:List bH)(w:ay)(He u16 Gm Gp:aA):bK prog true (G ((base 108).at ⟨t108 pb xb n ai He u16 Gm Gp<|ag ah m,[]⟩<|bW zB [5]::k) cs) w=
 .go (G ((base 108).at ⟨t108 pb xb n (ag ah m) He u16 Gm Gp<|ag ah m,[]⟩<|bW zB []::k) cs) w #[]:=
 IP (P:=prog) (main:=true) (b:=base 108) (a:=⟨t108 pb xb n ai He u16 Gm Gp<|ag ah m,[]⟩) (ops:=zB) (i:=5) (rest:=[]) (k:=k) (cs:=cs) (w:=w) (v:=ag ah m) rfl rfl (by decide) rfl rfl
def axQ(n:Nat)(hc:aB W ⟨pb,0,af⟩=ae (az<|ae ⟨xb,0,af⟩)){o:Oper}(aP:o.op=.load 33 (.tmp 17)):(dY (Act.mk (t108 pb xb n ai (az<|ae ⟨pb,0,af⟩) (az<|ae ⟨pb,0,af⟩) (az<|ae ⟨pb,0,af⟩) ai ai) []).eval o).run prog W=.ok (.value<|az<|ae ⟨xb,0,af⟩) W:=by
 unfold dY;rw[aP];simp only[t108];go_simp
def ak1{Bn:au.dE}{n:Nat}{u6 He u16 Gm Gp QB:aA}(h1:au.aI Bn (az<|ae ⟨pb,0,af⟩))(h2:au.aI Bn (az<|ae ⟨xb,0,af⟩))(k1:au.aI Bn u6)(k2:au.aI Bn He)(k3:au.aI Bn u16)(k4:au.aI Bn Gm)(k5:au.aI Bn Gp)(k6:au.aI Bn QB):au.cZ Bn (t108 pb xb n u6 He u16 Gm Gp QB):=fun v hv=>by
 simp only[t108,uo,jZ,qh,qi,or_self]at hv;repeat' (rcases hv with rfl|hv)
 all_goals first|assumption|exact .int|exact .bool|exact au.rZ|(subst hv;exact au.rZ)
def axR(a:bJ w B pb xb N s)(hN:N<=70000000)(hp:¬(s0 pb\/fo pb))(hB:∀k,s0 k->B<=k):
 au.sG (au.bP fo s0) prog 108 #[az<|ae ⟨pb,0,af⟩,ag ah 11] w (fun B' v w'=>v=aF true/\uM fo s0 w w' B pb xb s (N+306) B'):=by
 intro c cs;refine au.Reach.ok fun bT=>?_;have h5:∀b,s0 b\/fo b->1<=b:=fun b hb=>(bT.low b hb).1;have hl:=bn a.pa.blk;have hx:¬(s0 xb\/fo xb):=a.free bT hp xb<|.inl<|.inl rfl;have L:=au.lets h5;have C:=xO h5;rw[aF3 (c:=d108) _ func108 rfl,ak0,axB];have axS:au.cZ ((au.bP fo s0).cut w.heap.size) (Dy pb ai ai ai):=by
  rw[<-ak0];exact au.cZ.append (au.cZ.two (zA hp hl) .int) fun v hv=>by
   obtain⟨_,rfl⟩:=Lu.1 hv;exact au.rZ
 refine jM fun g1=>?_;refine au.Io (w:=w.at g1) (K:=fun t d e a' w'=>e=.normal/\a'=⟨Dy pb (aF false) ai ai,[]⟩/\w'=au.re (w.at g1) t d) L C axC axS rfl ⟨_,func108⟩ rfl (fun t d=>aFB (axI pb) fun e a' w' hq=>⟨.inl hq.1,hq⟩) ?_ ?_;rotate_left
 ·rintro a1 w1 todo _ _ _ ⟨t,d,t',j,e,_⟩;cases e
 rintro a1 wa Y4 axT _ ⟨t,d,t',j,_,rfl,JD⟩;have ea:wa.heap=w.heap:=show(au.re wa t' j).heap=(au.re (w.at g1) t d).heap from gy World.heap JD;clear JD;refine jM fun g2=>?_;refine jM fun g3=>?_;refine au.Io (w:=(wa.at g2).at g3) (K:=fun t d e a' w'=>e=.normal/\a'=⟨Dy pb (aF false) (ag ah 11)<|aF true,[]⟩/\w'=au.re ((wa.at g2).at g3) t d) L C axD axT rfl ⟨_,func108⟩ rfl (fun t d=>aFB (axJ pb) fun e a' w' hq=>⟨.inl hq.1,hq⟩) ?_ ?_;rotate_left
 ·rintro a1 w1 todo _ _ _ ⟨t,d,t',j,e,_⟩;cases e
 rintro a1 wb Y7 axU _ ⟨t,d,t',j,_,rfl,hwb⟩;have eb:wb.heap=wa.heap:=show(au.re wb t' j).heap=(au.re ((wa.at g2).at g3) t d).heap from gy World.heap hwb;clear hwb;refine jr (fun _=>aFp (t:=true) rfl) fun g4=>?_;rw[if_pos rfl,axF];refine jM fun g5=>?_;have ab:bJ wb B pb xb N s:=a.same<|eb.t ea;refine au.Io (w:=(wb.at g4).at g5) (K:=fun t d e a' w'=>e=.normal/\a'=⟨t108 pb xb s.h.fl.length ai ai ai ai ai ai,[]⟩/\Fr aS (au.re ((wb.at g4).at g5) t d) w') L C axE axU rfl ⟨_,func108⟩ rfl (fun t d=>aFB (axK<|ab.same rfl) fun e a' w' hq=>⟨.inl hq.1,hq⟩) ?_ ?_;rotate_left
 ·rintro a1 w1 todo _ _ _ ⟨t,d,t',j,e,_⟩;cases e
 rintro a1 w1 lU IV _ ⟨t,d,t',j,_,rfl,bU⟩;have f1:Fr aS w w1:=⟨lU.os.t<|Y7.os.t Y4.os,lU.tape.t<|Y7.tape.t Y4.tape,lU.output.t<|Y7.output.t Y4.output,fG Y4.size<|fG Y7.size lU.size,fun b hb h=>(bU.block b (by show b<wb.heap.size;rw[eb,ea];exact hb) h).t (by show wb.heap[b]? =_;rw[eb,ea])⟩;have a1:=a.a f1;clear bU;rw[axG];refine jM fun d1=>?_;refine uH fun d2=>?_;rw[show List.range zB.size=[0,1,2,3,4,5]from rfl];refine jr (fun w=>axM _ _ _ w) fun d3=>?_;refine jr (fun w=>axN _ _ _ w) fun d4=>?_;refine jr (fun w=>axO _ _ _ w) fun d5=>?_;refine akY (v:=az<|ae ⟨xb,0,af⟩) rfl rfl (by decide) (by kernel_rfl) ⟨_,func108⟩ ?_ (fun d=>axQ _ (by exact a1.cells.1) rfl) fun d6=>?_
 ·exact ak1 (.sF hp) (.sF hx) au.rZ (.sF hp) (.sF hp) (.sF hp) au.rZ au.rZ
 refine Yw (f:=20) (post:=fun B' v w'=>∃(d:Nat) (Wg:Nat) (s2:dm),B'=au.bP fo (fun b=>s0 b\/b=Wg)/\w1.heap.size<=Wg/\v=ag ah s.h.fl.length/\wO (w1.at d) w' B pb xb s (N+306) s2) rfl rfl (by decide) rfl func20 rfl rfl (vs:=#[az<|ae ⟨xb,0,af⟩]) (by kernel_rfl) (fun d=>(akX (w:=w1.at d) (a1.same rfl) hN hp hB).z fun B' v w' hg=>?_) ?_
 ·obtain⟨Wg,s2,q1,q2,q3,q4,_⟩:=hg;exact⟨d,Wg,s2,q1,q2,q3,q4⟩
 rintro B' v w2 ⟨dd,Wg,s2,rfl,dh,rfl,Au⟩;refine au.Reach.ok fun OG=>?_;have Gq:∀b,(s0 b\/b=Wg)\/fo b->1<=b:=fun b hb=>(OG.low b hb).1;change au.Reach _ _ ((base 108).at ⟨t108 pb xb s.h.fl.length ai (az<|ae ⟨pb,0,af⟩) (az<|ae ⟨pb,0,af⟩) (az<|ae ⟨pb,0,af⟩) (az<|ae ⟨xb,0,af⟩)<|ag ah s.h.fl.length,[]⟩<|bW zB [5]:: .code (gQ Kz):: .code (gQ<|gQ d108)::[]) _ _ _ _;refine jr (fun w=>axP _ _ _ _ w _ _ _ _) fun d7=>?_;refine uI fun d8=>?_;refine au.Io (w:=(w2.at d7).at d8) (K:=fun t d e a' w'=>e=.ret/\a'.tmps.getD 4 ai=aF true/\w'=au.re ((w2.at d7).at d8) t d) (au.lets Gq) (xO Gq) axH ?_ rfl ⟨_,func108⟩ rfl (fun t d=>aFB (axL _ _ _ _ _ _) fun e a' w' hq=>⟨.inr hq.1,hq⟩) ?_ ?_
 ·have np:¬((au.bP fo fun b=>s0 b\/b=Wg).cut w2.heap.size).dB pb:=fun z=>z.e (fun z=>z.e (fun z=>z.e (fun y=>hp<|.inl y) fun e=>by have:=f1.size;omega) fun y=>hp<|.inr y) fun y=>by have:w2.heap.size<=pb:=y;have:=bn Au.at_.pa.blk;omega
  have nx:¬((au.bP fo fun b=>s0 b\/b=Wg).cut w2.heap.size).dB xb:=fun z=>z.e (fun z=>z.e (fun z=>z.e (fun y=>hx<|.inl y) fun e=>by have:=f1.size;have:=bn a.ha.blk;omega) fun y=>hx<|.inr y) fun y=>by have:w2.heap.size<=xb:=y;have:=bn Au.at_.ha.blk;omega
  exact ak1 (.sF np) (.sF nx) .int (.sF np) (.sF np) (.sF np) (.sF nx) .int
 ·rintro a3 w3 _ _ _ ⟨t,d,t',j,e,_⟩;cases e
 rintro a3 w3 todo NC ady hd3 ⟨t,d,t',j,_,uV,hw3⟩;have e3:w3.heap=w2.heap:=show(au.re w3 t' j).heap=(au.re ((w2.at d7).at d8) t d).heap from gy World.heap hw3;refine au.UG (au.lets Gq) (xO Gq) (fn:=Tryz.f108) (v:=aF true) (t:=t') (k:=j) rfl hd3 rfl func108 ady ?_ fun d9 _=>⟨_,rfl,rfl,⟨_,s2,rfl,?_,?_⟩⟩
 ·rw[<-uV];exact aFY rfl _ _ _
 ·rintro k (hk|rfl)
  ·exact .inl hk
  ·exact .inr<|fG f1.size dh
 ·have z2:w1.heap.size<=w2.heap.size:=Au.dX.size;refine⟨Au.at_.same e3,⟨NC.os.t<|Au.dX.os.t f1.os,NC.tape.t<|Au.dX.tape.t f1.tape,NC.output.t<|Au.dX.output.t f1.output,?_,fun b hb h=>?_⟩,Au.cf⟩
  ·show w.heap.size<=w3.heap.size;rw[e3];exact fG f1.size z2
  ·show w3.heap[b]? =_;rw[e3];exact(Au.dX.block b (gu hb f1.size) h).t<|f1.block b hb id
end
section
def b48:Code:=au.cutAt (.refuse "") [true,true,true,false,true,true,true,true,true,true,true,true,true,true,false]<|Tryz.f48.body.getD .skip
def axV:au.codeOk prog au.kN b48=true:=by kernel_rfl
def ak2(args:Array aA)(w:ay)(R:Ending->ay->Prop):Prop:=
 b48.wp prog (bodyPost prog Tryz.f48 R) {tmps:=args++gz (Tryz.f48.ntmps-args.size) ai,defers:=[]} w
variable{w w':ay}{B pb xb N:Nat}{s s':dm}
def cO.skip{w1:ay}(a:bJ w B pb xb N s)(f:Fr aS w w1){M:Nat}(t:cO w1 w' B pb xb s M s'):cO w w' B pb xb s M s':=(cO.still a f).t t
end
section
variable{w w':ay}{B pb xb N:Nat}{s:dm}
variable{i q:Nat}{ts:ByteArray}
def axW(a:bJ w B pb xb N s)(hN:N<=80000000)(hi:(i:Int)<s.h.P)(hu:s.h.up=false){p:PL}(hp:s.h.pl[q]? =ae p)(h8:ts.size<=8):
 aW prog 61 #[az<|ae ⟨pb,0,af⟩,ag ah i,ag ah q,dK ts] w fun e w'=>e=aV (aF true)/\Fr aS w w':=by
 obtain⟨x,hx⟩:=a.ps hi;obtain⟨ep,he⟩:=a.ep hi;have yJ:=a.pg.ee i ep he;have OE:=(a.pg.sn.valid.rW i).e1;have Lm:=a.pg.sn.fM;have qX:i<s.g.ep.length:=(dS.1 he).1;obtain⟨eg,jO,eX,_⟩:=rF a.pa.ep (by omega);have zV:eF ah (ep-1)=ep-1:=wrap_i64 (by omega) (by omega);have A:aj (bJ w B pb xb N s):=a;have HI:aj ((i:Int)<s.h.P):=hi;have HU:aj (s.h.up=false):=hu;have HE:aj (s.g.ep[i]? =ae ep):=he;have lD:aj (s.v.ev=aN (ae ⟨eg,0,af⟩) s.g.ep.length jO):=eX;have HC:aj (∀(V:ay) (e0:Int) (ts:ByteArray),ts.size<=8->Fr aS w V->aW prog 77 #[az<|ae ⟨xb,0,af⟩,ag ah i,ag ah e0,ag ah q,dK ts] V fun e w'=>e=aV (ag ah 5)/\V=w'):=fun V e0 ts h8 f=>by
  have hb:=adI hu x e0;have:=ahe (ep:=e0) (a.ha.a f) hi (dS.1 hp).1 hx (by rw[hb];decide) h8;rw[hb]at this;exact this
 have fK:aj (N<=80000000):=hN;have HP:aj (s.h.pl[q]? =ae p):=hp;have H8:aj (ts.size<=8):=h8;have zH:(i:Int)<(s.g.ep.length:Int):=by omega
 have sU:(0:Int)<=(i:Int):=by omega
 clear a hi hu hx he eX hN qX yJ OE Lm hp h8;go_enter func61,ntmps61
 go_wp2_with fail
 refine(Qr A.o HI.o HU.o).z ?_;rintro e w1 ⟨rfl,bU⟩;have F1:aj (Fr aS w w1):=bU;clear bU;obtain⟨d0,d5,de,d6,aK,pM⟩:=(A.o.a F1.o).uK lD.o HE.o;go_wp2_with fail
 refine(UF (A.o.a<|F1.o.t (bQ _) dw) (by have:=fK.o;omega) HP.o).z ?_;rintro e w2 ⟨va,vl,rfl,uk,jS⟩;obtain⟨pa,pc,rfl⟩:=uk;have F2:aj (Fr aS w w2):=(F1.o.t (bQ _) dw).t jS dw;clear jS d0 d5 de d6 aK pM;obtain⟨d0,d5,de,d6,aK,pM⟩:=(A.o.a F2.o).uK lD.o HE.o;go_wp2_with fail
 have ZW:aj (∃W:ay,W=bz w2 (aG #[aF p.out,ag ah p.s.es.length,ag ah p.s.dC,.slice pa vl pc] 62)):=⟨_,rfl⟩;obtain⟨W2,eW⟩:=ZW.o;rw[<-eW];have FW2:aj (Fr aS w2 W2):=by subst eW;exact bQ _
 have Y2:aj (W2.heap[w2.heap.size]? =ae (aG #[aF p.out,ag ah p.s.es.length,ag ah p.s.dC,.slice pa vl pc] 62 (0,0))):=by subst eW;exact aFb _ _
 have UJ:aj (Fr aS w W2):=F2.o.t FW2.o dw;clear ZW eW d0 d5 de d6 aK pM;obtain⟨d0,d5,de,d6,aK,pM⟩:=(A.o.a UJ.o).uK lD.o HE.o;go_region_held3 (fun w'=>aB w' ⟨pb,0,af⟩=ae (az<|ae ⟨xb,0,af⟩)/\aB w' ⟨pb,5,af⟩=ae (aN (ae ⟨eg,0,af⟩) s.g.ep.length jO)/\aB w' ⟨eg,i,af⟩=ae (ag ah ep))
  (first|exact⟨d0,d5,de⟩|go_keep)
  ((go_at_call 77;with_reducible refine(HC.o _ (ep-1) _ (by decide)<|UJ.o.drew).z ?_;rintro e w4 ⟨rfl,rfl⟩))
 go_wp2_with fail
 go_region_held3 (fun w'=>aB w' ⟨pb,0,af⟩=ae (az<|ae ⟨xb,0,af⟩)/\aB w' ⟨pb,5,af⟩=ae (aN (ae ⟨eg,0,af⟩) s.g.ep.length jO)/\aB w' ⟨eg,i,af⟩=ae (ag ah ep))
  (first|exact⟨d0,d5,de⟩|go_keep)
  ((go_at_call 77;with_reducible refine(HC.o _ ep _ H8.o<|(UJ.o.drew).drew).z ?_;rintro e w4 ⟨rfl,rfl⟩))
 go_wp2_with fail
 refine(UF (A.o.a<|(UJ.o.drew).drew) (by have:=fK.o;omega) HP.o).z ?_;rintro e w5 ⟨va,YQ,rfl,uk,nU⟩;obtain⟨YR,YS,rfl⟩:=uk;have F5:aj (Fr aS w w5):=((UJ.o.drew).drew).t nU dw;have Y5:aj (w5.heap[w2.heap.size]? =ae (aG #[aF p.out,ag ah p.s.es.length,ag ah p.s.dC,.slice pa vl pc] 62 (0,0))):=(nU.block _ (bn Y2.o) id).t Y2.o;clear d0 d5 de d6 aK pM;obtain⟨_,_,_,d6,aK,_⟩:=(A.o.a F5.o).uK lD.o HE.o;have kT:s.g.dn=true:=by rw[A.o.pg.dn,HU.o];rfl
 rw[kT]at d6;have y3:aB w5 ⟨w2.heap.size,1,af⟩=ae (ag ah p.s.es.length):=aQ Y5.o 1;have b2:w2.heap.size<w5.heap.size:=bn Y5.o;clear nU kT;generalize(p.s.es.length:Int)=ln at y3⊢
 go_wp2
 go_ret;exact⟨rfl,F5.o.t (bQ _) dw⟩
def axX(a:bJ w B pb xb N s)(hN:N<=80000000)(hi:(i:Int)<s.h.P)(hq:(q:Int)<s.h.Q)(h8:ts.size<=8):aW prog 61 #[az<|ae ⟨pb,0,af⟩,ag ah i,ag ah q,dK ts] w (lF w B pb xb s<|N+4):=by
 obtain⟨p,hp⟩:=a.q hq;cases hu:s.h.up with
 |true=>
  obtain⟨x,hx⟩:=a.ps hi;exact(adP a hN hi hu hx hp h8).z fun _ _ d=>d.done
 |false=>exact(axW a hN hi hu hp h8).z fun e w' ⟨h1,h2⟩=>⟨h1,s,(cO.still a h2).z<|by omega⟩
end
section
variable{w w':ay}{B pb xb N:Nat}{s:dm}
def axY(a:bJ w B pb xb N s){q:Nat}(hq:(q:Int)<s.h.Q)(o:Bool):aW prog 52 #[az<|ae ⟨xb,0,af⟩,ag ah q,aF o] w fun e w'=>e=aV (ag ah 0)/\∃s2,kZ w w' B pb xb s (N+1) s2:=by
 obtain⟨p,hp⟩:=a.q hq;exact(aho a.ha hp o).z fun e w' ⟨h1,mv⟩=>⟨h1,_,kZ.EG a mv (a.ax.out hp o) (by omega) (by omega) (a.pg.sn.out hp o) ⟨rfl,rfl,rfl,rfl,rfl,.refl _,.set hp ⟨.refl _,rfl⟩⟩⟩
end
section
variable{w w':ay}{B pb xb N:Nat}{s:dm}
structure KA(w w':ay)(B pb xb N:Nat)(s:dm):Prop where
 ex:∃h',aH w' B xb N h'/\iE w' B pb xb h' s.g s.v/\Fr (fun k=>k=xb) w w'/\jk h'.pl/\Pg N h' s.L {s.g with dn:=true}/\(h'.P=s.h.P/\h'.Q=s.h.Q/\h'.T=s.h.T/\h'.K=s.h.K)/\(∀k,h'.eG xb k->s.h.eG xb k)/\s.g.wr.length<=N/\s.g.fa.length<=N
def KA.cell{M:Nat}{w0:ay}(f:KA w w' B pb xb N s)(a:bJ w0 B pb xb M s):aB w' ⟨pb,6,af⟩=ae (.bool<|!s.h.up):=by
 obtain⟨h',_,b,_⟩:=f.ex;rw[<-a.pg.dn];exact aQ b.blk 6
def KA.note{V:ay}(f:KA w w' B pb xb N s)(g:Fr aS w' V):∃s2,cO w (aX V ⟨pb,6,af⟩<|aF true) B pb xb s N s2:=by
 obtain⟨h',ha,b,fr,ax,pg,cf,sub,l1,l2⟩:=f.ex;obtain⟨n1,n2,n3⟩:=adJ (d:=true) (ha.a g)<|b.a g;exact⟨⟨h',s.L,{s.g with dn:=true},s.v⟩,⟨n2,ax,n1,pg,l1,l2⟩,((fr.t g dw).z fun k e=>.inl<|.inl<|.inl e).t n3 fun k e=>.inl<|.inr<|.inl e,fun k hk=>hk.e (fun e=>.inl<|.inl<|sub k e) fun e=>.inl<|.inr e,cf⟩
def axZ(a:bJ w B pb xb N s):aW prog 44 #[az<|ae ⟨xb,0,af⟩] w fun e w'=>e=aV (.int .i64<|if s.h.up then 0 else 5)/\KA w w' B pb xb N s:=
 (agC a.ha).z fun e w' ⟨h1,h2,h3⟩=>⟨h1,by
   have st:iE w' B pb xb s.h s.g s.v:=a.pa.stay h3 fun k e hk=>a.ha.off a.pa (.inl e) hk;cases hu:s.h.up with
   |true=>
    rw[hu,if_pos rfl]at h2;exact⟨s.h.yx,h2,⟨st.blk,st.ep,st.wr,st.fa,st.gt,st.gl,st.rc,st.st,st.ap,st.hb⟩,h3,a.ax,a.pg.YI,⟨rfl,rfl,rfl,rfl⟩,fun _ h=>h,a.wr,a.fa⟩
   |false=>
    rw[hu,if_neg<|by decide]at h2;have hd:({s.g with dn:=true}:PG)=s.g:=by
     have:=a.pg.dn;rw[hu]at this;cases hg:s.g with
     |mk=>rw[hg]at this;simp_all
    exact⟨s.h,h2,st,h3,a.ax,by rw[hd];exact a.pg,⟨rfl,rfl,rfl,rfl⟩,fun _ h=>h,a.wr,a.fa⟩⟩
end
section
variable{w w':ay}{B pb xb N:Nat}{s:dm}
def KA.soft(f:KA w w' B pb xb N s):w'.frozen? ⟨pb,6,af⟩=false:=by
 obtain⟨h',_,b,_⟩:=f.ex;exact kK b.blk 6
end
section
variable{w w':ay}{B pb xb N:Nat}{s:dm}
structure KC(w w':ay)(B pb xb N:Nat)(s:dm):Prop where
 ex:∃h',aH w' B xb N h'/\iE w' B pb xb h' s.g s.v/\Fr (s.h.eG xb) w w'/\jk h'.pl/\Pg N h' s.L {s.g with dn:=false}/\(h'.P=s.h.P/\h'.Q=s.h.Q/\h'.T=s.h.T/\h'.K=s.h.K)/\(∀k,h'.eG xb k->s.h.eG xb k\/w.heap.size<=k)/\s.g.wr.length<=N/\s.g.fa.length<=N
def KC.cell{M:Nat}{w0:ay}(f:KC w w' B pb xb N s)(a:bJ w0 B pb xb M s):aB w' ⟨pb,6,af⟩=ae (.bool<|!s.h.up):=by
 obtain⟨h',_,b,_⟩:=f.ex;rw[<-a.pg.dn];exact aQ b.blk 6
def KC.note{V:ay}(f:KC w w' B pb xb N s)(g:Fr aS w' V):∃s2,cO w (aX V ⟨pb,6,af⟩<|aF false) B pb xb s N s2:=by
 obtain⟨h',ha,b,fr,ax,pg,cf,sub,l1,l2⟩:=f.ex;obtain⟨n1,n2,n3⟩:=adJ (d:=false) (ha.a g)<|b.a g;exact⟨⟨h',s.L,{s.g with dn:=false},s.v⟩,⟨n2,ax,n1,pg,l1,l2⟩,((fr.t g dw).z fun k e=>.inl<|.inl e).t n3 fun k e=>.inl<|.inr<|.inl e,fun k hk=>hk.e (fun e=>(sub k e).imp .inl id) fun e=>.inl<|.inr e,cf⟩
def KC.soft(f:KC w w' B pb xb N s):w'.frozen? ⟨pb,6,af⟩=false:=by
 obtain⟨h',_,b,_⟩:=f.ex;exact kK b.blk 6
def ax0(a:bJ w B pb xb N s)(hN:N<=70000000):aW prog 29 #[az<|ae ⟨xb,0,af⟩] w fun e w'=>e=aV (.int .i64<|if s.h.up then 6 else 0)/\KC w w' B pb xb N s:=by
 cases hu:s.h.up with
 |true=>
  exact(aoM a.ha hu).z fun e w' ⟨h1,h2⟩=>⟨h1,by
   subst h2;have hd:({s.g with dn:=false}:PG)=s.g:=by
    have:=a.pg.dn;rw[hu]at this;cases hg:s.g with
    |mk=>rw[hg]at this;simp_all
   exact⟨s.h,a.ha,a.pa,Fr.refl _ _,a.ax,by rw[hd];exact a.pg,⟨rfl,rfl,rfl,rfl⟩,fun _ h=>.inl h,a.wr,a.fa⟩⟩
 |false=>
  exact(abN a.ha hu (a.pg.sn.dn hu)<|a.pg.sn.mg<|by omega).z fun e w' ⟨h1,jv,mv⟩=>⟨h1,by
   have st:iE w' B pb xb s.h s.g s.v:=a.pa.stay mv.fr fun k e hk=>a.ha.off a.pa e hk;exact⟨s.h.Eg jv s.L,mv.at_,⟨st.blk,st.ep,st.wr,st.fa,st.gt,st.gl,st.rc,st.st,st.ap,st.hb⟩,mv.fr,a.ax,a.pg.Uy jv,⟨rfl,rfl,rfl,rfl⟩,mv.sub,a.wr,a.fa⟩⟩
end
section
variable{w w':ay}{B pb xb N:Nat}{s s':dm}{fo s0:Nat->Prop}
variable{ts:ByteArray}
def ax1(a:bJ w B pb xb N s)(hN:N<=70000000)(k p q m:Int)(hp:fO p)(hq:fO q)(hm:fO m)(fl:Bool)(h5:k≠5)(Lj:k≠11):
 ak2 #[az<|ae ⟨pb,0,af⟩,wM k p q m ts fl] w (lF w B pb xb s<|N+21):=by
 obtain⟨P,hP⟩:=qY (show 0<=s.h.P by have:=a.pg.sn.P1;omega);obtain⟨Q,hQ⟩:=qY (show 0<=s.h.Q by have:=a.pg.sn.Q1;omega);have Z4:1<=P/\P<=6:=by have:=a.pg.sn.P1;omega
 have UA:1<=Q/\Q<=4:=by have:=a.pg.sn.Q1;omega
 have A:aj (bJ w B pb xb N s):=a;have HM:aj (fO m):=hm;have fK:aj (N<=70000000):=hN;have zy:aj (fO p/\fO q/\s.h.P=(P:Int)/\s.h.Q=(Q:Int)):=⟨hp,hq,hP,hQ⟩;obtain⟨c0,c1,c2,_⟩:=a.cells;rw[hP]at c1;rw[hQ]at c2;have aK:=bn a.pa.blk;unfold wM;clear a hN hp hq hm hP hQ;unfold ak2;simp only[ntmps48,Fv,oH,wu,Nat.reduceAdd,Nat.reduceSub,RD,Rz,RH,RF,wY,nY];obtain⟨Q0,EO⟩:∃Q0,bodyPost prog Tryz.f48 (lF w B pb xb s<|N+21)=Q0:=⟨_,rfl⟩;rw[EO];simp only[b48,Tryz.f48,ik,au.cutAt,if_true,kJ,kG];rw[<-EO];clear EO;go_wp2_with fail
 have ZW:aj (∃W:ay,W=bz w (aG #[ag ah k,ag ah p,ag ah q,ag ah m,dK ts,aF fl] 28 (0,0))):=⟨_,rfl⟩;obtain⟨W1,eW⟩:=ZW.o;rw[<-eW];have iU:aj (Fr aS w W1):=by subst eW;exact bQ _
 have BX:aj (W1.heap[w.heap.size]? =ae (aG #[ag ah k,ag ah p,ag ah q,ag ah m,dK ts,aF fl] 28 (0,0))):=by subst eW;exact aFb _ _
 clear ZW eW;have b0:aB W1 ⟨w.heap.size,0,af⟩=ae (ag ah k):=aQ BX.o 0;have b1:aB W1 ⟨w.heap.size,1,af⟩=ae (ag ah p):=aQ BX.o 1;have b2:aB W1 ⟨w.heap.size,2,af⟩=ae (ag ah q):=aQ BX.o 2;have b3:aB W1 ⟨w.heap.size,3,af⟩=ae (ag ah m):=aQ BX.o 3;have b4:aB W1 ⟨w.heap.size,4,af⟩=ae (dK ts):=aQ BX.o 4;have b5:aB W1 ⟨w.heap.size,5,af⟩=ae (aF fl):=aQ BX.o 5;have d1:=(iU.o.cell (p:=⟨pb,1,af⟩) aK id).t c1;have d2:=(iU.o.cell (p:=⟨pb,2,af⟩) aK id).t c2;have uy:aj (∀V,aW prog 49 #[ag ah p,ag ah P] V fun e w'=>∃k:Nat,k<P/\e=aV (ag ah k)/\V=w'):=fun V=>wL p zy.o.1 Z4.1 (by omega) V;have ui:aj (∀V,aW prog 49 #[ag ah q,ag ah Q] V fun e w'=>∃k:Nat,k<Q/\e=aV (ag ah k)/\V=w'):=fun V=>wL q zy.o.2.1 UA.1 (by omega) V;go_region_held3 (fun w'=>aB w' ⟨w.heap.size,1,af⟩=ae (ag ah p)/\aB w' ⟨pb,1,af⟩=ae (ag ah P))
  (first|exact⟨b1,d1⟩|go_keep)
  ((go_at_call 49;with_reducible refine(uy.o _).z ?_;rintro e w2 ⟨i,hi,rfl,rfl⟩))
 go_wp2_with fail
 go_region_held3 (fun w'=>aB w' ⟨w.heap.size,2,af⟩=ae (ag ah q)/\aB w' ⟨pb,2,af⟩=ae (ag ah Q))
  (first|exact⟨b2,d2⟩|go_keep)
  ((go_at_call 49;with_reducible refine(ui.o _).z ?_;rintro e w3 ⟨j,hj,rfl,rfl⟩))
 have F2:aj (Fr aS w W1.drew.drew):=(iU.o.drew).drew;have HI:aj ((i:Int)<s.h.P/\(j:Int)<s.h.Q):=⟨by have:=zy.o.2.2.1;omega,by have:=zy.o.2.2.2;omega⟩;by_cases k1:k=1
 ·subst k1;go_wp2_with fail
  refine(awR (A.o.a F2.o) (by have:=fK.o;omega) HI.o.1).z ?_;rintro e w4 ⟨rfl,s2,t2⟩;have T:aj (lF w B pb xb s (N+21) (aV<|aF true) w4):=⟨rfl,s2,(cO.skip A.o F2.o t2).z<|by omega⟩;clear t2;go_wp2_with fail
  go_ret;exact T.o
 by_cases k2:k=2
 ·subst k2;go_wp2_with fail
  refine(awG (A.o.a F2.o) (by have:=fK.o;omega) HI.o.1 HI.o.2).z ?_;rintro e w4 ⟨rfl,s2,t2⟩;have T:aj (lF w B pb xb s (N+21) (aV<|aF true) w4):=⟨rfl,s2,(cO.skip A.o F2.o t2).z<|by omega⟩;clear t2;go_wp2_with fail
  go_ret;exact T.o
 by_cases k3:k=3
 ·subst k3;have kF:∀{ts':ByteArray},ts'.size<=8->aW prog 61 #[az<|ae ⟨pb,0,af⟩,ag ah i,ag ah j,dK ts'] W1.drew.drew fun e w'=>e=aV (aF true)/\aj (lF w B pb xb s (N+21) (aV<|aF true) w'):=fun h8=>
   (axX (A.o.a F2.o) (by have:=fK.o;omega) HI.o.1 HI.o.2 h8).z fun e w' ⟨h1,s2,t2⟩=>⟨h1,rfl,s2,(cO.skip A.o F2.o t2).z<|by omega⟩
  have HF:aj (∀{ts':ByteArray},ts'.size<=8->aW prog 61 #[az<|ae ⟨pb,0,af⟩,ag ah i,ag ah j,dK ts'] W1.drew.drew fun e w'=>e=aV (aF true)/\aj (lF w B pb xb s (N+21) (aV<|aF true) w')):=kF;clear kF;by_cases h8:(8:Int)<(ts.size:Int)
  ·go_wp2_with fail
   refine(HF.o (ts':=ts.extract 0 8) (by rw[ByteArray.size_extract];omega)).z ?_;rintro e w4 ⟨rfl,T⟩;go_wp2_with fail
   go_ret;exact T.o
  ·go_wp2_with fail
   refine(HF.o<|by omega).z ?_;rintro e w4 ⟨rfl,T⟩;go_wp2_with fail
   go_ret;exact T.o
 by_cases k4:k=4
 ·subst k4;go_wp2_with fail
  refine(awM (A.o.a F2.o) (by have:=fK.o;omega) HI.o.1 fl).z ?_;rintro e w4 ⟨rfl,s2,t2⟩;have T:aj (lF w B pb xb s (N+21) (aV<|aF true) w4):=⟨rfl,s2,(cO.skip A.o F2.o t2).z<|by omega⟩;clear t2;go_wp2_with fail
  go_ret;exact T.o
 by_cases k6:k=6
 ·subst k6;go_wp2_with fail
  refine(adZ (A.o.a F2.o) (by have:=fK.o;omega) 6 p q m HM.o fl<|by decide).z ?_;rintro e w4 ⟨rfl,s2,t2⟩;have T:aj (lF w B pb xb s (N+21) (aV<|aF true) w4):=⟨rfl,s2,(cO.skip A.o F2.o t2).z<|by omega⟩;clear t2;go_wp2_with fail
  go_ret;exact T.o
 by_cases k7:k=7
 ·subst k7;go_wp2_with fail
  refine(adZ (A.o.a F2.o) (by have:=fK.o;omega) 7 p q m HM.o fl<|by decide).z ?_;rintro e w4 ⟨rfl,s2,t2⟩;have T:aj (lF w B pb xb s (N+21) (aV<|aF true) w4):=⟨rfl,s2,(cO.skip A.o F2.o t2).z<|by omega⟩;clear t2;go_wp2_with fail
  go_ret;exact T.o
 by_cases k8:k=8
 ·subst k8;go_wp2_with fail
  refine(adZ (A.o.a F2.o) (by have:=fK.o;omega) 8 p q m HM.o fl<|by decide).z ?_;rintro e w4 ⟨rfl,s2,t2⟩;have T:aj (lF w B pb xb s (N+21) (aV<|aF true) w4):=⟨rfl,s2,(cO.skip A.o F2.o t2).z<|by omega⟩;clear t2;go_wp2_with fail
  go_ret;exact T.o
 by_cases k9:k=9
 ·subst k9;go_wp2_with fail
  refine(axf (A.o.a F2.o) (by have:=fK.o;omega) p q m HM.o fl).z ?_;rintro e w4 ⟨rfl,s2,t2⟩;have T:aj (lF w B pb xb s (N+21) (aV<|aF true) w4):=⟨rfl,s2,(cO.skip A.o F2.o t2).z<|by omega⟩;clear t2;go_wp2_with fail
  go_ret;exact T.o
 by_cases Ws:k=10
 ·subst Ws;have d0:W1.drew.drew.cell? ⟨pb,0,af⟩=ae (az<|ae ⟨xb,0,af⟩):=(F2.o.cell (p:=⟨pb,0,af⟩) aK id).t c0;have g5:W1.drew.drew.cell? ⟨w.heap.size,5,af⟩=ae (aF fl):=b5;have UI:aj (W1.drew.drew.drew.heap[w.heap.size]? =ae (aG #[ag ah 10,ag ah p,ag ah q,ag ah m,dK ts,aF fl] 28 (0,0))):=BX.o;have HC:aj (∀V:ay,Fr aS w V->V.heap[w.heap.size]? =ae (aG #[ag ah 10,ag ah p,ag ah q,ag ah m,dK ts,aF fl] 28 (0,0))->aW prog 52 #[az<|ae ⟨xb,0,af⟩,ag ah j,aF fl] V fun e w'=>e=aV (ag ah 0)/\aj (lF w B pb xb s (N+21) (aV<|aF true) w')/\(aB w' ⟨pb,0,af⟩=ae (az<|ae ⟨xb,0,af⟩)/\aB w' ⟨w.heap.size,5,af⟩=ae (aF fl))):=fun V f AP=>
   (axY (A.o.a f) HI.o.2 fl).z fun e w' ⟨h1,s2,t2⟩=>⟨h1,⟨rfl,s2,(cO.skip A.o f t2.to).z<|by omega⟩,t2.to.at_.cells.1,aQ ((t2.to.fr.block _ (bn AP)<|(A.o.a f).Ap AP rfl).t AP) 5⟩
  go_wp2_with fail
  go_region_held3 (fun w'=>aB w' ⟨pb,0,af⟩=ae (az<|ae ⟨xb,0,af⟩)/\aB w' ⟨w.heap.size,5,af⟩=ae (aF fl))
   (first|with_reducible exact C4|exact⟨d0,g5⟩|go_keep)
   ((go_at_call 52;with_reducible refine(HC.o _ (F2.o.drew) UI.o).z ?_;rintro e w4 ⟨rfl,T,C4⟩))
  go_wp2_with fail
  go_ret;exact T.o
 by_cases Wu:k=13
 ·subst Wu;have d0:W1.drew.drew.cell? ⟨pb,0,af⟩=ae (az<|ae ⟨xb,0,af⟩):=(F2.o.cell (p:=⟨pb,0,af⟩) aK id).t c0;have HC:=axZ<|A.o.a F2.o;have HC0:aj (aW prog 44 #[az<|ae ⟨xb,0,af⟩] W1.drew.drew fun e w'=>e=aV (.int .i64<|if s.h.up then 0 else 5)/\KA W1.drew.drew w' B pb xb N s):=HC;clear HC;go_wp2_with fail
  refine HC0.o.z ?_;rintro e w4 ⟨rfl,fe⟩;have T:aj (∀V,Fr aS w4 V->lF w B pb xb s (N+21) (aV<|aF true) (aX V ⟨pb,6,af⟩<|aF true)):=fun V f=>by
   obtain⟨s2,t2⟩:=fe.note f;exact⟨rfl,s2,(cO.skip A.o F2.o t2).z<|by omega⟩
  have e6:aB w4 ⟨pb,6,af⟩=ae (.bool<|!s.h.up):=fe.cell A.o;have NV:pb<w4.heap.size:=oJ e6;have Ew:w4.frozen? ⟨pb,6,af⟩=false:=fe.soft;clear fe;cases hu:s.h.up with
  |true=>
   rw[hu]at e6;simp only[if_true,OT]at*
   go_wp2
   go_ret;exact T.o _ dR
  |false=>
   rw[hu]at e6;simp only[kG,kJ,afS]at*
   go_wp2
   go_ret;exact T.o _ dR
 by_cases Wv:k=14
 ·subst Wv;have d0:W1.drew.drew.cell? ⟨pb,0,af⟩=ae (az<|ae ⟨xb,0,af⟩):=(F2.o.cell (p:=⟨pb,0,af⟩) aK id).t c0;have HC:=ax0 (A.o.a F2.o) fK.o;have HC0:aj (aW prog 29 #[az<|ae ⟨xb,0,af⟩] W1.drew.drew fun e w'=>e=aV (.int .i64<|if s.h.up then 6 else 0)/\KC W1.drew.drew w' B pb xb N s):=HC;clear HC;go_wp2_with fail
  refine HC0.o.z ?_;rintro e w4 ⟨rfl,fe⟩;have T:aj (∀V,Fr aS w4 V->lF w B pb xb s (N+21) (aV<|aF true) (aX V ⟨pb,6,af⟩<|aF false)):=fun V f=>by
   obtain⟨s2,t2⟩:=fe.note f;exact⟨rfl,s2,(cO.skip A.o F2.o t2).z<|by omega⟩
  have e6:aB w4 ⟨pb,6,af⟩=ae (.bool<|!s.h.up):=fe.cell A.o;have NV:pb<w4.heap.size:=oJ e6;have Ew:w4.frozen? ⟨pb,6,af⟩=false:=fe.soft;clear fe;cases hu:s.h.up with
  |true=>
   rw[hu]at e6;simp only[if_true,OT]at*
   go_wp2
   go_ret;exact T.o _ dR
  |false=>
   rw[hu]at e6;simp only[kG,kJ,afS]at*
   go_wp2
   go_ret;exact T.o _ dR
 have hk:k≠1/\k≠2/\k≠3/\k≠4/\k≠5/\k≠6/\k≠7/\k≠8/\k≠9/\k≠10/\k≠11/\k≠13/\k≠14:=⟨k1,k2,k3,k4,h5,k6,k7,k8,k9,Ws,Lj,Wu,Wv⟩;have T:aj (lF w B pb xb s (N+21) (aV<|aF true) W1.drew.drew):=⟨rfl,s,(cO.still A.o F2.o).z<|by omega⟩;obtain⟨k1,k2,k3,k4,k5,k6,k7,k8,k9,Ws,k11,Wu,Wv⟩:=hk;go_wp2
 go_ret;exact T.o
def aed{Bn:au.dE}(k p q m:Int)(ts:ByteArray)(fl:Bool):au.aI Bn (wM k p q m ts fl):=.agg fun x hx=>by
 simp only[uo,jZ,qh,qi]at hx;rcases hx with rfl|rfl|rfl|rfl|rfl|rfl
 ·exact .int
 ·exact .int
 ·exact .int
 ·exact .int
 ·exact .string
 ·exact .bool
def ax2(a:bJ w B pb xb N s)(hN:N<=70000000)(hp:¬(s0 pb\/fo pb))(k p q m:Int)(ip:fO p)(iq:fO q)(im:fO m)(fl:Bool)(h5:k≠5)(Lj:k≠11):
 au.sG (au.bP fo s0) prog 48 #[az<|ae ⟨pb,0,af⟩,wM k p q m ts fl] w (fun B' v w'=>v=aF true/\uM fo s0 w w' B pb xb s (N+21) B'):=by
 intro c cs;refine au.Reach.ok fun bT=>?_;have yR:∀b,s0 b\/fo b->1<=b:=fun b hb=>(bT.low b hb).1;refine(au.adS (R:=fun t d=>lF (au.re w t d) B pb xb s<|N+21) (au.lets yR) (xO yR) func48 rfl (au.akD [true,true,true,false,true,true,true,true,true,true,true,true,true,true,false] _) axV (au.cZ.two (zA hp<|bn a.pa.blk)<|aed k p q m ts fl) (fun t d=>ax1 (a.re t d) hN k p q m ip iq im fl h5 Lj) (fun t d e w' hq=>⟨_,hq.1⟩) c cs).z ?_;rintro B' fr' w' ⟨v,rfl,rfl,_,on,t,d,t',j,hq⟩;obtain⟨h1,⟨s',ht⟩⟩:=hq;exact⟨v,rfl,by simpa using h1,⟨_,s',rfl,fun k hk=>.inl hk,(ht.IU on).Au a⟩⟩
end
section
variable{w w' w1:ay}{B pb xb N:Nat}{s s':dm}{s0 fo:Nat->Prop}
structure EP(w w':ay)(B pb xb N:Nat)(s:dm):Prop where
 ex:∃h',aH w' B xb N h'/\iE w' B pb xb h' s.g s.v/\Fr (s.h.eG xb) w w'/\Pg N h' s.L {s.g with dn:=false}/\(h'.P=s.h.P/\h'.Q=s.h.Q/\h'.T=s.h.T/\h'.K=s.h.K)/\(∀k,h'.eG xb k->s.h.eG xb k\/w.heap.size<=k)/\h'.up=true/\h'.pl=s.h.pl
structure Fair(q:Nat)(s:dm):Prop where
 up:s.h.up=true
 ins:∀(k:Nat) (p:PL),k<q->s.h.pl[k]? =ae p->p.out=false
def EP.note{V:ay}(a:bJ w B pb xb N s)(f:EP w w' B pb xb N s)(g:Fr aS w' V):∃s2,cO w (aX V ⟨pb,6,af⟩<|aF false) B pb xb s N s2/\Fair 0 s2:=by
 obtain⟨h',ha,b,fr,pg,cf,sub,hu,hl⟩:=f.ex;obtain⟨n1,n2,n3⟩:=adJ (d:=false) (ha.a g)<|b.a g;exact⟨⟨h',s.L,{s.g with dn:=false},s.v⟩,⟨⟨n2,by rw[hl];exact a.ax,n1,pg,a.wr,a.fa⟩,((fr.t g dw).z fun k e=>.inl<|.inl e).t n3 fun k e=>.inl<|.inr<|.inl e,fun k hk=>hk.e (fun e=>(sub k e).imp .inl id) fun e=>.inl<|.inr e,cf⟩,hu,fun k p hk=>by omega⟩
def EP.cell(f:EP w w' B pb xb N s):aB w' ⟨pb,6,af⟩=ae (aF s.g.dn)/\w'.frozen? ⟨pb,6,af⟩=false:=by
 obtain⟨h',_,b,_⟩:=f.ex;exact⟨aQ b.blk 6,kK b.blk 6⟩
def EP.lt(f:EP w w' B pb xb N s):pb<w'.heap.size:=by
 obtain⟨h',_,b,_⟩:=f.ex;exact bn b.blk
def ax4(a:bJ w B pb xb N s)(hN:N<=70000000)(hu:s.h.up=true):aW prog 44 #[az<|ae ⟨xb,0,af⟩] w fun e w1=>e=aV (ag ah 0)/\iE w1 B pb xb s.h s.g s.v/\
 ∀V,Fr aS w1 V->aW prog 29 #[az<|ae ⟨xb,0,af⟩] V fun e w'=>e=aV (ag ah 0)/\EP w w' B pb xb N s:=
 (agC a.ha).z fun e w1 ⟨h1,h2,h3⟩=>by
   rw[hu,if_pos rfl]at h1 h2;have AZ:iE w1 B pb xb s.h s.g s.v:=a.pa.stay h3 fun k e hk=>a.ha.off a.pa (.inl e) hk;have pg1:=a.pg.YI;refine⟨h1,AZ,fun V f=>(abN (h2.a f) rfl (pg1.sn.dn rfl)<|pg1.sn.mg<|by omega).z fun e w' ⟨r1,jv,mv⟩=>⟨r1,?_⟩⟩;have Q8:iE V B pb xb s.h.yx s.g s.v:=by
    have b:=AZ.a f;exact⟨b.blk,b.ep,b.wr,b.fa,b.gt,b.gl,b.rc,b.st,b.ap,b.hb⟩
   have st:iE w' B pb xb s.h.yx s.g s.v:=Q8.stay mv.fr fun k e hk=>(h2.a f).off Q8 e hk;have fr:Fr (s.h.eG xb) w w':=((h3.z fun k e=>.inl<|.inl e).t (f.z dw) fun _=>.inl).t mv.fr fun k hk=>.inl hk;exact⟨s.h.yx.Eg jv s.L,mv.at_,⟨st.blk,st.ep,st.wr,st.fa,st.gt,st.gl,st.rc,st.st,st.ap,st.hb⟩,fr,pg1.Uy jv,⟨rfl,rfl,rfl,rfl⟩,fun k hk=>(mv.sub k hk).imp id fun e=>fG (h3.t (f.z dw) fun _=>.inl).size e,rfl,rfl⟩
def ax5(a:bJ w B pb xb N s)(hN:N<=70000000)(hu:s.h.up=false):aW prog 29 #[az<|ae ⟨xb,0,af⟩] w fun e w'=>e=aV (ag ah 0)/\EP w w' B pb xb N s:=
 (abN a.ha hu (a.pg.sn.dn hu)<|a.pg.sn.mg<|by omega).z fun e w' ⟨h1,jv,mv⟩=>⟨h1,by
   have st:iE w' B pb xb s.h s.g s.v:=a.pa.stay mv.fr fun k e hk=>a.ha.off a.pa e hk;exact⟨s.h.Eg jv s.L,mv.at_,⟨st.blk,st.ep,st.wr,st.fa,st.gt,st.gl,st.rc,st.st,st.ap,st.hb⟩,mv.fr,a.pg.Uy jv,⟨rfl,rfl,rfl,rfl⟩,mv.sub,rfl,rfl⟩⟩
def ak3(a:bJ w B pb xb N s){q:Nat}(hq:(q:Int)<s.h.Q)(F:Fair q s):aW prog 52 #[az<|ae ⟨xb,0,af⟩,ag ah q,aF false] w fun e w'=>e=aV (ag ah 0)/\∃s2,cO w w' B pb xb s (N+1) s2/\Fair (q+1) s2:=by
 obtain⟨p,hp⟩:=a.q hq;refine(aho a.ha hp false).z fun e w' ⟨h1,mv⟩=>⟨h1,_,(kZ.EG a mv (a.ax.out hp false) (by omega) (by omega) (a.pg.sn.out hp false) ⟨rfl,rfl,rfl,rfl,rfl,.refl _,.set hp ⟨.refl _,rfl⟩⟩).to,F.up,fun k p' hk qV=>?_⟩;by_cases e:q=k
 ·subst e;rw[show(s.h.iD q {p with out:=false}).pl[q]? =ae _ from nJ (dS.1 hp).1]at qV;cases qV;rfl
 ·rw[show(s.h.iD q {p with out:=false}).pl[k]? =_ from vZ e]at qV;exact F.ins k p' (by omega) qV
def Y8(w:ay)(B pb xb N:Nat)(s:dm)(e:Ending)(w':ay):Prop:=e=aV (aF true)/\∃s',cO w w' B pb xb s (N+4) s'/\s'.h.up=true/\∀(k:Nat) (p:PL),s'.h.pl[k]? =ae p->p.out=false
def b19:Code:=Tryz.f19.body.getD .skip
def ax6:au.codeOk prog au.kN b19=true:=by kernel_rfl
def ak4(args:Array aA)(w:ay)(R:Ending->ay->Prop):Prop:=b19.wp prog (bodyPost prog Tryz.f19 R) {tmps:=args++gz (Tryz.f19.ntmps-args.size) ai,defers:=[]} w
def ax7(a:bJ w B pb xb N s)(hN:N<=60000000):ak4 #[az<|ae ⟨pb,0,af⟩] w (Y8 w B pb xb N s):=by
 have A:aj (bJ w B pb xb N s):=a;have fK:aj (N<=60000000):=hN;obtain⟨Q,hQ⟩:=qY (show 0<=s.h.Q by have:=a.pg.sn.Q1;omega);have HQ:aj (s.h.Q=Q):=hQ;have Qo:Q<=4:=by have:=a.pg.sn.Q1.2;omega
 obtain⟨c0,_,_,_,c6,_⟩:=a.cells;have aK:=bn a.pa.blk;have HDN:aj (s.g.dn= !s.h.up):=a.pg.dn;clear a hN hQ;unfold ak4;simp only[ntmps19,Fv,oH,wu,Nat.reduceAdd,Nat.reduceSub,RD,Rz,RH,RF,wY,nY];obtain⟨Q0,EO⟩:∃Q0,bodyPost prog Tryz.f19 (Y8 w B pb xb N s)=Q0:=⟨_,rfl⟩;rw[EO];simp only[b19,Tryz.f19,ik];rw[<-EO];clear EO;have kF:aj (∀V s',cO w V B pb xb s (N+Q) s'->Fair Q s'->Y8 w B pb xb N s (aV<|aF true) V):=fun V s' t F=>⟨rfl,s',t.z<|by omega,F.up,fun k p hp=>F.ins k p (by
  have h1:=(dS.1 hp).1;have h2:=t.at_.ha.hQ.1;have h3:s'.h.Q=Q:=t.cf.2.1.t HQ.o;omega) hp⟩
 obtain⟨u,hu⟩:∃u,s.h.up=u:=⟨_,rfl⟩;have HU:aj (s.h.up=u):=hu;have kT:=HDN.o;rw[hu]at kT;rw[kT]at c6;clear kT hu HDN;cases u
 ·go_wp2_with fail
  refine(ax5 A.o (by have:=fK.o;omega) HU.o).z ?_;rintro e w1 ⟨rfl,ri⟩;have RI:aj (EP w w1 B pb xb N s):=ri;clear ri c0 c6 aK;obtain⟨s0,t0,F0⟩:=RI.o.note A.o dR;have T0:aj (cO w (aX w1 ⟨pb,6,af⟩<|aF false) B pb xb s N s0/\Fair 0 s0):=⟨t0,F0⟩;obtain⟨c6',f6⟩:=RI.o.cell;have nH:=RI.o.lt;clear t0 F0;go_wp2_with fail
  go_loopw [5] (fun iv w'=>∃i:Nat,i<=Q/\iv=ag ah i/\∃s2,cO w w' B pb xb s (N+i) s2/\Fair i s2) (fun iv _=>Q-(eU iv).toNat)
  case atStart=>exact⟨0,kH _,rfl,s0,T0.o⟩
  case round=>
   obtain⟨i,hi,rfl,s2,t2,F2⟩:=hrel
   obtain⟨y0,_,y2,_⟩:=t2.at_.cells
   rw[show s2.h.Q=Q from t2.cf.2.1.t HQ.o]at y2
   have Dx:=bn t2.at_.pa.blk
   have T2:aj (cO w wr B pb xb s (N+i) s2/\Fair i s2):=⟨t2,F2⟩
   clear t2 F2 c6' f6 nH
   by_cases Lp:i<Q
   ·have EM:(i:Int)<(Q:Int):=by omega
    go_wp2_with fail
    refine(ak3 T2.o.1.at_ (by rw[show s2.h.Q=Q from T2.o.1.cf.2.1.t HQ.o];exact EM) T2.o.2).z ?_
    rintro e w3 ⟨rfl,s3,t3,F3⟩
    have T3:aj (cO w w3 B pb xb s (N+(i+1)) s3/\Fair (i+1) s3):=⟨T2.o.1.t t3,F3⟩
    clear t3 F3 y0 y2 Dx
    go_wp2_with fail
    go_roundw
    case rel=>exact⟨i+1,by omega,by go_num,s3,T3.o⟩
    case measure=>simp[eU]<;>omega
   ·obtain rfl:i=Q:=by omega
    go_wp2
    go_ret
    exact kF.o _ s2 T2.o.1 T2.o.2
 ·go_wp2_with fail
  refine(ax4 A.o (by have:=fK.o;omega) HU.o).z ?_;rintro e w1 ⟨rfl,b1,K⟩;have K1:aj (∀V,Fr aS w1 V->aW prog 29 #[az<|ae ⟨xb,0,af⟩] V fun e w'=>e=aV (ag ah 0)/\EP w w' B pb xb N s):=K;have ZQ:aB w1 ⟨pb,0,af⟩=ae (az<|ae ⟨xb,0,af⟩):=aQ b1.blk 0;have ZM:=bn b1.blk;clear K b1 c0 aK;go_wp2_with fail
  refine(K1.o _ dR).z ?_;rintro e w2 ⟨rfl,ri⟩;have RI:aj (EP w w2 B pb xb N s):=ri;clear ri ZQ c6 ZM K1;obtain⟨s0,t0,F0⟩:=RI.o.note A.o dR;have T0:aj (cO w (aX w2 ⟨pb,6,af⟩<|aF false) B pb xb s N s0/\Fair 0 s0):=⟨t0,F0⟩;obtain⟨c6',f6⟩:=RI.o.cell;have nH:=RI.o.lt;clear t0 F0;go_wp2_with fail
  go_loopw [5] (fun iv w'=>∃i:Nat,i<=Q/\iv=ag ah i/\∃s2,cO w w' B pb xb s (N+i) s2/\Fair i s2) (fun iv _=>Q-(eU iv).toNat)
  case atStart=>exact⟨0,kH _,rfl,s0,T0.o⟩
  case round=>
   obtain⟨i,hi,rfl,s2,t2,F2⟩:=hrel
   obtain⟨y0,_,y2,_⟩:=t2.at_.cells
   rw[show s2.h.Q=Q from t2.cf.2.1.t HQ.o]at y2
   have Dx:=bn t2.at_.pa.blk
   have T2:aj (cO w wr B pb xb s (N+i) s2/\Fair i s2):=⟨t2,F2⟩
   clear t2 F2 c6' f6 nH
   by_cases Lp:i<Q
   ·have EM:(i:Int)<(Q:Int):=by omega
    go_wp2_with fail
    refine(ak3 T2.o.1.at_ (by rw[show s2.h.Q=Q from T2.o.1.cf.2.1.t HQ.o];exact EM) T2.o.2).z ?_
    rintro e w3 ⟨rfl,s3,t3,F3⟩
    have T3:aj (cO w w3 B pb xb s (N+(i+1)) s3/\Fair (i+1) s3):=⟨T2.o.1.t t3,F3⟩
    clear t3 F3 y0 y2 Dx
    go_wp2_with fail
    go_roundw
    case rel=>exact⟨i+1,by omega,by go_num,s3,T3.o⟩
    case measure=>simp[eU]<;>omega
   ·obtain rfl:i=Q:=by omega
    go_wp2
    go_ret
    exact kF.o _ s2 T2.o.1 T2.o.2
def ax8(a:bJ w B pb xb N s)(hN:N<=60000000)(hp:¬(s0 pb\/fo pb)):
 au.sG (au.bP fo s0) prog 19 #[az<|ae ⟨pb,0,af⟩] w (fun B' v w'=>B'=au.bP fo s0/\v=aF true/\∃s',wO w w' B pb xb s (N+4) s'/\s'.h.up=true/\∀(k:Nat) (p:PL),s'.h.pl[k]? =ae p->p.out=false):=by
 intro c cs;refine au.Reach.ok fun bT=>?_;have h5:∀b,s0 b\/fo b->1<=b:=fun b hb=>(bT.low b hb).1;refine(au.adS (R:=fun t d=>Y8 (au.re w t d) B pb xb N s) (au.lets h5) (xO h5) func19 rfl (.same _<|.off rfl _) ax6 (au.cZ.one<|zA hp<|bn a.pa.blk) (fun t d=>ax7 (a.re t d) hN) (fun t d e w' hq=>⟨_,hq.1⟩) c cs).z ?_;rintro B' fr' w' ⟨v,rfl,rfl,_,on,t,d,t',j,hq⟩;obtain⟨h1,s',ht,hu,fZ⟩:=hq;exact⟨v,rfl,rfl,by simpa using h1,s',(ht.IU on).Au a,hu,fZ⟩
end
section
def IZ:Code:=au.fH EJ EK
def ax9:au.codeOk prog au.kN (au.lW EJ EK)=true:=by kernel_rfl
def ak6:List.range 101=[0,1,2,3,4,5,6,7,8,9,10,11,12,13,14,15,16,17,18,19,20,21,22,23,24,25,26,27,28,29,30,31,32,33,34,35,36,37,38,39,40,41,42,43,44,45,46,47,48,49,50,51,52,53,54,55,56,57,58,59,60,61,62,63,64,65,66,67,68,69,70,71,72,73,74,75,76,77,78,79,80,81,82,83,84,85,86,87,88,89,90,91,92,93,94,95,96,97,98,99,100]:=by kernel_rfl
def zC(a:Array aA):a=((List.range a.size).map fun i=>a.getD i ai).toArray:=Array.ext (by simp) fun i h1 h2=>by simp[Array.getD,h1]
variable{w w1 w' W w3:ay}{B p q t k cb xb pb n:Nat}{h h':HS}{L:List Rc}{v:PV}{g:PG}
def iE.aya{yU:aA}(ha:aH w B xb n h)(b:iE w B pb xb h g v)(hW:Fr aS w W)(hg:W.grownBy w1 v.ev.ownBlock)(jf:bD w1 B 3 1 yU (g.ep.length+1) (gm g.ep++[ag ah 1]))(fC:∀k,bY yU=ae k->v.ev.ownBlock=ae k\/w.heap.size<=k):
 iE (aX w1 ⟨pb,5,af⟩ yU) B pb xb h {g with ep:=g.ep++[1]} {v with ev:=yU}/\aH (aX w1 ⟨pb,5,af⟩ yU) B xb n h/\Fr (fun k=>k=pb\/v.ev.ownBlock=ae k) w (aX w1 ⟨pb,5,af⟩ yU):=by
 have f1:Fr (fun k=>v.ev.ownBlock=ae k) w w1:=(hW.z dw).grown hg fun k e=>.inl e;have f2:Fr (fun k=>k=pb\/v.ev.ownBlock=ae k) w (aX w1 ⟨pb,5,af⟩ yU):=(f1.z fun k h=>.inl<|.inr h).setCell (.inl<|.inl rfl) _;have dD:v.ev.ownBlock≠ae pb:=Hy b.ep b.blk (by decide);have b1:=(f1.block pb (bn b.blk) dD).t b.blk;have ht:∀k,(k=pb\/v.ev.ownBlock=ae k)->tag w k=48\/tag w k=3:=fun k e=>e.imp (fun e=>by rw[e];exact mO b.blk) fun e=>iY b.ep e;have st:∀{ty:dJ} {wd:Nat} {u:aA} {m:Nat} {xs:List aA},bD w B ty wd u m xs->ty≠48->ty≠3->(aX w1 ⟨pb,5,af⟩ yU).ownsRow B ty wd u m xs:=fun ho h1 h2=>Nq ho f2 fun k e e2=>(ht k e).e (fun z=>h1<|e2.s.t z) fun z=>h2<|e2.s.t z;refine⟨⟨?_,?_,st b.wr (by decide)<|by decide,st b.fa (by decide)<|by decide,st b.gt (by decide)<|by decide,b.gl,fun q u l h1 h2=>st (b.rc q u l h1 h2) (by decide)<|by decide,?_,fun k hk e=>?_,b.hb⟩,ha.stay f2 fun k e hk=>ha.off b hk<|e.imp id fun e=>.inl e,f2⟩
 ·rw[kU b1];rfl
 ·have hr:Fr (fun k=>k=pb) w1 (aX w1 ⟨pb,5,af⟩ yU):=(Fr.refl (fun k=>k=pb) w1).setCell (p:=⟨pb,5,af⟩) (.inl rfl) _;have:=hr.ownsRow jf (fun k hk e=>by
   subst e;rcases fC _ hk with h1|h1
   ·exact dD h1
   ·have:=bn b.blk;omega)
  show World.ownsRow _ B 3 1 yU (g.ep++[1]).length (gm<|g.ep++[1]);simpa[gm]using this
 ·exact f2.ownsRow b.st fun k hk e=>e.e (fun e=>by subst e;exact Hy b.st b.blk (by decide) hk) fun e=>b.ap k e hk
 ·rcases fC k hk with h1|h1
  ·exact b.ap k h1 e
  ·have:=(b.st.lt k e).2;omega
structure Gt(w:ay)(B p q t k cb xb pb n:Nat)(h:HS)(L:List Rc)(v:PV)(w':ay):Prop where
 Qv:w'.heap[cb]? =ae (aG #[ag ah p,ag ah q,ag ah t,ag ah k] 23 (0,0))
 lt:cb<B
 ha:aH w' B xb n h
 ax:jk h.pl
 xN:Mk n h L
 cf:h.P=p/\h.Q=q/\h.T=t/\h.K=k
 pa:iE w' B pb xb h (pR n q) v
 fr:Fr (fun k=>B<=k) w w'
def iE.kQ(b:iE w B pb xb h g v)(cf:h'.P=h.P/\h'.Q=h.Q/\h'.T=h.T/\h'.K=h.K):iE w B pb xb h' g v:=by
 refine⟨?_,b.ep,b.wr,b.fa,b.gt,b.gl,b.rc,b.st,b.ap,b.hb⟩;rw[cf.1,cf.2.1,cf.2.2.1,cf.2.2.2];exact b.blk
def Gt.step{wr:ay}{x:PS}{yU:aA}(G:Gt w B p q t k cb xb pb n h L v wr)(hx:h.ps[n]? =ae x)(en:yL wr w1 B xb n h L ⟨1,n,0,x.e+1⟩ h')(hW:Fr aS w1 W)(hg:W.grownBy w3 v.ev.ownBlock)(jf:bD w3 B 3 1 yU (n+1) (gm (List.replicate n 1)++[ag ah 1]))(fC:∀k,bY yU=ae k->v.ev.ownBlock=ae k\/w1.heap.size<=k):
 Gt w B p q t k cb xb pb (n+1) h' (L++[⟨1,n,0,x.e+1⟩]) {v with ev:=yU} (aX w3 ⟨pb,5,af⟩ yU):=by
 have pa1:iE w1 B pb xb h' (pR n q) v:=(G.pa.stay en.mv.fr fun k e hk=>G.ha.off G.pa e hk).kQ en.cf;obtain⟨p2,h2,f2⟩:=pa1.aya en.mv.at_ hW hg (by simpa[pR]using jf) fC;have dX:Fr (fun k=>B<=k) wr (aX w3 ⟨pb,5,af⟩ yU):=(en.mv.fr.z fun k e=>.inl (G.ha.uz e).2).t f2 fun k e=>.inl<|e.e (fun e=>e▸pa1.hb) fun e=>(pa1.ep.lt k e).1;refine⟨(dX.block cb (bn G.Qv) (by have:=G.lt;omega)).t G.Qv,G.lt,h2.z<|by omega,by rw[en.pl];exact G.ax,G.xN.step hx en,⟨en.cf.1.t G.cf.1,en.cf.2.1.t G.cf.2.1,en.cf.2.2.1.t G.cf.2.2.1,en.cf.2.2.2.t G.cf.2.2.2⟩,?_,G.fr.t dX fun _=>.inl⟩;have e:pR (n+1) q={pR n q with ep:=(pR n q).ep++[1]}:=by simp[pR,List.replicate_succ']
 rw[e];exact p2
def Gt.pl(G:Gt w B p q t k cb xb pb p h L v w')(h6:p<=6):bJ w' B pb xb 6 ⟨h,L,pR p q,v⟩:=
 bJ.z (N:=p) ⟨G.ha,G.ax,G.pa,G.xN.pg G.cf.1 (by have:=G.ha.hQ.1;have:=G.cf.2.1;omega),kH _,kH _⟩ h6
def Gu:ByteArray:=⟨#[102,105,114,115,116]⟩
structure zD(s:dm)(m:Nat):Prop where
 up:s.h.up=true
 ins:∀(q:Nat) (p:PL),s.h.pl[q]? =ae p->p.out=false
 wr:∃t,s.g.wr=[⟨0,0,t,Gu⟩]/\fD s.L 0 t true
 lv:∀(i:Nat) (x:PS),(i:Int)<s.h.P->s.h.ps[i]? =ae x->Lv s.h.T s.h.fl i x m
def ayb{x:PS}{p2:PL}(h1:x.s=1)(h2:x.bG.getD 0 0≠0)(h3:p2.s=rV.opened 0 x.t)(h4:p2.out=false):Ar x p2 0 0 Gu:=by
 have e:(rV.opened 0 x.t).nw 0=ae (x.t,true):=by simp[aJ.opened,aJ.wZ,rV,aJ.set]
 refine⟨h1,h2,by rw[h3];exact e,h4,?_⟩;rw[h3];have:(rV.opened 0 x.t).isOpen ((0:Nat):Int) x.t=true:=RS.2 e;unfold aJ.nK;rw[this,if_neg<|by simp,if_neg<|by decide,if_neg<|by simp[aJ.opened,aJ.wZ,rV,aJ.set]]
def ayc{s0 s1 s2 s3:dm}{x1 x2:PS}(mk:Mk n s0.h s0.L)(hw:s0.g.wr=[])(c1:pO 0 s0.h s1.h)(w1:s1.g.wr=s0.g.wr)(f2:Ns s1 0 0 x1 Gu s2)(f3:Gl s2 0 x2 true s3)(ht:x2.t=x1.t):zD s3 2:=by
 have c:=(c1.t f2.qE).t f3.qE;refine⟨c.up.t mk.up,fun q p hp=>?_,⟨x1.t,?_,ht▸f3.dec⟩,fun i x _ hx=>?_⟩
 ·obtain⟨p0,xU,e⟩:=c.out q p hp;rw[e];exact(mk.dZ p0<|gZ xU).2
 ·rw[f3.wr,f2.wr,w1,hw];rfl
 ·by_cases e:i=0
  ·subst e;obtain⟨x',vV,k1,k2⟩:=f3.me;rw[hx]at vV;cases vV;exact .due (.inl k1) (by rw[k2];decide)
  ·rw[c.ot i e]at hx;exact .idle<|mk.idle i x hx
structure ND(xb pb:Nat)(a:Array aA):Prop where
 sz:a.size=101
 a3:a.getD 3 ai=az (ae ⟨xb,0,af⟩)
 a5:a.getD 5 ai=az (ae ⟨pb,0,af⟩)
 a9:a.getD 9 ai=aF true
 QC:a.getD 10 ai=aF true
 ER:a.getD 11 ai=aF true
def ayd{a:Array aA}(G:Gt w B p q t k cb xb pb 0 h [] v w)(hg:Good p q t k)(T:T47 cb xb pb a):
 (au.lW EJ EK).wp prog (fun e x w'=>e=.ret/\ND xb pb x.tmps/\∃s,bJ w' B pb xb 18 s/\zD s 2/\Fr (fun k=>B<=k) w w') ⟨a,[]⟩ w:=by
 have HG:aj (Gt w B p q t k cb xb pb 0 h [] v w):=G;have HGD:aj (Good p q t k):=hg;have hp6:p<=6:=by have:=hg.1.2;omega
 obtain⟨i0,ed,iI,ig,jg⟩:=aFq RV;obtain⟨sz,a1,a3,a5⟩:=T;rw[zC a,sz,ak6];simp only[rQ,tC,a1,a3,a5];simp only[D7];clear G hg sz a1 a3 a5;refine wK fun Q0 lh=>?_;simp only[EJ,EK,au.fH,d47,Tryz.f47,ik,au.lW,au.BL,if_true];go_wp2_with fail
 go_loopw [6] (fun iv w'=>∃(n:Nat) (h:HS) (L:List Rc) (v:PV),n<=p/\iv=ag ah n/\Gt w B p q t k cb xb pb n h L v w') (fun iv _=>p-(eU iv).toNat)
 case atStart=>exact⟨0,_,_,_,kH _,rfl,HG.o⟩
 case round=>
  obtain⟨n,h1,L1,v1,hn,rfl,G1⟩:=hrel
  have GR:aj (Gt w B p q t k cb xb pb n h1 L1 v1 wr):=G1
  have cp:aB wr ⟨cb,0,af⟩=ae (ag ah p):=aQ G1.Qv 0
  have QR:=bn G1.Qv
  clear G1
  by_cases aK:n<p
  ·have hli:(n:Int)<(p:Int):=by omega
   obtain⟨x,hx⟩:∃x,h1.ps[n]? =ae x:=⟨_,eY (by rw[GR.o.xN.sn.h6];omega)⟩
   have HX:aj (h1.ps[n]? =ae x):=hx
   have x0:x.e=0:=by rw[((GR.o.xN.sn.up GR.o.xN.up n x hx).k).e,GR.o.xN.zero n<|dI _]
   have HC:aj (aW prog 74 #[az<|ae ⟨xb,0,af⟩,ag ah n] wr fun e w'=>e=aV (dU #[ag ah 1,ag ah 0])/\∃h',yL wr w' B xb n h1 L1 ⟨1,n,0,x.e+1⟩ h'):=by
    have:=aky GR.o.ha GR.o.xN.sn (by omega) (by rw[GR.o.cf.1];exact hli) GR.o.xN.up hx<|GR.o.xN.idle n x hx;refine this.z fun e w' hq=>⟨?_,hq.2⟩;rw[hq.1,x0];rfl
   clear hx x0
   go_wp2_with fail
   refine HC.o.z ?_
   rintro e w1 ⟨rfl,h2,en⟩
   have EN:aj (yL wr w1 B xb n h1 L1 ⟨1,n,0,x.e+1⟩ h2):=en
   have NF:aj (iE w1 B pb xb h2 (pR n q) v1):=(GR.o.pa.stay en.mv.fr fun k e hk=>GR.o.ha.off GR.o.pa e hk).kQ en.cf
   have fP:wr.heap.size<=w1.heap.size:=en.mv.fr.size
   clear en
   have dG:bD w1 B 3 1 v1.ev n (gm<|List.replicate n 1):=by have:=NF.o.ep;simpa[pR]using this
   obtain⟨ea,ec,eX⟩:∃ea ec,v1.ev=.slice ea n ec:=by
    obtain⟨ea,ec,e,_⟩:=lI (l:=List.replicate n 1) (by simpa using dG);exact⟨ea,ec,by simpa using e⟩
   have lD:aj (v1.ev=.slice ea n ec):=eX
   rw[eX]at dG
   have ROW:aj (bD w1 B 3 1 (.slice ea n ec) n<|gm<|List.replicate n 1):=dG
   have c5:aB w1 ⟨pb,5,af⟩=ae (.slice ea n ec):=(aQ NF.o.blk 5).t<|gy ae eX
   have cf:w1.frozen? ⟨pb,5,af⟩=false:=kK NF.o.blk 5
   have hx:=bn NF.o.blk
   have KO:Value.ownBlock (.slice ea n ec)≠ae pb:=by rw[<-eX];exact Hy NF.o.ep NF.o.blk<|by decide
   have hB:B<=pb:=NF.o.hb
   clear dG eX
   go_wp2_with (at_builtin;refine aFE _ rfl _ _ 43 rfl B 3 i0 _ 1 8 underlying43 ed iI ig jg rfl (by decide) _ n (gm<|List.replicate n 1) rfl (by exact(bQ _).ownsRow ROW.o fun _ _=>id) ⟨w1.heap.size,0,af⟩ 1 1 [ag ah 1] rfl rfl (aFk (cs:=#[ag ah 1]) (t:=3) (fr:=(0,0))<|Bz _<|by simp) (by simp[Value.oneCell']) (by decide) (by simp only[eP];omega) (by omega) (by simp<;>omega) (w1.heap.size+1) (by simp) ?_;intro gg FC w3 o8 lX tH uQ;have r5:=(lX.cell_far ⟨pb,5,af⟩ (by simp<;>omega)<|Ne.s KO);have rf:=(lX.frozen_far ⟨pb,5,af⟩ (by simp<;>omega)<|Ne.s KO);rw[(bQ _).cell (p:=⟨pb,5,af⟩) hx id,c5]at r5;rw[LI hx,cf]at rf)
   go_roundw
   case rel=>
    refine⟨n+1,h2,_,_,by omega,by go_num,GR.o.step HX.o EN.o (bQ _) (by rw[lD.o];exact lX) o8 fun k hk=>?_⟩
    simp only[Value.ownBlock,gU]at hk
    subst hk
    rw[lD.o]
    rcases tH with e|e
    ·exact .inl e
    ·exact .inr<|by omega
   case measure=>simp[eU]<;>omega
  ·obtain rfl:n=p:=by omega
   have Y9:aj (bJ wr B pb xb 6 ⟨h1,L1,pR n q,v1⟩):=GR.o.pl hp6
   have P1:aj ((0:Int)<h1.P/\(0:Int)<h1.Q):=by
    have h1:=HGD.o.1.1;have h2:=HGD.o.2.1.1;have h3:=GR.o.cf;exact⟨by rw[h3.1];omega,by rw[h3.2.1];omega⟩
   obtain⟨x0,o9⟩:=Y9.o.ps (i:=0) P1.o.1
   obtain⟨p0,xU⟩:=Y9.o.q (q:=0) P1.o.2
   have Wy:aj (h1.ps[0]? =ae x0/\h1.pl[0]? =ae p0):=⟨o9,xU⟩
   have HPA:aj (aW prog 25 #[az<|ae ⟨pb,0,af⟩,ag ah 0,ag ah 0] wr fun e w'=>e=aV (aF true)/\∃s',cO wr w' B pb xb ⟨h1,L1,pR n q,v1⟩ 10 s'/\s'.h.up=true/\Qu ⟨h1,L1,pR n q,v1⟩ 0 0 s'):=adL (i:=0) (q:=0) Y9.o (by omega) P1.o.1 P1.o.2 GR.o.xN.up
   clear o9 xU
   go_wp2_with fail
   refine HPA.o.z ?_
   rintro e w1 ⟨rfl,s1,t1,u1,f1⟩
   obtain⟨x1,p1,iJ,k1,k2,uT,k3,k4,_⟩:=f1.ok x0 p0 Wy.o.1 (.inl<|GR.o.xN.idle 0 x0 Wy.o.1) Wy.o.2 (GR.o.xN.dZ p0<|gZ Wy.o.2).2
   have TO1:aj (cO wr w1 B pb xb ⟨h1,L1,pR n q,v1⟩ 10 s1):=t1
   have FF1:aj (Qu ⟨h1,L1,pR n q,v1⟩ 0 0 s1):=f1
   have Yv:aj (aW prog 61 #[az<|ae ⟨pb,0,af⟩,ag ah 0,ag ah 0,dK Gu] w1<|yK w1 B pb xb s1 14 fun s'=>(Ar x1 p1 0 0 Gu->Ns s1 0 0 x1 Gu s')/\Nu s1 0 0 x1 p1 Gu s'):=adP (i:=0) (q:=0) t1.at_ (by omega) (by rw[t1.cf.1];exact P1.o.1) u1 iJ uT<|by decide
   have PFX:aj (Ar x1 p1 0 0 Gu):=(ayb k1 k2 (k3.t (by rw[(GR.o.xN.dZ p0<|gZ Wy.o.2).1];rfl)) k4)
   unfold Gu at Yv
   clear t1 u1 f1 iJ uT k1 k2 k3 k4
   go_wp2_with fail
   refine Yv.o.z ?_
   rintro e w2 ⟨rfl,s2,t2,f20⟩
   have f2:=f20.1 PFX.o
   clear f20
   obtain⟨x2,mW,k1,k2⟩:=f2.me
   have TO2:aj (cO w1 w2 B pb xb s1 14 s2):=t2
   have FF2:aj (Ns s1 0 0 x1 Gu s2):=f2
   have Kt:aj (s2.h.ps[0]? =ae x2/\x2.t=x1.t/\x2.s=1):=⟨mW,k2,k1⟩
   have HPC:aj (aW prog 62 #[az<|ae ⟨pb,0,af⟩,ag ah 0,aF true] w2 (yK w2 B pb xb s2 18 fun s'=>∀x,s2.h.ps[0]? =ae x->x.s=1->Gl s2 0 x true s')):=adO (i:=0) t2.at_ (by omega) (by rw[t2.cf.1,TO1.o.cf.1];exact P1.o.1) (by rw[f2.qE.up,FF1.o.qE.up];exact GR.o.xN.up) true fun y hy=>by rw[mW]at hy;cases hy;exact .inr<|.inl k1
   clear t2 f2 mW k1 k2
   go_wp2_with fail
   refine HPC.o.z ?_
   rintro e w3 ⟨rfl,s3,t3,f3⟩
   have kF:aj (bJ w3 B pb xb 18 s3/\zD s3 2/\Fr (fun k=>B<=k) w w3):=⟨t3.at_,ayc (n:=n) (s0:=⟨h1,L1,pR n q,v1⟩) GR.o.xN rfl FF1.o.qE FF1.o.wr FF2.o (f3 x2 Kt.o.1 Kt.o.2.2) Kt.o.2.1,GR.o.fr.t (((TO1.o.dX Y9.o).t (TO2.o.dX TO1.o.at_) fun _=>.inl).t (t3.dX TO2.o.at_) fun _=>.inl) fun _=>.inl⟩
   clear t3 f3
   go_wp2_with fail
   rw[<-lh.o]
   exact⟨rfl,⟨rfl,rfl,rfl,rfl,rfl,rfl⟩,s3,kF.o⟩
end
section
variable{w w1 w':ay}{B pb xb N M:Nat}{s:dm}{fo s0:Nat->Prop}{B':au.dE}
def bJ.base(a:bJ w B pb xb N s):B<=w.heap.size:=aaN<|aaE a.pa.hb<|bn a.pa.blk
def uM.z(p:uM fo s0 w w' B pb xb s N B')(h:N<=M):uM fo s0 w w' B pb xb s M B':=by
 obtain⟨s1,s',e,g,f⟩:=p.ex;exact⟨s1,s',e,g,f.z h⟩
def uM.go(p:uM fo s0 w w' B pb xb s N B')(a:bJ w B pb xb M s)(hp:¬(s0 pb\/fo pb))(hB:∀k,s0 k->B<=k):
 ∃s1 s',B'=au.bP fo s1/\(∀k,s1 k->s0 k\/w.heap.size<=k)/\¬(s1 pb\/fo pb)/\(∀k,s1 k->B<=k)/\wO w w' B pb xb s N s':=by
 obtain⟨s1,s',e,g,f⟩:=p.ex;refine⟨s1,s',e,g,fun z=>z.e (fun z=>(g pb z).e (fun y=>hp<|.inl y) fun y=>?_) fun y=>hp<|.inr y,fun k hk=>(g k hk).e (hB k) fun y=>fG a.base y,f⟩;have:=bn a.pa.blk;omega
def uM.t{fo s1:Nat->Prop}{s2:dm}(f:wO w w1 B pb xb s N s2)(g:∀k,s1 k->s0 k\/w.heap.size<=k)(q:uM fo s1 w1 w' B pb xb s2 M B'):uM fo s0 w w' B pb xb s M B':=by
 obtain⟨s3,s',e,g2,f2⟩:=q.ex;exact⟨s3,s',e,fun k hk=>(g2 k hk).e (g k) fun y=>.inr<|fG f.dX.size y,f.t f2⟩
end
section
open Go Go.Conc
open _root_.Go.Proofs.YtkelpcjiediamaaGreat.Twin _root_.Go.Proofs.YtkelpcjiediamaaGreat.fU
def ayk{a:Act}{i j:Nat}{v:aA}(h:i≠j):(a.put (ae i) v).tmps.getD j ai=a.tmps.getD j undef:=by
 simp[Act.put,D7,iK h]
def put_eq{a:Act}{i:Nat}{v:aA}(h:i<a.tmps.size):(a.put (ae i) v).tmps.getD i ai=v:=by
 simp[Act.put,D7,h]
def ayl{a:Act}{i:Nat}{v:aA}:(a.put (ae i) v).tmps.size=a.tmps.size:=by simp[Act.put]
structure Gv(a:Act)(i:Nat)(v:aA)(a':Act):Prop where
 sz:a'.tmps.size=a.tmps.size
 at_:i<a.tmps.size->a'.tmps.getD i ai=v
 ne:∀j,i≠j->a'.tmps.getD j ai=a.tmps.getD j ai
 df:a'.defers=a.defers
 ok:∀B:au.dE,au.cZ B a.tmps->au.aI B v->au.cZ B a'.tmps
def Gv.of(a:Act)(i:Nat)(v:aA):Gv a i v (a.put (ae i) v):=⟨ayl,put_eq,fun _ h=>ayk h,rfl,fun _ h hv=>h.set hv i⟩
variable{fo s:Nat->Prop}{b:bH}{a:Act}{ops:Array Oper}{i:Nat}{rest:List Nat}{k:List Item}{cs cs2:List bH}{w:ay}{Q:au.dE->bH->ay->Prop}{o:Oper}{v:aA}{d:Nat}
def BM(ho:ops[i]? =ae o)(hg:o.guard=af)(hd:o.dst=ae d)(hk:b.kind≠.early)(aP:au.tN prog (au.bP fo s).let_ o.op=true)(hf:∃fn,prog.funcs[b.fn]? =ae fn)(KY:au.cZ (au.bP fo s) a.tmps)
 (hr:∀d,(dY a.eval o).run prog (w.at d)=.ok (.value v) (w.at d))
 (hn:∀a' dd,Gv a d v a'->au.Reach (au.bP fo s) prog (b.at a'<|bW ops rest::k) cs (w.at dd) Q cs2):au.Reach (au.bP fo s) prog (b.at a<|bW ops (i::rest)::k) cs w Q cs2:=
 akY ho (by simp[Region.wanted,hg]) hk aP hf KY hr fun dd=>by rw[hd];exact hn _ dd<|.of a d v
variable{f:ji}{n:Nat}{s0 s1:Nat->Prop}
def I4{fn:Func}{c:Code}{args:Array Operand}{l7:Array dJ}{vs:Array aA}{post:au.dE->aA->ay->Prop}(ho:ops[i]? =ae o)(hg:o.guard=af)(hd:o.dst=ae d)(hk:b.kind≠.early)(aP:o.op=.call {callee:=.value<|.func f,args,argTypes:=l7})(hf:prog.funcs[f]? =ae fn)(Jl:(fn.name== "runtime.NumGoroutine")=false)(hb:fn.body=ae c)(hv:args.map a.eval=vs)
 (Rf:∀d,au.sG (au.bP fo s) prog f vs (w.at d) post)(hn:∀B' v w' a',Gv a d v a'->post B' v w'->au.Reach B' prog (b.at a'<|bW ops rest::k) cs w' Q cs2):au.Reach (au.bP fo s) prog (b.at a<|bW ops (i::rest)::k) cs w Q cs2:=
 Yw ho (by simp[Region.wanted,hg]) hk aP hf Jl hb hv Rf fun B' v w' hp=>by rw[hd];exact hn B' v w' _ (.of a d v) hp
def KD{W:ay}(h:a.tmps.getD n ai=v)(aP:o.op=.move (.tmp n)\/o.op=.assign (.tmp n)):(dY a.eval o).run prog W=.ok (.value v) W:=by
 subst h;rcases aP with aP|aP<;>(unfold dY;rw[aP];rfl)
def step_ret{l:List Item}{w1:ay}:bK prog true (G ((base f).at a<|.code .ret::l) cs) w1=.go (G {(base f).at a (.code .ret::l)with mode:=.returning} cs) w1 #[]:=by
 simp[bK,stepG.exec,Frame.at,G,base]
def KE{fo:Nat->Prop}{m:Nat}(g:∀k,s1 k->s0 k\/n<=k)(hm:n<=m)(hv:au.aI ((au.bP fo s0).cut n) v):au.aI ((au.bP fo s1).cut m) v:=
 au.aI.z (B:=(au.bP fo s1).cut m) (B':=(au.bP fo s0).cut n) (fun b (z:(s1 b\/fo b)\/m<=b)=>show(s0 b\/fo b)\/n<=b from z.e (fun z=>z.e (fun z=>(g b z).imp .inl id) fun z=>.inl<|.inr z) fun z=>.inr<|fG hm z) rfl hv
def BN{fo:Nat->Prop}(g:∀k,s1 k->s0 k\/n<=k)(hv:au.aI ((au.bP fo s0).cut n) v):au.aI (au.bP fo s1) v:=
 au.aI.z (B:=au.bP fo s1) (B':=(au.bP fo s0).cut n) (fun b (z:s1 b\/fo b)=>show(s0 b\/fo b)\/n<=b from z.e (fun z=>(g b z).imp .inl id) fun z=>.inl<|.inr z) rfl hv
end
section
def QD:Code:=au.fH [true] IZ
def aym:au.codeOk prog au.kN QD=true:=by kernel_rfl
variable{w w':ay}{B xb pb N:Nat}{s s':dm}
def zD.one(F:zD s 0)(a:bJ w B pb xb N s){p:PL}(hp:s.h.pl[0]? =ae p):(p.s.bF 0 p.s.dC).length=1:=by
 have hz:∀(i:Nat) (x:PS),(i:Int)<s.h.P->s.h.ps[i]? =ae x->x.s=0:=fun i x hi hx=>(F.lv i x hi hx).over<|a.pg.sn.up F.up i x hx;have oL:=a.pg.sn.UB F.up hz hp;obtain⟨t,hw,hd⟩:=F.wr;rw[a.pg.count hp<|UC oL,hw];have:iR s.g.fa 0 t=1:=(Np a.pg).2 hd;simp[this]
def ayn{a:Array aA}(U:ND xb pb a)(A:bJ w B pb xb N s)(hN:N<=80000000)(F:zD s 0):
 QD.wp prog (fun e x w'=>e=.ret/\x.tmps.getD 2 ai=az (ae ⟨pb,0,af⟩)/\∃s',cO w w' B pb xb s (N+6) s') ⟨a,[]⟩ w:=by
 obtain⟨p0,xU⟩:=A.q (q:=0) (by have:=A.pg.sn.Q1.1;omega);have HL:aj (aW prog 21 #[az<|ae ⟨pb,0,af⟩] w<|yK w B pb xb s (N+6)<|YW s):=YX A hN;have H1:aj ((p0.s.bF 0 p0.s.dC).length=1/\s.h.pl[0]? =ae p0/\1<=s.h.Q):=⟨F.one A xU,xU,A.pg.sn.Q1.1⟩;obtain⟨sz,a3,a5,a9,QC,ER⟩:=U;rw[zC a,sz,ak6];simp only[rQ,tC,a3,a5,a9,QC,ER];simp only[D7];clear sz a3 a5 a9 QC ER A hN F xU;refine wK fun Q0 lh=>?_;simp only[QD,IZ,EJ,EK,au.fH,d47,Tryz.f47,ik,if_true];go_wp2_with fail
 refine HL.o.z ?_;rintro e w1 ⟨rfl,s1,t1,Q,hQ,lk⟩;have T1:aj (cO w w1 B pb xb s (N+6) s1):=t1;have BV:=lk.gt 0 p0 (by have:=H1.o.2.2;omega) H1.o.2.1;have CB:0<s1.v.gs.length:=by rw[t1.at_.pa.gl];exact(dS.1 BV).1
 obtain⟨gg,gc,oG,Qw,_⟩:=rF t1.at_.pa.gt CB;obtain⟨u0,yT⟩:∃u,s1.v.gs[0]? =ae u:=⟨_,eY CB⟩;have hr:=t1.at_.pa.rc 0 u0 _ yT BV;obtain⟨ua,uc,rfl⟩:=OY hr;rw[H1.o.1]at yT;have e9:aB w1 ⟨pb,9,af⟩=ae (aN (ae ⟨gg,0,af⟩) s1.v.gs.length gc):=by rw[<-oG];exact t1.at_.cells.2.2.2.2.2.2.2.1
 have eg:aB w1 ⟨gg,0,af⟩=ae (.slice ua 1 uc):=by
  have hr:=t1.at_.pa.gt;rw[oG]at hr;rw[hr.cellAt 0<|by omega];exact yT
 have aK:=bn t1.at_.pa.blk;have DX:(0:Int)<(s1.v.gs.length:Int):=by omega
 clear t1 lk BV hr yT oG hQ;go_wp2_with fail
 rw[<-lh.o];exact⟨rfl,rfl,s1,T1.o⟩
end
section
open Go.RowKit Go.Maps Go.Conc Go.Proofs.YtkelpcjiediamaaGreat.Twin fU
def d48:Code:=Tryz.f48.body.getD .skip
def UK:List Bool:=[true,true,true,false,true,true,true,true,true,true,true,true,true,true,false]
def s48:Code:=au.fH UK d48
def KF:Array Oper:=match jo s48 with| .region _ o _=>o|_=>#[]
def ak9:s48=.seq (.region 17 KF false) .ret:=by kernel_rfl
def ayo:au.codeOk prog au.kN (au.lW UK d48)=true:=by kernel_rfl
def uN(i:Nat):Oper:=KF.getD i default
def UL:KF[0]? =ae (uN 0)/\KF[1]? =ae (uN 1)/\KF[2]? =ae (uN 2)/\KF[3]? =ae (uN 3)/\KF[4]? =ae (uN 4):=by and_intros<;>kernel_rfl
def UM:(uN 0).guard=af/\(uN 1).guard=af/\(uN 2).guard=af/\(uN 3).guard=af/\(uN 4).guard=none:=by and_intros<;>kernel_rfl
def UO:(uN 0).dst=ae 66/\(uN 1).dst=ae 67/\(uN 2).dst=ae 68/\(uN 3).dst=ae 69/\(uN 4).dst=ae 4:=by and_intros<;>kernel_rfl
def I5:(uN 0).op=.move (.tmp 0)/\(uN 1).op=.fieldAddr 28 (.tmp 3) 0/\(uN 2).op=.load 3 (.tmp 67)/\(uN 3).op=.call {callee:=.value<|.func 108,args:=#[.tmp 66,.tmp 68],argTypes:=#[40,3]}/\(uN 4).op=.assign (.tmp 69):=by and_intros<;>kernel_rfl
def ayp:List.range KF.size=[0,1,2,3,4]:=by kernel_rfl
structure T48(pb b:Nat)(k p q m:Int)(ts:ByteArray)(fl:Bool)(a:Array aA)(w':ay):Prop where
 sz:a.size=150
 a0:a.getD 0 ai=az (ae ⟨pb,0,af⟩)
 a3:a.getD 3 ai=az (ae ⟨b,0,af⟩)
 bx:w'.heap[b]? =ae (aG #[ag ah k,ag ah p,ag ah q,ag ah m,dK ts,aF fl] 28 (0,0))
variable{w w':ay}{B pb xb N:Nat}{s s':dm}{fo s0:Nat->Prop}
variable{ts:ByteArray}{W:ay}{a:Act}{b:Nat}{o:Oper}{k:Int}
def ayq(a:bJ w B pb xb N s)(k p q m:Int)(hk:k=5\/k=11)(hp:fO p)(hq:fO q)(fl:Bool):
 (au.lW UK d48).wp prog (fun e x w'=>e=.ret/\T48 pb w.heap.size k p q m ts fl x.tmps w'/\Fr aS w w') {tmps:=#[az<|ae ⟨pb,0,af⟩,wM k p q m ts fl]++gz (Tryz.f48.ntmps- #[Value.pointer<|ae ⟨pb,0,af⟩,wM k p q m ts fl].size) ai,defers:=[]} w:=by
 obtain⟨P,hP⟩:=qY (show 0<=s.h.P by have:=a.pg.sn.P1;omega);obtain⟨Q,hQ⟩:=qY (show 0<=s.h.Q by have:=a.pg.sn.Q1;omega);have Z4:1<=P/\P<=6:=by have:=a.pg.sn.P1;omega
 have UA:1<=Q/\Q<=4:=by have:=a.pg.sn.Q1;omega
 have A:aj (bJ w B pb xb N s):=a;have zy:aj (fO p/\fO q/\s.h.P=(P:Int)/\s.h.Q=(Q:Int)):=⟨hp,hq,hP,hQ⟩;obtain⟨c0,c1,c2,_⟩:=a.cells;rw[hP]at c1;rw[hQ]at c2;have aK:=bn a.pa.blk;unfold wM;have HK:aj (k=5\/k=11):=hk;clear a hp hq hP hQ hk;simp only[ntmps48,Fv,oH,wu,Nat.reduceAdd,Nat.reduceSub,RD,Rz,RH,RF,wY,nY];refine wK fun Q0 lh=>?_;simp only[UK,d48,Tryz.f48,ik,au.lW,au.BL,if_true,kJ,kG];rw[<-lh.o];go_wp2_with fail
 have ZW:aj (∃W:ay,W=bz w (aG #[ag ah k,ag ah p,ag ah q,ag ah m,dK ts,aF fl] 28 (0,0))):=⟨_,rfl⟩;obtain⟨W1,eW⟩:=ZW.o;rw[<-eW];have iU:aj (Fr aS w W1):=by subst eW;exact bQ _
 have BX:aj (W1.heap[w.heap.size]? =ae (aG #[ag ah k,ag ah p,ag ah q,ag ah m,dK ts,aF fl] 28 (0,0))):=by subst eW;exact aFb _ _
 clear ZW eW;have b0:aB W1 ⟨w.heap.size,0,af⟩=ae (ag ah k):=aQ BX.o 0;have b1:aB W1 ⟨w.heap.size,1,af⟩=ae (ag ah p):=aQ BX.o 1;have b2:aB W1 ⟨w.heap.size,2,af⟩=ae (ag ah q):=aQ BX.o 2;have d1:=(iU.o.cell (p:=⟨pb,1,af⟩) aK id).t c1;have d2:=(iU.o.cell (p:=⟨pb,2,af⟩) aK id).t c2;have uy:aj (∀V,aW prog 49 #[ag ah p,ag ah P] V fun e w'=>∃k:Nat,k<P/\e=aV (ag ah k)/\V=w'):=fun V=>wL p zy.o.1 Z4.1 (by omega) V;have ui:aj (∀V,aW prog 49 #[ag ah q,ag ah Q] V fun e w'=>∃k:Nat,k<Q/\e=aV (ag ah k)/\V=w'):=fun V=>wL q zy.o.2.1 UA.1 (by omega) V;go_region_held3 (fun w'=>aB w' ⟨w.heap.size,1,af⟩=ae (ag ah p)/\aB w' ⟨pb,1,af⟩=ae (ag ah P))
  (first|exact⟨b1,d1⟩|go_keep)
  ((go_at_call 49;with_reducible refine(uy.o _).z ?_;rintro e w2 ⟨i,hi,rfl,rfl⟩))
 go_wp2_with fail
 go_region_held3 (fun w'=>aB w' ⟨w.heap.size,2,af⟩=ae (ag ah q)/\aB w' ⟨pb,2,af⟩=ae (ag ah Q))
  (first|exact⟨b2,d2⟩|go_keep)
  ((go_at_call 49;with_reducible refine(ui.o _).z ?_;rintro e w3 ⟨j,hj,rfl,rfl⟩))
 have F2:aj (Fr aS w W1.drew.drew):=(iU.o.drew).drew;have X2:aj (W1.drew.drew.heap[w.heap.size]? =ae (aG #[ag ah k,ag ah p,ag ah q,ag ah m,dK ts,aF fl] 28 (0,0))):=BX.o;rcases HK.o with rfl|rfl;all_goals
  go_wp2_with fail
  exact⟨⟨rfl,rfl,rfl,X2.o⟩,F2.o⟩
def ayr(h:a.eval (.tmp 3)=az (ae ⟨b,0,af⟩))(aP:o.op=.fieldAddr 28 (.tmp 3) 0):(dY a.eval o).run prog W=.ok (.value<|az<|ae ⟨b,0,af⟩) W:=by
 unfold dY;rw[aP];simp only[h];go_simp
def ays(h:a.eval (.tmp 67)=az (ae ⟨b,0,af⟩))(hc:aB W ⟨b,0,af⟩=ae (ag ah k))(aP:o.op=.load 3 (.tmp 67)):(dY a.eval o).run prog W=.ok (.value<|ag ah k) W:=by
 unfold dY;rw[aP];simp only[h];go_simp
def uM.at{d N:Nat}{B':au.dE}(h:uM fo s0 (w.at d) w' B pb xb s N B'):uM fo s0 w w' B pb xb s N B':=by
 obtain⟨s1,s2,e,g,f⟩:=h.ex;exact⟨s1,s2,e,g,f.at_,⟨f.dX.os,f.dX.tape,f.dX.output,f.dX.size,f.dX.block⟩,f.cf⟩
def ayt(a:bJ w B pb xb N s)(hN:N<=70000000)(hp:¬(s0 pb\/fo pb))(hB:∀k,s0 k->B<=k)(hk:k=5\/k=11):
 au.sG (au.bP fo s0) prog 108 #[az<|ae ⟨pb,0,af⟩,ag ah k] w (fun B' v w'=>v=aF true/\uM fo s0 w w' B pb xb s (N+306) B'):=by
 rcases hk with rfl|rfl
 ·exact(axA a (by omega) hp).z fun B' v w' h=>⟨h.1,h.2.z<|by omega⟩
 ·exact axR a hN hp hB
def alb(a:bJ w B pb xb N s)(hN:N<=70000000)(hp:¬(s0 pb\/fo pb))(hB:∀k,s0 k->B<=k)(k p q m:Int)(hk:k=5\/k=11)(ip:fO p)(iq:fO q)(fl:Bool):
 au.sG (au.bP fo s0) prog 48 #[az<|ae ⟨pb,0,af⟩,wM k p q m ts fl] w (fun B' v w'=>v=aF true/\uM fo s0 w w' B pb xb s (N+306) B'):=by
 intro c cs;refine au.Reach.ok fun bT=>?_;have h5:∀b,s0 b\/fo b->1<=b:=fun b hb=>(bT.low b hb).1;have hl:=bn a.pa.blk;rw[aF3 (c:=d48) _ func48 rfl];refine au.YU (p:=UK) (c:=d48) (S:=s48) (w:=w) (K:=fun t d x w'=>T48 pb w.heap.size k p q m ts fl x.tmps w'/\Fr aS (au.re w t d) w') (au.lets h5) (xO h5) rfl (by rw[ak9];intro e;cases e) ayo (au.cZ.append (au.cZ.two (zA hp hl)<|aed k p q m ts fl) fun v hv=>by
  obtain⟨_,rfl⟩:=Lu.1 hv;exact au.rZ) rfl ⟨_,func48⟩ rfl (fun t d=>ayq (a.re t d) k p q m hk ip iq fl) ?_
 rintro⟨a1,df⟩ w1 l lU IV hd ⟨t,d,t',j,T,hf⟩;obtain rfl:df=[]:=hd;have f1:Fr aS w w1:=⟨lU.os,lU.tape,lU.output,lU.size,fun b hb h=>hf.block b hb h⟩;have QE:=a.a f1;have AP:w1.heap[w.heap.size]? =ae (aG #[ag ah k,ag ah p,ag ah q,ag ah m,dK ts,aF fl] 28 (0,0)):=T.bx;have vp:au.aI ((au.bP fo s0).cut w1.heap.size) (az<|ae ⟨pb,0,af⟩):=zA hp<|gu hl f1.size;have vb:au.aI ((au.bP fo s0).cut w1.heap.size) (az<|ae ⟨w.heap.size,0,af⟩):=zA (fun z=>OQ _<|(bT.low _ z).2)<|bn AP;have BO:∀k,s0 k->s0 k\/w1.heap.size<=k:=fun _=>.inl;clear hf lU;rw[ak9];refine jM fun d1=>?_;refine uH fun d2=>?_;rw[ayp];refine BM (v:=az<|ae ⟨pb,0,af⟩) UL.1 UM.1 UO.1 (by decide) (by rw[I5.1];rfl) ⟨_,func48⟩ (fun v hv=>BN BO<|IV v hv) (fun d=>KD T.a0<|.inl I5.1) fun a2 d3 q2=>?_;have uZ:=q2.ok _ IV vp;refine BM (v:=az<|ae ⟨w.heap.size,0,af⟩) UL.2.1 UM.2.1 UO.2.1 (by decide) (by rw[I5.2.1];rfl) ⟨_,func48⟩ (fun v hv=>BN BO<|uZ v hv) (fun d=>ayr ((q2.ne 3<|by decide).t T.a3) I5.2.1) fun a3 d4 q3=>?_;have zF:=q3.ok _ uZ vb;have z2:a2.tmps.size=150:=q2.sz.t T.sz;have z3:a3.tmps.size=150:=q3.sz.t z2;refine BM (v:=ag ah k) UL.2.2.1 UM.2.2.1 UO.2.2.1 (by decide) (by rw[I5.2.2.1];rfl) ⟨_,func48⟩ (fun v hv=>BN BO<|zF v hv) (fun d=>ays (q3.at_ (by rw[z2];decide)) (by exact aQ AP 0) I5.2.2.1) fun a4 d5 q4=>?_;have ES:=q4.ok _ zF .int;have z4:a4.tmps.size=150:=q4.sz.t z3;refine I4 (f:=108) (post:=fun B' v w'=>v=aF true/\uM fo s0 w1 w' B pb xb s (N+306) B') UL.2.2.2.1 UM.2.2.2.1 UO.2.2.2.1 (by decide) I5.2.2.2.1 func108 rfl rfl (vs:=#[az<|ae ⟨pb,0,af⟩,ag ah k]) ?_ (fun d=>(ayt (w:=w1.at d) (QE.same rfl) hN hp hB hk).z fun B' v w' hg=>⟨hg.1,hg.2.at⟩) ?_
 ·have e1:a4.eval (.tmp 66)=az (ae ⟨pb,0,af⟩):=(q4.ne 66<|by decide).t ((q3.ne 66<|by decide).t<|q2.at_ (by rw[T.sz];decide));have e2:a4.eval (.tmp 68)=ag ah k:=q4.at_ (by rw[z3];decide);simp[e1,e2]
 rintro B' v w2 a5 q5 ⟨rfl,hw⟩;obtain⟨s1,s',rfl,g,dX⟩:=hw.ex;have BP:=q5.ok _ ES .bool;have z5:a5.tmps.size=150:=q5.sz.t z4;refine au.Reach.ok fun OG=>?_;have Gq:∀b,s1 b\/fo b->1<=b:=fun b hb=>(OG.low b hb).1;refine BM (v:=aF true) UL.2.2.2.2 UM.2.2.2.2 UO.2.2.2.2 (by decide) (by rw[I5.2.2.2.2];rfl) ⟨_,func48⟩ (fun v hv=>BN g<|BP v hv) (fun d=>KD (q5.at_ (by rw[z4];decide))<|.inr I5.2.2.2.2) fun a6 d6 q6=>?_;have BQ:=q6.ok _ BP .bool;have r6:a6.tmps.getD 4 ai=aF true:=q6.at_ (by rw[z5];decide);have df6:a6.defers=[]:=q6.df.t<|q5.df.t<|q4.df.t<|q3.df.t q2.df;refine uI fun d7=>?_;refine jr (fun _=>step_ret) fun d8=>?_;have Gx:w1.heap.size<=w2.heap.size:=dX.dX.size;refine au.UG (au.lets Gq) (xO Gq) (fn:=Tryz.f48) (v:=aF true) (t:=w2.tape) (k:=0) rfl df6 rfl func48 (fun v hv=>KE g Gx<|BQ v hv) ?_ fun d9 _=>⟨_,rfl,rfl,uM.t ((cO.still a f1).Au a) (fun _=>.inl) ⟨s1,s',rfl,g,dX.at_.same rfl,⟨dX.dX.os,dX.dX.tape,dX.dX.output,dX.dX.size,dX.dX.block⟩,dX.cf⟩⟩;rw[<-r6];exact aFY rfl _ _ _
def ayv(a:bJ w B pb xb N s)(hN:N<=70000000)(hp:¬(s0 pb\/fo pb))(hB:∀k,s0 k->B<=k)(k p q m:Int)(ip:fO p)(iq:fO q)(im:fO m)(fl:Bool):
 au.sG (au.bP fo s0) prog 48 #[az<|ae ⟨pb,0,af⟩,wM k p q m ts fl] w (fun B' v w'=>v=aF true/\uM fo s0 w w' B pb xb s (N+306) B'):=by
 by_cases h5:k=5
 ·exact alb a hN hp hB k p q m (.inl h5) ip iq fl
 by_cases Lj:k=11
 ·exact alb a hN hp hB k p q m (.inr Lj) ip iq fl
 exact(ax2 a hN hp k p q m ip iq im fl h5 Lj).z fun B' v w' h=>⟨h.1,h.2.z<|by omega⟩
end
section
open Go.RowKit Go.Maps Go.Conc
open _root_.Go.Proofs.YtkelpcjiediamaaGreat.Twin _root_.Go.Proofs.YtkelpcjiediamaaGreat.fU
def opsOf:Code->Array Oper
 | .region _ o _=>o
 | .block _ c=>opsOf c
 |_=>#[]
def NG:Array Oper:=opsOf<|au.fH [false,false] IZ
def Dz:Array Oper:=opsOf<|au.fH [false,true,false,false] IZ
def DC:Array Oper:=opsOf<|au.fH [false,true,true,false] IZ
def xP:Array Oper:=opsOf<|au.fH [false,true,true,true] IZ
def UR:Code:=.seq (.seq (.region 16 Dz false)<|.cond (.tmp 69) .skip<|.exit 2)<|.seq (.block 3<|.region 18 DC false)<|.region 17 xP false
def ayw:EK≠.ret:=by
 have:EK=.seq (au.fH [false] EK) (au.fH [true] EK):=by kernel_rfl
 rw[this];intro e;cases e
def alc:IZ=.seq (.seq (.region 15 NG false)<|.block 2<|.loop UR) QD:=by kernel_rfl
def ayx:IZ≠.ret:=by
 rw[alc];intro e;cases e
def opAt(q:Array Oper)(i:Nat):Oper:=q.getD i default
def QF:NG[0]? =ae (opAt NG 0)/\(opAt NG 0).guard=af/\(opAt NG 0).dst=ae 12/\(opAt NG 0).op=.assign (.const<|ag ah 0)/\List.range NG.size=[0]:=by and_intros<;>kernel_rfl
def DD:Dz[0]? =ae (opAt Dz 0)/\(opAt Dz 0).guard=af/\(opAt Dz 0).dst=ae 68/\(opAt Dz 0).op=.move (.tmp 12)/\List.range Dz.size=[0,1]:=by and_intros<;>kernel_rfl
def Gy:Dz[1]? =ae (opAt Dz 1)/\(opAt Dz 1).guard=af/\(opAt Dz 1).dst=ae 69/\(opAt Dz 1).op=.binOp .lss 3 (.tmp 68) (.const<|ag ah 3) 3:=by and_intros<;>kernel_rfl
def QG:DC[0]? =ae (opAt DC 0)/\(opAt DC 0).guard=af/\(opAt DC 0).dst=ae 72/\(opAt DC 0).op=.move (.tmp 3)/\List.range DC.size=[0,1]:=by and_intros<;>kernel_rfl
def Za:DC[1]? =ae (opAt DC 1)/\(opAt DC 1).guard=af/\(opAt DC 1).dst=ae 73/\(opAt DC 1).op=.call {callee:=.value<|.func 20,args:=#[.tmp 72],argTypes:=#[33]}:=by and_intros<;>kernel_rfl
def QH:xP[0]? =ae (opAt xP 0)/\(opAt xP 0).guard=af/\(opAt xP 0).dst=ae 70/\(opAt xP 0).op=.move (.tmp 12)/\List.range xP.size=[0,1,2]:=by and_intros<;>kernel_rfl
def UT:xP[1]? =ae (opAt xP 1)/\(opAt xP 1).guard=af/\(opAt xP 1).dst=ae 71/\(opAt xP 1).op=.binOp .add 3 (.tmp 70) (.const<|ag ah 1) 3:=by and_intros<;>kernel_rfl
def UU:xP[2]? =ae (opAt xP 2)/\(opAt xP 2).guard=af/\(opAt xP 2).dst=ae 12/\(opAt xP 2).op=.assign (.tmp 71):=by and_intros<;>kernel_rfl
section
variable{a a':Act}{o:Oper}{W:ay}
variable{v:aA}{x y:Operand}{i j:Int}
def Zb(aP:o.op=.assign (.const v)):(dY a.eval o).run prog W=.ok (.value v) W:=by
 unfold dY;rw[aP];rfl
def ald(h:a.eval x=ag ah i)(h2:a.eval y=ag ah j)(aP:o.op=.binOp .lss 3 x y 3):(dY a.eval o).run prog W=.ok (.value<|.bool<|decide<|i<j) W:=by
 unfold dY;rw[aP];simp only[h,h2];go_simp
def ayy(h:a.eval x=ag ah i)(h2:a.eval y=ag ah j)(aP:o.op=.binOp .add 3 x y 3):(dY a.eval o).run prog W=.ok (.value<|.int .i64<|IntKind.i64.wrap<|i+j) W:=by
 unfold dY;rw[aP];simp only[h,h2];go_simp
def ND.put{xb pb i:Nat}(U:ND xb pb a.tmps)(q:Gv a i v a')(h:i≠3/\i≠5/\i≠9/\i≠10/\i≠11):ND xb pb a'.tmps:=
 ⟨q.sz.t U.sz,(q.ne 3 h.1).t U.a3,(q.ne 5 h.2.1).t U.a5,(q.ne 9 h.2.2.1).t U.a9,(q.ne 10 h.2.2.2.1).t U.QC,(q.ne 11 h.2.2.2.2).t U.ER⟩
end
def fF{w:ay}{x y:Nat}:(w.at x).at y=w.at y:=rfl
structure Rd(fo s0:Nat->Prop)(B pb xb:Nat)(w0:ay)(i n:Nat)(a:Act)(w:ay)(s:dm):Prop where
 U:ND xb pb a.tmps
 a12:a.tmps.getD 12 ai=ag ah i
 df:a.defers=[]
 ok:au.cZ ((au.bP fo s0).cut w.heap.size) a.tmps
 at_:bJ w B pb xb n s
 fM:n<=18+306*i
 F:zD s (2-i)
 hp:¬(s0 pb\/fo pb)
 hB:∀k,s0 k->B<=k
 fr:Fr (fun k=>B<=k) w0 w
def zD.next{s s2:dm}{w:ay}{B pb xb N m:Nat}(F:zD s (m+1))(a:bJ w B pb xb N s)(hN:N<=90000000)(hg:s2.g=s.g)(hu:s2.h.up=s.h.up)(hP:s2.h.P=s.h.P)(r:Qp s.h s2.h)(hd:∀p t b,fD s.L p t b->fD s2.L p t b):zD s2 m:=by
 obtain⟨l1,l2⟩:=akh (m:=m) a.pg.sn hN F.up a.ha.hQ.1 F.ins r F.lv;obtain⟨t,h1,h2⟩:=F.wr;exact⟨hu.t F.up,l2,⟨t,by rw[hg];exact h1,hd _ _ _ h2⟩,fun i x hi hx=>l1 i x (by rw[<-hP];exact hi) hx⟩
def zD.z{s:dm}{m k:Nat}(F:zD s m)(h:m<=k):zD s k:=⟨F.up,F.ins,F.wr,fun i x hi hx=>(F.lv i x hi hx).z (fun _ z=>z) h⟩
section
variable{fo:Nat->Prop}{B pb xb:Nat}{w0:ay}{l:List Item}{cs cs2:List bH}{Q:au.dE->bH->ay->Prop}
def ayz(uj:∀s1 n a w s,Rd fo s1 B pb xb w0 3 n a w s->au.Reach (au.bP fo s1) prog ((base 47).at a<|.code QD::l) cs w Q cs2):
 ∀(m i n:Nat) (s0:Nat->Prop) (a:Act) (w:ay) (s:dm),i+m=3->Rd fo s0 B pb xb w0 i n a w s->au.Reach (au.bP fo s0) prog ((base 47).at a<|.code UR:: .inLoop UR:: .inBlock 2:: .code QD::l) cs w Q cs2:=by
 intro m;induction m with
 |zero=>
  intro i n s0 a w s hi R;obtain rfl:i=3:=by omega
  have BO:∀k,s0 k->s0 k\/w.heap.size<=k:=fun _=>.inl;unfold UR;refine jM fun d1=>?_;refine jM fun d2=>?_;refine uH fun d3=>?_;rw[DD.2.2.2.2];refine BM (v:=ag ah 3) DD.1 DD.2.1 DD.2.2.1 (by decide) (by rw[DD.2.2.2.1];rfl) ⟨_,func47⟩ (fun v hv=>BN BO<|R.ok v hv) (fun d=>KD R.a12<|.inl DD.2.2.2.1) fun a2 d4 p2=>?_;have uZ:=p2.ok _ R.ok .int;refine BM (v:=aF false) Gy.1 Gy.2.1 Gy.2.2.1 (by decide) (by rw[Gy.2.2.2];rfl) ⟨_,func47⟩ (fun v hv=>BN BO<|uZ v hv) (fun d=>ald (a:=a2) (x:=.tmp 68) (y:=.const<|ag ah 3) (i:=3) (j:=3) (p2.at_ (by rw[R.U.sz];decide)) rfl Gy.2.2.2) fun a3 d5 p3=>?_;have zF:=p3.ok _ uZ .bool;refine uI fun d6=>?_;refine jr (fun _=>aFp (t:=false)<|p3.at_ (by rw[p2.sz,R.U.sz];decide)) fun d7=>?_;rw[if_neg<|by decide];refine jr (fun _=>aGu rfl) fun d8=>?_;exact uj s0 n a3 _ s ⟨(R.U.put p2<|by decide).put p3<|by decide,(p3.ne 12<|by decide).t<|(p2.ne 12<|by decide).t R.a12,p3.df.t<|p2.df.t R.df,zF,R.at_.same rfl,R.fM,R.F,R.hp,R.hB,⟨R.fr.os,R.fr.tape,R.fr.output,R.fr.size,R.fr.block⟩⟩
 |succ m ih=>
  intro i n s0 a w s hi R;have BO:∀k,s0 k->s0 k\/w.heap.size<=k:=fun _=>.inl;have hd:decide ((i:Int)<3)=true:=jY (by omega);have hn:n<=70000000:=by have:=R.fM;omega
  have hw:eF ah ((i:Int)+1)=((i+1:Nat):Int):=by rw[wrap_i64 (by omega)<|by omega];rfl
  unfold UR;refine jM fun d1=>?_;refine jM fun d2=>?_;refine uH fun d3=>?_;rw[DD.2.2.2.2];refine BM (v:=ag ah i) DD.1 DD.2.1 DD.2.2.1 (by decide) (by rw[DD.2.2.2.1];rfl) ⟨_,func47⟩ (fun v hv=>BN BO<|R.ok v hv) (fun d=>KD R.a12<|.inl DD.2.2.2.1) fun a2 d4 p2=>?_;have uZ:=p2.ok _ R.ok .int;have U2:=R.U.put p2 (by decide);refine BM (v:=aF true) Gy.1 Gy.2.1 Gy.2.2.1 (by decide) (by rw[Gy.2.2.2];rfl) ⟨_,func47⟩ (fun v hv=>BN BO<|uZ v hv) (fun d=>by rw[<-hd];exact ald (a:=a2) (x:=.tmp 68) (y:=.const<|ag ah 3) (p2.at_ (by rw[R.U.sz];decide)) rfl Gy.2.2.2) fun a3 d5 p3=>?_;have zF:=p3.ok _ uZ .bool;have U3:=U2.put p3 (by decide);refine uI fun d6=>?_;refine jr (fun _=>aFp (t:=true)<|p3.at_ (by rw[U2.sz];decide)) fun d7=>?_;rw[if_pos rfl];refine jr (fun _=>aFr) fun d8=>?_;refine jM fun d9=>?_;refine jr (fun _=>aFs) fun d10=>?_;refine uH fun d11=>?_;rw[QG.2.2.2.2];refine BM (v:=az<|ae ⟨xb,0,af⟩) QG.1 QG.2.1 QG.2.2.1 (by decide) (by rw[QG.2.2.2.1];rfl) ⟨_,func47⟩ (fun v hv=>BN BO<|zF v hv) (fun d=>KD U3.a3<|.inl QG.2.2.2.1) fun a4 d12 p4=>?_;have vx:au.aI ((au.bP fo s0).cut w.heap.size) (az<|ae ⟨xb,0,af⟩):=by rw[<-R.U.a3];exact R.ok.getD au.rZ
  have ES:=p4.ok _ zF vx;have U4:=U3.put p4 (by decide);rw[fF,fF,fF,fF,fF,fF,fF,fF,fF,fF,fF];refine I4 (f:=20) (post:=fun B' v w'=>∃(d:Nat) (Wg:Nat) (s2:dm),B'=au.bP fo (fun b=>s0 b\/b=Wg)/\w.heap.size<=Wg/\v=ag ah s.h.fl.length/\wO (w.at d) w' B pb xb s (n+306) s2/\s2.g=s.g/\s2.h.up=s.h.up/\Qp s.h s2.h/\∀p t b,fD s.L p t b->fD s2.L p t b) Za.1 Za.2.1 Za.2.2.1 (by decide) Za.2.2.2 func20 rfl rfl (vs:=#[az<|ae ⟨xb,0,af⟩]) ?_ (fun d=>(akX (w:=w.at d) (N:=n) (s:=s) (R.at_.same rfl) hn R.hp R.hB).z fun B' v w' hg=>?_) ?_
  ·have e1:a4.eval (.tmp 72)=az (ae ⟨xb,0,af⟩):=p4.at_ (by rw[U3.sz];decide);simp[e1]
  ·obtain⟨Wg,s2,q1,q2,q3,q4,q5⟩:=hg;exact⟨d,Wg,s2,q1,q2,q3,q4,q5⟩
  rintro B' v w2 a5 p5 ⟨dd,Wg,s2,rfl,dh,rfl,dX,eg,eu,rn,dc⟩;have g:∀k,(s0 k\/k=Wg)->s0 k\/w.heap.size<=k:=fun k hk=>hk.imp id fun e=>by rw[e];exact dh
  have Gx:w.heap.size<=w2.heap.size:=dX.dX.size;have BP:=p5.ok _ ES .int;have U5:=U4.put p5 (by decide);refine uI fun d13=>?_;refine jr (fun _=>aFL) fun d14=>?_;refine uH fun d15=>?_;rw[QH.2.2.2.2];have e12:a5.tmps.getD 12 ai=ag ah i:=(p5.ne 12<|by decide).t ((p4.ne 12<|by decide).t<|(p3.ne 12<|by decide).t<|(p2.ne 12<|by decide).t R.a12);refine BM (v:=ag ah i) QH.1 QH.2.1 QH.2.2.1 (by decide) (by rw[QH.2.2.2.1];rfl) ⟨_,func47⟩ (fun v hv=>BN g<|BP v hv) (fun d=>KD e12<|.inl QH.2.2.2.1) fun a6 d16 p6=>?_;have BQ:=p6.ok _ BP .int;have U6:=U5.put p6 (by decide);refine BM (v:=ag ah ((i+1:Nat):Int)) UT.1 UT.2.1 UT.2.2.1 (by decide) (by rw[UT.2.2.2];rfl) ⟨_,func47⟩ (fun v hv=>BN g<|BQ v hv) (fun d=>by rw[<-hw];exact ayy (a:=a6) (x:=.tmp 70) (y:=.const<|ag ah 1) (p6.at_ (by rw[U5.sz];decide)) rfl UT.2.2.2) fun a7 d17 p7=>?_;have I7:=p7.ok _ BQ .int;have U7:=U6.put p7 (by decide);refine BM (v:=ag ah ((i+1:Nat):Int)) UU.1 UU.2.1 UU.2.2.1 (by decide) (by rw[UU.2.2.2];rfl) ⟨_,func47⟩ (fun v hv=>BN g<|I7 v hv) (fun d=>KD (p7.at_ (by rw[U6.sz];decide))<|.inr UU.2.2.2) fun a8 d18 p8=>?_;have I8:=p8.ok _ I7 .int;have U8:=U7.put p8 (by decide);refine uI fun d19=>?_;refine jr (fun _=>aFV) fun d20=>?_;refine ih (i+1) (n+306) _ a8 _ s2 (by omega) ⟨U8,p8.at_ (by rw[U7.sz];decide),p8.df.t<|p7.df.t<|p6.df.t<|p5.df.t<|p4.df.t<|p3.df.t<|p2.df.t R.df,fun v hv=>KE g Gx<|I8 v hv,dX.at_.same rfl,by have:=R.fM;omega,?_,fun z=>z.e (fun z=>z.e (fun y=>R.hp<|.inl y) fun e=>?_) fun y=>R.hp<|.inr y,fun k hk=>hk.e (R.hB k) fun e=>?_,?_⟩
  ·have F':zD s (2-(i+1)+1):=R.F.z (by omega);exact F'.next R.at_ (by omega) eg eu dX.cf.1 rn dc
  ·have:=bn R.at_.pa.blk;omega
  ·have:=R.at_.base;omega
  ·have f:Fr (fun k=>B<=k) w w2:=⟨dX.dX.os,dX.dX.tape,dX.dX.output,dX.dX.size,dX.dX.block⟩;have f2:=R.fr.t f fun _=>.inl;exact⟨f2.os,f2.tape,f2.output,f2.size,f2.block⟩
end
def aH.heap{w w1:ay}{B xb n:Nat}{h:HS}(a:aH w B xb n h)(e:w1.heap=w.heap):aH w1 B xb n h:=Twin.aH.same a (fun b _=>by rw[e]) (by rw[e];exact dI _)
structure UW(fo:Nat->Prop)(w:ay)(B':au.dE)(v:aA)(w':ay):Prop where
 ex:∃(s1:Nat->Prop) (pb xb n:Nat) (s:dm),B'=au.bP fo s1/\v=az (ae ⟨pb,0,af⟩)/\bJ w' (w.heap.size+1) pb xb n s/\n<=1000/\¬(s1 pb\/fo pb)/\(∀k,s1 k->w.heap.size+1<=k)/\Fr (fun k=>w.heap.size+1<=k) w w'
def ayA{fo:Nat->Prop}{w:ay}{p q t k:Nat}(hg:Good p q t k):au.sG (au.bP fo fun _=>False) prog 47 #[jI p q t k] w (UW fo w):=by
 intro c cs;refine au.Reach.ok fun bT=>?_;have h5:∀b,False\/fo b->1<=b:=fun b hb=>(bT.low b hb).1;rw[aF3 (c:=d47) _ func47 rfl];refine au.YU (p:=EJ) (c:=d47) (S:=EK) (w:=w) (K:=fun ta d x w'=>∃xb pb h v,T47 w.heap.size xb pb x.tmps/\Started (au.re w ta d) w' p q t k w.heap.size xb pb h v) (au.lets h5) (xO h5) rfl ayw awY ?_ rfl ⟨_,func47⟩ rfl (fun ta d=>aw2 (w:=au.re w ta d) hg) ?_
 ·refine au.cZ.append (au.cZ.one<|.agg fun x hx=>?_) fun v hv=>?_
  ·simp only[uo,jZ,qh,qi]at hx;rcases hx with rfl|rfl|rfl|rfl<;>exact .int
  ·obtain⟨_,rfl⟩:=Lu.1 hv;exact au.rZ
 rintro⟨a1,df⟩ w1 l1 lU IV hd ⟨ta,d,ta',j,xb,pb,h,v,T,st⟩;obtain rfl:df=[]:=hd;have bU:Fr aS w w1:=⟨lU.os,lU.tape,lU.output,lU.size,fun b hb h=>st.fr.block b hb h⟩;have G:∀(ta:Nat->Question->Nat) (d:Nat),Gt (au.re w1 ta d) (w.heap.size+1) p q t k w.heap.size xb pb 0 h [] v (au.re w1 ta d):=fun ta d=>⟨st.Qv,st.lt,aH.heap st.ha rfl,st.ax,st.xN,st.cf,st.pa.same rfl,Fr.refl _ _⟩;refine au.YU (p:=EJ) (c:=EK) (S:=IZ) (w:=w1) (K:=fun ta d x w'=>ND xb pb x.tmps/\∃s,bJ w' (w.heap.size+1) pb xb 18 s/\zD s 2/\Fr (fun k=>w.heap.size+1<=k) (au.re w1 ta d) w') (au.lets h5) (xO h5) rfl ayx ax9 IV rfl ⟨_,func47⟩ rfl (fun ta d=>ayd (G ta d) hg T) ?_;rintro⟨a2,df⟩ w2 l2 Kr Qm hd ⟨tb,d',tb',j',U,s,A,F,fr⟩;obtain rfl:df=[]:=hd;have jS:Fr (fun k=>w.heap.size+1<=k) w1 w2:=⟨Kr.os,Kr.tape,Kr.output,Kr.size,fun b hb h=>fr.block b hb h⟩;have A2:bJ w2 (w.heap.size+1) pb xb 18 s:=A.same rfl;rw[alc];refine jM fun d1=>?_;refine jM fun d2=>?_;refine uH fun d3=>?_;rw[QF.2.2.2.2,fF,fF];refine BM (v:=ag ah 0) QF.1 QF.2.1 QF.2.2.1 (by decide) (by rw[QF.2.2.2.1];rfl) ⟨_,func47⟩ (fun v hv=>BN (s0:=fun _=>False) (n:=w2.heap.size) (fun _=>.inl)<|Qm v hv) (fun d=>Zb QF.2.2.2.1) fun a3 d4 p3=>?_;refine uI fun d5=>?_;refine jr (fun _=>aFs) fun d6=>?_;refine jr (fun _=>aFX) fun d7=>?_;rw[fF,fF,fF,fF];refine ayz (B:=w.heap.size+1) (pb:=pb) (xb:=xb) (w0:=w) ?_ 3 0 18 (fun _=>False) a3 _ s rfl ⟨U.put p3<|by decide,p3.at_ (by show 12<a2.size;rw[U.sz];decide),p3.df,p3.ok _ Qm .int,A2.same rfl,dI _,F,fun z=>z.e id fun y=>by have:=(bT.low pb<|.inr y).2;have:=A2.pa.hb;omega,dw,?_⟩;rotate_left
 ·have:=(bU.z dw).t jS fun _=>.inl;exact⟨this.os,this.tape,this.output,this.size,this.block⟩
 rintro s1 n ⟨a4,df⟩ w3 s3 R;obtain rfl:df=[]:=R.df;refine au.Reach.ok fun adx=>?_;have Nk:∀b,s1 b\/fo b->1<=b:=fun b hb=>(adx.low b hb).1;have hn:n<=80000000:=by have:=R.fM;omega
 refine au.Io (w:=w3) (K:=fun t d e x w'=>e=.ret/\x.tmps.getD 2 ai=az (ae ⟨pb,0,af⟩)/\∃s',cO (au.re w3 t d) w' (w.heap.size+1) pb xb s3 (n+6) s') (au.lets Nk) (xO Nk) aym R.ok rfl ⟨_,func47⟩ rfl (fun t d=>aFB (ayn R.U (R.at_.re t d) hn R.F) fun e a' w' hq=>⟨.inr hq.1,hq⟩) ?_ ?_
 ·rintro a5 w4 _ _ _ ⟨t,d,t',j,e,_⟩;cases e
 rintro a5 w4 todo xK YC hd4 ⟨t,d,t',j,_,uV,s4,t4⟩;refine au.UG (au.lets Nk) (xO Nk) (fn:=Tryz.f47) (v:=az<|ae ⟨pb,0,af⟩) (t:=t') (k:=j) rfl hd4 rfl func47 YC ?_ fun d9 _=>⟨_,rfl,⟨s1,pb,xb,n+6,s4,rfl,rfl,t4.at_.same rfl,by have:=R.fM;omega,R.hp,R.hB,?_⟩⟩
 ·rw[<-uV];exact aFY rfl _ _ _
 ·have t5:=(t4.IU xK).dX R.at_;have:=R.fr.t t5 fun _=>.inl;exact⟨this.os,this.tape,this.output,this.size,this.block⟩
end
section
open Go.RowKit Go.Maps Go.Conc
open _root_.Go.Proofs.YtkelpcjiediamaaGreat.Twin _root_.Go.Proofs.YtkelpcjiediamaaGreat.fU
open au (jd jV oU)
def qF(D:List Nat)(B:au.dE)(t:Array aA):Prop:=∀j,D.contains j=false->∀v,t[j]? =ae v->au.aI B v
def lay(D:List Nat)(f:Nat->aA):List (Nat×aA):=D.map fun j=>(j,f j)
def tidy(D:List Nat)(t:Array aA):Array Value:=jd (lay D fun _=>ai) t
def ael(D:List Nat)(f:Nat->aA):jV (lay D f)=D:=by
 simp[jV,lay,Function.comp_def]
variable{t:Array aA}{f:Nat->aA}{D:List Nat}{B:au.dE}
def yN:∀{ov:List (Nat×aA)},(jd ov t).size=t.size
 |[]=>rfl
 |x::r=>by simp only[jd,Array.size_setIfInBounds];exact yN
def KH{i:Nat}:∀{D:List Nat},(jd (lay D f) t)[i]? =if D.contains i then(if i<t.size then ae (f i)else af)else t[i]?
 |[]=>rfl
 |j::D=>by
  show((jd (lay D f) t).setIfInBounds j<|f j)[i]? =_;rw[afH,yN];by_cases e:j=i
  ·subst e;simp
  ·have e':¬i=j:=fun h=>e h.s;rw[if_neg e,KH];simp[e']
def aem:jd (lay D fun j=>t.getD j ai) (tidy D t)=t:=by
 refine Array.ext_getElem? fun i=>?_;rw[KH,tidy,yN];by_cases h:D.contains i=true
 ·rw[if_pos h];by_cases hi:i<t.size
  ·rw[if_pos hi];simp[Array.getD,hi]
  ·rw[if_neg hi];simp[hi]
 ·rw[if_neg h,KH,if_neg h]
def ug{i:Nat}(h:D.contains i=false):(jd (lay D f) t).getD i ai=t.getD i undef:=by
 rw[D7,D7,KH,h,if_neg<|by decide]
def QI{i:Nat}(h:D.contains i=true)(hi:i<t.size):(jd (lay D f) t).getD i ai=f i:=by
 rw[D7,KH,if_pos h,if_pos hi];rfl
def qF.tidy(h:qF D B t):au.cZ B (tidy D t):=fun v hv=>by
 obtain⟨i,hi⟩:=anD.1 hv;rw[YtkelpcjiediamaaGreat.tidy,KH]at hi;split at hi
 ·split at hi
  ·cases hi;exact au.rZ
  ·cases hi
 ·exact h i (Bool.eq_false_iff.2 ‹_›) v hi
def qF.of(h:au.cZ B t):qF D B (jd (lay D f) t):=fun j hj v hv=>by
 rw[KH,hj,if_neg<|by decide]at hv;exact h v<|Jt hv
def qF.z{B':au.dE}(h:qF D B t)(hi:∀v,au.aI B v->au.aI B' v):qF D B' t:=fun j hj v hv=>hi v<|h j hj v hv
def qF.getD(h:qF D B t){j:Nat}(hj:D.contains j=false):au.aI B (t.getD j ai):=by
 rw[D7];cases e:t[j]? with
 |none=>exact au.rZ
 |some v=>exact h j hj v e
def qF.put{a a':Act}{i:Nat}{v:aA}(h:qF D B a.tmps)(p:Gv a i v a')(hv:D.contains i=true\/au.aI B v):qF D B a'.tmps:=fun j hj u hu=>by
 have aK:j<a'.tmps.size:=(jF.1 hu).1;have aBM:j<a.tmps.size:=p.sz▸aK;have e1:a'.tmps.getD j ai=u:=by rw[D7,hu];rfl
 by_cases e:i=j
 ·subst e;have:=p.at_ aBM;rw[e1]at this;subst this;exact hv.e (fun h=>by rw[hj]at h;cases h) id
 ·have:=p.ne j e;rw[e1]at this;rw[this];exact h.getD hj
def ayB(h:D.contains 1=true/\D.contains 0=false){c s:aA}{n:Nat}:tidy D (#[c,s]++gz n ai)=#[c,ai]++gz n undef:=by
 refine Array.ext_getElem? fun i=>?_;rw[tidy,KH];match i with
 |0=>
  rw[h.2,if_neg<|by decide,Ry,Ry];rfl
 |1=>
  rw[if_pos h.1,if_pos (by simp<;>omega),Ry];rfl
 |i+2=>
  have e:∀v:aA,(#[c,v]++gz n undef:Array aA)[i+2]? =if i<n then ae ai else none:=fun v=>by
   rw[Ry,if_neg<|by simp,Array.getElem?_replicate];rfl
  rw[e,e];split
  ·have hz:(#[c,s]++gz n undef:Array aA).size=n+2:=by simp<;>omega
   rw[hz];simp
  ·rfl
variable{fo s:Nat->Prop}{b:bH}{a:Act}{ops:Array Oper}{i:Nat}{rest:List Nat}{k:List Item}{cs cs2:List bH}{w:ay}{Q:au.dE->bH->ay->Prop}{o:Oper}{v:aA}{d:Nat}
def BR(ho:ops[i]? =ae o)(hg:o.guard=af)(hd:o.dst=ae d)(hk:b.kind≠.early)
 (hr:∀d,(dY a.eval o).run prog (w.at d)=.ok (.value v) (w.at d))
 (eX:∀d,∀e∈(dY a.eval o).events prog (w.at d) #[],EvL (au.uF<|au.bP fo s) w.heap.size e)
 (hn:∀a' dd,Gv a d v a'->au.Reach (au.bP fo s) prog (b.at a'<|bW ops rest::k) cs (w.at dd) Q cs2):au.Reach (au.bP fo s) prog (b.at a<|bW ops (i::rest)::k) cs w Q cs2:=by
 refine au.Reach.ok fun bT=>au.Reach.step fun dd=>?_;refine⟨_,_,w.at dd,_,aFS ho (by simp[Region.wanted,hg]) hk<|hr dd,⟨bT.obj,bT.low,bT.ng⟩,dI _,fun e he=>eX dd e<|aFh he,?_⟩;rw[hd];exact hn _ dd<|.of a d v
variable{n:Nat}{c:Code}{D:List Nat}{f:ji}{fn:Func}{K:Array aA->ay->Prop}
def ayC{W:ay}(aP:o.op=.move (.tmp n)\/o.op=.assign (.tmp n)):(dY a.eval o).events prog W #[]=#[]:=by
 rcases aP with aP|aP<;>(unfold dY;rw[aP];rfl)
def Aw(ho:ops[i]? =ae o)(hg:o.guard=af)(hd:o.dst=ae d)(hk:b.kind≠.early)(aP:o.op=.move (.tmp n)\/o.op=.assign (.tmp n))(h:a.tmps.getD n ai=v)
 (hn:∀a' dd,Gv a d v a'->au.Reach (au.bP fo s) prog (b.at a'<|bW ops rest::k) cs (w.at dd) Q cs2):au.Reach (au.bP fo s) prog (b.at a<|bW ops (i::rest)::k) cs w Q cs2:=
 BR ho hg hd hk (fun _=>KD h aP) (fun _ e he=>by rw[ayC aP]at he;simp at he) hn
def Zc{c:Addr}(h:c.block<n)(hs:¬s c.block):EvL (au.uF<|au.bP fo s) n ⟨.cell c,false,false⟩:=
 aju (B:=au.bP fo s) (S:=fun b=>b=c.block) (E:=⟨fun _=>False,fun _=>False,fun _ z=>z⟩) (.inl rfl) (fun _ e=>e▸⟨h,hs⟩) fun _ e=>e.e
def Gz(hK:∀x w t d,K x (au.re w t d)->K x w)(qc:prog.funcs[f]? =ae fn)(bT:au.codeOk prog au.kN c=true)(hM:oU D c=true)(ha:qF D ((au.bP fo s).cut w.heap.size) a.tmps)(hd:a.defers=[])
 (zN:∀t d,c.wp prog (fun e x w'=>e=.normal/\K x.tmps w') ⟨tidy D a.tmps,[]⟩<|au.re w t d)
 (hn:∀x w1,au.On w w1->K x w1->qF D ((au.bP fo s).cut w1.heap.size) (jd (lay D fun j=>a.tmps.getD j ai) x)->au.Reach (au.bP fo s) prog ((base f).at ⟨jd (lay D fun j=>a.tmps.getD j ai) x,[]⟩ k) cs w1 Q cs2):
 au.Reach (au.bP fo s) prog ((base f).at a<|.code c::k) cs w Q cs2:=by
 refine au.Reach.ok fun WA=>?_;have h5:∀b,s b\/fo b->1<=b:=fun b hb=>(WA.low b hb).1;obtain⟨tm,df⟩:=a;obtain rfl:df=[]:=hd;have:=au.XZ (ov:=lay D fun j=>tm.getD j ai) (z:=false) (S:=.ret) (b:=base f) (k:=k) (cs:=cs) (cs2:=cs2) (Q:=Q) (K:=fun t d e a' w'=>e=.normal/\K a'.tmps w') (au.lets h5) (xO h5) (fun it hi=>by
  obtain rfl:it=.code c:=by simpa using hi
  rw[ael];exact .inr hM) (.same c<|.off rfl _) bT ha.tidy rfl ⟨_,qc⟩ rfl (fun t d=>aFB (zN t d) fun e a' w' hq=>⟨.inl hq.1,hq⟩)
  (fun a' w' on QJ hd ⟨t,d,t',j,_,h⟩=>by
    obtain⟨x,df⟩:=a';obtain rfl:df=[]:=hd;exact hn x w' on (hK _ _ _ _ h)<|.of QJ) (fun h=>by cases h) (fun _ a' w' todo _ _ _ ⟨t,d,t',j,e,_⟩=>by cases e) (fun h=>absurd rfl h)
 rw[aem]at this;exact this
def ale(hK:∀x w t d,K x (au.re w t d)->K x w)(qc:prog.funcs[f]? =ae fn)(bT:au.codeOk prog au.kN c=true)(hM:oU D c=true)(ha:qF D ((au.bP fo s).cut w.heap.size) a.tmps)(hd:a.defers=[])
 (zN:∀t d,c.wp prog (fun e x w'=>e=.ret/\K x.tmps w') ⟨tidy D a.tmps,[]⟩<|au.re w t d)
 (hn:∀x w1 todo,au.On w w1->K x w1->au.cZ ((au.bP fo s).cut w1.heap.size) x->au.Reach (au.bP fo s) prog {(base f).at ⟨jd (lay D fun j=>a.tmps.getD j ai) x,[]⟩ todo with mode:=.returning} cs w1 Q cs2):
 au.Reach (au.bP fo s) prog ((base f).at a<|.code c::k) cs w Q cs2:=by
 refine au.Reach.ok fun WA=>?_;have h5:∀b,s b\/fo b->1<=b:=fun b hb=>(WA.low b hb).1;obtain⟨tm,df⟩:=a;obtain rfl:df=[]:=hd;have:=au.XZ (ov:=lay D fun j=>tm.getD j ai) (z:=false) (S:=.ret) (b:=base f) (k:=k) (cs:=cs) (cs2:=cs2) (Q:=Q) (K:=fun t d e a' w'=>e=.ret/\K a'.tmps w') (au.lets h5) (xO h5) (fun it hi=>by
  obtain rfl:it=.code c:=by simpa using hi
  rw[ael];exact .inr hM) (.same c<|.off rfl _) bT ha.tidy rfl ⟨_,qc⟩ rfl (fun t d=>aFB (zN t d) fun e a' w' hq=>⟨.inr hq.1,hq⟩)
  (fun a' w' on QJ hd ⟨t,d,t',j,e,_⟩=>by cases e) (fun h=>by cases h) (fun _ a' w' todo on QJ hd ⟨t,d,t',j,_,h⟩=>by
    obtain⟨x,df⟩:=a';obtain rfl:df=[]:=hd;exact hn x w' todo on (hK _ _ _ _ h) QJ) (fun h=>absurd rfl h)
 rw[aem]at this;exact this
end
section
open Go.RowKit Go.Maps Go.Conc
open _root_.Go.Proofs.YtkelpcjiediamaaGreat.Twin _root_.Go.Proofs.YtkelpcjiediamaaGreat.fU
section
variable{a a':Act}{o:Oper}{W:ay}
variable{x y:Operand}{b sb so f:Nat}{p q t k m:Int}{ts:ByteArray}{fl:Bool}
def alf(h:a.eval x=az (ae ⟨b,0,af⟩))(hb:W.heap[b]? =ae (aG #[ag ah p,ag ah q,ag ah t,ag ah k] 23 (0,0)))(aP:o.op=.load 23 x):(dY a.eval o).run prog W=.ok (.value<|jI p q t k) W:=by
 have h0:aB W ⟨b,0,af⟩=ae (ag ah p):=aQ hb 0;have h1:aB W ⟨b,1,af⟩=ae (ag ah q):=aQ hb 1;have h2:aB W ⟨b,2,af⟩=ae (ag ah t):=aQ hb 2;have h3:aB W ⟨b,3,af⟩=ae (ag ah k):=aQ hb 3;clear hb;unfold dY jI;rw[aP];simp only[h];go_simp
def ayD{n cap i:Nat}(h:a.eval x=aN (ae ⟨sb,so,af⟩) n cap)(h2:a.eval y=ag ah i)(hi:i<n)(aP:o.op=.indexAddr 26 x y):(dY a.eval o).run prog W=.ok (.value<|az<|ae ⟨sb,so+i*6,af⟩) W:=by
 have h3:(i:Int)<(n:Int):=by omega
 have h4:(0:Int)<=(i:Int):=by omega
 unfold dY;rw[aP];simp only[h,h2];go_simp
def ayE(h:a.eval x=az (ae ⟨b,f,af⟩))(h0:aB W ⟨b,f,af⟩=ae (ag ah k))(h1:aB W ⟨b,f+1,af⟩=ae (ag ah p))(h2:aB W ⟨b,f+2,af⟩=ae (ag ah q))(h3:aB W ⟨b,f+3,af⟩=ae (ag ah m))(h4:aB W ⟨b,f+4,af⟩=ae (dK ts))(h5:aB W ⟨b,f+5,af⟩=ae (aF fl))(aP:o.op=.load 28 x):(dY a.eval o).run prog W=.ok (.value<|wM k p q m ts fl) W:=by
 unfold dY wM;rw[aP];simp only[h];go_simp
def alg(h:a.eval x=az (ae ⟨b,0,af⟩))(hb:W.heap[b]? =ae (aG #[ag ah p,ag ah q,ag ah t,ag ah k] 23 (0,0)))(aP:o.op=.load 23 x):∀e∈(dY a.eval o).events prog W #[],∃n,e=⟨.cell ⟨b,n,af⟩,false,false⟩:=by
 intro e he;have h0:aB W ⟨b,0,af⟩=ae (ag ah p):=aQ hb 0;have h1:aB W ⟨b,1,af⟩=ae (ag ah q):=aQ hb 1;have h2:aB W ⟨b,2,af⟩=ae (ag ah t):=aQ hb 2;have h3:aB W ⟨b,3,af⟩=ae (ag ah k):=aQ hb 3;clear hb;unfold dY at he;rw[aP]at he;simp only[h]at he;simp[go_sem,h0,h1,h2,h3]at he;rcases he with rfl|rfl|rfl|rfl<;>exact⟨_,rfl⟩
def ayF(h:a.eval x=az (ae ⟨b,f,af⟩))(h0:aB W ⟨b,f,af⟩=ae (ag ah k))(h1:aB W ⟨b,f+1,af⟩=ae (ag ah p))(h2:aB W ⟨b,f+2,af⟩=ae (ag ah q))(h3:aB W ⟨b,f+3,af⟩=ae (ag ah m))(h4:aB W ⟨b,f+4,af⟩=ae (dK ts))(h5:aB W ⟨b,f+5,af⟩=ae (aF fl))(aP:o.op=.load 28 x):∀e∈(dY a.eval o).events prog W #[],∃n,e=⟨.cell ⟨b,n,af⟩,false,false⟩:=by
 intro e he;unfold dY at he;rw[aP]at he;simp only[h]at he;simp[go_sem,h0,h1,h2,h3,h4,h5]at he;rcases he with rfl|rfl|rfl|rfl|rfl|rfl<;>exact⟨_,rfl⟩
def ayG{n cap i:Nat}(h:a.eval x=aN (ae ⟨sb,so,af⟩) n cap)(h2:a.eval y=ag ah i)(hi:i<n)(aP:o.op=.indexAddr 26 x y):(dY a.eval o).events prog W #[]=#[]:=by
 have h3:(i:Int)<(n:Int):=by omega
 have h4:(0:Int)<=(i:Int):=by omega
 unfold dY;rw[aP];simp only[h,h2];simp[go_sem,h3]
def aen{v:aA}(aP:o.op=.assign (.const v)):(dY a.eval o).events prog W #[]=#[]:=by
 unfold dY;rw[aP];rfl
def alh{ao:Option Addr}{n cap:Nat}(h:a.eval x=.slice ao n cap)(aP:o.op=.call {callee:=.builtin .len,args:=#[x],argTypes:=#[26]}):(dY a.eval o).run prog W=.ok (.value<|ag ah n) W/\(dY a.eval o).events prog W #[]=#[]:=by
 unfold dY;rw[aP];have h':#[x].map a.eval=#[.slice ao n cap]:=by simp only[afQ,rQ,tC,h]
 constructor
 ·simp only[resolve,h'];simp[go_sem]
 ·simp only[resolve,h'];simp[go_sem]
def ali{i n:Nat}(h:a.eval x=ag ah i)(h2:a.eval y=ag ah n)(aP:o.op=.binOp .lss 3 x y 3):(dY a.eval o).run prog W=.ok (.value<|.bool<|decide<|i<n) W/\(dY a.eval o).events prog W #[]=#[]:=by
 unfold dY;rw[aP];simp only[h,h2];constructor
 ·simp[go_sem]
 ·simp[go_sem]
end
structure Az where
 k:Int
 p:Int
 q:Int
 m:Int
 s:ByteArray
 c:Bool
def Az.at_(w:ay)(sb o:Nat)(x:Az):Prop:=
 w.cell? ⟨sb,o,af⟩=ae (ag ah x.k)/\aB w ⟨sb,o+1,af⟩=ae (ag ah x.p)/\aB w ⟨sb,o+2,af⟩=ae (ag ah x.q)/\
 w.cell? ⟨sb,o+3,af⟩=ae (ag ah x.m)/\aB w ⟨sb,o+4,af⟩=ae (dK x.s)/\aB w ⟨sb,o+5,af⟩=ae (aF x.c)
def QK(w:ay)(ao:Option Addr)(l:List Az):Prop:=
 ∀(i:Nat) x,l[i]? =ae x->(∃sb so,ao=ae ⟨sb,so,af⟩/\sb<w.heap.size/\x.at_ w sb (so+i*6))/\fO x.p/\fO x.q/\fO x.m
def Az.bg{w w':ay}{sb o B:Nat}{x:Az}(h:x.at_ w sb o)(f:Fr (fun k=>B<=k) w w')(hB:w.heap.size<=B)(hs:sb<w.heap.size):x.at_ w' sb o:=by
 obtain⟨c0,c1,c2,c3,c4,c5⟩:=h;have k:∀o,aB w' ⟨sb,o,af⟩=aB w ⟨sb,o,af⟩:=fun o=>f.cell (p:=⟨sb,o,af⟩) hs (fun e=>by have:B<=sb:=e;omega);exact⟨by rw[k];exact c0,by rw[k];exact c1,by rw[k];exact c2,by rw[k];exact c3,by rw[k];exact c4,by rw[k];exact c5⟩
def d15:Code:=Tryz.f15.body.getD .skip
def UX:Code:=au.fH [false] d15
def xQ:Array Oper:=opsOf<|au.fH [true,false] d15
def NH:Code:=au.fH [true,true,false] d15
def NI:Array Oper:=opsOf<|au.fH [true,true,true,false,false] d15
def NJ:Code:=au.fH [true,true,true,true] d15
def Zd:Code:=au.fH [true,true,true,false,true,false,false] d15
def lG:Array Oper:=opsOf<|au.fH [true,true,true,false,true,true,false,false] d15
def UY:Code:=au.fH [true,true,true,false,true,true,false,true] d15
def UZ:Code:=au.fH [true,true,true,false,true,true,true] d15
def U0:Code:=.seq (.seq Zd<|.cond (.tmp 16) .skip<|.exit 0)<|.seq (.block 1<|.seq (.region 7 lG false) UY) UZ
def ayH:d15=.seq UX (.seq (.region 1 xQ false)<|.seq NH<|.seq (.seq (.region 4 NI false)<|.block 0<|.loop U0) NJ):=by kernel_rfl
def sQ:Array Oper:=opsOf Zd
def ayI:Zd=.region 5 sQ false:=by kernel_rfl
def ayJ:List.range sQ.size=[0,1,2,3]:=by kernel_rfl
def Ze:sQ[0]? =ae (opAt sQ 0)/\(opAt sQ 0).guard=af/\(opAt sQ 0).dst=ae 13/\(opAt sQ 0).op=.move (.tmp 6):=by and_intros<;>kernel_rfl
def Zf:sQ[1]? =ae (opAt sQ 1)/\(opAt sQ 1).guard=af/\(opAt sQ 1).dst=ae 14/\(opAt sQ 1).op=.move (.tmp 1):=by and_intros<;>kernel_rfl
def U1:sQ[2]? =ae (opAt sQ 2)/\(opAt sQ 2).guard=af/\(opAt sQ 2).dst=ae 15/\(opAt sQ 2).op=.call {callee:=.builtin .len,args:=#[.tmp 14],argTypes:=#[26]}:=by and_intros<;>kernel_rfl
def U9:sQ[3]? =ae (opAt sQ 3)/\(opAt sQ 3).guard=af/\(opAt sQ 3).dst=ae 16/\(opAt sQ 3).op=.binOp .lss 3 (.tmp 13) (.tmp 15) 3:=by and_intros<;>kernel_rfl
def o7:List Nat:=[1,14,20,22]
def Va:au.oU o7 UX=true/\au.oU o7 NH=true/\au.oU o7 NJ=true/\au.oU o7 UY=true/\au.oU o7 UZ=true:=by and_intros<;>kernel_rfl
def NK:au.codeOk prog au.kN UX=true/\au.codeOk prog au.kN NH=true/\au.codeOk prog au.kN NJ=true/\au.codeOk prog au.kN UY=true/\au.codeOk prog au.kN UZ=true:=by and_intros<;>kernel_rfl
def QL:xQ[0]? =ae (opAt xQ 0)/\(opAt xQ 0).guard=af/\(opAt xQ 0).dst=ae 9/\(opAt xQ 0).op=.load 23 (.tmp 2)/\List.range xQ.size=[0,1,2]:=by and_intros<;>kernel_rfl
def Zg:xQ[1]? =ae (opAt xQ 1)/\(opAt xQ 1).guard=af/\(opAt xQ 1).dst=ae 10/\(opAt xQ 1).op=.call {callee:=.value<|.func 47,args:=#[.tmp 9],argTypes:=#[23]}:=by and_intros<;>kernel_rfl
def Zh:xQ[2]? =ae (opAt xQ 2)/\(opAt xQ 2).guard=af/\(opAt xQ 2).dst=ae 5/\(opAt xQ 2).op=.assign (.tmp 10):=by and_intros<;>kernel_rfl
def QM:NI[0]? =ae (opAt NI 0)/\(opAt NI 0).guard=af/\(opAt NI 0).dst=ae 6/\(opAt NI 0).op=.assign (.const<|ag ah 0)/\List.range NI.size=[0]:=by and_intros<;>kernel_rfl
def ayK:List.range lG.size=[0,1,2,3,4,5,6]:=by kernel_rfl
def Zi:lG[0]? =ae (opAt lG 0)/\(opAt lG 0).guard=af/\(opAt lG 0).dst=ae 19/\(opAt lG 0).op=.move (.tmp 5):=by and_intros<;>kernel_rfl
def Zj:lG[1]? =ae (opAt lG 1)/\(opAt lG 1).guard=af/\(opAt lG 1).dst=ae 20/\(opAt lG 1).op=.move (.tmp 1):=by and_intros<;>kernel_rfl
def Zk:lG[2]? =ae (opAt lG 2)/\(opAt lG 2).guard=af/\(opAt lG 2).dst=ae 21/\(opAt lG 2).op=.move (.tmp 6):=by and_intros<;>kernel_rfl
def Vb:lG[3]? =ae (opAt lG 3)/\(opAt lG 3).guard=af/\(opAt lG 3).dst=ae 22/\(opAt lG 3).op=.indexAddr 26 (.tmp 20) (.tmp 21):=by and_intros<;>kernel_rfl
def Vd:lG[4]? =ae (opAt lG 4)/\(opAt lG 4).guard=af/\(opAt lG 4).dst=ae 23/\(opAt lG 4).op=.load 28 (.tmp 22):=by and_intros<;>kernel_rfl
def Zl:lG[5]? =ae (opAt lG 5)/\(opAt lG 5).guard=af/\(opAt lG 5).dst=ae 24/\(opAt lG 5).op=.call {callee:=.value<|.func 48,args:=#[.tmp 19,.tmp 23],argTypes:=#[40,28]}:=by and_intros<;>kernel_rfl
def Zm:lG[6]? =ae (opAt lG 6)/\(opAt lG 6).guard=af/\(opAt lG 6).dst=ae 7/\(opAt lG 6).op=.assign (.tmp 24):=by and_intros<;>kernel_rfl
def Zn:List.range 34=[0,1,2,3,4,5,6,7,8,9,10,11,12,13,14,15,16,17,18,19,20,21,22,23,24,25,26,27,28,29,30,31,32,33]:=by kernel_rfl
structure vN(v1:aA)(pb:Nat)(i:Nat)(a:Array aA):Prop where
 sz:a.size=34
 a1:a.getD 1 ai=v1
 a5:a.getD 5 ai=az (ae ⟨pb,0,af⟩)
 a6:a.getD 6 ai=ag ah i
variable{v1:aA}
def vN.put{pb i j:Nat}{a a':Act}{v:aA}(T:vN v1 pb i a.tmps)(q:Gv a j v a')(h:j≠1/\j≠5/\j≠6):vN v1 pb i a'.tmps:=
 ⟨q.sz.t T.sz,(q.ne 1 h.1).t T.a1,(q.ne 5 h.2.1).t T.a5,(q.ne 6 h.2.2).t T.a6⟩
def vN.tidy{pb i:Nat}{t:Array aA}(T:vN v1 pb i t):vN ai pb i (tidy o7 t):=
 ⟨yN.t T.sz,QI rfl (by rw[T.sz];decide),(ug rfl).t T.a5,(ug rfl).t T.a6⟩
def vN.lay{pb i:Nat}{f:Nat->aA}{x:Array aA}(T:vN ai pb i x)(h:f 1=v1):vN v1 pb i (au.jd (lay o7 f) x):=
 ⟨yN.t T.sz,(QI rfl (by rw[T.sz];decide)).t h,(ug rfl).t T.a5,(ug rfl).t T.a6⟩
variable{w W:ay}{B pb xb N i n cap:Nat}{s:dm}{ao:Option Addr}{a:Array aA}
variable{v1:aA}
def ayL(T:vN v1 pb i a)(hi:i<1000000):UZ.wp prog (fun e x w'=>e=.normal/\vN v1 pb (i+1) x.tmps/\w'=W) ⟨a,[]⟩ W:=by
 obtain⟨sz,a1,a5,a6⟩:=T;have hw:eF ah ((i:Int)+1)=(i:Int)+1:=wrap_i64 (by omega) (by omega);rw[zC a,sz,Zn];simp only[rQ,tC,a1,a5,a6];refine wK fun Q0 lh=>?_;simp only[UZ,d15,au.fH,Tryz.f15,ik,if_true,kJ,kG];go_wp2
 rw[<-lh.o];exact⟨rfl,⟨rfl,rfl,rfl,rfl⟩,rfl⟩
def ayM(T:vN v1 pb i a)(h7:a.getD 7 ai=aF true)(A:bJ w B pb xb N s)(hN:N<=80000000):UY.wp prog (fun e x w'=>e=.normal/\vN v1 pb i x.tmps/\∃s',cO w w' B pb xb s (N+6) s') ⟨a,[]⟩ w:=by
 obtain⟨sz,a1,a5,a6⟩:=T;have HL:aj (aW prog 21 #[az<|ae ⟨pb,0,af⟩] w<|lF w B pb xb s<|N+6):=axv A hN;rw[zC a,sz,Zn];simp only[rQ,tC,a1,a5,a6,h7];clear A hN sz a1 a5 a6 h7;refine wK fun Q0 lh=>?_;simp only[UY,d15,au.fH,Tryz.f15,ik,if_true,kJ,kG];go_wp2_with fail
 refine HL.o.z ?_;rintro e w1 ⟨rfl,s1,t1⟩;have T1:aj (cO w w1 B pb xb s (N+6) s1):=t1;clear t1;go_wp2_with fail
 rw[<-lh.o];exact⟨rfl,⟨rfl,rfl,rfl,rfl⟩,s1,T1.o⟩
def ayN(sz:a.size=34)(a1:a.getD 1 ai=v1)(a5:a.getD 5 ai=az (ae ⟨pb,0,af⟩)):NH.wp prog (fun e x w'=>e=.normal/\(x.tmps.size=34/\x.tmps.getD 1 ai=v1/\x.tmps.getD 5 ai=az (ae ⟨pb,0,af⟩))/\w'=W) ⟨a,[]⟩ W:=by
 rw[zC a,sz,Zn];simp only[rQ,tC,a1,a5];refine wK fun Q0 lh=>?_;simp only[NH,d15,au.fH,Tryz.f15,ik,if_true,kJ,kG];go_wp2
 rw[<-lh.o];exact⟨rfl,⟨rfl,rfl,rfl⟩,rfl⟩
def ayO(T:vN v1 pb i a):NJ.wp prog (fun e x w'=>e=.ret/\x.tmps.getD 4 ai=az (ae ⟨pb,0,af⟩)/\w'=W) ⟨a,[]⟩ W:=by
 obtain⟨sz,a1,a5,a6⟩:=T;rw[zC a,sz,Zn];simp only[rQ,tC,a1,a5,a6];refine wK fun Q0 lh=>?_;simp only[NJ,d15,au.fH,Tryz.f15,ik,if_true];go_wp2
 rw[<-lh.o];exact⟨rfl,rfl,rfl⟩
def ayP{p q t k:Int}:UX.wp prog (fun e x w'=>e=.normal/\(x.tmps.size=34/\x.tmps.getD 1 ai=v1/\x.tmps.getD 2 ai=az (ae ⟨W.heap.size,0,af⟩))/\w'.heap[W.heap.size]? =ae (aG #[ag ah p,ag ah q,ag ah t,ag ah k] 23 (0,0))/\w'.heap.size=W.heap.size+1/\Fr aS W w') ⟨#[jI p q t k,v1]++gz (Tryz.f15.ntmps- #[jI p q t k,v1].size) ai,[]⟩ W:=by
 unfold jI;simp only[ntmps15,Fv,oH,wu,Nat.reduceAdd,Nat.reduceSub,RD,Rz,RH,RF,wY,nY];refine wK fun Q0 lh=>?_;simp only[UX,d15,au.fH,Tryz.f15,ik,kJ,kG];go_wp2
 rw[<-lh.o];exact⟨rfl,⟨rfl,rfl,rfl⟩,aFb _ _,by simp,bQ _⟩
end
section
open Go.RowKit Go.Maps Go.Conc
open _root_.Go.Proofs.YtkelpcjiediamaaGreat.Twin _root_.Go.Proofs.YtkelpcjiediamaaGreat.fU
structure Pd(fo s0:Nat->Prop)(B pb xb:Nat)(w0:ay)(v1:aA)(i n:Nat)(a:Act)(w:ay)(s:dm):Prop where
 T:vN v1 pb i a.tmps
 df:a.defers=[]
 ok:qF o7 ((au.bP fo s0).cut w.heap.size) a.tmps
 at_:bJ w B pb xb n s
 fM:n<=1000+312*i
 hp:¬(s0 pb\/fo pb)
 hB:∀k,s0 k->B<=k
 fr:Fr (fun k=>B<=k) w0 w
def Fr.KI{S:Nat->Prop}{w0 w w':ay}(f:Fr S w0 w)(on:au.On w w')(e:w'.heap=w.heap):Fr S w0 w':=
 ⟨on.os.t f.os,on.tape.t f.tape,on.output.t f.output,by rw[e];exact f.size,fun b hb h=>by rw[e];exact f.block b hb h⟩
def Fr.wP{S:Nat->Prop}{w0 w:ay}{d:Nat}(f:Fr S w0 w):Fr S w0 (w.at d):=⟨f.os,f.tape,f.output,f.size,f.block⟩
section
variable{fo:Nat->Prop}{B pb xb:Nat}{w0:ay}{ao:Option Addr}{cap:Nat}{l:List Az}{rest:List Item}{cs cs2:List bH}{Q:au.dE->bH->ay->Prop}
def alj{s:Nat->Prop}{a:Act}{w:ay}{i n:Nat}(T:vN (.slice ao n cap) pb i a.tmps)(ok:qF o7 ((au.bP fo s).cut w.heap.size) a.tmps)(hd:a.defers=[])
 (hn:∀a' d,vN (.slice ao n cap) pb i a'.tmps->a'.tmps.getD 16 ai=aF (decide<|i<n)->qF o7 ((au.bP fo s).cut w.heap.size) a'.tmps->a'.defers=[]->au.Reach (au.bP fo s) prog ((base 15).at a' rest) cs (w.at d) Q cs2):
 au.Reach (au.bP fo s) prog ((base 15).at a<|.code Zd::rest) cs w Q cs2:=by
 rw[ayI];refine uH fun d1=>?_;rw[ayJ];refine Aw Ze.1 Ze.2.1 Ze.2.2.1 (by decide) (.inl Ze.2.2.2) T.a6 fun a2 e2 p2=>?_;have T2:=T.put p2 (by decide);refine Aw Zf.1 Zf.2.1 Zf.2.2.1 (by decide) (.inl Zf.2.2.2) T2.a1 fun a3 e3 p3=>?_;have T3:=T2.put p3 (by decide);have h14:a3.eval (.tmp 14)=.slice ao n cap:=p3.at_ (by rw[T2.sz];decide);refine BR (v:=ag ah n) U1.1 U1.2.1 U1.2.2.1 (by decide) (fun d=>(alh h14 U1.2.2.2).1) (fun d e he=>by rw[(alh h14 U1.2.2.2).2]at he;simp at he) fun a4 e4 p4=>?_;have T4:=T3.put p4 (by decide);have h13:a4.eval (.tmp 13)=ag ah i:=(p4.ne 13<|by decide).t ((p3.ne 13<|by decide).t<|p2.at_ (by rw[T.sz];decide));have OH:a4.eval (.tmp 15)=ag ah n:=p4.at_ (by rw[T3.sz];decide);refine BR (v:=.bool<|decide<|i<n) U9.1 U9.2.1 U9.2.2.1 (by decide) (fun d=>(ali h13 OH U9.2.2.2).1) (fun d e he=>by rw[(ali h13 OH U9.2.2.2).2]at he;simp at he) fun a5 e5 p5=>?_;refine uI fun d2=>?_;rw[fF,fF,fF,fF,fF];exact hn a5 d2 (T4.put p5<|by decide) (p5.at_ (by rw[T4.sz];decide)) ((((ok.put p2<|.inr .int).put p3<|.inl rfl).put p4<|.inr .int).put p5<|.inr .bool)<|p5.df.t<|p4.df.t<|p3.df.t<|p2.df.t hd
def ayQ(hl:QK w0 ao l)(hlen:l.length<=200000)(AX:w0.heap.size<=B)(uj:∀s1 n a w s,Pd fo s1 B pb xb w0 (.slice ao l.length cap) l.length n a w s->au.Reach (au.bP fo s1) prog ((base 15).at a<|.code NJ::rest) cs w Q cs2):
 ∀(m i n:Nat) (s0:Nat->Prop) (a:Act) (w:ay) (s:dm),i+m=l.length->Pd fo s0 B pb xb w0 (.slice ao l.length cap) i n a w s->au.Reach (au.bP fo s0) prog ((base 15).at a<|.code U0:: .inLoop U0:: .inBlock 0:: .code NJ::rest) cs w Q cs2:=by
 intro m;induction m with
 |zero=>
  intro i n s0 a w s hi R;obtain rfl:i=l.length:=by omega
  unfold U0;refine jM fun d1=>?_;refine jM fun d2=>?_;rw[fF];refine alj (w:=w.at d2) R.T R.ok R.df fun a2 d3 T2 WB uZ Ou=>?_;rw[qZ<|OQ _]at WB;refine jr (fun _=>aFp (t:=false) WB) fun d4=>?_;rw[if_neg<|by decide];refine jr (fun _=>aGu rfl) fun d5=>?_;rw[fF,fF,fF];exact uj s0 n a2 _ s ⟨T2,Ou,uZ,R.at_.same rfl,R.fM,R.hp,R.hB,R.fr.wP⟩
 |succ m ih=>
  intro i n s0 a w s hi R;have l9:i<l.length:=by omega
  obtain⟨y,hy⟩:∃y,l[i]? =ae y:=⟨_,eY l9⟩;obtain⟨⟨sb,so,rfl,hsb,fC⟩,ip,iq,im⟩:=hl i y hy;have hn:n<=70000000:=by have:=R.fM;omega
  unfold U0;refine jM fun d1=>?_;refine jM fun d2=>?_;rw[fF];refine alj (w:=w.at d2) R.T R.ok R.df fun a2 d3 T2 WB uZ Ou=>?_;rw[jY l9]at WB;refine jr (fun _=>aFp (t:=true) WB) fun d4=>?_;rw[if_pos rfl];refine jr (fun _=>aFr) fun d5=>?_;refine jM fun d6=>?_;refine jr (fun _=>aFs) fun d7=>?_;refine jM fun d8=>?_;refine uH fun d9=>?_;rw[ayK,fF,fF,fF,fF,fF,fF,fF];replace uZ:qF o7 ((au.bP fo s0).cut w.heap.size) a2.tmps:=uZ;obtain⟨c0,c1,c2,c3,c4,c5⟩:=Az.bg fC R.fr AX hsb;have zG:¬s0 sb:=fun z=>by have:=R.hB sb z;omega
  have Oc:sb<w.heap.size:=gu hsb R.fr.size;have v5:au.aI ((au.bP fo s0).cut w.heap.size) (az<|ae ⟨pb,0,af⟩):=zA R.hp<|bn R.at_.pa.blk;refine Aw Zi.1 Zi.2.1 Zi.2.2.1 (by decide) (.inl Zi.2.2.2) T2.a5 fun a3 e3 p3=>?_;have zF:=uZ.put p3<|.inr v5;have T3:=T2.put p3 (by decide);refine Aw Zj.1 Zj.2.1 Zj.2.2.1 (by decide) (.inl Zj.2.2.2) T3.a1 fun a4 e4 p4=>?_;have ES:=zF.put p4<|.inl rfl;have T4:=T3.put p4 (by decide);refine Aw Zk.1 Zk.2.1 Zk.2.2.1 (by decide) (.inl Zk.2.2.2) T4.a6 fun a5 e5 p5=>?_;have BP:=ES.put p5<|.inr .int;have T5:=T4.put p5 (by decide);have DT:a5.eval (.tmp 20)=aN (ae ⟨sb,so,af⟩) l.length cap:=(p5.ne 20<|by decide).t (p4.at_ (by rw[T3.sz];decide));have h21:a5.eval (.tmp 21)=ag ah i:=p5.at_ (by rw[T4.sz];decide);refine BR (v:=az<|ae ⟨sb,so+i*6,af⟩) Vb.1 Vb.2.1 Vb.2.2.1 (by decide) (fun d=>ayD DT h21 l9 Vb.2.2.2) (fun d e he=>by rw[ayG DT h21 l9 Vb.2.2.2]at he;simp at he) fun a6 e6 p6=>?_;have BQ:=BP.put p6<|.inl rfl;have T6:=T5.put p6 (by decide);have h22:a6.eval (.tmp 22)=az (ae ⟨sb,so+i*6,af⟩):=p6.at_ (by rw[T5.sz];decide);rw[fF,fF,fF,fF];refine BR (v:=wM y.k y.p y.q y.m y.s y.c) Vd.1 Vd.2.1 Vd.2.2.1 (by decide) (fun d=>ayE (x:=.tmp 22) h22 c0 c1 c2 c3 c4 c5 Vd.2.2.2) (fun d e he=>by
   obtain⟨n,rfl⟩:=ayF (x:=.tmp 22) (W:=(w.at e6).at d) h22 c0 c1 c2 c3 c4 c5 Vd.2.2.2 e he;exact Zc Oc zG) fun a7 e7 p7=>?_
  have I7:=BQ.put p7<|.inr<|aed _ _ _ _ _ _;have T7:=T6.put p7 (by decide);rw[fF];refine I4 (f:=48) (post:=fun B' v w'=>v=aF true/\uM fo s0 w w' B pb xb s (n+306) B') Zl.1 Zl.2.1 Zl.2.2.1 (by decide) Zl.2.2.2 func48 rfl rfl (vs:=#[az<|ae ⟨pb,0,af⟩,wM y.k y.p y.q y.m y.s y.c]) ?_ (fun d=>(ayv (w:=w.at d) (R.at_.same rfl) hn R.hp R.hB y.k y.p y.q y.m ip iq im y.c).z fun B' v w' hg=>⟨hg.1,hg.2.at⟩) ?_
  ·have e1:a7.eval (.tmp 19)=az (ae ⟨pb,0,af⟩):=(p7.ne 19<|by decide).t ((p6.ne 19<|by decide).t<|(p5.ne 19<|by decide).t<|(p4.ne 19<|by decide).t<|p3.at_ (by rw[T2.sz];decide));have e2:a7.eval (.tmp 23)=wM y.k y.p y.q y.m y.s y.c:=p7.at_ (by rw[T6.sz];decide);simp[e1,e2]
  rintro B' v w3 a8 p8 ⟨rfl,hw⟩;obtain⟨s1,s',rfl,g,uT,Le,dX⟩:=hw.go R.at_ R.hp R.hB;have I8:=I7.put p8<|.inr .bool;have T8:=T7.put p8 (by decide);have sz3:w.heap.size<=w3.heap.size:=dX.dX.size;refine Aw Zm.1 Zm.2.1 Zm.2.2.1 (by decide) (.inr Zm.2.2.2) (p8.at_ (by rw[T7.sz];decide)) fun a9 e9 p9=>?_;have ok9:=(I8.put p9<|.inr .bool).z fun v hv=>KE g sz3 hv;have T9:=T8.put p9 (by decide);have h7:a9.tmps.getD 7 ai=aF true:=p9.at_ (by rw[T8.sz];decide);have df9:a9.defers=[]:=p9.df.t<|p8.df.t<|p7.df.t<|p6.df.t<|p5.df.t<|p4.df.t<|p3.df.t Ou;refine uI fun d9=>?_;rw[fF];refine Gz (D:=o7) (w:=w3.at d9) (K:=fun x w'=>vN ai pb i x/\∃s2,bJ w' B pb xb (n+306+6) s2/\∀b,b<w3.heap.size->¬B<=b->w'.heap[b]? =w3.heap[b]?) (fun _ _ _ _ h=>h.imp id fun⟨s2,h1,h2⟩=>⟨s2,h1.same rfl,h2⟩) func15 NK.2.2.2.1 Va.2.2.2.1 ok9 df9 (fun t d=>aFB (ayM T9.tidy ((ug rfl).t h7) (dX.at_.re t d)<|by omega) fun e x w' hq=>⟨hq.1,hq.2.1,by
   obtain⟨s2,t2⟩:=hq.2.2;exact⟨s2,t2.at_,fun b hb h=>(t2.dX<|dX.at_.same (w1:=au.re (w3.at d9) t d) rfl).block b hb h⟩⟩) fun x10 w4 xK hK Zo=>?_
  obtain⟨WC,s2,at4,bl4⟩:=hK;replace WC:=WC.lay (f:=fun j=>a9.tmps.getD j ai) T9.a1;have fr4:Fr (fun k=>B<=k) w0 w4:=R.fr.t (dX.dX.t ⟨xK.os,xK.tape,xK.output,xK.size,fun b hb h=>bl4 b hb h⟩ fun _=>.inl) fun _=>.inl;refine jr (fun _=>aFL) fun d10=>?_;generalize au.jd (lay o7 fun j=>a9.tmps.getD j ai) x10=y10 at WC Zo⊢
  refine Gz (D:=o7) (w:=w4.at d10) (K:=fun x w'=>vN ai pb (i+1) x/\w'.heap=w4.heap) (fun _ _ _ _ h=>h) func15 NK.2.2.2.2 Va.2.2.2.2 Zo rfl (fun t d=>aFB (ayL WC.tidy<|by omega) fun e x w' hq=>⟨hq.1,hq.2.1,by rw[hq.2.2];rfl⟩) fun x11 w5 Nl hK aeq=>?_;refine jr (fun _=>aFV) fun d11=>?_;exact ih (i+1) (n+306+6) s1 _ _ s2 (by omega) ⟨hK.1.lay WC.a1,rfl,aeq,at4.same hK.2,by have:=R.fM;omega,uT,Le,((fr4.wP (d:=d10)).KI Nl hK.2).wP⟩
end
def UW.at{fo:Nat->Prop}{w w':ay}{d:Nat}{B':au.dE}{v:aA}(h:UW fo (w.at d) B' v w'):UW fo w B' v w':=by
 obtain⟨s1,pb,xb,n,s,h1,h2,h3,h4,h5,h6,h7⟩:=h.ex;exact⟨s1,pb,xb,n,s,h1,h2,h3,h4,h5,h6,h7.os,h7.tape,h7.output,h7.size,h7.block⟩
structure alm(fo:Nat->Prop)(w:ay)(len:Nat)(B':au.dE)(v:aA)(w':ay):Prop where
 ex:∃(s1:Nat->Prop) (B pb xb n:Nat) (s:dm),B'=au.bP fo s1/\v=az (ae ⟨pb,0,af⟩)/\bJ w' B pb xb n s/\n<=1000+312*len/\¬(s1 pb\/fo pb)/\(∀k,s1 k->B<=k)/\w.heap.size<=B/\Fr (fun k=>B<=k) w w'
variable{Bn:au.dE}{v:aA}{n:Nat}
def Ve(p q t k:Int):au.aI Bn (jI p q t k):=.agg fun x hx=>by
 simp only[uo,jZ,qh,qi]at hx;rcases hx with rfl|rfl|rfl|rfl<;>exact .int
def aln{x:aA}:(#[x,v]++gz n undef:Array aA).getD 1 ai=v:=by
 rw[D7,Ry];rfl
def alo{D:List Nat}(h1:D.contains 1=true){p q t k:Int}:qF D Bn (#[jI p q t k,v]++gz n ai):=fun j hj u hu=>by
 rw[Ry]at hu;split at hu
 ·match j with
  |0=>cases hu;exact Ve _ _ _ _
  |1=>rw[h1]at hj;cases hj
  |j+2=>simp at hu
 ·rw[Array.getElem?_replicate]at hu;split at hu
  ·cases hu;exact au.rZ
  ·cases hu
def ayU{fo:Nat->Prop}{w:ay}{p q t k:Nat}{ao:Option Addr}{cap:Nat}{l:List Az}(hg:Good p q t k)(hl:QK w ao l)(hlen:l.length<=200000):
 au.sG (au.bP fo fun _=>False) prog 15 #[jI p q t k,.slice ao l.length cap] w (alm fo w l.length):=by
 intro c cs;rw[aF3 (c:=d15) _ func15 rfl,ayH];refine jM fun d1=>?_;obtain⟨A,hA,DZ,G8,hA3⟩:∃A:Array aA,#[jI p q t k,.slice ao l.length cap]++gz (Tryz.f15.ntmps- #[jI p q t k,.slice ao l.length cap].size) ai=A/\A.getD 1 ai=.slice ao l.length cap/\tidy o7 A=#[jI p q t k,ai]++gz (Tryz.f15.ntmps- #[jI p q t k,ai].size) ai/\∀B,qF o7 B A:=⟨_,rfl,aln,ayB ⟨rfl,rfl⟩,fun _=>alo rfl⟩;rw[hA];refine Gz (D:=o7) (w:=w.at d1) (K:=fun x w'=>(x.size=34/\x.getD 1 ai=ai/\x.getD 2 ai=az (ae ⟨w.heap.size,0,af⟩))/\w'.heap[w.heap.size]? =ae (aG #[ag ah p,ag ah q,ag ah t,ag ah k] 23 (0,0))/\w'.heap.size=w.heap.size+1/\∀b,b<w.heap.size->w'.heap[b]? =w.heap[b]?) (fun _ _ _ _ h=>h) func15 NK.1 Va.1 (hA3 _) rfl (fun ta d=>by rw[G8];exact aFB (ayP (W:=au.re (w.at d1) ta d)) fun e x w' hq=>⟨hq.1,hq.2.1,hq.2.2.1,hq.2.2.2.1,fun b hb=>hq.2.2.2.2.block b hb id⟩) ?_;rintro x2 w1 lU ⟨⟨sz,g1,g2⟩,hb,fP,E5⟩ uZ;replace g1:=(QI (D:=o7) (f:=fun j=>A.getD j ai) (i:=1) rfl (by rw[sz];decide)).t DZ;replace sz:=(yN (ov:=lay o7 fun j=>A.getD j ai)).t sz;replace g2:=(ug (D:=o7) (f:=fun j=>A.getD j ai) rfl).t g2;generalize au.jd (lay o7 fun j=>A.getD j ai) x2=a2 at sz g1 g2 uZ⊢
 have f1:Fr aS w w1:=⟨lU.os,lU.tape,lU.output,lU.size,fun b hb _=>E5 b hb⟩;have Zp:∀k,(fun _:Nat=>False) k->False\/w1.heap.size<=k:=fun _=>.inl;have lH:QK w1 ao l:=fun i x hx=>by
  obtain⟨⟨sb,so,e,h1,h2⟩,h3⟩:=hl i x hx;exact⟨⟨sb,so,e,by omega,Az.bg (B:=w.heap.size) h2 (f1.z dw) (dI _) h1⟩,h3⟩
 refine jM fun d2=>?_;refine uH fun d3=>?_;rw[QL.2.2.2.2,fF];refine BR (v:=jI p q t k) QL.1 QL.2.1 QL.2.2.1 (by decide) (fun d=>alf (x:=.tmp 2) g2 hb QL.2.2.2.1) (fun d e he=>by
  obtain⟨n,rfl⟩:=alg (a:=⟨a2,[]⟩) (W:=(w1.at d3).at d) (x:=.tmp 2) g2 hb QL.2.2.2.1 e he;exact Zc (bn hb) id) fun a3 e3 p3=>?_
 have zF:=uZ.put p3<|.inr<|Ve _ _ _ _;have z3:a3.tmps.size=34:=p3.sz.t sz;rw[fF];refine I4 (f:=47) (post:=UW fo w1) Zg.1 Zg.2.1 Zg.2.2.1 (by decide) Zg.2.2.2 func47 rfl rfl (vs:=#[jI p q t k]) ?_ (fun d=>(ayA (w:=w1.at d) hg).z fun B' v w' hg=>hg.at) ?_
 ·have e1:a3.eval (.tmp 9)=jI p q t k:=p3.at_ (by show 9<a2.size;rw[sz];decide);simp[e1]
 rintro B' v w2 a4 p4 iT;obtain⟨s1,pb,xb,n,s,rfl,rfl,at2,hn,hp,hB,lS⟩:=iT.ex;have g:∀k,s1 k->False\/w1.heap.size<=k:=fun k hk=>.inr (by have:=hB k hk;omega);have Gx:w1.heap.size<=w2.heap.size:=lS.size;have I9:au.aI ((au.bP fo s1).cut w2.heap.size) (az<|ae ⟨pb,0,af⟩):=zA hp<|bn at2.pa.blk;have ES:=(zF.z fun v hv=>KE g Gx hv).put p4<|.inr I9;have z4:a4.tmps.size=34:=p4.sz.t z3;have id2:∀k,s1 k->s1 k\/w2.heap.size<=k:=fun _=>.inl;refine Aw Zh.1 Zh.2.1 Zh.2.2.1 (by decide) (.inr Zh.2.2.2) (p4.at_ (by rw[z3];decide)) fun a5 e5 p5=>?_;have BP:=ES.put p5<|.inr I9;have z5:a5.tmps.size=34:=p5.sz.t z4;have g15:a5.tmps.getD 1 ai=.slice ao l.length cap:=(p5.ne 1<|by decide).t ((p4.ne 1<|by decide).t<|(p3.ne 1<|by decide).t g1);have g55:a5.tmps.getD 5 ai=az (ae ⟨pb,0,af⟩):=p5.at_ (by rw[z4];decide);have df5:a5.defers=[]:=p5.df.t<|p4.df.t p3.df;refine uI fun d4=>?_;refine jM fun d5=>?_;rw[fF,fF];refine Gz (D:=o7) (w:=w2.at d5) (K:=fun x w'=>(x.size=34/\x.getD 1 ai=ai/\x.getD 5 ai=az (ae ⟨pb,0,af⟩))/\w'.heap=w2.heap) (fun _ _ _ _ h=>h) func15 NK.2.1 Va.2.1 BP df5 (fun t d=>aFB (ayN (yN.t z5) (QI rfl (by rw[z5];decide))<|(ug rfl).t g55) fun e x w' hq=>⟨hq.1,hq.2.1,by rw[hq.2.2];rfl⟩) fun x6 w3 NC hK BQ=>?_;obtain⟨⟨z6,g16,Zq⟩,hh3⟩:=hK;replace g16:=(QI (D:=o7) (f:=fun j=>a5.tmps.getD j ai) (i:=1) rfl (by rw[z6];decide)).t g15;replace Zq:=(ug (D:=o7) (f:=fun j=>a5.tmps.getD j ai) rfl).t Zq;replace z6:=(yN (ov:=lay o7 fun j=>a5.tmps.getD j ai)).t z6;generalize au.jd (lay o7 fun j=>a5.tmps.getD j ai) x6=a6 at z6 g16 Zq BQ⊢
 refine jM fun d6=>?_;refine jM fun d7=>?_;refine uH fun d8=>?_;rw[QM.2.2.2.2,fF,fF];refine BR (v:=ag ah 0) QM.1 QM.2.1 QM.2.2.1 (by decide) (fun d=>Zb QM.2.2.2.1) (fun d e he=>by rw[aen QM.2.2.2.1]at he;simp at he) fun a7 e7 p7=>?_;refine uI fun d9=>?_;refine jr (fun _=>aFs) fun d10=>?_;refine jr (fun _=>aFX) fun d11=>?_;rw[fF,fF,fF,fF];have Zr:Fr (fun k=>w1.heap.size+1<=k) w1 w3:=(lS.wP (d:=d5)).KI NC hh3;refine ayQ (B:=w1.heap.size+1) (pb:=pb) (xb:=xb) (w0:=w1) lH hlen (by omega) ?_ l.length 0 n s1 a7 _ s (by omega) ⟨⟨p7.sz.t z6,(p7.ne 1<|by decide).t g16,(p7.ne 5<|by decide).t Zq,p7.at_ (by rw[z6];decide)⟩,p7.df,BQ.put p7<|.inr .int,at2.same hh3,by omega,hp,hB,Zr.wP⟩;intro s2 n2 a8 w4 s4 R;refine ale (D:=o7) (w:=w4) (K:=fun x w'=>x.getD 4 ai=az (ae ⟨pb,0,af⟩)/\w'.heap=w4.heap) (fun _ _ _ _ h=>h) func15 NK.2.2.1 Va.2.2.1 R.ok R.df (fun t d=>aFB (ayO R.T.tidy) fun e a' w' hq=>⟨hq.1,hq.2.1,by rw[hq.2.2];rfl⟩) ?_;rintro x9 w5 todo Nl ⟨uV,e5⟩ avJ;refine jr (fun w=>aGB (v:=az<|ae ⟨pb,0,af⟩) rfl rfl func15 (by rw[<-uV,<-ug (D:=o7) (i:=4) rfl];exact aFY rfl _ _ _)<|by kernel_rfl) fun d9=>?_;exact au.Reach.here fun _=>⟨_,rfl,⟨s2,w1.heap.size+1,pb,xb,n2,s4,rfl,rfl,R.at_.same e5,R.fM,R.hp,R.hB,by omega,(((f1.z dw).t R.fr fun _=>.inl).KI Nl e5).wP⟩⟩
end
section
open Go.RowKit Go.Maps Go.Conc
open _root_.Go.Proofs.YtkelpcjiediamaaGreat.Twin _root_.Go.Proofs.YtkelpcjiediamaaGreat.fU
def d9:Code:=Tryz.f9.body.getD .skip
abbrev wQ(q:Array Oper)(i d:Nat)(op:Op):Prop:=q[i]? =ae (opAt q i)/\(opAt q i).guard=af/\(opAt q i).dst=ae d/\(opAt q i).op=op
section
variable{a:Act}{o:Oper}{W:ay}{x:Operand}{b:Nat}
def alp(h:a.eval x=az (ae ⟨b,0,af⟩))(aP:o.op=.nilCheck x):(dY a.eval o).run prog W=.ok (.value<|az<|ae ⟨b,0,af⟩) W/\(dY a.eval o).events prog W #[]=#[]:=by
 unfold dY;rw[aP];simp only[h];constructor<;>simp[go_sem]
def alq(h:a.eval x=az (ae ⟨b,0,af⟩))(aP:o.op=.fieldAddr 48 x 0):(dY a.eval o).run prog W=.ok (.value<|az<|ae ⟨b,0,af⟩) W/\(dY a.eval o).events prog W #[]=#[]:=by
 unfold dY;rw[aP];simp only[h];constructor<;>simp[go_sem]
def alr{c:Nat}(h:a.eval x=az (ae ⟨b,0,af⟩))(hc:aB W ⟨b,0,af⟩=ae (az<|ae ⟨c,0,af⟩))(aP:o.op=.load 33 x):(dY a.eval o).run prog W=.ok (.value<|az<|ae ⟨c,0,af⟩) W/\∀e∈(dY a.eval o).events prog W #[],e=⟨.cell ⟨b,0,af⟩,false,false⟩:=by
 unfold dY;rw[aP];simp only[h];constructor<;>simp[go_sem,hc]
end
section
variable{i:Nat}
end
section
variable{W:ay}{N i:Nat}{s:dm}{a:Array aA}
end
def Sn.lv{N:Nat}{h:HS}{L:List Rc}(c:Sn N h L)(hu:h.up=true){M:Nat}(hM:h.T+2*h.K+8=M){i:Nat}{x:PS}(hx:h.ps[i]? =ae x):Lv h.T h.fl i x M:=by
 have r:=c.up hu i x hx;have f:=c.valid.rW i;have s0:=f.s0;have s1:=f.s1;rw[<-r.k.s]at s0 s1;have hK:=c.K1;have hT:=c.T1;by_cases h0:x.s=0
 ·exact .idle h0
 by_cases h1:x.s=1
 ·exact .going h1 (by have:=r.c.si.1;omega)
 ·exact .due (by omega) (by have:=(r.c.due<|by omega).1;omega)
variable{M:Nat}
end
section
open Go.RowKit Go.Maps Go.Conc
open _root_.Go.Proofs.YtkelpcjiediamaaGreat.Twin _root_.Go.Proofs.YtkelpcjiediamaaGreat.fU
structure Lo where
 f:ji
 fn:Func
 D:List Nat
 c6:Code
 c7:Code
 z:Array Oper
 tp:Nat
 t0:Nat
 t1:Nat
 t2:Nat
 t3:Nat
 t4:Nat
 ct:Nat
 n:Nat
 BO:Nat
 Zp:Nat
 rid:Nat
def Lo.b(l:Lo):Code:=.seq (.seq l.c6<|.cond (.tmp l.ct) .skip<|.exit l.BO)<|.seq (.block l.Zp<|.region l.rid l.z false) l.c7
structure Lo.Ok(l:Lo)(pb:Nat)(K:Nat->Array aA->Prop):Prop where
 hf:prog.funcs[l.f]? =ae l.fn
 hr:List.range l.z.size=[0,1,2,3,4]
 o0:wQ l.z 0 l.t0 (.move<|.tmp l.tp)
 o1:wQ l.z 1 l.t1 (.nilCheck<|.tmp l.t0)
 o2:wQ l.z 2 l.t2 (.fieldAddr 48 (.tmp l.t1) 0)
 o3:wQ l.z 3 l.t3 (.load 33<|.tmp l.t2)
 o4:wQ l.z 4 l.t4 (.call {callee:=.value<|.func 20,args:=#[.tmp l.t3],argTypes:=#[33]})
 k6:au.codeOk prog au.kN l.c6=true
 k7:au.codeOk prog au.kN l.c7=true
 m6:au.oU l.D l.c6=true
 m7:au.oU l.D l.c7=true
 dt:l.D.contains l.ct=false
 lt:l.t0<l.n/\l.t1<l.n/\l.t2<l.n/\l.t3<l.n
 sz:∀i a,K i a->a.size=l.n
 at_:∀i a,K i a->a.getD l.tp ai=az (ae ⟨pb,0,af⟩)
 put:∀i (a a':Act) j v,K i a.tmps->Gv a j v a'->j=l.t0\/j=l.t1\/j=l.t2\/j=l.t3\/j=l.t4->K i a'.tmps
 lay:∀i x f,K i x->K i (au.jd (lay l.D f) x)
structure Rl(l:Lo)(K:Nat->Array aA->Prop)(fo s0:Nat->Prop)(B pb xb:Nat)(w0:ay)(X:(Nat->Prop)->ay->dm->Prop)(n0 M i n:Nat)(a:Act)(w:ay)(s:dm):Prop where
 T:K i a.tmps
 df:a.defers=[]
 ok:qF l.D ((au.bP fo s0).cut w.heap.size) a.tmps
 at_:bJ w B pb xb n s
 fM:n<=n0+306*i
 X:X s0 w s
 up:s.h.up=true
 ins:∀(q:Nat) (p:PL),s.h.pl[q]? =ae p->p.out=false
 lv:∀(i1:Nat) (x:PS),(i1:Int)<s.h.P->s.h.ps[i1]? =ae x->Lv s.h.T s.h.fl i1 x (M-1-i)
 hp:¬(s0 pb\/fo pb)
 hB:∀k,s0 k->B<=k
 fr:Fr (fun k=>B<=k) w0 w
def Vf{f:ji}:(base f).kind≠.early:=by
 show CallKind.normal≠.early;decide
variable{fo:Nat->Prop}{B pb xb:Nat}{w0:ay}{X:(Nat->Prop)->ay->dm->Prop}{n0 V M:Nat}{rest:List Item}{cs cs2:List bH}{Q:au.dE->bH->ay->Prop}
def als(l:Lo){K:Nat->Array aA->Prop}(O:l.Ok pb K)(hS:∀s0 w w' s,X s0 w s->w'.heap=w.heap->X s0 w' s)
 (hX:∀(s0:Nat->Prop) (Wg:Nat) (w w2:ay) (s s2:dm),X s0 w s->s2.g=s.g->(s2.h.P=s.h.P/\s2.h.Q=s.h.Q/\s2.h.T=s.h.T/\s2.h.K=s.h.K)->(∀p t b,fD s.L p t b->fD s2.L p t b)->w.heap.size<=Wg->(∀b,b<w.heap.size->¬s0 b->¬s.eG pb xb b->w2.heap[b]? =w.heap[b]?)->(∀k,s2.eG pb xb k->s.eG pb xb k\/w.heap.size<=k)->w.heap.size<=w2.heap.size->X (fun b=>s0 b\/b=Wg) w2 s2)
 (head:∀i a s0 w s n,K i a->bJ w B pb xb n s->X s0 w s->l.c6.wp prog (fun e x w'=>e=.normal/\(K i x.tmps/\x.tmps.getD l.ct ai=aF (decide<|i<M))/\w'.heap=w.heap) ⟨a,[]⟩ w)
 (next:∀i a W,K i a->i<M->l.c7.wp prog (fun e x w'=>e=.normal/\K (i+1) x.tmps/\w'=W) ⟨a,[]⟩ W)
 (oC:M<=100)(ZT:n0<=65000000){c:Code}(uj:∀s1 n a w s,Rl l K fo s1 B pb xb w0 X n0 V M n a w s->au.Reach (au.bP fo s1) prog ((base l.f).at a<|.code c::rest) cs w Q cs2):
 ∀(m i n:Nat) (s0:Nat->Prop) (a:Act) (w:ay) (s:dm),i+m=M->Rl l K fo s0 B pb xb w0 X n0 V i n a w s->au.Reach (au.bP fo s0) prog ((base l.f).at a<|.code l.b:: .inLoop l.b:: .inBlock l.BO:: .code c::rest) cs w Q cs2:=by
 intro m;induction m with
 |zero=>
  intro i n s0 a w s hi R;obtain rfl:i=M:=by omega
  unfold Lo.b;refine jM fun d1=>?_;refine jM fun d2=>?_;rw[fF];refine Gz (D:=l.D) (w:=w.at d2) (K:=fun x w'=>(K i x/\x.getD l.ct ai=aF (decide<|i<i))/\w'.heap=w.heap) (fun _ _ _ _ h=>h) O.hf O.k6 O.m6 R.ok R.df (fun t d=>head i _ s0 (au.re (w.at d2) t d) s n (O.lay i _ _ R.T) (R.at_.same rfl)<|hS _ _ _ _ R.X rfl) fun x w1 lU hK Ql=>?_;obtain⟨⟨T1,WE⟩,e1⟩:=hK;rw[qZ<|OQ _]at WE;refine jr (fun _=>aFp (t:=false)<|(ug (D:=l.D) O.dt).t WE) fun d4=>?_;rw[if_neg<|by decide];refine jr (fun _=>aGu (by simp[exitTo];rfl)) fun d5=>?_;rw[fF];exact uj s0 n _ _ s ⟨O.lay _ _ _ T1,rfl,Ql,R.at_.same e1,R.fM,hS _ _ _ _ R.X e1,R.up,R.ins,R.lv,R.hp,R.hB,((R.fr.wP (d:=d2)).KI lU e1).wP⟩
 |succ m ih=>
  intro i n s0 a w s hi R;refine au.Reach.ok fun bT=>?_;have hx:¬(s0 xb\/fo xb):=R.at_.free bT R.hp xb<|.inl<|.inl rfl;have hn:n<=70000000:=by have:=R.fM;omega
  unfold Lo.b;refine jM fun d1=>?_;refine jM fun d2=>?_;rw[fF];refine Gz (D:=l.D) (w:=w.at d2) (K:=fun x w'=>(K i x/\x.getD l.ct ai=aF (decide<|i<M))/\w'.heap=w.heap) (fun _ _ _ _ h=>h) O.hf O.k6 O.m6 R.ok R.df (fun t d=>head i _ s0 (au.re (w.at d2) t d) s n (O.lay i _ _ R.T) (R.at_.same rfl)<|hS _ _ _ _ R.X rfl) fun x w1 lU hK Ql=>?_;obtain⟨⟨T1,WE⟩,e1⟩:=hK;rw[jY<|by omega]at WE;refine jr (fun _=>aFp (t:=true)<|(ug (D:=l.D) O.dt).t WE) fun d4=>?_;rw[if_pos rfl];refine jr (fun _=>aFr) fun d5=>?_;refine jM fun d6=>?_;refine jr (fun _=>aFs) fun d7=>?_;refine uH fun d8=>?_;rw[O.hr,fF,fF,fF,fF];have QE:bJ w1 B pb xb n s:=R.at_.same e1;have tX:Fr (fun k=>B<=k) w0 w1:=(R.fr.wP (d:=d2)).KI lU e1;obtain⟨c0,_⟩:=QE.cells;have hpw:=bn QE.pa.blk;have I9:au.aI ((au.bP fo s0).cut w1.heap.size) (az<|ae ⟨pb,0,af⟩):=zA R.hp hpw;have vxb:au.aI ((au.bP fo s0).cut w1.heap.size) (az<|ae ⟨xb,0,af⟩):=zA hx<|bn QE.ha.blk;have T2:=O.lay i x (fun j=>a.tmps.getD j ai) T1;generalize au.jd (lay l.D fun j=>a.tmps.getD j ai) x=a2 at T2 Ql⊢
  refine Aw O.o0.1 O.o0.2.1 O.o0.2.2.1 Vf (.inl O.o0.2.2.2) (O.at_ _ _ T2) fun a3 e3 p3=>?_;have zF:=Ql.put p3<|.inr I9;have T3:=O.put i ⟨a2,[]⟩ a3 _ _ T2 p3<|.inl rfl;have h50:a3.eval (.tmp l.t0)=az (ae ⟨pb,0,af⟩):=p3.at_ (by show l.t0<a2.size;rw[O.sz _ _ T2];exact O.lt.1);refine BR (v:=az<|ae ⟨pb,0,af⟩) O.o1.1 O.o1.2.1 O.o1.2.2.1 Vf (fun d=>(alp h50 O.o1.2.2.2).1) (fun d e he=>by rw[(alp h50 O.o1.2.2.2).2]at he;simp at he) fun a4 e4 p4=>?_;have ES:=zF.put p4<|.inr I9;have T4:=O.put i a3 a4 _ _ T3 p4<|.inr<|.inl rfl;have h51:a4.eval (.tmp l.t1)=az (ae ⟨pb,0,af⟩):=p4.at_ (by rw[O.sz _ _ T3];exact O.lt.2.1);refine BR (v:=az<|ae ⟨pb,0,af⟩) O.o2.1 O.o2.2.1 O.o2.2.2.1 Vf (fun d=>(alq h51 O.o2.2.2.2).1) (fun d e he=>by rw[(alq h51 O.o2.2.2.2).2]at he;simp at he) fun a5 e5 p5=>?_;have BP:=ES.put p5<|.inr I9;have T5:=O.put i a4 a5 _ _ T4 p5<|.inr<|.inr<|.inl rfl;have Gq:a5.eval (.tmp l.t2)=az (ae ⟨pb,0,af⟩):=p5.at_ (by rw[O.sz _ _ T4];exact O.lt.2.2.1);rw[fF,fF,fF];refine BR (v:=az<|ae ⟨xb,0,af⟩) O.o3.1 O.o3.2.1 O.o3.2.2.1 Vf (fun d=>(alr (W:=(w1.at e5).at d) Gq c0 O.o3.2.2.2).1) (fun d e he=>by
   rw[(alr (W:=(w1.at e5).at d) Gq c0 O.o3.2.2.2).2 e he];exact Zc hpw fun z=>R.hp<|.inl z) fun a6 e6 p6=>?_
  have BQ:=BP.put p6<|.inr vxb;have T6:=O.put i a5 a6 _ _ T5 p6<|.inr<|.inr<|.inr<|.inl rfl;rw[fF];refine I4 (f:=20) (post:=fun B' v w'=>∃(d:Nat) (Wg:Nat) (s2:dm),B'=au.bP fo (fun b=>s0 b\/b=Wg)/\w1.heap.size<=Wg/\v=ag ah s.h.fl.length/\wO (w1.at d) w' B pb xb s (n+306) s2/\s2.g=s.g/\s2.h.up=s.h.up/\Qp s.h s2.h/\(∀p t b,fD s.L p t b->fD s2.L p t b)/\(∀b,b<w1.heap.size->¬s0 b->¬s.eG pb xb b->w'.heap[b]? =w1.heap[b]?)/\∀k,s2.eG pb xb k->s.eG pb xb k\/w1.heap.size<=k) O.o4.1 O.o4.2.1 O.o4.2.2.1 Vf O.o4.2.2.2 func20 rfl rfl (vs:=#[az<|ae ⟨xb,0,af⟩]) ?_ (fun d=>(akW (w:=w1.at d) (N:=n) (s:=s) (QE.same rfl) hn R.hp R.hB).z fun B' v w' hg=>?_) ?_
  ·have e1:a6.eval (.tmp l.t3)=az (ae ⟨xb,0,af⟩):=p6.at_ (by rw[O.sz _ _ T5];exact O.lt.2.2.2);simp[e1]
  ·obtain⟨Wg,s2,q1,q2,q3,q4,q5⟩:=hg;exact⟨d,Wg,s2,q1,q2,q3,q4,q5⟩
  rintro B' v w2 a7 p7 ⟨dd,Wg,s2,rfl,dh,rfl,dX,eg,eu,rn,dc,G9,DU⟩;have g:∀k,(s0 k\/k=Wg)->s0 k\/w1.heap.size<=k:=fun k hk=>hk.imp id fun e=>by rw[e];exact dh
  have Gx:w1.heap.size<=w2.heap.size:=dX.dX.size;have I7:=(BQ.put p7<|.inr .int).z fun v hv=>KE g Gx hv;have T7:=O.put i a6 a7 _ _ T6 p7<|.inr<|.inr<|.inr<|.inr rfl;refine uI fun d13=>?_;refine jr (fun _=>aFL) fun d14=>?_;rw[fF];refine Gz (D:=l.D) (w:=w2.at d14) (K:=fun x w'=>K (i+1) x/\w'.heap=w2.heap) (fun _ _ _ _ h=>h) O.hf O.k7 O.m7 I7 (p7.df.t<|p6.df.t<|p5.df.t<|p4.df.t p3.df) (fun t d=>aFB (next i _ _ (O.lay _ _ _ T7) (by omega)) fun e x w' hq=>⟨hq.1,hq.2.1,by rw[hq.2.2];rfl⟩) fun x8 w3 NC hK I8=>?_;refine jr (fun _=>aFV) fun d20=>?_;have at3:bJ w3 B pb xb (n+306) s2:=dX.at_.same hK.2;have f:Fr (fun k=>B<=k) w1 w2:=⟨dX.dX.os,dX.dX.tape,dX.dX.output,dX.dX.size,dX.dX.block⟩;obtain⟨l1,l2⟩:=akh (m:=V-1-(i+1)) R.at_.pg.sn (by omega) R.up R.at_.ha.hQ.1 R.ins rn fun i1 x h1 h2=>(R.lv i1 x h1 h2).z (fun _ z=>z) (by omega);refine ih (i+1) (n+306) _ _ _ s2 (by omega) ⟨O.lay _ _ _ hK.1,rfl,I8,at3.same rfl,by have:=R.fM;omega,hS _ w2 _ _ (hX s0 Wg w1 w2 s s2 (hS _ _ _ _ R.X e1) eg dX.cf dc dh G9 DU Gx) hK.2,eu.t R.up,l2,fun i1 x h1 h2=>l1 i1 x (by rw[<-dX.cf.1];exact h1) h2,fun z=>z.e (fun z=>z.e (fun y=>R.hp<|.inl y) fun e=>?_) fun y=>R.hp<|.inr y,fun k hk=>hk.e (R.hB k) fun e=>?_,?_⟩
  ·omega
  ·have:=R.at_.base;have:w1.heap.size=w.heap.size:=by rw[e1]
   omega
  ·exact(((tX.t f fun _=>.inl).wP (d:=d14)).KI NC hK.2).wP
end
section
def ayZ:Code:=au.fH [false,false] EL
def alv:Code:=au.fH [false,true,false,false] EL
def z24:Array Oper:=opsOf<|au.fH [false,true,true,false] EL
def alx:Code:=au.fH [false,true,true,true] EL
def Vg:Code:=au.fH [true] EL
def ay0:au.codeOk prog au.kN Vg=true:=by kernel_rfl
def aer:List.range 120=[0,1,2,3,4,5,6,7,8,9,10,11,12,13,14,15,16,17,18,19,20,21,22,23,24,25,26,27,28,29,30,31,32,33,34,35,36,37,38,39,40,41,42,43,44,45,46,47,48,49,50,51,52,53,54,55,56,57,58,59,60,61,62,63,64,65,66,67,68,69,70,71,72,73,74,75,76,77,78,79,80,81,82,83,84,85,86,87,88,89,90,91,92,93,94,95,96,97,98,99,100,101,102,103,104,105,106,107,108,109,110,111,112,113,114,115,116,117,118,119]:=by kernel_rfl
def ay1{l:List iG}{k:Nat}{e:iG}(h:l[k]? =ae e):((l.take<|k+1).filter fun e=>decide<|e.k=1).length=((l.take k).filter fun e=>decide<|e.k=1).length+if e.k=1 then 1 else 0:=by
 rw[yu,h,tu,iW];simp only[CO,List.filter_cons,List.filter_nil];by_cases e1:e.k=1<;>simp[e1]
variable{w w':ay}{B pb xb N:Nat}{s0 s s':dm}{a:Array aA}
def aes(s0 s:dm):Prop:=∀(q:Nat) (p:PL) (l:List Rec),s.h.pl[q]? =ae p->s0.g.gt[q]? =ae l->(p.s.bF 0 p.s.dC).length=l.length+1\/200<=p.s.data.length
def ay2{b0:Nat}{hv:aA}(T:YV pb hv a)(A0:bJ w B pb xb N s)(hN:N<=80000000)(hgt:s.g.gt=s0.g.gt)(H0:yM w b0 pb xb s0 s s.h.Q.toNat hv)(F0:aes s0 s):Vg.wp prog (fun e x w'=>e=.ret/\x.tmps.getD 2 ai=aF true/\∃s',cO w w' B pb xb s (N+6) s') ⟨a,[]⟩ w:=by
 have A:aj (bJ w B pb xb N s):=A0;have fK:aj (N<=80000000):=hN;obtain⟨Q,hQ⟩:=qY (show 0<=s.h.Q by have:=A0.pg.sn.Q1;omega);have HQ:aj (s.h.Q=Q/\s0.g.gt.length=Q):=⟨hQ,by have h1:=A0.ha.hQ.1;have h2:=A0.pg.gl;rw[hgt]at h2;omega⟩;have Qo:Q<=4:=by have:=A0.pg.sn.Q1.2;omega
 rw[show s.h.Q.toNat=Q by omega]at H0;have HH:aj (yM w b0 pb xb s0 s Q hv):=H0;have HF:aj (aes s0 s):=F0;have HGT:aj (s.g.gt=s0.g.gt):=hgt;have HL:aj (aW prog 21 #[az<|ae ⟨pb,0,af⟩] w<|yK w B pb xb s (N+6)<|YW s):=YX A0 hN;obtain⟨sz,a0,a3,a7⟩:=T;rw[zC a,sz,aer];simp only[rQ,tC,a0,a3,a7];simp only[D7];clear sz a0 a3 a7 A0 hN hgt H0 F0 hQ;refine wK fun Q0 lh=>?_;simp only[Vg,EL,Kw,au.fH,d24,Tryz.f24,ik,if_true];go_wp2_with fail
 refine HL.o.z ?_;rintro e w1 ⟨rfl,s1,t1,Q',Rn,lk⟩;have T1:aj (cO w w1 B pb xb s (N+6) s1):=t1;have LK:aj (zx s Q' s1/\s.h.Q=Q'):=⟨lk,Rn⟩;have HH1:aj (yM w1 b0 pb xb s0 s1 Q hv):=HH.o.go t1;clear t1 lk Rn HL HH;go_wp2_with fail
 go_loopw [10] (fun iv w'=>∃i:Nat,i<=Q/\iv=ag ah i/\Fr aS w1 w') (fun iv _=>Q-(eU iv).toNat)
 case atStart=>exact⟨0,kH _,rfl,Fr.refl _ _⟩
 case round=>
  obtain⟨i,hi,rfl,dP⟩:=hrel
  have FR:aj (Fr aS w1 wr):=dP
  obtain⟨y0,-,y2,-⟩:=(T1.o.at_.a dP).cells
  rw[show s1.h.Q=Q from T1.o.cf.2.1.t HQ.o.1]at y2
  have Dx:=bn (T1.o.at_.a dP).pa.blk
  clear dP
  by_cases Lp:i<Q
  ·have EM:(i:Int)<(Q:Int):=by omega
   have sU:(0:Int)<=(i:Int):=by omega
   obtain⟨p,hp⟩:=T1.o.at_.q (q:=i) (by rw[show s1.h.Q=Q from T1.o.cf.2.1.t HQ.o.1];exact EM)
   have gY:s.h.pl[i]? =ae p:=by rw[<-LK.o.1.h];exact hp
   obtain⟨l,hl⟩:∃l,s0.g.gt[i]? =ae l:=⟨_,eY (by rw[HQ.o.2];exact Lp)⟩
   have HX:aj (s1.h.pl[i]? =ae p/\s.h.pl[i]? =ae p/\s0.g.gt[i]? =ae l):=⟨hp,gY,hl⟩
   clear hp gY hl
   go_wp2_with fail
   refine(aoF (T1.o.at_.a FR.o).ha HX.o.1 (by have:=(T1.o.at_.pg.sn.dZ i p HX.o.1).fM;have:=fK.o;omega)).z ?_
   rintro e w2 ⟨va,rfl,dG,jS⟩
   obtain⟨ea,ec,rfl,_⟩:=oP dG
   have ay4:aj (bD w2 wr.heap.size 55 4 (.slice ea p.s.es.length ec) p.s.es.length<|pG p.s.es):=dG
   have F2:aj (Fr aS w1 w2):=FR.o.t jS dw
   have hlen:(p.s.es.length:Int)<=80000000:=by have:=(A.o.pg.sn.dZ i p HX.o.2.1).fM;have:=fK.o;omega
   clear dG jS y0 y2 Dx
   go_wp2_with fail
   go_loopw [13,14] (fun dv kv w'=>∃kk:Nat,kk<=p.s.es.length/\kv=ag ah kk/\dv=ag ah ((p.s.es.take kk).filter fun e=>decide<|e.k=1).length/\Fr aS w2 w') (fun _ kv _=>p.s.es.length-(eU kv).toNat)
   case atStart=>exact⟨0,kH _,rfl,by simp,Fr.refl _ _⟩
   case round=>
    obtain⟨kk,uS,rfl,rfl,Rt⟩:=hrel
    have QN:aj (Fr aS w2 wr):=Rt
    clear Rt
    by_cases h1:kk<p.s.es.length
    ·have h1i:(kk:Int)<(p.s.es.length:Int):=by omega
     have ay5:(0:Int)<=(kk:Int):=by omega
     obtain⟨x,hx⟩:∃x,p.s.es[kk]? =ae x:=⟨_,eY h1⟩
     have dG:=QN.o.ownsRow ay4.o fun _ _=>id
     obtain⟨wg,akT,AB,dh,_⟩:=rF dG<|by omega
     simp only[aFi]at AB
     obtain⟨rfl,_,rfl⟩:=AB
     have r0:aB wr ⟨wg,kk*4,af⟩=ae (ag ah x.k):=BK (cs:=iG.cs) (fun _=>rfl) dG hx (j:=0) rfl
     have Lr:=ay1 hx
     have hle:((p.s.es.take kk).filter fun e=>decide<|e.k=1).length<=kk:=fG (D8 _ _) (by simp<;>omega)
     generalize((p.s.es.take kk).filter fun e=>decide<|e.k=1).length=cc at Lr hle⊢
     have CV:aj (((p.s.es.take<|kk+1).filter fun e=>decide<|e.k=1).length=cc+if x.k=1 then 1 else 0):=Lr
     have hwc:eF ah ((cc:Int)+1)=(cc:Int)+1:=wrap_i64 (by omega)<|by omega
     clear hx dG Lr
     by_cases hk:x.k=1
     ·rw[hk]at r0
      go_wp2_with fail
      go_roundw
      case rel=>exact⟨kk+1,by omega,by go_num,by rw[CV.o,if_pos hk];simp,QN.o⟩
      case measure=>simp[eU]<;>omega
     ·have hkb:(x.k==1)=false:=by simpa using hk
      go_wp2_with fail
      go_roundw
      case rel=>exact⟨kk+1,by omega,by go_num,by rw[CV.o,if_neg hk];simp,QN.o⟩
      case measure=>simp[eU]<;>omega
    ·obtain rfl:kk=p.s.es.length:=by omega
     have FW:aj (Fr aS w1 wr):=F2.o.t QN.o dw
     have vY:=T1.o.at_.a FW.o
     have OI:s1.g.gt[i]? =ae (p.s.bF 0 p.s.dC):=LK.o.1.gt i p (by have:=LK.o.2;have:=HQ.o.1;omega) HX.o.2.1
     have CB:i<s1.v.gs.length:=by rw[vY.pa.gl];exact(dS.1 OI).1
     obtain⟨gg,gc,oG,Qw,_⟩:=rF vY.pa.gt<|by omega
     obtain⟨u0,yT⟩:∃u,s1.v.gs[i]? =ae u:=⟨_,eY CB⟩
     have hr:=vY.pa.rc i u0 _ yT OI
     obtain⟨ua,uc,rfl⟩:=OY hr
     have e9:aB wr ⟨pb,9,af⟩=ae (aN (ae ⟨gg,0,af⟩) s1.v.gs.length gc):=by rw[<-oG];exact vY.cells.2.2.2.2.2.2.2.1
     have eg:aB wr ⟨gg,i,af⟩=ae (.slice ua (p.s.bF 0 p.s.dC).length uc):=by
      have hr:=vY.pa.gt;rw[oG]at hr;rw[hr.cellAt i<|by omega];exact yT
     have DX:(i:Int)<(s1.v.gs.length:Int):=by omega
     have ay6:=bn vY.pa.blk
     have dG:=FW.o.ownsRow HH1.o.row fun _ _=>id
     obtain⟨hb,vP,hhv,hhb,_⟩:=rF dG<|by omega
     subst hhv
     have eh:aB wr ⟨hb,i,af⟩=ae (ag ah l.length):=by
      rw[dG.cellAt i<|by omega];simp[gm,lens,Lp,HX.o.2.2]
     have zL:l.length<=80000000:=by
      obtain⟨sx,ext,h1,_⟩:=A.o.pg.bF i p HX.o.2.1;rw[HGT.o,HX.o.2.2]at h1;cases h1;obtain⟨tt,ht⟩:=ext.es;have h2:=sx.aaU 0 sx.dC<|kH _;have h3:=sx.LJ;have h4:=(A.o.pg.sn.dZ i p HX.o.2.1).fM;have h5:=fK.o;rw[ht,iW]at h4;omega
     have QO:=HF.o i p l HX.o.2.1 HX.o.2.2
     unfold aJ.data at QO
     rw[List.take_length]
     generalize(p.s.bF 0 p.s.dC).length=lg at eg QO
     generalize(p.s.es.filter fun e=>decide<|e.k=1).length=dd at QO⊢
     generalize l.length=ll at eh zL QO
     have Q4:eF ah ((ll:Int)+1)=(ll:Int)+1:=wrap_i64 (by omega)<|by omega
     clear vY OI CB oG yT hr dG zL
     by_cases dD:lg=ll+1
     ·have AO:((lg:Int) != (ll:Int)+1)=false:=by simp[dD]
      clear QO
      go_wp2_with fail
      go_quiet (fail)
      go_wp2_with fail
      exact⟨⟨i+1,by omega,by go_num,FW.o.drewN _⟩,by simp[eU]<;>omega⟩
     ·have hd:¬(dd:Int)<200:=by omega
      have AO:((lg:Int) != (ll:Int)+1)=true:=by simp<;>omega
      clear QO
      go_wp2_with fail
      go_quiet (fail)
      go_wp2_with fail
      exact⟨⟨i+1,by omega,by go_num,FW.o.drewN _⟩,by simp[eU]<;>omega⟩
  ·go_wp2_with fail
   rw[<-lh.o]
   exact⟨rfl,rfl,s1,T1.o.a FR.o⟩
end
def azb{w:ay}{P Q T K:Int}(hP:fO P)(hQ:fO Q)(hT:fO T)(hK:fO K):aW prog 16 #[jI P Q T K] w fun e w'=>∃p q t k:Nat,e=aV (jI p q t k)/\Good p q t k/\Fr aS w w':=by
 have H1:aj (∀V,aW prog 49 #[ag ah P,ag ah 6] V fun e w'=>∃k:Nat,k<6/\e=aV (ag ah k)/\V=w'):=fun V=>wL P hP (n:=6) (by omega) (by omega) V;have H2:aj (∀V,aW prog 49 #[ag ah Q,ag ah 4] V fun e w'=>∃k:Nat,k<4/\e=aV (ag ah k)/\V=w'):=fun V=>wL Q hQ (n:=4) (by omega) (by omega) V;have H3:aj (∀V,aW prog 49 #[ag ah T,ag ah 50] V fun e w'=>∃k:Nat,k<50/\e=aV (ag ah k)/\V=w'):=fun V=>wL T hT (n:=50) (by omega) (by omega) V;have H4:aj (∀V,aW prog 49 #[ag ah K,ag ah 16] V fun e w'=>∃k:Nat,k<16/\e=aV (ag ah k)/\V=w'):=fun V=>wL K hK (n:=16) (by omega) (by omega) V;clear hP hQ hT hK;unfold jI;go_enter func16,ntmps16
 go_wp2_with fail
 have ZW:aj (∃W:ay,W=(w.alloc<|aG #[ag ah P,ag ah Q,ag ah T,ag ah K] 23).alloc (aG #[ag ah 0,ag ah 0,ag ah 0,ag ah 0] 23)):=⟨_,rfl⟩;obtain⟨W1,eW⟩:=ZW.o;rw[<-eW];have iU:aj (Fr aS w W1):=by subst eW;exact(bQ _).alloc _
 have BX:aj (W1.heap[w.heap.size]? =ae (aG #[ag ah P,ag ah Q,ag ah T,ag ah K] 23 (0,0))):=by subst eW;exact((bQ _).block _ (by simp) id).t<|aFb _ _
 have BY:aj (W1.heap[w.heap.size+1]? =ae (aG #[ag ah 0,ag ah 0,ag ah 0,ag ah 0] 23 (0,0))):=by subst eW;exact Bz _<|by simp
 clear ZW eW;have b0:aB W1 ⟨w.heap.size,0,af⟩=ae (ag ah P):=aQ BX.o 0;have b1:aB W1 ⟨w.heap.size,1,af⟩=ae (ag ah Q):=aQ BX.o 1;have b2:aB W1 ⟨w.heap.size,2,af⟩=ae (ag ah T):=aQ BX.o 2;have b3:aB W1 ⟨w.heap.size,3,af⟩=ae (ag ah K):=aQ BX.o 3;have y0:aB W1 ⟨w.heap.size+1,0,af⟩=ae (ag ah 0):=aQ BY.o 0;have y1:aB W1 ⟨w.heap.size+1,1,af⟩=ae (ag ah 0):=aQ BY.o 1;have y2:aB W1 ⟨w.heap.size+1,2,af⟩=ae (ag ah 0):=aQ BY.o 2;have y3:aB W1 ⟨w.heap.size+1,3,af⟩=ae (ag ah 0):=aQ BY.o 3;have yf:∀o,W1.frozen? ⟨w.heap.size+1,o,af⟩=false:=kK BY.o;go_region_held3 (fun w'=>aB w' ⟨w.heap.size,0,af⟩=ae (ag ah P)/\aB w' ⟨w.heap.size,1,af⟩=ae (ag ah Q)/\aB w' ⟨w.heap.size,2,af⟩=ae (ag ah T)/\aB w' ⟨w.heap.size,3,af⟩=ae (ag ah K))
  (first|exact⟨b0,b1,b2,b3⟩|go_keep)
  ((go_at_call 49;(first|with_reducible refine(H1.o _).z ?_|with_reducible refine(H2.o _).z ?_|with_reducible refine(H3.o _).z ?_|with_reducible refine(H4.o _).z ?_);rintro e w2 ⟨i,hi,rfl,rfl⟩))
 rename_i i1 h1 i2 h2 i3 h3 _;have e1:eF ah (1+(i1:Int))=1+i1:=wrap_i64 (by omega) (by omega);have e2:eF ah (1+(i2:Int))=1+i2:=wrap_i64 (by omega) (by omega);have e3:eF ah (1+(i3:Int))=1+i3:=wrap_i64 (by omega) (by omega);have e4:eF ah (1+(i:Int))=1+i:=wrap_i64 (by omega) (by omega);rw[e1,e2,e3,e4];clear e1 e2 e3 e4 b0 b1 b2 b3;have hg:((((aX W1 ⟨w.heap.size+1,0,af⟩<|.int .i64<|1+(i1:Int)).setCell ⟨w.heap.size+1,1,af⟩<|.int .i64<|1+(i2:Int)).setCell ⟨w.heap.size+1,2,af⟩<|.int .i64<|1+(i3:Int)).setCell ⟨w.heap.size+1,3,af⟩<|.int .i64<|1+(i:Int)).drew.heap[w.heap.size+1]? =ae (aG #[.int .i64<|1+(i1:Int),.int .i64<|1+(i2:Int),.int .i64<|1+(i3:Int),.int .i64<|1+(i:Int)] 23 (0,0)):=kU (kU (kU (kU BY.o _ _) _ _) _ _) _ _;go_wp2
 (try simp only[Exit.inBlock,Exit.then])
 refine aFx (results_cell_row rfl _ _ (w.heap.size+1) 23 _ (0,0) _ rfl hg underlying23 rfl<|by kernel_rfl) rfl ?_;refine⟨1+i1,1+i2,1+i3,1+i,by simp,?_,?_⟩
 ·exact⟨by omega,by omega,by omega,by omega⟩
 ·have f:Fr (fun k=>k=w.heap.size+1) W1 ((((aX W1 ⟨w.heap.size+1,0,af⟩<|.int .i64<|1+(i1:Int)).setCell ⟨w.heap.size+1,1,af⟩<|.int .i64<|1+(i2:Int)).setCell ⟨w.heap.size+1,2,af⟩<|.int .i64<|1+(i3:Int)).setCell ⟨w.heap.size+1,3,af⟩<|.int .i64<|1+(i:Int)).drew:=
   (((((Fr.refl (fun k=>k=w.heap.size+1) W1).setCell (p:=⟨w.heap.size+1,0,af⟩) (.inl rfl) _).setCell (p:=⟨w.heap.size+1,1,af⟩) (.inl rfl) _).setCell (p:=⟨w.heap.size+1,2,af⟩) (.inl rfl) _).setCell (p:=⟨w.heap.size+1,3,af⟩) (.inl rfl) _).drew
  exact iU.o.t f fun k e=>.inr<|by omega
section
open Go.RowKit Go.Maps Go.Conc
open _root_.Go.Proofs.YtkelpcjiediamaaGreat.Twin _root_.Go.Proofs.YtkelpcjiediamaaGreat.fU
structure KG(pb:Nat)(hv:aA)(i:Nat)(a:Array aA):Prop where
 T:YV pb hv a
 a8:a.getD 8 ai=ag ah i
def aey:Array Oper:=opsOf ayZ
def NP:Lo:=⟨24,Tryz.f24,[],alv,alx,z24,0,53,54,55,56,57,50,120,2,3,14⟩
def alC:EL=.seq (.seq (.region 11 aey false)<|.block 2<|.loop NP.b) Vg:=by kernel_rfl
def azo:EL≠.ret:=by
 rw[alC];intro e;cases e
def QQ:wQ aey 0 8 (.assign<|.const<|ag ah 0)/\List.range aey.size=[0]:=⟨⟨by kernel_rfl,by kernel_rfl,by kernel_rfl,by kernel_rfl⟩,by kernel_rfl⟩
def aez{w w':ay}{b ty wd k:Nat}{v:aA}{xs:List aA}(ho:bD w b ty wd v k xs)(h:∀j,bY v=ae j->w'.heap[j]? =w.heap[j]?):bD w' b ty wd v k xs:=by
 refine⟨ho.1,?_⟩;rcases ho.2 with⟨e,h0⟩|⟨g,cap,cur,e,h1,h2,h3⟩
 ·exact .inl ⟨e,h0⟩
 ·exact .inr ⟨g,cap,cur,e,h1,(h g (by rw[e];rfl)).t h2,h3⟩
section
variable{w W:ay}{B pb xb N i:Nat}{s s0:dm}{a:Array aA}{hv:aA}
def azp:NP.Ok pb (KG pb hv):=by
 refine⟨func24,?_,⟨?_,?_,?_,?_⟩,⟨?_,?_,?_,?_⟩,⟨?_,?_,?_,?_⟩,⟨?_,?_,?_,?_⟩,⟨?_,?_,?_,?_⟩,?_,?_,?_,?_,?_,by decide,fun _ _ T=>T.T.sz,fun _ _ T=>T.T.a0,fun i a a' j v T q hj=>?_,fun i x f T=>T⟩;rotate_right
 ·have h:j≠0/\j≠3/\j≠7/\j≠8:=by
   rcases hj with rfl|rfl|rfl|rfl|rfl<;>decide
  exact⟨⟨q.sz.t T.T.sz,(q.ne 0 h.1).t T.T.a0,(q.ne 3 h.2.1).t T.T.a3,(q.ne 7 h.2.2.1).t T.T.a7⟩,(q.ne 8 h.2.2.2).t T.a8⟩
 all_goals kernel_rfl
def azq(T:KG pb hv i a)(hi:i<1000000):NP.c7.wp prog (fun e x w'=>e=.normal/\KG pb hv (i+1) x.tmps/\w'=W) ⟨a,[]⟩ W:=by
 obtain⟨⟨sz,a0,a3,a7⟩,a8⟩:=T;have hw:eF ah ((i:Int)+1)=(i:Int)+1:=wrap_i64 (by omega) (by omega);rw[zC a,sz,aer];simp only[rQ,tC,a0,a3,a7,a8];refine wK fun Q0 lh=>?_;simp only[NP,alx,EL,Kw,d24,au.fH,Tryz.f24,ik,if_true,kJ,kG];go_wp2
 rw[<-lh.o];exact⟨rfl,⟨⟨rfl,rfl,rfl,rfl⟩,rfl⟩,rfl⟩
def azr(T:KG pb hv i a):NP.c6.wp prog (fun e x w'=>e=.normal/\(KG pb hv i x.tmps/\x.tmps.getD 50 ai=aF (decide<|i<3))/\w'.heap=W.heap) ⟨a,[]⟩ W:=by
 obtain⟨⟨sz,a0,a3,a7⟩,a8⟩:=T;rw[zC a,sz,aer];simp only[rQ,tC,a0,a3,a7,a8];refine wK fun Q0 lh=>?_;simp only[NP,alv,EL,Kw,d24,au.fH,Tryz.f24,ik,if_true,kJ,kG];go_wp2_with fail
 rw[<-lh.o];exact⟨rfl,⟨⟨⟨rfl,rfl,rfl,rfl⟩,rfl⟩,by simp<;>omega⟩,rfl⟩
structure XG(s0:dm)(b0 pb xb Q:Nat)(hv:aA)(f:Nat->Prop)(w:ay)(s:dm):Prop where
 q:s.h.Q=s0.h.Q
 gt:s.g.gt=s0.g.gt
 Iz:yM w b0 pb xb s0 s Q hv
 off:∀k,bY hv=ae k->¬f k
 dec:∀p t c,fD s0.L p t c->fD s.L p t c
 ex:∃A,s.g.wr=s0.g.wr++A/\(∀x∈A,fD s.L x.p x.t true)/\∀q,q<Q->(A.filter<|Dw q).length=1\/(A.filter (Dw q)=[]/\200<=(s.g.wr.filter<|Dw q).length)
variable{b0 Q:Nat}{f:Nat->Prop}
def XG.same{w':ay}(x:XG s0 b0 pb xb Q hv f w s)(e:w'.heap=w.heap):XG s0 b0 pb xb Q hv f w' s:=
 ⟨x.q,x.gt,⟨aez x.Iz.row fun j _=>by rw[e],x.Iz.off⟩,x.off,x.dec,x.ex⟩
def XG.next{Wg:Nat}{w2:ay}{s2:dm}(x:XG s0 b0 pb xb Q hv f w s)(eg:s2.g=s.g)(eq:s2.h.Q=s.h.Q)(dc:∀p t b,fD s.L p t b->fD s2.L p t b)(hw:w.heap.size<=Wg)(G9:∀b,b<w.heap.size->¬f b->¬s.eG pb xb b->w2.heap[b]? =w.heap[b]?)(DU:∀k,s2.eG pb xb k->s.eG pb xb k\/w.heap.size<=k):XG s0 b0 pb xb Q hv (fun b=>f b\/b=Wg) w2 s2:=by
 have lt:∀k,bY hv=ae k->k<w.heap.size:=fun k hk=>(x.Iz.row.lt k hk).2;obtain⟨A,h1,h2,h3⟩:=x.ex;refine⟨eq.t x.q,by rw[eg];exact x.gt,⟨aez x.Iz.row fun j hj=>G9 j (lt j hj) (x.off j hj)<|x.Iz.off j hj,fun k hk z=>(DU k z).e (x.Iz.off k hk) fun e=>by have:=lt k hk;omega⟩,fun k hk z=>z.e (x.off k hk) fun e=>by have:=lt k hk;omega,fun p t c d=>dc _ _ _<|x.dec _ _ _ d,A,by rw[eg];exact h1,fun y hy=>dc _ _ _<|h2 y hy,by rw[eg];exact h3⟩
def XG.last{N0:Nat}{w0:ay}(x:XG s0 b0 pb xb Q hv f w s)(a0:bJ w0 B pb xb N0 s0)(a1:bJ w B pb xb N s)(hQ:s0.h.Q=Q)(dF:∀(q:Nat) (p:PL),s0.h.pl[q]? =ae p->p.s.dC=p.s.es.length)(hc:∀(q:Nat) (l:List Rec),s0.g.gt[q]? =ae l->l.length=Nv s0.g q)(hu:s.h.up=true)(Ls:∀(i:Nat) (y:PS),(i:Int)<s.h.P->s.h.ps[i]? =ae y->y.s=0):aes s0 s:=fun q p l hp hl=>by
 obtain⟨A,h1,h2,h3⟩:=x.ex;have uf:=(dS.1 hp).1;have e1:=a1.ha.hQ.1;have e0:=a0.ha.hQ.1;have UA:=x.q;obtain⟨p0,xU⟩:∃p0,s0.h.pl[q]? =ae p0:=⟨_,eY<|by omega⟩;have hm:=a0.pg.more a1.pg x.dec xU (dF q p0 xU) h1 h2;have hk:=a1.pg.count hp<|UC<|a1.pg.sn.UB hu Ls hp;have VN:=hc q l hl;have dV:(p.s.bF 0 p.s.dC).length=Nv s.g q:=hk;rcases h3 q (by omega)with h|⟨h,h'⟩
 ·left;omega
 ·right;rw[a1.pg.wr q p hp,Fz];exact h'
end
def goes_call{fo s0:Nat->Prop}{w:ay}{B pb xb N:Nat}{s:dm}(a:bJ w B pb xb N s)(hN:N<=64000000)(hp:¬(s0 pb\/fo pb))(hB:∀k,s0 k->B<=k)(hu:s.h.up=true)(ins:∀(q:Nat) (p:PL),s.h.pl[q]? =ae p->p.out=false)(Ls:∀(i:Nat) (y:PS),(i:Int)<s.h.P->s.h.ps[i]? =ae y->y.s=0)(hc:∀(q:Nat) (l:List Rec),s.g.gt[q]? =ae l->l.length=Nv s.g q):
 au.sG (au.bP fo s0) prog 24 #[az<|ae ⟨pb,0,af⟩] w (fun B' v w'=>v=aF true/\(∃s1,B'=au.bP fo s1)/\Fr (fun k=>B<=k) w w'):=by
 intro c cs;refine au.Reach.ok fun bT=>?_;have h5:∀b,s0 b\/fo b->1<=b:=fun b hb=>(bT.low b hb).1;have dF:∀(q:Nat) (p:PL),s.h.pl[q]? =ae p->p.s.dC=p.s.es.length:=fun q p hp=>UC<|a.pg.sn.UB hu Ls hp;have hP:((0:Nat):Int)<s.h.P:=by have:=a.pg.sn.P1;omega
 have G0:Gn s 0 s:=⟨hu,ins,fun _ _=>rfl,rfl,fun _ h=>h,by
  obtain⟨x,hx⟩:=a.ps hP;exact⟨x,[],hx,.inl<|Ls 0 x hP hx,fun _=>rfl,fun h=>absurd rfl h,by simp,by simp,fun _ _=>rfl,fun q h=>by omega⟩⟩
 obtain⟨Q,hQ⟩:=qY (show 0<=s.h.Q by have:=a.pg.sn.Q1;omega);have hQn:s.h.Q.toNat=Q:=by omega
 rw[aF3 (c:=d24) _ func24 rfl];refine au.YU (p:=Kw) (c:=d24) (S:=EL) (w:=w) (K:=fun ta d x w'=>∃hv s1 s2,YV pb hv x.tmps/\cO (au.re w ta d) w' B pb xb s (N+40) s2/\Gn s s.h.Q.toNat s1/\(∃x,s1.h.ps[0]? =ae x/\Gl s1 0 x true s2)/\yM w' w.heap.size pb xb s s2 s.h.Q.toNat hv) (au.lets h5) (xO h5) rfl azo aw3 ?_ rfl ⟨_,func24⟩ rfl (fun ta d=>aw5 (a.re ta d) (by omega) G0) ?_
 ·refine au.cZ.append (au.cZ.one<|zA hp<|bn a.pa.blk) fun v hv=>?_;obtain⟨_,rfl⟩:=Lu.1 hv;exact au.rZ
 rintro⟨a1,df⟩ w1 l1 lU IV hd ⟨ta,d,ta',j,hv,s1,s2,T,t2,G,⟨x,hx,ef⟩,H⟩;obtain rfl:df=[]:=hd;rw[hQn]at G H;have t1:cO w w1 B pb xb s (N+40) s2:=t2.IU lU;have H1:yM w1 w.heap.size pb xb s s2 Q hv:=⟨aez H.row fun _ _=>rfl,H.off⟩;obtain⟨x',vV,k1,k2⟩:=ef.me;obtain⟨x0,A,o9,_,_,_,hw,hA,_,hq⟩:=G.ex;obtain rfl:x0=x:=by rw[hx]at o9;cases o9;rfl
 have X0:XG s w.heap.size pb xb Q hv s0 w1 s2:=⟨t1.cf.2.1,ef.gt.t G.gt,H1,fun k hk z=>by have:=(bT.low k<|.inl z).2;have:=(H1.row.lt k hk).1;omega,fun p t c d=>(d.z G.sub).z ef.sub,A,by rw[ef.wr];exact hw,fun y hy=>by rw[(hA y hy).1,(hA y hy).2];exact ef.dec,by rw[ef.wr];exact hq⟩;have u2:s2.h.up=true:=ef.qE.up.t G.up;have in2:∀(q:Nat) (p:PL),s2.h.pl[q]? =ae p->p.out=false:=fun q p hp=>by
  obtain⟨p0,h0,e⟩:=ef.qE.out q p hp;rw[e];exact G.ins q p0 h0
 rw[alC];refine jM fun d1=>?_;refine jM fun d2=>?_;refine uH fun d3=>?_;rw[QQ.2,fF,fF];refine BR (v:=ag ah 0) QQ.1.1 QQ.1.2.1 QQ.1.2.2.1 (by decide) (fun d=>Zb QQ.1.2.2.2) (fun d e he=>by rw[aen QQ.1.2.2.2]at he;simp at he) fun a3 e3 p3=>?_;refine uI fun d4=>?_;refine jr (fun _=>aFs) fun d5=>?_;refine jr (fun _=>aFX) fun d6=>?_;rw[fF,fF,fF];refine als NP (K:=KG pb hv) (X:=XG s w.heap.size pb xb Q hv) (V:=3) (M:=3) (n0:=N+40) (w0:=w) (B:=B) (pb:=pb) (xb:=xb) azp (fun f w w' s x e=>x.same e) (fun f Wg w w2 s s2 x eg cf dc hw G9 DU _=>x.next eg cf.2.1 dc hw G9 DU) (fun i a f w s n T _ _=>azr (W:=w) T) (fun i a W T hi=>azq T<|by omega) (by decide) (by omega) (c:=Vg) ?_ 3 0 (N+40) s0 a3 _ s2 rfl ⟨⟨⟨p3.sz.t T.sz,(p3.ne 0<|by decide).t T.a0,(p3.ne 3<|by decide).t T.a3,(p3.ne 7<|by decide).t T.a7⟩,p3.at_ (by show 8<a1.size;rw[T.sz];decide)⟩,p3.df,fun j _ v hj=>p3.ok _ IV .int v<|Jt hj,t1.at_.same rfl,by omega,X0.same rfl,u2,in2,fun i1 y h1 h2=>?_,hp,hB,(t1.dX a).wP⟩;rotate_left
 ·by_cases e:i1=0
  ·subst e;rw[h2]at vV;cases vV;exact .due (.inl k1) (by rw[k2];decide)
  ·rw[ef.qE.ot i1 e,G.ot i1 e]at h2;exact .idle<|Ls i1 y (by rw[<-t1.cf.1];exact h1) h2
 intro f1 n2 a4 w3 s3 R;have azs:∀(i:Nat) (y:PS),(i:Int)<s3.h.P->s3.h.ps[i]? =ae y->y.s=0:=fun i y h1 h2=>(R.lv i y h1 h2).over<|R.at_.pg.sn.up R.up i y h2;have hQ3:s3.h.Q.toNat=Q:=by rw[R.X.q];exact hQn
 refine ale (D:=[]) (w:=w3) (K:=fun x w'=>x.getD 2 ai=aF true/\∀b,b<w3.heap.size->¬B<=b->w'.heap[b]? =w3.heap[b]?) (fun _ _ _ _ h=>h) func24 ay0 (by kernel_rfl) R.ok R.df (fun t d=>aFB (ay2 (b0:=w.heap.size) (w:=au.re w3 t d) (s0:=s) R.T.T (R.at_.same rfl) (by have:=R.fM;omega) R.X.gt (by rw[hQ3];exact(R.X.same (w':=au.re w3 t d) rfl).Iz)<|R.X.last a R.at_ hQ dF hc R.up azs) fun e a' w' hq=>⟨hq.1,hq.2.1,by
  obtain⟨s4,t4⟩:=hq.2.2;exact fun b hb h=>(t4.dX<|R.at_.same (w1:=au.re w3 t d) rfl).block b hb h⟩) ?_
 rintro x9 w4 todo xK ⟨uV,qW⟩ YC;refine jr (fun w=>aGB (v:=aF true) rfl rfl func24 (by rw[<-uV];exact aFY rfl _ _ _)<|by kernel_rfl) fun d9=>?_;exact au.Reach.here fun _=>⟨_,rfl,rfl,⟨_,rfl⟩,(R.fr.t (⟨xK.os,xK.tape,xK.output,xK.size,fun b hb h=>qW b hb h⟩:Fr (fun k=>B<=k) w3 w4) fun _=>.inl).wP⟩
end
