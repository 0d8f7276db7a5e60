import Derived.Test.YtkelpcjiediamaaGreatQk2
set_option maxRecDepth 100000
set_option maxHeartbeats 0
set_option linter.all false
namespace Go.Proofs.YtkelpcjiediamaaGreat
open Bool renaming false->ah,true->A
open Go renaming Calls->aH,TypeId->dB,Value->ai,World->ae,maxLen->cZ
open Go.Ending renaming returned->aU
open Go.IntKind renaming i64->Z,wrap->fU
open Go.Obj renaming cells->aC
open Go.Proofs.Tryz renaming prog->aj
open Go.RowKit renaming Hid->I,intOf->bM
open Go.Value renaming agg->jf,bool->aA,int->V,ownBlock->dw,pointer->ak,slice->aP,string->dN,tuple->dZ
open Go.World renaming alloc->bH,cell?->au,heap->R,ownsRow->bI,setCell->aZ
open Option renaming none->U,some->Y
open _root_.Array renaming size->M
open _root_.List renaming length->O
open Go.Proofs.Tryz
open Go.RowKit Go.Maps
section
section
variable{w w' B yb y}
theorem ayN(h:aY w B yb y){k:Nat}{e}(hk:y.G[k]? =Y e){ob}(ho:y.aPW[k]? =Y ob){s}(hr:Rel s e.L){n S}(hS:adB n s S)(hb:O e.L*40<=2^47)(hn:(n+1)*8<=2^47):aH aj 96 #[ak yb,k] w λr w'=>∃va,r=dZ #[jf #[ob,s.es,s.oL,va],V Z 0]/\xW w w' va S/\Fr aB w w':=by
 have qJ:=(kY.1 hk).1;have aN1:=(kY.1 ho).1;have oJ:=h.hQ.1;have lF:=h.hQ.2.2.1;have oU:=h.hQ.2.2.2;have HM:I (decide (0<=(k:Int)/\(k:Int)<=y.Q-1)=A):=iC ⟨YV,by omega⟩;have⟨g,cap,hv,hg,oI,p0⟩:=h.Pn hk;have⟨H,adE,hvo,hgo,aMn,q0⟩:=h.Po ho;have RZ:=aQe<|h.refs e<|iO hk;have HR:=aQe hr;have HB:=aQe hb;have HO:=aQe<|hr.opens hS.1 hS.2.2.1 hS.2.2.2;have HSL:I ((O S+1)*8<=2^47):=by have:=hS.2.1;show(O S+1)*8<=2^47;omega
 have c1:au w (yb,1)=Y (V Z y.Q):=h.c 1;have BQ:au w (yb,12)=Y y.gv:=h.c 12;have xJ:au w (yb,13)=Y y.ov:=h.c 13;rw[hv]at BQ;rw[hvo]at xJ;have FB:(0:Int)<=(k:Int):=YV
 have aX:(k:Int)<(O y.G:Int):=YV
 have jH:(k:Int)<(O y.aPW:Int):=YV
 have aO:=bF h.blk;have bx:H≠w.heap.size:=YV
 have by':yb≠w.heap.size:=YV
 clear h hk hr hb hn hS ho oJ;go_enter func96,ntmps96;go_wp2_with (go_at_call 72;apply(jS _ _ _ _).z;rw[HM];rintro e w1 ⟨rfl,rfl⟩);go_region_held3 (λw'=>au w' (yb,13)=Y (aP H (O y.aPW) adE)/\au w' (H,k)=Y (aA ob)) (first|with_reducible exact⟨i0,i1⟩|with_reducible exact⟨h0,h1⟩|with_reducible exact⟨f0,f1⟩|go_keep|(simp only[Pm _ _ bx,Pm _ _ by'];with_reducible exact⟨i0,i1⟩)) (first|(go_at_call 146;apply(ado (((aQ _).drew).qw RZ id λ_ _=>id) HB).z;rw[<-HR.es];rintro e w1 ⟨va,rfl,bV,aI⟩;obtain⟨ea,ec,rfl,_⟩:=jR bV;have F1:=aQe<|((aQ _).drew).t aI dA;have f0:au w1 (yb,13)=Y (aP H (O y.aPW) adE):=(F1.cell (p:=(yb,13)) aO id).t xJ;have f1:au w1 (H,k)=Y (aA ob):=(F1.cell (p:=(H,k)) hgo id).t q0;have B1:I (w1.heap[M (R w)]? =Y (aC #[aA ah,V Z 0,V Z 0,aP U 0 0] 62 (0,0))):=(aI.block _ (by simp) id).t aQL;clear aI bV)|(go_at_call 147;apply(anp (F1.qw RZ id λ_ _=>id) HB).z;rw[HR.oL];rintro e w2 ⟨rfl,bJ⟩;have F2:=aQe<|F1.t bJ dA;have h0:au w2 (yb,13)=Y (aP H (O y.aPW) adE):=(F2.cell (p:=(yb,13)) aO id).t xJ;have h1:au w2 (H,k)=Y (aA ob):=(F2.cell (p:=⟨H,k,U⟩) hgo id).t q0;have B2:=aQe<|(bJ.block _ (bF B1) id).t B1;clear bJ)|(go_at_call 148;apply(axF (F2.qw RZ id λ_ _=>id) HO HSL).z;rintro e w3 ⟨vb,rfl,Es,iL⟩;obtain⟨ba,bc,rfl,_⟩:=jg Es;have F3:=aQe<|F2.t iL dA;have V3:=aQe Es;have i0:au w3 ⟨yb,13,U⟩=Y (aP (Y ⟨H,0,U⟩) (O y.aPW) adE):=(F3.cell (p:=⟨yb,13,U⟩) aO id).t xJ;have i1:au w3 ⟨H,k,U⟩=Y (aA ob):=(F3.cell (p:=⟨H,k,U⟩) hgo id).t q0;have B3:=aQe<|(iL.block _ (bF B2) id).t B2;(have b0:au w3 ⟨M (R w),0,U⟩=Y (aA ah):=by rw[aJ B3];rfl);(have b1:au w3 ⟨M (R w),1,U⟩=Y (V Z 0):=by rw[aJ B3];rfl);(have b2:au w3 ⟨M (R w),2,U⟩=Y (V Z 0):=by rw[aJ B3];rfl);(have b3:au w3 ⟨M (R w),3,U⟩=Y (aP U 0 0):=by rw[aJ B3];rfl);have bf:∀o,w3.frozen? ⟨M (R w),o,U⟩=false:=gJ B3;clear iL Es));go_wp2;have hb:=eX (eX (eX (eX B3 0<|aA ob) 1<|V Z (O s.es)) 2<|V Z s.oL) 3<|.slice ba (O S) bc;have fs:=((((Fr.refl (λx=>x=M (R w)) w3).setCell (p:=⟨M (R w),0,U⟩) (.inl J)<|aA ob).setCell (p:=⟨M (R w),1,U⟩) (.inl J)<|V Z (O s.es)).setCell (p:=⟨M (R w),2,U⟩) (.inl J)<|V Z s.oL).setCell (p:=⟨M (R w),3,U⟩) (.inl J)<|.slice ba (O S) bc;have hz:M (R w)<M (R w2):=bF B2;apply aQY (Bf J _ _ _ 62 _ (0,0) _ J hb underlying62 J adA) J;refine⟨_,J,?_,F3.t fs λx hx=>.inr YV⟩;exact sD (fs.ownsRow V3 (λx hx e=>by have:=(V3.lt x hx).1;omega)) YV
end
end
section
section
variable{w B aPT wb xb yb bb n o}
variable{w1 w2 b wd len ty v xs}
theorem KL(h:jw w1 B aPT wb xb yb bb n o)(hb:M (R w1)<=b)(hv:bI w2 b ty wd v len xs):∀k,dw v=Y k->¬aPT k:=λk hk H=>by have h1:=(hv.lt k hk).1;have h2:=h.Gl k H;omega
theorem Xj(h:jw w1 B aPT wb xb yb bb n o)(hb:M (R w1)<=b)(hv:bI w2 b ty wd v len xs):∀k,dw v=Y k->¬o.all bb k:=λk hk H=>by have h1:=(hv.lt k hk).1;have h2:=(h.book.Pj H).1;omega
def jw.base(h:jw w1 B aPT wb xb yb bb n o):B<=w1:=EG<|OQ h.book.hb h.book.lt
theorem DL.cell{w' l o'}(p:DL w w' B aPT wb xb yb bb n o l o'){H}(hb:b<M (R w))(h1:¬o.all bb b)(h2:dw l≠b):w' (b,H)=w ⟨b,H,U⟩:=p.fr.cell (p:=(b,H)) hb (λhk=>by rcases hk with hk|hk;exact h1 hk;exact h2 hk)
theorem jw.adF(h:jw w B aPT wb xb yb bb n o)(hb:M (R w)<=b):¬o.all bb b:=λH=>by have:=(h.book.Pj H).1;omega
theorem Zo(h:bI w1 b ty wd v len xs):dw v≠(w1):=λe=>by have:=(h.lt _ e).2;omega
def Fr.dr(w):Fr aB w w.drew:=eH.drew
end
end
section
section
variable{w w':ae}{B yb:Nat}{y:RS}
theorem mZ{H wd v n xs b cs t fr}(h:bI w B H wd v n xs)(hb:w.heap[b]? =Y (.cells cs t fr))(fE:H≠t):dw v≠Y b:=λe=>by have h1:=ig h e;grind[lM]
theorem aY.Zp(h:aY w B yb y){g}(hg:g∈y.G):¬Ii g.yb g.u yb:=λe=>by have h0:=lM h.blk;grind[iU.tags,cases aY]
def aY.put{y'}(h:aY w B yb y)(f:Fr (λk=>k=yb) w w')(hb:w'.heap[yb]? =Y (.cells y'.cells 138 (0,0)))(h1:y'.lv=y.lv)(h2:y'.L=y.L)(h3:bI w' B 204 4 y'.dv y'.D (y'.D.flatMap Du.cs))(h5:y'.hv=y.hv)(h6:y'.H=y.H)(h7:y'.gv=y.gv)(h8:y'.G=y.G)(h9:y'.ov=y.ov)(MC:y'.aPW=y.aPW)(h11:y'.nv=y.nv)(h12:y'.N=y.N)(Ua:y'.P=y.P)(h14:y'.Q=y.Q):aY w' B yb y':=⟨hb,by grind[Fr.ownsRow,cases aY,mZ],h3,by grind[Fr.ownsRow,cases aY,mZ],by grind[Fr.ownsRow,cases aY,mZ],by grind[Fr.ownsRow,cases aY,mZ],by grind[Fr.ownsRow,cases aY,mZ],(by grind[iU.stay,cases aY,aY.Zp]),h.hy,by rw[Ua,h6];exact h.hP,by rw[h14,h8,MC];exact h.hQ⟩
def RS.crashed(y:RS):RS:=if y.dn then y else{y with dn:=A,br:=ah}
def an6(h:aY w B yb y):aH aj 45 #[ak yb] w λr w'=>r=aU (.int .i64<|if y.dn then 5 else 0)/\aY w' B yb y.crashed/\Fr (λk=>k=yb) w w':=by
 have H:=aQe h;have c4:=h.k 4;have c5:=h.k 5;have hf:=gJ h.blk;clear h;cases hd:y.dn
 ·rw[hd]at c4;go_wp2
  go_ret;have fr:Fr (λk=>k=yb) w ((aZ w (yb,4) A).setCell (yb,5) ah):=aQx;have e:y.crashed={y with dn:=A,br:=ah}:=by simp[RS.crashed,hd]
  rw[e];refine⟨J,H.put fr (eX (eX H.blk 4 _) 5 _) J J ?_ J J J J J J J J J J,fr⟩;exact fr.ownsRow H.ik λk hk e=>mZ H.ik H.blk Xa Zv
 ·rw[hd]at c4;go_wp2
  go_ret;have e:y.crashed=y:=by simp[RS.crashed,hd]
  rw[e];exact⟨J,H,Fr.refl _ _⟩
def ayR(h:aY w B yb y)(hd:y.dn=ah):aH aj 46 #[ak yb] w λr w'=>r=V Z 6/\w=w':=by have c4:=h.k 4;go_wp2;go_ret;simp_all
end
end
def Zq(w m b):aH aj 70 #[V Z m,V Z b] w λe w'=>e=aU (.bool<|decide<|1<=m/\m<=b)/\w=w':=by by_cases h1:1<=m;{by_cases h2:m<=b;{go_wp2;go_ret;simp_all};go_wp2;go_ret;simp_all};go_wp2;go_ret;have:decide (1<=m)=false:=Zv;exact⟨by rw[this]<;>rfl,J⟩
def gU(P Q T K:Int):Value:=jf #[P,Q,T,K]
def Good(P Q T K:Int):Prop:=(1<=P/\P<=6)/\(1<=Q/\Q<=4)/\(1<=T/\T<=50)/\(1<=K/\K<=16)
def ayS(w){P Q T K}(h:¬Good P Q T K):aH aj 31 #[gU P Q T K] w λr w'=>r=dZ #[ak U,V Z 1]/\Fr aB w w':=by unfold gU;by_cases H:1<=P/\P<=6;{have HP:=aQe<|iC H;by_cases hQ:1<=Q/\Q<=4;{have HQ:I (decide (1<=Q/\Q<=4)=A):=(by grind);by_cases hT:1<=T/\T<=50;{have HT:I (decide (1<=T/\T<=50)=A):=(by grind);have HK:I (decide (1<=K/\K<=16)=ah):=jr λe=>h ⟨H,hQ,hT,e⟩;clear h H hQ hT;go_enter func31,ntmps31;go_wp2_with (go_at_call 70;apply(Zq _ _ _).z;(first|rw[HP]|rw[HQ]|rw[HT]|rw[HK]);rintro e w1 ⟨rfl,rfl⟩);go_ret2;exact⟨J,aQ _⟩};have HT:I (decide (1<=T/\T<=50)=ah):=(by grind);clear h H hQ hT;go_enter func31,ntmps31;go_wp2_with (go_at_call 70;apply(Zq _ _ _).z;(first|rw[HP]|rw[HQ]|rw[HT]);rintro e w1 ⟨rfl,rfl⟩);go_ret2;exact⟨J,aQ _⟩};have HQ:I (decide (1<=Q/\Q<=4)=ah):=(by grind);clear h H hQ;go_enter func31,ntmps31;go_wp2_with (go_at_call 70;apply(Zq _ _ _).z;(first|rw[HP]|rw[HQ]);rintro e w1 ⟨rfl,rfl⟩);go_ret2;exact⟨J,aQ _⟩};have HP:=aQe<|jr H;clear h H;go_enter func31,ntmps31;go_wp2_with (go_at_call 70;apply(Zq _ _ _).z;rw[HP];rintro e w1 ⟨rfl,rfl⟩);go_ret2;exact⟨J,aQ _⟩
def KN:aN:=⟨[],0,λ_=>U⟩
def Il(P Q T K:Int)(H:ai)(pl:List PL):HS:=⟨P,Q,T,K,aP U 0 0,[],ah,ET,ah,0,H,pl,aP U 0 0,[]⟩
def ayT(P Q T K pv H pl iV):(Il P Q T K pv pl).cells.toArray.setIfInBounds 68 H=(Il P Q T K H iV).cells.toArray:=KG
def rM{w}(o){k}(H:k=M (R w)):(bH w o).heap[k]? =o:=by subst H;exact heap_alloc_new w o
def mP(pl:List PL):Prop:=∀(i j:Nat) p q,i≠j->pl[i]? =Y p->pl[j]? =Y q->∀k,Ih p.lb p.bm p.v k->Ih q.lb q.bm q.v k->False
def Xk{α:Type}{l}{x e:α}{i}(h:(l++[x])[i]? =e):(i<O l/\l[i]? =e)\/(i=l/\e=x):=Zv
structure Jp(w w':ae)(P Q T K:Int)(k:Nat)(pv:ai)(pl:List PL):Prop where
 blk:w'.heap[M (R w)+1]? =Y (.cells (Il P Q T K pv pl).cells.toArray 111 (0,0))
 len:O pl=k
 qK:bI w' (M (R w)) 98 2 pv (O pl) (vz pl)
 dO:∀p∈pl,eY w' (M (R w)) p.lb p.bm p.v 0 p.s
 new:∀p∈pl,p.s=KN/\p.out=ah
 fr:Fr aB w w'
 ap:mP pl
def eY.base{w B B' lb bm n v s}(h:eY w B lb bm v n s)(H:B'<=B):eY w B' lb bm v n s:=⟨h.blk,sD h.row H,h.map,dX H h.hl,dX H h.hm⟩
theorem Jp.step{w wr X w1 W w3 P Q T K k pv MF pl}(h:Jp w wr P Q T K k pv pl)(fX:Fr aB wr X)(hl:eY w1 X.heap.size (X.heap.size+1) X.heap.size (aP U 0 0) 0 KN)(f1:Fr aB X w1) (fW:Fr aB w1 W)(hg:W.grownBy w3 pv.ownBlock)(fK:bI w3 w 98 2 MF (k+1) (vz pl++[ptr<|X.heap.size+1,ah]))(dR:∀q,MF.ownBlock=Y q->dw pv=q\/wr<=q):Jp w (aZ w3 (M (R w)+1,68) MF) P Q T K (k+1) MF (pl++[⟨X.heap.size+1,X.heap.size,aP U 0 0,KN,ah⟩]):=by have hx:=bF h.blk;have fw:=((fX.t f1 Zv).t fW Zv);have f3:Fr (λq=>dw pv=q) wr w3:=(fw.z Zv).grown hg Zv;(have Oy:dw pv≠Y (M (R w)+1):=λe=>by have h1:=ig h.qK e;grind[lM,cases Jp]);have b3:=(f3.block _ hx Oy).t h.blk;have fs:Fr (λq=>q=w+1) w3 (aZ w3 (M (R w)+1,68) MF):=aQx;have f4:Fr (λq=>dw pv=q\/q=w+1) wr (aZ w3 (M (R w)+1,68) MF):=(f3.z Zv).t fs YV;have gV:=fX.size;refine⟨?_,by simp[h.len],?_,?_,?_,?_,?_⟩;{rw[eX b3,ayT]};{(have e1:vz (pl++[⟨X.heap.size+1,X.heap.size,aP U 0 0,KN,ah⟩])=vz pl++[ptr<|X.heap.size+1,ah]:=by simp[vz,PL.cs]);grind[cases Jp,Fr.ownsRow]};{intro p hp;rcases yu.1 hp with hp|hp;{refine(h.dO p hp).stay f4 λq H hf=>?_;rcases H with H|H;{have h0:=ig h.qK H;grind[eY.tags,cases Jp]};have h0:=lM h.blk;grind[eY.tags,cases Jp]};simp at hp;subst hp;have g3:Fr (λq=>dw pv=q) w1 w3:=(fW.z Zv).grown hg Zv;have g4:Fr (λq=>dw pv=q\/q=w+1) w1 (aZ w3 (M (R w)+1,68) MF):=(g3.z Zv).t fs YV;refine(hl.stay g4 λq H hf=>?_).base YV;(have hqX:X.heap.size<=q:=by rcases hf with e|e|e;(any_goals grind);simp[Value.ownBlock]at e);rcases H with H|H;{have:=(h.qK.lt q H).2;omega};omega};{grind[cases Jp]};{grind[Fr.t,cases Jp,World.ownsRow.lt]};(have old:∀p∈pl,∀k,Ih p.lb p.bm p.v k->k<wr:=λp hp k hk=>by have hl:=h.dO p hp;rcases hk with rfl|rfl|hk;{exact hl.lt};{exact hl.map.lt};exact(hl.row.lt k hk).2);(have neu:∀k,Ih (X.heap.size+1) X.heap.size (aP U 0 0) k->X.heap.size<=k:=λk hk=>by rcases hk with rfl|rfl|hk;(any_goals grind);simp[Value.ownBlock]at hk);intro i j p q BN hp H k h1 h2;rcases Xk hp with⟨_,IW⟩|⟨hi,rfl⟩<;>rcases Xk H with⟨_,AO⟩|⟨hj,rfl⟩;(any_goals grind);exact h.ap i j p q BN IW AO k h1 h2
def ayV(w){P Q T K}(h:Good P Q T K):aH aj 31 #[gU P Q T K] w λr w'=>∃xb pv pl,r=dZ #[ptr xb,V Z 0]/\aG w' w xb 0 (Il P Q T K pv pl).Gm/\(∀p∈pl,p.s=KN/\p.out=ah)/\mP pl/\Fr aB w w':=by unfold gU;have⟨i0,dL,fM,ed,fV⟩:=aQX (show(prog.info? 98).map (λi=>(i.zero,i.size,i.bytes))=Y (Y<|jf #[ak U,ah],2,16)by kernel_rfl);have HG:=aQe h;have HP:=aQe<|iC h.1;have HQ:=aQe<|iC h.2.1;have HT:=aQe<|iC h.2.2.1;have HK:=aQe<|iC h.2.2.2;have lF:=h.2.1.1;have oU:=h.2.1.2;clear h;go_enter func31,ntmps31;go_wp2_with (go_at_call 70;apply(Zq _ _ _).z;(first|rw[HP]|rw[HQ]|rw[HT]|rw[HK]);rintro e w1 ⟨rfl,rfl⟩);go_loopw [32] (λi w'=>∃k:Nat,(k:Int)<=Q/\i=k/\∃pv pl,Jp w w' P Q T K k pv pl) (λi _=>(Q-bM i).toNat);(case atStart=>refine⟨0,YV,J,aP U 0 0,[],?_,J,aQS _ _ _ _,Zv,Zv,(eH.alloc _).alloc _,λi j p q _ hp=>Zv⟩;exact rM _ Xy);case round=>obtain⟨k,hk,rfl,pv,pl,hm⟩:=hrel;have H:=aQe hm;have c50:=cc hm.blk 68;have cf:=gJ hm.blk;have hx:=bF hm.blk;have hlen:=hm.len;obtain⟨pa,pc,rfl,_⟩:=jR hm.qK;subst hlen;clear hm;by_cases aO:(O pl:Int)<Q;{(have hl4:O pl<4:=YV);(have Oy:=mZ H.qK H.blk Xa);go_wp2_with fail;go_region_law (first|(go_simp;go_at_call 71;apply(awO _).z;rintro e w1 ⟨rfl,nX,aI⟩;have L1:=aQe nX;have F1:=aQe aI;(have FW:=aQe<|(Fr.dr _).t aI Zv);have hwz:w<=M (R w1):=dX H.fr.size FW.size;have q50:au w1 (M (R w)+1,68)=Y (.slice pa (O pl) pc):=(aI.cell (p:=⟨M (R w)+1,68,U⟩) hx id).t c50;have qf:∀o,w1.frozen? ⟨M (R w)+1,o,U⟩=false:=gJ<|(aI.block _ hx id).t H.blk;have mV:w+1<M (R w1):=gZ hx aI.size;clear nX aI)|(apply aRd _ aQr _ _ _ aQr (M (R w)) 98 i0 _ 2 16 Y0 dL fM ed fV J YV (.slice pa (O pl) pc) (O pl) (vz pl) aQr ((FW.alloc _).ownsRow H.qK Zv) (M (R w1)) 1 1 [ak<|Y ⟨M (R wr)+1,0,U⟩,aA ah] aQr aQr aQz Y7 YV (by exact aQp) YV Xz (M (R w1)+1) Xy;intro gg cap w3 fK oz dR mW;have r50:=(oz.cell_far (M (R w)+1,68) Xz<|Ne.s Oy);have rf:=(oz.frozen_far (M (R w)+1,68) Xz<|Ne.s Oy);rw[aQV _ _ _ mV,q50]at r50;rw[Ae mV,qf]at rf));all_goals go_wp2;go_roundw;(case rel=>refine⟨O pl+1,YV,Y4,_,_,H.step (X:=wr.drew) (W:=w1.alloc<|aC #[ak<|Y ⟨M (R wr)+1,0,U⟩,aA ah] 98) (Fr.dr _) L1 F1 (aQ _) oz fK ?_⟩;intro q hq;simp only[Value.ownBlock,iR]at hq;subst hq;rcases dR with a|a;{grind};exact .inr (by have:=FW.size;omega));case measure=>simp[bM]<;>omega};(have hlQ:(O pl:Int)=Q:=YV);have HH:I (aG wr (M (R w)) (M (R w)+1) 0<|Il P Q T K (.slice pa (O pl) pc) pl):=⟨H.blk,aQS _ _ _ _,H.qK,aQS _ _ _ _,H.dO,YV,HG.1,⟨hlQ.s,HG.2.1⟩,J⟩;go_wp2_with (go_at_call 68;apply(ayA HH J).z;rintro e w2 ⟨rfl,hr,hf⟩;have HR:=aQe hr;have HF:=aQe hf;clear hr hf);go_ret2;exact⟨_,_,_,J,HR,H.new,H.ap,H.fr.t HF YV⟩
section
structure St where
 e:Int
 t:Int
 s:Int
 ps:List Int
def St.step(p:Int)(x:St)(r:Rc):St:=
 if r.p≠p then x else if r.k=1 then{x with e:=r.m}else if r.k=2 then⟨x.e,r.m,1,(if x.s=0 then[]else x.ps)++[r.a]⟩else if r.k=3 then{x with s:=3-r.a}else if r.k=4 then{x with s:=0}else x
def EW:St:=⟨0,0,0,[]⟩
def aF(L:List Rc)(p:Int):St:=L.foldl (St.step p) EW
theorem yA(L r p):aF (L++[r]) p=(aF L p).step p r:=by simp[aF,UC]
theorem St.ay0(p)(x:St)(r):(x.step p r).ps.length<=x.ps+1:=by unfold St.step;grind
def ay1(L p):(aF L p).ps.length<=L:=by (have H:∀L x,(L.foldl (St.step p) x).ps.length<=x.ps+O L:=by intro L;induction L with|nil=>grind|cons r L ih=>grind[St.ay0]);have:=H L EW;simpa[aF,EW]using this
def ahw:∀(l:List Rc) (k:Nat) (e:Rc) (j:Nat),l[k]? =Y e->j<4->(l.flatMap Rc.cs)[k*4+j]? =e.cs[j]?|[],k,e,j,h,_=>aQB|x::r,0,e,j,h,hj=>(by simp at h;subst h;simp only[Ad];rw[Q8 (by simp[Rc.cs]<;>omega)];simp)|x::r,k+1,e,j,h,hj=>by have:=ahw r k e j h hj;simp at this⊢;rw[OJ (by simp[Rc.cs]<;>omega),<-this];congr 1;simp[Rc.cs]<;>omega
def an7{w B g n cap l}(h:bI w B 155 4 (aP (Y ⟨g,0,U⟩) n cap) (O l) (l.flatMap Rc.cs)){k e}(hk:l[k]? =Y e):w.cell? (g,k*4)=e.k/\w (g,k*4+1)=e.p/\w (g,k*4+2)=e.a/\w (g,k*4+3)=e.m:=by have hc:=h.cells J;(have H:∀j u,j<4->e.cs[j]? =Y u->w (g,k*4+j)=Y u:=λj u hj hu=>by have:=hc _ u<|(ahw l k e j hk hj).t hu;grind[Addr.add_lit]);exact⟨H 0 _ YV J,H 1 _ YV J,H 2 _ YV J,H 3 _ YV J⟩
section
variable{w w':ae}{B yb:Nat}{y:RS}
def Si{v xs}(h:bI w B 3 1 v (O xs) (dY xs))(m):aH aj 133 #[v,V Z m] w λr w'=>r=aU (.bool<|decide<|m∈xs)/\w=w':=by obtain⟨va,vc,rfl,hl⟩:=jg h;unfold cZ at hl;have H:I (bI w B 3 1 (.slice va xs vc) xs<|dY xs):=h;clear h;go_enter func133,ntmps133;go_wp2_with fail;go_loop [5] (λi=>∃k,k<=O xs/\i=k/\∀j x,j<k->xs[j]? =Y x->x≠m) (λi=>O xs-(bM i).toNat);(case atStart=>grind);case round=>obtain⟨k,hk,rfl,lT⟩:=hrel;have HA:=lT;clear lT;by_cases aO:k<O xs;{have⟨x,hx⟩:∃x,xs[k]? =Y x:=Y0;have HX:=hx;rcases H.2 with⟨_,h0⟩|⟨g,cap,cur,hv,hb,hg,h1,h2,_⟩;{omega};simp only[aQQ]at hv;obtain⟨rfl,_,rfl⟩:=hv;have c0:=Jl H hx;(have J8:(k:Int)<(O xs:Int):=YV);clear hx hg h2 hb;by_cases e:x=m;{have HM:I (decide (m∈xs)=A):=(by grind[Hid.o]);go_wp2;go_ret;exact⟨by rw[HM]<;>rfl,J⟩};{(have e':(x==m)=false:=Zv);(have Em:I (∀j z,j<k+1->xs[j]? =Y z->z≠m):=λj z hj hz=>aQO);clear e;go_wp2;go_round;(case rel=>exact⟨k+1,YV,Y4,Em⟩);case measure=>simp[bM]<;>omega}};have HM:I (decide (m∈xs)=ah):=jr (by grind[List.getElem_of_mem,Hid]);go_wp2;go_ret;exact⟨by rw[HM]<;>rfl,J⟩
structure CQ(w w':ae)(x:St)(v:ai):Prop where
 b1:w'.heap[M (R w)]? =Y (aC #[V Z 0,V Z 0,V Z 0,aP U 0 0] 157 (0,0))
 b2:w'.heap[M (R w)+1]? =Y (aC #[V Z x.e,V Z x.t,V Z x.s,v] 157 (0,0))
 row:bI w' (M (R w)) 3 1 v (O x.ps) (dY x.ps)
 fr:Fr aB w w'
variable{w1 w2:ae}{x:St}{v v':ai}
theorem CQ.a(h:CQ w w1 x v)(f:Fr aB w1 w2):CQ w w2 x v:=⟨(by grind[cases Fr,cases CQ]),(by grind[cases Fr,cases CQ]),f.ownsRow h.row Zv,h.fr.t f Zv⟩
def CQ.put(h:CQ w w1 x v)(f:Fr (λk=>k=w+1) w1 w2){x'}(H:w2.heap[M (R w)+1]? =aC #[x'.e,x'.t,x'.s,v'] 157 (0,0))(hv:(v'=v/\x'.ps=x.ps)\/(v'=aP U 0 0/\x'.ps=[])):CQ w w2 x' v':=by refine⟨(by grind[cases Fr,cases CQ]),H,?_,(by grind[Fr.t,cases CQ])⟩;rcases hv with⟨rfl,e⟩|⟨rfl,e⟩;{rw[e];refine f.ownsRow h.row λk hk e2=>?_;have h1:=ig h.row hk;grind[lM,cases CQ]};rw[e];exact aQS _ _ _ _
def CQ.app{W w3 a}(h:CQ w w1 x v)(fW:Fr aB w1 W)(hg:W.grownBy w3 v.ownBlock)(fK:bI w3 w 3 1 v' (x.ps+1) (dY x.ps++[V Z a]))(dR:∀q,dw v'=Y q->dw v=q\/w1<=q):CQ w (aZ w3 (M (R w)+1,3) v') ⟨x.e,x.t,x.s,x.ps++[a]⟩ v':=by
 have f3:Fr (λq=>dw v=q) w1 w3:=(fW.z Zv).grown hg Zv;have n1:dw v≠(w):=λe=>by have h1:=ig h.row e;grind[lM,cases CQ]
 have H:dw v≠Y (M (R w)+1):=λe=>by have h1:=ig h.row e;grind[lM,cases CQ]
 have z1:=bF h.b1;have z2:=bF h.b2;have fs:Fr (λq=>q=w+1) w3 (aZ w3 (M (R w)+1,3) v'):=aQx;have f4:Fr (λq=>dw v=q\/q=w+1) w1 _:=(f3.z Zv).t fs YV;refine⟨(by grind[cases Fr,cases CQ]),eX ((f3.block _ z2 H).t h.b2) 3 v',?_,(by grind[Fr.t,cases CQ,World.ownsRow.lt])⟩;have e1:dY (x.ps++[a])=dY x.ps++[V Z a]:=by simp[dY]
 grind[Fr.ownsRow]
def sG(h:aY w B yb y)(m)(hR:∀r∈y.L,0<=r.a/\r.a<=4)(hb:(O y.L+1)*8<=2^47):aH aj 105 #[ak yb,V Z m] w λr w'=>∃v,r=jf #[(aF y.L m).e,(aF y.L m).t,(aF y.L m).s,v]/\xW w w' v (aF y.L m).ps/\Fr aB w w':=by have⟨i0,dL,fM,ed,fV⟩:=aQX Ry;have H:=aQe h;have HR:=aQe hR;have HB:=aQe hb;have c8:=h.k 8;have⟨la,lc,hl,rE⟩:=jR h.tH;unfold cZ at rE;rw[hl]at c8;have yB:=aQe hl;have aO:=bF h.blk;clear h hR hb hl;go_enter func105,ntmps105;go_wp2_with fail;go_loopw [6] (λi w'=>∃k,k<=O y.L/\i=k/\∃v,CQ w w' (aF (y.L.take k) m) v) (λi _=>O y.L-(bM i).toNat);(case atStart=>exact⟨0,jQ _,J,aP U 0 0,((aQ _).block _ Xy id).t<|heap_alloc_new _ _,by have:=heap_alloc_new (w.alloc<|aC #[V Z 0,V Z 0,V Z 0,aP U 0 0] 157)<|aC #[V Z 0,V Z 0,V Z 0,aP U 0 0] 157;simpa[aF,EW]using this,aQS _ _ _ _,(eH.alloc _).alloc _⟩);case round=>obtain⟨k,hk,rfl,v,hgo⟩:=hrel;have⟨x,hx⟩:∃x,aF (y.L.take k) m=x:=⟨_,J⟩;rw[hx]at hgo;have HG:=aQe hgo;obtain⟨va,vc,rfl,vM⟩:=jg hgo.row;(have Bg:I (O x.ps<=k):=by rw[<-hx];exact dX (ay1 _ _) Xz);have d8:au wr (yb,8)=Y (.slice la (O y.L) lc):=(hgo.fr.cell (p:=⟨yb,8,U⟩) aO id).t c8;have b0:=cc hgo.b2 0;have b1:=cc hgo.b2 1;have b2:=cc hgo.b2 2;have b3:=cc hgo.b2 3;have bf:∀o,wr.frozen? ⟨M (R w)+1,o,U⟩=false:=gJ hgo.b2;have aN2:=bF hgo.b2;have Cj:yb<wr:=gZ aO hgo.fr.size;(have yU:I (bI wr B 155 4 (.slice la (O y.L) lc) (O y.L)<|y.L.flatMap Rc.cs):=by have:=hgo.fr.ownsRow H.o.tH λ_ _=>id;rw[yB.o]at this;exact this);clear hgo vM;by_cases jD:k<O y.L;{have⟨r,hr⟩:∃r,y.L[k]? =Y r:=⟨_,gG jD⟩;(have HS:I (aF (y.L.take<|k+1) m=x.step m r):=by show aF (y.L.take<|k+1) m=x.step m r;rw[uz,hr,Cb,yA,hx]);have HA:=aQe<|HR.o r<|iO hr;rcases yU.o.2 with⟨_,h0⟩|⟨g,cap,cur,hv,hb,hg,h1,h2,_⟩;{omega};simp only[aQQ]at hv;obtain⟨rfl,_,rfl⟩:=hv;have⟨r0,r1,r2,r3⟩:=an7 yU.o hr;(have J8:(k:Int)<(O y.L:Int):=YV);have zk:=bF hg;clear hr hg h2 hb hx;by_cases hp:r.p=m;{(have IW:(r.p==m)=true:=by simpa using hp);by_cases k1:r.k=1;{(have Dl:I (aF (y.L.take<|k+1) m=⟨r.m,x.t,x.s,x.ps⟩):=by show aF (y.L.take<|k+1) m=⟨r.m,x.t,x.s,x.ps⟩;rw[HS.o];simp[St.step,hp,k1]);clear HS;go_wp2_with fail;go_roundw;(case rel=>refine⟨k+1,YV,Y4,.slice va (O x.ps) vc,?_⟩;rw[Dl.o];exact CQ.a (w1:=aZ wr ⟨M (R w)+1,0,U⟩ r.m) (HG.o.put (x':=⟨r.m,x.t,x.s,x.ps⟩) ((Fr.refl (λq=>q=w+1) wr).setCell (p:=⟨M (R w)+1,0,U⟩) (.inl J) _) (eX HG.o.b2 0 _)<|.inl ⟨J,J⟩)<|aQ _);case measure=>simp[bM]<;>omega};(have k1':(r.k==1)=false:=by simpa using k1);by_cases k2:r.k=2;{by_cases s0:x.s=0;{(have Dl:I (aF (y.L.take<|k+1) m=⟨x.e,r.m,1,[]++[r.a]⟩):=by show aF (y.L.take<|k+1) m=⟨x.e,r.m,1,[]++[r.a]⟩;rw[HS.o];simp[St.step,hp,k2,s0]);clear HS;have Pq:=aQe<|HG.o.put (x':=⟨x.e,r.m,1,[]⟩) ((((Fr.refl (λq=>q=w+1) wr).setCell (p:=⟨M (R w)+1,3,U⟩) (.inl J) _).setCell (p:=⟨M (R w)+1,1,U⟩) (.inl J) _).setCell (p:=⟨M (R w)+1,2,U⟩) (.inl J) _) (eX (eX (eX HG.o.b2 3 _) 1 _) 2 _) (.inr ⟨J,J⟩);have e3:=Pq.o.b2;go_wp2_with (at_builtin;apply aQU _ J _ _ 43 J w 3 i0 _ 1 8 underlying43 dL fM ed fV J Xa (aP U 0 0) 0 [] J (aQS _ _ _ _) ⟨M (R wr)+1,0,U⟩ 1 1 [r.a] J J (World.news_of_block (cs:=#[r.a]) (t:=3) (fr:=(0,0))<|rM _ Xy) Y7 Xa (by exact aQp) YV Xz (wr+1+1) Xy;intro gg jG w3 jO gW lX mW;have jJ:=(gW.block (w+1) Xz aQM).t<|((aQ _).alloc _).block _ (bF e3) id |>.t e3;have q3:=cc jJ 3;have qf:∀o,w3.frozen? ⟨M (R w)+1,o,U⟩=false:=gJ jJ;clear jJ);go_roundw;(case rel=>refine⟨k+1,YV,Y4,aP (Y ⟨gg,0,U⟩) (0+1) jG,?_⟩;rw[Dl.o];refine Pq.o.app ((aQ _).alloc _) gW jO λq hq=>?_;simp only[Value.ownBlock,iR]at hq;subst hq;rcases lX with a2|a2;{exact .inl a2};exact .inr (Xz));case measure=>simp[bM]<;>omega};{(have Dl:I (aF (y.L.take<|k+1) m=⟨x.e,r.m,1,x.ps++[r.a]⟩):=by show aF (y.L.take<|k+1) m=⟨x.e,r.m,1,x.ps++[r.a]⟩;rw[HS.o];simp[St.step,hp,k2,s0]);(have s0':(x.s==0)=false:=by simpa using s0);clear HS;have Pq:=aQe<|HG.o.put (x':=⟨x.e,r.m,1,x.ps⟩) (((Fr.refl (λq=>q=w+1) wr).setCell (p:=⟨M (R w)+1,1,U⟩) (.inl J) _).setCell (p:=⟨M (R w)+1,2,U⟩) (.inl J) _) (eX (eX HG.o.b2 1 _) 2 _) (.inl ⟨J,J⟩);have e3:=Pq.o.b2;(have fE:Value.ownBlock (.slice va (O x.ps) vc)≠Y (M (R w)+1):=mZ Pq.o.row Pq.o.b2 Xa);go_wp2_with (at_builtin;apply aQU _ J _ _ 43 J w 3 i0 _ 1 8 underlying43 dL fM ed fV J Xa (.slice va (O x.ps) vc) (O x.ps) (dY x.ps) J (((aQ _).alloc _).ownsRow Pq.o.row λ_ _=>id) ⟨M (R wr)+1,0,U⟩ 1 1 [r.a] J J (World.news_of_block (cs:=#[r.a]) (t:=3) (fr:=(0,0))<|rM _ Xy) Y7 Xa (by have:=Bg.o;have:=HB.o;exact aQp) (by have:=Bg.o;have:=HB.o;omega) Xz (wr+1+1) Xy;intro gg jG w3 jO gW lX mW;have jJ:=(gW.block (w+1) Xz<|Ne.s fE).t<|((aQ _).alloc _).block _ (bF e3) id |>.t e3;have q3:=cc jJ 3;have qf:∀o,w3.frozen? ⟨M (R w)+1,o,U⟩=false:=gJ jJ;clear jJ);go_roundw;(case rel=>refine⟨k+1,YV,Y4,aP (Y ⟨gg,0,U⟩) (O x.ps+1) jG,?_⟩;rw[Dl.o];refine Pq.o.app ((aQ _).alloc _) gW jO λq hq=>?_;simp only[Value.ownBlock,iR]at hq;subst hq;rcases lX with a2|a2;{exact .inl a2};exact .inr (Xz));case measure=>simp[bM]<;>omega}};(have k2':(r.k==2)=false:=by simpa using k2);by_cases k3:r.k=3;{(have Dl:I (aF (y.L.take<|k+1) m=⟨x.e,x.t,3-r.a,x.ps⟩):=by show aF (y.L.take<|k+1) m=⟨x.e,x.t,3-r.a,x.ps⟩;rw[HS.o];simp[St.step,hp,k3]);have uf:=HA.o.1;have J9:=HA.o.2;clear HS;go_wp2_with fail;go_roundw;(case rel=>refine⟨k+1,YV,Y4,.slice va (O x.ps) vc,?_⟩;rw[Dl.o];exact CQ.a (w1:=aZ wr ⟨M (R w)+1,2,U⟩<|.int .i64<|3-r.a) (HG.o.put (x':=⟨x.e,x.t,3-r.a,x.ps⟩) ((Fr.refl (λq=>q=w+1) wr).setCell (p:=⟨M (R w)+1,2,U⟩) (.inl J) _) (eX HG.o.b2 2 _)<|.inl ⟨J,J⟩)<|aQ _);case measure=>simp[bM]<;>omega};(have k3':(r.k==3)=false:=by simpa using k3);by_cases k4:r.k=4;{(have Dl:I (aF (y.L.take<|k+1) m=⟨x.e,x.t,0,x.ps⟩):=by show aF (y.L.take<|k+1) m=⟨x.e,x.t,0,x.ps⟩;rw[HS.o];simp[St.step,hp,k4]);clear HS;go_wp2_with fail;go_roundw;(case rel=>refine⟨k+1,YV,Y4,.slice va (O x.ps) vc,?_⟩;rw[Dl.o];exact CQ.a (w1:=aZ wr ⟨M (R w)+1,2,U⟩<|V Z 0) (HG.o.put (x':=⟨x.e,x.t,0,x.ps⟩) ((Fr.refl (λq=>q=w+1) wr).setCell (p:=⟨M (R w)+1,2,U⟩) (.inl J) _) (eX HG.o.b2 2 _)<|.inl ⟨J,J⟩)<|aQ _);case measure=>simp[bM]<;>omega};{(have k4':(r.k==4)=false:=by simpa using k4);(have Dl:I (aF (y.L.take<|k+1) m=x):=by show aF (y.L.take<|k+1) m=x;rw[HS.o];simp[St.step,hp,k1,k2,k3,k4]);clear HS k1 k2 k3 k4;go_wp2_with fail;go_roundw;(case rel=>exact⟨k+1,YV,Y4,.slice va (O x.ps) vc,by rw[Dl.o];exact HG.o.a<|aQ _⟩);case measure=>simp[bM]<;>omega}};{(have IW:(r.p==m)=false:=by simpa using hp);(have Dl:I (aF (y.L.take<|k+1) m=x):=by show aF (y.L.take<|k+1) m=x;rw[HS.o];simp[St.step,hp]);clear HS;go_wp2_with fail;go_roundw;(case rel=>exact⟨k+1,YV,Y4,.slice va (O x.ps) vc,by rw[Dl.o];exact HG.o.a<|aQ _⟩);case measure=>simp[bM]<;>omega}};(have HT:I (aF y.L m=x):=by show aF y.L m=x;rw[<-hx,xN YV]);have a0:=cc HG.o.b1 0;have a1:=cc HG.o.b1 1;have a2:=cc HG.o.b1 2;have a3:=cc HG.o.b1 3;have af:∀o,wr.frozen? ⟨M (R w),o,U⟩=false:=gJ HG.o.b1;clear hx;go_wp2;have hb:=eX (eX (eX (eX HG.o.b1 0 x.e) 1 x.t) 2 x.s) 3<|.slice va (O x.ps) vc;have fs:=((((Fr.refl (λq=>q=w) wr).setCell (p:=⟨M (R w),0,U⟩) (.inl J) x.e).setCell (p:=⟨M (R w),1,U⟩) (.inl J) x.t).setCell (p:=⟨M (R w),2,U⟩) (.inl J) x.s).setCell (p:=⟨M (R w),3,U⟩) (.inl J)<|.slice va (O x.ps) vc;apply aQY (adD J _ _ _ 157 _ (0,0) _ J hb underlying157 J ayD) J;rw[HT.o];refine⟨_,J,?_,HG.o.fr.t fs λq hq=>.inr YV⟩;refine fs.ownsRow HG.o.row λq hq e=>?_;subst e;have h1:=ig HG.o.row hq;rw[lM HG.o.b1]at h1;cases h1
end
end
section
def jE(m:Nat):Nat->List UInt8|0=>[]|k+1=>jE (m/256) k++[UInt8.ofNat<|m%256]
theorem Jq(m k):(jE m k).length=k:=by induction k generalizing m with|zero=>rfl|succ k H=>simp[jE,H]
def str(l:List UInt8):Value:=dN ⟨l.toArray⟩
def ou(s:ByteArray)(l:List UInt8):Prop:=s.data.toList=l/\s.size=l
def Wr(k:Nat):Prop:=∀n w,0<=n->n<=9223372036854775807->aH aj 150 #[V Z n,k] w λr w'=>∃s,r=dN s/\ou s (jE n.toNat k)/\Fr aB w w'
def ay2:Wr 0:=by intro n w _ _;go_wp2;go_ret;exact⟨_,J,⟨J,J⟩,Fr.refl _ _⟩
variable{n}{k:Nat}
def ay3(h0:0<=n)(hm:n<=9223372036854775807):fU Z (n.tdiv 256)=n/256:=by simp only[IntKind.wrap,IntKind.bits,IntKind.signed];grind
def ay4(hk:k<=8):fU Z (k:Int)=k:=by simp only[IntKind.wrap,IntKind.bits,IntKind.signed];grind
def wrap_u8(h0:0<=n)(hm:n<256):IntKind.u8.wrap n=n:=by simp only[IntKind.wrap,IntKind.bits,IntKind.signed];grind
def ay5(w){b}(h:w b=Y (.int .u8 n)):(convert 99 9<|aP (Y ⟨b,0,U⟩) 1 1).run aj w=.ok (str [UInt8.ofNat n.toNat]) w:=by have H:=run_loadCells_list (P:=aj) w _ [.int .u8 n] (λj v hv=>by match j with|0=>rw[Addr.add_lit,<-hv];simpa using h|j+1=>simp at hv);rw[run_convert_bytes_string w 99 9 5 _ 1 1 Y0 Y0 Y0,run_bytesToString w _ 1 1 [n] H];rfl
def ou.app{s t l m}(h:ou s l)(H:ou t m):ou (s++t) (l++m):=by refine⟨?_,?_⟩;{rw[ByteArray.data_append,Array.toList_append,h.1,H.1]};rw[ByteArray.size_append,h.2,H.2,kZ]
def ay6(hk:k<=8)(ih:Wr k)(n w)(h0:0<=n)(hm:n<=9223372036854775807):aH aj 150 #[V Z n,.int .i64<|(k:Int)+1] w λr w'=>∃s,r=dN s/\ou s (jE n.toNat<|k+1)/\Fr aB w w':=by
 have HQ:I (∀w,aH aj 150 #[.int .i64<|n/256,k] w λr w'=>∃s,r=dN s/\(ou s (jE (n/256).toNat k)/\s.size<=8)/\Fr aB w w'):=λw=>(ih (n/256) w YV YV).z λ_ _ ⟨s,h1,h2,h3⟩=>⟨s,h1,⟨h2,by rw[h2.2,Jq];exact hk⟩,h3⟩;have H:I (jE n.toNat (k+1)=jE (n/256).toNat k++[UInt8.ofNat (n%256).toNat]):=by show jE (n.toNat/256) k++[UInt8.ofNat<|n.toNat%256]=_;rw[show(n/256).toNat=n.toNat/256 by omega,show(n%256).toNat=n.toNat%256 by omega]
 have hq:=ay3 h0 hm;have hr:=Int.tmod_eq_emod_of_nonneg (b:=256) h0;have hc:=wrap_u8 (n:=n%256) YV YV;have hwk:=ay4 hk;have fE:((k:Int)+1==0)=false:=Xz
 generalize n/256=q at HQ H hq;generalize n%256=r at H hr hc;have⟨t,ht,hs⟩:∃t,ou t [UInt8.ofNat r.toNat]/\∀W b,au W ⟨b,0,U⟩=Y (.int .u8 r)->(convert 99 9<|aP b 1 1).run aj W=.ok t W:=⟨⟨#[UInt8.ofNat r.toNat]⟩,⟨J,J⟩,λW b h=>ay5 W h⟩;have HT:=aQe ht;have ht1:=ht.2;generalize jE q.toNat k=l at HQ H;generalize[UInt8.ofNat r.toNat]=l2 at H HT ht;have HSS:=aQe hs;have Ou:∀W:ae,(convert 99 9<|aP W 1 1).run aj (W.alloc<|aC #[.int .u8 r] 5)=.ok t (W.alloc<|aC #[.int .u8 r] 5):=λW=>hs _ _ (by simp);have zo:∀W:ae,(convert 99 9<|aP (M (R W)) 1 1).run aj (W.alloc<|aC #[.int .u8 r] 5).drew=.ok (dN t) (W.alloc<|aC #[.int .u8 r] 5).drew:=λW=>hs _ _ (by simp);clear ih h0 hm ht hs;go_enter func150,ntmps150;go_wp2_with fail;go_region_law ((go_simp;go_at_call 150;(with_reducible refine(HQ.o _).z ?_;rintro e w1 ⟨s1,rfl,⟨mV,QN⟩,aI⟩);have T1:I (ou s1 l):=mV;(have hlen:¬(9223372036854775807<s1.size+1):=by omega);(have aN5:s1.size+1<=9223372036854775807:=by omega);first|(have F1:I (Fr aB w w1):=(Fr.dr _).t aI dA;clear mV aI)|(have F1:I (Fr aB w w1):=((aQ _).drew).t aI dA;(have LX:=HSS w1 (M (R w))<|(aI.cell (p:=(M (R w))) (by simp) id).t<|by simp);clear mV aI)));all_goals go_wp2;go_ret;refine⟨_,J,?_,?_⟩;{rw[H];exact T1.app HT};{first|exact F1|exact F1.alloc _|exact F1.drew|exact(F1.alloc _).drew}
def Sj:∀k,k<=9->Wr k|0,_=>ay2|k+1,hk=>λn w h0 hm=>ay6 YV (Sj k YV) n w h0 hm
end
def EX(x:Int×Int)(b:UInt8):Int×Int:=((x.1+b.toNat)%65521,(x.2+(x.1+b.toNat)%65521)%65521)
def oM(l:List UInt8):Int×Int:=l.foldl EX (1,0)
def an8(l b):oM (l++[b])=EX (oM l) b:=by simp[oM,UC]
def Sl(l):0<=(oM l).1/\(oM l).1<65521/\0<=(oM l).2/\(oM l).2<65521:=by (have H:∀(l:List _) (x:Int×Int),(0<=x.1/\x.1<65521/\0<=x.2/\x.2<65521)->(0<=(l.foldl EX x).1/\(l.foldl EX x).1<65521/\0<=(l.foldl EX x).2/\(l.foldl EX x).2<65521):=by intro l;induction l with|nil=>grind|cons b l ih=>intro x h;exact ih _ ⟨by simp only[EX];omega,by simp only[EX];omega,by simp only[EX];omega,by simp only[EX];omega⟩);exact H l _<|by simp
def ji(r:Rc):List UInt8:=jE r.k.toNat 1++jE r.p.toNat 1++jE r.a.toNat 1++jE 0 1++jE r.m.toNat 8
def dQ(r:Rc):List UInt8:=ji r++jE ((oM<|ji r).2*65536+(oM<|ji r).1).toNat 4
theorem Pv(r):(ji r).length=12:=by simp[ji,Jq]
theorem DR(r):(dQ r).length=16:=by simp[dQ,Pv,Jq]
structure Rc.Ok(r:Rc):Prop where
 k0:0<=r.k
 k1:r.k<=9223372036854775807
 p0:0<=r.p
 p1:r.p<=9223372036854775807
 a0:0<=r.a
 a1:r.a<=9223372036854775807
 m0:0<=r.m
 m1:r.m<=9223372036854775807
theorem ou.get{s l}(h:ou s l){k c}(hk:l[k]? =Y c)(hs:k<s.size):s[k]=c:=by (have H:s.data.toList[k]? =c:=by rwa[h.1]);rw[Array.getElem?_toList]at H;exact(uZ.1 H).2
theorem wrap_i64{n}(h0:0<=n)(hm:n<9223372036854775808):fU Z n=n:=by simp only[IntKind.wrap,IntKind.bits,IntKind.signed];grind
def adG(w r)(h:r.Ok):aH aj 103 #[jf #[r.k,r.p,r.a,r.m]] w λe w'=>∃s,e=dN s/\ou s (dQ r)/\Fr aB w w':=by have HO:=aQe h;clear h;go_enter func103,ntmps103;go_wp2_with fail;have z0:(w.alloc<|aC #[V Z r.k,V Z r.p,V Z r.a,V Z r.m] 155).heap[M (R w)]? =Y (aC #[V Z r.k,V Z r.p,V Z r.a,V Z r.m] 155 (0,0)):=heap_alloc_new _ _;have HZ:=aQe z0;clear z0;go_region_held3 (λw'=>au w' (M (R w))=Y (V Z r.k)/\au w' (M (R w),1)=Y (V Z r.p)/\au w' (M (R w),2)=Y (V Z r.a)/\au w' (M (R w),3)=Y (V Z r.m)) (first|with_reducible exact C5|with_reducible exact C4|with_reducible exact C3|with_reducible exact C2|with_reducible exact C1|go_keep) (first|(go_at_call 150;have _:=F4;apply(show aH aj 150 _ _ _ from Sj 8 Xa r.m _ HO.m0 HO.m1).z;rintro e w5 ⟨s5,rfl,H,hf⟩;have T5:=aQe H;have F5:=aQe<|F4.t hf dA;have B5:=(F5.block _ (bF HZ) id).t HZ;have C5:au w5 (M (R w))=Y (V Z r.k)/\au w5 (M (R w),1)=Y (V Z r.p)/\au w5 (M (R w),2)=Y (V Z r.a)/\au w5 (M (R w),3)=Y (V Z r.m):=⟨aJ B5 0,aJ B5 1,aJ B5 2,aJ B5 3⟩;have n5:s5.size=8:=H.2.t<|Jq _ _;(have e5:¬(9223372036854775807<s1.size+s2.size+s3.size+s4.size+s5.size):=YV);clear H hf B5)|(go_at_call 150;have _:=F3;apply(show aH aj 150 _ _ _ from Sj 1 Xa 0 _ Xa Xa).z;rintro e w4 ⟨s4,rfl,H,hf⟩;have T4:=aQe H;have F4:=aQe<|F3.t hf dA;have B4:=(F4.block _ (bF HZ) id).t HZ;have C4:au w4 (M (R w))=Y (V Z r.k)/\au w4 (M (R w),1)=Y (V Z r.p)/\au w4 (M (R w),2)=Y (V Z r.a)/\au w4 (M (R w),3)=Y (V Z r.m):=⟨aJ B4 0,aJ B4 1,aJ B4 2,aJ B4 3⟩;have n4:s4.size=1:=H.2.t<|Jq _ _;clear H hf B4)|(go_at_call 150;have _:=F2;apply(show aH aj 150 _ _ _ from Sj 1 Xa r.a _ HO.a0 HO.a1).z;rintro e w3 ⟨s3,rfl,H,hf⟩;have T3:=aQe H;have F3:=aQe<|F2.t hf dA;have B3:=(F3.block _ (bF HZ) id).t HZ;have C3:au w3 (M (R w))=Y (V Z r.k)/\au w3 (M (R w),1)=Y (V Z r.p)/\au w3 (M (R w),2)=Y (V Z r.a)/\au w3 (M (R w),3)=Y (V Z r.m):=⟨aJ B3 0,aJ B3 1,aJ B3 2,aJ B3 3⟩;have n3:s3.size=1:=H.2.t<|Jq _ _;clear H hf B3)|(go_at_call 150;have _:=F1;apply(show aH aj 150 _ _ _ from Sj 1 Xa r.p _ HO.p0 HO.p1).z;rintro e w2 ⟨s2,rfl,H,hf⟩;have T2:=aQe H;have F2:=aQe<|F1.t hf dA;have B2:=(F2.block _ (bF HZ) id).t HZ;have C2:au w2 (M (R w))=Y (V Z r.k)/\au w2 (M (R w),1)=Y (V Z r.p)/\au w2 (M (R w),2)=Y (V Z r.a)/\au w2 (M (R w),3)=Y (V Z r.m):=⟨aJ B2 0,aJ B2 1,aJ B2 2,aJ B2 3⟩;have n2:s2.size=1:=H.2.t<|Jq _ _;clear H hf B2)|(go_at_call 150;apply(show aH aj 150 _ _ _ from Sj 1 Xa r.k _ HO.k0 HO.k1).z;rintro e w1 ⟨s1,rfl,H,hf⟩;have T1:=aQe H;have F1:=aQe hf;have B1:=(F1.block _ (bF HZ) id).t HZ;have C1:au w1 (M (R w))=Y (V Z r.k)/\au w1 (M (R w),1)=Y (V Z r.p)/\au w1 (M (R w),2)=Y (V Z r.a)/\au w1 (M (R w),3)=Y (V Z r.m):=⟨aJ B1 0,aJ B1 1,aJ B1 2,aJ B1 3⟩;have n1:s1.size=1:=H.2.t<|Jq _ _;clear H hf B1));have TS:ou (s1++s2++s3++s4++s5) (ji r):=(((T1.app T2).app T3).app T4).app T5;have FS:=aQe<|((aQ _).drew).t F5 dA;generalize s1++s2++s3++s4++s5=s at TS⊢;have hn:s.size=12:=TS.2.t<|Pv r;have Xl:=aQe TS;clear TS n1 n2 n3 n4 n5 e5 C1 C2 C3 C4 C5;go_wp2_with fail;go_loopw [4,5,6] (λa b i w'=>∃k:Nat,k<=12/\i=V Z k/\a=V Z (oM<|(ji r).take k).1/\b=V Z (oM<|(ji r).take k).2/\w'=w5) (λ_ _ i _=>(12-bM i).toNat);(case atStart=>exact⟨0,YV,J,J,J,J⟩);case round=>obtain⟨k,hk,rfl,rfl,rfl,rfl⟩:=hrel;by_cases aO:k<12;{obtain⟨c,hc⟩:∃c,(ji r)[k]? =Y c:=⟨_,gG (by rw[Pv];exact aO)⟩;(have hsk:k<s.size:=YV);have Ox:=Xl.get hc hsk;(have HA:I (oM ((ji r).take<|k+1)=EX (oM<|(ji r).take k) c):=by show oM ((ji r).take<|k+1)=_;rw[uz,hc,Cb,an8]);have qy:=Sl<|(ji r).take k;generalize oM ((ji r).take k)=ab at HA qy;have⟨a,b⟩:=ab;simp only at qy⊢;have⟨i1,i2,i3,i4⟩:=qy;have⟨x,H⟩:∃x,(c.toNat:Int)=x:=⟨_,J⟩;(have vJ:0<=x:=YV);(have mV:x<256:=by have:=c.toNat_lt;omega);have⟨a1,uf⟩:∃a1,(a+x)%65521=a1:=⟨_,J⟩;have⟨b1,qR⟩:∃b1,(b+a1)%65521=b1:=⟨_,J⟩;(have q1:fU Z (a+x)=a+x:=wrap_i64 YV YV);(have q2:(a+x).tmod 65521=a1:=Zv);(have q3:fU Z (b+a1)=b+a1:=wrap_i64 YV YV);(have q4:(b+a1).tmod 65521=b1:=Zv);(have q5:fU Z x=x:=wrap_i64 vJ YV);(have Em:I (oM ((ji r).take<|k+1)=(a1,b1)):=by show oM ((ji r).take<|k+1)=(a1,b1);rw[HA];simp only[EX];rw[H,uf,qR]);(have FB:(0:Int)<=(k:Int):=YV);(have aX:(k:Int)<12:=YV);clear HA uf qR i1 i2 i3 i4 vJ mV hc;go_wp2_with fail;go_roundw;(case rel=>exact⟨k+1,YV,Y4,by rw[Em],by rw[Em],trivial⟩);case measure=>simp[bM]<;>omega};(have aJ6:k=12:=YV);have HT:I ((ji r).take k=ji r):=xN (by rw[Pv];omega);subst aJ6;have qy:=Sl<|ji r;have Sm:I (dQ r=ji r++jE ((oM<|ji r).2*65536+(oM<|ji r).1).toNat 4):=J;rw[HT];generalize oM (ji r)=ab at qy Sm;have⟨a,b⟩:=ab;simp only at qy Sm⊢;have⟨i1,i2,i3,i4⟩:=qy;(have q1:fU Z (b*65536)=b*65536:=wrap_i64 YV YV);(have q2:fU Z (b*65536+a)=b*65536+a:=wrap_i64 YV YV);have HN:I (0<=b*65536+a/\b*65536+a<=9223372036854775807):=⟨YV,YV⟩;have HW:I (∀w,aH aj 150 #[.int .i64<|b*65536+a,V Z 4] w λr w'=>∃s,r=aU (dN s)/\ou s (jE (b*65536+a).toNat 4)/\Fr aB w w'):=λw=>Sj 4 Xa _ w HN.1 HN.2;clear i1 i2 i3 i4;go_wp2_with (go_at_call 150;apply(HW _).z;rintro e w6 ⟨s6,rfl,H,hf⟩;have T6:=aQe H;have F6:=aQe<|FS.t hf dA;have n6:s6.size=4:=H.2.t<|Jq _ _;clear H hf);go_ret;refine⟨_,J,?_,F6⟩;rw[Sm];exact Xl.app T6
section
section
variable{w w' B yb y}
def ay7(h:aY w B yb y)(hR:∀r∈y.L,r.Ok){tl}(ht:ou y.qx tl)(hb:y.L*16+O tl<=2^47):aH aj 42 #[ak yb] w λr w'=>∃s,r=dN s/\ou s (y.L.flatMap dQ++tl)/\Fr aB w w':=by have H:=aQe h;have HR:=aQe hR;have HT:=aQe ht;have QH:y.qx.size=tl:=ht.2;have c8:=h.k 8;have c9:=h.k 9;have⟨la,lc,hl,rE⟩:=jR h.tH;unfold cZ at rE;rw[hl]at c8;have yB:=aQe hl;have aO:=bF h.blk;clear h hR ht hl;go_enter func42,ntmps42;go_wp2_with fail;go_loopw [3,4] (λsv i w'=>∃k,k<=O y.L/\i=k/\(∃s,sv=dN s/\ou s ((y.L.take k).flatMap dQ))/\Fr aB w w') (λ_ i _=>y.L-(bM i).toNat);(case atStart=>exact⟨0,jQ _,J,⟨_,J,J,J⟩,Fr.refl _ _⟩);case round=>obtain⟨k,hk,rfl,⟨s,rfl,hs⟩,hf⟩:=hrel;have HS:=aQe hs;have HF:=aQe hf;(have hlen:((y.L.take k).flatMap dQ).length=16*k:=by rw[List.length_flatMap];(have:(y.L.take k).map (λr=>(dQ r).length)=List.replicate k 16:=by rw[acK λr _=>DR r,List.map_const',Rh,af6 hk]);rw[this,List.sum_replicate_nat];omega);have gV:s.size=16*k:=hs.2.t hlen;have d8:wr (yb,8)=Y (.slice la y.L lc):=(hf.cell (p:=(yb,8)) aO id).t c8;have d9:wr (yb,9)=(y.qx):=(hf.cell (p:=(yb,9)) aO id).t c9;(have yU:I (bI wr B 155 4 (.slice la y.L lc) y.L<|y.L.flatMap Rc.cs):=by have:=hf.ownsRow H.tH Zv;rw[yB]at this;grind);clear hs hf hlen;by_cases jD:k<y.L;{have⟨r,hr⟩:∃r,y.L[k]? =Y r:=Y0;(have Bd:I ((y.L.take<|k+1).flatMap dQ=(y.L.take k).flatMap dQ++dQ r):=by show(y.L.take<|k+1).flatMap dQ=_;rw[uz,hr,Cb,ED];simp);(have HO:=aQe<|HR r Zv);rcases yU.2 with⟨_,h0⟩|⟨g,cap,cur,hv,kE,hg,h1,h2,_⟩;{omega};{simp only[aQQ]at hv;obtain⟨rfl,_,rfl⟩:=hv;have⟨r0,r1,r2,r3⟩:=an7 yU hr;(have J8:(k:Int)<(y.L:Int):=YV);clear hr hg h2 kE;go_wp2_with (go_at_call 103;apply(adG wr r HO).z;rintro e w2 ⟨s2,rfl,hx,bJ⟩;have T2:=aQe hx;have F2:=aQe<|HF.t bJ Y0;have n2:s2.size=16:=hx.2.t<|DR r;have e2:¬(9223372036854775807<s.size+s2.size):=YV;clear hx bJ);go_roundw;(case rel=>exact⟨k+1,YV,Y4,⟨_,J,by rw[Bd];exact HS.app T2⟩,F2⟩);case measure=>simp[bM]<;>omega}};(have qJ:k=y.L:=YV);subst qJ;(have Bd:=aQe<|xN YV);(have e2:¬(9223372036854775807<s.size+y.qx.size):=YV);go_wp2;go_ret;refine⟨_,J,?_,HF⟩;have:=HS;rw[Bd]at this;exact this.app HT
end
end
section
def an9:(prog.info? 155).map (λi=>(i.zero,i.size,i.bytes))=(Y<|jf #[V Z 0,V Z 0,V Z 0,V Z 0],4,32):=KG
section
variable{w w':ae}{B yb:Nat}{y:RS}
def RS.wrote(y:RS)(r:Rc)(lv:ai):RS:={y with lv:=lv,L:=y.L++[r]}
def RS.ay8(y:RS)(r lv):y.cells.setIfInBounds 8 lv=(y.wrote r lv).cells:=by obtain⟨P,Q,T,K,dn,br,kp,tm,lv0,L,qx,dv,D,hv,H,gv,G,ov,aPW,nv,N⟩:=y;kernel_rfl
structure adH(w w':ae)(B yb:Nat)(y:RS)(r:Rc)(lv:ai):Prop where
 at_:aY w' B yb (y.wrote r lv)
 fr:Fr (λk=>k=yb\/y.lv.ownBlock=Y k) w w'
 mY:∀k,dw lv=Y k->y.lv.ownBlock=Y k\/M (R w)<=k
def aY.aob{W w3 r lv}(h:aY w B yb y)(fW:Fr aB w W)(hg:W.grownBy w3 y.lv.ownBlock)(fK:bI w3 B 155 4 lv (y.L+1) (y.L.flatMap Rc.cs++r.cs))(dR:∀q,dw lv=Y q->y.lv.ownBlock=q\/w<=q):adH w (aZ w3 (yb,8) lv) B yb y r lv:=by have f3:Fr (λq=>y.lv.ownBlock=q) w w3:=(fW.z dA).grown hg λq e=>e;have hz:=bF h.blk;have n1:y.lv.ownBlock≠yb:=mZ h.tH h.blk Xa;have fs:Fr (λq=>q=yb) w3 (aZ w3 (yb,8) lv):=(Fr.refl (λq=>q=yb) w3).setCell (p:=(yb,8)) (.inl J) _;have f4:Fr (λq=>q=yb\/y.lv.ownBlock=q) w (aZ w3 (yb,8) lv):=(f3.z λq e=>e).t fs λq e=>e;(have H:∀{ty:dB} {wd:Nat} {v:ai} {n:Nat} {xs:List ai},bI w B ty wd v n xs->ty≠155->ty≠138->∀q,dw v=Y q->¬(q=yb\/y.lv.ownBlock=q):=λ{ty wd v n xs} hr h1 h2 q hq e=>by have ht:=ig hr hq;rcases e with e|e;{subst e;rw[lM h.blk]at ht;exact h2 ht.s};have:=ig h.tH e;rw[ht]at this;exact h1 this);refine⟨⟨?_,?_,f4.ownsRow h.ik<|H h.ik Xa Xa,f4.ownsRow h.heard<|H h.heard Xa Xa,f4.ownsRow h.dO<|H h.dO Xa Xa,f4.ownsRow h.outs<|H h.outs Xa Xa,f4.ownsRow h.kL<|H h.kL Xa Xa,λg Dn=>?_,h.hy,h.hP,h.hQ⟩,f4,dR⟩;{rw[eX<|(f3.block _ hz n1).t h.blk,RS.ay8 y r]};{show(aZ w3 (yb,8) lv).ownsRow B 155 4 lv (y.L++[r]).length ((y.L++[r]).flatMap Rc.cs);rw[kZ,ED,show[r].flatMap Rc.cs=r.cs by simp];refine fs.ownsRow fK λq hq e=>?_;subst e;rcases dR _ hq with a|a;{exact n1 a};omega};refine(h.refs g Dn).stay f4 λq hq hf=>?_;rcases hq with hq|hq;{have h0:=lM h.blk;subst hq;rcases(h.refs g Dn).tags hf with h1|h1<;>rw[h0]at h1<;>cases h1};have h0:=ig h.tH hq;rcases(h.refs g Dn).tags hf with h1|h1<;>rw[h0]at h1<;>cases h1
def ahx(h:aY w B yb y)(iM:y.br=ah)(r)(hb:(O y.L+1)*32<=2^47):aH aj 131 #[ak yb,jf #[r.k,r.p,r.a,r.m]] w λe w'=>e=A/\∃lv,adH w w' B yb y r lv:=by
 have⟨i0,dL,fM,ed,fV⟩:=aQX an9;have H:=aQe h;have HB:=aQe hb;have c5:au w (yb,5)=Y (y.br):=h.c 5;rw[iM]at c5;have c8:au w (yb,8)=Y y.lv:=h.c 8;have cf:∀o,w.frozen? ⟨yb,o,U⟩=false:=gJ h.blk;have⟨la,lc,hl,rE⟩:=jR h.tH;rw[hl]at c8;have yB:=aQe hl;have aO:=bF h.blk;have uU:Value.ownBlock (.slice la (O y.L) lc)≠Y yb:=by rw[<-hl];exact mZ h.tH h.blk Xa
 have Ye:B<=w:=EG<|OQ h.hy aO;have yU:I (bI w B 155 4 (.slice la (O y.L) lc) (O y.L)<|y.L.flatMap Rc.cs):=by have:=h.tH;rw[hl]at this;exact this
 clear h iM hb hl rE;go_enter func131,ntmps131;go_wp2_with fail;go_region_law ((apply aRd _ aQr _ _ _ aQr B 155 i0 _ 4 32 underlying134 dL fM ed fV J YV (.slice la (O y.L) lc) (O y.L) (y.L.flatMap Rc.cs) aQr ((((aQ _).alloc _).drew).ownsRow yU λ_ _=>id) ⟨M (R w)+1,0,U⟩ 1 1 [r.k,r.p,r.a,r.m] aQr aQr (World.news_of_block (cs:=#[r.k,r.p,r.a,r.m]) (t:=155) (fr:=(0,0)) (by show((bH w _).alloc _).heap[_]? =_;exact rM _ Xy)) Y7 YV (by have:=HB.o;exact aQp) HB Xz (w+1+1) Xy;intro gg cap w3 fK oz dR mW;have jJ:=(oz.block yb Xz<|Ne.s uU).t<|(((aQ _).alloc _).drew.block _ aO id).t H.blk;have k0:au w3 ⟨yb,8,U⟩=Y (.slice la (O y.L) lc):=(aJ jJ 8).t (by show Y y.lv=_;rw[yB]);have k1:∀o,w3.frozen? ⟨yb,o,U⟩=false:=gJ jJ;clear jJ));all_goals go_wp2;go_ret;refine⟨J,_,H.aob (W:=(((w.alloc<|aC #[r.k,r.p,r.a,r.m] 155).alloc<|aC #[r.k,r.p,r.a,r.m] 155).drew)) (((aQ _).alloc _).drew) (by rw[yB];exact oz) fK λq hq=>?_⟩;simp only[Value.ownBlock,iR]at hq;subst hq;rcases dR with a|a;{exact .inl (by rw[yB];exact a)};{exact .inr YV}
end
end
section
section
variable{w w':ae}{B yb:Nat}{y:RS}
def RS.down(y:RS):RS:={y with dn:=A,br:=ah}
def RS.ay9(y:RS):(y.cells.setIfInBounds 5 ah).setIfInBounds 4 A=y.down.cells:=KG
def aY.goDown(h:aY w B yb y):aY ((aZ w (yb,5) ah).setCell (yb,4) A) B yb y.down/\Fr (λk=>k=yb) w ((aZ w (yb,5) ah).setCell (yb,4) A):=by have fr:Fr (λk=>k=yb) w ((aZ w (yb,5) ah).setCell (yb,4) A):=aQx;refine⟨h.put fr ?_ J J (fr.ownsRow h.ik λk H e=>mZ h.ik h.blk Xa (by subst e;exact H)) J J J J J J J J J J,fr⟩;rw[eX (eX h.blk 5 _) 4 _,y.ay9]
def aza(h:aY w B yb y)(iM:y.br=A)(FI:y.kp<=0)(r:Rc)(hr:r.Ok):aH aj 131 #[ak yb,jf #[r.k,r.p,r.a,r.m]] w λe w'=>e=ah/\aY w' B yb y.down/\Fr (λk=>k=yb) w w':=by have H:=aQe h;have HO:=aQe hr;have c5:=h.k 5;rw[iM]at c5;have c4:=h.k 4;have c6:=h.k 6;have cf:=gJ h.blk;have aO:=bF h.blk;clear h iM hr;go_enter func131,ntmps131;go_wp2_with (first|(go_at_call 103;apply(adG _ r HO).z;rintro e w2 ⟨s,rfl,hx,hf⟩;have T2:=hx;have n2:=hx.2.t<|DR r;have G2:I (aY w2 B yb y.down/\Fr (λk=>k=yb) w w2):=⟨H.goDown.1.a<|by grind[Fr.t,aQ],H.goDown.2.t ((aQ _).t hf dA) Zv⟩;have d6:w2 (yb,6)=y.kp:=G2.1.c 6;have d8:=G2.1.k 8;have d9:=G2.1.k 9;clear hx hf));go_ret;exact⟨J,G2⟩
def RS.ahy(y:RS)(s:ByteArray):RS:={y with qx:=s}
def RS.azb(y:RS)(s):y.cells.setIfInBounds 9 (dN s)=(y.ahy s).cells:=KG
def azc(h:aY w B yb y)(iM:y.br=A)(FI:0<y.kp)(aMr:y.kp<16)(r)(hr:r.Ok):aH aj 131 #[ak yb,jf #[r.k,r.p,r.a,r.m]] w λe w'=>e=ah/\(∃s,ou s ((dQ r).take y.kp.toNat)/\aY w' B yb (y.down.ahy s))/\Fr (λk=>k=yb) w w':=by have H:=aQe h;have HO:=aQe hr;have c5:=h.k 5;rw[iM]at c5;have c4:=h.k 4;have c6:=h.k 6;have cf:∀o,w.frozen? ⟨yb,o,U⟩=false:=gJ h.blk;have aO:=bF h.blk;clear h iM hr;go_enter func131,ntmps131;go_wp2_with (first|(go_at_call 103;apply(adG _ r HO).z;rintro e w2 ⟨s,rfl,hx,hf⟩;have T2:=aQe hx;have n2:s.size=16:=hx.2.t<|DR r;have G2:I (aY w2 B yb y.down/\Fr (λk=>k=yb) w w2):=⟨H.goDown.1.a<|by grind[Fr.t,aQ],H.goDown.2.t ((aQ _).t hf dA) Zv⟩;have d6:w2 (yb,6)=(y.kp):=G2.1.c 6;have d8:=G2.1.k 8;have d9:=G2.1.k 9;have df:∀o,w2.frozen? ⟨yb,o,U⟩=false:=gJ G2.1.blk;(have B2:I (w2.heap[M (R w)]? =aC #[r.k,r.p,r.a,r.m] 155 (0,0)):=(hf.block _ Xy id).t<|rM _ Xy);clear hx hf));go_ret;have f9:Fr (λk=>k=yb) w2 (aZ w2 (yb,9)<|.string<|s.extract 0 y.kp.toNat):=aQx;refine⟨J,⟨s.extract 0 y.kp.toNat,?_,G2.1.put f9 ?_ J J (f9.ownsRow G2.1.ik λk hk e=>mZ G2.1.ik G2.1.blk Xa (by subst e;exact hk)) J J J J J J J J J J⟩,(by grind[Fr.t,Hid])⟩;{(have hk:y.kp.toNat<=16:=YV);(have e1:(s.extract 0 y.kp.toNat).data.toList=(dQ r).take y.kp.toNat:=by rw[ByteArray.data_extract,Array.toList_extract,T2.1];simp);exact⟨e1,by rw[<-e1];rfl⟩};rw[eX G2.1.blk,RS.azb]
def azd(h:aY w B yb y)(iM:y.br=A)(FI:16<=y.kp)(r)(hr:r.Ok)(hb:(O y.L+1)*32<=2^47):aH aj 131 #[ak yb,jf #[r.k,r.p,r.a,r.m]] w λe w'=>e=ah/\∃lv,aY w' B yb (y.down.wrote r lv)/\Fr (λk=>k=yb\/y.lv.ownBlock=k) w w'/\(∀k,dw lv=Y k->y.lv.ownBlock=k\/w<=k):=by have⟨i0,dL,fM,ed,fV⟩:=aQX an9;have H:=aQe h;have HO:=aQe hr;have HB:=aQe hb;have c5:=h.k 5;rw[iM]at c5;have c4:=h.k 4;have c6:=h.k 6;have cf:=gJ h.blk;have aO:=bF h.blk;have⟨la,lc,hl,rE⟩:=jR h.tH;have yB:=aQe hl;(have uU:Value.ownBlock (.slice la (O y.L) lc)≠Y yb:=by rw[<-hl];exact mZ h.tH h.blk Xa);have Ye:=EG<|OQ h.hy aO;clear h iM hb hl rE hr;go_enter func131,ntmps131;go_wp2_with (first|(go_at_call 103;apply(adG _ r HO).z;rintro e w2 ⟨s,rfl,hx,hf⟩;have T2:=hx;have n2:=hx.2.t<|DR r;have G2:I (aY w2 B yb y.down/\Fr (λk=>k=yb) w w2):=⟨H.goDown.1.a<|(aQ _).t hf dA,H.goDown.2.t ((aQ _).t hf dA) dA⟩;have d6:au w2 (yb,6)=Y (y.kp):=G2.1.c 6;have d8:=(G2.1.c 8).t (by show Y y.lv=_;rw[yB]);have d9:=G2.1.k 9;have df:=gJ G2.1.blk;(have B2:I (w2.heap[M (R w)]? =Y (aC #[r.k,r.p,r.a,r.m] 155 (0,0))):=(hf.block _ Xy id).t<|rM _ Xy);have x0:=cc B2 0;have x1:=cc B2 1;have x2:=cc B2 2;have x3:=cc B2 3;have hz:w<=M (R w2):=G2.2.size;have hyz:yb<M (R w2):=gZ aO hz;(have R2:I (bI w2 B 155 4 (.slice la (O y.L) lc) (O y.L)<|y.L.flatMap Rc.cs):=by have:=G2.1.tH;rw[show y.down.lv=y.lv from rfl,yB]at this;exact this);clear hx hf));go_region_law ((apply aRd _ aQr _ _ _ aQr B 155 i0 _ 4 32 underlying134 dL fM ed fV J YV (.slice la (O y.L) lc) (O y.L) (y.L.flatMap Rc.cs) aQr (((aQ _).drew).ownsRow R2 λ_ _=>id) (M (R w2)) 1 1 [V Z r.k,V Z r.p,V Z r.a,V Z r.m] aQr aQr (World.news_of_block (cs:=#[V Z r.k,V Z r.p,V Z r.a,V Z r.m]) (t:=155) (fr:=(0,0)) (by show(bH w2 _).heap[_]? =_;exact rM _ Xy)) Y7 YV (by have:=HB.o;exact aQp) HB Xz (M (R w2)+1) Xy;intro gg cap w3 fK oz dR mW;have jJ:=(oz.block yb Xz<|Ne.s uU).t<|((aQ _).drew.block _ hyz id).t G2.1.blk;have k0:au w3 ⟨yb,8,U⟩=Y (.slice la (O y.L) lc):=(aJ jJ 8).t (by show Y y.lv=_;rw[yB]);have k1:∀o,w3.frozen? ⟨yb,o,U⟩=false:=gJ jJ;clear jJ));all_goals go_wp2;go_ret;have l:=G2.1.aob (r:=r) (lv:=aP gg (O y.L+1) cap) (W:=(w2.alloc<|aC #[V Z r.k,V Z r.p,V Z r.a,V Z r.m] 155).drew) ((aQ _).drew) (by rw[show y.down.lv=y.lv from rfl,yB];exact oz) fK (λq hq=>by simp only[Value.ownBlock,iR]at hq;subst hq;rcases dR with a|a;{exact .inl (by rw[show y.down.lv=y.lv from rfl,yB];exact a)};{exact .inr YV});refine⟨J,_,l.at_,(G2.2.z λk hk=>.inl<|.inl hk).t l.fr λk hk=>.inl hk,λk hk=>?_⟩;rcases l.mY k hk with a|a;{exact .inl a};exact .inr<|dX hz a
end
end
section
def aoc:(prog.info? 204).map (λi=>(i.zero,i.size,i.bytes))=(Y<|jf #[V Z 0,V Z 0,V Z 0,V Z 0],4,32):=KG
def aod:∀(l:List Du) (k:Nat) (e:Du) (j:Nat),l[k]? =Y e->j<4->(l.flatMap Du.cs)[k*4+j]? =e.cs[j]?|[],k,e,j,h,_=>aQB|x::r,0,e,j,h,hj=>(by simp at h;subst h;simp only[Ad];rw[Q8 (by simp[Du.cs]<;>omega)];simp)|x::r,k+1,e,j,h,hj=>by have:=aod r k e j h hj;simp at this⊢;rw[OJ (by simp[Du.cs]<;>omega),<-this];congr 1;simp[Du.cs]<;>omega
def Xm{w B g n cap l}(h:bI w B 204 4 (aP (Y ⟨g,0,U⟩) n cap) (O l) (l.flatMap Du.cs)){k e}(hk:l[k]? =Y e):w.cell? (g,k*4)=e.p/\w (g,k*4+1)=e.q/\w (g,k*4+2)=e.t/\w (g,k*4+3)=e.g:=by have hc:=h.cells J;(have H:∀j u,j<4->e.cs[j]? =Y u->w (g,k*4+j)=Y u:=λj u hj hu=>by have:=hc _ u<|(aod l k e j hk hj).t hu;grind[Addr.add_lit]);exact⟨H 0 _ YV J,H 1 _ YV J,H 2 _ YV J,H 3 _ YV J⟩
def Du.stays(p q:Int)(d:Du):Bool:=decide (d.p≠p)||(decide (0<=q)&&decide (d.q≠q))
section
variable{w w':ae}{B yb:Nat}{y:RS}
def RS.aoe(y:RS)(dv D):y.cells.setIfInBounds 10 dv=({y with dv:=dv,D:=D}:RS).cells:=by
 kernel_rfl
def aof(h:aY w B yb y)(p q)(hb:(O y.D+1)*32<=2^47):
 aH aj 151 #[ak yb,V Z p,V Z q] w λe w'=>e=dZ #[]/\∃dv,aY w' B yb {y with dv:=dv,D:=y.D.filter<|Du.stays p q}/\Fr (λk=>k=yb) w w'/\(∀k,dw dv=Y k->w<=k):=by
 obtain⟨i0,dL,fM,ed,fV⟩:=aQX aoc;have H:I (aY w B yb y):=h;have HB:=aQe hb;have zF:=h.k 10;have⟨la,lc,hl,rE⟩:=jR h.ik;unfold cZ at rE;rw[hl]at zF;have HDV:I (y.dv=.slice la (O y.D) lc):=hl;have aO:=bF h.blk;have Ye:=EG<|OQ h.hy aO;clear h hb hl;go_enter func151,ntmps151
 go_wp2_with fail
 go_loopw [6,7] (λv i w'=>∃k:Nat,k<=O y.D/\i=k/\bI w' w 204 4 v ((y.D.take k).filter<|Du.stays p q).length (((y.D.take k).filter<|Du.stays p q).flatMap Du.cs)/\Fr aB w w') (λ_ i _=>O y.D-(bM i).toNat)
 case atStart=>exact⟨0,jQ _,J,aQS _ _ _ _,Fr.refl _ _⟩
 case round=>
  obtain⟨k,hk,rfl,hv,hf⟩:=hrel
  have HF:=aQe hf
  obtain⟨va,vc,rfl,_⟩:=jR hv
  have Zr:I (((y.D.take k).filter<|Du.stays p q).length<=k):=(by grind)
  have HX:∀d,y.D[k]? =Y d->(y.D.take<|k+1).filter (Du.stays p q)=(y.D.take k).filter (Du.stays p q)++(if d.stays p q then[d]else[]):=λd hd=>by
   rw[uz,hd,Cb,FY];grind
  generalize hF:(y.D.take k).filter (Du.stays p q)=X at hv HX Zr
  have HV:=aQe hv
  have d10:au wr (yb,10)=Y (.slice la (O y.D) lc):=(hf.cell (p:=(yb,10)) aO id).t zF
  have yU:I (bI wr B 204 4 (.slice la (O y.D) lc) (O y.D)<|y.D.flatMap Du.cs):=by have:=hf.ownsRow H.o.ik λ_ _=>id;rw[HDV.o]at this;exact this
  have Cj:yb<wr:=gZ aO hf.size
  have hwr:=hf.size
  have cf:∀o,wr.frozen? ⟨yb,o,U⟩=false:=gJ<|(hf.block _ aO id).t H.o.blk
  clear hv hf
  by_cases jD:k<O y.D
  ·obtain⟨d,hd⟩:∃d,y.D[k]? =Y d:=(by simp_all)
   have DK:=HX d hd
   rcases yU.o.2 with⟨_,h0⟩|⟨g,cap,cur,hv,kE,hg,h1,h2,_⟩
   ·omega
   ·simp only[aQQ]at hv
    obtain⟨rfl,_,rfl⟩:=hv
    have⟨r0,r1,r2,r3⟩:=Xm yU.o hd
    have J8:(k:Int)<(O y.D:Int):=YV
    clear hd hg h2 kE HX hF
    by_cases hs:d.stays p q=A
    ·have KH:I ((y.D.take<|k+1).filter (Du.stays p q)=X++[d]):=by rw[hs]at DK;exact DK
     clear DK
     have fin:∀w3 gg jG,bI w3 w 204 4 (aP gg (O X+1) jG) (O X+1) (X.flatMap Du.cs++[V Z d.p,V Z d.q,V Z d.t,V Z d.g])->I (bI w3 w 204 4 (aP gg (O X+1) jG) ((y.D.take<|k+1).filter<|Du.stays p q).length<|((y.D.take<|k+1).filter<|Du.stays p q).flatMap Du.cs):=λw3 gg jG hh=>by
      show w3.ownsRow _ _ _ _ _ _;rw[KH.o,kZ,ED];simpa[Du.cs]using hh
     by_cases e1:d.p=p
     ·have e2:0<=q/\d.q≠q:=by simpa[Du.stays,e1]using hs
      have e3:(d.q==q)=false:=by simpa using e2.2
      have e4:(0:Int)<=q:=e2.1
      clear e2 hs
      subst e1
      go_wp2_with (at_builtin;refine aQU _ J _ _ 135 J w 204 i0 _ 4 32 underlying135 dL fM ed fV J Xa (.slice va (O X) vc) (O X) (X.flatMap Du.cs) J (((aQ _).alloc _).ownsRow HV.o λ_ _=>id) ⟨M (R wr)+1,0,U⟩ 1 1 [d.p,d.q,d.t,d.g] J J (World.news_of_block (cs:=#[d.p,d.q,d.t,d.g]) (t:=204) (fr:=(0,0))<|rM _ Xy) Y7 Xa (by have:=Zr.o;have:=HB.o;exact aQp) (by have:=Zr.o;have:=HB.o;omega) Xz (wr+1+1) (by simp) ?_;intro gg jG w3 jO gW lX mW)
      go_roundw
      case rel=>exact⟨k+1,by omega,by go_num,(fin w3 gg jG jO).out,HF.o.t (((Fr.refl (λq=>Value.ownBlock (.slice va (O X) vc)=Y q) wr).alloc _ |>.alloc _).grown gW λq e=>.inl e) λq hq=>.inr (HV.o.lt q hq).1⟩
      case measure=>simp[bM]<;>omega
     ·have e1':(d.p==p)=false:=by simpa using e1
      clear hs
      go_wp2_with (at_builtin;apply aQU _ J _ _ 135 J w 204 i0 _ 4 32 underlying135 dL fM ed fV J Xa (.slice va (O X) vc) (O X) (X.flatMap Du.cs) J (((aQ _).alloc _).ownsRow HV.o λ_ _=>id) ⟨M (R wr)+1,0,U⟩ 1 1 [d.p,d.q,d.t,d.g] J J (World.news_of_block (cs:=#[d.p,d.q,d.t,d.g]) (t:=204) (fr:=(0,0))<|rM _ Xy) Y7 Xa (by have:=Zr.o;have:=HB.o;exact aQp) (by have:=Zr.o;have:=HB.o;omega) Xz (wr+1+1) Xy;intro gg jG w3 jO gW lX mW)
      go_roundw
      case rel=>exact⟨k+1,YV,Y4,(fin w3 gg jG jO).out,HF.o.t (((Fr.refl (λq=>Value.ownBlock (.slice va (O X) vc)=Y q) wr).alloc _ |>.alloc _).grown gW λq e=>.inl e) λq hq=>.inr (HV.o.lt q hq).1⟩
      case measure=>simp[bM]<;>omega
    ·have oZ:d.stays p q=false:=by simpa using hs
     have KH:I ((y.D.take<|k+1).filter (Du.stays p q)=X):=by show(y.D.take<|k+1).filter (Du.stays p q)=X;rw[oZ]at DK;simpa using DK
     have e1:d.p=p:=by
      by_cases e:d.p=p
      ·exact e
      ·simp[Du.stays,e]at oZ
     have e2:0<=q->d.q=q:=λhq=>by
      by_cases e:d.q=q
      ·exact e
      ·simp[Du.stays,e,hq]at oZ
     clear DK hs oZ
     subst e1
     by_cases e4:0<=q
     ·have e3:(d.q==q)=true:=by simpa using e2 e4
      clear e2
      go_wp2_with fail
      go_roundw
      case rel=>exact⟨k+1,YV,Y4,by rw[KH.o];exact(aQ _).ownsRow HV.o λ_ _=>id,HF.o.alloc _⟩
      case measure=>simp[bM]<;>omega
     ·clear e2
      go_wp2_with fail
      go_roundw
      case rel=>exact⟨k+1,YV,Y4,by rw[KH.o];exact(aQ _).ownsRow HV.o λ_ _=>id,HF.o.alloc _⟩
      case measure=>simp[bM]<;>omega
  ·have HXX:I (y.D.filter (Du.stays p q)=X):=Zv
   clear hF HX
   go_wp2
   go_end0
   have fs:Fr (λk=>k=yb) wr (aZ wr (yb,10)<|.slice va (O X) vc):=(Fr.refl (λk=>k=yb) wr).setCell (p:=(yb,10)) (.inl J) _
   have hy:=H.o.a HF.o
   rw[HXX.o]
   refine⟨J,_,hy.put fs ?_ J J ?_ J J J J J J J J J J,(HF.o.z dA:Fr (λk=>k=yb) w wr).t fs λ_ hk=>.inl hk,λk hk=>(HV.o.lt k hk).1⟩
   ·rw[eX hy.blk,RS.aoe y _ X]
   ·refine fs.ownsRow (sD HV.o Ye) (λq hq e=>?_)
    subst e
    have:=(HV.o.lt _ hq).1
    omega
end
end
section
section
variable{w w':ae}{B yb:Nat}{y:RS}
def qA(H:Bool)(e Gn:Int):Int:=if H then 5 else if Gn=0\/e≠Gn then 7 else 0
def Gp(h:aY w B yb y)(e t s va vl vc Gn):aH aj 132 #[ak yb,jf #[V Z e,V Z t,V Z s,.slice va vl vc],V Z Gn] w λr w'=>r=aU (.int .i64<|qA y.dn e Gn)/\Fr aB w w':=by have H:=h.k 4;have aO:=bF h.blk;clear h;cases hd:y.dn;{rw[hd]at H;by_cases h0:Gn=0;{subst h0;go_enter func132,ntmps132;go_wp2;go_ret;exact⟨J,aQ _⟩};(have TR:(Gn==0)=false:=Zv);by_cases h1:e=Gn;{subst h1;(have HS:I (qA ah e e=0):=by show qA _ e e=0;simp[qA,h0]);go_enter func132,ntmps132;go_wp2;go_ret;exact⟨by rw[HS]<;>rfl,aQ _⟩};(have HS:I (qA ah e Gn=7):=by show qA _ e _=7;simp[qA,h1]);go_enter func132,ntmps132;go_wp2;go_ret;exact⟨by rw[HS]<;>rfl,aQ _⟩};rw[hd]at H;go_enter func132,ntmps132;go_wp2;go_ret;exact⟨J,aQ _⟩
def lq(p t:Int)(H:List Int)(k:Nat):List Du:=((List.range k).filter λ(i:Nat)=>decide<|(i:Int)∈H).map λ(i:Nat)=>⟨p,(i:Int),t+1,1⟩
def azf(p t H k):lq p t H (k+1)=lq p t H k++(if(k:Int)∈H then[⟨p,k,t+1,1⟩]else[]):=by unfold lq;grind[List.range_succ]
theorem aog(p t H k):(lq p t H k).length<=k:=by unfold lq;grind
def aY.azg{W w3 d dv}(h:aY w B yb y)(fW:Fr aB w W)(hg:W.grownBy w3 y.dv.ownBlock)(fK:bI w3 B 204 4 dv (y.D+1) (y.D.flatMap Du.cs++d.cs))(dR:∀q,dw dv=Y q->y.dv.ownBlock=q\/w<=q):
 aY (aZ w3 (yb,10) dv) B yb {y with dv:=dv,D:=y.D++[d]}/\Fr (λk=>k=yb\/y.dv.ownBlock=k) w (aZ w3 (yb,10) dv):=by
 have f3:Fr (λq=>y.dv.ownBlock=q) w w3:=(fW.z Zv).grown hg Zv;have hz:=bF h.blk;have n1:y.dv.ownBlock≠yb:=(by grind[mZ,cases aY]);have fs:Fr (λq=>q=yb) w3 (aZ w3 (yb,10) dv):=aQx;have f4:Fr (λq=>q=yb\/y.dv.ownBlock=q) w _:=(f3.z Zv).t fs YV;have key:∀{ty:dB} {wd:Nat} {v:ai} {n:Nat} {xs:List _},bI w B ty wd v n xs->ty≠204->ty≠138->∀q,dw v=Y q->¬(q=yb\/y.dv.ownBlock=Y q):=λ{ty wd v n xs} hr h1 h2 q H e=>by
  have ht:=ig hr H;grind[lM,cases aY,ig]
 refine⟨⟨?_,(by grind[Fr.ownsRow,cases aY]),?_,(by grind[Fr.ownsRow,cases aY]),(by grind[Fr.ownsRow,cases aY]),(by grind[Fr.ownsRow,cases aY]),(by grind[Fr.ownsRow,cases aY]),λg Dn=>?_,h.hy,h.hP,h.hQ⟩,f4⟩
 ·rw[eX<|(f3.block _ hz n1).t h.blk,RS.aoe y dv _]
 ·grind[Fr.ownsRow]
 ·refine(h.refs g Dn).stay f4 λq H hf=>?_;rcases H with H|H
  ·have h0:=lM h.blk;grind[iU.tags,cases aY]
  ·have h0:=ig h.ik H;grind[iU.tags,cases aY]
def RS.ik(y:RS)(dv:ai)(D:List Du):RS:={y with dv:=dv,D:=D}
structure KO(w w':ae)(B yb:Nat)(y:RS)(D:List Du)(dv:ai):Prop where
 at_:aY w' B yb (y.ik dv D)
 fr:Fr (λk=>k=yb) w w'
 mY:∀k,dw dv=Y k->M (R w)<=k
def ahA(h:aY w B yb y)(p)(hR:∀r∈y.L,0<=r.a/\r.a<=4)(hb:(O y.L+1)*8<=2^47)(kE:(O y.D+8)*32<=2^47)(ht:y.tm+1<9223372036854775808/\0<=y.tm):aH aj 106 #[ak yb,V Z p] w λe w'=>e=dZ #[]/\∃dv,KO w w' B yb y (y.D.filter (Du.stays p<|-1)++lq p y.tm (aF y.L p).ps y.Q.toNat) dv:=by
 have⟨i0,dL,fM,ed,fV⟩:=aQX aoc;have H:=aQe h;have HR:=aQe hR;have HB:=aQe hb;have yt:=aQe kE;have HD1:I ((O y.D+1)*32<=2^47):=Zv
 have HFL:I ((y.D.filter<|Du.stays p<|-1).length<=O y.D):=AX _ _;have aO:=bF h.blk;have lF:=h.hQ.2.2.1;have oU:=h.hQ.2.2.2;have⟨qn,Jr⟩:=lW (show 0<=y.Q by omega);have Zt:y.Q.toNat=qn:=YV
 have IP:fU Z (y.tm+1)=y.tm+1:=by grind[wrap_i64]
 rw[Zt];have HQ:=aQe Jr;have jP:(qn:Int)<=4:=YV
 clear h hR hb kE lF oU Jr Zt;go_enter func106,ntmps106;go_wp2_with (first|(go_at_call 151;apply(aof H p (-1) HD1).z;rintro e w1 ⟨rfl,dv1,QK,aI,nX⟩;have Y1:I (KO w w1 B yb y (y.D.filter<|Du.stays p<|-1) dv1):=⟨QK,aI,nX⟩;clear QK aI nX)|(go_at_call 105;apply(show aH aj 105 #[ak yb,p] w1 (λr w'=>∃v,r=jf #[(aF y.L p).e,(aF y.L p).t,(aF y.L p).s,v]/\xW w1 w' v (aF y.L p).ps/\Fr aB w1 w')from sG (y:=y.ik dv1<|y.D.filter<|Du.stays p<|-1) Y1.at_ p HR HB).z;rintro e w2 ⟨v2,rfl,jo,bJ⟩;obtain⟨va,vc,rfl,_⟩:=jg jo;have V2:=aQe jo;have Y2:I (KO w w2 B yb y (y.D.filter<|Du.stays p<|-1) dv1):=⟨Y1.at_.a bJ,Y1.fr.t bJ dA,Y1.mY⟩;clear jo bJ));have HZ2:=aQe Y2.fr.size;generalize eF:aF y.L p=st at V2⊢;have⟨se,stt,ss,ps⟩:=st;simp only at V2⊢;generalize hX:y.D.filter (Du.stays p<|-1)=X at Y2 HFL⊢;have HST:=aQe eF;have HXX:=aQe hX;clear Y1 hX eF;go_loopw [5] (λi w'=>∃k,k<=qn/\i=k/\(∃dv,KO w w' B yb y (X++lq p y.tm ps k) dv)/\w'.heap[M (R w2)]? =Y (aC #[se,stt,ss,.slice va (O ps) vc] 157 (0,0))/\bI w' w1 3 1 (.slice va (O ps) vc) (O ps) (dY ps)) λi _=>qn-(bM i).toNat;case atStart=>exact⟨0,jQ _,J,⟨dv1,by simpa[lq]using Y2.at_.a (aQ _),Y2.fr.t (aQ _) dA,Y2.mY⟩,heap_alloc_new _ _,(aQ _).ownsRow V2 λ_ _=>id⟩
 case round=>obtain⟨k,hk,rfl,⟨dv,hp⟩,Ot,fD⟩:=hrel;have HP:=aQe hp;have KQ:=aQe Ot;have HRW:=aQe fD;have d1:au wr (yb,1)=Y (V Z qn):=(hp.at_.c 1).t (by show Y (Value.int .i64 y.Q)=_;rw[HQ]);have d3:au wr (M (R w2),3)=Y (.slice va (O ps) vc):=aJ Ot 3;have d7:au wr (yb,7)=Y (y.tm):=hp.at_.c 7;have d10:au wr (yb,10)=Y dv:=hp.at_.c 10;have df:∀o,wr.frozen? ⟨yb,o,U⟩=false:=gJ hp.at_.blk;have⟨da,dc,Hf,_⟩:=jR hp.at_.ik;have KR:dv=.slice da (X++lq p y.tm ps k).length dc:=Hf;subst KR;(have HL:I ((X++lq p y.tm ps k).length<=O y.D+k):=by have:=aog p y.tm ps k;have:=HFL.o;show(X++lq p y.tm ps k).length<=O y.D+k;grind);have HND:=azf p y.tm ps k;clear hp Ot fD Hf;by_cases jD:k<qn;{(have J8:(k:Int)<(qn:Int):=YV);by_cases hm:(k:Int)∈ps;{have HM:=aQe<|iC hm;(have HE:I (X++lq p y.tm ps (k+1)=(X++lq p y.tm ps k)++[⟨p,k,y.tm+1,1⟩]):=Zv);have Zu:=aQe HP.at_.ik;generalize X++lq p y.tm ps k=aP0 at HP HE Zu HL d10;clear HND hm;go_wp2_with (go_at_call 133;apply(Si HRW k).z;rw[HM];rintro e w4 ⟨rfl,rfl⟩);(have uU:Value.ownBlock (.slice da (O aP0) dc)≠Y yb:=mZ Zu HP.at_.blk Xa);have Cj:=bF HP.at_.blk;have hBr:B<=wr:=EG<|OQ HP.at_.hy Cj;go_region_law ((apply aRd _ aQr _ _ _ aQr B 204 i0 _ 4 32 underlying135 dL fM ed fV J YV (.slice da (O aP0) dc) (O aP0) (aP0.flatMap Du.cs) aQr (((aQ _).drew).ownsRow Zu λ_ _=>id) wr 1 1 [p,k,.int .i64<|y.tm+1,V Z 1] aQr aQr (World.news_of_block (cs:=#[p,k,.int .i64<|y.tm+1,V Z 1]) (t:=204) (fr:=(0,0)) (by show(bH wr _).heap[_]? =_;exact rM _ Xy)) Y7 YV (by have:=HL.o;have:=yt.o;exact aQp) (by have:=HL.o;have:=yt.o;omega) Xz (wr+1) Xy;intro gg cap w3 fK oz dR mW;have jJ:=(oz.block yb Xz<|Ne.s uU).t<|((aQ _).drew.block _ Cj id).t HP.at_.blk;have k0:au w3 ⟨yb,10,U⟩=Y (.slice da (O aP0) dc):=aJ jJ 10;have k1:∀o,w3.frozen? ⟨yb,o,U⟩=false:=gJ jJ;clear jJ));all_goals go_wp2;go_roundw;(case rel=>have l:=HP.at_.azg (d:=⟨p,k,y.tm+1,1⟩) (dv:=aP gg (O aP0+1) cap) (W:=(wr.alloc<|aC #[p,k,.int .i64<|y.tm+1,V Z 1] 204).drew) ((aQ _).drew) oz fK (λq hq=>by simp only[Value.ownBlock,iR]at hq;subst hq;rcases dR with a|a;{exact .inl a};{exact .inr YV});(have ab6:∀q,(q=yb\/Value.ownBlock (.slice da (O aP0) dc)=Y q)->q=yb\/w<=q:=λq hq=>by rcases hq with hq|hq;{exact .inl hq};exact .inr<|HP.mY q hq);refine⟨k+1,YV,Y4,⟨aP gg (O aP0+1) cap,?_⟩,?_,?_⟩;{rw[HE];refine⟨l.1,HP.fr.t l.2 λq hq=>ab6 q hq,λq hq=>?_⟩;simp only[Value.ownBlock,iR]at hq;grind[Hid]};{refine(l.2.block _ (bF KQ) λe=>?_).t KQ;rcases e with e|e;{have:=HZ2.o;omega};exact mZ Zu KQ Xa e};refine l.2.ownsRow HRW (λq hq e=>?_);have t1:=ig HRW hq;rcases e with e|e;{subst e;rw[lM HP.at_.blk]at t1;cases t1};have t2:=ig Zu e;rw[t1]at t2;cases t2);case measure=>simp[bM]<;>omega};{have HM:=aQe<|jr hm;(have HE:I (lq p y.tm ps (k+1)=lq p y.tm ps k):=Zv);clear HND hm;go_wp2_with (go_at_call 133;apply(Si HRW k).z;rw[HM];rintro e w4 ⟨rfl,rfl⟩);go_roundw;(case rel=>grind[Hid]);case measure=>simp[bM]<;>omega}};(have hkq:k=qn:=YV);subst hkq;go_wp2;go_end0;rw[HXX,HST];exact⟨J,_,HP⟩
end
end
section
section
variable{w w' B yb y}
def gX(y:RS)(p:Int)(c:Bool):Rc:=⟨3,p,if c then 1 else 0,(aF y.L p).t⟩
def adL(w e t s va vl H):(Instr.field 157 (jf #[V Z e,V Z t,V Z s,.slice va vl H]) 1).run aj w=.ok t w:=KG
structure RS.iH(y:RS):Prop where
 ok:∀r∈y.L,r.Ok
 arg:∀r∈y.L,0<=r.a/\r.a<=4
 lL:(O y.L+2)*32<=2^47
 lD:(O y.D+8)*32<=2^47
 tm:y.tm+1<9223372036854775808/\0<=y.tm
def azh(h:aY w B yb y)(hF:y.iH)(iM:y.br=ah)(p c):aH aj 130 #[ak yb,V Z p,aA c] w λe w'=>e=A/\ ∃lv dv,aY w' B yb ((y.wrote (gX y p c) lv).ik dv<|y.D.filter (Du.stays p<|-1)++lq p y.tm (aF (y.L++[gX y p c]) p).ps y.Q.toNat)/\Fr (λk=>k=yb\/y.lv.ownBlock=k) w w'/\(∀k,dw lv=Y k->y.lv.ownBlock=k\/w<=k)/\(∀k,dw dv=Y k->w<=k):=by
 have H:=aQe h;have HF:=aQe hF;have HBR:=aQe iM;have lu:I ((O y.L+1)*8<=2^47):=by have:=hF.lL;exact aQw
 have Io:I ((O y.L+1)*32<=2^47):=by grind[cases RS.iH]
 have HP8:I (((y.L++[gX y p c]).length+1)*8<=2^47):=by have:=hF.lL;show((y.L++[gX y p c]).length+1)*8<=2^47;grind
 have HA:I (∀r∈y.L++[gX y p c],0<=r.a/\r.a<=4):=λr hr=>by rcases yu.1 hr with hr|hr;{exact hF.arg r hr};simp at hr;subst hr;cases c<;>simp[gX]
 clear h hF iM;cases c;{have HW:I (∀W,aY W B yb y->aH aj 131 #[ak yb,jf #[V Z 3,p,V Z 0,(aF y.L p).t]] W λe w'=>e=A/\∃lv,adH W w' B yb y (gX y p ah) lv):=λW hy=>ahx hy HBR (gX y p ah) Io;have HPE:I (∀W lv,aY W B yb (y.wrote (gX y p ah) lv)->aH aj 106 #[ak yb,p] W λe w'=>e=dZ #[]/\∃dv,KO W w' B yb (y.wrote (gX y p ah) lv) (y.D.filter (Du.stays p<|-1)++lq p y.tm (aF (y.L++[gX y p ah]) p).ps y.Q.toNat) dv):=λW lv hy=>ahA (y:=y.wrote (gX y p ah) lv) hy p HA HP8 HF.lD HF.tm;have He:=adL;go_enter func130,ntmps130;go_wp2_with (first|(go_at_call 105;apply(sG H p HF.arg lu).z;rintro e w1 ⟨v1,rfl,bV,aI⟩;obtain⟨va,vc,rfl,_⟩:=jg bV;have F1:=aQe aI;clear bV aI)|(go_at_call 131;apply(HW _<|H.a<|F1.alloc _).z;rintro e w2 ⟨rfl,lv,hw⟩;have W2:I (aY w2 B yb (y.wrote (gX y p ah) lv)/\Fr (λk=>k=yb\/y.lv.ownBlock=Y k) w w2/\∀k,dw lv=Y k->y.lv.ownBlock=Y k\/w<=k):=⟨hw.at_,((by grind[Fr.z,Fr.alloc,Hid]):Fr (λk=>k=yb\/y.lv.ownBlock=Y k) w _).t hw.fr Zv,λk hk=>by rcases hw.mY k hk with a|a;{grind};exact .inr<|dX (F1.alloc _).size a⟩;clear hw)|(go_at_call 106;apply(HPE _ _ W2.1).z;rintro e w3 ⟨rfl,dv,hp⟩;have P3:=aQe hp;clear hp));go_ret;exact⟨J,lv,dv,P3.at_,W2.2.1.t P3.fr YV,W2.2.2,λk hk=>dX W2.2.1.size<|P3.mY k hk⟩};have HW:I (∀W,aY W B yb y->aH aj 131 #[ak yb,jf #[V Z 3,p,V Z 1,(aF y.L p).t]] W λe w'=>e=A/\∃lv,adH W w' B yb y (gX y p A) lv):=λW hy=>ahx hy HBR (gX y p A) Io;have HPE:I (∀W lv,aY W B yb (y.wrote (gX y p A) lv)->aH aj 106 #[ak yb,p] W λe w'=>e=dZ #[]/\∃dv,KO W w' B yb (y.wrote (gX y p A) lv) (y.D.filter (Du.stays p<|-1)++lq p y.tm (aF (y.L++[gX y p A]) p).ps y.Q.toNat) dv):=λW lv hy=>ahA (y:=y.wrote (gX y p A) lv) hy p HA HP8 HF.lD HF.tm;have He:=adL;go_enter func130,ntmps130;go_wp2_with (first|(go_at_call 105;apply(sG H p HF.arg lu).z;rintro e w1 ⟨v1,rfl,bV,aI⟩;obtain⟨va,vc,rfl,_⟩:=jg bV;have F1:=aQe aI;clear bV aI)|(go_at_call 131;apply(HW _<|H.a<|F1.alloc _).z;rintro e w2 ⟨rfl,lv,hw⟩;have W2:I (aY w2 B yb (y.wrote (gX y p A) lv)/\Fr (λk=>k=yb\/y.lv.ownBlock=Y k) w w2/\∀k,dw lv=Y k->y.lv.ownBlock=Y k\/w<=k):=⟨hw.at_,((by grind[Fr.z,Fr.alloc,Hid]):Fr (λk=>k=yb\/y.lv.ownBlock=Y k) w _).t hw.fr Zv,λk hk=>by rcases hw.mY k hk with a|a;{grind};exact .inr<|dX (F1.alloc _).size a⟩;clear hw)|(go_at_call 106;apply(HPE _ _ W2.1).z;rintro e w3 ⟨rfl,dv,hp⟩;have P3:=aQe hp;clear hp));go_ret;exact⟨J,lv,dv,P3.at_,W2.2.1.t P3.fr YV,W2.2.2,λk hk=>dX W2.2.1.size<|P3.mY k hk⟩
end
end
section
section
variable{w w':ae}{B yb:Nat}{y:RS}
inductive ni(y:RS)(r:Rc):Bool->RS->Prop
 |ok (lv:ai) (h:y.br=ah):ni y r A (y.wrote r lv)
 |whole (lv:ai) (h:y.br=A) (k:16<=y.kp):ni y r ah (y.down.wrote r lv)
 |qx (s:ByteArray) (h:y.br=A) (k:0<y.kp) (k2:y.kp<16) (t:ou s ((dQ r).take y.kp.toNat)):ni y r ah (y.down.ahy s)
 |none (h:y.br=A) (k:y.kp<=0):ni y r ah y.down
def ahC(h:aY w B yb y)(r)(hr:r.Ok)(hb:(O y.L+1)*32<=2^47):aH aj 131 #[ak yb,jf #[r.k,r.p,r.a,r.m]] w λe w'=>∃ok y',e=aA ok/\ni y r ok y'/\aY w' B yb y'/\Fr (λk=>k=yb\/y.lv.ownBlock=k) w w'/\(∀k,y'.lv.ownBlock=Y k->y.lv.ownBlock=k\/w<=k):=by cases iM:y.br;{exact(ahx h iM r hb).z λ_ w2 ⟨h1,lv,H⟩=>⟨A,_,h1,.ok lv iM,H.at_,H.fr,H.mY⟩};by_cases k1:16<=y.kp;{exact(azd h iM k1 r hr hb).z λ_ w2 ⟨h1,lv,H,h3,h4⟩=>⟨ah,_,h1,.whole lv iM k1,H,h3,h4⟩};by_cases k2:0<y.kp;{exact(azc h iM k2 YV r hr).z λ_ w2 ⟨h1,⟨s,H,h3⟩,h4⟩=>⟨ah,_,h1,.qx s iM k2 YV H,h3,(by grind[Fr.z]),λ_ hk=>.inl hk⟩};exact(aza h iM YV r hr).z λ_ w2 ⟨h1,H,h4⟩=>⟨ah,_,h1,.none iM YV,H,(by grind[Fr.z]),λ_ hk=>.inl hk⟩
def RS.breaks(y:RS)(k:Int):RS:={y with br:=A,kp:=k}
def RS.ahD(y:RS)(k):(y.cells.setIfInBounds 5 A).setIfInBounds 6 (V Z k)=(y.breaks k).cells:=KG
def aoj(h:aY w B yb y)(k):aH aj 92 #[ak yb,V Z k] w λr w'=>r=aU (.int .i64<|if y.dn then 5 else 0)/\aY w' B yb (if y.dn then y else y.breaks k)/\Fr (λk=>k=yb) w w':=by have H:=aQe h;have c4:=h.k 4;have c5:=h.k 5;have c6:=h.k 6;have hf:=gJ h.blk;clear h;cases hd:y.dn;{rw[hd]at c4;go_wp2;go_ret;have fr:Fr (λk=>k=yb) w ((aZ w (yb,5) A).setCell (yb,6) k):=aQx;refine⟨J,H.put fr ?_ J J (fr.ownsRow H.ik λk hk e=>mZ H.ik H.blk Xa (by subst e;exact hk)) J J J J J J J J J J,fr⟩;rw[eX (eX H.blk 5 _) 6 _,y.ahD]};rw[hd]at c4;go_wp2;go_ret;exact⟨J,H,Fr.refl _ _⟩
def azi(h:aY w B yb y)(hF:y.iH)(iM:y.br=A)(p c)(hO:(gX y p c).Ok):aH aj 130 #[ak yb,p,c] w λe w'=>e=ah/\∃y',ni y (gX y p c) ah y'/\aY w' B yb y'/\Fr (λk=>k=yb\/y.lv.ownBlock=k) w w'/\(∀k,y'.lv.ownBlock=Y k->y.lv.ownBlock=k\/w<=k):=by
 have H:=aQe h;have HF:=aQe hF;have HBR:=iM;have HO:=aQe hO;have lu:I ((O y.L+1)*8<=2^47):=by have:=hF.lL;exact aQw
 have Io:I ((O y.L+1)*32<=2^47):=by grind[cases RS.iH]
 clear h hF iM hO;cases c;{have HW:I (∀W,aY W B yb y->aH aj 131 #[ak yb,jf #[V Z 3,p,V Z 0,(aF y.L p).t]] W λe w'=>e=ah/\∃y',ni y (gX y p ah) ah y'/\aY w' B yb y'/\Fr (λk=>k=yb\/y.lv.ownBlock=Y k) W w'/\(∀k,y'.lv.ownBlock=Y k->y.lv.ownBlock=Y k\/W<=k)):=λW hy=>(ahC hy _ HO Io).z (by grind[cases ni,Hid]);have He:=adL;go_enter func130,ntmps130;go_wp2_with (first|(go_at_call 105;apply(sG H p HF.arg lu).z;rintro e w1 ⟨v1,rfl,bV,aI⟩;obtain⟨va,vc,rfl,_⟩:=jg bV;have F1:=aQe aI;clear bV aI)|(go_at_call 131;apply(HW _<|H.a<|F1.alloc _).z;rintro e w2 ⟨rfl,y',ho,zT,bT,Xn⟩;have W2:I (ni y (gX y p ah) ah y'/\aY w2 B yb y'/\Fr (λk=>k=yb\/y.lv.ownBlock=Y k) w w2/\∀k,y'.lv.ownBlock=Y k->y.lv.ownBlock=Y k\/w<=k):=⟨ho,zT,((by grind[Fr.z,Fr.alloc,Hid]):Fr (λk=>k=yb\/y.lv.ownBlock=Y k) w _).t bT Zv,λk hk=>by rcases Xn k hk with a|a;{grind};exact .inr<|dX (F1.alloc _).size a⟩;clear ho zT bT Xn));go_ret;exact⟨J,y',W2⟩};have HW:I (∀W,aY W B yb y->aH aj 131 #[ak yb,jf #[V Z 3,p,V Z 1,(aF y.L p).t]] W λe w'=>e=ah/\∃y',ni y (gX y p A) ah y'/\aY w' B yb y'/\Fr (λk=>k=yb\/y.lv.ownBlock=Y k) W w'/\(∀k,y'.lv.ownBlock=Y k->y.lv.ownBlock=Y k\/W<=k)):=λW hy=>(ahC hy (gX y p A) HO Io).z (by grind[cases ni,Hid]);have He:=adL;go_enter func130,ntmps130;go_wp2_with (first|(go_at_call 105;apply(sG H p HF.arg lu).z;rintro e w1 ⟨v1,rfl,bV,aI⟩;obtain⟨va,vc,rfl,_⟩:=jg bV;have F1:=aQe aI;clear bV aI)|(go_at_call 131;apply(HW _<|H.a<|F1.alloc _).z;rintro e w2 ⟨rfl,y',ho,zT,bT,Xn⟩;have W2:I (ni y (gX y p A) ah y'/\aY w2 B yb y'/\Fr (λk=>k=yb\/y.lv.ownBlock=Y k) w w2/\∀k,y'.lv.ownBlock=Y k->y.lv.ownBlock=Y k\/w<=k):=⟨ho,zT,((by grind[Fr.z,Fr.alloc,Hid]):Fr (λk=>k=yb\/y.lv.ownBlock=Y k) w _).t bT Zv,λk hk=>by rcases Xn k hk with a|a;{grind};exact .inr<|dX (F1.alloc _).size a⟩;clear ho zT bT Xn));go_ret;exact⟨J,y',W2⟩
end
end
section
section
variable{w w':ae}{B yb:Nat}{y:RS}
variable{m:Int}
def azj(h:aY w B yb y)(H:¬(0<=m/\m<=y.P-1)):aH aj 75 #[ak yb,m] w λr w'=>r=dZ #[V Z 0,V Z 2]/\w=w':=by have HM:=aQe<|jr H;have c0:w yb=y.P:=h.c 0;have lV:=h.hP.2.1;have jI:=h.hP.2.2;clear h H;go_enter func75,ntmps75;go_wp2_with (go_at_call 72;apply(jS _ _ _ _).z;rw[HM];rintro e w1 ⟨rfl,rfl⟩);go_ret2;exact⟨J,J⟩
def azk(h:aY w B yb y)(H:0<=m/\m<=y.P-1)(hd:y.dn=A):aH aj 75 #[ak yb,m] w λr w'=>r=dZ #[V Z 0,V Z 5]/\w=w':=by have HM:=aQe<|iC H;have c0:w yb=(y.P):=h.c 0;have c4:w (yb,4)=(y.dn):=h.c 4;rw[hd]at c4;have lV:=h.hP.2.1;have jI:=h.hP.2.2;clear h H;go_enter func75,ntmps75;go_wp2_with (go_at_call 72;apply(jS _ _ _ _).z;rw[HM];rintro e w1 ⟨rfl,rfl⟩);go_ret2;exact⟨J,J⟩
def azl(h:aY w B yb y)(hF:y.iH)(hm:0<=m/\m<=y.P-1)(hd:y.dn=ah)(h0:(aF y.L m).s≠0)(h1:(aF y.L m).s≠1):aH aj 75 #[ak yb,m] w λr w'=>r=dZ #[V Z 0,V Z 9]/\Fr aB w w':=by
 have H:=aQe h;have HF:=aQe hF;have lu:I ((O y.L+1)*8<=2^47):=by have:=hF.lL;exact aQw
 have HM:=aQe<|iC hm;have c0:w yb=(y.P):=h.c 0;have c4:w (yb,4)=(y.dn):=h.c 4;rw[hd]at c4;have lV:=h.hP.2.1;have jI:=h.hP.2.2;have g0:((aF y.L m).s==0)=false:=by simpa using h0
 have g1:((aF y.L m).s==1)=false:=by simpa using h1
 clear h hm hF h0 h1;go_enter func75,ntmps75;go_wp2_with (first|(go_at_call 72;apply(jS _ _ _ _).z;rw[HM];rintro e w1 ⟨rfl,rfl⟩)|(go_at_call 105;apply(sG H m HF.arg lu).z;rintro e w1 ⟨v1,rfl,bV,aI⟩;obtain⟨va,vc,rfl,_⟩:=jg bV;have F1:=aQe aI;clear bV aI));go_ret2;exact⟨J,F1.alloc _⟩
end
end
section
def azm(w){P Q T K}(h:¬Good P Q T K):aH aj 32 #[gU P Q T K] w λr w'=>r=dZ #[ak U,V Z 1]/\Fr aB w w':=by unfold gU;by_cases H:1<=P/\P<=6;{have HP:=aQe<|iC H;by_cases hQ:1<=Q/\Q<=4;{have HQ:I (decide (1<=Q/\Q<=4)=A):=(by grind);by_cases hT:1<=T/\T<=50;{have HT:I (decide (1<=T/\T<=50)=A):=(by grind);have HK:I (decide (1<=K/\K<=16)=ah):=jr λe=>h ⟨H,hQ,hT,e⟩;clear h H hQ hT;go_enter func32,ntmps32;go_wp2_with (go_at_call 72;apply(jS _ _ _ _).z;(first|rw[HP]|rw[HQ]|rw[HT]|rw[HK]);rintro e w1 ⟨rfl,rfl⟩);go_ret2;exact⟨J,aQ _⟩};have HT:I (decide (1<=T/\T<=50)=ah):=(by grind);clear h H hQ hT;go_enter func32,ntmps32;go_wp2_with (go_at_call 72;apply(jS _ _ _ _).z;(first|rw[HP]|rw[HQ]|rw[HT]);rintro e w1 ⟨rfl,rfl⟩);go_ret2;exact⟨J,aQ _⟩};have HQ:I (decide (1<=Q/\Q<=4)=ah):=(by grind);clear h H hQ;go_enter func32,ntmps32;go_wp2_with (go_at_call 72;apply(jS _ _ _ _).z;(first|rw[HP]|rw[HQ]);rintro e w1 ⟨rfl,rfl⟩);go_ret2;exact⟨J,aQ _⟩};have HP:=aQe<|jr H;clear h H;go_enter func32,ntmps32;go_wp2_with (go_at_call 72;apply(jS _ _ _ _).z;rw[HP];rintro e w1 ⟨rfl,rfl⟩);go_ret2;exact⟨J,aQ _⟩
def DT(P Q T K:Int)(H:List Int)(aPW:List Bool)(hv ov gv:ai)(G:List GL):RS:=⟨P,Q,T,K,ah,ah,0,0,aP U 0 0,[],⟨#[]⟩,aP U 0 0,[],hv,H,gv,G,ov,aPW,aP U 0 0,[]⟩
def azn(P Q T K H aPW hv ov gv Nw G G'):(DT P Q T K H aPW hv ov gv G).cells.setIfInBounds 12 Nw=(DT P Q T K H aPW hv ov Nw G').cells:=KG
def lN(G:List GL):Prop:=∀(i j:Nat) p q,i≠j->G[i]? =Y p->G[j]? =Y q->∀k,Ii p.yb p.u k->Ii q.yb q.u k->False
structure Gq(w w':ae)(P Q T K:Int)(H:List Int)(aPW:List Bool)(k:Nat)(hv ov gv:ai)(G:List GL):Prop where
 blk:w'.heap[M (R w)+1+1+1]? =Y (.cells (DT P Q T K H aPW hv ov gv G).cells 138 (0,0))
 gU:w'.heap[M (R w)]? =Y (aC #[V Z P,V Z Q,V Z T,V Z K] 23 (0,0))
 len:O G=k
 heard:bI w' (M (R w)) 3 1 hv (O H) (dY H)
 outs:bI w' (M (R w)) 4 1 ov (O aPW) (aPW.map Value.bool)
 dO:bI w' (M (R w)) 139 1 gv (O G) (G.map λg=>ptr g.yb)
 refs:∀g∈G,iU w' (M (R w)) g.yb g.u g.L
 new:∀g∈G,g.L=[]
 fr:Fr aB w w'
 ap:lN G
theorem Gq.step{w wr W w3 P Q T K H aPW k hv ov gv Nw G}(h:Gq w wr P Q T K H aPW k hv ov gv G)(hb:W.heap[M (R wr)]? =aC #[aP U 0 0] 142 (0,0)) (fW:Fr aB wr W)(hg:W.grownBy w3 gv.ownBlock)(fK:bI w3 w 139 1 Nw (k+1) ((G.map λg=>ptr g.yb)++[ptr wr]))(dR:∀q,Nw.ownBlock=Y q->dw gv=q\/wr<=q):Gq w (aZ w3 (M (R w)+1+1+1,12) Nw) P Q T K H aPW (k+1) hv ov Nw (G++[⟨wr,aP U 0 0,[]⟩]):=by have hx:=bF h.blk;have hc:=YV;have f3:Fr (λq=>dw gv=q) wr w3:=(fW.z Zv).grown hg Zv;have Oy:dw gv≠Y (M (R w)+1+1+1):=mZ h.dO h.blk Xa;have b3:=(f3.block _ hx Oy).t h.blk;have fs:Fr (λq=>q=w+1+1+1) w3 (aZ w3 (M (R w)+1+1+1,12) Nw):=aQx;have f4:Fr (λq=>dw gv=q\/q=w+1+1+1) wr (aZ w3 (M (R w)+1+1+1,12) Nw):=(f3.z Zv).t fs YV;(have key:∀{ty:dB} {wd:Nat} {v:ai} {n:Nat} {xs:List ai},bI wr w ty wd v n xs->ty≠139->ty≠138->∀q,dw v=Y q->¬(dw gv=Y q\/q=w+1+1+1):=λ{ty wd v n xs} hr h1 h2 q hq e=>by have ht:=ig hr hq;grind[ig,cases Gq,lM]);refine⟨?_,?_,by simp[h.len],f4.ownsRow h.heard<|key h.heard Xa Xa,f4.ownsRow h.outs<|key h.outs Xa Xa,?_,?_,?_,?_,?_⟩;{rw[eX b3,azn]};{grind[cases Fr,cases Gq,mZ]};{grind[cases Gq,Fr.ownsRow]};{intro g Dn;rcases yu.1 Dn with hp|hp;{refine(h.refs g hp).stay f4 λq hq hf=>?_;rcases hq with hq|hq;{have h0:=ig h.dO hq;rcases(h.refs g hp).tags hf with h1|h1<;>rw[h0]at h1<;>cases h1};have h0:=lM h.blk;grind[iU.tags,cases Gq]};simp only[yQ]at hp;subst hp;have g3:Fr (λq=>dw gv=Y q) W w3:=(Fr.refl _ W).grown hg Zv;have Px:=bF hb;(have fE:dw gv≠Y (wr):=λe=>by have:=(h.dO.lt _ e).2;omega);refine⟨(by grind[cases Fr]),aQS _ _ _ _,?_⟩;grind};{grind[cases Gq]};{grind[Fr.t,cases Gq,World.ownsRow.lt]};(have old:∀p∈G,∀k,Ii p.yb p.u k->k<wr:=λp hp k hk=>by have hl:=h.refs p hp;rcases hk with rfl|hk;{exact hl.lt};exact(hl.row.lt k hk).2);(have neu:∀k,Ii wr (aP U 0 0) k->wr<=k:=λk hk=>by rcases hk with rfl|hk;{omega};simp[Value.ownBlock]at hk);intro i j p q BN hp hq k h1 h2;rcases Xk hp with⟨_,IW⟩|⟨hi,rfl⟩<;>rcases Xk hq with⟨_,AO⟩|⟨hj,rfl⟩;{exact h.ap i j p q BN IW AO k h1 h2};{grind};{grind};omega
def azo(w)(p:Nat)(hp:p<=6):(Instr.makeSlice 43 ((p:Int))<|(p:Int)).run aj w=.ok (aP (M (R w)) p p) (w.alloc<|.cells (madeCells #[V Z 0] p) 3):=run_make_row' 43 3 _ 8 Y0 Ry J _ _ p YV YV w
def azp:(prog.info? 4).map (λi=>(i.zero,i.size,i.bytes))=(Y<|aA ah,1,1):=KG
def azq(w)(p:Nat)(hp:p<=6):(Instr.makeSlice 133 ((p:Int))<|(p:Int)).run aj w=.ok (aP (M (R w)) p p) (w.alloc<|.cells (madeCells #[ah] p) 4):=run_make_row' _ 4 _ 1 Y0 azp J _ _ p YV YV w
variable{B p:Nat}
def aok(w)(hB:B<=M (R w))(hp:p<=6):(w.alloc<|.cells (madeCells #[V Z 0] p) 3).ownsRow B 3 1 (aP (M (R w)) p p) (List.replicate p (0:Int)).length (dY<|List.replicate p 0):=by have:=aRQ w (e:=3) (size:=1) (madeCells #[V Z 0] p) p hB (by exact aQp) (by simp[size_madeCells]);rw[aR2]at this;simpa[dY]using this
def aol(w)(hB:B<=M (R w))(hp:p<=6):(w.alloc<|.cells (madeCells #[ah] p) 4).ownsRow B 4 1 (aP (M (R w)) p p) (List.replicate p ah).length ((List.replicate p ah).map Value.bool):=by have:=aRQ w (e:=4) (size:=1) (madeCells #[ah] p) p hB (by exact aQp) (by simp[size_madeCells]);rw[aR2]at this;simp_all
def azr(w)(p q:Nat)(T K)(H:p<=6)(hq:q<=6):Gq w (((((w.alloc<|aC #[p,q,V Z T,V Z K] 23).alloc<|.cells (madeCells #[V Z 0] p) 3).alloc<|.cells (madeCells #[ah] q) 4).alloc<|.cells (DT p q T K (List.replicate p 0) (List.replicate q ah) (aP (Y ⟨M (R w)+1,0,U⟩) p p) (aP (Y ⟨M (R w)+1+1,0,U⟩) q q) (aP U 0 0) []).cells 138).drew) p q T K (List.replicate p 0) (List.replicate q ah) 0 (aP (Y ⟨M (R w)+1,0,U⟩) p p) (aP (Y ⟨M (R w)+1+1,0,U⟩) q q) (aP U 0 0) []:=by refine⟨rM _ Xy,?_,J,?_,?_,aQS _ _ _ _,Zv,Zv,(by grind[Fr.drew,Fr.alloc,aQ]),λi j p q _ H=>Zv⟩;{exact((((aQ _).alloc _).alloc _).drew.block _ Xy id).t<|heap_alloc_new _ _};{have:=aok (w.alloc<|aC #[p,q,T,K] 23) (B:=w) Xy H;exact(((aQ _).alloc _).drew).ownsRow Y0 Zv};{have:=aol ((w.alloc<|aC #[p,q,T,K] 23).alloc<|.cells (madeCells #[V Z 0] p) 3) (B:=w) Xz hq;exact((aQ _).drew).ownsRow Y0 Zv}
def azs(w)(p q:Nat)(T K)(H:p<=6)(hq:q<=6):Gq w (((((w.alloc<|aC #[p,q,V Z T,V Z K] 23).alloc<|.cells (madeCells #[ah] q) 4).alloc<|.cells (madeCells #[V Z 0] p) 3).alloc<|.cells (DT p q T K (List.replicate p 0) (List.replicate q ah) (aP (Y ⟨M (R w)+1+1,0,U⟩) p p) (aP (Y ⟨M (R w)+1,0,U⟩) q q) (aP U 0 0) []).cells 138).drew) p q T K (List.replicate p 0) (List.replicate q ah) 0 (aP (Y ⟨M (R w)+1+1,0,U⟩) p p) (aP (Y ⟨M (R w)+1,0,U⟩) q q) (aP U 0 0) []:=by refine⟨rM _ Xy,?_,J,?_,?_,aQS _ _ _ _,Zv,Zv,(by grind[Fr.drew,Fr.alloc,aQ]),λi j p q _ H=>Zv⟩;{exact((((aQ _).alloc _).alloc _).drew.block _ Xy id).t<|heap_alloc_new _ _};{have:=aok ((w.alloc<|aC #[p,q,T,K] 23).alloc<|.cells (madeCells #[ah] q) 4) (B:=w) Xz H;exact((aQ _).drew).ownsRow Y0 Zv};{have:=aol (w.alloc<|aC #[p,q,T,K] 23) (B:=w) Xy hq;exact(((aQ _).alloc _).drew).ownsRow Y0 Zv}
def azt(w){q:Nat}{T K}(h:Good p q T K):aH aj 32 #[gU p q T K] w λr w'=>∃yb hv ov gv G,r=dZ #[ptr yb,V Z 0]/\aY w' w yb (DT p q T K (List.replicate p 0) (List.replicate q ah) hv ov gv G)/\(∀g∈G,g.L=[])/\lN G/\Fr aB w w':=by unfold gU;have HG:=aQe h;have HP:=aQe<|iC h.1;have HQ:=aQe<|iC h.2.1;have HT:=aQe<|iC h.2.2.1;have HK:=aQe<|iC h.2.2.2;have xG:=λw=>azo w p (by have:=h.1.2;omega);have Eh:=λw=>azq w q (by have:=h.2.1.2;omega);have oU:=h.2.1.2;clear h;go_enter func32,ntmps32;go_wp2_with (go_at_call 72;apply(jS _ _ _ _).z;(first|rw[HP]|rw[HQ]|rw[HT]|rw[HK]);rintro e w1 ⟨rfl,rfl⟩);have⟨i0,dL,fM,ed,fV⟩:=aQX (show(prog.info? 139).map (λi=>(i.zero,i.size,i.bytes))=Y (Y<|ak U,1,8)by kernel_rfl);have HA:I (p<=6/\q<=6):=⟨by have:=HG.1.2;omega,YV⟩;go_region;all_goals go_wp2_with fail;go_loopw [5] (λi w'=>∃k,k<=q/\i=k/\∃hv ov gv G,Gq w w' p q T K (List.replicate p 0) (List.replicate q ah) k hv ov gv G) (λi _=>(q-bM i).toNat);(case atStart=>first|exact⟨0,YV,J,_,_,_,_,azr w p q T K HA.1 HA.2⟩|exact⟨0,YV,J,_,_,_,_,azs w p q T K HA.1 HA.2⟩);case round=>obtain⟨k,hk,rfl,hv,ov,gv,G,H⟩:=hrel;have HM:=aQe H;(have BQ:au wr ⟨M (R w)+1+1+1,12,U⟩=Y gv:=by rw[aJ H.blk];rfl);have cq:=cc H.gU 1;have cf:∀o,wr.frozen? ⟨M (R w)+1+1+1,o,U⟩=false:=gJ H.blk;have hx:=bF H.blk;have hlen:=H.len;obtain⟨pa,pc,rfl,_⟩:=jR H.dO;subst hlen;(have Oy:Value.ownBlock (.slice pa (O G) pc)≠Y (M (R w)+1+1+1):=mZ H.dO H.blk Xa);have hwz:=H.fr.size;clear H;by_cases aO:O G<q;{(have Xn:(O G:Int)<(q:Int):=YV);go_wp2_with (at_builtin;apply aQU _ J _ _ 136 J w 139 i0 _ 1 8 Y0 dL fM ed fV J Xa _ (O G) (G.map λg=>ptr g.yb) J ((((aQ _).alloc _)).ownsRow HM.dO Zv) ⟨M (R wr)+1,0,U⟩ 1 1 [ak<|Y ⟨M (R wr),0,U⟩] J J (World.news_of_block (cs:=#[ak<|Y ⟨M (R wr),0,U⟩]) (t:=139) (fr:=(0,0))<|rM _ Xy) Y7 Xa (by exact aQp) YV Xz (wr+1+1) Xy;intro gg jG w3 jO gW lX mW;have r12:=(gW.cell_far ⟨M (R w)+1+1+1,12,U⟩ Xz<|Ne.s Oy);have rf:=(gW.frozen_far ⟨M (R w)+1+1+1,12,U⟩ Xz<|Ne.s Oy);rw[((aQ _).alloc _).cell (p:=⟨M (R w)+1+1+1,12,U⟩) hx id,BQ]at r12;rw[Ae Xz,Ae hx,cf]at rf);go_roundw;(case rel=>refine⟨O G+1,YV,Y4,_,_,_,_,HM.step (W:=(wr.alloc<|aC #[aP U 0 0] 142).alloc<|aC #[ak<|Y ⟨M (R wr),0,U⟩] 139) ?_ ((aQ _).alloc _) gW jO ?_⟩;{exact((aQ _).block _ Xy id).t<|heap_alloc_new _ _};intro x xC;simp only[Value.ownBlock,iR]at xC;subst xC;rcases lX with a|a;{exact .inl a};omega);case measure=>simp[bM]<;>omega};(have hlq:O G=q:=YV);go_wp2;go_ret2;refine⟨_,hv,ov,_,G,J,⟨HM.blk,aQS _ _ _ _,aQS _ _ _ _,HM.heard,HM.dO,HM.outs,aQS _ _ _ _,HM.refs,YV,?_,?_⟩,HM.new,HM.ap,HM.fr⟩;{exact⟨by simp[DT],HG.1⟩};exact⟨by simp[DT,hlq],by simp[DT],HG.2.1⟩
end
section
def HS.dJ(h:HS)(xb k:Nat):Prop:=k=xb\/h.jv.ownBlock=k\/h.pv.ownBlock=k\/h.fv.ownBlock=k\/∃p∈h.pl,Ih p.lb p.bm p.v k
def RS.dJ(y:RS)(yb k:Nat):Prop:=k=yb\/y.lv.ownBlock=k\/y.dv.ownBlock=k\/y.hv.ownBlock=k\/y.gv.ownBlock=k\/y.ov.ownBlock=k\/y.nv.ownBlock=k\/∃g∈y.G,Ii g.yb g.u k
section
variable{w w':ae}{B xb yb n:Nat}{h:HS}{y:RS}{S:Nat->Prop}
theorem aG.stay(H:aG w B xb n h)(f:Fr S w w')(hS:∀k,S k->h.dJ xb k->False):aG w' B xb n h:=⟨(f.block xb (bF H.blk) λe=>hS _ e<|.inl J).t H.blk,f.ownsRow H.pG λk hk e=>hS k e<|.inr<|.inl hk,f.ownsRow H.qK (λk hk e=>hS k e<|.inr Zv),f.ownsRow H.tC (λk hk e=>hS k e<|.inr Zv),λp hp=>(H.dO p hp).stay f (λk e hf=>hS k e<|.inr Zv),H.hx,H.hP,H.hQ,H.h6⟩
theorem aY.stay(H:aY w B yb y)(f:Fr S w w')(hS:∀k,S k->y.dJ yb k->False):aY w' B yb y:=⟨(f.block yb (bF H.blk) λe=>hS _ e<|.inl J).t H.blk,f.ownsRow H.tH λk hk e=>hS k e<|.inr<|.inl hk,f.ownsRow H.ik (λk hk e=>hS k e<|.inr Zv),f.ownsRow H.heard (λk hk e=>hS k e<|.inr Zv),f.ownsRow H.dO (λk hk e=>hS k e<|.inr Zv),f.ownsRow H.outs (λk hk e=>hS k e<|.inr Zv),f.ownsRow H.kL (λk hk e=>hS k e<|.inr Zv),λg hg=>(H.refs g hg).stay f (λk e hf=>hS k e<|.inr Zv),H.hy,H.hP,H.hQ⟩
variable{k:Nat}
def aG.lZ(hh:aG w B xb n h)(H:h.dJ xb k):k<w/\B<=k:=by rcases H with rfl|H|H|H|⟨p,hp,H⟩;{grind[cases aG]};{exact⟨(hh.pG.lt k H).2,(hh.pG.lt k H).1⟩};{exact⟨(hh.qK.lt k H).2,(hh.qK.lt k H).1⟩};{exact⟨(hh.tC.lt k H).2,(hh.tC.lt k H).1⟩};have hl:=hh.dO p hp;rcases H with rfl|rfl|H;{exact⟨hl.lt,hl.hl⟩};{exact⟨hl.map.lt,hl.hm⟩};exact⟨(hl.row.lt k H).2,(hl.row.lt k H).1⟩
def aY.lZ(hy:aY w B yb y)(H:y.dJ yb k):k<w/\B<=k:=by rcases H with rfl|H|H|H|H|H|H|⟨g,hg,H⟩;{grind[cases aY]};{exact⟨(hy.tH.lt k H).2,(hy.tH.lt k H).1⟩};{exact⟨(hy.ik.lt k H).2,(hy.ik.lt k H).1⟩};{exact⟨(hy.heard.lt k H).2,(hy.heard.lt k H).1⟩};{exact⟨(hy.dO.lt k H).2,(hy.dO.lt k H).1⟩};{exact⟨(hy.outs.lt k H).2,(hy.outs.lt k H).1⟩};{exact⟨(hy.kL.lt k H).2,(hy.kL.lt k H).1⟩};have hl:=hy.refs g hg;rcases H with rfl|H;{exact⟨hl.lt,hl.hy⟩};exact⟨(hl.row.lt k H).2,(hl.row.lt k H).1⟩
def aG.Js(hh:aG w B xb n h)(H:h.dJ xb k):tag w k=111\/tag w k=5\/tag w k=98\/(tag w k=119/\h.fv.ownBlock=k)\/tag w k=163\/tag w k=1000000\/tag w k=55:=by rcases H with rfl|H|H|H|⟨p,hp,H⟩;{exact .inl<|lM hh.blk};{grind[ig,cases aG]};{grind[ig,cases aG]};{grind[ig,cases aG]};grind[eY.tags,cases aG]
def aY.Js(hy:aY w B yb y)(H:y.dJ yb k):tag w k=138\/tag w k=155\/tag w k=204\/tag w k=3\/tag w k=139\/tag w k=4\/(tag w k=119/\y.nv.ownBlock=k)\/tag w k=142\/tag w k=238:=by rcases H with rfl|H|H|H|H|H|H|⟨g,hg,H⟩;{exact .inl<|lM hy.blk};{grind[ig,cases aY]};{grind[ig,cases aY]};{grind[ig,cases aY]};{grind[ig,cases aY]};{grind[ig,cases aY]};{grind[ig,cases aY]};grind[iU.tags,cases aY]
def azu(hh:aG w B xb n h)(hy:aY w B yb y)(hn:∀k,h.fv.ownBlock=Y k->y.nv.ownBlock=k->False)(h1:h.dJ xb k)(h2:y.dJ yb k):False:=by rcases hh.Js h1 with e|e|e|⟨e,f1⟩|e|e|e<;>rcases hy.Js h2 with H|H|H|H|H|H|⟨H,f2⟩|H|H<;>first|exact hn k f1 f2|omega
structure aom(w:ae)(B xb yb:Nat)(h:HS)(y:RS)(up:Bool):Prop where
 fx:aG w B xb 0 h
 fy:aY w B yb y
 fP:y.P=h.P
 fQ:y.Q=h.Q
 fu:h.up=up
 fd:y.dn= !up
 fj:h.jv=aP U 0 0
 fz:h.ps=ET
 fl:∀p∈h.pl,p.s=KN/\p.out=ah
 fL:y.L=[]
 ft:y.qx=⟨#[]⟩
 fN:y.N=[]
 fG:∀g∈y.G,g.L=[]
 fO:∀o∈y.aPW,o=ah
 fv:h.fv=aP U 0 0
 fe:h.fl=[]
variable{wb:Nat}
def Ag(wb xb yb:Nat)(h:HS)(y:RS)(k:Nat):Prop:=k=wb\/h.dJ xb k\/y.dJ yb k
def azv{k}(hk:k<6):ET[k]? =yz:=by match k,hk with|0,_|1,_|2,_|3,_|4,_|5,_=>rfl
def azw:Rel KN []:=axZ
theorem KT(w1 w'):xW w1 w' (aP U 0 0) []:=aQS _ _ _ _
end
end
section
structure dG(w w':ae)(B yb:Nat)(y y':RS):Prop where
 at_:aY w' B yb y'
 fr:Fr (y.dJ yb) w w'
 sub:∀k,y'.dJ yb k->y.dJ yb k\/M (R w)<=k
section
variable{w w1 w2 w':ae}{B yb:Nat}{y y1 y2:RS}
theorem dG.refl(h:aY w B yb y):dG w w B yb y y:=⟨h,Fr.refl _ _,λ_=>.inl⟩
theorem dG.t(a:dG w w1 B yb y y1)(b:dG w1 w2 B yb y1 y2):dG w w2 B yb y y2:=⟨b.at_,(by grind[Fr.t,cases dG]),λk H=>by rcases b.sub k H with e|e;{exact a.sub k e};exact .inr<|dX a.fr.size e⟩
theorem dG.a(a:dG w w1 B yb y y1)(f:Fr aB w1 w2):dG w w2 B yb y y1:=⟨a.at_.a f,a.fr.t f Zv,a.sub⟩
def dG.behind(f:Fr aB w w1)(a:dG w1 w2 B yb y y1):dG w w2 B yb y y1:=⟨a.at_,(f.z Zv).t a.fr Zv,(by grind[cases dG,cases Fr])⟩
theorem dG.of(h:aY w' B yb y1)(f:Fr (λk=>k=yb\/y.lv.ownBlock=k) w w')(H:∀k,y1.lv.ownBlock=Y k->y.lv.ownBlock=k\/w<=k)(hd:∀k,y1.dv.ownBlock=Y k->y.dv.ownBlock=k\/w<=k) (hh:y1.hv=y.hv)(hg:y1.gv=y.gv)(ho:y1.ov=y.ov)(hn:y1.nv=y.nv)(hG:y1.G=y.G):dG w w' B yb y y1:=by refine⟨h,f.z λk e=>.inl ?_,λk hk=>?_⟩;{rcases e with e|e;{exact .inl e};exact .inr<|.inl e};rcases hk with e|e|e|e|e|e|e|e;{exact .inl<|.inl e};{rcases H k e with a|a;{exact .inl<|.inr<|.inl a};omega};{rcases hd k e with a|a;{exact .inl<|.inr Zv};omega};{rw[hh]at e;exact .inl<|.inr Zv};{rw[hg]at e;exact .inl<|.inr Zv};{exact .inl<|.inr Zv};{rw[hn]at e;exact .inl<|.inr Zv};{rw[hG]at e;exact .inl<|.inr Zv}
theorem ni.rest{r ok H}(h:ni y r ok H):H.dv=y.dv/\H.hv=y.hv/\H.gv=y.gv/\H.ov=y.ov/\H.nv=y.nv/\H.G=y.G:=by cases h<;>exact⟨J,J,J,J,J,J⟩
def ahF(h:aY w B yb y)(r)(hr:r.Ok)(hb:(O y.L+1)*32<=2^47):aH aj 131 #[ak yb,jf #[r.k,r.p,r.a,r.m]] w λe w'=>∃ok H,e=aA ok/\ni y r ok H/\dG w w' B yb y H:=(ahC h r hr hb).z (by grind[cases aY,ni.rest,dG.of])
def RS.Ny(y:RS)(p:Int)(c:Bool):List Du:=y.D.filter (Du.stays p<|-1)++lq p y.tm (aF (y.L++[gX y p c]) p).ps y.Q.toNat
inductive Bh(y:RS)(p:Int)(c:Bool):Bool->RS->Prop
 |ok (lv dv:ai) (h:y.br=ah):Bh y p c A ((y.wrote (gX y p c) lv).ik dv<|y.Ny p c)
 |lC {y':RS} (h:ni y (gX y p c) ah y'):Bh y p c ah y'
inductive aon(y:RS)(p:Int)(c:Bool)(w:ae)(B yb:Nat):Ending->ae->Prop
 |mk {ok:Bool} {y':RS} {w':ae} (ho:Bh y p c ok y') (hm:dG w w' B yb y y'):aon y p c w B yb (aU<|aA ok) w'
def ahG(h:aY w B yb y)(hF:y.iH)(p c)(hO:(gX y p c).Ok):aH aj 130 #[ak yb,p,c] w (aon y p c w B yb):=by cases iM:y.br;{refine(azh h hF iM p c).z λ_ w2 ⟨h1,lv,dv,H,h3,h4,h5⟩=>?_;rw[h1];exact .mk (.ok lv dv iM)<|dG.of H h3 h4 (λk hk=>h5 k hk) J J J J J};{refine(azi h hF iM p c hO).z λ_ w2 ⟨h1,y',H,h3,h4,h5⟩=>?_;rw[h1];have⟨a,b,c',d,e,f⟩:=H.rest;exact .mk (.lC H)<|by grind[dG.of]}
inductive aoo(y:RS)(p:Int)(w:ae)(B yb:Nat):Ending->ae->Prop
 |mk {ok:Bool} {y':RS} {w':ae} (ho:Bh y p ah ok y') (hm:dG w w' B yb y y'):aoo y p w B yb (aU<|dZ #[V Z 0,V Z 9]) w'
def azx(h:aY w B yb y)(hF:y.iH){m}(hm:0<=m/\m<=y.P-1)(hd:y.dn=ah)(h1:(aF y.L m).s=1)(hO:(gX y m ah).Ok):aH aj 75 #[ak yb,m] w (aoo y m w B yb):=by have H:=aQe h;have HF:=aQe hF;have HO:=aQe hO;(have lu:I ((O y.L+1)*8<=2^47):=by have:=hF.lL;exact aQw);have HM:I (decide (0<=m/\m<=y.P-1)=A):=Zv;have RF:=aQe h1;have c0:=h.k 0;have c4:=h.k 4;rw[hd]at c4;have lV:=h.hP.2.1;have jI:=h.hP.2.2;clear h hm hF h1 hO;go_enter func75,ntmps75;go_wp2_with (first|(go_at_call 72;apply(jS _ _ _ _).z;rw[HM];rintro e w1 ⟨rfl,rfl⟩)|(go_at_call 105;apply(sG H m HF.arg lu).z;rw[RF];rintro e w1 ⟨v1,rfl,bV,aI⟩;obtain⟨va,vc,rfl,_⟩:=jg bV;have F1:=aQe aI;have ed:=aI.size;clear bV aI)|(go_at_call 130;apply(ahG (H.a<|F1.alloc _) HF m _ HO).z;rintro e w2 ⟨ho,bn⟩;rename_i ok y';have R2:I (Bh y m ah ok y'/\dG w w2 B yb y y'):=⟨ho,bn.behind<|F1.alloc _⟩;have b2:=(bn.fr.block _ Xy (λhf=>by have:=(H.lZ hf).1;omega)).t<|heap_alloc_new _ _;have k2:=cc b2 2;clear ho bn b2));go_ret2;exact .mk R2.1 R2.2
inductive ahH(y:RS)(r:Rc)(w:ae)(B yb:Nat):Ending->ae->Prop
 |ok {y':RS} {w':ae} (ho:ni y r A y') (hm:dG w w' B yb y y'):ahH y r w B yb (aU<|dZ #[V Z r.m,V Z 0]) w'
 |lC {y':RS} {w':ae} (ho:ni y r ah y') (hm:dG w w' B yb y y'):ahH y r w B yb (aU<|dZ #[V Z 0,V Z 5]) w'
def azy(h:aY w B yb y)(hF:y.iH){m}(hm:0<=m/\m<=y.P-1)(hd:y.dn=ah)(h1:(aF y.L m).s=0)(hO:(⟨1,m,0,(aF y.L m).e+1⟩:Rc).Ok):aH aj 75 #[ak yb,m] w (ahH y ⟨1,m,0,(aF y.L m).e+1⟩ w B yb):=by
 have H:=aQe h;have HF:=aQe hF;have⟨z,hz⟩:∃z,aF y.L m=z:=⟨_,J⟩;rw[hz]at h1 hO⊢;have HZ:=aQe hz;have HO:=aQe hO;have hO':=hO;have⟨_,_,_,_,_,_,m0,m1⟩:=hO';simp only at m0 m1;have Io:I ((O y.L+1)*32<=2^47):=by grind[cases RS.iH]
 have lu:I ((O y.L+1)*8<=2^47):=by have:=hF.lL;exact aQw
 have HW:I (∀W,aY W B yb y->aH aj 131 #[ak yb,jf #[V Z 1,m,V Z 0,.int .i64<|z.e+1]] W λe w'=>∃ok y',e=aA ok/\ni y ⟨1,m,0,z.e+1⟩ ok y'/\dG W w' B yb y y'):=λW hW=>ahF hW ⟨1,m,0,z.e+1⟩ HO Io;have HM:I (decide (0<=m/\m<=y.P-1)=A):=Zv;have RF:=aQe h1;have c0:=h.k 0;have c4:=h.k 4;rw[hd]at c4;have lV:=h.hP.2.1;have jI:=h.hP.2.2;have aO:=bF h.blk;clear h hm hF h1 hO hz;go_enter func75,ntmps75;go_wp2_with (first|(go_at_call 72;apply(jS _ _ _ _).z;rw[HM];rintro e w1 ⟨rfl,rfl⟩)|(go_at_call 105;apply(sG H m HF.arg lu).z;rw[HZ,RF];rintro e w1 ⟨v1,rfl,bV,aI⟩;obtain⟨va,vc,rfl,_⟩:=jg bV;have F1:=aQe aI;have ed:=aI.size;clear bV aI)|(go_at_call 131;fail));apply(HW _<|H.a<|F1.alloc _).z;rintro e w2 ⟨ok,y',rfl,ho,bn⟩;have b2:=(bn.fr.block _ Xy (λhf=>by have:=(H.lZ hf).1;omega)).t<|heap_alloc_new _ _;have k0:=cc b2 0;have R2:I (ni y ⟨1,m,0,z.e+1⟩ ok y'/\dG w w2 B yb y y'):=⟨ho,bn.behind<|F1.alloc _⟩;clear ho bn b2;cases ok;{go_wp2_with fail;go_ret2;exact .lC R2.1 R2.2};go_wp2_with fail;go_ret2;exact .ok R2.1 R2.2
end
end
section
def ahI:(prog.info? 119).map (λi=>(i.zero,i.size,i.bytes))=(Y<|jf #[V Z 0,V Z 0,V Z 0,V Z 0,ah],5,40):=KG
def RS.dV(y:RS)(v:ai)(l:List Ms):RS:={y with nv:=v,N:=l}
def RS.azA(y:RS)(v l):y.cells.setIfInBounds 14 v=(y.dV v l).cells:=by obtain⟨P,Q,T,K,dn,br,kp,tm,lv0,L,qx,dv,D,hv,H,gv,G,ov,aPW,nv,N⟩:=y;kernel_rfl
section
variable{w w':ae}{B yb:Nat}{y:RS}
def aY.ahJ{w3 nv l}(H:aY w B yb y)(f3:Fr (λq=>y.nv.ownBlock=q) w w3)(fK:bI w3 B 119 5 nv (O l) (l.flatMap Ms.cs))(dR:∀q,dw nv=Y q->y.nv.ownBlock=q\/w<=q):dG w (aZ w3 (yb,14) nv) B yb y (y.dV nv l):=by have hz:=bF H.blk;have n1:y.nv.ownBlock≠yb:=mZ H.kL H.blk Xa;have fs:Fr (λq=>q=yb) w3 (aZ w3 (yb,14) nv):=(Fr.refl (λq=>q=yb) w3).setCell (p:=(yb,14)) (.inl J) _;have f4:Fr (λq=>q=yb\/y.nv.ownBlock=q) w (aZ w3 (yb,14) nv):=(f3.z λq e=>e).t fs λq e=>e;(have key:∀{ty:dB} {wd:Nat} {v:ai} {n:Nat} {xs:List ai},bI w B ty wd v n xs->ty≠119->ty≠138->∀q,dw v=Y q->¬(q=yb\/y.nv.ownBlock=q):=λ{ty wd v n xs} hr h1 h2 q hq e=>by have ht:=ig hr hq;rcases e with e|e;{subst e;rw[lM H.blk]at ht;exact h2 ht.s};have:=ig H.kL e;rw[ht]at this;exact h1 this);refine⟨⟨?_,f4.ownsRow H.tH<|key H.tH Xa Xa,f4.ownsRow H.ik<|key H.ik Xa Xa,f4.ownsRow H.heard<|key H.heard Xa Xa,f4.ownsRow H.dO<|key H.dO Xa Xa,f4.ownsRow H.outs<|key H.outs Xa Xa,?_,λg Dn=>?_,H.hy,H.hP,H.hQ⟩,?_,?_⟩;{rw[eX<|(f3.block _ hz n1).t H.blk,RS.azA y nv l]};{refine fs.ownsRow fK λq hq e=>?_;subst e;rcases dR _ hq with a|a;{exact n1 a};omega};{refine(H.refs g Dn).stay f4 λq hq hf=>?_;rcases hq with hq|hq;{have h0:=lM H.blk;subst hq;rcases(H.refs g Dn).tags hf with h1|h1<;>rw[h0]at h1<;>cases h1};have h0:=ig H.kL hq;rcases(H.refs g Dn).tags hf with h1|h1<;>rw[h0]at h1<;>cases h1};{exact f4.z λq e=>.inl (by rcases e with e|e;exact .inl e;exact .inr<|.inr<|.inr<|.inr<|.inr<|.inr<|.inl e)};intro x hx;rcases hx with e|e|e|e|e|e|e|e;{exact .inl<|.inl e};{exact .inl<|.inr<|.inl e};{exact .inl<|.inr<|.inr<|.inl e};{exact .inl<|.inr<|.inr<|.inr<|.inl e};{exact .inl<|.inr<|.inr<|.inr<|.inr<|.inl e};{exact .inl<|.inr<|.inr<|.inr<|.inr<|.inr<|.inl e};{rcases dR x e with a|a;{exact .inl<|.inr<|.inr<|.inr<|.inr<|.inr<|.inr<|.inl a};exact .inr a};exact .inl<|.inr<|.inr<|.inr<|.inr<|.inr<|.inr<|.inr e
inductive Nz(w w':ae)(B yb:Nat)(y:RS)(m:Ms):Prop
 |lost (hl:100<=O y.N) (f:Fr aB w w'):Nz w w' B yb y m
 |dV (hl:O y.N<100) (nv:ai) (mv:dG w w' B yb y (y.dV nv<|y.N++[m])) (dR:∀q,dw nv=Y q->y.nv.ownBlock=Y q\/M (R w)<=q):Nz w w' B yb y m
def ahK(hh:aY w B yb y)(m):aH aj 145 #[ak yb,jf #[m.k,m.q,m.p,m.t,m.c]] w λe w'=>e=dZ #[]/\Nz w w' B yb y m:=by
 have⟨i0,dL,fM,ed,fV⟩:=aQX ahI;have H:=aQe hh;have c0:au w (yb,14)=Y y.nv:=hh.c 14;have⟨la,lc,hl,rE⟩:=jR hh.kL;have yB:=aQe hl;rw[hl]at c0;have cf:∀o,w.frozen? ⟨yb,o,U⟩=false:=gJ hh.blk;have aO:=bF hh.blk;have uU:Value.ownBlock (.slice la (O y.N) lc)≠Y yb:=by rw[<-hl];exact mZ hh.kL hh.blk Xa
 have Ye:B<=w:=EG<|OQ hh.hy aO;have yU:I (bI w B 119 5 (.slice la (O y.N) lc) (O y.N)<|y.N.flatMap Ms.cs):=by have:=hh.kL;rw[hl]at this;exact this
 clear hh hl rE;by_cases hb:O y.N<100;{go_enter func145,ntmps145;go_wp2_with fail;go_region_law ((apply aRd _ aQr _ _ _ aQr B 119 i0 _ 5 40 underlying107 dL fM ed fV J YV (.slice la (O y.N) lc) (O y.N) (y.N.flatMap Ms.cs) aQr ((((aQ _).alloc _).drew).ownsRow yU λ_ _=>id) ⟨M (R w)+1,0,U⟩ 1 1 [m.k,m.q,m.p,m.t,m.c] aQr aQr (World.news_of_block (cs:=#[m.k,m.q,m.p,m.t,m.c]) (t:=119) (fr:=(0,0)) (by show((bH w _).alloc _).heap[_]? =_;exact rM _ Xy)) Y7 YV (by exact aQp) YV Xz (w+1+1) Xy;intro gg cap w3 fK oz dR mW;have jJ:=(oz.block yb Xz<|Ne.s uU).t<|(((aQ _).alloc _).drew.block _ aO id).t H.blk;have k0:au w3 ⟨yb,14,U⟩=Y (.slice la (O y.N) lc):=(aJ jJ 14).t (by show Y y.nv=_;rw[yB]);have k1:∀o,w3.frozen? ⟨yb,o,U⟩=false:=gJ jJ;clear jJ));all_goals go_wp2;go_end0;refine⟨J,.dV hb _ (H.ahJ (by rw[yB];exact(((((aQ _).alloc _).drew).z dA).grown oz λq e=>.inl e)) (by simpa[Ms.cs]using fK) ?_) ?_⟩;all_goals intro q hq;simp only[Value.ownBlock,iR]at hq;subst hq;rcases dR with a|a;{exact .inl (by rw[yB];exact a)};{exact .inr YV}};go_enter func145,ntmps145;go_wp2;go_end0;exact⟨J,.lost YV<|aQ _⟩
end
end
section
attribute [local go_sem ↓] Go.wp_at_zero Go.wp_at_succ
theorem ahL:∀(l:List Ms) (k:Nat) (e:Ms) (j:Nat),l[k]? =Y e->j<5->(l.flatMap Ms.cs)[k*5+j]? =e.cs[j]?|[],k,e,j,h,_=>aQB|x::r,0,e,j,h,H=>(by simp at h;subst h;simp;exact Q8<|by simpa[Ms.cs]using H)|x::r,k+1,e,j,h,H=>by have:=ahL r k e j h H;rw[Ad,OJ (by simp[Ms.cs]<;>omega)];rw[<-this];congr 1;simp[Ms.cs]<;>omega
variable{l:List Ms}{k}
def DU{w B v}(h:bI w B 119 5 v (O l) (l.flatMap Ms.cs)){e}(hk:l[k]? =Y e):∃g cap,v=aP (Y ⟨g,0,U⟩) l cap/\g<w/\l<=cap/\cap<=cZ/\w (g,k*5)=e.k/\w (g,k*5+1)=e.q/\w (g,k*5+2)=e.p/\w (g,k*5+3)=e.t/\w (g,k*5+4)=e.c:=by rcases h.2 with⟨rfl,h0⟩|⟨g,cap,cur,rfl,_,_,h1,h2,_⟩;{grind};have hc:=h.cells J;(have H:∀j u,j<5->e.cs[j]? =Y u->w (g,k*5+j)=Y u:=λj u hj hu=>by have:=hc _ u<|(ahL l k e j hk hj).t hu;grind[Addr.add_lit]);exact⟨g,cap,J,(h.lt g J).2,h1,h2,H 0 _ YV J,H 1 _ YV J,H 2 _ YV J,H 3 _ YV J,H 4 _ YV J⟩
def azB{j x}(hx:l[j]? =Y x):(l.take<|j+1).eraseIdx k=(l.take j).eraseIdx k++if j≠k then[x]else[]:=by (have hl:(l.take j).length=j:=Zv);rw[uz,hx,Cb];by_cases h1:k<j;{grind};have e1:(l.take j).eraseIdx k=l.take j:=Y0;rw[List.eraseIdx_append_of_length_le YV,e1];by_cases H:j=k;{grind};rw[if_pos H,List.eraseIdx_of_length_le Zv]
section
variable{w w' B yb y}
variable{k:Nat}{m}
def azC(h:aY w B yb y)(H:y.N[k]? =Y m):aH aj 88 #[ak yb,k] w λr w'=>r=dZ #[jf #[m.k,m.q,m.p,m.t,m.c],V Z 0]/\Fr aB w w':=by have qJ:=(List.getElem?_eq_some_iff.mp H).1;have HM:I (decide ((0:Int)<=k/\(k:Int)<=(y.N:Int)-1)=A):=iC YV;have kQ:=h.k 14;have⟨g,cap,e,hg,oH,kX,c0,c1,c2,c3,c4⟩:=DU h.kL H;unfold cZ at kX;have aO:=bF h.blk;clear h H;go_enter func88,ntmps88;go_wp2_with (apply(jS _ _ _ _).z;rw[HM];rintro e w1 ⟨rfl,rfl⟩);apply aQY (Bf J _ _ _ _ _ _ _ J (heap_alloc_new _ _) underlying119 J KG) J;exact⟨J,aQ _⟩
theorem adM(h:aY w B yb y)(Ah:O y.N<=100)(hk:y.N[k]? =Y m):aH aj 142 #[ak yb,k] w λr w'=>r=jf #[m.k,m.q,m.p,m.t,m.c]/\∃nv,dG w w' B yb y (y.dV nv<|y.N.eraseIdx k)/\∀q,dw nv=Y q->w<=q:=by
 have⟨i0,dL,fM,ed,fV⟩:=aQX ahI;have H:=aQe h;have Bi:=aQe Ah;have qJ:=(List.getElem?_eq_some_iff.mp hk).1;have kQ:au w (yb,14)=Y y.nv:=h.c 14;have⟨g,cap,e,hg,oH,kX,c0,c1,c2,c3,c4⟩:=DU h.kL hk;unfold cZ at kX;rw[e]at kQ;have Zw:=aQe e;have aO:=bF h.blk;clear h hk e Ah;have ZW:I (∃w0,w0=(w.alloc<|aC #[V Z 0,V Z 0,V Z 0,V Z 0,ah] 119).alloc (aC #[m.k,m.q,V Z m.p,V Z m.t,aA m.c] 119)):=⟨_,J⟩;go_enter func142,ntmps142;go_wp2_with fail;have⟨w0,zG⟩:=ZW;rw[<-zG];have F0:I (Fr aB w w0):=by subst zG;exact(aQ _).alloc _
 have RP:I (w0.heap[M (R w)]? =Y (aC #[V Z 0,V Z 0,V Z 0,V Z 0,aA ah] 119 (0,0))):=by subst zG;exact((aQ _).block _ Xy id).t<|heap_alloc_new _ _
 have Xe:I (w0.heap[M (R w)+1]? =Y (aC #[V Z m.k,V Z m.q,V Z m.p,V Z m.t,aA m.c] 119 (0,0))):=by subst zG;exact rM _ Xy
 clear ZW zG c0 c1 c2 c3 c4 kQ;go_loopw [6,7] (λv i w'=>∃j,j<=O y.N/\i=V Z j/\bI w' (M (R w0)) 119 5 v ((y.N.take j).eraseIdx k).length (((y.N.take j).eraseIdx k).flatMap Ms.cs)/\Fr aB w0 w') λ_ i _=>(O y.N-bM i).toNat;case atStart=>exact⟨0,jQ _,J,by simpa using aQS _ _ _ _,Fr.refl _ _⟩
 case round=>obtain⟨j,hj,rfl,fK,bT⟩:=hrel;have HF:=aQe bT;have HR:=aQe fK;have HG:I (((y.N.take j).eraseIdx k).length<=j):=(by grind);have HY:=aQe<|H.a<|F0.t bT dA;(have kQ:au wr (yb,14)=Y (aP g (O y.N) cap):=by rw[<-Zw];exact HY.c 14);have cf:∀o,wr.frozen? ⟨yb,o,U⟩=false:=gJ HY.blk;have Sr:=bF HY.blk;have gV:=bT.size;clear bT fK;by_cases jD:j<O y.N;{have⟨x,hx⟩:∃x,y.N[j]? =Y x:=Y0;have HT:I ((y.N.take<|j+1).eraseIdx k=(y.N.take j).eraseIdx k++if j≠k then[x]else[]):=azB hx;have⟨g2,atT,e2,JZ,_,_,r0,r1,r2,r3,r4⟩:=DU HY.kL hx;rw[Zw]at e2;simp only[aQQ,iR,aRv,UF,OX]at e2;obtain⟨rfl,rfl⟩:=e2;clear hx;by_cases MG:j=k;{(have b0:((j:Int) != (k:Int))=false:=by simp[MG]);go_wp2;go_roundw;(case rel=>exact⟨j+1,YV,Y4,by rw[HT,if_neg<|by simp[MG],pV];exact HR,HF⟩);case measure=>simp[bM]<;>omega};{(have b0:((j:Int) != (k:Int))=true:=Xz);go_wp2_with (at_builtin;apply aQU _ J _ _ 107 J (M (R w0)) 119 i0 _ 5 40 underlying107 dL fM ed fV J Xa _ ((y.N.take j).eraseIdx k).length (((y.N.take j).eraseIdx k).flatMap Ms.cs) J (HR.alloc _) (M (R wr)) 1 1 [V Z x.k,V Z x.q,V Z x.p,V Z x.t,aA x.c] J J aQz Y7 Xa Zv (by have:=HG.o;have:=Bi.o;omega) Xz (M (R wr)+1) Xy;intro gg jG w3 jO gW lX mW);go_roundw;(case rel=>have yh:Fr (λq=>dw u6=Y q) wr w3:=(eH.alloc _).grown gW λq ex=>.inl ex;refine⟨j+1,YV,Y4,?_,HF.t yh λq hq=>.inr (HR.lt q hq).1⟩;rw[HT,if_pos MG,ED,kZ];simpa[Ms.cs]using jO);case measure=>simp[bM]<;>omega}};have HT:I (y.N.take j=y.N):=(by grind);have⟨va,vc,ev,_⟩:=jR HR;subst ev;have BP:=(HF.block (M (R w)) (bF RP) id).t RP;have MH:=(HF.block (M (R w)+1) (bF Xe.o) id).t Xe.o;(have n4:M (R w)≠yb:=YV);(have n5:M (R w)+1≠yb:=YV);have q0:au wr ⟨M (R w)+1,0,U⟩=Y (V Z m.k):=aJ MH 0;have q1:au wr (M (R w)+1,1)=Y (V Z m.q):=aJ MH 1;have q2:au wr (M (R w)+1,2)=Y (V Z m.p):=aJ MH 2;have q3:au wr (M (R w)+1,3)=Y (V Z m.t):=aJ MH 3;have q4:au wr (M (R w)+1,4)=Y (aA m.c):=aJ MH 4;have p0:au wr (M (R w))=Y (V Z 0):=aJ BP 0;have p1:au wr (M (R w),1)=Y (V Z 0):=aJ BP 1;have p2:au wr (M (R w),2)=Y (V Z 0):=aJ BP 2;have p3:au wr (M (R w),3)=Y (V Z 0):=aJ BP 3;have p4:au wr (M (R w),4)=Y (aA ah):=aJ BP 4;have pf:∀o,wr.frozen? ⟨M (R w),o,U⟩=false:=gJ BP;go_wp2_with fail;have f5:Fr (λq=>q=yb) wr (aZ wr (yb,14)<|.slice va ((y.N.take j).eraseIdx k).length vc):=(Fr.refl (λq=>q=yb) wr).setCell (p:=(yb,14)) (.inl J) _;have h4y:=(f5.block (M (R w)) (bF BP) n4).t BP;have fin:=Xg [V Z m.k,V Z m.q,V Z m.p,V Z m.t,aA m.c] 0 h4y;apply aQY (adD J _ _ (M (R w)) 119 _ (0,0) _ J fin underlying119 J KG) J;have hB:B<=M (R w0):=dX (EG<|OQ H.hy aO) F0.size;have ab6:∀q,Value.ownBlock (.slice va ((y.N.take j).eraseIdx k).length vc)=Y q->M (R w0)<=q:=λq hq=>(HR.lt q hq).1;(have fD:bI wr B 119 5 (.slice va ((y.N.take j).eraseIdx k).length vc) (y.N.eraseIdx k).length ((y.N.eraseIdx k).flatMap Ms.cs):=by have:=sD HR hB;rw[HT]at this⊢;exact this);have z0:M (R w)<M (R w0):=bF RP;have M2:=H.ahJ (w3:=wr) ((F0.t HF dA).z dA) fD λq hq=>.inr (by have:=ab6 q hq;omega);have f6:Fr (λq=>q=M (R w)) (aZ wr (yb,14)<|.slice va ((y.N.take j).eraseIdx k).length vc) ((aZ wr (yb,14)<|.slice va ((y.N.take j).eraseIdx k).length vc).setCells (M (R w)) 0 [V Z m.k,V Z m.q,V Z m.p,V Z m.t,aA m.c]):=Fr.setCells (S:=λq=>q=M (R w)) (.inl J) _ _ eH;refine⟨J,_,⟨M2.at_.stay f6 λq hq hf=>?_,M2.fr.t f6 (λq hq=>.inr YV),M2.sub⟩,λq hq=>by have:=ab6 q hq;omega⟩;subst hq;rcases hf with e|e|e|e|e|e|e|⟨g1,AP,e⟩;{exact n4 e};{have:=(H.lZ<|.inr<|.inl e).1;omega};{have:=(H.lZ<|.inr<|.inr<|.inl e).1;omega};{have:=(H.lZ<|.inr<|.inr<|.inr<|.inl e).1;omega};{have:=(H.lZ<|.inr<|.inr<|.inr<|.inr<|.inl e).1;omega};{have:=(H.lZ<|.inr<|.inr<|.inr<|.inr<|.inr<|.inl e).1;omega};{have:=ab6 _ e;omega};have:=(H.lZ<|.inr<|.inr<|.inr<|.inr<|.inr<|.inr<|.inr ⟨g1,AP,e⟩).1;omega
end
end
def azE(m k):jE m (k+1)=UInt8.ofNat (m/256^k%256)::jE m k:=by induction k generalizing m with|zero=>simp[jE]|succ k ih=>rw[jE,ih<|m/256];show UInt8.ofNat (m/256/256^k%256)::jE (m/256) k++[UInt8.ofNat<|m%256]=_;rw[Nat.div_div_eq_div_mul,Nat.pow_succ,Nat.mul_comm];rfl
theorem azF(m k i)(h:i<k):(jE m k)[i]? =(UInt8.ofNat<|m/256^(k-1-i)%256):=by induction k generalizing i with|zero=>omega|succ k H=>rw[azE];match i with|0=>simp|i+1=>rw[Rf,H i YV];(have:k-1-i=k+1-1-(i+1):=YV);rw[this]
def numOf(l:List UInt8):Nat:=l.foldl (λn x=>n*256+x.toNat) 0
theorem ahM(l x):numOf (l++[x])=numOf l*256+x.toNat:=by simp[numOf,UC]
def azG(l):numOf l<256^O l:=by suffices h:∀k l,O l=k->numOf l<256^k from h _ l J;intro k;induction k with|zero=>intro l H;rw[List.length_eq_zero_iff.1 H];simp[numOf]|succ k ih=>intro l H;(have fE:l≠[]:=λe=>by simp[e]at H);rw[<-List.dropLast_concat_getLast fE,ahM];have h1:=ih l.dropLast (by simp[H]);have h2:=(l.getLast fE).toNat_lt;rw[Nat.pow_succ];simp at h2;omega
def azH(m k):numOf (jE m k)=m%256^k:=by induction k generalizing m with|zero=>simp[jE,numOf,Nat.mod_one]|succ k ih=>rw[jE,ahM,ih,Nat.pow_succ,Nat.mul_comm<|256^k,Nat.mod_mul];simp<;>omega
theorem aop{m k}(h:m<256^k):numOf (jE m k)=m:=by rw[azH,Nat.mod_eq_of_lt h]
section
def rO(l:List UInt8):Int:=(oM l).2*65536+(oM l).1
def wrap_u32{n}(h0:0<=n)(hm:n<4294967296):IntKind.u32.wrap n=n:=aQH
theorem wrap_u64{n}(h0:0<=n)(hm:n<18446744073709551616):IntKind.u64.wrap n=n:=aQH
def yV(w:ae)(g o:Nat)(l:List UInt8):Prop:=∀j x,l[j]? =Y x->w (g,o+j)=Y (.int .u8 x.toNat)
variable{n g o cap x:Nat}{w:ae}{l:List UInt8}
theorem aoq(h:yV w g o l)(hl:O l<=1000):aH aj 195 #[aP (Y (g,o)) l cap] w λe w'=>e=aU (.int .u32<|rO l)/\w=w':=by have HB:=aQe h;have⟨n,hn⟩:∃n,O l=n:=⟨_,J⟩;rw[hn]at hl⊢;clear h;go_enter func195,ntmps195;go_wp2_with fail;go_loopw [3,4,9] (λa b i w'=>∃k,k<=n/\i=k/\a=.int .u32 (oM<|l.take k).1/\b=.int .u32 (oM<|l.take k).2/\w=w') (λ_ _ i _=>(n-bM i).toNat);(case atStart=>exact⟨0,YV,J,J,J,J⟩);case round=>obtain⟨k,hk,rfl,rfl,rfl,rfl⟩:=hrel;by_cases aO:k<n;{have⟨c,hc⟩:∃c,l[k]? =Y c:=Y0;have hcell:=HB k c hc;(have HA:I (oM (l.take<|k+1)=EX (oM<|l.take k) c):=by show oM (l.take<|k+1)=_;rw[uz,hc,Cb,an8]);have qy:=Sl<|l.take k;generalize oM (l.take k)=ab at HA qy;have⟨a,b⟩:=ab;simp only at qy⊢;have⟨i1,i2,i3,i4⟩:=qy;have⟨x,hx⟩:∃x,(c.toNat:Int)=x:=⟨_,J⟩;rw[hx]at hcell;(have vJ:0<=x:=YV);(have mV:x<256:=by have:=c.toNat_lt;omega);have⟨H,uf⟩:∃H,(a+x)%65521=H:=⟨_,J⟩;have⟨b1,qR⟩:∃b1,(b+H)%65521=b1:=⟨_,J⟩;(have q1:IntKind.u32.wrap (a+x)=a+x:=wrap_u32 YV YV);(have q2:(a+x).tmod 65521=H:=Zv);(have q3:IntKind.u32.wrap (b+H)=b+H:=wrap_u32 YV YV);(have q4:(b+H).tmod 65521=b1:=Zv);(have q5:=wrap_u32 vJ YV);(have q6:=wrap_u32 YV YV);(have q7:=wrap_u32 YV YV);(have Em:I (oM (l.take<|k+1)=(H,b1)):=by show oM (l.take<|k+1)=(H,b1);rw[HA];simp only[EX];grind);(have FB:(0:Int)<=(k:Int):=YV);(have aX:(k:Int)<n:=YV);clear HA uf qR i1 i2 i3 i4 vJ mV hc;go_wp2_with fail;go_roundw;(case rel=>exact⟨k+1,YV,Y4,by rw[Em],by rw[Em],trivial⟩);case measure=>simp[bM]<;>omega};(have hkn:k=n:=YV);(have HT:I (l.take k=l):=xN YV);subst hkn;have qy:=Sl l;have HE:I (rO l=(oM l).2*65536+(oM l).1):=J;rw[HT];generalize oM l=ab at qy HE;have⟨a,b⟩:=ab;simp only at qy⊢;have⟨i1,i2,i3,i4⟩:=qy;(have q1:IntKind.u32.wrap (b*65536)=b*65536:=wrap_u32 YV YV);(have q2:IntKind.u32.wrap (b*65536+a)=b*65536+a:=wrap_u32 YV YV);clear i1 i2 i3 i4;go_wp2_with fail;go_ret;exact⟨by rw[HE];rfl,J⟩
def azI(hn:n<72057594037927936)(hx:x<256):(BitVec.ofInt 64 ((n:Int)*256)|||BitVec.ofInt 64 (x:Int)).toNat=n*256+x:=by (have e1:BitVec.ofInt 64 ((n:Int)*256)=BitVec.ofNat 64 (n*256):=by apply BitVec.eq_of_toNat_eq;simp<;>omega);have:=Nat.two_pow_add_eq_or_of_lt (i:=8) YV n;grind
def azJ(hn:n<72057594037927936)(hx:x<256):bits .or .u64 ((n:Int)*256) (x:Int)=((n*256+x:Nat):Int):=by have:=azI hn hx;show IntKind.u64.wrap _=_;rw[show(BitVec.ofInt IntKind.u64.bits _|||BitVec.ofInt IntKind.u64.bits _).toNat=n*256+x from this];grind[wrap_u64]
def aor(h:yV w g o l)(hl:O l<=8):aH aj 178 #[aP (Y (g,o)) l cap] w λe w'=>e=aU (.int .u64<|numOf l)/\w=w':=by have HB:=aQe h;have⟨n,hn⟩:∃n,O l=n:=⟨_,J⟩;rw[hn]at hl⊢;clear h;go_wp2;go_loopw [3,8] (λa i w'=>∃k,k<=n/\i=.int _ k/\a=.int _ (numOf<|l.take k)/\w=w') (λ_ i _=>(n-bM i).toNat);(case atStart=>exact⟨0,YV,J,J,J⟩);case round=>obtain⟨k,hk,rfl,rfl,rfl⟩:=hrel;by_cases aO:k<n;{have⟨c,hc⟩:∃c,l[k]? =Y c:=Y0;have H:=HB k c hc;(have HA:I (numOf (l.take<|k+1)=numOf (l.take k)*256+c.toNat):=by show numOf _=_;grind[List.take_add_one,ahM]);have jD:=azG<|l.take k;(have hp:256^(l.take k).length<=256^7:=Nat.pow_le_pow_right YV Zv);generalize numOf (l.take k)=m at HA jD⊢;(have hm:m<72057594037927936:=YV);have⟨x,hx⟩:∃x,c.toNat=x:=⟨_,J⟩;rw[hx]at H HA;(have mV:x<256:=by have:=c.toNat_lt;omega);clear jD hp hx hc;go_wp2;go_roundw;(case rel=>exact⟨k+1,YV,Y4,by rw[HA,azJ hm mV],trivial⟩);case measure=>simp[bM]<;>omega};(have hkn:k=n:=YV);(have HT:I (l.take k=l):=xN YV);subst hkn;rw[HT];go_wp2;go_ret;simp_all
theorem yV.sub(h:yV w g o l)(i n):yV w g (o+i) ((l.drop i).take n):=λj x H=>by rw[List.getElem?_take]at H;split at H;{rw[List.getElem?_drop]at H;rw[Jf];exact h _ _ H};grind
def Zx(l:List UInt8):Bool:=decide<|((numOf ((l.drop 12).take 4):Nat):Int)=rO (l.take 12)
def azK(w a)(hn:n<16):aH aj 177 #[.slice a n cap] w λr w'=>r=ah/\Fr aB w w':=by match n,hn with|0,_|1,_|2,_|3,_|4,_|5,_|6,_|7,_|8,_|9,_|10,_|11,_|12,_|13,_|14,_|15,_=>go_wp2;go_quiet (fail);go_wp2;go_ret;exact⟨J,eH.drewN _⟩|n+16,h=>omega
def azL(h:yV w g o l)(hl:16<=O l)(oI:l<=cap):aH aj 177 #[aP (Y (g,o)) l cap] w λe w'=>e=aU (.bool<|Zx l)/\Fr aB w w':=by
 have H1:=aQe<|h.sub 12 4;have H2:I (yV w g o<|l.take 12):=by have:=h.sub 0 12;simp at this;exact this
 have H:I (((l.drop 12).take 4).length=4):=by show((l.drop 12).take 4).length=4;grind
 have L2:I ((l.take 12).length=12):=Zv
 have HW:I (Zx l=decide (((numOf ((l.drop 12).take 4):Nat):Int)=rO (l.take 12))):=J;have⟨n,hn⟩:∃n,O l=n:=⟨_,J⟩;rw[hn]at hl oI⊢;generalize(l.drop 12).take 4=l1 at H1 H HW;generalize l.take 12=l2 at H2 L2 HW;have uV:(16:Int)<=n:=YV
 have iy:=Sl l2;have as0:0<=rO l2:=by unfold rO;omega
 have as1:rO l2<4294967296:=by unfold rO;omega
 have as2:=wrap_u64 as0 YV;have oH:(16:Int)<=cap:=YV
 have kX:(12:Int)<=cap:=YV
 have IY:¬cap=12:=YV
 clear h iy;go_enter func177,ntmps177;go_wp2;go_region_held3 (λ_=>True) (first|trivial|go_keep) (first|(go_at_call 178;apply(show aH _ _ _ _ _ from by have:=aor (w:=w.drew) (cap:=cap-12) H1 (by have:=H.o;omega);rwa[H.o]at this).z;rintro e w1 ⟨rfl,rfl⟩)|(go_at_call 195;apply(show aH _ _ _ _ _ from by have:=aoq (w:=w.drew) (cap:=cap) H2.o (by have:=L2.o;omega);rwa[L2.o]at this).z;rintro e w2 ⟨rfl,rfl⟩));go_wp2;go_ret;exact⟨by rw[HW];exact jV (λb=>Ending.returned _) J,eH.drew⟩
end
section
structure Next(P Q:Int)(L:List Rc)(r:Rc):Prop where
 p0:0<=r.p
 p1:r.p<P
 kind:(r.k=1/\r.a=0/\r.m=(aF L r.p).e+1)\/(r.k=2/\(0<=r.a/\r.a<Q)/\(((aF L r.p).s=0/\r.m=(aF L r.p).t+1)\/((aF L r.p).s=1/\r.m=(aF L r.p).t/\r.a∉(aF L r.p).ps)))\/
  (r.k=3/\(r.a=0\/r.a=1)/\(aF L r.p).s=1/\r.m=(aF L r.p).t)\/(r.k=4/\r.a=0/\2<=(aF L r.p).s/\r.m=(aF L r.p).t)
inductive Valid(P Q:Int):List Rc->Prop
 |nil:Valid P Q []
 |snoc {L:List Rc} {r:Rc}:Valid P Q L->Next P Q L r->Valid P Q (L++[r])
structure St.iH(Q:Int)(n:Nat)(x:St):Prop where
 e0:0<=x.e
 e1:x.e<=n
 t0:0<=x.t
 t1:x.t<=n
 s0:0<=x.s
 s1:x.s<=3
 ps:∀q∈x.ps,0<=q/\q<Q
 nd:x.ps.Nodup
section
variable{P Q L}{r:Rc}
theorem St.Jt{p}(x:St)(h:r.p≠p):x.step p r=x:=by simp[St.step,h]
def Valid.pY(h:Valid P Q L):∀p,(aF L p).iH Q L:=by
 induction h with
 |nil=>intro p;exact⟨by simp[aF,EW],by simp[aF,EW],by simp[aF,EW],by simp[aF,EW],by simp[aF,EW],by simp[aF,EW],by simp[aF,EW],by simp[aF,EW]⟩
 | @snoc L r _ hn ih=>
   intro p;rw[yA];have f:=ih p;by_cases hp:r.p=p
   ·subst hp;have e1:=f.e1;have t1:=f.t1;have e0:=f.e0;have t0:=f.t0;rcases hn.kind with⟨h1,h2,H⟩|⟨h1,h2,H⟩|⟨h1,h2,H,h4⟩|⟨h1,h2,H,h4⟩
    ·have:(aF L r.p).step r.p r={aF L r.p with e:=r.m}:=by simp[St.step,h1]
     rw[this];exact{f with e0:=Zv,e1:=Zv,t1:=Zv}
    ·have:(aF L r.p).step r.p r=⟨(aF L r.p).e,r.m,1,(if(aF L r.p).s=0 then[]else(aF L r.p).ps)++[r.a]⟩:=by simp[St.step,h1]
     rw[this];refine⟨f.e0,Zv,?_,?_,Zv,Zv,?_,?_⟩;any_goals grind
     ·grind[cases St.iH]
     ·rcases H with⟨H,_⟩|⟨H,_,h4⟩
      ·simp[H]
      ·simp only[H];rw[if_neg Xa];grind[cases St.iH]
    ·have:(aF L r.p).step r.p r={aF L r.p with s:=3-r.a}:=by simp[St.step,h1]
     rw[this];exact⟨f.e0,Zv,f.t0,Zv,Zv,Zv,f.ps,f.nd⟩
    ·have:(aF L r.p).step r.p r={aF L r.p with s:=0}:=by simp[St.step,h1]
     rw[this];exact⟨f.e0,Zv,f.t0,Zv,Xy,Xy,f.ps,f.nd⟩
   ·rw[St.Jt _ hp];have e1:=f.e1;have t1:=f.t1;exact{f with e1:=Zv,t1:=Zv}
structure Rc.Small(r:Rc)(n:Nat):Prop where
 k0:1<=r.k
 k1:r.k<=4
 p0:0<=r.p
 p1:r.p<6
 a0:0<=r.a
 a1:r.a<4
 m0:0<=r.m
 m1:r.m<=n+1
theorem Next.small(hn:Next P Q L r)(hv:Valid P Q L)(hP:P<=6)(hQ:Q<=4):r.Small L:=by have f:=hv.pY r.p;have a1:=f.e0;have a2:=f.e1;have a3:=f.t0;have a4:=f.t1;have b1:=hn.p0;have b2:=hn.p1;rcases hn.kind with⟨h1,H,h3⟩|⟨h1,H,h3⟩|⟨h1,H,h3,h4⟩|⟨h1,H,h3,h4⟩;{exact⟨YV,YV,YV,YV,YV,YV,YV,YV⟩};{refine⟨YV,YV,YV,YV,YV,YV,?_,?_⟩<;>(omega)};{exact⟨YV,YV,YV,YV,YV,YV,YV,YV⟩};exact⟨YV,YV,YV,YV,YV,YV,YV,YV⟩
theorem Valid.small(hv:Valid P Q L)(hP:P<=6)(hQ:Q<=4):∀r∈L,r.Small L:=by
 induction hv with
 |nil=>grind
 | @snoc L r hv hn ih=>
   intro x hx;have H:x.Small L:=by
    grind[Next.small]
   have:=H.m1;exact{H with m1:=Zv}
theorem Rc.Small.ok{n}(h:r.Small n)(hn:n<1000000000000):r.Ok:=have⟨h1,h2,h3,h4,h5,h6,h7,h8⟩:=h;⟨YV,YV,YV,YV,YV,YV,YV,YV⟩
end
def PS.tie(x:PS)(q v:Int):PS:=if q=0 then{x with a:=v}else if q=1 then{x with b:=v}else if q=2 then{x with c:=v}else{x with d:=v}
def uC(v:Int):Int:=if 1<=v then 2 else v
def PS.gY(x:PS)(r:Rc):PS:=
 if r.k=1 then{x with e:=r.m}
 else if r.k=2 then({x with s:=1,t:=r.m}:PS).tie r.a 1
 else if r.k=3 then{x with s:=if r.a=1 then 2 else 3,a:=uC x.a,b:=uC x.b,c:=uC x.c,d:=uC x.d,wa:=1,ga:=1}
 else⟨x.e,x.t,0,0,0,0,0,0,0,0⟩
def mQ(H:List PS)(r:Rc):List PS:=H.set r.p.toNat<|(H.getD r.p.toNat yz).gY r
def replay(L:List Rc):List PS:=L.foldl mQ ET
def aos(L r):replay (L++[r])=mQ (replay L) r:=by simp[replay,UC]
def aot(L):(replay L).length=6:=by suffices h:∀(L:List Rc) H,O H=6->(L.foldl _ H).length=6 from h L _ J;intro L;induction L with|nil=>grind|cons r L ih=>intro H h;exact ih _<|by simp[mQ,h]
structure jk(z:St)(D:List Du)(tm hi i:Int)(x:PS):Prop where
 e:x.e=z.e
 t:x.t=z.t
 s:x.s=z.s
 none:x.s=0->x.a=0/\x.b=0/\x.c=0/\x.d=0
 some:x.s≠0->∀q:Nat,q<4->(1<=x.bU.getD q 0↔(q:Int)∈z.ps)
 ny:∀q:Nat,0<=x.bU.getD q 0/\x.bU.getD q 0<=2/\(x.s<=1->x.bU.getD q 0<=1)
 due:D.filter (λd=>decide<|d.p=i)=(dH x.bU 2 4).map λq=>⟨i,q,tm+x.wa,x.ga⟩
 si:x.s=1->x.si=tm-hi
theorem Xo(p:PS)(q)(H:q<4):p.bU.getD q 0=if q=0 then p.a else if q=1 then p.b else if q=2 then p.c else p.d:=by match q,H with|0,_|1,_|2,_|3,_=>rfl
theorem NC(p:PS)(q)(H:4<=q):p.bU.getD q 0=0:=by match q,H with|q+4,_=>simp[PS.bU]
theorem KU{ts l}(k)(h:∀q,ts.getD q 0<l):dH ts l k=[]:=by unfold dH;simp_all
theorem Zy(x:PS)(q v)(h0:0<=q)(h4:q<4)(j):(x.tie q v).bU.getD j 0=if(j:Int)=q then v else x.bU.getD j 0:=by by_cases hj:j<4;{(have hq:q=0\/q=1\/q=2\/q=3:=YV);(have H:j=0\/j=1\/j=2\/j=3:=YV);rcases hq with rfl|rfl|rfl|rfl<;>rcases H with rfl|rfl|rfl|rfl<;>rfl};rw[NC _ _ YV,NC _ _ YV,if_neg YV]
theorem Xp(x:PS)(q v):(x.tie q v).e=x.e/\(x.tie q v).t=x.t/\(x.tie q v).s=x.s/\(x.tie q v).si=x.si/\(x.tie q v).wa=x.wa/\(x.tie q v).ga=x.ga:=by unfold PS.tie;grind
section
variable{z D tm hi i}{x:PS}{r}
def jk.Gn(h:jk z D tm hi i x)(hp:r.p=i)(H:r.k=1):jk (z.step i r) D tm hi i (x.gY r):=by
 have e1:z.step i r={z with e:=r.m}:=by simp[St.step,hp,H]
 have e2:x.gY r={x with e:=r.m}:=by simp[PS.gY,H]
 rw[e1,e2];exact{h with e:=J}
def filter_none(h:x.s<=1)(hp:jk z D tm hi i x):D.filter (λd=>decide<|d.p=i)=[]:=by grind[cases jk,KU]
def jk.add(h:jk z D tm hi i x)(hp:r.p=i)(hk:r.k=2)(ha:0<=r.a/\r.a<4)(hs:z.s=0\/z.s=1)(H)(hsi:H=tm-hi):jk (z.step i r) D tm hi i {x.gY r with si:=H}:=by
 have e1:z.step i r=⟨z.e,r.m,1,(if z.s=0 then[]else z.ps)++[r.a]⟩:=by simp[St.step,hp,hk]
 have e2:x.gY r=({x with s:=1,t:=r.m}:PS).tie r.a 1:=by simp[PS.gY,hk]
 have key:∀j,(({x.gY r with si:=H}:PS).bU.getD j 0)=if(j:Int)=r.a then 1 else x.bU.getD j 0:=λj=>by
  rw[e2];exact Zy _ _ 1 ha.1 ha.2 j
 have⟨r1,r2,r3,r4,r5,r6⟩:=Xp ({x with s:=1,t:=r.m}:PS) r.a 1;rw[<-e2]at r1 r2 r3 r4 r5 r6;have AA:x.s<=1:=by have:=h.s;omega
 rw[e1];refine⟨r1.t h.e,r2,r3,λe=>?_,λ_ q hq=>?_,λq=>?_,?_,λ_=>hsi⟩
 ·grind
 ·rw[key q];simp only[yu,yQ];by_cases hqa:(q:Int)=r.a
  ·omega
  ·rw[if_neg hqa];rcases hs with hs|hs
   ·have hz:=h.none<|h.s.t hs;rw[if_pos hs];grind[Xo]
   ·rw[if_neg YV,h.some (by have:=h.s;omega) q hq];grind
 ·rw[key q];grind[cases jk]
 grind[cases jk,KU]
theorem adN(H:r.k=3)(j):(x.gY r).bU.getD j 0=uC (x.bU.getD j 0):=by
 have e2:x.gY r={x with s:=if r.a=1 then 2 else 3,a:=uC x.a,b:=uC x.b,c:=uC x.c,d:=uC x.d,wa:=1,ga:=1}:=by simp[PS.gY,H]
 by_cases hj:j<4
 ·have AB:j=0\/j=1\/j=2\/j=3:=YV
  rw[e2];rcases AB with rfl|rfl|rfl|rfl<;>rfl
 ·rw[NC _ _ YV,NC _ _ YV];rfl
def aou(D:List Du)(i):(D.filter<|Du.stays i<|-1).filter (λd=>decide<|d.p=i)=[]:=by rw[alT];intro d hd;have:=(EE.1 hd).2;simp[Du.stays]at this;grind
def aov(p t H k):(lq p t H k).filter (λd=>decide<|d.p=p)=lq p t H k:=by rw[List.filter_eq_self];intro d hd;simp only[lq,Dz]at hd;grind
def aow{H ts}{k:Nat}(hk:k<=4)(hq:∀q∈H,0<=q/\q<(k:Int))(h:∀q:Nat,q<4->(2<=ts.getD q 0↔(q:Int)∈H))(p t):lq p t H k=(dH ts 2 4).map λq=>⟨p,q,t+1,1⟩:=by
 have e1:dH ts 2 4=((List.range k).filter λi=>decide<|2<=ts.getD i 0).map Int.ofNat:=by unfold dH;congr 1;(have:List.range 4=List.range k++(List.range<|4-k).map (k+ ·):=by rw[<-List.range_add];grind);(have h2:((List.range<|4-k).map (k+ ·)).filter (λi=>decide<|2<=ts.getD i 0)=[]:=by rw[alT];grind);grind
 rw[e1];unfold lq;rw[List.map_map];have e2:(List.range k).filter (λ(i:Nat)=>decide<|(i:Int)∈H)=(List.range k).filter λi=>decide (2<=ts.getD i 0):=by apply af0;grind
 simp_all
def jk.end_(h:jk z D tm hi i x)(hp:r.p=i)(H:r.k=3)(ha:r.a=0\/r.a=1)(hs:z.s=1){Q:Nat}(hQ:Q<=4)(iQ:∀q∈z.ps,0<=q/\q<(Q:Int)):
 jk (z.step i r) (D.filter (Du.stays i<|-1)++lq i tm (z.step i r).ps Q) tm hi i (x.gY r):=by
 have e1:z.step i r={z with s:=3-r.a}:=by simp[St.step,hp,H]
 have e2:x.gY r={x with s:=if r.a=1 then 2 else 3,a:=uC x.a,b:=uC x.b,c:=uC x.c,d:=uC x.d,wa:=1,ga:=1}:=by simp[PS.gY,H]
 have zo:(x.gY r).s=3-r.a:=by
  grind
 have Zz:(x.gY r).wa=1/\(x.gY r).ga=1:=Zv
 have mV:x.s≠0:=by have:=h.s;omega
 have LY:∀q,(2<=(x.gY r).bU.getD q 0↔1<=x.bU.getD q 0):=λq=>by
  rw[adN H];unfold uC;omega
 rw[e1];refine⟨by rw[e2];exact h.e,by rw[e2];exact h.t,zo,YV,λ_ q hq=>?_,λq=>?_,?_,YV⟩
 ·grind[cases jk,adN]
 ·rw[adN H];have f1:=(h.ny q).1;unfold uC;omega
 ·rw[FY,aou,aov,zy,aow hQ iQ λq hq=>(LY q).t<|h.some mV q hq,Zz.1,Zz.2]
def jk.done{H}(h:jk z D tm hi i x)(hp:r.p=i)(hk:r.k=4)(hD:H.filter (λd=>decide<|d.p=i)=[]):jk (z.step i r) H tm hi i (x.gY r):=by
 have e1:z.step i r={z with s:=0}:=by simp[St.step,hp,hk]
 have e2:x.gY r=⟨x.e,x.t,0,0,0,0,0,0,0,0⟩:=by simp[PS.gY,hk]
 have hz:∀q,(⟨x.e,x.t,0,0,0,0,0,0,0,0⟩:PS).bU.getD q 0=0:=λq=>by
  match q with
  |0|1|2|3=>rfl
  |q+4=>simp[PS.bU]
 rw[e1,e2];refine⟨h.e,h.t,J,Zv,Zv,Zv,?_,Zv⟩;grind[KU]
def jk.other{H}(h:jk z D tm hi i x)(hp:r.p≠i)(hD:H.filter (λd=>decide<|d.p=i)=D.filter (λd=>decide<|d.p=i)):jk (z.step i r) H tm hi i x:=by
 rw[St.Jt _ hp];exact{h with due:=hD.t h.due}
end
structure Ju(z:St)(x:PS):Prop where
 e:x.e=z.e
 t:x.t=z.t
 s:x.s=z.s
 none:x.s=0->x.a=0/\x.b=0/\x.c=0/\x.d=0
 one:x.s=1->∀q:Nat,q<4->x.bU.getD q 0=if(q:Int)∈z.ps then 1 else 0
 two:2<=x.s->(∀q:Nat,q<4->x.bU.getD q 0=if(q:Int)∈z.ps then 2 else 0)/\x.wa=1/\x.ga=1
 si:x.si=0
theorem Ju.step{P Q L r x}(hn:Next P Q L r)(hQ:Q<=4)(h:Ju (aF L r.p) x):Ju (aF (L++[r]) r.p) (x.gY r):=by
 rw[yA];have hnk:=hn.kind;generalize aF L _=z at h hnk⊢
 rcases hnk with⟨H,h2,h3⟩|⟨H,h2,h3⟩|⟨H,h2,h3,h4⟩|⟨H,h2,h3,h4⟩
 ·have e1:z.step r.p r={z with e:=r.m}:=by simp[St.step,H]
  have e2:x.gY r={x with e:=r.m}:=by simp[PS.gY,H]
  rw[e1,e2];exact{h with e:=J}
 ·have e1:z.step r.p r=⟨z.e,r.m,1,(if z.s=0 then[]else z.ps)++[r.a]⟩:=by simp[St.step,H]
  have e2:x.gY r=({x with s:=1,t:=r.m}:PS).tie r.a 1:=by simp[PS.gY,H]
  have key:∀j,(x.gY r).bU.getD j 0=if(j:Int)=r.a then 1 else x.bU.getD j 0:=λj=>by
   rw[e2];exact Zy _ _ 1 h2.1 YV j
  have⟨r1,r2,r3,r4,r5,r6⟩:=Xp ({x with s:=1,t:=r.m}:PS) r.a 1;rw[<-e2]at r1 r2 r3 r4 r5 r6;rw[e1];refine⟨r1.t h.e,r2,r3,Zv,λ_ q hq=>?_,Zv,r4.t h.si⟩;rw[key q];simp only[yu,yQ];by_cases hqa:(q:Int)=r.a
  ·omega
  ·rw[if_neg hqa];rcases h3 with⟨h3,_⟩|⟨h3,_,_⟩
   ·have hz:=h.none<|h.s.t h3;rw[if_pos h3,if_neg Zv,Xo x q hq];omega
   ·rw[h.one (h.s.t h3) q hq,if_neg<|show¬z.s=0 by omega];grind
 ·have e1:z.step r.p r={z with s:=3-r.a}:=by simp[St.step,H]
  have e2:x.gY r={x with s:=if r.a=1 then 2 else 3,a:=uC x.a,b:=uC x.b,c:=uC x.c,d:=uC x.d,wa:=1,ga:=1}:=by simp[PS.gY,H]
  have zo:(x.gY r).s=3-r.a:=by
   grind
  rw[e1];refine⟨by rw[e2];exact h.e,by rw[e2];exact h.t,zo,YV,YV,λ_=>⟨λq hq=>?_,by rw[e2],by rw[e2]⟩,by rw[e2];exact h.si⟩;rw[adN H,h.one (h.s.t h3) q hq];unfold uC;grind
 ·have e1:z.step r.p r={z with s:=0}:=by simp[St.step,H]
  have e2:x.gY r=⟨x.e,x.t,0,0,0,0,0,0,0,0⟩:=by simp[PS.gY,H]
  rw[e1,e2];exact⟨h.e,h.t,J,Zv,Zv,Zv,J⟩
def Valid.replay{P Q L}(hv:Valid P Q L)(hQ:Q<=4):∀i:Nat,i<6->∃x,(replay L)[i]? =Y x/\Ju (aF L i) x:=by induction hv with|nil=>(intro i H;have hz:Ju EW yz:=⟨J,J,J,λ_=>⟨J,J,J,J⟩,λe=>by simp[yz]at e,λe=>by simp[yz]at e,J⟩;match i,H with|0,_|1,_|2,_|3,_|4,_|5,_=>exact⟨yz,J,hz⟩)| @snoc L r hv hn ih=>intro i H;rw[aos];have Mc:=hn.p0;by_cases e:r.p=i;{have⟨x,hx,hr⟩:=ih i H;refine⟨x.gY r,?_,?_⟩;{unfold mQ;grind};grind[Ju.step]};have⟨x,hx,hr⟩:=ih i H;refine⟨x,?_,?_⟩;{unfold mQ;grind};grind[yA,St.Jt]
def ahP(x:PS)(l:List Int)(v)(h:∀q,q<4->x.bU.getD q 0=if(q:Int)∈l then v else 0)(q):x.bU.getD q 0=0\/x.bU.getD q 0=v:=by grind[NC]
def Ju.azN{z x D tm i}(h:Ju z x){Q:Nat}(hQ:Q<=4)(hs:0<=z.s)(iQ:∀q∈z.ps,0<=q/\q<(Q:Int))(hD:D.filter (λd=>decide<|d.p=i)=if 2<=z.s then lq i tm z.ps Q else[]):jk z D tm tm i x:=by have hx:=h.s;refine⟨h.e,h.t,h.s,h.none,λe q hq=>?_,λq=>?_,?_,λ_=>by rw[h.si];omega⟩;{grind[cases Ju]};{rcases(show x.s=0\/x.s=1\/2<=x.s by omega)with H|H|H;{grind[cases Ju,Xo,NC]};{rcases ahP x _ 1 (h.one H) q with e2|e2<;>(omega)};rcases ahP x _ 2 (h.two H).1 q with e2|e2<;>(omega)};rw[hD];rcases(show x.s=0\/x.s=1\/2<=x.s by omega)with H|H|H;{have hz:=h.none H;rw[if_neg YV,KU 4 λq=>?_];{rfl};grind[Xo,NC]};{rw[if_neg YV,KU 4 λq=>?_];{rfl};rcases ahP x _ 1 (h.one H) q with e2|e2<;>omega};rw[if_pos YV,aow hQ iQ λq hq=>?_,(h.two H).2.1,(h.two H).2.2];grind[cases Ju]
end
section
def HS.gq(h:HS)(i:Nat)(x:PS):HS:={h with ps:=h.ps.set i x}
def aox:∀(l:List PS) (i j:Nat) (x x':PS) (v:ai),l[i]? =Y x->j<10->x'.cs=x.cs.set j v->(l.flatMap PS.cs).set (i*10+j) v=(l.set i x').flatMap PS.cs|[],i,j,x,x',v,h,_,_=>aQB|y::r,0,j,x,x',v,h,hj,hx=>(by simp at h;subst h;simp;rw[List.set_append_left _ _ (by simp[PS.cs]<;>omega),hx])|y::r,i+1,j,x,x',v,h,hj,hx=>by have:=aox r i j x x' v h hj hx;simp;rw[alU _ _ (by simp[PS.cs]<;>omega),<-this];congr 2;simp[PS.cs]<;>omega
variable{i q:Nat}{x x':PS}
def HS.azO{h:HS}{j v}(hx:h.ps[i]? =x)(H:j<10)(hv:x'.cs=x.cs.set j v):h.cells.toArray.setIfInBounds (6+i*10+j) v=(h.gq i x').cells.toArray:=by rw[List.setIfInBounds_toArray];unfold HS.cells HS.gq;rw[alU _ _ Xz,List.set_append_left _ _<|by grind[adz],<-aox _ i j x x' v hx H hv];grind
def yC{h:HS}(hx:h.ps[i]? =x):(h.gq i x').ps[i]? =x':=by have H:=(kY.1 hx).1;simp[HS.gq,H]
def Su(x:PS)(H:q<4):x.cs[3+q]? =Y (.int .i64<|x.bU.getD q 0):=by match q,H with|0,_|1,_|2,_|3,_=>rfl
def adO(x:PS)(hq:q<4)(v):(x.tie q v).cs=x.cs.set (3+q) v:=by match q,hq with|0,_|1,_|2,_|3,_=>rfl
def ND(h:HS)(i x x'):(h.gq i x).gq i x'=h.gq i x':=by simp[HS.gq]
section
variable{w w':ae}{B xb n:Nat}{h:HS}
theorem aG.setCell(H:aG w B xb n h){i j x}(x'){v}(hx:h.ps[i]? =Y x)(hj:j<10)(hv:x'.cs=x.cs.set j v):aG (aZ w (xb,6+i*10+j) v) B xb n (h.gq i x')/\Fr (λk=>k=xb) w (aZ w (xb,6+i*10+j) v):=by have f:Fr (λk=>k=xb) w (aZ w (xb,6+i*10+j) v):=aQx;refine⟨H.put f ?_ J J J J J J J J<|by simp[HS.gq,H.h6],f⟩;rw[eX H.blk,HS.azO hx hj hv]
abbrev Bj(w:ae)(b xb:Nat):Prop:=w.heap[b]? =Y (aC #[ak<|Y ⟨xb,4,U⟩] 181 (0,0))
variable{i b:Nat}{x:PS}
def aG.cellP(H:aG w B xb n h)(hx:h.ps[i]? =x):(w (xb,6+i*10)=x.e/\w (xb,6+i*10+1)=x.t/\w (xb,6+i*10+2)=x.s)/\(∀o,w.frozen? ⟨xb,o,U⟩=ah):=⟨⟨H.kK hx 0 _ J,H.kK hx 1 _ J,H.kK hx 2 _ J⟩,gJ H.blk⟩
def aoy(H:aG w B xb n h)(hb:Bj w b xb)(hi:i<6)(hx:h.ps[i]? =x)(k a m):
 aH aj 179 #[jf #[V Z k,i,V Z a,V Z m],ak b] w λe w'=>e=dZ #[]/\aG w' B xb n (h.gq i {x with e:=m})/\Fr (λk=>k=xb) w w':=by
 have HH:=aQe H;have HX:=aQe hx;have k0:=cc hb 0;have L9:=bF hb;have iZ:=bF H.blk;have⟨⟨e0,e1,e2⟩,ef⟩:=H.cellP hx;clear H hx hb;go_enter func179,ntmps179
 go_wp2_with fail
 go_region
 go_end0
 have hs:=HH.setCell {x with e:=m} (j:=0) HX YV J;grind[Fr.drew,aQ,aG.a,Fr.t]
def aoz(H:aG w B xb n h){q:Nat}(hb:Bj w b xb)(hi:i<6)(hq:q<4)(hx:h.ps[i]? =x)(k m):
 aH aj 180 #[jf #[V Z k,i,q,V Z m],ak b] w λe w'=>e=dZ #[]/\aG w' B xb n (h.gq i<|({x with s:=1,t:=m}:PS).tie q 1)/\Fr (λk=>k=xb) w w':=by
 have HH:=aQe H;have HX:=aQe hx;have k0:=cc hb 0;have L9:=bF hb;have iZ:=bF H.blk;have⟨⟨e0,e1,e2⟩,ef⟩:=H.cellP hx;have e3:w (xb,6+i*10+3+q)=Y (.int .i64<|x.bU.getD q 0):=by
  match q,hq with
  |0,_=>exact H.kK hx 3 _ J
  |1,_=>exact H.kK hx 4 _ J
  |2,_=>exact H.kK hx 5 _ J
  |3,_=>exact H.kK hx 6 _ J
 have dL:(0:Int)<=(i:Int):=YV
 have lU:(i:Int)<6:=YV
 have oJ:(0:Int)<=(q:Int):=YV
 have lF:(q:Int)<4:=YV
 clear H hx hb;go_enter func180,ntmps180
 go_wp2_with fail
 go_region
 go_wp2_with fail
 go_region
 go_wp2_with fail
 go_region
 go_end0
 have s1:=HH.setCell {x with s:=1} (j:=2) HX YV J;have s2:=s1.1.setCell {x with s:=1,t:=m} (j:=1) (v:=m) (yC HX) YV J;rw[ND]at s2;have s3:=s2.1.setCell (({x with s:=1,t:=m}:PS).tie q 1) (j:=3+q) (v:=V Z 1) (yC HX) YV<|adO _ hq 1;rw[ND,<-Jf]at s3;refine⟨J,?_,?_⟩
 ·grind[aG.a,Fr.drew,aQ]
 ·exact((s1.2.t s2.2 YV).t s3.2 YV).t (((aQ _).drew).drew).drew Zv
def aoA:∀(l:List PS) (i:Nat) (x x':PS),l[i]? =Y x->∃u v,l.flatMap PS.cs=u++(x.cs++v)/\O u=i*10/\(l.set i x').flatMap PS.cs=u++(x'.cs++v)|[],i,x,x',h=>aQB|y::r,0,x,x',h=>(by simp at h;subst h;exact⟨[],r.flatMap PS.cs,Xy,Xy,Xy⟩)|y::r,i+1,x,x',h=>have⟨u,v,h1,h2,h3⟩:=aoA r i x x' h;⟨y.cs++u,v,by simp[h1],by simp[h2,PS.cs]<;>omega,by simp[h3]⟩
def aoB:∀(vs H pre post:List ai),O H=O vs->Xf (pre++(H++post)).toArray (O pre) vs=(pre++(vs++post)).toArray|[],H,pre,post,h=>(by have:H=[]:=Zv;subst this;rfl)|v::vs,H,pre,post,h=>by match H,h with|u::H,h=>rw[Xf,List.setIfInBounds_toArray];have:=aoB vs H (pre++[v]) post Zv;grind
def HS.azP{h:HS}(x')(hx:h.ps[i]? =x):Xf h.cells.toArray (6+i*10) x'.cs=(h.gq i x').cells.toArray:=by have⟨u,v,h1,H,h3⟩:=aoA _ i x x' hx;unfold HS.gq HS.cells;have:=aoB x'.cs x.cs ([V Z h.P,h.Q,h.T,h.K,h.jv,h.up]++u) (v++[aA h.br,h.kp,h.pv,h.fv]) J;rw[kZ,H]at this;simp_all
def aoC(H:aG w B xb n h)(hb:Bj w b xb)(hi:i<6)(hx:h.ps[i]? =x)(k a m):aH aj 182 #[jf #[V Z k,i,V Z a,V Z m],ak b] w λe w'=>e=dZ #[]/\aG w' B xb n (h.gq i ⟨x.e,x.t,0,0,0,0,0,0,0,0⟩)/\Fr (λk=>k=xb) w w':=by
 have HH:=aQe H;have HX:=aQe hx;have k0:=cc hb 0;have L9:=bF hb;have iZ:=bF H.blk;have⟨⟨e0,e1,e2⟩,ef⟩:=H.cellP hx;have e3:=H.kK hx 3 _ J;have e4:=H.kK hx 4 _ J;have e5:=H.kK hx 5 _ J;have e6:au w (xb,6+i*10+6)=Y (x.d):=H.kK hx 6 _ J;have e7:au w (xb,6+i*10+7)=Y (x.si):=H.kK hx 7 _ J;have e8:au w (xb,6+i*10+8)=Y (x.wa):=H.kK hx 8 _ J;have e9:au w (xb,6+i*10+9)=Y (x.ga):=H.kK hx 9 _ J;have dL:(0:Int)<=(i:Int):=YV
 have lU:(i:Int)<6:=YV
 clear H hx hb;go_enter func182,ntmps182;go_wp2_with fail;go_region;go_wp2_with fail;go_region;go_end0;have fs:Fr (λk=>k=xb) w (w.setCells xb (6+i*10) (⟨x.e,x.t,0,0,0,0,0,0,0,0⟩:PS).cs):=(by grind[Fr.setCells,Fr.refl]);have hs:aG (w.setCells xb (6+i*10) (⟨x.e,x.t,0,0,0,0,0,0,0,0⟩:PS).cs) B xb n (h.gq i ⟨x.e,x.t,0,0,0,0,0,0,0,0⟩):=by refine HH.put fs ?_ J J J J J J J J (by simp[HS.gq,HH.h6]);rw[<-HS.azP _ HX];exact Xg _ _ HH.blk
 exact⟨J,hs.a<|((aQ _).drew).drew,fs.t (((aQ _).drew).drew) Zv⟩
def ahQ(ts l):∀q∈dH ts l 4,∃H:Nat,q=H/\H<4:=by intro q hq;simp only[dH,Dz,EE,List.mem_range]at hq;grind
def KW{w B ty H v n xs}(h:bI w B ty H v n xs)(hn:0<n):∃g cap,v=aP (Y ⟨g,0,U⟩) n cap/\n<=cap:=by rcases h.2 with⟨_,h0⟩|⟨g,cap,cur,hv,hb,hg,h1,h2,_⟩;{omega};grind
def PS.pend(x:PS):List Int->PS|[]=>x|q::r=>(x.tie q 2).pend r
def PS.aoD(x:PS)(l q):x.pend (l++[q])=(x.pend l).tie q 2:=by induction l generalizing x with|nil=>rfl|cons a r H=>exact H _
def ahR(hh:aG w B xb n h)(hb:Bj w b xb)(hi:i<6)(hx:h.ps[i]? =x)(k m){c:Bool}{a s'}(ha:a=if c then 1 else 0)(oZ:s'=if c then 2 else 3):
 aH aj 181 #[jf #[V Z k,i,V Z a,V Z m],ak b] w λe w'=>e=dZ #[]/\aG w' B xb n (h.gq i {({x with s:=s'}:PS).pend (dH x.bU 1 4)with wa:=1,ga:=1})/\Fr (λk=>k=xb) w w':=by
 have HH:I (aG w B xb n h):=hh;have HX:I (h.ps[i]? =Y x):=hx;have k0:=cc hb 0;have L9:=bF hb;have iZ:=bF hh.blk;obtain⟨⟨e0,e1,e2⟩,ef⟩:=hh.cellP hx;have dL:(0:Int)<=(i:Int):=by omega
 have lU:(i:Int)<6:=by omega
 clear hh hx hb;cases c
 ·obtain rfl:a=0:=ha;obtain rfl:s'=3:=oZ;go_enter func181,ntmps181
  go_wp2_with fail
  go_region
  go_wp2_with fail
  have hW:=(HH.setCell {x with s:=3} (j:=2) (v:=V Z 3) HX (by omega) J);have fW:Fr aB (aZ w (xb,6+i*10+2)<|V Z 3) ((aZ w (xb,6+i*10+2)<|V Z 3).alloc<|aC #[k,i,V Z 0,m] 184).drew:=(aQ _).drew;replace hW:=(⟨hW.1.a fW,hW.2.t fW dA⟩:aG _ B xb n (h.gq i {x with s:=3})/\Fr (λk=>k=xb) w _);generalize((aZ w (xb,6+i*10+2)<|V Z 3).alloc<|aC #[k,i,V Z 0,m] 184).drew=W at hW⊢
  clear fW;have HW:I (aG W B xb n<|h.gq i {x with s:=3}):=hW.1;have FW:I (Fr (λk=>k=xb) w W):=hW.2;have bx:=gZ iZ hW.2.size;have U8:I (∀j v,({x with s:=3}:PS).cs[j]? =Y v->au W (xb,6+i*10+j)=Y v):=λj v hv=>hW.1.kK (yC HX) j v hv;clear hW e0 e1 e2 ef;refine(RV (p:={x with s:=3}) U8 1).z ?_;rintro e w1 ⟨v,rfl,hv,hf⟩;have F1:I (Fr aB W w1):=hf;obtain⟨S,hS⟩:∃S,dH ({x with s:=3}:PS).bU 1 4=S:=⟨_,J⟩;have HS:I (dH x.bU 1 4=S):=hS;have Sv:I (∀q∈S,∃H:Nat,q=H/\H<4):=by
   show∀q∈S,∃H:Nat,q=H/\H<4;rw[<-hS];exact ahQ _ _
  rw[hS]at hv;have V1:I (xW W w1 v S):=hv;have H1:I (aG w1 B xb n<|h.gq i {x with s:=3}):=HW.a hf;obtain⟨va,vc,rfl,vM⟩:=jg hv;have J4:O S<=4:=by rw[<-hS];exact Xh _ _ _
  clear hf hS hv vM;go_wp2_with fail
  go_loopw [24] (λii w'=>∃j:Nat,j<=O S/\ii=j/\aG w' B xb n (h.gq i<|({x with s:=3}:PS).pend<|S.take j)/\Fr (λk=>k=xb) w1 w') (λii _=>(O S-bM ii).toNat)
  case atStart=>exact⟨0,by omega,J,H1,Fr.refl _ _⟩
  case round=>
   obtain⟨j,hj,rfl,dR,bT⟩:=hrel
   have HR:I (aG wr B xb n<|h.gq i<|({x with s:=3}:PS).pend<|S.take j):=dR
   have FR:I (Fr (λk=>k=xb) w1 wr):=bT
   have rf:∀o,wr.frozen? ⟨xb,o,U⟩=false:=gJ dR.blk
   by_cases aO:j<O S
   ·obtain⟨q,hq⟩:∃q,S[j]? =Y q:=⟨_,gG aO⟩
    obtain⟨H,rfl,jP⟩:=Sv q<|iO hq
    have HT:I (({x with s:=3}:PS).pend (S.take<|j+1)=(({x with s:=3}:PS).pend<|S.take j).tie H 2):=by
     show PS.pend _ _=_;rw[uz,hq,Cb,PS.aoD]
    have fD:=bT.ownsRow V1 (λk hk e=>by have:=(V1.lt k hk).1;omega)
    obtain⟨g,gc,xB,_⟩:=KW fD<|by omega
    simp only[aQQ]at xB
    obtain⟨rfl,_,rfl⟩:=xB
    have cq:=Jl fD hq
    have e3:au wr (xb,6+i*10+3+H)=Y (.int .i64<|(({x with s:=3}:PS).pend<|S.take j).bU.getD H 0):=by
     rw[Jf];exact dR.kK (yC HX) (3+H) _<|Su _ jP
    have oJ:(0:Int)<=(H:Int):=by omega
    have lF:(H:Int)<4:=by omega
    have hj0:(0:Int)<=(j:Int):=by omega
    have zg:(j:Int)<O S:=by omega
    clear fD dR bT hq
    go_wp2_with fail
    go_roundw
    case rel=>
     have hs:=HR.setCell ((({x with s:=3}:PS).pend<|S.take j).tie H 2) (j:=3+H) (v:=V Z 2) (yC HX) (by omega)<|adO _ jP 2
     rw[ND,<-Jf]at hs
     refine⟨j+1,by omega,by go_num,?_,FR.t hs.2 λ_=>.inl⟩
     rw[HT]
     exact hs.1
    case measure=>simp[bM]<;>omega
   ·have HT:I (S.take j=S):=xN (by omega)
    have e8:=dR.kK (yC HX) 8 _ J
    have e9:=dR.kK (yC HX) 9 _ J
    clear dR bT
    go_wp2_with fail
    go_end0
    have s1:=HR.setCell {(({x with s:=3}:PS).pend<|S.take j)with wa:=1} (j:=8) (v:=V Z 1) (yC HX) (by omega) J
    rw[ND]at s1
    have s2:=s1.1.setCell {(({x with s:=3}:PS).pend<|S.take j)with wa:=1,ga:=1} (j:=9) (v:=V Z 1) (yC HX) (by omega) J
    rw[ND]at s2
    refine⟨J,?_,(((FW.t F1 dA).t FR λ_=>.inl).t s1.2 λ_=>.inl).t s2.2 λ_=>.inl⟩
    rw[HS,<-HT]
    exact s2.1
 ·obtain rfl:a=1:=ha;obtain rfl:s'=2:=oZ;go_enter func181,ntmps181
  go_wp2_with fail
  go_region
  go_wp2_with fail
  have Ub:=(HH.setCell {x with s:=3} (j:=2) (v:=V Z 3) HX (by omega) J);have hW:=(Ub.1.setCell {x with s:=2} (j:=2) (v:=V Z 2) (yC HX) (by omega) J);rw[ND]at hW;have fW:Fr aB ((aZ w (xb,6+i*10+2)<|V Z 3).setCell (xb,6+i*10+2)<|V Z 2) (((aZ w (xb,6+i*10+2)<|V Z 3).setCell (xb,6+i*10+2)<|V Z 2).alloc<|aC #[k,i,V Z 1,m] 184).drew:=(aQ _).drew;replace hW:=(⟨hW.1.a fW,(Ub.2.t hW.2 λ_=>.inl).t fW dA⟩:aG _ B xb n (h.gq i {x with s:=2})/\Fr (λk=>k=xb) w _);generalize(((aZ w (xb,6+i*10+2)<|V Z 3).setCell (xb,6+i*10+2)<|V Z 2).alloc<|aC #[k,i,V Z 1,m] 184).drew=W at hW⊢
  clear fW Ub;have HW:I (aG W B xb n<|h.gq i {x with s:=2}):=hW.1;have FW:I (Fr (λk=>k=xb) w W):=hW.2;have bx:xb<W:=gZ iZ hW.2.size;have U8:I (∀j v,({x with s:=2}:PS).cs[j]? =Y v->au W (xb,6+i*10+j)=Y v):=λj v hv=>hW.1.kK (yC HX) j v hv;clear hW e0 e1 e2 ef;refine(RV (p:={x with s:=2}) U8 1).z ?_;rintro e w1 ⟨v,rfl,hv,hf⟩;have F1:I (Fr aB W w1):=hf;obtain⟨S,hS⟩:∃S,dH ({x with s:=2}:PS).bU 1 4=S:=⟨_,J⟩;have HS:I (dH x.bU 1 4=S):=hS;have Sv:I (∀q∈S,∃H:Nat,q=H/\H<4):=by
   show∀q∈S,∃H:Nat,q=H/\H<4;rw[<-hS];exact ahQ _ _
  rw[hS]at hv;have V1:I (xW W w1 v S):=hv;have H1:I (aG w1 B xb n<|h.gq i {x with s:=2}):=HW.a hf;obtain⟨va,vc,rfl,vM⟩:=jg hv;have J4:O S<=4:=by rw[<-hS];exact Xh _ _ _
  clear hf hS hv vM;go_wp2_with fail
  go_loopw [24] (λii w'=>∃j:Nat,j<=O S/\ii=j/\aG w' B xb n (h.gq i<|({x with s:=2}:PS).pend<|S.take j)/\Fr (λk=>k=xb) w1 w') (λii _=>(O S-bM ii).toNat)
  case atStart=>exact⟨0,by omega,J,H1,Fr.refl _ _⟩
  case round=>
   obtain⟨j,hj,rfl,dR,bT⟩:=hrel
   have HR:I (aG wr B xb n<|h.gq i<|({x with s:=2}:PS).pend<|S.take j):=dR
   have FR:I (Fr (λk=>k=xb) w1 wr):=bT
   have rf:∀o,wr.frozen? ⟨xb,o,U⟩=false:=gJ dR.blk
   by_cases aO:j<O S
   ·obtain⟨q,hq⟩:∃q,S[j]? =Y q:=⟨_,gG aO⟩
    obtain⟨H,rfl,jP⟩:=Sv q<|iO hq
    have HT:I (({x with s:=2}:PS).pend (S.take<|j+1)=(({x with s:=2}:PS).pend<|S.take j).tie H 2):=by
     show PS.pend _ _=_;rw[uz,hq,Cb,PS.aoD]
    have fD:=bT.ownsRow V1 (λk hk e=>by have:=(V1.lt k hk).1;omega)
    obtain⟨g,gc,xB,_⟩:=KW fD<|by omega
    simp only[aQQ]at xB
    obtain⟨rfl,_,rfl⟩:=xB
    have cq:=Jl fD hq
    have e3:au wr (xb,6+i*10+3+H)=Y (.int .i64<|(({x with s:=2}:PS).pend<|S.take j).bU.getD H 0):=by
     rw[Jf];exact dR.kK (yC HX) (3+H) _<|Su _ jP
    have oJ:(0:Int)<=(H:Int):=by omega
    have lF:(H:Int)<4:=by omega
    have hj0:(0:Int)<=(j:Int):=by omega
    have zg:(j:Int)<O S:=by omega
    clear fD dR bT hq
    go_wp2_with fail
    go_roundw
    case rel=>
     have hs:=HR.setCell ((({x with s:=2}:PS).pend<|S.take j).tie H 2) (j:=3+H) (v:=V Z 2) (yC HX) (by omega)<|adO _ jP 2
     rw[ND,<-Jf]at hs
     refine⟨j+1,by omega,by go_num,?_,FR.t hs.2 λ_=>.inl⟩
     rw[HT]
     exact hs.1
    case measure=>simp[bM]<;>omega
   ·have HT:I (S.take j=S):=xN (by omega)
    have e8:=dR.kK (yC HX) 8 _ J
    have e9:=dR.kK (yC HX) 9 _ J
    clear dR bT
    go_wp2_with fail
    go_end0
    have s1:=HR.setCell {(({x with s:=2}:PS).pend<|S.take j)with wa:=1} (j:=8) (v:=V Z 1) (yC HX) (by omega) J
    rw[ND]at s1
    have s2:=s1.1.setCell {(({x with s:=2}:PS).pend<|S.take j)with wa:=1,ga:=1} (j:=9) (v:=V Z 1) (yC HX) (by omega) J
    rw[ND]at s2
    refine⟨J,?_,(((FW.t F1 dA).t FR λ_=>.inl).t s1.2 λ_=>.inl).t s2.2 λ_=>.inl⟩
    rw[HS,<-HT]
    exact s2.1
end
end
section
def ahS:(prog.info? 5).map (λi=>(i.zero,i.size,i.bytes))=Y (Y<|.int .u8 0,1,1):=KG
def gu(l:List UInt8):List Value:=l.map λb=>.int .u8 b.toNat
theorem Jv(l):(gu l).length=l:=by simp[gu]
theorem adP(l m):gu (l++m)=gu l++gu m:=by simp[gu]
def azQ(m j:Nat):((m:Int)/2^(8*j)%256)=((UInt8.ofNat<|m/256^j%256).toNat:Int):=by grind[UInt8.toNat_ofNat',Int.pow_mul]
variable{w B n l}{x:Int}
theorem aoE{v}{m k:Nat}(h:bI w B 5 1 v (O l) (gu l))(hk:k<=8)(hl:O l<=1000)(hB:B<=w):aH aj 194 #[v,.int .u64 m,k] w λe w'=>∃v',e=aU v'/\bI w' B 5 1 v' (l++jE m k).length (gu<|l++jE m k)/\Fr (λx=>B<=x) w w':=by have HV:=h;have⟨i0,dL,fM,ed,fV⟩:=aQX ahS;clear h;go_enter func194,ntmps194;go_wp2_with fail;go_loopw [0,9] (λv' i w'=>∃j,j<=k/\i=j/\bI w' B 5 1 v' (l++(jE m k).take j).length (gu<|l++(jE m k).take j)/\Fr (λx=>B<=x) w w') (λ_ i _=>(k-bM i).toNat);(case atStart=>grind[Hid,Fr.refl]);case round=>obtain⟨j,hj,rfl,fD,bT⟩:=hrel;have HF:=aQe bT;have⟨p,hp⟩:∃p,l++(jE m k).take j=p:=⟨_,J⟩;rw[hp]at fD;have HP:=hp;(have xI:p=l+j:=by grind[Jq]);have gV:=bT.size;(have ug:O p<=1008:=YV);obtain⟨va,vc,rfl,_⟩:=jR fD;have⟨pl,H⟩:∃pl,O p=pl:=⟨_,J⟩;(have HW:I (bI wr B 5 1 (.slice va pl vc) pl<|gu p):=Zv);rw[H]at ug⊢;have Bg:=aQe H;by_cases aO:j<k;{(have HG:I (l++(jE m k).take (j+1)=p++[UInt8.ofNat<|m/256^(k-1-j)%256]):=by grind[List.take_add_one,azF]);have HBY:=aQe<|azQ m<|k-1-j;clear bT hp xI H fD;(have zg:(j:Int)<k:=YV);(have q1:(0:Int)<=(k:Int)-1-j:=YV);go_wp2_with (at_builtin;apply aQU _ J _ _ 99 J B 5 i0 _ 1 1 Y0 dL fM ed fV J Xa _ _ (gu p) J (HW.alloc _) wr 1 1 [.int .u8<|(m:Int)/2^(8*(k-1-j))%256] J J aQz Y7 Xa (by exact aQp) YV Xz (wr+1) Xy;intro gg jG w3 jO gW lX mW);go_roundw;(case rel=>have yh:Fr (λx=>B<=x) wr w3:=(eH.alloc _).grown gW λx ex=>(HW.lt x ex).1;refine⟨j+1,YV,Y4,?_,HF.t yh YV⟩;rw[HG,kZ,Bg,adP];rw[HBY]at jO;exact jO);case measure=>simp[bM]<;>omega};(have MG:j=k:=YV);(have HT:I (l++jE m k=p):=by grind[Jq]);clear bT hp xI H fD;subst MG;go_wp2_with fail;go_ret;exact⟨_,J,by rw[HT,Bg];exact HW,HF⟩
def yV.aoF{g cap}(h:bI w B 5 1 (aP (Y ⟨g,0,U⟩) n cap) (O l) (gu l)):yV w g 0 l:=λj x H=>by have:=h.cells J j (.int .u8 x.toNat) (by simp[gu,H]);grind[Addr.add_lit]
def ahT(h0:0<=x)(h1:x<256):IntKind.u8.wrap x=x:=aQH
theorem adQ(h0:0<=x)(h1:x<256):jE x.toNat 1=[UInt8.ofNat x.toNat]:=by simp[jE];grind
theorem toNat_one(h0:0<=x)(h1:x<256):((UInt8.ofNat x.toNat).toNat:Int)=x:=by rw[UInt8.toNat_ofNat'];omega
def ahU(w){r}(h:r.Small n)(hn:n<1000000000000):aH aj 171 #[jf #[r.k,r.p,r.a,r.m]] w λe w'=>∃v,e=aU v/\bI w' w 5 1 v 16 (gu<|dQ r)/\Fr aB w w':=by
 have⟨k0,k1,p0,p1,a0,a1,m0,m1⟩:=h;have q1:IntKind.u8.wrap r.k=r.k:=ahT YV YV;have q2:IntKind.u8.wrap r.p=r.p:=ahT YV YV;have q3:IntKind.u8.wrap r.a=r.a:=ahT YV YV;have q4:=wrap_u64 YV YV;have⟨H,hl4⟩:∃H,H=[UInt8.ofNat r.k.toNat,UInt8.ofNat r.p.toNat,UInt8.ofNat r.a.toNat,0]:=⟨_,J⟩;have HB4:I (gu H=[.int .u8 r.k,.int .u8 r.p,.int .u8 r.a,.int .u8 0]):=by show gu H=_;rw[hl4];simp only[gu,uj,uA];grind[toNat_one]
 have HL4:I (O H=4):=by show (O H)=4;grind
 have HH:I (H++jE r.m.toNat 8=ji r):=by show H++jE r.m.toNat 8=ji r;unfold ji;rw[hl4,adQ YV YV,adQ YV YV,adQ YV YV];rfl
 have HM:I (r.m=(r.m.toNat:Int)):=by show r.m=(r.m.toNat:Int);omega
 have iy:=Sl<|ji r;have as0:0<=rO (ji r):=by unfold rO;omega
 have as1:rO (ji r)<4294967296:=by unfold rO;omega
 have as2:=wrap_u64 as0 YV;have HS:I (rO (ji r)=((rO<|ji r).toNat:Int)):=Zv
 have HR:I (ji r++jE (rO<|ji r).toNat 4=dQ r):=J;clear hl4 iy as0 as1 k0 k1 p0 p1 a0 a1 m0 m1;go_enter func171,ntmps171;go_wp2_with fail;have⟨W,hW⟩:∃W,((w.alloc<|aC #[r.k,r.p,r.a,r.m] 184).alloc<|aC #[.int .u8 r.k,.int .u8 r.p,.int .u8 r.a,.int .u8 0] 5)=W:=⟨_,J⟩;have HWF:I (Fr aB w W):=by rw[<-hW];exact(aQ _).alloc _
 have HW0:bI W w 5 1 (aP (Y ⟨M (R w)+1,0,U⟩) 4 4) (O H) (gu H):=by rw[<-hW,HL4,HB4];have:=aRQ (base:=w) (e:=5) (size:=1) (w.alloc<|aC #[r.k,r.p,r.a,r.m] 184) #[.int .u8 r.k,.int .u8 r.p,.int .u8 r.a,.int .u8 0] 4 Xy Xa Xy;simp_all
 have HW:=HW0;rw[hW];clear hW HW0;have CB:I (aH aj 194 #[aP (Y ⟨M (R w)+1,0,U⟩) 4 4,.int .u64 r.m,V Z 8] W λe w'=>∃v',e=aU v'/\bI w' (M (R w)) 5 1 v' (ji r).length (gu<|ji r)/\Fr (λx=>w<=x) W w'):=by grind[aoE,Hid,Fr.size]
 apply CB.z;rintro e w1 ⟨v1,rfl,bV,aI⟩;have F1:=aQe<|HWF.t aI YV;have V1:=bV;obtain⟨g,cap,rfl,oI⟩:=KW bV (by rw[Pv];decide);have HB:=aQe<|yV.aoF bV;have HRL:=aQe<|Pv r;have ed:=F1.size;clear bV aI CB;have HC2:I (aH aj 195 #[aP g (ji r).length cap] w1 λe w'=>e=aU (.int .u32<|rO<|ji r)/\w1=w'):=(by grind[aoq,Hid.o]);have HC3:I (aH aj 194 #[aP g (ji r).length cap,.int .u64<|rO<|ji r,V Z 4] w1 λe w'=>∃v',e=aU v'/\bI w' (M (R w)) 5 1 v' (dQ r).length (gu<|dQ r)/\Fr (λx=>M (R w)<=x) w1 w'):=by grind[aoE,Hid.o]
 go_wp2_with (first|(go_at_call 195;(with_reducible apply HC2.o.z);rintro e w2 ⟨rfl,rfl⟩)|(go_at_call 194;(with_reducible apply HC3.o.z);rintro e w3 ⟨v3,rfl,Es,iL⟩;have V3:=aQe Es;have F3:I (Fr (λx=>M (R w)<=x) w1 w3):=iL;clear Es iL));go_ret;refine⟨_,J,?_,(by grind[Fr.t,Hid.o])⟩;have:=V3.o;rw[DR]at this;simp_all
end
section
def Bo(r:Rc):Value:=jf #[r.k,r.p,r.a,r.m]
def HS.uk(h:HS)(jv:ai)(new:List ai):HS:={h with jv:=jv,jb:=h.jb++new}
def HS.aoI(h:HS)(jv new):h.cells.toArray.setIfInBounds 4 jv=(h.uk jv new).cells.toArray:=by simp[HS.cells,HS.uk]
def aoJ(x:PS):x.pend (dH x.bU 1 4)={x with a:=uC x.a,b:=uC x.b,c:=uC x.c,d:=uC x.d}:=by
 have⟨e,t,s,a,b,c,d,si,wa,ga⟩:=x;have hr:List.range 4=[0,1,2,3]:=J;by_cases ha:1<=a<;>by_cases H:1<=b<;>by_cases hc:1<=c<;>by_cases hd:1<=d<;>
  simp[dH,hr,PS.bU,PS.pend,PS.tie,uC,ha,H,hc,hd,List.filter]
def azU(w b):(Instr.index 193 (.agg<|xX b)<|V Z 1).run aj w=.ok (.func (.func 179) #[] #[ak b]) w:=KG
def azV(w b):(Instr.index 193 (.agg<|xX b)<|V Z 2).run aj w=.ok (.func (.func 180) #[] #[ak b]) w:=KG
def azW(w b):(Instr.index 193 (.agg<|xX b)<|V Z 3).run aj w=.ok (.func (.func 181) #[] #[ak b]) w:=KG
def azX(w b):(Instr.index 193 (.agg<|xX b)<|V Z 4).run aj w=.ok (.func (.func 182) #[] #[ak b]) w:=KG
def HS.azY(h:HS):h.uk h.jv []=h:=by simp[HS.uk]
def aoK(l):∀u∈gu l,u.oneCell'=true:=by intro u H;simp only[gu,Dz]at H;obtain⟨b,_,rfl⟩:=H;rfl
def adR{h:HS}{i:Nat}{x}{r:Rc}{jv new}(hx:h.ps[i]? =Y x)(hr:r.p=i):({h.uk jv new with ps:=mQ h.ps r}:HS)=(h.uk jv new).gq i (x.gY r):=by
 have:r.p.toNat=i:=YV
 simp[mQ,HS.gq,HS.uk,this,List.getD,hx]
section
variable{w w':ae}{B xb n:Nat}{h:HS}
def aG.aoL{W w3 jv m new}(H:aG w B xb n h)(fW:Fr aB w W)(hg:W.grownBy w3 h.jv.ownBlock)(fK:bI w3 B 5 1 jv (h.jb+m) (h.jb++new))(hm:new=m)(dR:∀q,dw jv=Y q->h.jv.ownBlock=q\/w<=q):aG (aZ w3 (xb,4) jv) B xb n (h.uk jv new)/\Fr (λk=>k=xb\/h.jv.ownBlock=k) w (aZ w3 (xb,4) jv):=by have aO:=bF H.blk;have f3:Fr (λq=>h.jv.ownBlock=q) w w3:=(fW.z dA).grown hg λq e=>e;have b3:w3.heap[xb]? =Y (.cells h.cells.toArray 111 (0,0)):=(f3.block xb aO H.Zm).t H.blk;have fs:Fr (λq=>q=xb) w3 (aZ w3 (xb,4) jv):=(Fr.refl (λq=>q=xb) w3).setCell (p:=(xb,4)) (.inl J) _;have f4:Fr (λk=>k=xb\/h.jv.ownBlock=k) w (aZ w3 (xb,4) jv):=(f3.z λq e=>e).t fs λq e=>e;have row:∀{ty:dB} {wd:Nat} {v:ai} {k:Nat} {xs:List ai},bI w B ty wd v k xs->ty≠5->ty≠111->(aZ w3 (xb,4) jv).ownsRow B ty wd v k xs:=λho h5 h1=>f4.ownsRow ho (λq hq e=>by have t0:=ig ho hq;rcases e with e|e;{subst e;rw[lM H.blk]at t0;exact h1 t0.s};rw[ig H.pG e]at t0;exact h5 t0.s);refine⟨⟨?_,?_,row H.qK Xa Xa,row H.tC Xa Xa,λp hp=>(H.dO p hp).stay f4 λq hq hf=>?_,H.hx,H.hP,H.hQ,H.h6⟩,f4⟩;{rw[eX b3,HS.aoI h jv new]};{show(aZ w3 (xb,4) jv).ownsRow B 5 1 jv (h.jb++new).length (h.jb++new);rw[kZ,hm];refine fs.ownsRow fK λq hq e=>?_;subst e;rcases dR _ hq with a|a;{exact H.Zm a};omega};rcases hq with hq|hq;{have h0:=lM H.blk;subst hq;rcases(H.dO p hp).tags hf with h1|h1|h1<;>rw[h0]at h1<;>cases h1};have h0:=ig H.pG hq;rcases(H.dO p hp).tags hf with h1|h1|h1<;>rw[h0]at h1<;>cases h1
structure aoM(w w':ae)(B xb n:Nat)(h:HS)(r:Rc)(jv:ai):Prop where
 at_:aG w' B xb n {h.uk jv (gu<|dQ r)with ps:=mQ h.ps r}
 fr:Fr (λk=>k=xb\/h.jv.ownBlock=Y k) w w'
 mY:∀k,dw jv=Y k->h.jv.ownBlock=Y k\/M (R w)<=k
def azZ(hh:aG w B xb n h)(iM:h.br=ah){r m}(hr:r.Small m)(hm:m<1000000000000)(hk:r.k=1\/r.k=2\/(r.k=3/\∃c:Bool,r.a=if c then 1 else 0)\/r.k=4)(hb:O h.jb+16<=2^47):
 aH aj 118 #[ak<|Y (xb,4),Bo r] w λe w'=>e=A/\∃jv,aoM w w' B xb n h r jv:=by
 have HH:I (aG w B xb n h):=hh;have HR:I (r.Small m):=hr;have CB:I (∀W,aH aj 171 #[Bo r] W λe w'=>∃v,e=aU v/\bI w' W 5 1 v 16 (gu<|dQ r)/\Fr aB W w'):=λW=>ahU W hr hm;have c4:=hh.cJ;obtain⟨ja,jc,hj,_⟩:=jR hh.pG;rw[hj]at c4;have NH:=hh.cB;rw[iM]at NH;have HJ:I (h.jv=.slice ja (O h.jb) jc):=hj;have HJR:I (∀W,Fr aB w W->bI W B 5 1 (.slice ja (O h.jb) jc) (O h.jb) h.jb):=λW f=>by rw[<-hj];exact f.ownsRow hh.pG λ_ _=>id
 have HJN:I (Y xb≠Value.ownBlock (.slice ja (O h.jb) jc)):=by show Y xb≠_;rw[<-hj];exact λe=>hh.Zm e.s
 have iZ:=bF hh.blk;have ZA:I (O h.jb+16<=2^47):=hb;obtain⟨i,hi⟩:=lW hr.p0;have kM:i<6:=by have:=hr.p1;omega
 obtain⟨x,hx⟩:∃x,h.ps[i]? =Y x:=⟨_,gG (by rw[hh.h6];exact kM)⟩;have HX:I (h.ps[i]? =Y x):=hx;obtain⟨k,p,a,H⟩:=r;simp only at hk hi;subst hi;have HK:I (k=1\/k=2\/(k=3/\∃c:Bool,a=if c then 1 else 0)\/k=4):=hk;clear hk;obtain⟨i0,dL,fM,ed,fV⟩:=aQX ahS;unfold Bo;clear hh hj iM hr hb hx;go_enter func118,ntmps118
 go_wp2_with (first
  |(go_at_call 171;refine(show aH aj 171 #[Bo ⟨k,i,a,H⟩] _ _ from CB.o _).z ?_;rintro e w1 ⟨v1,rfl,bV,aI⟩
    have F1:I (Fr aB w w1):=(aQ _).t aI dA
    obtain⟨g,gc,rfl,_⟩:=KW bV<|by decide
    have V1:I (bI w1 (w.alloc<|aC #[k,i,a,H] 184).heap.size 5 1 (aP g 16 gc) 16<|gu<|dQ ⟨k,i,a,H⟩):=bV
    have d4:=(F1.o.cell (p:=(xb,4)) iZ id).t c4
    have d66:=(F1.o.cell (p:=(xb,66)) iZ id).t NH
    have df:∀o,w1.frozen? ⟨xb,o,U⟩=false:=gJ<|(F1.o.block xb iZ id).t HH.o.blk
    have BX:I (w1.heap[M (R w)]? =Y (aC #[k,V Z i,V Z a,V Z H] 184 (0,0))):=(aI.block _ (by simp) id).t<|heap_alloc_new _ _
    have HJ1:I (bI w1 B 5 1 (.slice ja (O h.jb) jc) (O h.jb) h.jb):=HJR.o w1 F1.o
    have U5:I (Y xb≠Value.ownBlock (.slice ja (O h.jb) jc)):=HJN.o
    have mV:xb<M (R w1):=gZ iZ F1.o.size
    clear bV aI)
  |(at_builtin;refine aQU _ J _ _ 99 J B 5 i0 _ 1 1 underlying99 dL fM ed fV J (by decide) (.slice ja (O h.jb) jc) (O h.jb) h.jb J HJ1.o ⟨g,0,U⟩ 16 gc (gu<|dQ ⟨k,i,a,H⟩) J (by rw[Jv,DR]) (V1.o.cells (g:=g) J) (aoK _) (by decide) (by have:=ZA.o;simp only[cZ];omega) (by have:=ZA.o;omega) (by have:=HH.o.hx;omega) (M (R w1)) J ?_;intro gg cap w2 fK oz dR jD
    have G2:I (w1.grownBy w2<|Value.ownBlock<|.slice ja (O h.jb) jc):=oz
    have e4:=(oz.cell_far ⟨xb,4,U⟩ mV U5.o).t d4
    have ef:=(oz.frozen_far ⟨xb,4,U⟩ mV U5.o).t<|df 4))
 have hD:=HH.o.aoL (jv:=aP (Y ⟨gg,0,U⟩) (O h.jb+16) cap) (m:=16) (new:=gu<|dQ ⟨k,i,a,H⟩) F1.o (by rw[HJ.o];exact G2.o) fK (by rw[Jv,DR]) (λq hq=>by
  simp only[Value.ownBlock,iR]at hq;subst hq;rcases dR with e|e
  ·exact .inl (by rw[HJ.o];exact e)
  ·exact .inr (by have:=F1.o.size;omega))
 have Py:I (∀k,Value.ownBlock (aP gg (O h.jb+16) cap)=Y k->h.jv.ownBlock=Y k\/M (R w)<=k):=λq hq=>by
  simp only[Value.ownBlock,iR]at hq;subst hq;rcases dR with e|e
  ·exact .inl (by rw[HJ.o];exact e)
  ·exact .inr (by have:=F1.o.size;omega)
 have uq:(aZ w2 (xb,4)<|aP gg (O h.jb+16) cap).heap[M (R w)]? =Y (aC #[V Z k,V Z i,V Z a,V Z H] 184 (0,0)):=by
  rw[Below.heap_setCell _ _ _ _<|show (M (R w))≠xb by omega,G2.o.block (M (R w)) (bF BX.o) (λe=>by
   have h1:=HJ1.o.lt (M (R w)) e.s;have h2:=(HH.o.pG.lt (M (R w)) (by rw[HJ.o];exact e.s)).2;omega)]
  exact BX.o
 generalize w2.setCell (xb,4) (aP gg (O h.jb+16) cap)=W at hD uq⊢
 generalize(Value.slice gg (O h.jb+16) cap)=jv at hD Py⊢
 have HW:I (aG W B xb n<|h.uk jv<|gu<|dQ ⟨k,i,a,H⟩):=hD.1;have FW:I (Fr (λk=>k=xb\/h.jv.ownBlock=Y k) w W):=hD.2;have qX:I (W.heap[M (R w)]? =Y (aC #[V Z k,V Z i,V Z a,V Z H] 184 (0,0))):=uq;have HXW:I ((h.uk jv<|gu<|dQ ⟨k,i,a,H⟩).ps[i]? =Y x):=HX.o;clear hD uq fK oz dR jD e4 ef d4 d66 df;rcases HK.o with rfl|rfl|⟨rfl,c,hc⟩|rfl
 ·have hix:=azU;go_region_held3 (λw'=>au w' (M (R w))=Y (V Z 1)/\au w' (M (R w),1)=Y (V Z i)/\au w' (M (R w),2)=Y (V Z a)/\au w' (M (R w),3)=Y (V Z H))
   (first|with_reducible exact C2|with_reducible exact C3|exact⟨aJ qX.o 0,aJ qX.o 1,aJ qX.o 2,aJ qX.o 3⟩|go_keep)
   (first
     |(go_at_call 128;refine(Xi (w:=W.drew) _).z ?_;rintro e w3 ⟨rfl,jJ,iL⟩
       have F3:I (Fr aB W w3):=(eH.drew:Fr aB W W.drew).t iL dA
       have B3:I (Bj w3 W.drew.heap.size xb):=jJ
       have x3:=(F3.o.block _ (bF qX.o) id).t qX.o
       have C2:au w3 (M (R w))=Y (V Z 1)/\au w3 (M (R w),1)=Y (V Z i)/\au w3 (M (R w),2)=Y (V Z a)/\au w3 (M (R w),3)=Y (V Z H):=⟨aJ x3 0,aJ x3 1,aJ x3 2,aJ x3 3⟩
       have X3:I (w3.heap[M (R w)]? =Y (aC #[V Z 1,V Z i,V Z a,V Z H] 184 (0,0))):=x3
       clear jJ iL x3)
     |(go_at_call 179;refine(aoy (HW.o.a F3.o) B3.o kM HXW.o 1 a H).z ?_;rintro e w4 ⟨rfl,h4,pU⟩
       have H4:I (aG w4 B xb n<|(h.uk jv<|gu<|dQ ⟨1,i,a,H⟩).gq i {x with e:=H}):=h4
       have F4:I (Fr (λk=>k=xb) w3 w4):=pU
       have x4:=(pU.block _ (bF X3.o)<|show¬M (R w)=xb by omega).t X3.o
       have C3:au w4 (M (R w))=Y (V Z 1)/\au w4 (M (R w),1)=Y (V Z i)/\au w4 (M (R w),2)=Y (V Z a)/\au w4 (M (R w),3)=Y (V Z H):=⟨aJ x4 0,aJ x4 1,aJ x4 2,aJ x4 3⟩
       clear h4 pU x4))
  go_wp2_with fail
  go_ret;refine⟨J,jv,?_,(FW.o.t F3.o dA).t F4.o λ_ e=>.inl<|.inl e,Py.o⟩;rw[adR (r:=⟨1,i,a,H⟩) (jv:=jv) (new:=gu<|dQ ⟨1,i,a,H⟩) HX.o rfl];exact H4.o
 ·obtain⟨q,hq⟩:=lW HR.o.a0;simp only at hq;subst hq;have jP:q<4:=by have:=HR.o.a1;simp only at this;omega
  have hix:=azV;go_region_held3 (λw'=>au w' (M (R w))=Y (V Z 2)/\au w' (M (R w),1)=Y (V Z i)/\au w' (M (R w),2)=Y (V Z q)/\au w' (M (R w),3)=Y (V Z H))
   (first|with_reducible exact C2|with_reducible exact C3|exact⟨aJ qX.o 0,aJ qX.o 1,aJ qX.o 2,aJ qX.o 3⟩|go_keep)
   (first
     |(go_at_call 128;refine(Xi (w:=W.drew) _).z ?_;rintro e w3 ⟨rfl,jJ,iL⟩
       have F3:I (Fr aB W w3):=(eH.drew:Fr aB W W.drew).t iL dA
       have B3:I (Bj w3 W.drew.heap.size xb):=jJ
       have x3:=(F3.o.block _ (bF qX.o) id).t qX.o
       have C2:au w3 (M (R w))=Y (V Z 2)/\au w3 (M (R w),1)=Y (V Z i)/\au w3 (M (R w),2)=Y (V Z q)/\au w3 (M (R w),3)=Y (V Z H):=⟨aJ x3 0,aJ x3 1,aJ x3 2,aJ x3 3⟩
       have X3:I (w3.heap[M (R w)]? =Y (aC #[V Z 2,V Z i,V Z q,V Z H] 184 (0,0))):=x3
       clear jJ iL x3)
     |(go_at_call 180;refine(aoz (HW.o.a F3.o) B3.o kM jP HXW.o 2 H).z ?_;rintro e w4 ⟨rfl,h4,pU⟩
       have H4:I (aG w4 B xb n<|(h.uk jv<|gu<|dQ ⟨2,i,q,H⟩).gq i<|({x with s:=1,t:=H}:PS).tie q 1):=h4
       have F4:I (Fr (λk=>k=xb) w3 w4):=pU
       have x4:=(pU.block _ (bF X3.o)<|show¬M (R w)=xb by omega).t X3.o
       have C3:au w4 (M (R w))=Y (V Z 2)/\au w4 (M (R w),1)=Y (V Z i)/\au w4 (M (R w),2)=Y (V Z q)/\au w4 (M (R w),3)=Y (V Z H):=⟨aJ x4 0,aJ x4 1,aJ x4 2,aJ x4 3⟩
       clear h4 pU x4))
  go_wp2_with fail
  go_ret;refine⟨J,jv,?_,(FW.o.t F3.o dA).t F4.o λ_ e=>.inl<|.inl e,Py.o⟩;rw[adR (r:=⟨2,i,q,H⟩) (jv:=jv) (new:=gu<|dQ ⟨2,i,q,H⟩) HX.o rfl];exact H4.o
 ·have HC:I (a=if c then 1 else 0):=hc;clear hc;have hix:=azW;go_region_held3 (λw'=>au w' (M (R w))=Y (V Z 3)/\au w' (M (R w),1)=Y (V Z i)/\au w' (M (R w),2)=Y (V Z a)/\au w' (M (R w),3)=Y (V Z H))
   (first|with_reducible exact C2|with_reducible exact C3|exact⟨aJ qX.o 0,aJ qX.o 1,aJ qX.o 2,aJ qX.o 3⟩|go_keep)
   (first
     |(go_at_call 128;refine(Xi (w:=W.drew) _).z ?_;rintro e w3 ⟨rfl,jJ,iL⟩
       have F3:I (Fr aB W w3):=(eH.drew:Fr aB W W.drew).t iL dA
       have B3:I (Bj w3 W.drew.heap.size xb):=jJ
       have x3:=(F3.o.block _ (bF qX.o) id).t qX.o
       have C2:au w3 (M (R w))=Y (V Z 3)/\au w3 (M (R w),1)=Y (V Z i)/\au w3 (M (R w),2)=Y (V Z a)/\au w3 (M (R w),3)=Y (V Z H):=⟨aJ x3 0,aJ x3 1,aJ x3 2,aJ x3 3⟩
       have X3:I (w3.heap[M (R w)]? =Y (aC #[V Z 3,V Z i,V Z a,V Z H] 184 (0,0))):=x3
       clear jJ iL x3)
     |(go_at_call 181;refine(ahR (HW.o.a F3.o) B3.o kM HXW.o 3 H (c:=c) (s':=if c then 2 else 3) HC.o J).z ?_;rintro e w4 ⟨rfl,h4,pU⟩
       have H4:I (aG w4 B xb n<|(h.uk jv<|gu<|dQ ⟨3,i,a,H⟩).gq i ({({x with s:=if c then 2 else 3}:PS).pend (dH x.bU 1 4)with wa:=1,ga:=1}:PS)):=h4
       have F4:I (Fr (λk=>k=xb) w3 w4):=pU
       have x4:=(pU.block _ (bF X3.o)<|show¬M (R w)=xb by omega).t X3.o
       have C3:au w4 (M (R w))=Y (V Z 3)/\au w4 (M (R w),1)=Y (V Z i)/\au w4 (M (R w),2)=Y (V Z a)/\au w4 (M (R w),3)=Y (V Z H):=⟨aJ x4 0,aJ x4 1,aJ x4 2,aJ x4 3⟩
       clear h4 pU x4))
  go_wp2_with fail
  go_ret;refine⟨J,jv,?_,(FW.o.t F3.o dA).t F4.o λ_ e=>.inl<|.inl e,Py.o⟩;have he:({({x with s:=if c then 2 else 3}:PS).pend (dH x.bU 1 4)with wa:=1,ga:=1}:PS)=x.gY ⟨3,i,a,H⟩:=by
   have:=aoJ ({x with s:=if c then 2 else 3}:PS);rw[show({x with s:=if c then 2 else 3}:PS).bU=x.bU from rfl]at this;rw[this,HC.o];cases c<;>rfl
  rw[adR (r:=⟨3,i,a,H⟩) (jv:=jv) (new:=gu<|dQ ⟨3,i,a,H⟩) HX.o rfl,<-he];exact H4.o
 ·have hix:=azX;go_region_held3 (λw'=>au w' (M (R w))=Y (V Z 4)/\au w' (M (R w),1)=Y (V Z i)/\au w' (M (R w),2)=Y (V Z a)/\au w' (M (R w),3)=Y (V Z H))
   (first|with_reducible exact C2|with_reducible exact C3|exact⟨aJ qX.o 0,aJ qX.o 1,aJ qX.o 2,aJ qX.o 3⟩|go_keep)
   (first
     |(go_at_call 128;refine(Xi (w:=W.drew) _).z ?_;rintro e w3 ⟨rfl,jJ,iL⟩
       have F3:I (Fr aB W w3):=(eH.drew:Fr aB W W.drew).t iL dA
       have B3:I (Bj w3 W.drew.heap.size xb):=jJ
       have x3:=(F3.o.block _ (bF qX.o) id).t qX.o
       have C2:au w3 (M (R w))=Y (V Z 4)/\au w3 (M (R w),1)=Y (V Z i)/\au w3 (M (R w),2)=Y (V Z a)/\au w3 (M (R w),3)=Y (V Z H):=⟨aJ x3 0,aJ x3 1,aJ x3 2,aJ x3 3⟩
       have X3:I (w3.heap[M (R w)]? =Y (aC #[V Z 4,V Z i,V Z a,V Z H] 184 (0,0))):=x3
       clear jJ iL x3)
     |(go_at_call 182;refine(aoC (HW.o.a F3.o) B3.o kM HXW.o 4 a H).z ?_;rintro e w4 ⟨rfl,h4,pU⟩
       have H4:I (aG w4 B xb n<|(h.uk jv<|gu<|dQ ⟨4,i,a,H⟩).gq i ⟨x.e,x.t,0,0,0,0,0,0,0,0⟩):=h4
       have F4:I (Fr (λk=>k=xb) w3 w4):=pU
       have x4:=(pU.block _ (bF X3.o)<|show¬M (R w)=xb by omega).t X3.o
       have C3:au w4 (M (R w))=Y (V Z 4)/\au w4 (M (R w),1)=Y (V Z i)/\au w4 (M (R w),2)=Y (V Z a)/\au w4 (M (R w),3)=Y (V Z H):=⟨aJ x4 0,aJ x4 1,aJ x4 2,aJ x4 3⟩
       clear h4 pU x4))
  go_wp2_with fail
  go_ret;refine⟨J,jv,?_,(FW.o.t F3.o dA).t F4.o λ_ e=>.inl<|.inl e,Py.o⟩;rw[adR (r:=⟨4,i,a,H⟩) (jv:=jv) (new:=gu<|dQ ⟨4,i,a,H⟩) HX.o rfl];exact H4.o
structure ahW(w w':ae)(B xb n:Nat)(h:HS)(r:Rc)(kk:Nat)(jv:ai):Prop where
 at_:aG w' B xb n (h.uk jv<|gu<|(dQ r).take kk).EU
 fr:Fr (λk=>k=xb\/h.jv.ownBlock=Y k) w w'
 mY:∀k,dw jv=Y k->h.jv.ownBlock=Y k\/M (R w)<=k
variable{r:Rc}{m:Nat}
def az0(hh:aG w B xb n h)(iM:h.br=A){H:Nat}(FI:h.kp=H)(aMt:H<=16)(FB:0<H)(hr:r.Small m)(hm:m<1000000000000)(hb:O h.jb+16<=2^47):aH aj 118 #[ak<|Y (xb,4),Bo r] w λe w'=>e=ah/\∃jv,ahW w w' B xb n h r H jv:=by
 have HH:=aQe hh;have CB:I (∀W,aH aj 171 #[Bo r] W λe w'=>∃v,e=aU v/\bI w' W 5 1 v 16 (gu<|dQ r)/\Fr aB W w'):=λW=>ahU W hr hm;have c4:=hh.cJ;have⟨ja,jc,hj,_⟩:=jR hh.pG;rw[hj]at c4;have NH:=hh.cB;rw[iM]at NH;have Xq:=hh.cK;rw[FI]at Xq;have HJ:=aQe hj;have HJR:I (∀W,Fr aB w W->bI W B 5 1 (.slice ja (O h.jb) jc) (O h.jb) h.jb):=λW f=>by rw[<-hj];exact f.ownsRow hh.pG λ_ _=>id
 have HJN:I (Y xb≠Value.ownBlock (.slice ja (O h.jb) jc)):=by show Y xb≠_;rw[<-hj];exact λe=>hh.Zm e.s
 have iZ:=bF hh.blk;have ZA:I (O h.jb+16<=2^47):=hb;have Ye:B<=w:=EG<|OQ hh.hx iZ;have Nr:I (((dQ r).take H).length=H):=by show((dQ r).take H).length=H;rw[Rh,DR];omega
 have Bd:I (∀j u,(gu<|(dQ r).take H)[j]? =Y u->(gu<|dQ r)[j]? =Y u):=λj u hu=>by simp only[gu,List.map_take]at hu⊢;rw[List.getElem?_take]at hu;split at hu;{exact hu};cases hu
 obtain⟨k,p,a,mm⟩:=r;obtain⟨i0,dL,fM,ed,fV⟩:=aQX ahS;unfold Bo;have aMu:(0:Int)<=(H:Int):=by omega
 have aMv:(H:Int)<=16:=by omega
 clear hh hj iM hr hb FI;go_enter func118,ntmps118;go_wp2_with (first|(go_at_call 171;refine(show aH aj 171 #[Bo ⟨k,p,a,mm⟩] _ _ from CB _).z ?_;rintro e w1 ⟨v1,rfl,bV,aI⟩;have F1:I (Fr aB w w1):=(aQ _).t aI dA;(obtain⟨g,gc,rfl,QO⟩:=KW bV<|by decide);have V1:I (bI w1 (w.alloc<|aC #[k,p,a,mm] 184).heap.size 5 1 (aP g 16 gc) 16<|gu<|dQ ⟨k,p,a,mm⟩):=bV;have d4:=(F1.cell (p:=(xb,4)) iZ id).t c4;have d66:=(F1.cell (p:=(xb,66)) iZ id).t NH;have d67:=(F1.cell (p:=(xb,67)) iZ id).t Xq;have df:∀o,w1.frozen? ⟨xb,o,U⟩=false:=gJ<|(F1.block xb iZ id).t HH.blk;have HJ1:I (w1.drew.ownsRow B 5 1 (.slice ja (O h.jb) jc) (O h.jb) h.jb):=HJR w1.drew F1.drew;have mV:xb<w1:=gZ iZ F1.size;have aMw:w<=M (R w1):=F1.size;(have aMx:(H:Int)<=(gc:Int):=by omega);clear bV aI));go_region_law ((refine aRd _ (by rfl) _ _ _ (by rfl) B 5 i0 _ 1 1 underlying99 dL fM ed fV J (by omega) (.slice ja (O h.jb) jc) (O h.jb) h.jb (by rfl) HJ1 g H gc (gu<|(dQ ⟨k,p,a,mm⟩).take H) (by rfl) (by rw[Jv,Nr,Nat.mul_one]) (λj u hu=>V1.cells (g:=g) J j u<|Bd j u hu) (aoK _) (by omega) (by have:=ZA.o;simp only[cZ];omega) (by have:=ZA.o;omega) (by simp<;>omega) w1 (by rfl) ?_;intro gg cap w2 fK oz dR jD;have e4:=(oz.cell_far ⟨xb,4,U⟩ mV HJN).t d4;have ef:=(oz.frozen_far ⟨xb,4,U⟩ mV HJN).t<|df 4));all_goals have hD:=HH.aoL (jv:=aP gg (O h.jb+H) cap) (m:=H) (new:=gu<|(dQ ⟨k,p,a,mm⟩).take H) F1.drew (by rw[HJ];exact oz) fK (by rw[Jv,Nr]) (λq hq=>by simp only[Value.ownBlock,iR]at hq;subst hq;rcases dR with e|e;{exact .inl (by rw[HJ];exact e)};{exact .inr<|by omega});(have Py:I (∀k,Value.ownBlock (aP gg (O h.jb+H) cap)=Y k->h.jv.ownBlock=Y k\/w<=k):=λq hq=>by simp only[Value.ownBlock,iR]at hq;subst hq;rcases dR with e|e;{exact .inl (by rw[HJ];exact e)};{exact .inr<|by omega});generalize w2.setCell (xb,4) (aP gg (O h.jb+H) cap)=W at hD⊢;generalize(Value.slice gg (O h.jb+H) cap)=jv at hD Py⊢;have HW:I (aG W B xb n<|h.uk jv<|gu<|(dQ ⟨k,p,a,mm⟩).take H):=hD.1;have FW:I (Fr (λk=>k=xb\/h.jv.ownBlock=Y k) w W):=hD.2;clear hD fK oz dR jD e4 ef d4 d66 d67 df;go_wp2_with (go_at_call 104;refine(ahs HW).z ?_;rintro e w3 ⟨rfl,h3,iL⟩;have H3:I (aG w3 B xb n (h.uk jv<|gu<|(dQ ⟨k,p,a,mm⟩).take H).EU):=h3;have F3:I (Fr (λk=>k=xb) W w3):=iL;clear h3 iL);go_ret;exact⟨J,jv,H3,FW.t F3 λ_ e=>.inl<|.inl e,Py⟩
def az1(H:aG w B xb n h)(iM:h.br=A)(FI:h.kp=0)(hr:r.Small m)(hm:m<1000000000000):aH aj 118 #[ak<|Y (xb,4),Bo r] w λe w'=>e=ah/\∃jv,ahW w w' B xb n h r 0 jv:=by have HH:I (aG w B xb n h):=H;have CB:I (∀W,aH aj 171 #[Bo r] W λe w'=>∃v,e=aU v/\bI w' W 5 1 v 16 (gu<|dQ r)/\Fr aB W w'):=λW=>ahU W hr hm;have c4:=H.cJ;obtain⟨ja,jc,hj,_⟩:=jR H.pG;(have hjc:O h.jb<=jc:=by rcases H.pG.2 with⟨hv,h0⟩|⟨g,cap,cur,hv,_,_,h1,_⟩;{omega};rw[hj]at hv;simp only[aQQ]at hv;omega);rw[hj]at c4;have NH:=H.cB;rw[iM]at NH;have Xq:=H.cK;rw[FI]at Xq;have HJ:I (h.jv=.slice ja (O h.jb) jc):=hj;have iZ:=bF H.blk;obtain⟨k,p,a,mm⟩:=r;unfold Bo;clear H hj iM hr FI;cases ja;all_goals go_enter func118,ntmps118;go_wp2_with (first|(go_at_call 171;apply(show aH aj 171 #[Bo ⟨k,p,a,mm⟩] _ _ from CB _).z;rintro e w1 ⟨v1,rfl,bV,aI⟩;have F1:=aQe<|(aQ _).t aI dA;(obtain⟨g,gc,rfl,QO⟩:=KW bV Xa);have d4:=(F1.cell (p:=(xb,4)) iZ id).t c4;have d66:=(F1.cell (p:=(xb,66)) iZ id).t NH;have d67:=(F1.cell (p:=(xb,67)) iZ id).t Xq;have df:∀o,w1.frozen? ⟨xb,o,U⟩=false:=gJ<|(F1.block xb iZ id).t HH.blk;(have aMy:¬gc=0:=YV);clear bV aI));go_region;go_wp2_with fail;rw[<-HJ];have hA:=HH.a F1;have fs:Fr (λk=>k=xb) w1 (aZ w1 (xb,4) h.jv).drew:=((Fr.refl (λk=>k=xb) w1).setCell (p:=(xb,4)) (.inl J) _).drew;have hW:aG (aZ w1 (xb,4) h.jv).drew B xb n h:=hA.put fs (by show(aZ w1 (xb,4) h.jv).heap[xb]? =_;rw[eX hA.blk,HS.an5]) J J J J J J J J hA.h6;have HW:=aQe hW;have FW:=aQe fs;generalize(aZ w1 (xb,4) h.jv).drew=W at HW FW⊢;clear hW fs hA;apply(ahs HW).z;rintro e w3 ⟨rfl,h3,iL⟩;have H3:=aQe h3;have F3:=aQe iL;clear h3 iL;go_wp2_with fail;go_ret;refine⟨J,h.jv,?_,((F1.z dA:Fr (λk=>k=xb\/h.jv.ownBlock=Y k) w w1).t FW λ_ e=>.inl<|.inl e).t F3 λ_ e=>.inl<|.inl e,λ_ e=>.inl e⟩;show aG w3 B xb n (h.uk h.jv []).EU;rw[HS.azY];exact H3
end
end
section
structure bW(w w':ae)(B xb n:Nat)(h:HS)(n':Nat)(h':HS):Prop where
 at_:aG w' B xb n' h'
 fr:Fr (h.dJ xb) w w'
 sub:∀k,h'.dJ xb k->h.dJ xb k\/M (R w)<=k
section
variable{w w1 w2 w' B xb n n1 n2 h h1 h2}
theorem bW.refl(H:aG w B xb n h):bW w w B xb n h n h:=⟨H,Fr.refl _ _,λ_=>.inl⟩
theorem bW.t(a:bW w w1 B xb n h n1 h1)(b:bW w1 w2 B xb n1 h1 n2 h2):bW w w2 B xb n h n2 h2:=⟨b.at_,(by grind[Fr.t,cases bW]),λk H=>by rcases b.sub k H with e|e;{exact a.sub k e};exact .inr<|dX a.fr.size e⟩
theorem bW.a(a:bW w w1 B xb n h n1 h1)(f:Fr aB w1 w2):bW w w2 B xb n h n1 h1:=⟨a.at_.a f,a.fr.t f Zv,a.sub⟩
def bW.behind(f:Fr aB w w1)(a:bW w1 w2 B xb n h n1 h1):bW w w2 B xb n h n1 h1:=⟨a.at_,(f.z Zv).t a.fr Zv,(by grind[cases bW,cases Fr])⟩
theorem bW.own(f:Fr (λk=>k=xb) w w'){H}(hh:aG w' B xb n1 H)(hs:∀k,H.dJ xb k->h.dJ xb k):bW w w' B xb n h n1 H:=⟨hh,f.z λ_ e=>.inl<|.inl e,Zv⟩
def bW.pG{jv H}(f:Fr (λk=>k=xb\/h.jv.ownBlock=Y k) w w')(hh:aG w' B xb n H)(hj:H.jv=jv)(hl:∀k,dw jv=Y k->h.jv.ownBlock=Y k\/w<=k)(jB:H.pv=h.pv)(TZ:H.fv=h.fv)(xI:H.pl=h.pl):bW w w' B xb n h n H:=by refine⟨hh,f.z λk e=>.inl ?_,λk hk=>?_⟩;{rcases e with e|e;{exact .inl e};exact .inr<|.inl e};rcases hk with e|e|e|e|e;{exact .inl<|.inl e};{rw[hj]at e;rcases hl k e with a|a;{exact .inl<|.inr<|.inl a};omega};{exact .inl<|.inr Zv};{exact .inl<|.inr Zv};{exact .inl<|.inr Zv}
inductive jy(h:HS)(r:Rc):Bool->HS->Prop
 |ok (jv:ai) (hb:h.br=ah):jy h r A {h.uk jv (gu<|dQ r)with ps:=mQ h.ps r}
 |lC (jv:ai) (hb:h.br=A):jy h r ah (h.uk jv<|gu<|(dQ r).take h.kp.toNat).EU
structure qB(h:HS)(r:Rc):Prop where
 small:∃m,m<1000000000000/\r.Small m
 kp:0<=h.kp/\h.kp<=16
 room:O h.jb+16<=2^47
 end_:r.k=3->r.a=0\/r.a=1
def Xr(hh:aG w B xb n h){r}(hm:qB h r):aH aj 118 #[ak<|Y (xb,4),Bo r] w λe w'=>∃ok h',e=aA ok/\jy h r ok h'/\bW w w' B xb n h n h':=by have⟨⟨m,xG,hs⟩,FI,Yd,yO⟩:=hm;cases iM:h.br;{(have H:aH aj 118 #[ak<|Y (xb,4),Bo r] w λe w'=>e=A/\∃jv,aoM w w' B xb n h r jv:=by have k0:=hs.k0;have k1:=hs.k1;refine azZ hh iM hs xG ?_ Yd;rcases(show r.k=1\/r.k=2\/r.k=3\/r.k=4 by omega)with e|e|e|e;{omega};{omega};{simp_all};omega);refine H.z λ_ w2 ⟨h1,jv,h2⟩=>⟨A,_,h1,.ok jv iM,?_⟩;exact bW.pG h2.fr h2.at_ J h2.mY J J J};have⟨kk,L6⟩:=lW FI.1;(have H:aH aj 118 #[ak<|Y (xb,4),Bo r] w λe w'=>e=ah/\∃jv,ahW w w' B xb n h r kk jv:=by rcases OT kk with e|e;{subst e;exact az1 hh iM L6 hs xG};exact az0 hh iM L6 YV e hs xG Yd);refine H.z λ_ w2 ⟨h1,jv,h2⟩=>⟨ah,_,h1,.lC jv iM,?_⟩;(have e:h.kp.toNat=kk:=YV);rw[e];exact bW.pG h2.fr h2.at_ J h2.mY J J J
def az2(hh:aG w B xb n h){i:Nat}{x}(hx:h.ps[i]? =Y x)(hm:qB h ⟨1,i,0,x.e+1⟩):aH aj 129 #[ak<|Y (xb,4),i] w λe w'=>∃ok H,e=aA ok/\jy h ⟨1,i,0,x.e+1⟩ ok H/\bW w w' B xb n h n H:=by have HC:I (∀W,aG W B xb n h->aH aj 118 #[ak<|(xb,4),jf #[V Z 1,i,V Z 0,.int .i64<|x.e+1]] W λe w'=>∃ok H,e=aA ok/\jy h ⟨1,i,0,x.e+1⟩ ok H/\bW W w' B xb n h n H):=λW hW=>Xr hW hm;have HH:=aQe hh;have⟨⟨e0,e1,e2⟩,ef⟩:=hh.cellP hx;have⟨m,xG,hs⟩:=hm.small;have vJ:0<=x.e+1:=hs.m0;have mV:x.e+1<=m+1:=hs.m1;have lU:(i:Int)<6:=hs.p1;(have dL:(0:Int)<=(i:Int):=YV);have iZ:=bF hh.blk;clear hh hx hm hs e1 e2;go_enter func129,ntmps129;go_wp2_with (first|(go_at_call 118;apply(HC _<|HH).z;rintro e w1 ⟨ok,H,rfl,ho,bn⟩;have R1:I (jy h ⟨1,i,0,x.e+1⟩ ok H/\bW w w1 B xb n h n H):=⟨ho,bn⟩;clear ho bn));go_ret;exact⟨ok,H,J,R1⟩
end
end
section
def Pz:(prog.info? 119).map (λi=>(i.zero,i.size,i.bytes))=(Y<|jf #[V Z 0,V Z 0,V Z 0,V Z 0,ah],5,40):=KG
def HS.dV(h:HS)(v:ai)(l:List Ms):HS:={h with fv:=v,fl:=l}
def HS.az3{h:HS}(H:O h.ps=6)(v l):h.cells.toArray.setIfInBounds 69 v=(h.dV v l).cells.toArray:=by obtain⟨P,Q,T,K,jv,jb,up,ps,br,kp,pv,pl,fv,fl⟩:=h;obtain⟨⟨e0,t0,s0,a0,b0,c0,d0,x0,y0,z0⟩,⟨e1,t1,s1,a1,b1,c1,d1,x1,y1,z1⟩,⟨e2,t2,s2,a2,b2,c2,d2,x2,y2,z2⟩,⟨e3,t3,s3,a3,b3,c3,d3,x3,y3,z3⟩,⟨e4,t4,s4,a4,b4,c4,d4,x4,y4,z4⟩,⟨e5,t5,s5,a5,b5,c5,d5,x5,y5,z5⟩,rfl⟩:=Ik H;kernel_rfl
section
variable{w w':ae}{B xb n:Nat}{h:HS}
def aG.ahX{w3 fv l}(H:aG w B xb n h)(f3:Fr (λq=>h.fv.ownBlock=q) w w3)(fK:bI w3 B 119 5 fv (O l) (l.flatMap Ms.cs))(dR:∀q,dw fv=Y q->h.fv.ownBlock=q\/w<=q):bW w (aZ w3 (xb,69) fv) B xb n h n (h.dV fv l):=by have hz:=bF H.blk;have n1:h.fv.ownBlock≠xb:=mZ H.tC H.blk Xa;have fs:Fr (λq=>q=xb) w3 (aZ w3 (xb,69) fv):=(Fr.refl (λq=>q=xb) w3).setCell (p:=(xb,69)) (.inl J) _;have f4:Fr (λq=>q=xb\/h.fv.ownBlock=q) w (aZ w3 (xb,69) fv):=(f3.z λq e=>e).t fs λq e=>e;(have key:∀{ty:dB} {wd:Nat} {v:ai} {n:Nat} {xs:List ai},bI w B ty wd v n xs->ty≠119->ty≠111->∀q,dw v=Y q->¬(q=xb\/h.fv.ownBlock=q):=λ{ty wd v n xs} hr h1 h2 q hq e=>by have ht:=ig hr hq;rcases e with e|e;{subst e;rw[lM H.blk]at ht;exact h2 ht.s};have:=ig H.tC e;rw[ht]at this;exact h1 this);refine⟨⟨?_,f4.ownsRow H.pG<|key H.pG Xa Xa,f4.ownsRow H.qK<|key H.qK Xa Xa,?_,λp hp=>?_,H.hx,H.hP,H.hQ,H.h6⟩,?_,?_⟩;{rw[eX<|(f3.block _ hz n1).t H.blk,HS.az3 H.h6 fv l]};{refine fs.ownsRow fK λq hq e=>?_;subst e;rcases dR _ hq with a|a;{exact n1 a};omega};{refine(H.dO p hp).stay f4 λq hq hf=>?_;rcases hq with hq|hq;{subst hq;exact H.RU hp hf};have h0:=ig H.tC hq;rcases(H.dO p hp).tags hf with h1|h1|h1<;>rw[h0]at h1<;>cases h1};{exact f4.z λq e=>.inl (by rcases e with e|e;exact .inl e;exact .inr<|.inr<|.inr<|.inl e)};intro x hx;rcases hx with e|e|e|e|e;{exact .inl<|.inl e};{exact .inl<|.inr<|.inl e};{exact .inl<|.inr<|.inr<|.inl e};{rcases dR x e with a|a;{exact .inl<|.inr<|.inr<|.inr<|.inl a};exact .inr a};exact .inl<|.inr<|.inr<|.inr<|.inr e
inductive Bq(w w':ae)(B xb n:Nat)(h:HS)(m:Ms):Prop
 |lost (hl:100<=O h.fl) (f:Fr aB w w'):Bq w w' B xb n h m
 |dV (hl:O h.fl<100) (fv:ai) (mv:bW w w' B xb n h n (h.dV fv<|h.fl++[m])) (dR:∀q,dw fv=Y q->h.fv.ownBlock=Y q\/M (R w)<=q):Bq w w' B xb n h m
def ahY(hh:aG w B xb n h)(m):aH aj 120 #[ak<|Y (xb,69),jf #[m.k,m.q,m.p,m.t,m.c]] w λe w'=>e=dZ #[]/\Bq w w' B xb n h m:=by
 have⟨i0,dL,fM,ed,fV⟩:=aQX Pz;have H:=aQe hh;have c0:=hh.cF;have⟨la,lc,hl,rE⟩:=jR hh.tC;have yB:=aQe hl;rw[hl]at c0;have cf:∀o,w.frozen? ⟨xb,o,U⟩=false:=gJ hh.blk;have aO:=bF hh.blk;have uU:Value.ownBlock (.slice la (O h.fl) lc)≠Y xb:=by rw[<-hl];exact mZ hh.tC hh.blk Xa
 have Ye:B<=w:=EG<|OQ hh.hx aO;have yU:I (bI w B 119 5 (.slice la (O h.fl) lc) (O h.fl)<|h.fl.flatMap Ms.cs):=by have:=hh.tC;rw[hl]at this;exact this
 clear hh hl rE;by_cases hb:O h.fl<100;{go_enter func120,ntmps120;go_wp2_with fail;go_region_law ((apply aRd _ aQr _ _ _ aQr B 119 i0 _ 5 40 underlying107 dL fM ed fV J YV (.slice la (O h.fl) lc) (O h.fl) (h.fl.flatMap Ms.cs) aQr ((((aQ _).alloc _).drew).ownsRow yU λ_ _=>id) ⟨M (R w)+1,0,U⟩ 1 1 [m.k,m.q,m.p,m.t,m.c] aQr aQr (World.news_of_block (cs:=#[m.k,m.q,m.p,m.t,m.c]) (t:=119) (fr:=(0,0)) (by show((bH w _).alloc _).heap[_]? =_;exact rM _ Xy)) Y7 YV (by exact aQp) YV Xz (w+1+1) Xy;intro gg cap w3 fK oz dR mW;have jJ:=(oz.block xb Xz<|Ne.s uU).t<|(((aQ _).alloc _).drew.block _ aO id).t H.blk;(have k0:au w3 (xb,69)=Y (.slice la (O h.fl) lc):=(aJ jJ 69).t<|by rw[(HS.c4 H.h6).2.2.2,yB]);have k1:∀o,w3.frozen? ⟨xb,o,U⟩=false:=gJ jJ;clear jJ));all_goals go_wp2;go_end0;refine⟨J,.dV hb _ (H.ahX (by rw[yB];exact(((((aQ _).alloc _).drew).z dA).grown oz λq e=>.inl e)) (by simpa[Ms.cs]using fK) ?_) ?_⟩;all_goals intro q hq;simp only[Value.ownBlock,iR]at hq;subst hq;rcases dR with a|a;{exact .inl (by rw[yB];exact a)};{exact .inr YV}};go_enter func120,ntmps120;go_wp2;go_end0;exact⟨J,.lost YV<|aQ _⟩
end
end
section
section
variable{w w' B xb n h}
variable{k:Nat}{m}
def az4(H:aG w B xb n h)(hk:h.fl[k]? =Y m):aH aj 87 #[ak xb,k] w λr w'=>r=dZ #[jf #[m.k,m.q,m.p,m.t,m.c],V Z 0]/\Fr aB w w':=by have HH:=aQe H;have qJ:=(List.getElem?_eq_some_iff.mp hk).1;have HM:I (decide ((0:Int)<=k/\(k:Int)<h.fl)=A):=iC YV;have cF:=H.cF;have⟨g,cap,e,hg,oH,kX,c0,c1,c2,c3,c4⟩:=DU H.tC hk;unfold cZ at kX;rw[e]at cF;have aO:=bF H.blk;clear H hk e;go_enter func87,ntmps87;go_wp2_with (go_at_call 139;apply(KJ (HH.a<|aQ _) k).z;rw[HM];rintro e w1 ⟨rfl,rfl⟩);apply aQY (Bf J _ _ _ 119 _ (0,0) _ J (heap_alloc_new _ _) underlying119 J KG) J;exact⟨J,aQ _⟩
def Bq.behind{w1}(f:Fr aB w w1)(s:Bq w1 w' B xb n h m):Bq w w' B xb n h m:=by cases s with|lost H g=>exact .lost H<|f.t g dA|dV H fv mv dR=>exact .dV H fv ⟨mv.at_,(f.z dA).t mv.fr λ_=>.inl,λk hk=>by rcases mv.sub k hk with e|e;{exact .inl e};exact .inr<|dX f.size e⟩ (λq hq=>by rcases dR q hq with e|e;{exact .inl e};exact .inr<|dX f.size e)
def az5(H:aG w B xb n h)(hk:h.fl[k]? =Y m):aH aj 85 #[ak xb,k] w λr w'=>r=V Z 0/\Bq w w' B xb n h m:=by have HH:=aQe H;have qJ:=(List.getElem?_eq_some_iff.mp hk).1;have HM:I (decide ((0:Int)<=k/\(k:Int)<O h.fl)=A):=iC YV;have cF:=H.cF;have⟨g,cap,e,hg,oH,kX,c0,c1,c2,c3,c4⟩:=DU H.tC hk;unfold cZ at kX;rw[e]at cF;have aO:=bF H.blk;clear H hk e;go_enter func85,ntmps85;go_wp2_with (go_at_call 139;apply(KJ HH k).z;rw[HM];rintro e w1 ⟨rfl,rfl⟩);go_region_law ((go_simp;go_at_call 120;apply(ahY (HH.a<|eH.drew) m).z;rintro e w2 ⟨rfl,hs⟩;have S2:=aQe<|hs.behind<|eH.drew;clear hs));all_goals go_wp2;go_ret;exact⟨J,S2⟩
end
end
def az6{w B lb bm n v s}(h:eY w B lb bm v n s)(p t c)(hp:(Lit.int .i64 p).wf=A)(hn:n<cZ)(hb:(O s.es+1)*40<=2^47):aH aj 187 #[ak lb,p,V Z t,.bool c] w λe w'=>e=aU (.bool<|s.isOpen p t)/\ ∃v',Left w w' B lb bm v v' (n+1) (s.closed p t c):=by have H:=aQe h;have HP:=aQe hp;have HN:=aQe hn;have HK:=aQe<|aRx underlying3 hp;have HB:=aQe hb;clear h hp hb hn;by_cases ho:s.isOpen p t=A;{cases c;{(have hs:s.closed p t ah=(s.put ⟨3,p,t,⟨#[]⟩⟩).set p t false:=by simp[aN.closed,ho,aN.zD]);rw[hs,ho];clear hs;go_enter func187,ntmps187;go_wp2_with (first|(go_at_call 122;apply(Nh H _ _ HP).z;rintro e w' ⟨rfl,rfl⟩)|(go_at_call 184;apply(agX H ⟨3,p,t,⟨#[]⟩⟩ HB).z;rintro e w1 ⟨rfl,v',nX,aI,bV⟩;have k1:au w1 (lb,2)=Y (.map<|Y bm):=by rw[aJ nX.blk];rfl)|(at_mapUpdate;refine YR _ J _ _ _ 161 J 3 189 Gi underlying161 bm n (lh s.nw) J (nX.map) HN _ _ _ J J HK (lh ((s.put ⟨3,p,t,⟨#[]⟩⟩).set p t ah).nw) (UX _ _ _ _) (UY _ _ _ _) ?_;intro w2 Eh QH));go_ret;have f2:Fr (λk=>k=bm) w1 w2:=(Fr.refl (λk=>k=bm) w1).rZ QH<|.inl J;refine⟨J,v',nX.UZ f2 Eh,?_,bV⟩;exact(aI.z λk hk=>.inl (by rcases hk with e|e;exact .inl e;exact .inr<|.inr e)).t f2 λk hk=>.inl<|.inr<|.inl hk};(have hs:s.closed p t A=(s.put ⟨2,p,t,⟨#[]⟩⟩).set p t false:=by simp[aN.closed,ho,aN.zD]);rw[hs,ho];clear hs;go_enter func187,ntmps187;go_wp2_with (first|(go_at_call 122;apply(Nh H _ _ HP).z;rintro e w' ⟨rfl,rfl⟩)|(go_at_call 184;apply(agX H ⟨2,p,t,⟨#[]⟩⟩ HB).z;rintro e w1 ⟨rfl,v',nX,aI,bV⟩;have k1:au w1 (lb,2)=Y (.map<|Y bm):=by rw[aJ nX.blk];rfl)|(at_mapUpdate;refine YR _ J _ _ _ 161 J 3 189 Gi underlying161 bm n (lh s.nw) J (nX.map) HN _ _ _ J J HK (lh ((s.put ⟨2,p,t,⟨#[]⟩⟩).set p t ah).nw) (UX _ _ _ _) (UY _ _ _ _) ?_;intro w2 Eh QH));go_ret;have f2:Fr (λk=>k=bm) w1 w2:=(Fr.refl (λk=>k=bm) w1).rZ QH<|.inl J;refine⟨J,v',nX.UZ f2 Eh,?_,bV⟩;exact(aI.z λk hk=>.inl (by rcases hk with e|e;exact .inl e;exact .inr<|.inr e)).t f2 λk hk=>.inl<|.inr<|.inl hk};(have hs:s.closed p t c=s:=by simp[aN.closed,ho]);(have Az:s.isOpen p t=false:=by simpa using ho);rw[hs,Az];clear hs ho;go_enter func187,ntmps187;go_wp2_with (go_at_call 122;apply(Nh H _ _ HP).z;rintro e w' ⟨rfl,rfl⟩);go_ret;exact⟨J,v,H.z YV,Fr.refl _ _,λk hk=>.inl hk⟩
section
def Ms.oN(m:Ms):Ms:={m with k:=2}
theorem uD{w:ae}{a:Addr}{v:ai}(hc:au w a=Y v):a.block<M (R w):=by unfold World.cell? at hc;split at hc;{rename_i hb;exact(uZ.1 hb).1};cases hc
def eY.lZ{w:ae}{B lb bm n:Nat}{v:ai}{s:aN}(h:eY w B lb bm v n s){k:Nat}(hk:k=lb\/k=bm\/dw v=Y k):k<M (R w):=by rcases hk with rfl|rfl|e;{exact h.lt};{exact h.map.lt};exact(h.row.lt _ e).2
def Left.told{w W w1:ae}{B lb bm n:Nat}{v v':ai}{s:aN}(h:Left W w1 B lb bm v v' n s)(f:Fr aB w W)(o o':Obj):((bH w1 o).alloc o').heap[M (R w1)+1]? =Y o'/\M (R w)<=M (R w1)+1/\Left w ((bH w1 o).alloc o') B lb bm v v' n s:=by have f2:Fr aB w1 ((bH w1 o).alloc o'):=(eH.alloc _).alloc _;have h1:=heap_alloc_new (bH w1 o) o';have hs:=h.fr.size;have oZ:=f.size;refine⟨by simpa using h1,by omega,f2.logAt h.log id id λ_ _=>id,?_,λk hk=>?_⟩;{exact(f.z dA).t (h.fr.t (f2.z dA) λ_ h=>.inl h) λ_ h=>.inl h};rcases h.mY k hk with e|e;{exact .inl e};{exact .inr<|by omega}
section
variable{w:ae}{B lb bm n:Nat}{v:ai}{s:aN}
variable{pb po:Nat}
def az7(c1:au w ⟨pb,po+1,U⟩=Y (.bool A))(m:Ms):aH aj 141 #[ak<|Y ⟨pb,po,U⟩,jf #[V Z m.k,V Z m.q,V Z m.p,V Z m.t,.bool m.c]] w λe w'=>e=aU (aP U 0 0)/\Fr aB w w':=by have aO:pb<M (R w):=uD c1;go_enter func141,ntmps141;go_wp2;go_ret;exact⟨J,aQ _⟩
def az8(h:eY w B lb bm v n s)(c0:au w ⟨pb,po,U⟩=Y (ptr lb))(c1:au w ⟨pb,po+1,U⟩=Y (.bool ah))(m:Ms) (hp:(Lit.int .i64 m.p).wf=A)(hn:n<cZ)(hb:(O s.es+1)*40<=2^47):aH aj 141 #[ak<|Y ⟨pb,po,U⟩,jf #[V Z m.k,V Z m.q,V Z m.p,V Z m.t,.bool m.c]] w λe w'=>∃b v',e=aU (aP (Y ⟨b,0,U⟩) 1 1)/\w'.heap[b]? =Y (.cells m.oN.cs.toArray 119 (0,0))/\M (R w)<=b/\Left w w' B lb bm v v' (n+1) (s.closed m.p m.t m.c):=by have H:I (eY w B lb bm v n s):=h;have HP:I ((Lit.int .i64 m.p).wf=A):=hp;have HN:I (n<cZ):=hn;have HB:I ((O s.es+1)*40<=2^47):=hb;clear h hp hb hn;unfold ptr at c0;have aO:pb<M (R w):=uD c1;go_enter func141,ntmps141;have HF:I (¬(M (R w)=lb\/M (R w)=bm\/dw v=Y (M (R w)))):=λe=>Nat.lt_irrefl _<|H.o.lZ e;go_wp2;go_region_law ((go_simp;go_at_call 187;refine(az6 (Fr.logAt ((aQ _).t ((Fr.refl (λ_=>False) _).drew) dA) H.o id id λ_ _=>id) m.p m.t m.c HP.o HN.o HB.o).z ?_;rintro e w1 ⟨rfl,v',nX⟩;have H1:I (Left (w.alloc<|aC #[V Z m.k,V Z m.q,V Z m.p,V Z m.t,.bool m.c] 119).drew w1 B lb bm v v' (n+1)<|s.closed m.p m.t m.c):=nX;have qR:w1.heap[M (R w)]? =Y (aC #[V Z m.k,V Z m.q,V Z m.p,V Z m.t,.bool m.c] 119 (0,0)):=(nX.fr.block (M (R w)) (by simp) HF.o).t<|heap_alloc_new _ _;(have k0:au w1 ⟨M (R w),0,U⟩=Y (.int .i64 m.k):=by rw[aJ qR];rfl);(have k1:au w1 ⟨M (R w),1,U⟩=Y (.int .i64 m.q):=by rw[aJ qR];rfl);(have k2:au w1 ⟨M (R w),2,U⟩=Y (.int .i64 m.p):=by rw[aJ qR];rfl);(have k3:au w1 ⟨M (R w),3,U⟩=Y (.int .i64 m.t):=by rw[aJ qR];rfl);(have k4:au w1 ⟨M (R w),4,U⟩=Y (.bool m.c):=by rw[aJ qR];rfl);clear nX qR));all_goals go_wp2;go_ret;exact⟨M (R w1)+1,v',J,(H1.o.told ((aQ _).t ((Fr.refl (λ_=>False) _).drew) dA) _ _)⟩
end
end
section
theorem ZB:∀(vs:List ai) (w:ae) (b o:Nat),w.setCells b o vs=Gj w b o vs|[],_,_,_=>J|v::r,w,b,o=>ZB r _ b _
theorem Xt(l):(l.flatMap Ms.cs).length=O l*5:=by induction l with|nil=>rfl|cons a r H=>simp[Ad,H,Ms.cs]<;>omega
def NI:List Value:=[V Z 0,V Z 0,V Z 0,V Z 0,ah]
variable{l:List Ms}{k B g cap:Nat}{w:ae}
def az9(hk:k<l):(DJ (DJ (l.flatMap Ms.cs) (k*5)<|(l.drop<|k+1).flatMap Ms.cs) ((l-1)*5) NI).take ((l-1)*5)=(l.eraseIdx k).flatMap Ms.cs:=by have h0:=Xt l;have h1:=Xt<|l.drop<|k+1;have h2:=Xt<|l.eraseIdx k;have H:=Xt<|l.take k;rw[List.length_drop]at h1;rw[List.length_eraseIdx_of_lt hk]at h2;rw[Rh,af6 YV]at H;have e:l.eraseIdx k=l.take k++l.drop (k+1):=Zv;have es:l=l.take k++l.drop k:=Y0;apply af1;intro q;by_cases hq:q<(l-1)*5;{rw[List.getElem?_take_of_lt hq];have hz:O NI=5:=J;(have nX:(DJ (l.flatMap Ms.cs) (k*5)<|(l.drop<|k+1).flatMap Ms.cs).length=l*5:=by rwa[ahf]);rw[ads _ _ _ _ YV,if_neg YV,ads _ _ _ _ YV,e,ED];by_cases hc:k*5<=q;{rw[if_pos YV,OJ YV,H]};grind};grind
def Ms.one:∀u∈l.flatMap Ms.cs,u.oneCell'=true:=by intro u H;have⟨m,_,H⟩:=List.mem_flatMap.1 H;simp only[Ms.cs,zA,Dy,DC]at H;rcases H with rfl|rfl|rfl|rfl|rfl<;>rfl
def aAa{ty H n m xs}(h:bI w B ty H (aP (Y ⟨g,0,U⟩) n cap) n xs)(hm:m<=n):bI w B ty H (aP g m cap) m (xs.take<|m*H):=by have hmw:m*H<=n*H:=Yw _ hm;refine⟨by rw[Rh,h.1];omega,?_⟩;rcases h.2 with⟨hv,h0⟩|⟨g',c,cur,hv,hb,hg,h1,h2,h3,h4⟩;{cases hv};simp at hv;obtain⟨bV,_,rfl⟩:=hv;cases bV;refine .inr ⟨g,cap,cur,J,hb,hg,YV,h2,h3,?_⟩;grind
theorem aAb(w ty b o c)(H:∀j,j<5->(w (b,o+j)).isSome=A)(hf:∀j,j<5->w.frozen? (b,o+j)=ah):(Builtin.clear_ #[107] ty #[aP (Y (b,o)) 1 c]).run aj w=.ok (dZ #[]) (w.setCells b o NI):=by (have hz:(Builtin.zeroCells (Value.agg #[V Z 0,V Z 0,V Z 0,V Z 0,ah]).cells 1).toList=NI:=KG);have eF:=run_storeCells_cells (P:=aj) b o NI 0 w (by simpa[NI]using H) (by simpa[NI]using hf) (by intro v hv;simp[NI]at hv;rcases hv with rfl|rfl<;>rfl);simp[Builtin.clear_,aRy underlying107,hz,eF]
def aAc(hk:k<l)(fD:bI w B 119 5 (aP g l cap) l (l.flatMap Ms.cs)):aH aj 186 #[aP g l cap,k,.int .i64<|(k:Int)+1] w λe w'=>e=aP g (l-1:Nat) cap/\ w'.ownsRow B 119 5 (aP g (l-1) cap) (l-1) ((l.eraseIdx k).flatMap Ms.cs)/\Fr (λq=>q=g) w w':=by
 have⟨i0,dL,fM,ed,fV⟩:=aQX Pz;have HR:=aQe fD;have aKc:O l<=cap/\cap<=maxLen:=by rcases fD.2 with⟨h,_⟩|⟨g',c',cur,h,_,_,h1,h2,_⟩;{cases h};grind
 have⟨oI,hm⟩:=aKc;unfold cZ at hm;have abI:∀q u,(l.flatMap Ms.cs)[q]? =Y u->au w ⟨g,q,U⟩=Y u:=by intro q u hq;have:=fD.cells (g:=g) J q u hq;rwa[show(g:Addr).add q=(g,q)by rw[Addr.add_lit,UE]]at this
 have aoN:=fD.frozenAt;have Ep:=Xt l;have⟨news,yN⟩:∃news,news=(l.drop<|k+1).flatMap Ms.cs:=⟨_,J⟩;have H:O news=(O l-(k+1))*5:=by grind[Xt]
 have Ox:∀t u,news[t]? =Y u->(l.flatMap Ms.cs)[(k+1)*5+t]? =Y u:=by intro t u ht;(have e:l.flatMap Ms.cs=(l.take<|k+1).flatMap Ms.cs++news:=by grind[List.take_append_drop]);grind
 have⟨aPS,hA,aKd⟩:∃aPS,(if cap=k+1 then Y (g:Addr)else Y (g,(k+1)*5))=Y aPS/\I (∀t u,news[t]? =Y u->w.drew.cell? (aPS.add t)=Y u):=by by_cases h:cap=k+1;{simp_all};refine⟨(g,(k+1)*5),by simp[h],λt u hu=>?_⟩;rw[Addr.add_lit];simp_all
 have s1:=aQe H;have s2:I (∀u∈news,u.oneCell'=A):=by rw[yN];exact Ms.one
 have aug:∀q,q<O l*5->(au w (g,q)).isSome=true:=Zv
 have s3:I (∀t,t<O news->(w.drew.cell? (g,0+k*5+t)).isSome=A/\w.drew.frozen? (g,0+k*5+t)=ah):=by intro t ht;rw[H]at ht;exact⟨aug _ YV,aoN _⟩
 have⟨W1,Ub⟩:∃W1,W1=w.drew.setCells g (0+k*5) news:=⟨_,J⟩;have hro:w.drew.ownsRow B 119 5 (aP g (O l) cap) (O l) (l.flatMap Ms.cs):=fD;have R1:I (bI W1 B 119 5 (aP g (O l) cap) (O l)<|DJ (l.flatMap Ms.cs) (k*5) news):=by rw[Ub,ZB,UE];grind[Xb]
 have F1:I (Fr (λq=>q=g) w W1):=by grind[ZB,Fr.Gj,Fr.drew,Fr.refl]
 have aAd:∀q,q<O l*5->(au W1 (g,q)).isSome=true:=by intro q hq;(have aN8:(DJ (l.flatMap Ms.cs) (k*5) news).length=O l*5:=by rw[ahf];exact Ep);have:=R1.cells (g:=g) J q _ (gG YV);rw[show(g:Addr).add q=(g,q)by rw[Addr.add_lit,UE]]at this;grind
 have e2:k+(O l-(k+1))=O l-1:=YV
 have yg:∀ty,(Builtin.clear_ #[107] ty #[aP (Y (g,(O l-1)*5)) (O l-(O l-1))<|cap-(O l-1)]).run aj W1=.ok (dZ #[]) (W1.setCells g ((O l-1)*5) NI):=by intro ty;rw[show (O l)-(O l-1)=1 by omega];grind[aAb,World.ownsRow.frozenAt,Hid]
 have hW:=aQe Ub;have HN:=aQe yN;have HK:=aQe hk;have hic:k<=cap:=YV
 have hjc:k+1<=cap:=YV
 have qJ:k+1<=O l:=YV
 have qR:(0:Int)<=(k:Int)+1:=YV
 have kE:(k:Int)+1<=(O l:Int):=YV
 clear Ub yN H Ox abI fD hro aug aAd aoN Ep;go_enter func186,ntmps186;go_wp2_with fail;go_region_law (apply step_append_room J _ _ 107 J 119 i0 5 Y0 dL ed g 0 k cap (by simp[Act.eval,Act.put]) aPS (O l-(k+1)) (cap-(k+1)) news (by simp[Act.eval,Act.put]) s1.out aKd.out s2.out YV s3.out;rw[<-hW.out]);all_goals go_wp2;go_ret;refine⟨J,?_,?_⟩;{rw[ZB,<-az9 HK,<-HN];exact aAa (Xb R1 (by have:=HK;show _+5<=_;omega)) YV};grind[ZB,Fr.Gj,Hid]
end
section
section
variable{w w':ae}{B xb n:Nat}{h:HS}
def bW.box{w1 w2 n1 c H}(a:bW w w1 B xb n h n1 H)(f:Fr (λq=>q=c) w1 w2)(hc:w<=c)(hn:¬H.dJ xb c):bW w w2 B xb n h n1 H:=⟨(by grind[aG.stay,cases bW]),(by grind[Fr.t,cases bW]),a.sub⟩
variable{k:Nat}{m:Ms}
def adV(H:aG w B xb n h)(hk:h.fl[k]? =m):aH aj 140 #[ak<|Y (xb,69),k] w λr w'=>r=jf #[m.k,m.q,m.p,m.t,m.c]/\ ∃fv,bW w w' B xb n h n (h.dV fv<|h.fl.eraseIdx k):=by
 have HH:=aQe H;have qJ:=(List.getElem?_eq_some_iff.mp hk).1;have cF:=H.cF;have⟨g,cap,e,hg,oH,kX,c0,c1,c2,c3,c4⟩:=DU H.tC hk;have HE:=aQe e;have yU:I (bI w B 119 5 (aP g h.fl cap) h.fl<|h.fl.flatMap Ms.cs):=by have:=H.tC;rw[e]at this;exact this
 have HG:I (¬xb=g):=λe2=>mZ H.tC H.blk Xa (by rw[e,e2];rfl);unfold cZ at kX;rw[e]at cF;have aO:=bF H.blk;have HK:=aQe qJ;have qR:(k:Int)<(h.fl:Int):=YV
 clear H hk e;go_enter func140,ntmps140;go_wp2_with ((go_at_call 186;apply(aAc HK<|((aQ _).alloc _).ownsRow yU λ_ _=>id).z;rintro e w1 ⟨rfl,zU,aI⟩;have R1:=aQe zU;have F1:=aQe aI;have jJ:=(aI.block xb Xz HG).t<|((aQ _).alloc _).block _ aO id |>.t HH.blk;have k0:w1 (xb,69)=aP (Y ⟨g,0,U⟩) h.fl cap:=(by grind[aJ,HS.c4,aG.h6,Hid]);have k1:∀o,w1.frozen? ⟨xb,o,U⟩=false:=gJ jJ;(have k2:w1.heap[M (R w)+1]? =aC #[m.k,m.q,m.p,m.t,m.c] 119 (0,0):=(aI.block _ Xy YV).t<|rM _ Xy);have z2:w1.heap[M (R w)]? =aC #[V Z 0,V Z 0,V Z 0,V Z 0,ah] 119 (0,0):=(aI.block _ Xz YV).t<|(Fr.alloc (Fr.refl (λ_=>False) _) _).block _ Xy id |>.t (rM _ Xy);(have m0:w1 ⟨M (R w)+1,0,U⟩=(m.k):=by rw[aJ k2];rfl);(have m1:w1 ⟨M (R w)+1,1,U⟩=(m.q):=by rw[aJ k2];rfl);(have m2:w1 ⟨M (R w)+1,2,U⟩=(m.p):=by rw[aJ k2];rfl);(have m3:w1 ⟨M (R w)+1,3,U⟩=(m.t):=by rw[aJ k2];rfl);(have m4:w1 ⟨M (R w)+1,4,U⟩=(m.c):=by rw[aJ k2];rfl);(have y0:w1 ⟨M (R w),0,U⟩=V Z 0:=by rw[aJ z2];rfl);(have y1:w1 ⟨M (R w),1,U⟩=V Z 0:=by rw[aJ z2];rfl);(have y2:w1 ⟨M (R w),2,U⟩=V Z 0:=by rw[aJ z2];rfl);(have y3:w1 ⟨M (R w),3,U⟩=V Z 0:=by rw[aJ z2];rfl);(have y4:w1 ⟨M (R w),4,U⟩=(ah):=by rw[aJ z2];rfl);have yf:∀o,w1.frozen? ⟨M (R w),o,U⟩=false:=gJ z2;have Z2:=aQe z2;(have vJ:¬xb=M (R w):=YV);(have mV:¬xb=M (R w)+1:=YV);clear zU aI jJ k2 z2));have fz:Fr (λq=>q=xb) w1 (aZ w1 ⟨xb,69,U⟩<|aP (Y ⟨g,0,U⟩) (h.fl-1) cap):=aQx;have q0:=(fz.block (M (R w)) (bF Z2) YV).t Z2;have q5:=eX (eX (eX (eX (eX q0 0 m.k) 1 m.q) 2 m.p) 3 m.t) 4 m.c;apply aQY (adD J _ _ _ 119 _ (0,0) _ J q5 underlying119 J KG) J;have FA:Fr (λq=>q=g) w w1:=(((aQ _).alloc _).z dA).t F1 λ_ e=>e;have el:(h.fl.eraseIdx k).length=h.fl-1:=List.length_eraseIdx_of_lt HK;have mv:=HH.ahX (w3:=w1) (fv:=aP (Y ⟨g,0,U⟩) (h.fl-1) cap) (l:=h.fl.eraseIdx k) (FA.z λq e=>.inl (by rw[HE,e];rfl)) (by rw[el];exact R1) λq hq=>.inl (by rw[HE];exact hq);refine⟨J,_,mv.box (c:=w) (((((((Fr.refl (λq=>q=w) _).setCell (p:=⟨M (R w),0,U⟩) (.inl J) _)).setCell (p:=⟨M (R w),1,U⟩) (.inl J) _).setCell (p:=⟨M (R w),2,U⟩) (.inl J) _).setCell (p:=⟨M (R w),3,U⟩) (.inl J) _).setCell (p:=⟨M (R w),4,U⟩) (.inl J) _) (fC _) ?_⟩;intro hf;have X9:h.dJ xb w:=by rcases hf with e|e|e|e|e;{exact .inl e};{exact .inr<|.inl e};{exact .inr<|.inr<|.inl e};{exact .inr<|.inr<|.inr<|.inl (by rw[HE];exact e)};exact .inr<|.inr<|.inr<|.inr e
 exact Nat.lt_irrefl _ (HH.lZ X9).1
def aAe(hh:aG w B xb n h)(H:h.fl[k]? =m):aH aj 83 #[ak xb,k] w λr w'=>r=V Z 0/\∃fv,bW w w' B xb n h n (h.dV fv<|h.fl.eraseIdx k):=by have HH:=aQe hh;have qJ:=(List.getElem?_eq_some_iff.mp H).1;have HM:I (decide ((0:Int)<=k/\(k:Int)<h.fl)=A):=Y0;have HK:=aQe H;clear hh H;go_enter func83,ntmps83;go_wp2_with (first|(apply(KJ HH k).z;rw[HM];rintro e w1 ⟨rfl,rfl⟩)|(apply(adV HH HK).z;rintro e w2 ⟨rfl,fv,hm⟩;have M2:=aQe hm;clear hm));go_ret;exact⟨J,fv,M2⟩
def aAf(H:aG w B xb n h):aH aj 53 #[ak<|Y (xb,69)] w λr w'=>r=h.fv/\bW w w' B xb n h n (h.dV (aP U 0 0) [])/\Fr (λq=>q=xb) w w':=by have HH:=aQe H;have cF:=H.cF;have cf:=gJ H.blk;have⟨la,lc,hl,rE⟩:=jR H.tC;rw[hl];go_wp2;go_ret;refine⟨J,?_,aQx⟩;have:=HH.ahX (l:=[]) eH (aQS _ _ _ _) (λq hq=>by cases hq);omega
end
end
section
variable{w g2 c2}
def aAg{H n c}(hn:n≠1):aH aj 117 #[.slice H n c,aP (Y ⟨g2,0,U⟩) 1 c2] w λe w'=>e=ah/\∃q,w'=w.drewN q:=by
 have h1:((n:Int)==1)=false:=Xz
 have h2:((n:Int) !=1)=true:=by simp[bne,h1]
 go_enter func117,ntmps117;go_wp2;go_ret;exact⟨J,0,J⟩
def aAh{g1 c1 a b}(x0:w g1=Y (V Z b))(y0:w g2=Y (V Z a)):aH aj 117 #[aP (Y ⟨g1,0,U⟩) 1 c1,aP (Y ⟨g2,0,U⟩) 1 c2] w λe w'=>e=aU (.bool<|decide<|b=a)/\∃q,w'=w.drewN q:=by by_cases H:b=a;{subst H;rw[show decide (b=b)=A by simp];go_enter func117,ntmps117;go_wp2_with fail;go_loopw [13] (λi w'=>∃k:Nat,k<=1/\i=k/\∃q,w'=w.drewN q) (λi _=>1-(bM i).toNat);(case atStart=>exact⟨0,jQ _,J,0,J⟩);case round=>obtain⟨k,hk,rfl,q,rfl⟩:=hrel;by_cases aO:k<1;{(obtain rfl:k=0:=YV);go_wp2_with fail;go_quiet (fail);go_wp2;go_roundw;(case rel=>exact⟨1,YV,Y4,q+nq,aQy⟩);case measure=>simp[bM]};(obtain rfl:k=1:=YV);go_wp2;go_ret;exact⟨J,q,J⟩};{rw[show decide (b=a)=ah by simpa using H];(have fE:(b==a)=false:=by simpa using H);(have aN9:(b !=a)=true:=by simp[bne,fE]);go_enter func117,ntmps117;go_wp2_with fail;go_loopw [13] (λi w'=>i=V Z 0/\∃q,w'=w.drewN q) (λ_ _=>0);(case atStart=>exact⟨J,0,J⟩);case round=>obtain⟨rfl,q,rfl⟩:=hrel;go_wp2_with fail;go_quiet (fail);go_wp2;go_ret;exact⟨J,q+nq,aQF⟩}
end
section
section
variable{w w':ae}{B xb n:Nat}{h:HS}
inductive NJ(h:HS)(r:Rc)(w:ae)(B xb n:Nat):Ending->ae->Prop
 |mk {ok:Bool} {h':HS} {w':ae} (ho:jy h r ok h') (hm:bW w w' B xb n h n h'):NJ h r w B xb n (aU<|aA ok) w'
def PS.next(x:PS):Int:=if x.s=0 then x.t+1 else x.t
variable{i:Nat}{x:PS}
def aAi(hh:aG w B xb n h)(hx:h.ps[i]? =x){q}(hm:qB h ⟨2,i,q,x.next⟩):aH aj 125 #[ak<|Y (xb,4),i,q] w λe w'=>∃ok H,e=aA ok/\jy h ⟨2,i,q,x.next⟩ ok H/\bW w w' B xb n h n H:=by have HH:=aQe hh;have HM:=aQe hm;have⟨⟨e0,e1,e2⟩,ef⟩:=hh.cellP hx;have⟨m,xG,hs⟩:=hm.small;have vJ:0<=x.next:=hs.m0;have mV:x.next<=m+1:=hs.m1;have lU:(i:Int)<6:=hs.p1;(have dL:(0:Int)<=(i:Int):=YV);have iZ:=bF hh.blk;clear hh hx hm hs e0;by_cases h0:x.s=0;{(have hn:x.next=x.t+1:=by simp[PS.next,h0]);(have HC:I (∀W,aG W B xb n h->aH aj 118 #[ak<|Y (xb,4),jf #[V Z 2,i,q,.int .i64<|x.t+1]] W λe w'=>∃ok H,e=aU (aA ok)/\jy h ⟨2,i,q,x.next⟩ ok H/\bW W w' B xb n h n H):=λW hW=>by have:=Xr hW HM;unfold Bo at this;simp only[hn]at this⊢;exact this);rw[h0]at e2;rw[hn]at vJ mV;clear hn h0;go_enter func125,ntmps125;go_wp2_with (first|(go_at_call 118;apply(HC _<|HH).z;rintro e w1 ⟨ok,H,rfl,ho,bn⟩;have R1:I (jy h ⟨2,i,q,x.next⟩ ok H/\bW w w1 B xb n h n H):=⟨ho,bn⟩;clear ho bn));go_ret;exact⟨ok,H,J,R1⟩};(have hn:x.next=x.t:=by simp[PS.next,h0]);(have HC:I (∀W,aG W B xb n h->aH aj 118 #[ak<|Y (xb,4),jf #[V Z 2,i,q,x.t]] W λe w'=>∃ok H,e=aU (aA ok)/\jy h ⟨2,i,q,x.next⟩ ok H/\bW W w' B xb n h n H):=λW hW=>by have:=Xr hW HM;unfold Bo at this;simp only[hn]at this⊢;exact this);(have Yg:(x.s==0)=false:=by simpa using h0);clear hn h0;go_enter func125,ntmps125;go_wp2_with (first|(go_at_call 118;apply(HC _<|HH).z;rintro e w1 ⟨ok,H,rfl,ho,bn⟩;have R1:I (jy h ⟨2,i,q,x.next⟩ ok H/\bW w w1 B xb n h n H):=⟨ho,bn⟩;clear ho bn));go_ret;exact⟨ok,H,J,R1⟩
theorem ahZ(hh:aG w B xb n h)(hx:h.ps[i]? =x)(c:Bool)(hm:qB h ⟨3,i,if c then 1 else 0,x.t⟩):aH aj 67 #[ak<|Y (xb,4),i,c] w (NJ h ⟨3,i,if c then 1 else 0,x.t⟩ w B xb n):=by have HH:=aQe hh;have HM:=aQe hm;have⟨⟨e0,e1,e2⟩,ef⟩:=hh.cellP hx;have⟨m,xG,hs⟩:=hm.small;have lU:(i:Int)<6:=hs.p1;(have dL:(0:Int)<=(i:Int):=YV);have iZ:=bF hh.blk;clear hh hx hm hs e0;cases c;{have HC:I (∀W,aG W B xb n h->aH aj 118 #[ak<|Y (xb,4),jf #[V Z 3,i,V Z 0,x.t]] W λe w'=>∃ok H,e=aA ok/\jy h ⟨3,i,0,x.t⟩ ok H/\bW W w' B xb n h n H):=λW hW=>Xr hW HM;go_enter func67,ntmps67;go_wp2_with (first|(go_at_call 118;apply(HC _<|HH.a<|aQ _).z;rintro e w1 ⟨ok,H,rfl,ho,bn⟩;have R1:I (jy h ⟨3,i,0,x.t⟩ ok H/\bW w w1 B xb n h n H):=⟨ho,bn.behind<|aQ _⟩;clear ho bn));go_ret;exact .mk R1.1 R1.2};have HC:I (∀W,aG W B xb n h->aH aj 118 #[ak<|Y (xb,4),jf #[V Z 3,i,V Z 1,x.t]] W λe w'=>∃ok H,e=aU (aA ok)/\jy h ⟨3,i,1,x.t⟩ ok H/\bW W w' B xb n h n H):=λW hW=>Xr hW HM;go_enter func67,ntmps67;go_wp2_with (first|(go_at_call 118;apply(HC _<|HH.a<|aQ _).z;rintro e w1 ⟨ok,H,rfl,ho,bn⟩;have R1:I (jy h ⟨3,i,1,x.t⟩ ok H/\bW w w1 B xb n h n H):=⟨ho,bn.behind<|aQ _⟩;clear ho bn));go_ret;exact .mk R1.1 R1.2
def HS.bars(h:HS)(x:PS)(e:Int):Int:=if h.up=ah then 5 else if e=0\/e≠x.e then 7 else 0
def EY(hh:aG w B xb n h)(hi:i<6)(hx:h.ps[i]? =x)(ep):aH aj 65 #[ak<|Y (xb,4),i,V Z ep] w λe w'=>e=aU (.int .i64<|h.bars x ep)/\w=w':=by
 have⟨⟨e0,e1,e2⟩,ef⟩:=hh.cellP hx;have c5:=hh.cU;have lU:(i:Int)<6:=YV
 have dL:(0:Int)<=(i:Int):=YV
 clear hh hx e1 e2;cases H:h.up;{rw[H]at c5;go_enter func65,ntmps65;go_wp2;go_ret;exact⟨by simp[HS.bars,H],J⟩};rw[H]at c5;by_cases h1:ep=0;{subst h1;go_enter func65,ntmps65;go_wp2;go_ret;exact⟨by simp[HS.bars,H],J⟩};(have b1:(ep==0)=false:=by simpa using h1);by_cases h2:ep=x.e;{subst h2;go_enter func65,ntmps65;go_wp2;go_ret;exact⟨by simp[HS.bars,H,h1],J⟩};(have b2:(ep==x.e)=false:=by simpa using h2);go_enter func65,ntmps65;go_wp2;go_ret;exact⟨by simp[HS.bars,H,h2],J⟩
def CS{o}(s)(e2:w (xb,o+2)=V Z s):aH aj 66 #[ak<|Y (xb,o)] w λe w'=>e=aU (.bool<|decide<|s=2\/s=3)/\w=w':=by by_cases h1:s=2;{subst h1;go_enter func66,ntmps66;go_wp2;go_ret;exact⟨J,J⟩};(have b1:(s==2)=false:=by simpa using h1);by_cases H:s=3;{subst H;go_enter func66,ntmps66;go_wp2;go_ret;exact⟨J,J⟩};(have b2:(s==3)=false:=by simpa using H);go_enter func66,ntmps66;go_wp2;go_ret;exact⟨by simp[h1,H],J⟩
def HS.oO(h:HS)(p q:Int):Int:=if 0<=p/\p<h.P then(if 0<=q/\q<h.pl then 0 else 3)else 2
def Gt(hh:aG w B xb n h)(p q):aH aj 124 #[ak xb,V Z p,V Z q] w λe w'=>e=aU (.int .i64<|h.oO p q)/\w=w':=by have HH:=aQe hh;by_cases H:0<=p/\p<h.P;{have HP:=aQe<|iC H;by_cases h2:0<=q/\q<h.pl;{have HQ:=aQe<|iC h2;(have HL:I (h.oO p q=0):=by show h.oO p q=0;simp[HS.oO,H,h2]);clear hh H h2;go_enter func124,ntmps124;go_wp2_with (first|(go_at_call 64;apply(CP HH p).z;rw[HP];rintro e w1 ⟨rfl,rfl⟩)|(go_at_call 50;apply(KI HH q).z;rw[HQ];rintro e w2 ⟨rfl,rfl⟩));go_ret;exact⟨by rw[HL]<;>rfl,J⟩};have HQ:=aQe<|jr h2;(have HL:I (h.oO p q=3):=by show h.oO p q=3;simp only[HS.oO,if_pos H,if_neg h2]);clear hh H h2;go_enter func124,ntmps124;go_wp2_with (first|(go_at_call 64;apply(CP HH p).z;rw[HP];rintro e w1 ⟨rfl,rfl⟩)|(go_at_call 50;apply(KI HH q).z;rw[HQ];rintro e w2 ⟨rfl,rfl⟩));go_ret;exact⟨by rw[HL]<;>rfl,J⟩};have HP:=aQe<|jr H;(have HL:I (h.oO p q=2):=by show h.oO p q=2;simp only[HS.oO,if_neg H]);clear hh H;go_enter func124,ntmps124;go_wp2_with (first|(go_at_call 64;apply(CP HH p).z;rw[HP];rintro e w1 ⟨rfl,rfl⟩));go_ret;exact⟨by rw[HL]<;>rfl,J⟩
end
end
section
inductive Ai(h:HS)(i:Nat)(x:PS)(m:Ms):HS->Prop
 |idle (hi:¬(h.up=A/\(x.s=2\/x.s=3)/\x.t=m.t)):Ai h i x m h
 |done {ok:Bool} {h':HS} (hi:h.up=A/\(x.s=2\/x.s=3)/\x.t=m.t) (ht:dH x.bU 2 4=[m.q]) (hw:jy h ⟨4,i,0,x.t⟩ ok h'):Ai h i x m h'
 |tie (hi:h.up=A/\(x.s=2\/x.s=3)/\x.t=m.t) (ht:dH x.bU 2 4≠[m.q]):Ai h i x m (h.gq i<|x.tie m.q.toNat 1)
section
variable{w w':ae}{B xb n:Nat}{h:HS}
def aoO{W:ae}{B' b:Nat}{va:ai}{L:List Int}{q:Int}(ha:bI W B' 3 1 va (O L) (dY L))(hb:au W ⟨b,0,U⟩=Y (V Z q)):aH aj 117 #[va,aP (Y ⟨b,0,U⟩) 1 1] W λe w'=>e=aU (.bool<|decide<|L=[q])/\∃k,w'=W.drewN k:=by obtain⟨a1,c1,rfl,_⟩:=jg ha;by_cases hl:O L=1;{match L,hl with|[p],_=>rcases U6 ha with⟨_,h0⟩|⟨g,cap,e,_⟩;{cases h0};simp only[aQQ]at e;obtain⟨rfl,_⟩:=e;have:=aAh (w:=W) (c1:=c1) (c2:=1) (Jl ha (k:=0) (x:=p) J) hb;rw[show decide ([p]=[q])=decide (p=q)by simp];exact this};(have e:decide (L=[q])=false:=by simp only[au2];rintro rfl;exact hl J);rw[e];exact aAg hl
variable{q i:Nat}{x:PS}
def aAj(hh:aG w B xb n h)(hi:i<6)(m:Ms)(hp:m.p=i)(hu:h.up=ah):aH aj 55 #[ak<|Y ⟨xb,4,U⟩,jf #[V Z m.k,V Z m.q,V Z m.p,V Z m.t,aA m.c]] w λe w'=>e=aU (dZ #[])/\Fr aB w w':=by
 have c5:=hh.cU;rw[hu]at c5;have aO:=bF hh.blk;have lU:(i:Int)<6:=by omega
 have dL:(0:Int)<=(i:Int):=by omega
 rw[hp];clear hh hu;go_enter func55,ntmps55;go_wp2_with fail;go_quiet (fail);go_wp2;go_quiet (fail);go_wp2;refine aQY (aRs J _ _ _) J ?_;exact⟨J,((aQ _).drewN _).drewN _⟩
def aAk(hh:aG w B xb n h)(hi:i<6)(hx:h.ps[i]? =Y x)(m:Ms)(hp:m.p=i)(hu:h.up=A)(hs:¬(x.s=2\/x.s=3)):aH aj 55 #[ak<|Y ⟨xb,4,U⟩,jf #[V Z m.k,V Z m.q,V Z m.p,V Z m.t,aA m.c]] w λe w'=>e=aU (dZ #[])/\Fr aB w w':=by
 have HH:I (aG w B xb n h):=hh;have c5:=hh.cU;rw[hu]at c5;have HX:I (h.ps[i]? =Y x):=hx;have HC:I (∀W,aG W B xb n h->aH aj 66 #[ak<|Y ⟨xb,6+i*10,U⟩] W λe w'=>e=aU (aA ah)/\w'=W):=λW hW=>by have:=CS (o:=6+i*10) x.s<|hW.kK hx 2 _ J;rw[jr hs]at this;exact this.z λe w' h=>⟨h.1,h.2.s⟩
 have aO:=bF hh.blk;have lU:(i:Int)<6:=by omega
 have dL:(0:Int)<=(i:Int):=by omega
 rw[hp];clear hh hu hx hs;go_enter func55,ntmps55;go_wp2_with fail;go_quiet (fail);go_wp2;go_quiet ((go_at_call 66;exact(HC.o _<|HH.o.a<|(aQ _).drewN _).z λ_ _ h=>⟨h.1,_,h.2⟩));go_wp2;refine aQY (aRs J _ _ _) J ?_;exact⟨J,((aQ _).drewN _).drewN _⟩
def aAl(hh:aG w B xb n h)(hi:i<6)(hx:h.ps[i]? =Y x)(m:Ms)(hp:m.p=i)(hu:h.up=A)(hs:x.s=2\/x.s=3)(ht:x.t≠m.t):aH aj 55 #[ak<|Y ⟨xb,4,U⟩,jf #[V Z m.k,V Z m.q,V Z m.p,V Z m.t,aA m.c]] w λe w'=>e=aU (dZ #[])/\Fr aB w w':=by
 have HH:I (aG w B xb n h):=hh;have c5:=hh.cU;rw[hu]at c5;obtain⟨⟨e0,e1,e2⟩,ef⟩:=hh.cellP hx;have HX:I (h.ps[i]? =Y x):=hx;have HC:I (∀W,aG W B xb n h->aH aj 66 #[ak<|Y ⟨xb,6+i*10,U⟩] W λe w'=>e=aU (aA A)/\w'=W):=λW hW=>by have:=CS (o:=6+i*10) x.s<|hW.kK hx 2 _ J;rw[iC hs]at this;exact this.z λe w' h=>⟨h.1,h.2.s⟩
 have b1:(x.t==m.t)=false:=by simpa using ht
 have b2:(x.t !=m.t)=true:=by simp[bne,b1]
 have aO:=bF hh.blk;have lU:(i:Int)<6:=by omega
 have dL:(0:Int)<=(i:Int):=by omega
 rw[hp];clear hh hu hx hs e0 e2;go_enter func55,ntmps55;go_wp2_with fail;go_quiet (fail);go_wp2;go_quiet ((go_at_call 66;exact(HC.o _<|HH.o.a<|(aQ _).drewN _).z λ_ _ h=>⟨h.1,_,h.2⟩));go_wp2;refine aQY (aRs J _ _ _) J ?_;exact⟨J,((aQ _).drewN _).drewN _⟩
def aAm(hh:aG w B xb n h)(hi:i<6)(hx:h.ps[i]? =Y x)(m:Ms)(hq:m.q=q)(jP:q<4)(hp:m.p=i)(hu:h.up=A)(hs:x.s=2\/x.s=3)(ht:x.t=m.t)(hm:qB h ⟨4,i,0,x.t⟩):aH aj 55 #[ak<|Y ⟨xb,4,U⟩,jf #[V Z m.k,V Z m.q,V Z m.p,V Z m.t,aA m.c]] w λe w'=>e=aU (dZ #[])/\∃h',Ai h i x m h'/\bW w w' B xb n h n h':=by
 have HH:I (aG w B xb n h):=hh;have c5:=hh.cU;rw[hu]at c5;obtain⟨⟨e0,e1,e2⟩,ef⟩:=hh.cellP hx;have HX:I (h.ps[i]? =Y x):=hx;have HC:I (∀W,aG W B xb n h->aH aj 66 #[ak<|Y ⟨xb,6+i*10,U⟩] W λe w'=>e=aU (aA A)/\w'=W):=λW hW=>by have:=CS (o:=6+i*10) x.s<|hW.kK hx 2 _ J;rw[iC hs]at this;exact this.z λe w' h=>⟨h.1,h.2.s⟩
 have HW:I (∀W,aG W B xb n h->aH aj 118 #[ak<|Y ⟨xb,4,U⟩,jf #[V Z 4,V Z i,V Z 0,V Z x.t]] W λe w'=>∃ok h',e=aU (aA ok)/\jy h ⟨4,i,0,x.t⟩ ok h'/\bW W w' B xb n h n h'):=λW hW=>Xr hW hm;have HI:I (h.up=A/\(x.s=2\/x.s=3)/\x.t=m.t):=⟨hu,hs,ht⟩;have HQ:I (m.q=q):=hq;have aO:=bF hh.blk;have lU:(i:Int)<6:=by omega
 have dL:(0:Int)<=(i:Int):=by omega
 have lF:(q:Int)<4:=by omega
 have oJ:(0:Int)<=(q:Int):=by omega
 rw[hp,hq,<-ht];clear hh hu hx hs e0 e2 ht hq hm;go_enter func55,ntmps55;go_wp2_with fail;go_quiet (fail);go_wp2;go_quiet ((go_at_call 66;exact(HC.o _<|HH.o.a<|(aQ _).drewN _).z λ_ _ h=>⟨h.1,_,h.2⟩));go_wp2_with fail;go_region_law ((first|(go_simp;go_at_call 69;refine(RV (w:=(bH w _).drewN _) (p:=x) (λj v hv=>(HH.o.a<|(aQ _).drewN _).kK HX.o j v hv) 2).z ?_;rintro e w1 ⟨v1,rfl,uU,aI⟩;have F1:I (Fr aB w w1):=((aQ _).drewN _).t aI dA;have N1:I (bI w1 _ 3 1 v1 (dH x.bU 2 4).length<|dY<|dH x.bU 2 4):=uU;have M1:I (w1.heap[M (R w)]? =Y (aC #[V Z m.k,V Z q,V Z i,V Z x.t,aA m.c] 119 (0,0))):=(aI.block (M (R w)) (by simp[World.drewN]) id).t<|heap_alloc_new _ _;have kq:au w1 ⟨M (R w),1,U⟩=Y (V Z q):=(aJ M1.o 1).t J;clear uU aI)|(go_simp;go_at_call 69;refine(RV (w:=((bH w _).drewN _).alloc _) (p:=x) (λj v hv=>(HH.o.a<|((aQ _).drewN _).alloc _).kK HX.o j v hv) 2).z ?_;rintro e w1 ⟨v1,rfl,uU,aI⟩;have F1:I (Fr aB w w1):=(((aQ _).drewN _).alloc _).t aI dA;have N1:I (bI w1 _ 3 1 v1 (dH x.bU 2 4).length<|dY<|dH x.bU 2 4):=uU;have M1:I (w1.heap[M (R w)]? =Y (aC #[V Z m.k,V Z q,V Z i,V Z x.t,aA m.c] 119 (0,0))):=(aI.block (M (R w)) (by simp[World.drewN]<;>omega) id).t<|((aQ (w:=(bH w _).drewN _) _).block (M (R w)) (by simp[World.drewN]) id).t<|heap_alloc_new _ _;have kb:au w1 ⟨M (R w)+1,0,U⟩=Y (V Z q):=(aJ ((aI.block (M (R w)+1) (by simp[World.drewN]) id).t<|rM _<|by simp[World.drewN]) 0).t J;clear uU aI)|(go_simp;go_at_call 117;refine(aoO (q:=q) N1.o kb).z ?_;rintro e w2 ⟨rfl,kk,mO⟩;(have F2:I (Fr aB w1 w2):=by rw[mO];exact eH.drewN kk);clear mO)|(go_simp;go_at_call 117;refine(aoO (q:=q) (N1.o.alloc _)<|(aJ (heap_alloc_new _ _) 0).t J).z ?_;rintro e w2 ⟨rfl,kk,mO⟩;(have F2:I (Fr aB w1 w2):=by rw[mO];exact(eH.alloc _).drewN kk);clear mO)));all_goals have FZ:I (Fr aB w w2):=F1.o.t F2.o dA;have M2:=(F2.o.block (M (R w)) (bF M1.o) id).t M1.o;have n1:au w2 ⟨M (R w),1,U⟩=Y (V Z q):=(aJ M2 1).t J;have n2:au w2 ⟨M (R w),2,U⟩=Y (V Z i):=(aJ M2 2).t J;have H2:I (aG w2 B xb n h):=HH.o.a FZ.o;obtain⟨⟨_,r1,_⟩,rf⟩:=H2.o.cellP HX.o;have r3:au w2 ⟨xb,6+i*10+(3+q),U⟩=Y (.int .i64<|x.bU.getD q 0):=H2.o.kK HX.o (3+q) _<|Su x jP;rw[<-Jf]at r3;clear M2;by_cases hL:dH x.bU 2 4=[(q:Int)];{have HL:I (dH x.bU 2 4=[(q:Int)]):=hL;rw[show decide (dH x.bU 2 4=[(q:Int)])=A from iC hL];clear hL;go_wp2_with fail;go_region_law ((go_simp;go_at_call 118;refine(HW.o _<|H2.o.a<|eH.drew).z ?_;rintro e w3 ⟨ok,h',rfl,ho,bn⟩;have R1:I (jy h ⟨4,i,0,x.t⟩ ok h'/\bW w w3 B xb n h n h'):=⟨ho,bn.behind<|FZ.o.drew⟩;clear ho bn));all_goals go_wp2;refine aQY (aRs J _ _ _) J ?_;exact⟨J,h',.done HI.o (by rw[HQ.o];exact HL.o) R1.o.1,R1.o.2⟩};{have HL:I (¬dH x.bU 2 4=[(q:Int)]):=hL;rw[show decide (dH x.bU 2 4=[(q:Int)])=ah from jr hL];clear hL;go_wp2_with fail;go_region;all_goals go_wp2;go_end0;have t1:=H2.o.setCell (x.tie q 1) HX.o (j:=3+q) (by omega)<|adO x jP 1;rw[<-Jf]at t1;(have e3:m.q.toNat=q:=by rw[HQ.o];rfl);refine⟨J,_,.tie HI.o (by rw[HQ.o];exact HL.o),?_⟩;rw[e3];exact((bW.own (h:=h) (n:=n) t1.2 t1.1 λk hk=>hk).a<|eH.drew).behind FZ.o}
def aoP(hh:aG w B xb n h)(hi:i<6)(hx:h.ps[i]? =Y x)(m:Ms)(hq:m.q=q)(jP:q<4)(hp:m.p=i)(hm:qB h ⟨4,i,0,x.t⟩):aH aj 55 #[ak<|Y ⟨xb,4,U⟩,jf #[V Z m.k,V Z m.q,V Z m.p,V Z m.t,aA m.c]] w λe w'=>e=aU (dZ #[])/\∃h',Ai h i x m h'/\bW w w' B xb n h n h':=by by_cases hu:h.up=A;{by_cases hs:x.s=2\/x.s=3;{by_cases ht:x.t=m.t;{exact aAm hh hi hx m hq jP hp hu hs ht hm};exact(aAl hh hi hx m hp hu hs ht).z λe w' ⟨h1,h2⟩=>⟨h1,h,.idle λc=>ht c.2.2,(bW.refl hh).a h2⟩};exact(aAk hh hi hx m hp hu hs).z λe w' ⟨h1,h2⟩=>⟨h1,h,.idle λc=>hs c.2.1,(bW.refl hh).a h2⟩};exact(aAj hh hi m hp<|by simpa using hu).z λe w' ⟨h1,h2⟩=>⟨h1,h,.idle λc=>hu c.1,(bW.refl hh).a h2⟩
end
end
