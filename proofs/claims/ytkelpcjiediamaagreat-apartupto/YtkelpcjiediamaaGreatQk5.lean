import Derived.Test.YtkelpcjiediamaaGreatQk4
set_option maxRecDepth 100000
set_option maxHeartbeats 0
set_option linter.all false
namespace Go.Proofs.YtkelpcjiediamaaGreat
open Bool renaming false->ah,true->A
open Go renaming Calls->aH,TypeId->dB,Value->ai,World->ae,maxLen->cZ,undef->F
open Go.Ending renaming returned->aU
open Go.IntKind renaming i64->Z
open Go.Obj renaming cells->aC
open Go.Proofs.Tryz renaming prog->aj
open Go.RowKit renaming Hid->I,intOf->bM
open Go.Value renaming agg->jf,bool->aA,int->V,ownBlock->dw,pointer->ak,slice->aP,string->dN,tuple->dZ
open Go.World renaming cell?->au,heap->R,ownsRow->bI,setCell->aZ
open Option renaming none->U,some->Y
open _root_.Array renaming size->M
open _root_.List renaming length->O
open Go.Proofs.Tryz
open Go.RowKit Go.Maps
section
def PS.pJ(x:PS):PS:={x with wa:=x.wa-1,si:=x.si+1}
def zK(j:Nat)(H:List PS):List PS:=H.mapIdx λi x=>if j<=i then x.pJ else x
def HS.pJ(j:Nat)(h:HS):HS:={h with ps:=zK j h.ps}
def Du.yE(z:St)(j:Int)(tm:Int)(d:Du):Bool:=decide (1<z.s)&&(decide (d.p=j)&&decide (d.t<=tm))
def JD(z:St)(j tm:Int)(N:List Ms)(D:List Du):List Ms:=D.foldl (λl d=>if d.yE z j tm then oP l ⟨1,d.q,j,z.t,z.s==2⟩else l) N
def CV(z:St)(j tm K:Int)(D:List Du):List Du:=D.map λd=>if d.yE z j tm then⟨d.p,d.q,tm+d.g,if K<2*d.g then K else 2*d.g⟩else d
inductive CW(y:RS)(j:Nat):Bool->RS->Prop
 |out {ok:Bool} {y':RS} {hi:Int} (hh:y.H[j]? =Y hi) (hs:(aF y.L j).s=1/\hi+y.T<=y.tm) (hd:Bh y j ah ok y'):CW y j ok y'
 |rem {hi:Int} (hh:y.H[j]? =Y hi) (hs:¬((aF y.L j).s=1/\hi+y.T<=y.tm)) (nv:ai):CW y j A ((y.dV nv<|JD (aF y.L j) j y.tm y.N y.D).ik y.dv<|CV (aF y.L j) j y.tm y.K y.D)
section
variable{N:Nat}{h h':HS}{y y':RS}{tl:List UInt8}{j:Nat}
variable{ps:List PS}{i:Nat}{z:St}{x x':PS}{hi tm:Int}{D:List Du}{ok:Bool}
def apR{z}(hz:(zK j ps)[i]? =Y z):∃x,ps[i]? =Y x/\z=if j<=i then x.pJ else x:=by simp only[zK,alV,EC]at hz;grind
def NQ(H:ps[i]? =x):(zK j ps)[i]? =(if j<=i then x.pJ else x):=by simp[zK,alV,H]
def apS(ps):(zK j ps).length=ps:=by simp[zK]
def aal(hx:ps[j]? =x):zK (j+1) (ps.set j x')=(zK j ps).set j x':=by apply af1;intro i;by_cases e:j=i;{subst e;have hl:j<ps:=Zv;rw[alS<|by rwa[apS]];rw[NQ<|alS hl,if_neg YV]};simp only[zK,alV,afX e];grind
def aiJ{α:Type}{l:List α}{j x}(hx:l[j]? =Y x):l.set j x=l:=by grind[List.set_getElem_self]
def aCv(H:ps[j]? =x):zK (j+1) ps=(zK j ps).set j x:=by rw[<-aal H,aiJ H]
def aCw{r}(H:ps[j]? =x)(hr:r.p=(j:Int)):zK (j+1) (mQ ps r)=mQ (zK (j+1) ps) r:=by (have e:r.p.toNat=j:=YV);unfold mQ;rw[e,List.getD_eq_getElem?_getD,H,List.getD_eq_getElem?_getD,NQ H,if_neg YV,iT,aal H,aCv H,List.set_set]
def kR.reP(u:kR h y)(hh:y.H[j]? =hi)(hp:jk (aF y.L j) y.D y.tm hi j x')(hf:Iu y.tm x'):kR {h with ps:=h.ps.set j x'} y:=by
 refine{u with rel:=λi z jC hz hh'=>?_,fin:=u.fin.set hf j}
 grind[cases kR]
def aiK(k:eu N h y)(nv):eu N h (y.dV nv y.N):=by
 cases k with
 |up c u=>exact .up {c with} {u with}
 |down tl c d=>exact .down tl {c with} {d with}
def aCy{i}(p:jk z D tm hi i x)(hs:x.s<=1):dH x.bU 2 4=[]:=(by grind[KU,cases jk])
def aiL{β:Type}(f:Du->Bool)(g:β->Du->β):∀(D:List Du) (b:β),D.foldl (λl d=>if f d then g l d else l) b=(D.filter f).foldl g b|[],_=>J|d::D,b=>by simp only[List.foldl_cons,List.filter_cons];split<;>exact aiL f g D _
def aCz{j}(h:∀d∈D,d.yE z j tm=ah)(H K):JD z j tm H D=H/\CV z j tm K D=D:=by constructor;{unfold JD;rw[aiL (λd=>d.yE z j tm) λl d=>oP l _];grind[List.filter_eq_nil_iff]};(conv=>rhs;rw[<-List.map_id D]);apply acK;grind
def CW.still(l:CW y j ok y')(hh:y.H[j]? =hi)(hs:¬((aF y.L j).s=1/\hi+y.T<=y.tm))(hf:∀d∈y.D,d.yE (aF y.L j) j y.tm=ah):ok=A/\∃nv,y'=y.dV nv y.N:=by cases l with|out hh' oZ _=>grind|rem hh' oZ nv=>have⟨e1,e2⟩:=aCz hf y.N y.K;refine⟨J,nv,?_⟩;rw[e1,e2];rfl
def apT{j}(hs:z.s<=1)(d:Du):d.yE z j tm=false:=by unfold Du.yE;grind
def apU(i t:Int)(c:Bool):∀(qs:List Int) {l:List Ms},O l<=100->(EZ l i t c qs).length<=100|[],_,h=>h|q::qs,l,h=>apU i t c qs<|aiH h _
def xh.apV{pl:List PL}{P Q:Int}{L:List Rc}{i t:Int}{c:Bool}:∀(H:List Int) {l:List Ms},xh pl P Q L l->(∀q∈H,yD P Q L ⟨1,q,i,t,c⟩)->xh pl P Q L (EZ l i t c H)|[],_,h,_=>h|q::H,l,h,hq=>xh.apV H (by grind[xh.send]) Zv
def apW(D:List Du)(f:Du->Du)(hf:∀d,(f d).p=d.p)(i):(D.map f).filter (λd=>decide<|d.p=i)=(D.filter λd=>decide<|d.p=i).map f:=by grind[List.filter_congr]
def aiM(c:Core N (h.pJ j) y [])(u:kR (h.pJ j) y)(h6:O h.ps=6)(hj:(j:Int)<h.P)(hx:h.ps[j]? =x)(OB:0<=x.si/\x.wa<=16){tV}(a:xe h j x ok h')(b:CW y j tV y'):
 ok=tV/\(ok=A->eu (N+1) (h'.pJ<|j+1) y')/\(ok=ah->eu (N+1) h' y'):=by
 have Yk:(y.H:Int)=h.P:=c.hl;have Dj:j<y.H:=YV
 have hT:y.T=h.T:=c.T;have hK:y.K=h.K:=c.K;have Ud:1<=h.K/\h.K<=16:=c.K1;have hh:=gG Dj;have zt:(h.pJ j).ps[j]? =x.pJ:=by
  have:=NQ (j:=j) hx;rw[if_pos<|fC j]at this;exact this
 have pr:=u.rel j x.pJ y.H[j] zt hh;have pf:=u.fin x.pJ<|iO zt;have SQ:=c.tm.1;have hf:=c.valid.pY j;have e1:x.s=(aF y.L j).s:=pr.s;have e2:x.t=(aF y.L j).t:=pr.t;have f1:0<=x.si+1/\x.si+1<=y.tm:=pf.si;have f2: -y.tm<=x.wa-1/\x.wa-1<=16:=pf.wa;have f3:0<=x.ga/\x.ga<=16:=pf.ga;have aCA:x.s<=1->dH x.bU 2 4=[]:=λhs=>aCy (x:=x.pJ) pr hs;have prs:∀x',x'.e=x.e->x'.t=x.t->x'.s=x.s->x'.bU=x.bU->(x'.s<=1\/(x'.wa=x.wa-1/\x'.ga=x.ga))->(x'.s=1->x'.si=x.si+1)->jk (aF y.L j) y.D y.tm y.H[j] j x':=by
  intro x' g1 g2 g3 g4 g5 g6;have Eg:x'.a=x.a/\x'.b=x.b/\x'.c=x.c/\x'.d=x.d:=by simpa[PS.bU]using g4
  refine⟨g1.t pr.e,g2.t pr.t,g3.t pr.s,λz=>?_,λz=>?_,λq=>?_,?_,λz=>?_⟩
  ·rw[Eg.1,Eg.2.1,Eg.2.2.1,Eg.2.2.2];exact pr.none<|g3.s.t z
  ·rw[g4];exact pr.some (by show x.s≠0;rw[<-g3];exact z)
  ·rw[g4,g3];exact pr.ny q
  ·rw[pr.due,g4];rcases g5 with g5|⟨g5,g7⟩
   ·rw[show x.pJ.bU=x.bU from rfl,aCA (by rw[<-g3];exact g5)];rfl
   ·rw[g5,g7];rfl
  ·rw[g6 z];exact pr.si<|g3.s.t z
 have reK:∀x',jk (aF y.L j) y.D y.tm y.H[j] j x'->Iu y.tm x'->Core N ((h.gq j x').pJ<|j+1) y []/\kR ((h.gq j x').pJ<|j+1) y:=by
  intro x' g1 g2;have e:(h.gq j x').pJ (j+1)={h.pJ j with ps:=(h.pJ j).ps.set j x'}:=by
   unfold HS.pJ HS.gq;simp only;rw[aal hx]
  rw[e];exact⟨c.aej _,u.reP hh g1 g2⟩
 cases a with
 |Bv hs ht=>
  obtain⟨e,nv,rfl⟩:=b.still hh (λ⟨_,g⟩=>by have:=pr.si hs;have g':x.si+1=y.tm-y.H[j]:=this;omega) (λd _=>apT YV d);refine⟨e.s,λ_=>?_,λz=>by cases z⟩;have⟨c2,u2⟩:=reK {x with si:=x.si+1} (prs _ J J J J (.inl (by show x.s<=1;omega)) λ_=>J) ⟨f1,by show-y.tm<=x.wa/\x.wa<=16;omega,f3⟩;exact(aiK (.up c2 u2) nv).z YV
 |timeout hs ht hw=>
  have hsi:x.si+1=y.tm-y.H[j]:=pr.si hs;have⟨c2,u2⟩:=reK {x with si:=x.si+1} (prs _ J J J J (.inl (by show x.s<=1;omega)) λ_=>J) ⟨f1,by show-y.tm<=x.wa/\x.wa<=16;omega,f3⟩;have hr:(⟨3,j,0,x.t⟩:Rc)=gX y j false:=by rw[e2];rfl
  rw[hr]at hw;have hn:Next h.P h.Q y.L (gX y j ah):=⟨by show(0:Int)<=j;omega,hj,Zv⟩;have xC:(h.gq j {x with si:=x.si+1}).ps[j]? =Y {x with si:=x.si+1}:=yC hx;have iM:h.br=y.br:=u.br;cases b with
  |rem hh' oZ nv=>
   grind
  |out hh' oZ hd=>
   cases hw with
   |ok jv hb=>
    cases hd with
    |ok lv dv kE=>
     refine⟨J,λ_=>?_,λz=>by cases z⟩;have:=apH c2 u2 (by show(zK (j+1)<|h.ps.set j _).length=6;rw[apS,Je];exact h6) hn (.ok jv hb)<|.ok lv dv kE;have e:HS.pJ (j+1) {(h.gq j {x with si:=x.si+1}).uk jv (gu<|dQ<|gX y j ah)with ps:=mQ (h.gq j {x with si:=x.si+1}).ps<|gX y j ah}={((h.gq j {x with si:=x.si+1}).pJ<|j+1).uk jv (gu<|dQ<|gX y j ah)with ps:=mQ ((h.gq j {x with si:=x.si+1}).pJ<|j+1).ps<|gX y j ah}:=by
      show({(h.gq j {x with si:=x.si+1}).uk jv (gu<|dQ<|gX y j ah)with ps:=zK (j+1)<|mQ (h.gq j {x with si:=x.si+1}).ps<|gX y j ah}:HS)=_;rw[aCw xC rfl];rfl
     rw[e];exact this
    |lC hy=>
     have nH:h.br=false:=hb;grind[cases ni]
   |lC jv hb=>
    have nH:h.br=true:=hb;cases hd with
    |ok lv dv kE=>grind
    |lC hy=>
     refine⟨J,(λz=>by cases z),λ_=>?_⟩;exact aiE c2 u2 hn (λe=>by simp[gX]at e) (.lC jv hb) hy
 |idle hs=>
  have h0:x.s=0:=by have:=hf.s0;have:=hf.s1;omega
  obtain⟨e,nv,rfl⟩:=b.still hh (λ⟨g,_⟩=>YV) (λd _=>apT YV d);refine⟨e.s,λ_=>?_,λz=>by cases z⟩;have⟨c2,u2⟩:=reK x Zv ⟨YV,YV,f3⟩;have e3:h.gq j x=h:=by
   unfold HS.gq;rw[aiJ hx]
  rw[e3]at c2 u2;exact(aiK (.up c2 u2) nv).z YV
 |rem hs hr=>
  have hdt:∀d∈y.D,d.p=(j:Int)->d.t=y.tm+(x.wa-1)/\d.g=x.ga/\d.q∈dH x.bU 2 4:=λd hd hp=>by
   have:d∈y.D.filter (λd=>decide<|d.p=(j:Int)):=EE.2 ⟨hd,by simpa using hp⟩;rw[pr.due]at this;obtain⟨q,hq,rfl⟩:=Dz.1 this;exact⟨J,J,hq⟩
  cases hr with
  |wait hw=>
   obtain⟨e,nv,rfl⟩:=b.still hh (λ⟨g,_⟩=>YV) (λd hd=>by
    unfold Du.yE;grind)
   refine⟨e.s,λ_=>?_,λz=>by cases z⟩;have⟨c2,u2⟩:=reK {x with wa:=x.wa-1} (prs _ J J J J (.inr ⟨J,J⟩) λz=>by have z':x.s=1:=z;omega) ⟨by show 0<=x.si/\x.si<=y.tm;omega,f2,f3⟩;exact(aiK (.up c2 u2) nv).z YV
  |due fv hw=>
   cases b with
   |out _ oZ _=>omega
   |rem hh' oZ nv=>
    refine⟨J,λ_=>?_,λz=>by cases z⟩;have rV:∀d∈y.D,d.yE (aF y.L j) j y.tm=decide (d.p=(j:Int)):=λd hd=>by
     unfold Du.yE;grind
    have eN:JD (aF y.L j) j y.tm y.N y.D=EZ h.fl j x.t (x.s==2) (dH x.bU 2 4):=by
     unfold JD;rw[aiL (λd=>d.yE (aF y.L j) j y.tm) λl d=>oP l ⟨1,d.q,j,(aF y.L j).t,(aF y.L j).s==2⟩,af0 rV,pr.due,List.foldl_map,e1,e2,show h.fl=y.N from c.fl];rfl
    have eD:CV (aF y.L j) j y.tm y.K y.D=y.D.map λd=>if d.p=(j:Int)then⟨d.p,d.q,y.tm+d.g,min (2*d.g) h.K⟩else d:=by
     unfold CV;apply acK;grind
    rw[eN,eD];have aam:∀d,(if d.p=(j:Int)then(⟨d.p,d.q,y.tm+d.g,min (2*d.g) h.K⟩:Du)else d).p=d.p:=λd=>by split<;>rfl
    have aCB:∀d,(if d.p=(j:Int)then(⟨d.p,d.q,y.tm+d.g,min (2*d.g) h.K⟩:Du)else d).q=d.q:=λd=>by split<;>rfl
    have hmo:∀q∈dH x.bU 2 4,yD h.P h.Q y.L ⟨1,q,j,x.t,x.s==2⟩:=λq hq=>by
     obtain⟨q',rfl,jP⟩:=ahQ _ _ q hq;have iy:(q':Int)∈(aF y.L j).ps:=by
      apply(pr.some (by show x.s≠0;omega) q' jP).1;simp only[dH,Dz,EE,OU]at hq;have⟨k,⟨_,hk⟩,jH⟩:=hq;have:k=q':=Int.ofNat.inj jH;subst this;show 1<=x.bU.getD k 0;omega
     have:=hf.t0;refine⟨.inl J,hf.ps _ iy,⟨by show(0:Int)<=j;omega,hj⟩,Zv,λ_=>by show(aF y.L j).s≠1;omega,λ_=>iy⟩
    have aCC:Core N ((((h.dV fv<|EZ h.fl j x.t (x.s==2)<|dH x.bU 2 4).gq j {x with wa:=x.ga,ga:=min (2*x.ga) h.K})).pJ<|j+1) ((y.dV nv<|EZ h.fl j x.t (x.s==2)<|dH x.bU 2 4).ik y.dv<|y.D.map λd=>if d.p=(j:Int)then⟨d.p,d.q,y.tm+d.g,min (2*d.g) h.K⟩else d) []:=
     (((c.aej<|zK (j+1)<|h.ps.set j {x with wa:=x.ga,ga:=min (2*x.ga) h.K}).kL fv nv (apU _ _ _ _ (by rw[show h.fl=y.N from c.fl];exact c.E6))<|xh.apV _ (by rw[show h.fl=y.N from c.fl];exact c.ms) hmo).ik y.dv (by rw[OW];exact c.dl))
    refine(eu.up aCC ⟨u.up,u.dn,u.br,u.kp,λi z jC hz hhi=>?_,λd hd=>?_,?_,?_⟩).z YV
    ·show jk (aF y.L i) (y.D.map _) y.tm jC i z;have Hl:(zK (j+1)<|h.ps.set j {x with wa:=x.ga,ga:=min (2*x.ga) h.K})[i]? =z:=hz;rw[aal hx]at Hl;rcases La Hl with⟨rfl,rfl⟩|⟨e,fV⟩
     ·have apX:y.H[i]? =jC:=hhi;rw[hh]at apX;cases apX;refine⟨pr.e,pr.t,pr.s,pr.none,pr.some,pr.ny,?_,λz=>by have z':x.s=1:=z;omega⟩;rw[apW _ _ aam,pr.due,List.map_map];apply acK;intro q _;simp only[Function.comp_apply,if_true];rfl
     ·apply(u.rel i z jC fV hhi).ik;rw[apW _ _ aam];conv=>rhs;rw[<-List.map_id (y.D.filter _)]
      apply acK;grind
    ·obtain⟨d0,Yl,rfl⟩:=Dz.1 hd;rw[aam];exact u.dr d0 Yl
    ·refine⟨λq p i t hp hi h2=>?_,λi h2=>?_⟩
     ·have⟨d,hd,d1,d2⟩:=u.tie.opn q p i t hp hi h2;exact⟨_,Dz.2 ⟨d,hd,J⟩,(aam d).t d1,(aCB d).t d2⟩
     ·have⟨d,hd,d1⟩:=u.tie.PK i h2;exact⟨_,Dz.2 ⟨d,hd,J⟩,(aam d).t d1⟩
    ·show Gw y.tm (zK (j+1)<|h.ps.set j {x with wa:=x.ga,ga:=min (2*x.ga) h.K});rw[aal hx];exact u.fin.set ⟨by show 0<=x.si/\x.si<=y.tm;omega,by show-y.tm<=x.ga/\x.ga<=16;omega,Zv⟩ j
inductive um(y:RS):Nat->RS->Prop
 |zero:um y 0 {y with tm:=y.tm+1}
 |succ {j:Nat} {y1 y2:RS}:um y j y1->CW y1 j A y2->um y (j+1) y2
inductive SS(y:RS):Bool->RS->Prop
 |all {y':RS}:um y y.P.toNat y'->SS y A y'
 |lC {j:Nat} {y1 y2:RS}:j<y.P.toNat->um y j y1->CW y1 j ah y2->SS y ah y2
theorem xe.rest{x}(l:xe h j x A h'):h'.up=h.up/\h'.P=h.P/\h'.ps=O h.ps/\∀i,i≠j->h'.ps[i]? =h.ps[i]? :=by have H:∀ps (x':PS),(ps.set j x').length=O ps/\∀i,i≠j->(ps.set j x')[i]? =ps[i]? :=Zv;cases l with|Bv=>exact⟨J,J,(H _ _).1,(H _ _).2⟩|idle=>grind|rem _ hr=>cases hr<;>exact⟨J,J,(H _ _).1,(H _ _).2⟩|timeout _ _ hw=>cases hw with|ok jv hb=>refine⟨J,J,?_,λi hi=>?_⟩;{show(mQ (h.ps.set j _) _).length=_;simp[mQ]};show(mQ (h.ps.set j _) _)[i]? =_;unfold mQ;grind
def eu.aiO(k:eu N h y)(hu:h.up=A):Core N h y []/\kR h y:=by grind[cases eu,aah.up]
structure PN(aPV:Nat)(P:Int)(j:Nat)(h1:HS)(y1:RS):Prop where
 core:Core aPV (h1.pJ j) y1 []
 up:kR (h1.pJ j) y1
 Ik:O h1.ps=6
 p:h1.P=P
 low:∀(i:Nat) (x:PS),j<=i->h1.ps[i]? =Y x->0<=x.si/\x.wa<=16
theorem aCD(c:Core N h y [])(u:kR h y)(h6:O h.ps=6):PN (N+1) h.P 0 h {y with tm:=y.tm+1}:=by
 have SQ:=c.tm;refine⟨{c with ny:=MP c.ny,dO:=c.dO.z YV,tm:=Zv},{u with rel:=λi z hi hz hh=>?_,fin:=λz hz=>?_},h6,J,λi x _ H=>?_⟩
 ·obtain⟨x,H,rfl⟩:=apR hz;rw[if_pos YV];have p:=u.rel i x hi H hh;refine{p with due:=?_,si:=λz=>?_}
  ·rw[p.due];apply acK;intro q _;show(⟨(i:Int),q,y.tm+x.wa,x.ga⟩:Du)=⟨i,q,y.tm+1+(x.wa-1),x.ga⟩;grind
  ·have:=p.si z;show x.si+1=y.tm+1-hi;omega
 ·have⟨i,hi⟩:=Yv.1 hz;obtain⟨x,H,rfl⟩:=apR hi;rw[if_pos YV];have f:=u.fin x Zv;have⟨f1,f2,f3⟩:=f;exact⟨by show 0<=x.si+1/\x.si+1<=y.tm+1;omega,by show-(y.tm+1)<=x.wa-1/\x.wa-1<=16;omega,f3⟩
 ·have f:=u.fin x Zv;exact⟨f.si.1,f.wa.2⟩
theorem PN.succ{aPV P h1 H y1 y2 x}(t:PN aPV P j h1 y1)(hj:(j:Int)<P)(hx:h1.ps[j]? =Y x)(a:xe h1 j x A H)(b:CW y1 j A y2):PN (aPV+1) P (j+1) H y2:=by have⟨r1,r2,r3,r4⟩:=a.rest;have⟨_,k,_⟩:=aiM t.core t.up t.Ik (by rwa[t.p]) hx (t.low j x YV hx) a b;(have hu:(H.pJ<|j+1).up=true:=by show H.up=A;rw[r1];exact t.up.up);have⟨c,u⟩:=(k J).aiO hu;exact⟨c,u,r3.t t.Ik,r2.t t.p,λi z hi hz=>t.low i z YV Zv⟩
variable{h1:HS}
def PN.follow{aPV P h2 y1}(t:PN aPV P j h1 y1)(hj:(j:Int)<P)(hx:h1.ps[j]? =x)(a:xe h1 j x A h2):∃y2,CW y1 j A y2:=by have Yk:(y1.H:Int)=h1.P:=t.core.hl;(have Dj:j<y1.H:=by have:=t.p;omega);have hh:y1.H[j]? =y1.H[j]:=Zv;by_cases hs:(aF y1.L j).s=1/\y1.H[j]+y1.T<=y1.tm;{cases hb:y1.br with|false=>exact⟨_,.out hh hs<|.ok y1.lv y1.dv hb⟩|true=>(have zt:(h1.pJ j).ps[j]? =x.pJ:=by have:=NQ (j:=j) hx;rwa[if_pos YV]at this);have pr:=t.up.rel j _ _ zt hh;have e1:x.s=1:=pr.s.t hs.1;have hsi:x.si+1=y1.tm-y1.H[j]:=pr.si e1;have hT:y1.T=h1.T:=t.core.T;have iM:=t.up.br;cases a with|Bv _ ht=>omega|timeout _ _ hw=>(cases hw with|ok jv kE=>exact absurd (kE.s.t iM) Zv)|rem oZ=>omega|idle oZ=>omega};exact⟨_,.rem hh hs y1.nv⟩
def Xx(c:Core N h y [])(u:kR h y)(h6:O h.ps=6)(a:sH h j h1):∀{H:RS},um y j H->(j:Int)<=h.P->PN (N+1+j) h.P j h1 H:=by induction a with|zero=>grind[cases um,aCD]| @succ j h1 h2 x a hx hl ih=>grind[cases um,PN.succ]
def aCE(c:Core N h y [])(u:kR h y)(h6:O h.ps=6)(a:sH h j h1):(j:Int)<=h.P->∃H,um y j H:=by induction a with|zero=>exact λ_=>⟨_,.zero⟩| @succ j h1 h2 x a hx hl ih=>intro hj;have⟨H,b⟩:=ih YV;have⟨y2,hy⟩:=(Xx c u h6 a b YV).follow YV hx hl;exact⟨y2,.succ b hy⟩
theorem apY(c:Core N h y [])(u:kR h y)(h6:O h.ps=6)(hN:N<=100000000)(hj:j<h.P.toNat)(a:sH h j h1)(hx:h1.ps[j]? =x):x.iH/\qB h1 ⟨3,j,0,x.t⟩:=by
 have hP:=c.P1;have⟨y1,b⟩:=aCE c u h6 a YV;have t:=Xx c u h6 a b YV;have zt:(h1.pJ j).ps[j]? =x.pJ:=by have:=NQ (j:=j) hx;rwa[if_pos YV]at this
 have⟨f1,f2,f3⟩:=t.up.fin x.pJ Zv;have g1:0<=x.si+1/\x.si+1<=y1.tm:=f1;have g2: -y1.tm<=x.wa-1/\x.wa-1<=16:=f2;have g3:0<=x.ga/\x.ga<=16:=f3;have SQ:=t.core.tm;have OB:=t.low j x YV hx;have Yk:(y1.H:Int)=h1.P:=t.core.hl;have Dj:j<y1.H:=by have:=t.p;omega
 have pr:=t.up.rel j _ y1.H[j] zt Zv;have hf:=t.core.valid.pY j;have et:x.t=(aF _ j).t:=pr.t;have t0:=hf.t0;have t1:=hf.t1;have QQ:=t.core.ny;refine⟨⟨YV,YV,YV⟩,⟨⟨y1.L,YV,?_⟩,t.core.kp,?_,Zv⟩⟩;{exact⟨Xy,Xy,Zv,Zv,Xy,Xy,Zv,Zv⟩};have hjb:h1.jb=gu _:=t.core.jb;grind[Jv,Ir]
theorem apZ(c:Core N h y [])(u:kR h y)(h6:O h.ps=6){tV}(a:ZC h ok h')(b:SS y tV y'):ok=tV/\eu (N+8) h' y':=by
 have hP:=c.P1;have hyP:=c.P;have same:∀{k:Nat} {h1 h2:HS} {y1 y2:RS} {x:PS} {o o':Bool},(k:Int)<h.P->sH h k h1->um y k y1->h1.ps[k]? =x->xe h1 k x o h2->CW y1 k o' y2->o=o'/\(o=ah->eu (N+8) h2 y2):=λhk ta tb hx la lb=>by
  have t:=Xx c u h6 ta tb YV;have⟨e,_,k3⟩:=aiM t.core t.up t.Ik (by rwa[t.p]) hx (t.low _ _ YV hx) la lb;grind[eu.z]
 have aML:∀{m:Nat} {h2:HS},sH h m h2->∀k,k<m->∃h1 x h3,sH h k h1/\h1.ps[k]? =Y x/\xe h1 k x A h3:=λta=>by
  induction ta with
  |zero=>omega
  | @succ m h1 h2 x ta hx hl ih=>
    intro k hk;by_cases e:k=m
    ·grind
    ·exact ih k YV
 have preB:∀{m:Nat} {y2:RS},um y m y2->∀k,k<m->∃y1 y3,um y k y1/\CW y1 k A y3:=λtb=>by
  induction tb with
  |zero=>omega
  | @succ m y1 y2 tb hl ih=>
    intro k hk;by_cases e:k=m
    ·grind
    ·exact ih k YV
 cases a with
 |all ta=>
  cases b with
  |all tb=>
   refine⟨J,?_⟩;rw[hyP]at tb;have t:=Xx c u h6 ta tb YV;have hPn:((h.P.toNat:Nat):Int)=h.P:=YV
   refine eu.z (N:=N+1+h.P.toNat) (.up ?_ ?_) YV
   ·have:=t.core.aej h'.ps;exact this
   ·refine{t.up with rel:=λi z hi hz hh=>?_,fin:=λz hz=>?_}
    ·have AU:i<y'.H:=Zv;have Yk:(y'.H:Int)=h'.P:=t.core.hl;have hp:=t.p;have Hl:(h'.pJ h.P.toNat).ps[i]? =z:=by
      have:=NQ (j:=h.P.toNat) hz;rwa[if_neg YV]at this
     exact t.up.rel i z hi Hl hh
    ·have⟨i,hi⟩:=Yv.1 hz;have Hl:=NQ (j:=h.P.toNat) hi;have f:=t.up.fin _<|iO Hl;by_cases g:h.P.toNat<=i
     ·rw[if_pos g]at f;have OB:=t.low i z g hi;have⟨f1,f2,f3⟩:=f;have g1:0<=z.si+1/\z.si+1<=y'.tm:=f1;have g2: -y'.tm<=z.wa-1/\z.wa-1<=16:=f2;exact⟨YV,YV,f3⟩
     grind
  | @lC k y1 y2 hk tb lb=>
    grind
 | @lC k h1 h2 x hk ta hx la=>
   cases b with
   |all tb=>
    grind
   | @lC k' y1 y2 gI tb lb=>
     rcases Nat.lt_trichotomy k k' with g|g|g
     ·grind
     ·grind
     grind
end
end
section
def ap1:∀(l:List Du) (i:Nat) (d:Du),i<O l->((((l.flatMap Du.cs).set (i*4)<|V Z d.p).set (i*4+1)<|V Z d.q).set (i*4+2)<|V Z d.t).set (i*4+3) (V Z d.g)=(l.set i d).flatMap Du.cs|[],i,d,h=>aQB|x::r,0,d,_=>(by simp[Du.cs])|x::r,i+1,d,h=>by have ih:=ap1 r i d Zv;have hl:O x.cs=4:=J;grind
section
variable{w w' B yb y}
def Iw(w:ae)(g i:Nat)(d:Du):World:=(((aZ w (g,i*4) d.p).setCell (g,i*4+1) d.q).setCell (g,i*4+2) d.t).setCell (g,i*4+3) d.g
variable{i z j tm K}{D:List Du}{d:Du}{y'}
theorem aY.aCF(h:aY w B yb y){g cap}(hv:y.dv=aP (Y ⟨g,0,U⟩) y.D cap)(hi:i<O y.D)(d):dG w (Iw w g i d) B yb y (y.ik y.dv<|y.D.set i d):=by have hr:=h.ik;(have Gu:y.dv.ownBlock=g:=by rw[hv];rfl);have ht:=ig hr Gu;have fs:Fr (λk=>k=g) w (Iw w g i d):=((((Fr.refl (λk=>k=g) w).setCell (.inl J) _).setCell (.inl J) _).setCell (.inl J) _).setCell (.inl J) _;have H:∀{t2:dB} {wd:Nat} {v:ai} {k:Nat} {xs:List _},bI w B t2 wd v k xs->t2≠204->(Iw w g i d).ownsRow B t2 wd v k xs:=(by grind[Fr.ownsRow,ig]);have hs:(Iw w g i d).ownsRow B 204 4 (aP g y.D cap) _ (((((y.D.flatMap Du.cs).set (i*4) d.p).set (i*4+1) d.q).set (i*4+2) d.t).set (i*4+3) d.g):=U7 (by grind[U7]) YV _;rw[ap1 _ _ _ hi]at hs;refine⟨⟨(fs.block yb (bF h.blk) λe=>?_).t h.blk,H h.tH Xa,?_,H h.heard Xa,H h.dO Xa,H h.outs Xa,H h.kL Xa,λa ha=>(h.refs a ha).stay fs λq e hf=>?_,h.hy,h.hP,h.hQ⟩,fs.z (λk e=>.inl<|.inr Zv),λk hk=>.inl hk⟩;{grind[lM,cases aY]};{show(Iw w g i d).ownsRow B _ 4 y.dv (y.D.set i d).length ((y.D.set i d).flatMap Du.cs);grind};rcases(h.refs a ha).tags hf with t1|t1<;>(grind)
theorem ap2(hd:D[i]? =d):CV z j tm K (D.take<|i+1)++D.drop (i+1)=(CV z j tm K (D.take i)++D.drop i).set i (if d.yE z j tm then⟨d.p,d.q,tm+d.g,if K<2*d.g then K else 2*d.g⟩else d):=by have hl:i<D:=Zv;(have H:(CV z j tm K<|D.take i).length=i:=by simp[CV]<;>omega);rw[alU _ _ YV,H,Nat.sub_self];rw[List.drop_eq_getElem_cons hl,List.set_cons_zero,uz,hd];unfold CV;grind
def ap3{N}(hd:D[i]? =d):JD z j tm N (D.take<|i+1)=if d.yE z j tm then oP (JD z j tm N<|D.take i) ⟨1,d.q,j,z.t,z.s==2⟩else JD z j tm N (D.take i):=by rw[uz,hd];simp[JD,UC]
theorem aiP(hd:D[i]? =d):(CV z j tm K (D.take i)++D.drop i)[i]? =d:=by have hl:i<D:=Zv;(have H:(CV z j tm K<|D.take i).length=i:=by simp[CV]<;>omega);grind
theorem ap4(hi:i<=O D):(CV z j tm K (D.take i)++D.drop i).length=D:=by simp[CV]<;>omega
def aY.aCG(h:aY w B yb y)(t):dG w (aZ w (yb,7)<|V Z t) B yb y {y with tm:=t}:=by
 have f:Fr (λk=>k=yb) w (aZ w (yb,7) t):=aQx;have hb:=eX h.blk 7 t;have H:∀{t2:dB} {wd:Nat} {v:ai} {k:Nat} {xs:List _},bI w B t2 wd v k xs->t2≠138->(aZ w _ _).ownsRow B t2 wd v k xs:=λho h5=>f.ownsRow ho (λq hq e=>by
  have t0:=ig ho hq;grind[lM,cases aY])
 exact⟨⟨hb,H h.tH Xa,H h.ik Xa,H h.heard Xa,H h.dO Xa,H h.outs Xa,H h.kL Xa,(by grind[iU.stay,cases aY,aY.Zp]),h.hy,h.hP,h.hQ⟩,f.z λk e=>.inl<|.inl e,λk hk=>.inl hk⟩
theorem CW.gU{j ok}(l:CW y j ok y'):y'.P=y.P/\y'.T=y.T/\y'.K=y.K:=by cases l with|rem=>exact⟨J,J,J⟩|out _ _ H=>cases H with|ok=>exact⟨J,J,J⟩|lC hy=>cases hy<;>exact⟨J,J,J⟩
theorem um.gU{j}(t:um y j y'):y'.P=y.P/\y'.T=y.T/\y'.K=y.K:=by induction t with|zero=>grind|succ _ hl ih=>grind[CW.gU]
structure PO(y1:RS)(j:Nat):Prop where
 pY:y1.iH
 ok:(aF y1.L j).s=1->(gX y1 j ah).Ok
 hd:∀hi,y1.H[j]? =Y hi->(aF y1.L j).s=1->0<=hi/\hi<=1000000000000
 du:∀d∈y1.D,0<=d.g/\d.g<=16
 tm:0<=y1.tm/\y1.tm<=1000000000000
 T:1<=y1.T/\y1.T<=50
 K:1<=y1.K/\y1.K<=16
def ap5(h:aY w B yb y)(hd:y.dn=A):aH aj 89 #[ak yb] w λe w'=>e=V Z 5/\w=w':=by have c4:=h.k 4;go_wp2;go_ret;simp_all
end
end
section
section
variable{w w':ae}{B yb:Nat}{y:RS}
theorem Nz.going{m:Ms}(hh:aY w B yb y)(s:Nz w w' B yb y m):∃nv,dG w w' B yb y (y.dV nv<|oP y.N m):=by cases s with|lost hl f=>refine⟨y.nv,?_⟩;rw[show oP y.N m=y.N by simp[oP,hl]];exact(dG.refl hh).a f|dV hl nv mv _=>refine⟨nv,?_⟩;rw[show oP y.N m=y.N++[m]by rw[oP,if_neg<|by omega]];exact mv
variable{g c j i bx:Nat}{yj:RS}{z:St}{nv:ai}{d:Du}{w5 Wb:ae}{o:Obj}
def aFR{W:ae}{B':Nat}{ty:dB}{wd n:Nat}{m:Nat}{xs:List ai}(h:bI W B' ty wd (aP (Y ⟨g,0,U⟩) n c) m xs):∀o,W.frozen? ⟨g,o,U⟩=false:=by rcases h.2 with⟨e,_⟩|⟨g',cap,cur,e,_,h3,_⟩;{cases e};simp only[aQQ,iR,aRv]at e;obtain⟨⟨rfl,_⟩,_⟩:=e;exact gJ h3
def sS(yj:RS)(z:St)(j:Nat)(nv:ai)(i:Nat):RS:=(yj.dV nv<|JD z j yj.tm yj.N<|yj.D.take i).ik yj.dv<|CV z j yj.tm yj.K (yj.D.take i)++yj.D.drop i
def ajH(hd:yj.D[i]? =Y d)(hf:d.yE z j yj.tm=ah):sS yj z j nv (i+1)=sS yj z j nv i:=by unfold sS;rw[ap3 hd,ap2 hd,hf];simp only[kG,jX];rw[aiJ<|aiP hd]
def aFS{Qo:ai}(hd:yj.D[i]? =Y d)(hf:d.yE z j yj.tm=A):sS yj z j Qo (i+1)=(((sS yj z j nv i).dV Qo<|oP (sS yj z j nv i).N ⟨1,d.q,j,z.t,z.s==2⟩)).ik yj.dv ((sS yj z j nv i).D.set i ⟨d.p,d.q,yj.tm+d.g,if yj.K<2*d.g then yj.K else 2*d.g⟩):=by unfold sS;rw[ap3 hd,ap2 hd,hf];rfl
def arP{wr:ae}{dc:Nat}{XR:ai}(mi:dG w wr B yb y (sS yj z j nv i))(m5:dG wr w5 B yb (sS yj z j nv i) ((sS yj z j nv i).dV XR<|oP (sS yj z j nv i).N ⟨1,d.q,j,z.t,z.s==2⟩)) (x5:w5.heap[M (R wr)]? =Y (aC #[V Z d.p,V Z d.q,V Z d.t,V Z d.g] 204 (0,0)))(fB:Fr (λk=>k=M (R wr)) w5 Wb)(dv:yj.dv=aP (Y ⟨g,0,U⟩) (O yj.D) dc)(hd:yj.D[i]? =Y d)(hf:d.yE z j yj.tm=A):dG w (Iw Wb g i ⟨d.p,d.q,yj.tm+d.g,if yj.K<2*d.g then yj.K else 2*d.g⟩) B yb y (sS yj z j XR<|i+1):=by have hl:i<O yj.D:=(kY.1 hd).1;have Ep:(sS yj z j nv i).D.length=O yj.D:=ap4 (by omega);have a1:=(mi.t m5).box fB mi.fr.size (λe=>by have t:=lM x5;have ya:=m5.at_;(have hg:yj.dv.ownBlock=Y g:=by rw[dv];rfl);have zk:g<M (R wr):=(mi.at_.lZ (k:=g)<|.inr<|.inr<|.inl hg).1;rcases e with e|e|e|e|e|e|e|⟨p,hp,e⟩;{rw[e,lM ya.blk]at t;cases t};{rw[ig ya.tH e]at t;cases t};{have e':yj.dv.ownBlock=Y (M (R wr)):=e;rw[hg]at e';cases e';omega};{rw[ig ya.heard e]at t;cases t};{rw[ig ya.dO e]at t;cases t};{rw[ig ya.outs e]at t;cases t};{rw[ig ya.kL e]at t;cases t};rcases(ya.refs p hp).tags e with t2|t2<;>(rw[t]at t2;cases t2));have a2:=a1.at_.aCF (g:=g) (cap:=dc) (i:=i) (by show yj.dv=.slice _ (sS yj z j nv i).D.length _;rw[Ep];exact dv) (by show i<(sS yj z j nv i).D.length;omega) ⟨d.p,d.q,yj.tm+d.g,if yj.K<2*d.g then yj.K else 2*d.g⟩;rw[aFS hd hf];exact a1.t a2
def arQ(fB:Fr (λk=>k=bx) w5 Wb)(hz:w5.heap[c]? =Y o)(h1:c≠bx)(h2:c≠g):(Iw Wb g i d).heap[c]? =Y o:=by have hc:c<M (R w5):=(uZ.1 hz).1;have fs:Fr (λk=>k=g) Wb (Iw Wb g i d):=((((Fr.refl (λk=>k=g) Wb).setCell (p:=⟨g,i*4,U⟩) (.inl J) _).setCell (p:=⟨g,i*4+1,U⟩) (.inl J) _).setCell (p:=⟨g,i*4+2,U⟩) (.inl J) _).setCell (p:=⟨g,i*4+3,U⟩) (.inl J) _;exact(fs.block c (gZ hc fB.size) h2).t<|(fB.block c hc h1).t hz
def aFT(fB:Fr (λk=>k=bx) w5 Wb)(hz:w5.heap[c]? =Y o)(h1:c≠bx)(h2:c≠g):(Iw Wb g i d).drew.heap[c]? =Y o:=by have h:=arQ (i:=i) (d:=d) fB hz h1 h2;exact(((Fr.refl (λ_=>False)<|Iw Wb g i d).drew).block c (uZ.1 h).1 id).t h
def aFU:sS yj z j nv (O yj.D)=(yj.dV nv<|JD z j yj.tm yj.N yj.D).ik yj.dv (CV z j yj.tm yj.K yj.D):=by unfold sS;rw[alZ,List.drop_length,pV]
def arR(h:aY w B yb y)(hd:y.dn=ah)(SQ:0<=y.tm/\y.tm<=1000000000000)(hp:∀(j:Nat) (y1:RS),j<y.P.toNat->um y j y1->PO y1 j):
 aH aj 89 #[ak<|Y ⟨yb,0,U⟩] w λe w'=>∃ok y',e=aU (.int .i64<|if ok then 0 else 5)/\SS y ok y'/\dG w w' B yb y y':=by
 have H:I (aY w B yb y):=h;have HP:I (∀(j:Nat) (y1:RS),j<y.P.toNat->um y j y1->PO y1 j):=hp;have c4:au w ⟨yb,4,U⟩=Y (aA y.dn):=h.c 4;rw[hd]at c4;have c7:au w ⟨yb,7,U⟩=Y (V Z y.tm):=h.c 7;have cf:∀o,w.frozen? ⟨yb,o,U⟩=false:=gJ h.blk;have aO:=bF h.blk;have M0:I (dG w (aZ w ⟨yb,7,U⟩<|.int .i64<|y.tm+1) B yb y {y with tm:=y.tm+1}):=h.aCG _;obtain⟨P,hP⟩:=lW (show 0<=y.P by have:=h.hP;omega);have Jy:P<=6:=by have:=h.hP;omega
 have PP:I (y.P=(P:Int)):=hP;clear h hp hP;go_enter func89,ntmps89
 go_wp2_with fail
 go_loopw [3] (λiv w'=>∃(j:Nat) (yj:RS),j<=P/\iv=V Z j/\um y j yj/\dG w w' B yb y yj) (λiv _=>P-(bM iv).toNat)
 case atStart=>exact⟨0,_,jQ _,J,.zero,M0.o⟩
 case round=>
  obtain⟨j,yj,hle,rfl,ht,bn⟩:=hrel
  have MV:I (dG w wr B yb y yj):=bn
  have TT:I (um y j yj):=ht
  have cP:au wr ⟨yb,0,U⟩=Y (V Z P):=by
   have:=bn.at_.c 0;rw[this,<-PP.o,<-ht.gU.1];rfl
  have Sr:=bF bn.at_.blk
  by_cases jD:j<P
  ·have zg:(j:Int)<(P:Int):=by omega
   have PR:I (PO yj j):=HP.o j yj (by rw[PP.o];omega) ht
   have hjH:j<O yj.H:=by
    have:=bn.at_.hP.1;have h2:=ht.gU.1;have h3:=PP.o;omega
   have HJ:I (yj.H[j]? =Y yj.H[j]):=gG hjH
   obtain⟨hg,oI,hx,bV,jo,Es,hv4,_,hv6⟩:=bn.at_.fD hjH
   have cH:au wr ⟨yb,11,U⟩=Y yj.hv:=bn.at_.c 11
   have hv5:au wr ⟨hg,j,U⟩=Y (V Z yj.H[j]):=by
    have:=bn.at_.heard;rw[bV]at this;exact Jl this HJ.o
   rw[bV]at cH
   have cT:au wr ⟨yb,2,U⟩=Y (V Z yj.T):=bn.at_.c 2
   have ct:au wr ⟨yb,7,U⟩=Y (V Z yj.tm):=bn.at_.c 7
   have lu:I ((O yj.L+1)*8<=2^47):=by have:=PR.o.pY.lL;show(O yj.L+1)*8<=2^47;omega
   obtain⟨z,hz⟩:∃z,aF yj.L j=z:=⟨_,J⟩
   have HZ:I (aF yj.L j=z):=hz
   clear bn ht hz bV
   go_wp2_with
    ((go_at_call 105;refine(sG MV.o.at_ j PR.o.pY.arg lu.o).z ?_;rw[HZ.o];rintro e w1 ⟨v1,rfl,bV,aI⟩
      obtain⟨va,vc,rfl,_⟩:=jg bV
      have F1:I (Fr aB wr w1):=aI
      have d11:=(aI.cell (p:=⟨yb,11,U⟩) Sr id).t cH
      have dT:=(aI.cell (p:=⟨yb,2,U⟩) Sr id).t cT
      have dt:=(aI.cell (p:=⟨yb,7,U⟩) Sr id).t ct
      have dh:=(aI.cell (p:=⟨hg,j,U⟩) jo id).t hv5
      have abW:yb<M (R w1):=gZ Sr aI.size
      have aNq:hg<M (R w1):=gZ jo aI.size
      clear bV aI))
   have hTb:=PR.o.T
   have htb:=PR.o.tm
   by_cases nZ:z.s=1/\yj.H[j]+yj.T<=yj.tm
   ·have eb:(z.s==1)=true:=by simpa using nZ.1
    have hhb:=PR.o.hd _ HJ.o (by rw[HZ.o];exact nZ.1)
    have et:=nZ.2
    have HOK:I ((gX yj j ah).Ok):=PR.o.ok (by rw[HZ.o];exact nZ.1)
    have HS:I (z.s=1):=nZ.1
    have HT:I (yj.H[j]+yj.T<=yj.tm):=nZ.2
    clear nZ
    go_quiet (fail)
    go_wp2_with
     ((go_at_call 130;refine(ahG (MV.o.at_.a<|(F1.o.alloc _).drewN _) PR.o.pY j ah HOK.o).z ?_;rintro e w2 hd2
       obtain⟨J6,Eh⟩:=hd2
       have O2:=J6
       have M2:I (dG wr w2 B yb yj _):=Eh.behind<|(F1.o.alloc _).drewN _
       clear J6 Eh
       rename_i BV y2
       cases BV))
    ·go_wp2
     go_ret
     exact⟨ah,_,J,.lC (by rw[PP.o];omega) TT.o<|.out HJ.o ⟨by rw[HZ.o];exact HS.o,HT.o⟩ O2,MV.o.t M2.o⟩
    ·go_wp2
     go_roundw
     case rel=>exact⟨j+1,_,by omega,by go_num,.succ TT.o<|.out HJ.o ⟨by rw[HZ.o];exact HS.o,HT.o⟩ O2,MV.o.t M2.o⟩
     case measure=>simp[bM]<;>omega
   ·have HNO:I (¬(z.s=1/\yj.H[j]+yj.T<=yj.tm)):=nZ
    have acB:((z.s==1)=ah)\/((z.s==1)=A/\decide (yj.H[j]+yj.T<=yj.tm)=ah/\(0<=yj.H[j]/\yj.H[j]<=1000000000000)):=by
     by_cases g:z.s=1
     ·exact .inr ⟨by simpa using g,jr λe=>nZ ⟨g,e⟩,PR.o.hd _ HJ.o (by rw[HZ.o];exact g)⟩
     ·exact .inl<|by simpa using g
    clear nZ
    rcases acB with eb|⟨eb,et,hhb⟩
    all_goals
     go_quiet (fail)
     go_wp2_with fail
     go_loopw [6] (λiv w'=>∃(i:Nat) (nv:ai),i<=O yj.D/\iv=V Z i/\dG w w' B yb y (sS yj z j nv i)/\w'.heap[M (R w1)]? =Y (aC #[V Z z.e,V Z z.t,V Z z.s,.slice va (O z.ps) vc] 157 (0,0))) (λiv _=>O yj.D-(bM iv).toNat)
     case atStart=>exact⟨0,yj.nv,jQ _,J,MV.o.a<|(F1.o.alloc _).drewN _,heap_alloc_new _ _⟩
     case round=>
      obtain⟨i,nv,AU,rfl,Qp,uq⟩:=hrel
      have MI:I (dG w wr B yb y<|sS yj z j nv i):=Qp
      have BX:I (wr.heap[M (R w1)]? =Y (aC #[V Z z.e,V Z z.t,V Z z.s,.slice va (O z.ps) vc] 157 (0,0))):=uq
      have ajE:=bF Qp.at_.blk
      have Eo:=bF uq
      have cD:au wr ⟨yb,10,U⟩=Y yj.dv:=Qp.at_.c 10
      have cK:au wr ⟨yb,3,U⟩=Y (V Z yj.K):=Qp.at_.c 3
      have cM:au wr ⟨yb,7,U⟩=Y (V Z yj.tm):=Qp.at_.c 7
      have b1:au wr ⟨M (R w1),1,U⟩=Y (V Z z.t):=aJ uq 1
      have b2:au wr ⟨M (R w1),2,U⟩=Y (V Z z.s):=aJ uq 2
      obtain⟨da,dc,Hf,Yh⟩:=apN Qp.at_.ik
      have Ep:(sS yj z j nv i).D.length=O yj.D:=ap4 AU
      rw[Ep]at Hf Yh
      have KR:yj.dv=.slice da (O yj.D) dc:=Hf
      unfold cZ at Yh
      rw[KR]at cD
      have RW:I (bI wr B 204 4 (.slice da (O yj.D) dc) (sS yj z j nv i).D.length<|(sS yj z j nv i).D.flatMap Du.cs):=by rw[<-KR];exact Qp.at_.ik
      have DV:I (yj.dv=.slice da (O yj.D) dc):=KR
      clear Qp uq Hf KR
      by_cases mW:i<O yj.D
      ·obtain⟨g,rfl,zk,QO⟩:=apO RW.o (k:=i) (by rw[Ep];exact mW)
       rw[Ep]at QO
       obtain⟨d,hd⟩:∃d,yj.D[i]? =Y d:=⟨_,gG mW⟩
       have XT:I (yj.D[i]? =Y d):=hd
       obtain⟨r0,r1,r2,r3⟩:=Xm RW.o<|aiP hd
       have hgb:=PR.o.du d<|iO hd
       have lU:(i:Int)<(O yj.D:Int):=by omega
       have hKb:=PR.o.K
       clear hd
       have hfc:(decide (1<z.s)=ah/\d.yE z j yj.tm=ah)\/(1<z.s/\(d.p==(j:Int))=ah/\d.yE z j yj.tm=ah)\/(1<z.s/\(d.p==(j:Int))=A/\decide (d.t<=yj.tm)=ah/\d.yE z j yj.tm=ah)\/(1<z.s/\(d.p==(j:Int))=A/\d.t<=yj.tm/\d.yE z j yj.tm=A):=by
        unfold Du.yE;by_cases g1:1<z.s
        ·by_cases g2:d.p=(j:Int)
         ·by_cases g3:d.t<=yj.tm
          ·exact .inr<|.inr<|.inr ⟨g1,by simpa using g2,g3,by simp[g1,g2,g3]⟩
          ·exact .inr<|.inr<|.inl ⟨g1,by simpa using g2,jr g3,by simp[g3]⟩
         ·exact .inr<|.inl ⟨g1,by simpa using g2,by simp[g2]⟩
        ·exact .inl ⟨jr g1,by simp[g1]⟩
       rcases hfc with⟨f1,ff⟩|⟨f1,f2,ff⟩|⟨f1,f2,f3,ff⟩|⟨f1,f2,f3,ff⟩
       ·go_wp2_with fail
        go_quiet (fail)
        go_wp2
        go_roundw
        case rel=>exact⟨i+1,nv,by omega,by go_num,by rw[ajH XT.o ff];exact MI.o.a<|(aQ _).drewN _,((aQ _).block _ Eo id).t BX.o⟩
        case measure=>simp[bM]<;>omega
       ·go_wp2_with fail
        go_quiet (fail)
        go_wp2
        go_roundw
        case rel=>exact⟨i+1,nv,by omega,by go_num,by rw[ajH XT.o ff];exact MI.o.a<|(aQ _).drewN _,((aQ _).block _ Eo id).t BX.o⟩
        case measure=>simp[bM]<;>omega
       ·go_wp2_with fail
        go_quiet (fail)
        go_wp2
        go_roundw
        case rel=>exact⟨i+1,nv,by omega,by go_num,by rw[ajH XT.o ff];exact MI.o.a<|(aQ _).drewN _,((aQ _).block _ Eo id).t BX.o⟩
        case measure=>simp[bM]<;>omega
       ·go_wp2_with fail
        go_quiet (fail)
        go_wp2_with
         ((go_at_call 145;refine(ahK (MI.o.at_.a<|(aQ _).drewN _) ⟨1,d.q,j,z.t,z.s==2⟩).z ?_;rintro e w5 ⟨rfl,hs5⟩
           obtain⟨XR,uG⟩:=hs5.going<|MI.o.at_.a<|(aQ _).drewN _
           have M5:I (dG wr w5 B yb (sS yj z j nv i)<|(sS yj z j nv i).dV XR<|oP (sS yj z j nv i).N ⟨1,d.q,j,z.t,z.s==2⟩):=uG.behind<|(aQ _).drewN _
           have x5:w5.heap[M (R wr)]? =Y (aC #[V Z d.p,V Z d.q,V Z d.t,V Z d.g] 204 (0,0)):=(uG.fr.block _ (by simp[World.drewN]) (λe=>by have:=(MI.o.at_.lZ e).1;omega)).t<|heap_alloc_new _ _
           have X5:I (w5.heap[M (R wr)]? =Y (aC #[V Z d.p,V Z d.q,V Z d.t,V Z d.g] 204 (0,0))):=x5
           have z5:w5.heap[M (R w1)]? =Y (aC #[V Z z.e,V Z z.t,V Z z.s,.slice va (O z.ps) vc] 157 (0,0)):=(M5.o.fr.block _ Eo (λe=>by
            have t:=lM BX.o;rcases MI.o.at_.Js e with t2|t2|t2|t2|t2|t2|⟨t2,_⟩|t2|t2<;>(rw[t]at t2;cases t2))).t BX.o
           have Z5:I (w5.heap[M (R w1)]? =Y (aC #[V Z z.e,V Z z.t,V Z z.s,.slice va (O z.ps) vc] 157 (0,0))):=z5
           have p0:au w5 ⟨M (R wr),0,U⟩=Y (V Z d.p):=aJ x5 0
           have p1:au w5 ⟨M (R wr),1,U⟩=Y (V Z d.q):=aJ x5 1
           have p2:au w5 ⟨M (R wr),2,U⟩=Y (V Z d.t):=aJ x5 2
           have p3:au w5 ⟨M (R wr),3,U⟩=Y (V Z d.g):=aJ x5 3
           have pf:∀o,w5.frozen? ⟨M (R wr),o,U⟩=false:=gJ x5
           have q7:au w5 ⟨yb,7,U⟩=Y (V Z yj.tm):=uG.at_.c 7
           have q3:au w5 ⟨yb,3,U⟩=Y (V Z yj.K):=uG.at_.c 3
           have q10:au w5 ⟨yb,10,U⟩=Y yj.dv:=uG.at_.c 10
           rw[DV.o]at q10
           have rw5:=uG.at_.ik
           have ajI:bI w5 B 204 4 (aP (Y ⟨g,0,U⟩) (O yj.D) dc) (sS yj z j nv i).D.length ((sS yj z j nv i).D.flatMap Du.cs):=by rw[<-DV.o];exact rw5
           obtain⟨s0,s1,s2,s3⟩:=Xm ajI<|aiP XT.o
           have hg5:g<M (R w5):=gZ zk M5.o.fr.size
           have hx5:=bF x5
           have hy5:=bF uG.at_.blk
           have gf:∀o,w5.frozen? ⟨g,o,U⟩=false:=aFR ajI
           have n1:M (R wr)≠yb:=by omega
           have n2:g≠wr.heap.size:=by omega
           have n3:g≠yb:=λe=>by
            have t1:=ig uG.at_.ik (k:=g) (by show yj.dv.ownBlock=Y g;rw[DV.o];rfl);rw[e,lM uG.at_.blk]at t1;cases t1
           have NG:I (M (R w1)≠g):=λe=>by
            have t1:=ig uG.at_.ik (k:=g) (by show yj.dv.ownBlock=Y g;rw[DV.o];rfl);rw[<-e,lM z5]at t1;cases t1
           clear hs5 uG x5 z5 rw5 ajI))
        go_region
        all_goals
         go_wp2_with fail
         go_quiet (fail)
         by_cases hk:yj.K<2*d.g
         ·have e3:((((aZ w5 ⟨M (R wr),2,U⟩<|.int .i64<|yj.tm+d.g).setCell ⟨M (R wr),3,U⟩<|.int .i64<|2*d.g).drewN<|1+nq).setCell ⟨M (R wr),3,U⟩<|V Z yj.K).cell? ⟨M (R wr),3,U⟩=Y (V Z yj.K):=
           (aJ (eX (w:=((aZ w5 ⟨M (R wr),2,U⟩<|.int .i64<|yj.tm+d.g).setCell ⟨M (R wr),3,U⟩<|.int .i64<|2*d.g).drewN<|1+nq) ((((Fr.refl (λ_=>False)<|(aZ w5 ⟨M (R wr),2,U⟩<|.int .i64<|yj.tm+d.g).setCell ⟨M (R wr),3,U⟩<|.int .i64<|2*d.g).drewN<|1+nq).block (M (R wr)) (by simp<;>omega) id).t<|eX (eX X5.o 2 _) 3 _) 3<|V Z yj.K) 3).t J
          go_wp2_with fail
          go_region
          all_goals
           go_wp2
           have fB:Fr (λk=>k=M (R wr)) w5 ((((aZ w5 ⟨M (R wr),2,U⟩<|.int .i64<|yj.tm+d.g).setCell ⟨M (R wr),3,U⟩<|.int .i64<|2*d.g).drewN<|1+nq).setCell ⟨M (R wr),3,U⟩<|V Z yj.K):=((((Fr.refl (λk=>k=M (R wr)) w5).setCell (p:=⟨M (R wr),2,U⟩) (.inl J) _).setCell (p:=⟨M (R wr),3,U⟩) (.inl J) _).drewN _).setCell (p:=⟨M (R wr),3,U⟩) (.inl J) _
           have this:=(arP MI.o M5.o X5.o fB DV.o XT.o ff).a<|eH.drew
           have that:=aFT (i:=i) (g:=g) fB Z5.o (by omega) NG.o (d:=⟨d.p,d.q,yj.tm+d.g,yj.K⟩)
           rw[if_pos<|by omega]at this
           unfold Iw at this that
           refine⟨⟨i+1,XR,by omega,by go_num,?_,?_⟩,by simp[bM]<;>omega⟩
           ·with_reducible exact this
           ·with_reducible exact that
         ·have gI:decide (yj.K<2*d.g)=false:=jr hk
          go_wp2_with fail
          go_region
          all_goals
           go_wp2
           have fB:Fr (λk=>k=M (R wr)) w5 (((aZ w5 ⟨M (R wr),2,U⟩<|.int .i64<|yj.tm+d.g).setCell ⟨M (R wr),3,U⟩<|.int .i64<|2*d.g).drewN<|1+nq+1):=(((Fr.refl (λk=>k=M (R wr)) w5).setCell (p:=⟨M (R wr),2,U⟩) (.inl J) _).setCell (p:=⟨M (R wr),3,U⟩) (.inl J) _).drewN _
           have this:=arP MI.o M5.o X5.o fB DV.o XT.o ff
           have that:=arQ (i:=i) (g:=g) fB Z5.o (by omega) NG.o (d:=⟨d.p,d.q,yj.tm+d.g,2*d.g⟩)
           rw[if_neg<|by omega]at this
           unfold Iw at this that
           refine⟨⟨i+1,XR,by omega,by go_num,?_,?_⟩,by simp[bM]<;>omega⟩
           ·with_reducible exact this
           ·with_reducible exact that
      ·obtain rfl:i=O yj.D:=by omega
       go_wp2_with fail
       go_roundw
       case rel=>
        refine⟨j+1,_,by omega,by go_num,.succ TT.o<|.rem HJ.o (by rw[HZ.o];exact HNO.o) nv,?_⟩
        rw[HZ.o,<-aFU]
        exact MI.o
       case measure=>simp[bM]<;>omega
  ·go_wp2
   go_ret
   have e:j=y.P.toNat:=by rw[PP.o];omega
   exact⟨A,yj,J,.all<|e▸TT.o,MV.o⟩
end
end
section
section
variable{w w' B yb y}
def Nz.goes{m}(hh:aY w B yb y)(s:Nz w w' B yb y m):∃H,dG w w' B yb y (y.dV H<|oP y.N m):=by cases s with|lost hl f=>refine⟨y.nv,?_⟩;rw[show oP y.N m=y.N by simp[oP,hl]];exact(dG.refl hh).a f|dV hl H mv _=>refine⟨H,?_⟩;rw[show oP y.N m=y.N++[m]by rw[oP,if_neg YV]];exact mv
end
end
section
section
variable{w w' B yb}{y:RS}
def aGj.dV(H:y.iH)(nv l):(y.dV nv l).iH:=⟨H.ok,H.arg,H.lL,H.lD,H.tm⟩
variable{k q:Nat}{m}
def aGk(h:aY w B yb y)(hF:y.iH)(Ah:O y.N<=100)(hD:O y.D<=24)(H:y.N[k]? =Y m)(BU:m.k=2)(hO:2<=(aF y.L m.p).s->(⟨4,m.p,0,(aF y.L m.p).t⟩:Rc).Ok):aH aj 82 #[ak yb,k] w λr w'=>r=V Z 0/\∃nv y',zJ (y.dV nv<|y.N.eraseIdx k) m y'/\dG w w' B yb y y'/\dG w w' B yb y y':=by have HH:=aQe h;have HF:=aQe hF;have HK:=aQe H;have HD:=aQe hD;have HO:=aQe hO;have Bi:=aQe Ah;have qJ:=(List.getElem?_eq_some_iff.mp H).1;have HM:I (decide ((0:Int)<=k/\(k:Int)<=(y.N:Int)-1)=A):=iC YV;have kQ:w (yb,14)=y.nv:=h.c 14;have⟨g,cap,e,hg,oH,kX,_⟩:=DU h.kL H;unfold cZ at kX;rw[e]at kQ;have aO:=bF h.blk;(have ek:(m.k==2)=true:=by simpa using BU);clear h H e Ah hF hD hO BU;go_enter func82,ntmps82;go_wp2_with (first|(go_at_call 72;apply(jS _ _ _ _).z;rw[HM];rintro e w1 ⟨rfl,rfl⟩)|(go_at_call 142;apply(adM HH Bi HK).z;rintro e w2 ⟨rfl,nv,JO,_⟩;have M2:=aQe JO;clear JO)|(go_at_call 143;apply(apQ (M2.at_.a<|aQ _) (aGj.dV HF _ _) m HD HO).z;rintro e w3 ⟨rfl,y3,Q3,Au⟩;have Y3:=aQe Q3;have M3:=aQe<|M2.t<|Au.behind<|aQ _;clear Q3 Au));go_ret;exact⟨J,nv,y3,Y3,M3,M3⟩
def aGl(h:aY w B yb y)(Ah:O y.N<=100)(H:y.N[k]? =Y m)(BU:m.k=1)(hq:m.q=(q:Int))(ho:y.aPW[q]? =A):aH aj 82 #[ak yb,k] w λr w'=>r=V Z 0/\∃nv,dG w w' B yb y (y.dV nv<|y.N.eraseIdx k):=by have HH:=aQe h;have HK:=aQe H;have HQ:=aQe hq;have HO:=aQe ho;have Bi:=aQe Ah;have qJ:=(List.getElem?_eq_some_iff.mp H).1;have HM:I (decide ((0:Int)<=k/\(k:Int)<=(y.N:Int)-1)=A):=iC YV;have kQ:w (yb,14)=y.nv:=h.c 14;have⟨g,cap,e,hg,oH,kX,_⟩:=DU h.kL H;unfold cZ at kX;rw[e]at kQ;have aO:=bF h.blk;(have ek:(m.k==2)=false:=by rw[BU];rfl);clear h H e Ah hq ho BU;go_enter func82,ntmps82;go_wp2_with (first|(go_at_call 72;apply(jS _ _ _ _).z;rw[HM];rintro e w1 ⟨rfl,rfl⟩)|(go_at_call 142;apply(adM HH Bi HK).z;rintro e w2 ⟨rfl,nv,JO,_⟩;have M2:=aQe JO;clear JO)|(go_at_call 144;apply(apL (M2.at_.a<|aQ _) HO m HQ).z;rintro e w3 ⟨rfl,iL⟩;have M3:=aQe<|M2.a<|(aQ _).t iL dA;unfold DZ;clear iL));go_ret;exact⟨J,nv,M3.a<|aQ _⟩
def aGm(h:aY w B yb y)(nI:lN y.G)(Ah:O y.N<=100)(hk:y.N[k]? =Y m)(BU:m.k=1)(hq:m.q=(q:Int))(ho:y.aPW[q]? =ah){g}(hg:y.G[q]? =Y g)(hb:(O g.L+1)*40<=2^47):aH aj 82 #[ak yb,k] w λr w'=>r=V Z 0/\∃H u' Qo,dG w w' B yb y (((y.dV H<|y.N.eraseIdx k).jZ q ⟨g.yb,u',qW g.L m.p m.t m.c⟩).dV Qo<|oP (y.N.eraseIdx k) ⟨2,m.q,m.p,m.t,m.c⟩)/\lN (y.jZ q ⟨g.yb,u',qW g.L m.p m.t m.c⟩).G:=by have HH:=aQe h;have DW:=aQe nI;have HK:=aQe hk;have HQ:=aQe hq;have HO:=aQe ho;have HG:=aQe hg;have HB:=aQe hb;have Bi:=aQe Ah;have qJ:=(List.getElem?_eq_some_iff.mp hk).1;have HM:I (decide ((0:Int)<=k/\(k:Int)<=(y.N:Int)-1)=A):=iC YV;have kQ:w (yb,14)=y.nv:=h.c 14;obtain⟨ng,cap,e,AP,oH,kX,_⟩:=DU h.kL hk;unfold cZ at kX;rw[e]at kQ;have aO:=bF h.blk;(have ek:(m.k==2)=false:=by rw[BU];rfl);clear h hk e Ah hq ho nI hg hb BU;go_enter func82,ntmps82;go_wp2_with (first|(go_at_call 72;refine(jS _ _ _ _).z ?_;rw[HM];rintro e w1 ⟨rfl,rfl⟩)|(go_at_call 142;refine(adM HH Bi HK).z ?_;rintro e w2 ⟨rfl,H,JO,_⟩;have M2:I (dG w w2 B yb y<|y.dV H<|y.N.eraseIdx k):=JO;clear JO)|(go_at_call 144;refine(apM (M2.at_.a<|aQ _) DW HO HG m HQ HB).z ?_;rintro e w3 ⟨rfl,u',Au,ga3⟩;have M3:I (dG w w3 B yb y<|(y.dV H<|y.N.eraseIdx k).jZ q ⟨g.yb,u',qW g.L m.p m.t m.c⟩):=M2.t<|Au.behind<|aQ _;have G3:I (lN (y.jZ q ⟨g.yb,u',qW g.L m.p m.t m.c⟩).G):=ga3;unfold DZ;clear Au ga3)|(go_at_call 145;refine(ahK (M3.at_.a<|aQ _) ⟨2,m.q,m.p,m.t,m.c⟩).z ?_;rintro e w4 ⟨rfl,hs4⟩;obtain⟨nv4,Jz⟩:=hs4.goes<|M3.at_.a<|aQ _;have M4:I (dG w w4 B yb y<|((y.dV H<|y.N.eraseIdx k).jZ q ⟨g.yb,u',qW g.L m.p m.t m.c⟩).dV nv4<|oP (y.N.eraseIdx k) ⟨2,m.q,m.p,m.t,m.c⟩):=M3.t<|Jz.behind<|aQ _;clear hs4 Jz));go_ret;exact⟨J,H,u',nv4,M4,G3⟩
end
end
section
structure aGn(aPT F':Nat->Prop)(wb:Nat)(w w':ae):Prop where
 fr:Fr (λk=>aPT k/\k≠wb) w w'
 sub:∀k,F' k->aPT k\/M (R w)<=k
 hw:F' wb
 lt:∀k,F' k->k<M (R w')
section
variable{w B aPT wb xb yb bb n o}
def jw.nM{w' F'}(h:jw w B aPT wb xb yb bb n o)(t:aGn aPT F' wb w w'):jw w' B F' wb xb yb bb n o:=⟨(t.fr.block wb (bF h.blk) λe=>e.2 J).t h.blk,t.hw,h.book.stay t.fr (λk a b=>h.ap k a.1<|.inl b) (λq hq k hk a=>h.ap k a.1<|.inr ⟨q,hq,hk⟩),λk H ha=>by rcases t.sub k H with a|a;{exact h.ap k a ha};have:=(h.book.Pj ha).1;omega,t.lt,λk H=>by rcases t.sub k H with a|a;{exact h.fB k a};have:=h.base;omega,h.ci,h.ce,h.cr,h.Ij⟩
end
end
section
variable{w:ae}{B B' yb:Nat}
def aG.base{xb n h}(H:aG w B xb n h)(hB:B'<=B):aG w B' xb n h:=⟨H.blk,sD H.pG hB,sD H.qK hB,sD H.tC hB,λp hp=>(H.dO p hp).base hB,dX hB H.hx,H.hP,H.hQ,H.h6⟩
def iU.base{u L}(h:iU w B yb u L)(H:B'<=B):iU w B' yb u L:=⟨h.blk,sD h.row H,dX H h.hy⟩
def aY.base{y}(h:aY w B yb y)(H:B'<=B):aY w B' yb y:=⟨h.blk,sD h.tH H,sD h.ik H,sD h.heard H,sD h.dO H,sD h.outs H,sD h.kL H,λg hg=>(h.refs g hg).base H,dX H h.hy,h.hP,h.hQ⟩
def ar7(w){P Q T K}(h:¬Good P Q T K):aH aj 11 #[gU P Q T K] w λr w'=>r=dZ #[ak U,A]/\Fr aB w w':=by have HG:=aQe h;clear h;unfold gU;go_enter func11,ntmps11;go_wp2_with (first|(go_at_call 31;apply(show aH _ 31 _ _ _ from ayS _ HG).z;rintro e w1 ⟨rfl,H⟩;(have F1:=aQe<|(aQ _).t H Zv);have k0:=Fr.box H id 0;have k1:=Fr.box H id 1;have k2:=Fr.box H id 2;have k3:=Fr.box H id 3)|(go_at_call 32;apply(show aH _ 32 _ _ _ from azm _ HG).z;rintro e w2 ⟨rfl,bJ⟩;have F2:=aQe<|F1.t bJ Zv));go_ret2;exact⟨J,F2⟩
structure JP(w w':ae)(wb xb yb bb:Nat)(h:HS)(y:RS)(o:jY):Prop where
 fresh:aom w' (M (R w)) xb yb h y A
 iK:jw w' (M (R w)) (Ag wb xb yb h y) wb xb yb bb 0 o
 l7:¬h.dJ xb wb
 mO:¬y.dJ yb wb
 fr:Fr aB w w'
 apx:mP h.pl
 apy:lN y.G
 free:h.br=ah/\h.kp=0/\y.br=ah/\y.D=[]/\y.tm=0/\h.T=y.T/\h.K=y.K/\h.jb=[]
 heard:∀x∈y.H,x=0
 cK:1<=h.K/\h.K<=16
 cT:1<=h.T/\h.T<=50
def book0:jY:=⟨aP U 0 0,aP U 0 0,aP U 0 0,[],[],[]⟩
variable{p q:Nat}{K:Int}
def begun{w1 w2 T xb pv hv ov gv pl G} (h1:aG w1 (w.alloc<|aC #[p,q,V Z T,K] 23).heap.size xb 0 (Il p q T K pv pl).Gm)(n1:∀x∈pl,x.s=KN/\x.out=ah)(f1:Fr aB (w.alloc<|aC #[p,q,T,K] 23) w1) (h2:aY w2 w1 yb (DT p q T K (List.replicate p 0) (List.replicate q ah) hv ov gv G))(n2:∀g∈G,g.L=[])(f2:Fr aB w1 w2)(a1:mP pl)(a2:lN G)(H:1<=K/\K<=16)(ht:1<=T/\T<=50):JP w ((w2.alloc<|aC #[aP U 0 0,aP U 0 0,aP U 0 0] 84).alloc<|aC #[ptr xb,ptr yb,ptr w2] 37) (w2+1) xb yb w2 (Il p q T K pv pl).Gm (DT p q T K (List.replicate p 0) (List.replicate q ah) hv ov gv G) book0:=by
 have z1:w<=(w.alloc<|aC #[p,q,T,K] 23).heap.size:=(aQ _).size;have z2:=f1.size;have z3:=f2.size;have FF:Fr aB w2 ((w2.alloc<|aC #[aP U 0 0,aP U 0 0,aP U 0 0] 84).alloc<|aC #[ptr xb,ptr yb,ptr w2] 37):=(aQ _).alloc _;have xC:=(h1.a f2).base z1;have zT:aY w2 w yb _:=h2.base YV;have hF:∀k,(Il p q T K pv pl).Gm.dJ xb k\/(DT p q T K _ _ hv ov gv G).dJ yb k->k<w2/\w<=k:=λk H=>by rcases H with H|H;{exact xC.lZ H};exact zT.lZ H
 have fresh:aom _ _ xb yb _ _ _:=⟨xC.a FF,zT.a FF,J,J,J,J,J,J,n1,J,J,J,n2,λo ho=>List.eq_of_mem_replicate ho,J,J⟩;refine⟨fresh,⟨rM _ Xy,.inl J,⟨((aQ _).block _ Xy id).t<|heap_alloc_new _ _,⟨aQS _ _ _ _,λo ho=>by simp[book0]at ho⟩,⟨aQS _ _ _ _,λo ho=>by simp[book0]at ho⟩,⟨aQS _ _ _ _,λo ho=>by simp[book0]at ho⟩,YV⟩,?_,?_,?_,by simp[book0],by simp[book0],by simp[book0],λq hq=>by simp[book0]at hq⟩,?_,?_,?_,a1,a2,⟨J,J,J,J,J,J,J,J⟩,λx hx=>List.eq_of_mem_replicate hx,H,ht⟩;any_goals grind
 {intro k H ha;(have jH:k=w2:=by rcases ha with(ha|ha|ha|ha)|⟨q,hq,_⟩;{exact ha};{simp[book0,Value.ownBlock]at ha};{simp[book0,Value.ownBlock]at ha};{simp[book0,Value.ownBlock]at ha};simp[book0]at hq);rcases H with H|H;{omega};grind};{intro k H;rcases H with H|H;{simp_all};have:=(hF k H).1;simp<;>omega};{intro k H;rcases H with H|H;{omega};grind};{exact(((aQ _).t f1 Zv).t f2 Zv).t FF Zv}
def aeS(w){T}(h:Good p q T K):aH aj 11 #[gU p q T K] w λr w'=>∃wb xb yb bb hs y o,r=dZ #[ptr wb,A]/\JP w w' wb xb yb bb hs y o:=by have HG:=aQe h;clear h;unfold gU;go_enter func11,ntmps11;go_wp2_with (first|(go_at_call 31;apply(show aH aj 31 #[gU p q T K] _ _ from ayV _ HG).z;rintro e w1 ⟨xb,pv,pl,rfl,mV,uU,uf,H⟩;have k0:=Fr.box (S:=λ_=>False) H id 0;have k1:=Fr.box (S:=λ_=>False) H id 1;have k2:=Fr.box (S:=λ_=>False) H id 2;have k3:=Fr.box (S:=λ_=>False) H id 3;have F1:=aQe H;have X1:=aQe mV;have N1:=aQe uU;have A1:=aQe uf;clear H mV uU uf;unfold ptr)|(go_at_call 32;apply(show aH aj 32 #[gU p q T K] _ _ from azt _ HG).z;rintro e w2 ⟨yb,hv,ov,gv,G,rfl,zT,uV,J9,bJ⟩;have F2:=aQe bJ;have Y2:=aQe zT;have N2:=aQe uV;have A2:=aQe J9;clear bJ zT uV J9;unfold ptr));go_ret2;exact⟨_,_,_,_,_,_,_,J,begun X1 N1 F1 Y2 N2 F2 A1 A2 HG.2.2.2 HG.2.2.1⟩
end
section
structure fH(w:ae)(B xb yb N:Nat)(h:HS)(y:RS):Prop where
 xa:aG w B xb N h
 ya:aY w B yb y
 ax:mP h.pl
 ay:lN y.G
 an:∀k,h.fv.ownBlock=Y k->y.nv.ownBlock=Y k->False
 gK:eu N h y
structure tJ(w w':ae)(B xb yb:Nat)(h:HS)(y:RS)(N:Nat)(h':HS)(y':RS):Prop where
 to:fH w' B xb yb N h' y'
 fr:Fr (λk=>h.dJ xb k\/y.dJ yb k) w w'
 sub:∀k,h'.dJ xb k\/y'.dJ yb k->(h.dJ xb k\/y.dJ yb k)\/M (R w)<=k
 kL:y'.N=y.N
section
variable{w w' w2 w3:ae}{B xb yb N:Nat}{h h':HS}{y y':RS}
theorem fH.apart(b:fH w B xb yb N h y){k}(H:h.dJ xb k)(h2:y.dJ yb k):False:=azu b.xa b.ya b.an H h2
theorem fH.aW(b:fH w B xb yb N h y)(f:Fr (λk=>¬(h.dJ xb k\/y.dJ yb k)) w w'):fH w' B xb yb N h y:=
 {b with xa:=b.xa.stay f Zv,ya:=b.ya.stay f Zv}
variable{aPV n' f g i:Nat}{ax ay:Array ai}{a p:Int}{r:Rc}{ok BV cm:Bool}{x:PS}
theorem fH.z(b:fH w B xb yb N h y)(H:N<=aPV):fH w B xb yb aPV h y:={b with xa:=b.xa.z H,gK:=b.gK.z H}
def fH.Eb(b:fH w B xb yb N h y)(m:bW w w2 B xb N h n' h'):aY w2 B yb y:=b.ya.stay m.fr λ_ e H=>b.apart e H
def fH.join(b:fH w B xb yb N h y)(m:bW w w2 B xb N h n' h')(ym:dG w2 w3 B yb y y')(hx:mP h'.pl)(hy:lN y'.G)(TZ:h'.fv=h.fv)(hnv:y'.nv=y.nv)(Ha:y'.N=y.N)(hM:n'<=aPV)(H:eu aPV h' y'):tJ w w3 B xb yb h y aPV h' y':=by have aO:∀k,y.dJ yb k->k<w:=λk H=>(b.ya.lZ H).1;refine⟨⟨(m.at_.stay ym.fr λk e hf=>?_).z hM,ym.at_,hx,hy,(by grind[cases fH]),H⟩,?_,λk H=>?_,Ha⟩;{grind[cases bW,fH.apart]};{exact(m.fr.z Zv).t ym.fr Zv};rcases H with H|H;{grind[cases bW]};rcases ym.sub k H with a|a;{grind};exact .inr<|dX m.fr.size a
def fH.still(b:fH w B xb yb N h y)(f:Fr aB w w'):tJ w w' B xb yb h y N h y:=⟨b.aW<|f.z Zv,f.z Zv,Zv,J⟩
theorem tJ.z(t:tJ w w' B xb yb h y N h' y')(H:N<=aPV):tJ w w' B xb yb h y aPV h' y':={t with to:=t.to.z H}
def lS(f g:Nat)(ax ay:Array ai)(xb yb:Nat)(h:HS)(y:RS)(w:ae)(post:ai->ai->ae->Prop):Prop:=aH aj f ax w λe w2=>∃r,e=aU r/\Fr (λk=>h.dJ xb k\/y.dJ yb k) w w2/\∀W,Fr aB w2 W->aH aj g ay W λe w3=>∃H,e=aU H/\post r H w3
def Ec(B xb yb:Nat)(h:HS)(y:RS)(N:Nat)(w:ae)(r H:ai)(w':ae):Prop:=(∃a,r=V Z a/\H=a)/\∃h' y',tJ w w' B xb yb h y N h' y'
def aeT(B xb yb:Nat)(h:HS)(y:RS)(N:Nat)(w:ae)(r H:ai)(w':ae):Prop:=(∃a c,r=dZ #[V Z a,V Z c]/\H=dZ #[a,c])/\∃h' y',tJ w w' B xb yb h y N h' y'
def fH.y7(b:fH w B xb yb N h y)(hx:aH aj f ax w λe w'=>e=a/\Fr aB w w')(hy:∀w2,aY w2 B yb y->aH aj g ay w2 λe w'=>e=a/\Fr aB w2 w'):lS f g ax ay xb yb h y w (Ec B xb yb h y (N+1) w):=hx.z λ_ w2 ⟨h1,H⟩=>⟨_,h1,H.z Zv,λW fW=>(hy W<|b.ya.a<|H.t fW Zv).z λ_ w3 ⟨k1,k2⟩=>⟨_,k1,Zv,h,y,(b.still<|(H.t fW Zv).t k2 Zv).z YV⟩⟩
def fH.ajN(b:fH w B xb yb N h y){c}(hx:aH aj f ax w λe w'=>e=dZ #[a,V Z c]/\Fr aB w w')(hy:∀w2,aY w2 B yb y->aH aj g ay w2 λe w'=>e=dZ #[a,c]/\Fr aB w2 w'):lS f g ax ay xb yb h y w (aeT B xb yb h y (N+1) w):=hx.z λ_ w2 ⟨h1,H⟩=>⟨_,h1,H.z Zv,λW fW=>(hy W<|b.ya.a<|H.t fW Zv).z λ_ w3 ⟨k1,k2⟩=>⟨_,k1,Zv,h,y,(b.still<|(H.t fW Zv).t k2 Zv).z YV⟩⟩
def tK{v}(H:aH aj f ax w λe w'=>e=aU v/\w=w'):aH aj f ax w λe w'=>e=v/\Fr aB w w':=H.z (by grind[Fr.refl])
theorem jy.same(H:jy h r ok h'):h'.pl=h.pl/\h'.fv=h.fv:=by cases H<;>exact⟨J,J⟩
theorem jy.agree{H}(ho:jy h r ok h')(hy:ni y H BV y')(hb:h.br=y.br):ok=BV:=by grind[cases jy,cases ni]
def jy.ajO(ho:jy h r ok h')(hy:Bh y p cm BV y')(hb:h.br=y.br):ok=BV:=by grind[cases Bh,cases jy,jy.agree]
def ni.kL(H:ni y r ok y'):y'.N=y.N:=by cases H<;>rfl
def Bh.kL(hy:Bh y p cm ok y'):y'.N=y.N:=by cases hy with|ok lv dv H=>rfl|lC H=>exact H.kL
theorem Bh.rest(hy:Bh y p cm ok y'):y'.nv=y.nv/\y'.G=y.G:=by cases hy with|ok lv dv H=>exact⟨J,J⟩|lC H=>exact⟨H.rest.2.2.2.2.1,H.rest.2.2.2.2.2⟩
def fH.ajP(b:fH w B xb yb N h y)(c:Core N h y [])(u:kR h y)(hn:Next h.P h.Q y.L r)(h4:r.k=4->∀(q:Nat) p,h.pl[q]? =Y p->∀t,p.s.nw r.p≠Y (t,A))(ho:jy h r ok h')(bn:bW w w2 B xb N h N h')(H:ni y r ok y')(ui:dG w2 w3 B yb y y')(hk:ok=A->eu (N+1) h' y'):tJ w w3 B xb yb h y (N+1) h' y':=by apply b.join bn ui (by rw[ho.same.1];exact b.ax) (by rw[H.rest.2.2.2.2.2];exact b.ay) ho.same.2 H.rest.2.2.2.2.1 H.kL YV;grind[aiE]
def fH.ajQ(b:fH w B xb yb N h y)(c:Core N h y [])(u:kR h y)(hn:Next h.P h.Q y.L (gX y p cm))(ho:jy h (gX y p cm) ok h')(bn:bW w w2 B xb N h N h')(H:Bh y p cm ok y')(ui:dG w2 w3 B yb y y'):tJ w w3 B xb yb h y (N+1) h' y':=by apply b.join bn ui (by rw[ho.same.1];exact b.ax) (by rw[H.rest.2];exact b.ay) ho.same.2 H.rest.1 H.kL YV;cases ok;{cases H with|lC h2=>exact aiE c u hn (λe=>by simp[gX]at e) ho h2};exact apH c u b.xa.h6 hn ho H
def fH.prod(b:fH w B xb yb N h y)(c:Core N h y [])(u:kR h y)(hi:(i:Int)<h.P):∃x hi,h.ps[i]? =Y x/\y.H[i]? =Y hi/\jk (aF y.L i) y.D y.tm hi i x:=by
 have h6:=b.xa.h6;have hP:=c.P1.2;have hl:=c.hl;have h1:i<h.ps:=YV
 have h2:i<y.H:=YV
 exact⟨_,_,gG h1,gG h2,u.rel i _ _ Zv Zv⟩
def ar8(cm:Bool)(ht:x.t=(aF y.L i).t):(⟨3,i,if cm then 1 else 0,x.t⟩:Rc)=gX y i cm:=by rw[ht];rfl
def Core.ar9(_c:Core N h y [])(H:(i:Int)<h.P)(hs:(aF y.L i).s=1)(cm):Next h.P h.Q y.L (gX y i cm):=⟨by show 0<=(i:Int);omega,H,.inr<|.inr<|.inl ⟨J,by cases cm<;>simp[gX],hs,J⟩⟩
def fH.init(b:fH w B xb yb N h y)(hN:N<=90000000)(m):lS 74 75 #[ptr xb,V Z m] #[ptr yb,m] xb yb h y w (aeT B xb yb h y (N+1) w):=by have⟨tl,c0⟩:=b.gK.core;by_cases hm:0<=m/\m<h.P;{obtain⟨i,rfl⟩:=lW hm.1;(have oG:0<=(i:Int)/\(i:Int)<=y.P-1:=by rw[c0.P];omega);rcases b.gK with⟨c,u⟩|⟨tl,c,d⟩;{have⟨x,hi,hx,hh,hr⟩:=b.prod c u hm.2;have hf:=c.valid.pY i;have AQ:=hf.s0;have zo:=hf.s1;have rV:=c.pY YV;have AA:=hr.s;rcases(show(aF y.L i).s=0\/(aF y.L i).s=1\/(aF y.L i).s=2\/(aF y.L i).s=3 by omega)with e|e|e;{have hn:Next _ h.Q y.L ⟨1,i,0,x.e+1⟩:=⟨Zv,hm.2,(by grind[cases jk])⟩;(have uV:Next h.P h.Q y.L ⟨1,i,0,(aF y.L i).e+1⟩:=by rwa[<-hr.e]);refine(aBf b.xa hm.2 u.up hx YV<|c.may YV hn).z λe2 w2 hp=>?_;(have key:∀{ok:Bool} {h':HS} {W:ae},jy h _ ok h'->bW w W B xb N h N h'->aH _ 75 _ W λe w3=>∃r2,e=aU r2/\((∃a c,(if ok then dZ #[.int .i64<|x.e+1,V Z 0]else dZ #[V Z 0,V Z 5])=Value.tuple #[V Z a,V Z c]/\r2=dZ #[V Z a,V Z c])/\∃h' y',tJ w w3 B xb yb h y _ h' y'):=λ{ok h' W} ho H=>by refine(azy (b.Eb H) rV oG u.dn e<|c.ok YV uV).z λe3 w3 hq=>?_;rw[<-hr.e]at hq;cases hq with| @ok y' _ pg ui=>obtain rfl:=ho.agree pg u.br;exact⟨_,J,Zv,h',y',b.ajP c u hn Zv ho H pg ui λ_=>aB8 c u b.xa.h6 hn J ho pg⟩| @lC y' _ pg ui=>obtain rfl:=ho.agree pg u.br;exact⟨_,J,Zv,h',y',b.ajP c u hn Zv ho H pg ui Zv⟩);cases hp with| @ok h' _ ho H=>exact⟨_,J,H.fr.z Zv,λW fW=>key ho<|H.a fW⟩| @lC h' _ ho H=>exact⟨_,J,H.fr.z Zv,λW fW=>key ho<|H.a fW⟩};{have hn:=c.ar9 hm.2 e ah;have afS:=ar8 (y:=y) (i:=i) (x:=x) ah hr.t;simp at afS;have hb:=aBd b.xa hm.2 u.up hx YV (by grind[Core.may]);rw[afS]at hb;refine hb.z λe2 w2 hp=>?_;cases hp with| @mk ok h' _ ho H=>refine⟨_,J,H.fr.z Zv,λW fW=>?_⟩;replace H:=H.a fW;refine(azx (b.Eb H) rV oG u.dn e<|c.ok YV hn).z λe3 w3 hq=>?_;cases hq with| @mk BV y' _ pg ui=>obtain rfl:=ho.ajO pg u.br;exact⟨_,J,Zv,h',y',b.ajQ c u hn ho H pg ui⟩};{refine b.ajN (tK<|aBe b.xa hm.2 u.up hx YV) λw2 hy=>azl hy rV oG u.dn YV YV}};exact b.ajN (tK<|aBc b.xa hm d.up) λw2 hy=>tK<|azk hy oG d.dn};(have oG:¬(0<=m/\m<=y.P-1):=by rw[c0.P];omega);exact b.ajN (tK<|aBb b.xa hm) λw2 hy=>tK<|azj hy oG
def ajR(u:kR h y)(H:x.e=(aF y.L i).e)(ep):h.bars x ep=qA y.dn (aF y.L i).e ep:=by unfold HS.bars qA;rw[u.up,u.dn,H];grind
def fH.end_(b:fH w B xb yb N h y)(hN:N<=90000000)(m ep cm):lS 28 79 #[ptr xb,V Z m,V Z ep,aA cm] #[ptr yb,m,ep,cm] xb yb h y w (Ec B xb yb h y (N+1) w):=by have⟨tl,c0⟩:=b.gK.core;by_cases hm:0<=m/\m<h.P;{obtain⟨i,rfl⟩:=lW hm.1;(have oG:0<=(i:Int)/\(i:Int)<=y.P-1:=by rw[c0.P];omega);have rV:=c0.pY YV;rcases b.gK with⟨c,u⟩|⟨tl,c,d⟩;{have⟨x,hi,hx,hh,hr⟩:=b.prod c u hm.2;have hf:=c.valid.pY i;have AQ:=hf.s0;have zo:=hf.s1;have AA:=hr.s;have Md:=ajR u hr.e ep;by_cases uh:h.bars x ep=0;{(have nY:qA y.dn (aF y.L i).e ep=0:=YV);rcases(show(aF y.L i).s=0\/(aF y.L i).s=1\/(aF y.L i).s=2\/(aF y.L i).s=3 by omega)with e|e|e;{(have ht:rZ y i ep=8:=by unfold rZ;omega);refine b.y7 (tK<|aBh b.xa hm.2 hx uh YV cm) λw2 H=>?_;have:=adW H rV oG (ep:=ep) YV cm;rwa[ht]at this};{have hn:=c.ar9 hm.2 e cm;have afS:=ar8 cm hr.t;have hb:=aBj b.xa hm.2 hx uh YV cm (by grind[Core.may]);rw[afS]at hb;refine hb.z λe2 w2 hp=>?_;(have key:∀{ok:Bool} {h':HS} {W:ae},jy h _ ok h'->bW w W B xb N h N h'->aH _ 79 _ W λe w3=>∃r2,e=aU r2/\((∃a,(if ok then Value.int .i64 0 else V Z 5)=V Z a/\r2=a)/\∃h' y',tJ w w3 B xb yb h y _ h' y'):=λ{ok h' W} ho bn=>by refine(aAE (b.Eb bn) rV oG nY e cm<|c.ok YV hn).z λe3 w3 hq=>?_;cases hq with| @ok y' _ pg ui=>obtain rfl:=ho.ajO pg u.br;exact⟨_,J,Zv,h',y',b.ajQ c u hn ho bn pg ui⟩| @lC y' _ pg ui=>obtain rfl:=ho.ajO pg u.br;exact⟨_,J,Zv,h',y',b.ajQ c u hn ho bn pg ui⟩);cases hp with| @ok h' _ ho bn=>exact⟨_,J,bn.fr.z Zv,λW fW=>key ho<|bn.a fW⟩| @lC h' _ ho bn=>exact⟨_,J,bn.fr.z Zv,λW fW=>key ho<|bn.a fW⟩};(have ht:rZ y i ep=9:=by unfold rZ;omega);refine b.y7 (tK<|aBi b.xa hm.2 hx uh YV cm) λw2 H=>?_;have:=adW H rV oG (ep:=ep) YV cm;rwa[ht]at this};(have ht:rZ y i ep=h.bars x ep:=by unfold rZ;omega);refine b.y7 (tK<|apg b.xa hm.2 hx uh cm) λw2 H=>?_;have:=adW H rV oG (ep:=ep) YV cm;rwa[ht]at this};have h6:=b.xa.h6;have Jy:=c.P1.2;have hx:h.ps[i]? =h.ps[i]:=Zv;(have uh:h.bars h.ps[i] ep=5:=by unfold HS.bars;rw[if_pos d.up]);(have ht:rZ y i ep=5:=by unfold rZ qA;rw[d.dn];simp);have hb:=apg b.xa hm.2 hx (ep:=ep) YV cm;rw[uh]at hb;refine b.y7 (tK hb) λw2 H=>?_;have:=adW H rV oG (ep:=ep) YV cm;rwa[ht]at this};(have oG:¬(0<=m/\m<=y.P-1):=by rw[c0.P];omega);exact b.y7 (tK<|aBg b.xa hm ep cm) λw2 H=>tK<|aAD H oG ep cm
end
end
section
section
variable{w w' w2 w3 B xb yb N}{h h':HS}{y y'}
def fH.part(b:fH w B xb yb N h y){tl}(c:Core N h y tl){q:Nat}(hq:(q:Int)<h.pl):∃p g,h.pl[q]? =Y p/\y.G[q]? =Y g/\y.aPW[q]? =p.out/\Rel p.s g.L/\g.L<=N/\0<=(q:Int)/\(q:Int)<=y.Q-1/\(q:Int)<h.Q:=by
 have H:q<h.pl:=YV
 have h2:q<y.G:=by rwa[<-c.dO.len]
 have hQ:=b.xa.hQ.1;have:=c.dO.rel q _ _ (gG H)<|gG h2;grind[E5.out,cases Core]
def XW{s L}(H:Rel s L):s.es<=O L:=by rw[H.es];unfold lJ;grind
def asa{p q}(hp:¬(0<=p/\p<h.P)):h.oO p q=2:=by unfold HS.oO;omega
def asb{p q:Int}(hp:0<=p/\p<h.P)(hq:¬(0<=q/\q<h.pl)):h.oO p q=3:=by unfold HS.oO;omega
theorem fH.add(b:fH w B xb yb N h y)(hN:N<=90000000)(m ep q):lS 63 76 #[ptr xb,V Z m,V Z ep,V Z q] #[ptr yb,m,ep,q] xb yb h y w (Ec B xb yb h y (N+1) w):=by have⟨tl,c0⟩:=b.gK.core;by_cases hm:0<=m/\m<h.P;{obtain⟨i,rfl⟩:=lW hm.1;(have oG:0<=(i:Int)/\(i:Int)<=y.P-1:=by rw[c0.P];omega);(have abe:(i:Int)<y.P:=YV);have rV:=c0.pY YV;by_cases hq:0<=q/\q<h.pl;{obtain⟨qn,rfl⟩:=lW hq.1;have⟨p,g,hp,hg,nZ,yl,rE,oJ,lF,hqQ⟩:=b.part c0 hq.2;(have zI:qn<h.pl:=YV);rcases b.gK with⟨c,u⟩|⟨tl,c,d⟩;{have⟨x,hi,hx,hh,hr⟩:=b.prod c u hm.2;have hf:=c.valid.pY i;have AQ:=hf.s0;have zo:=hf.s1;have AA:=hr.s;have Md:=ajR u hr.e ep;by_cases uh:h.bars x ep=0;{(have nY:qA y.dn (aF y.L i).e ep=0:=YV);by_cases h2:1<(aF y.L i).s;{(have ht:JA y i ep p.out=9:=by unfold JA;omega);refine b.y7 (aBp b.xa hm.2 zI hx uh YV) λw2 hy=>?_;have:=adZ hy rV oG nZ (ep:=ep) YV;rwa[ht]at this};{cases zY:p.out with|true=>(have ht:JA y i ep A=10:=by unfold JA;grind);rw[zY]at nZ;refine b.y7 (aBq b.xa hm.2 hp zY hx uh YV) λw2 hy=>?_;have:=adZ hy rV oG nZ (ep:=ep) YV;rwa[ht]at this|false=>rw[zY]at nZ;(have zk:(O g.L+1)*40<=2^47:=YV);(have I9:N<maxLen:=by unfold cZ;omega);(have jP:qn<4:=by have:=c.Q1.2;omega);by_cases ht:x.bU.getD qn 0=0;{(have Jb:x.next=if(aF y.L i).s=0 then(aF y.L i).t+1 else(aF y.L i).t:=by unfold PS.next;rw[hr.s,hr.t]);have aGq:(aF y.L i).s=1->(qn:Int)∉(aF y.L i).ps:=(by grind[cases jk]);(have hn:Next h.P h.Q y.L ⟨2,i,qn,x.next⟩:=by refine⟨Zv,hm.2,.inr<|.inl ⟨J,⟨oJ,hqQ⟩,?_⟩⟩;grind);refine(aBu b.xa b.ax hm.2 hp zY hx uh YV ht I9<|c.may YV hn).z λe2 w2 hq=>?_;(have Qr:∀w2,aY w2 B yb y->aH aj 76 #[ptr yb,i,ep,qn] w2 (ad1 w2 B yb y i qn g x.next):=λw2 hy=>by rcases(show(aF y.L i).s=0\/(aF y.L i).s=1 by omega)with e|e;{rw[Jb,if_pos e]at hn⊢;exact aoZ hy rV b.ay abe hg nZ nY (.inl ⟨e,J⟩) (c.ok YV hn) zk};rw[Jb,if_neg YV]at hn⊢;exact aoZ hy rV b.ay abe hg nZ nY (.inr ⟨e,aGq e,J⟩) (c.ok YV hn) zk);cases hq with| @ok h1 v' _ ho H Ur=>(refine⟨_,J,(by grind[Fr.z,cases bW]),λW fW=>?_⟩;replace H:=H.a fW;refine(Qr W<|b.Eb H).z λe3 w3 oU=>?_;cases oU with| @ok y1 u' _ pg ui Q4=>exact⟨_,J,Zv,_,_,b.join H ui Ur Q4 ho.same.2 pg.rest.2.2.2.2.1 pg.kL YV<|aCe c u b.xa.h6 hm.2 hx hp hg hn YV ho pg⟩| @lC y' _ pg ui=>have:=ho.agree pg u.br;grind)| @lC h' _ ho H=>refine⟨_,J,(by grind[Fr.z,cases bW]),λW fW=>?_⟩;replace H:=H.a fW;refine(Qr W<|b.Eb H).z λe3 w3 oU=>?_;cases oU with| @ok y1 u' _ pg ui Q4=>have:=ho.agree pg u.br;grind| @lC y' _ pg ui=>exact⟨_,J,Zv,_,_,b.ajP c u hn Zv ho H pg ui Zv⟩};{have QQ:=(hr.ny qn).1;(have Ou:(aF y.L i).s=1:=by grind[cases jk,Xo]);have iy:=(hr.some YV qn jP).1 YV;refine(aBr b.xa b.ax hm.2 hp zY hx uh YV ht I9).z λe2 w2 hq=>?_;cases hq with| @mk v' _ H Ur=>refine⟨_,J,(by grind[Fr.z,cases bW]),λW fW=>?_⟩;replace H:=H.a fW;refine(aAM (b.Eb H) rV b.ay abe hg nZ nY Ou iy zk).z λe3 w3 oU=>?_;cases oU with| @mk u' _ ui Q4=>exact⟨_,J,Zv,_,_,b.join H ui Ur Q4 J J J YV<|by grind[aCb,cases jk]⟩}}};(have ht:JA y i ep p.out=h.bars x ep:=by unfold JA;omega);refine b.y7 (tK<|apk b.xa hm.2 zI hx uh) λw2 hy=>?_;have:=adZ hy rV oG nZ (ep:=ep) YV;rwa[ht]at this};have h6:=b.xa.h6;have Jy:=c.P1.2;have hx:h.ps[i]? =h.ps[i]:=Zv;(have uh:h.bars h.ps[i] ep=5:=by unfold HS.bars;rw[if_pos d.up]);(have ht:JA y i ep p.out=5:=by unfold JA qA;rw[d.dn];simp);have hb:=apk b.xa hm.2 zI hx (ep:=ep) YV;rw[uh]at hb;refine b.y7 (tK hb) λw2 hy=>?_;have:=adZ hy rV oG nZ (ep:=ep) YV;rwa[ht]at this};have hl:=asb hm hq;(have hqy:¬(0<=q/\q<=y.Q-1):=by rw[c0.Q,b.xa.hQ.1];omega);have hb:=apj b.xa (p:=i) (q:=q) YV ep;rw[hl]at hb;exact b.y7 (tK hb) λw2 hy=>tK<|aAK hy oG hqy ep};have hl:=asa (q:=q) hm;(have oG:¬(0<=m/\m<=y.P-1):=by rw[c0.P];omega);have hb:=apj b.xa (p:=m) (q:=q) YV ep;rw[hl]at hb;exact b.y7 (tK hb) λw2 hy=>tK<|aAJ hy oG ep
theorem fH.aGr(b:fH w B xb yb N h y)(hN:N<=90000000)(m ep q){ts}(zZ:ts.size<=2^47):lS 77 78 #[ptr xb,V Z m,V Z ep,V Z q,dN ts] #[ptr yb,m,ep,q,ts] xb yb h y w (Ec B xb yb h y (N+1) w):=by have⟨tl,c0⟩:=b.gK.core;by_cases hm:0<=m/\m<h.P;{obtain⟨i,rfl⟩:=lW hm.1;(have oG:0<=(i:Int)/\(i:Int)<=y.P-1:=by rw[c0.P];omega);(have abe:(i:Int)<y.P:=YV);have rV:=c0.pY YV;by_cases hq:0<=q/\q<h.pl;{obtain⟨qn,rfl⟩:=lW hq.1;have⟨p,g,hp,hg,nZ,yl,rE,oJ,lF,hqQ⟩:=b.part c0 hq.2;(have zI:qn<h.pl:=YV);have yM:=KY hm.2 zI;by_cases h8:8<ts.size;{exact b.y7 (tK<|aBy b.xa yM ep h8 zZ) λw2 H=>tK<|aAX H oG ⟨oJ,lF⟩ ep h8 zZ};(have h8:ts.size<=8:=YV);rcases b.gK with⟨c,u⟩|⟨tl,c,d⟩;{have⟨x,hi,hx,hh,hr⟩:=b.prod c u hm.2;have hf:=c.valid.pY i;have AQ:=hf.s0;have zo:=hf.s1;have AA:=hr.s;have Md:=ajR u hr.e ep;by_cases uh:h.bars x ep=0;{(have nY:qA y.dn (aF y.L i).e ep=0:=by rwa[<-Md]);by_cases Ou:(aF y.L i).s=1;{(have zk:(O g.L+1)*40<=2^47:=YV);(have jP:qn<4:=by have:=c.Q1.2;omega);have G7:=XW yl;have Qr:∀w2,aY w2 B yb y->aH _ 78 _ w2 _:=λw2 H=>aAY H rV b.ay abe hg nZ nY Ou zk h8;have hro:lI _ i _=p.s.isOpen i (aF y.L i).t:=yl.op _ _;by_cases ht:x.bU.getD qn 0=0;{have ajT:(qn:Int)∉(aF y.L i).ps:=(by grind[cases jk]);refine b.y7 (aBA b.xa hm.2 zI hx uh YV ht h8) λw2 H=>(Qr w2 H).z λe3 w3 oU=>?_;cases oU with|not hn f=>exact⟨J,f⟩|out jC _ _ f=>exact absurd jC ajT|bad jC _ _ _ _ _=>exact absurd jC ajT|ok jC _ _ _ _ _=>exact absurd jC ajT};{have QQ:=(hr.ny qn).1;have iy:=(hr.some YV qn jP).1 YV;refine(aBB b.xa b.ax hm.2 hp hx uh YV ht h8 YV YV).z λe2 w2 oU=>?_;(have alJ:vk g.L i (aF y.L i).t ts=p.s.vW i x.t ts:=by rw[hr.t];exact yl.code _ _ _);(have aPO:∀t,p.s.nw i=Y (t,A)->lI g.L i (aF y.L i).t=true:=λt xK=>by have:=(c.opn qn p hp i t xK).2.2.2.1;grind[O4]);have alK:(∀t,p.s.nw i≠Y (t,A))->lI g.L i (aF y.L i).t=false:=(by grind[Jk]);cases oU with|not vK f=>(refine⟨_,J,f.z dA,λW fW=>?_⟩;replace f:=f.t fW dA;refine(Qr W<|b.ya.a f).z λe3 w3 Us=>?_;cases Us with|not hn f3=>exact⟨_,J,⟨_,J,J⟩,h,y,(b.still<|f.t f3 dA).z YV⟩|out _ Q5 _ _=>rw[alK vK]at Q5;cases Q5|bad _ Q5 _ _ _ _=>rw[alK vK]at Q5;cases Q5|ok _ Q5 _ _ _ _=>rw[alK vK]at Q5;cases Q5)|out ho zY f=>(refine⟨_,J,f.z dA,λW fW=>?_⟩;replace f:=f.t fW dA;refine(Qr W<|b.ya.a f).z λe3 w3 Us=>?_;cases Us with|not hn f3=>grind|out _ _ _ f3=>exact⟨_,J,⟨_,J,J⟩,h,y,(b.still<|f.t f3 dA).z YV⟩|bad _ _ zS _ _ _=>rw[zY]at zS;cases zS|ok _ _ zS _ _ _=>rw[zY]at zS;cases zS)|bad ho zY hc bn Ur=>(refine⟨_,J,bn.fr.z λk e=>e,λW fW=>?_⟩;replace bn:=bn.a fW;refine(Qr W<|b.Eb bn).z λe3 w3 Us=>?_;cases Us with|not hn f3=>grind|out _ _ zS _=>rw[zY]at zS;cases zS|bad _ _ _ _ ui Q4=>exact⟨_,J,⟨_,J,by rw[alJ]⟩,_,_,b.join bn ui Ur Q4 J J J YV<|by grind[aCd,cases jk]⟩|ok _ _ _ IY _ _=>rw[alJ]at IY;exact absurd IY hc)|ok ho zY hc bn Ur=>refine⟨_,J,bn.fr.z λk e=>e,λW fW=>?_⟩;replace bn:=bn.a fW;refine(Qr W<|b.Eb bn).z λe3 w3 Us=>?_;cases Us with|not hn f3=>grind|out _ _ zS _=>rw[zY]at zS;cases zS|bad _ _ _ IY _ _=>rw[alJ]at IY;exact absurd hc IY|ok _ _ _ _ ui Q4=>exact⟨_,J,⟨_,J,J⟩,_,_,b.join bn ui Ur Q4 J J J YV<|by grind[aCc,cases jk]⟩}};(have ht:rZ y i ep=if x.s=0 then 8 else 9:=by unfold rZ;omega);refine b.y7 (aBz b.xa hm.2 zI hx uh YV h8) λw2 H=>?_;have:=ah6 H rV oG (q:=qn) ⟨oJ,lF⟩ (ep:=ep) (by rw[ht];split<;>decide) h8;rw[ht]at this;exact this};(have ht:rZ y i ep=h.bars x ep:=by unfold rZ;rw[<-Md,if_pos uh]);refine b.y7 (tK<|apq b.xa hm.2 zI hx uh h8) λw2 H=>?_;have:=ah6 H rV oG (q:=qn) ⟨oJ,lF⟩ (ep:=ep) (by rw[ht];exact uh) h8;rw[ht]at this;exact this};have h6:=b.xa.h6;have Jy:=c.P1.2;have hx:h.ps[i]? =h.ps[i]:=gG YV;(have uh:h.bars h.ps[i] ep=5:=by unfold HS.bars;rw[if_pos d.up]);(have ht:rZ y i ep=5:=by unfold rZ qA;rw[d.dn];simp);have hb:=apq b.xa hm.2 zI hx (ep:=ep) (by rw[uh];decide) h8;rw[uh]at hb;refine b.y7 (tK hb) λw2 H=>?_;have:=ah6 H rV oG (q:=qn) ⟨oJ,lF⟩ (ep:=ep) (by rw[ht];decide) h8;rw[ht]at this;exact this};have hl:=asb hm hq;(have hqy:¬(0<=q/\q<=y.Q-1):=by rw[c0.Q,b.xa.hQ.1];omega);have hb:=apo b.xa (p:=i) (q:=q) (by rw[hl];decide) ep ts;rw[hl]at hb;exact b.y7 (tK hb) λw2 H=>tK<|aAW H oG hqy ep ts};have hl:=asa (q:=q) hm;(have oG:¬(0<=m/\m<=y.P-1):=by rw[c0.P];omega);have hb:=apo b.xa (p:=m) (q:=q) (by rw[hl];decide) ep ts;rw[hl]at hb;exact b.y7 (tK hb) λw2 H=>tK<|aAV H oG ep ts
theorem dG.own{w w' y H}(f:Fr (λk=>k=yb) w w')(hh:aY w' B yb H)(hs:∀k,H.dJ yb k->y.dJ yb k):dG w w' B yb y H:=⟨hh,f.z λ_ e=>.inl<|.inl e,Zv⟩
theorem fH.out(b:fH w B xb yb N h y)(m o):lS 52 90 #[ptr xb,V Z m,aA o] #[ptr yb,m,o] xb yb h y w (Ec B xb yb h y (N+1) w):=by have⟨tl,c0⟩:=b.gK.core;by_cases hq:0<=m/\m<h.pl;{obtain⟨q,rfl⟩:=lW hq.1;have⟨p,g,H,hg,nZ,_,_,oJ,lF,hqQ⟩:=b.part c0 hq.2;refine(aB4 b.xa H o).z λe2 w2 ⟨h1,bn⟩=>⟨_,h1,(by grind[Fr.z,cases bW]),λW fW=>(aAH (b.Eb<|bn.a fW) Zv o).z λe3 w3 ⟨k1,ui⟩=>⟨_,k1,Zv,_,_,b.join (bn.a fW) ui (b.ax.out H o) b.ay J J J YV<|(aCg b.gK H o).z YV⟩⟩};(have hqy:¬(0<=m/\m<=y.Q-1):=by rw[c0.Q,b.xa.hQ.1];omega);exact b.y7 (tK<|aB3 b.xa hq o) λw2 hy=>tK<|aAF hy hqy o
theorem fH.aGs(b:fH w B xb yb N h y)(k):lS 27 92 #[ptr xb,V Z k] #[ptr yb,k] xb yb h y w (Ec B xb yb h y (N+1) w):=by rcases b.gK with⟨c,u⟩|⟨tl,c,d⟩;{refine(aBG b.xa u.up k).z λe2 w2 ⟨h1,bn⟩=>⟨_,h1,(by grind[Fr.z,cases bW]),λW H=>(aoj (b.Eb<|bn.a H) k).z λe3 w3 ⟨k1,k2,k3⟩=>⟨_,k1,?_,?_⟩⟩;{rw[u.dn];grind};rw[u.dn]at k2;exact⟨_,_,b.join (bn.a H) (dG.own k3 k2 λk hk=>hk) b.ax b.ay J J J YV<|(aCh c u k).z YV⟩};refine(aBF b.xa d.up k).z λe2 w2 ⟨h1,h2⟩=>?_;subst h2;refine⟨_,h1,Fr.refl _ _,λW H=>(aoj (b.ya.a H) k).z λe3 w3 ⟨k1,k2,k3⟩=>⟨_,k1,?_,?_⟩⟩;{rw[d.dn];grind};rw[d.dn]at k2;exact⟨_,_,b.join ((bW.refl b.xa).a H) (by grind[dG.own]) b.ax b.ay J J J YV<|b.gK.z YV⟩
theorem fH.asc(b:fH w B xb yb N h y):lS 44 45 #[ptr xb] #[ptr yb] xb yb h y w (λr r2 w'=>Ec B xb yb h y N w r r2 w'):=by
 rcases b.gK with⟨c,u⟩|⟨tl,c,d⟩
 ·refine(an3 b.xa).z λe2 w2 ⟨h1,h2,h3⟩=>?_;rw[u.up]at h1 h2;simp at h1 h2;have H:bW w w2 B xb N h N _:=bW.own h3 h2 λk hk=>hk;refine⟨_,h1,(by grind[Fr.z,cases bW]),λW fW=>?_⟩;replace H:=H.a fW;refine(an6<|b.Eb H).z λe3 w3 ⟨k1,k2,k3⟩=>⟨_,k1,?_,?_⟩
  ·rw[u.dn];grind
  ·have ec:y.crashed={y with dn:=A,br:=ah}:=by simp[RS.crashed,u.dn]
   rw[ec]at k2;exact⟨_,_,b.join H (dG.own k3 k2 λk hk=>hk) b.ax b.ay J J J YV<|aCi c⟩
 ·refine(an3 b.xa).z λe2 w2 ⟨h1,h2,h3⟩=>?_;rw[d.up]at h1 h2;simp at h1 h2;have H:bW w w2 B xb N h N h:=bW.own h3 h2 Zv;refine⟨_,h1,(by grind[Fr.z,cases bW]),λW fW=>?_⟩;replace H:=H.a fW;refine(an6<|b.Eb H).z λe3 w3 ⟨k1,k2,k3⟩=>⟨_,k1,?_,?_⟩
  ·rw[d.dn];grind
  ·have ec:y.crashed=y:=by simp[RS.crashed,d.dn]
   rw[ec]at k2;exact⟨_,_,b.join H (by grind[dG.own]) b.ax b.ay J J J YV b.gK⟩
def ZJ.aGt{dv H}(hr:ZJ w w' B yb y y.H dv H):dG w w' B yb y (y.rising y.H dv H):=by refine⟨hr.at_,hr.fr.z λk e=>.inl ?_,λk hk=>?_⟩;{rcases e with e|e;{exact .inl e};{exact .inr Zv}};rcases hk with e|e|e|e;{exact .inl<|.inl e};{exact .inl<|.inr<|.inl e};{exact .inr<|hr.new k e};exact .inl<|.inr<|.inr<|.inr e
theorem fH.ase(b:fH w B xb yb N h y)(hN:N<=90000000):lS 29 46 #[ptr xb] #[ptr yb] xb yb h y w (λr r2 w'=>Ec B xb yb h y N w r r2 w'):=by rcases b.gK with⟨c,u⟩|⟨tl,c,d⟩;{refine(ayB b.xa u.up).z λe2 w2 ⟨h1,h2⟩=>?_;subst h2;exact⟨_,h1,Fr.refl _ _,λW fW=>(ayR (b.ya.a fW) u.dn).z λe3 w3 ⟨k1,k2⟩=>⟨_,k1,Zv,h,y,by rw[<-k2];exact b.still fW⟩⟩};refine(aBZ b.xa d.up d.ps<|c.pG YV).z λe2 w2 ⟨h1,jv,bn⟩=>⟨_,h1,(by grind[Fr.z,cases bW]),λW fW=>(aAQ (b.Eb<|bn.a fW) d.dn<|c.pY YV).z λe3 w3 ⟨k1,dv,H,hr⟩=>⟨_,k1,Zv,_,_,b.join (bn.a fW) hr.aGt b.ax b.ay J J J YV<|aCj c d jv dv hr.len hr.set⟩⟩
end
end
section
section
variable{w w':ae}{B yb:Nat}{y:RS}
def aGu(h:aY w B yb y)(hF:y.iH){m}(hm:0<=m/\m<=y.P-1)(hd:y.dn=ah)(fM:(aF y.L m).s=0):aH aj 93 #[ak yb,m] w λr w'=>r=dZ #[jf #[(aF y.L m).e,(aF y.L m).t,V Z 0,aP U 0 0,aP U 0 0],V Z 0]/\Fr aB w w':=by
 have HM:=aQe<|iC hm;have H:=aQe h;have HF:=aQe hF;have lu:I ((O y.L+1)*8<=2^47):=by have:=hF.lL;exact aQw
 have c0:au w yb=Y (V Z y.P):=h.c 0;have c1:au w (yb,1)=Y (V Z y.Q):=h.c 1;have c4:au w (yb,4)=Y (aA y.dn):=h.c 4;rw[hd]at c4;have aO:=bF h.blk;have lV:=h.hP.2.1;have jI:=h.hP.2.2;have lF:=h.hQ.2.2.1;have⟨z,hz⟩:∃z,aF y.L m=z:=⟨_,J⟩;have HZ:=aQe hz;rw[hz]at fM⊢;have HS:=aQe fM;clear h hm hd hz hF fM;go_enter func93,ntmps93;go_wp2_with (first|(go_at_call 72;apply(jS _ _ _ _).z;rw[HM];rintro e w1 ⟨rfl,rfl⟩)|(go_at_call 105;apply(sG (H.a<|aQ _) m HF.arg lu).z;rw[HZ,HS];rintro e w2 ⟨v2,rfl,jo,bJ⟩;obtain⟨va,vc,rfl,_⟩:=jg jo;have F2:=aQe<|(aQ _).t bJ dA;have B2:=aQe<|(bJ.block _ Xy id).t<|heap_alloc_new _ _;clear bJ jo));go_loopw [8] (λi w'=>i=V Z 0/\Fr aB w2 w'/\w'.heap[M (R w2)]? =Y (aC #[V Z z.e,V Z z.t,V Z 0,.slice va (O z.ps) vc] 157 (0,0))/\w'.heap[M (R w2)+1]? =Y (aC #[V Z z.e,V Z z.t,V Z 0,aP U 0 0,aP U 0 0] 58 (0,0))) (λ_ _=>0);case atStart=>exact⟨J,(eH.alloc _).alloc _,((aQ _).block _ Xy id).t<|heap_alloc_new _ _,rM _ Xy⟩
 case round=>obtain⟨rfl,hf,qR,kE⟩:=hrel;have uT:=aQe<|F2.t hf dA;have B3:=aQe<|(hf.block _ (bF B2) id).t B2;have d1:au wr (yb,1)=Y (V Z y.Q):=(uT.cell (p:=(yb,1)) aO id).t c1;(have s2:au wr (M (R w2),2)=Y (V Z 0):=by rw[aJ qR];rfl);(have b0:au wr ⟨M (R w2)+1,0,U⟩=Y (V Z z.e):=by rw[aJ kE];rfl);(have b1:au wr (M (R w2)+1,1)=Y (V Z z.t):=by rw[aJ kE];rfl);(have b2:au wr (M (R w2)+1,2)=Y (V Z 0):=by rw[aJ kE];rfl);(have b3:au wr (M (R w2)+1,3)=Y (aP U 0 0):=by rw[aJ kE];rfl);(have b4:au wr (M (R w2)+1,4)=Y (aP U 0 0):=by rw[aJ kE];rfl);(have a0:au wr (M (R w))=Y (V Z 0):=by rw[aJ B3];rfl);(have a1:au wr (M (R w),1)=Y (V Z 0):=by rw[aJ B3];rfl);(have a2:au wr (M (R w),2)=Y (V Z 0):=by rw[aJ B3];rfl);(have a3:au wr (M (R w),3)=Y (aP U 0 0):=by rw[aJ B3];rfl);(have a4:au wr (M (R w),4)=Y (aP U 0 0):=by rw[aJ B3];rfl);have af:∀o,wr.frozen? ⟨M (R w),o,U⟩=false:=gJ B3;clear hf qR kE;go_wp2;have hb:=eX (eX (eX (eX (eX B3 0<|V Z z.e) 1<|V Z z.t) 2<|V Z 0) 3<|aP U 0 0) 4<|aP U 0 0;apply aQY (Bf J _ _ _ 58 _ (0,0) _ J hb underlying58 J RX) J;exact⟨J,((((uT.setCell (.inr<|fC _) _).setCell (.inr<|fC _) _).setCell (.inr<|fC _) _).setCell (.inr<|fC _) _).setCell (.inr<|fC _) _⟩
end
end
section
variable{k:Nat}
theorem asf{α:Type}(f)(g:Nat->α)(hk:k<=4)(h:∀q,k<=q->q<4->f q=ah):((List.range 4).filter f).map g=((List.range k).filter f).map g:=by (have:List.range 4=List.range k++(List.range<|4-k).map (k+ ·):=by rw[<-List.range_add];grind);grind[List.filter_eq_nil_iff]
def aGv{z ts}(hk:k<=4)(hq:∀q∈z.ps,0<=q/\q<(k:Int))(h:∀q:Nat,q<4->(1<=ts.getD q 0↔(q:Int)∈z.ps)):pI z k=dH ts 1 4:=by unfold pI dH;grind[asf,List.filter_congr]
theorem aGw(x:PS){q:Nat}(hq:q<4):(dH x.bU 2 4).filter (λd=>decide<|d=(q:Int))=if 2<=x.bU.getD q 0 then[(q:Int)]else[]:=by have⟨e,t,s,a,b,c,d,si,wa,ga⟩:=x;have hr:List.range 4=[0,1,2,3]:=J;(have AO:q=0\/q=1\/q=2\/q=3:=YV);rcases AO with rfl|rfl|rfl|rfl<;>by_cases ha:2<=a<;>by_cases H:2<=b<;>by_cases hc:2<=c<;>by_cases hd:2<=d<;>simp[dH,hr,PS.bU,ha,H,hc,hd,List.filter]
def aGx{D m tm wa H}{x:PS}(hk:k<=4)(hD:D.filter (λd=>decide<|d.p=m)=(dH x.bU 2 4).map λq=>⟨m,q,tm+wa,H⟩)(hhi:∀q,k<=q->q<4->x.bU.getD q 0<2):Gv D m k=dH x.bU 2 4:=by
 have h1:∀q:Nat,q<4->(D.filter λd=>decide _).map (λ_=>(q:Int))=if 2<=x.bU.getD q 0 then[(q:Int)]else[]:=λq hq=>by (have e1:(D.filter λd=>decide<|d.p=m/\d.q=(q:Int))=(D.filter λd=>decide<|d.p=m).filter λd=>decide (d.q=(q:Int)):=by rw[UB];grind);rw[e1,hD,List.filter_map,List.map_map];have e2:((λd:Du=>decide<|d.q=(q:Int))∘λq=>(⟨m,q,tm+wa,H⟩:Du))=λd:Int=>decide _:=J;grind[aGw]
 have e3:dH x.bU 2 4=(List.range k).flatMap λq=>if 2<=x.bU.getD q 0 then[(q:Int)]else[]:=by unfold dH;rw[asf _ _ hk Zv];generalize List.range k=l;induction l with|nil=>rfl|cons a l ih=>grind
 rw[e3];unfold Gv;have key:∀l:List _,(∀q∈l,q<4)->(l.flatMap λ(q:Nat)=>(D.filter λd=>decide<|d.p=m/\d.q=(q:Int)).map λ_=>(q:Int))=l.flatMap λq=>if 2<=x.bU.getD q 0 then[(q:Int)]else[]:=by intro l;induction l with|nil=>grind|cons a l ih=>grind
 grind
theorem asg{s s' l}(h:ou s l)(h':ou s' l):s=s':=by have h1:=h.1.t h'.1.s;cases s;simp_all
section
variable{w w' B xb yb wb N h y}
def fH.sU(b:fH w B xb yb N h y)(k:bg (Ag wb xb yb h y) w w'):fH w' B xb yb N h y:=b.aW<|k.z λ_ H=>.inl λe=>H<|.inr e
def fH.ash(b:fH w B xb yb N h y)(hN:N<=90000000)(m):∃(e t s er:Int) (aPS C:List Int),(0<=e/\e<=(N:Int))/\O aPS<=4/\O C<=4/\∀w1,bg (Ag wb xb yb h y) w w1->adu (ptr xb) (ptr yb) m w1 e t s er aPS C:=by have⟨tl,c0⟩:=b.gK.core;by_cases hm:0<=m/\m<h.P;{(have oG:0<=m/\m<=y.P-1:=by rw[c0.P];omega);rcases b.gK with⟨c,u⟩|⟨tl,c,d⟩;{obtain⟨i,rfl⟩:=lW hm.1;have⟨x,hi,hx,hh,H⟩:=b.prod c u hm.2;have hf:=c.valid.pY i;have rV:=c.pY YV;have⟨Qn,hQn⟩:=lW (show 0<=h.Q by have:=c.Q1;omega);(have YP:y.Q.toNat=Qn:=by rw[c.Q];omega);(have hQ4:Qn<=4:=by have:=c.Q1.2;omega);have iQ:∀q∈(aF y.L i).ps,0<=q/\q<(Qn:Int):=(by grind[cases St.iH]);refine⟨x.e,x.t,x.s,0,dH x.bU 1 4,dH x.bU 2 4,(by grind[cases jk,cases St.iH,cases Core]),Xh _ _ _,Xh _ _ _,λw1 k=>⟨?_,?_⟩⟩;{exact ayo (b.sU k).xa hm.2 u.up hx};have AQ:=hf.s0;have zo:=hf.s1;have AA:=H.s;by_cases hz:(aF y.L i).s=0;{have hn:=H.none YV;have fM:∀q,x.bU.getD q 0=0:=(by grind[Xo,NC]);have t1:dH x.bU 1 4=[]:=(by grind[KU]);have t2:dH x.bU 2 4=[]:=(by grind[KU]);refine(aGu (b.sU k).ya rV oG u.dn hz).z λ_ w2 ⟨h1,h2⟩=>⟨aP U 0 0,aP U 0 0,h1.t ?_,?_,?_,h2⟩;{rw[H.e,H.t,H.s,hz]};{rw[t1];exact KT _ _};rw[t2];exact KT _ _};refine(aA2 (b.sU k).ya rV oG u.dn YV (by have:=c.dl;omega)).z λ_ w2 ⟨va,vb,h1,h2,h3,h4⟩=>⟨va,vb,h1.t ?_,?_,?_,h4⟩;{rw[H.e,H.t,H.s]};{rwa[YP,aGv (ts:=x.bU) hQ4 iQ<|by grind[cases jk]]at h2};(have hp:xg (aF y.L i).s y.D i y.Q.toNat=dH x.bU 2 4:=by unfold xg;rw[YP];split;{refine aGx hQ4 H.due λq a b=>?_;grind[cases jk]};grind[KU,cases jk]);grind};refine⟨0,0,0,5,[],[],YV,Xy,Xy,λw1 k=>⟨?_,?_⟩⟩;{exact(ayn (b.sU k).xa hm d.up).z λ_ w2 ⟨h1,h2⟩=>⟨_,_,h1,KT _ _,KT _ _,λk hk=>by simp[Value.ownBlock]at hk,h2⟩};{exact(ayF (b.sU k).ya oG d.dn).z<|by grind[KT]}};(have oG:¬(0<=m/\m<=y.P-1):=by rw[c0.P];omega);refine⟨0,0,0,2,[],[],YV,Xy,Xy,λw1 k=>⟨?_,?_⟩⟩;{exact(aym (b.sU k).xa hm).z λ_ w2 ⟨h1,h2⟩=>⟨_,_,h1,KT _ _,KT _ _,λk hk=>by simp[Value.ownBlock]at hk,h2⟩};{exact(ayE (b.sU k).ya oG).z<|by grind[KT]}
theorem aGy(s:aN)(k):(s.pick k).length<=1:=by unfold aN.pick;grind
theorem aGz{s:aN}(f m):(s.vY f m).length<=s.es:=by
 have h1:∀l,(l.flatMap s.pick).length<=O l:=λl=>by induction l with|nil=>simp|cons a l ih=>grind[aGy]
 have h2:s.oL<=s.es:=by unfold aN.oL;grind
 unfold aN.vY aN.di;grind
def fH.ask(b:fH w B xb yb N h y)(hN:N<=90000000)(ad8:∀k,fF k->∃a b c d er f,∀w1,bg (Ag wb xb yb h y) w w1->adw (ptr xb) (ptr yb) k w1 a b c d er f):Ask w (Ag wb xb yb h y) (ptr xb) (ptr yb):=by have⟨tl,c⟩:=b.gK.core;(have ajV:∀{m:Int},¬(0<=m/\m<h.pl)->¬(0<=m/\m<=y.Q-1):=λhm=>by rw[c.Q,b.xa.hQ.1];omega);refine⟨λm _=>have⟨e,t,s,er,aPS,C,_,h2⟩:=b.ash (wb:=wb) hN m;⟨e,t,s,er,aPS,C,h2⟩,λm _=>?_,λm f1 f2 _=>?_,λm _=>?_,?_,?_,ad8⟩;{by_cases hm:0<=m/\m<h.pl;{obtain⟨q,rfl⟩:=lW hm.1;have⟨p,g,hp,hg,nZ,yl,rE,_,_,_⟩:=b.part c hm.2;have G7:=XW yl;refine⟨p.out,p.s.es,p.s.oL,0,adB N _,λS hS=>by have:=hS.2.1;omega,λw1 H=>⟨ayw (b.sU H).xa hp yl.inv YV YV,λS hS=>ayN (b.sU H).ya hg nZ yl hS YV YV⟩⟩};refine⟨ah,0,0,3,λS=>S=[],Zv,λw1 H=>⟨?_,λS hS=>?_⟩⟩;{exact(ayp (b.sU H).xa hm).z<|by grind[KT]};{rw[hS];exact(ayI (b.sU H).ya<|ajV hm).z<|by grind[KT]}};{by_cases hm:0<=m/\m<h.pl;{obtain⟨q,rfl⟩:=lW hm.1;have⟨p,g,hp,hg,nZ,yl,rE,_,_,_⟩:=b.part c hm.2;have G7:=XW yl;exact⟨0,p.s.vY f1 f2,by grind[aGz],λw1 H=>⟨ays (b.sU H).xa hp f1 f2 yl.inv YV,ayL (b.sU H).ya hg yl f1 f2 YV⟩⟩};refine⟨3,[],Xy,λw1 H=>⟨?_,?_⟩⟩;{exact(ayq (b.sU H).xa f1 f2 hm).z λ_ w2 ⟨h1,h2⟩=>⟨_,h1,aQS _ _ _ _,h2⟩};exact(ayJ (b.sU H).ya f1 f2<|ajV hm).z λ_ w2 ⟨h1,h2⟩=>⟨_,h1,aQS _ _ _ _,h2⟩};{by_cases hm:0<=m/\m<h.pl;{obtain⟨q,rfl⟩:=lW hm.1;have⟨p,g,hp,hg,nZ,yl,rE,_,_,_⟩:=b.part c hm.2;have G7:=XW yl;exact⟨0,p.s.es,YV,λw1 H=>⟨ayt (b.sU H).xa hp YV,ayM (b.sU H).ya hg yl YV⟩⟩};refine⟨3,[],Xy,λw1 H=>⟨?_,?_⟩⟩;{exact(ayr (b.sU H).xa hm).z λ_ w2 ⟨h1,h2⟩=>⟨_,h1,aQS _ _ _ _,h2⟩};exact(ayK (b.sU H).ya<|ajV hm).z λ_ w2 ⟨h1,h2⟩=>⟨_,h1,aQS _ _ _ _,h2⟩};{have rV:=c.pY YV;have QQ:=c.ny;have ht:=c.t16;let l:=y.L.flatMap dQ++tl;have hl:ou ⟨l.toArray⟩ l:=⟨Xy,by simp[ByteArray.size]⟩;refine⟨⟨l.toArray⟩,λw1 H=>⟨?_,?_⟩⟩;{exact(aB2 (b.sU H).xa c.jb).z<|by grind[asg]};{exact(ay7 (b.sU H).ya rV.ok c.qx YV).z<|by grind[asg]}};refine⟨y.N,c.E6,λw1 H=>⟨?_,Zn (b.sU H).ya⟩⟩;have:=ayv (b.sU H).xa;rwa[c.fl]at this
end
end
section
structure fJ(w:ae)(B wb xb yb bb N n:Nat)(h:HS)(y:RS)(o:jY):Prop where
 both:fH w B xb yb N h y
 iK:jw w B (Ag wb xb yb h y) wb xb yb bb n o
 l7:¬h.dJ xb wb
 mO:¬y.dJ yb wb
def kV(k p q m:Int)(ts:ByteArray)(fl:Bool):Value:=jf #[V Z k,V Z p,V Z q,V Z m,dN ts,aA fl]
section
variable{w w':ae}{B wb xb yb bb N n:Nat}{h h':HS}{y y':RS}{o:jY}
theorem fJ.lt(g:fJ w B wb xb yb bb N n h y o):wb<M (R w):=bF g.iK.blk
theorem fJ.a(g:fJ w B wb xb yb bb N n h y o)(f:Fr aB w w'):fJ w' B wb xb yb bb N n h y o:=⟨(g.both.still f).to,g.iK.a f,g.l7,g.mO⟩
theorem fJ.apart(g:fJ w B wb xb yb bb N n h y o){k:Nat}(hk:h.dJ xb k\/y.dJ yb k):k<M (R w):=by rcases hk with hk|hk;{exact(g.both.xa.lZ hk).1};exact(g.both.ya.lZ hk).1
def asi(w:ae)(B xb yb:Nat)(h:HS)(y:RS)(N:Nat)(e:Ending)(w':ae):Prop:=e=aU (aA A)/\∃h' y',tJ w w' B xb yb h y N h' y'
def tJ.behind{w1:ae}{aPV:Nat}(f:Fr aB w w1)(t:tJ w1 w' B xb yb h y aPV h' y'):tJ w w' B xb yb h y aPV h' y':=⟨t.to,(f.z dA).t t.fr λ_=>.inl,λk hk=>by rcases t.sub k hk with e|e;{exact .inl e};exact .inr<|dX f.size e,t.kL⟩
def aGA(g:fJ w B wb xb yb bb N n h y o)(hN:N<=90000000)(k p q m:Int)(ts:ByteArray)(fl:Bool):aH aj 73 #[ptr wb,kV k p q m ts fl] w λe w'=>(∃c:Int,e=aU (V Z c))/\Fr aB w w':=by obtain⟨ee,t,s,er,aPS,C,he,_,_,FV⟩:=g.both.ash (wb:=wb) hN p;have HA:I (∀w1,bg (Ag wb xb yb h y) w w1->adu (ptr xb) (ptr yb) p w1 ee t s er aPS C):=FV;obtain⟨c0,c1,c2⟩:=g.iK.cells;have qC:=g.lt;unfold ptr at c0 c1 HA⊢;unfold kV;clear FV c2 c0;by_cases h3:3<=m;{go_enter func73,ntmps73;go_wp2_with fail;go_ret;exact⟨⟨m,J⟩,aQ _⟩};{by_cases h0:m<0;{go_enter func73,ntmps73;go_wp2_with fail;go_ret;exact⟨⟨m,J⟩,aQ _⟩};{go_enter func73,ntmps73;go_wp2_with fail;go_region_law ((go_simp;go_at_call 93;refine(HA.o _ (by first|exact((aQ _).drew).aW|exact(((aQ _).drew).alloc _).aW)).b.z ?_;rintro e w3 ⟨va,vb,rfl,bV,jo,iL⟩;obtain⟨aa,ac,rfl,_⟩:=jg bV;obtain⟨ba,bc,rfl,_⟩:=jg jo;(try (have zb:w3.heap[M (R w)+1]? =Y (aC #[V Z 0,V Z 0,V Z 0,aP U 0 0,aP U 0 0] 58 (0,0)):=(iL.block _ (by simp) id).t (rM _<|by simp);have z0:au w3 ⟨M (R w)+1,0,U⟩=Y (V Z 0):=aJ zb 0;have z1:au w3 ⟨M (R w)+1,1,U⟩=Y (V Z 0):=aJ zb 1;have z2:au w3 ⟨M (R w)+1,2,U⟩=Y (V Z 0):=aJ zb 2;have z3:au w3 ⟨M (R w)+1,3,U⟩=Y (aP U 0 0):=aJ zb 3;have z4:au w3 ⟨M (R w)+1,4,U⟩=Y (aP U 0 0):=aJ zb 4;have zf:∀o,w3.frozen? ⟨M (R w)+1,o,U⟩=false:=gJ zb;clear zb));have mb:w3.heap[M (R w)]? =Y (aC #[V Z k,V Z p,V Z q,V Z m,dN ts,aA fl] 28 (0,0)):=(iL.block _ (by simp<;>omega) id).t (by first|exact heap_alloc_new _ _|exact((aQ _).block _ (by simp) id).t<|heap_alloc_new _ _);have m3:au w3 ⟨M (R w),3,U⟩=Y (V Z m):=aJ mb 3;have F3:I (Fr aB w w3):=(by first|exact((aQ _).drew).t iL dA|exact(((aQ _).drew).alloc _).t iL dA);have hz3:M (R w)<M (R w3):=bF mb;clear bV jo iL mb));all_goals go_wp2_with fail;go_ret;refine⟨⟨_,J⟩,?_⟩;first|with_reducible exact F3.o.alloc _|with_reducible exact((((F3.o.setCell (p:=⟨M (R w)+1,0,U⟩) (.inr (by show _<=M (R w)+1;omega)) _).setCell (p:=⟨M (R w)+1,1,U⟩) (.inr (by show _<=M (R w)+1;omega)) _).setCell (p:=⟨M (R w)+1,2,U⟩) (.inr (by show _<=M (R w)+1;omega)) _).setCell (p:=⟨M (R w)+1,3,U⟩) (.inr (by show _<=M (R w)+1;omega)) _).setCell (p:=⟨M (R w)+1,4,U⟩) (.inr (by show _<=M (R w)+1;omega)) _}}
end
end
section
section
variable{w:ae}{B wb xb yb bb N n:Nat}{h:HS}{y:RS}{o:jY}
variable{g aPV:Nat}{ay:Array ai}{W0 w2 W:ae}{r:ai}
def aGB(hc:∀W,Fr aB w2 W->aH aj g ay W λe w3=>∃r2,e=aU r2/\Ec B xb yb h y aPV W0 r r2 w3):∃a:Int,r=V Z a:=by obtain⟨_,_,_,⟨r2,_,⟨⟨a,h1,_⟩,_⟩⟩,_⟩:=hc w2 eH [];exact⟨a,h1⟩
def aGC(hc:∀W,Fr aB w2 W->aH aj g ay W λe w3=>∃r2,e=aU r2/\aeT B xb yb h y aPV W0 r r2 w3):∃a c:Int,r=dZ #[V Z a,V Z c]:=by obtain⟨_,_,_,⟨r2,_,⟨⟨a,c,h1,_⟩,_⟩⟩,_⟩:=hc w2 eH [];exact⟨a,c,h1⟩
def fJ.boxed(g:fJ w B wb xb yb bb N n h y o){ob:Obj}{b:Nat}(hb:M (R w)<=b)(qQ:W.heap[b]? =Y ob)(f:Fr (λk=>h.dJ xb k\/y.dJ yb k) W w2):w2.heap[b]? =Y ob:=(f.block b (bF qQ) (λe=>by have:=g.apart e;omega)).t qQ
def fJ.XX(g:fJ w B wb xb yb bb N n h y o)(hW:wb<M (R W)){j:Nat}{v:ai}(hc:au W ⟨wb,j,U⟩=Y v)(f:Fr (λk=>h.dJ xb k\/y.dJ yb k) W w2):au w2 ⟨wb,j,U⟩=Y v:=(f.cell (p:=⟨wb,j,U⟩) hW (λe=>by rcases e with e|e;{exact g.l7 e};exact g.mO e)).t hc
end
end
section
def aGD(c)(H:fF c)(w):aH aj 49 #[c,V Z 20] w λe w'=>∃k:Nat,k<20/\e=k/\w=w':=by (have hx: -9223372036854775808<=c/\c<=9223372036854775807:=by simpa[fF,Lit.wf,IntKind.min,IntKind.max,IntKind.signed,IntKind.bits]using H);have⟨h1,h2⟩:=hx;clear H;by_cases aPP:c<0;{go_enter func49,ntmps49;go_wp2;go_ret;refine⟨((-(c+1))%20).toNat,YV,?_,J⟩;show Ending.returned (Value.int .i64<|-((c+1).tmod 20))=_;apply anI;(have h0:0<=-(c+1):=YV);(have h3:(c+1).tmod 20= -((-(c+1))%20):=by rw[<-Int.tmod_eq_emod_of_nonneg h0,Int.neg_tmod,Int.neg_neg]);rw[h3];omega};{go_enter func49,ntmps49;go_wp2;go_ret;refine⟨(c%20).toNat,YV,?_,J⟩;show Ending.returned (Value.int .i64<|c%20)=_;exact anI YV}
section
variable{w w' B xb n h}
variable{m:Int}
def aGE(hh:aG w B xb n h)(H:¬(0<=m/\m<h.fl)):aH aj 81 #[ak xb,m] w λr w'=>r=aU (.int .i64 8)/\Fr aB w w':=by have HH:=aQe hh;have HM:=aQe<|jr H;clear hh H;go_enter func81,ntmps81;go_wp2_with (go_at_call 139;apply(KJ (by first|exact HH|exact HH.a<|aQ _) m).z;rw[HM];rintro e w1 ⟨rfl,rfl⟩);go_ret;exact⟨J,by first|exact Fr.refl _ _|exact aQ _⟩
def aGF(hh:aG w B xb n h)(H:¬(0<=m/\m<h.fl)):aH aj 83 #[ak xb,m] w λr w'=>r=aU (.int .i64 8)/\Fr aB w w':=by have HH:=aQe hh;have HM:=aQe<|jr H;clear hh H;go_enter func83,ntmps83;go_wp2_with (go_at_call 139;apply(KJ (by first|exact HH|exact HH.a<|aQ _) m).z;rw[HM];rintro e w1 ⟨rfl,rfl⟩);go_ret;exact⟨J,by first|exact Fr.refl _ _|exact aQ _⟩
def aGG(hh:aG w B xb n h)(H:¬(0<=m/\m<h.fl)):aH aj 85 #[ak xb,m] w λr w'=>r=aU (.int .i64 8)/\Fr aB w w':=by have HH:=aQe hh;have HM:=aQe<|jr H;clear hh H;go_enter func85,ntmps85;go_wp2_with (go_at_call 139;apply(KJ (by first|exact HH|exact HH.a<|aQ _) m).z;rw[HM];rintro e w1 ⟨rfl,rfl⟩);go_ret;exact⟨J,by first|exact Fr.refl _ _|exact aQ _⟩
end
end
section
section
variable{w w':ae}{B xb n:Nat}{h:HS}
variable{k q:Nat}{m:Ms}{p:PL}
def aGH(hh:aG w B xb n h)(hk:h.fl[k]? =Y m)(BU:m.k=2){i:Nat}(hi:i<6){x:PS}(hx:h.ps[i]? =Y x)(hq:m.q=q)(jP:q<4)(hp:m.p=i)(hm:qB h ⟨4,i,0,x.t⟩):aH aj 81 #[ak<|Y ⟨xb,0,U⟩,V Z k] w λr w'=>r=aU (.int .i64 0)/\∃fv h',Ai (h.dV fv<|h.fl.eraseIdx k) i x m h'/\bW w w' B xb n h n h':=by
 have HH:I (aG w B xb n h):=hh;have qJ:=(List.getElem?_eq_some_iff.mp hk).1;have HM:I (decide ((0:Int)<=k/\(k:Int)<O h.fl)=A):=iC (by omega);have HK:I (h.fl[k]? =Y m):=hk;have HC:I (∀W fv,aG W B xb n (h.dV fv<|h.fl.eraseIdx k)->aH aj 55 #[ak<|Y ⟨xb,4,U⟩,jf #[V Z 2,V Z q,V Z i,V Z m.t,.bool m.c]] W λe w'=>e=aU (dZ #[])/\∃h',Ai (h.dV fv<|h.fl.eraseIdx k) i x m h'/\bW W w' B xb n (h.dV fv<|h.fl.eraseIdx k) n h'):=λW fv hW=>by have:=aoP hW hi (x:=x) hx m hq jP hp ⟨hm.small,hm.kp,hm.room,hm.end_⟩;rw[BU,hq,hp]at this;exact this
 have aO:=bF hh.blk;have HT:I (∀W,aG W B xb n h->aH aj 140 #[ak<|Y ⟨xb,69,U⟩,V Z k] W λr w'=>r=aU (jf #[V Z 2,V Z q,V Z i,V Z m.t,.bool m.c])/\∃fv,bW W w' B xb n h n<|h.dV fv<|h.fl.eraseIdx k):=λW hW=>by have:=adV hW hk;rw[BU,hq,hp]at this;exact this
 clear hh hk hm hx hq hp;go_enter func81,ntmps81;go_wp2_with (first|(go_at_call 139;refine(KJ HH.o k).z ?_;rw[HM.o];rintro e w1 ⟨rfl,rfl⟩)|(go_at_call 140;refine(HT.o _ HH.o).z ?_;rintro e w2 ⟨rfl,fv,bn⟩;have M2:I (bW w w2 B xb n h n<|h.dV fv<|h.fl.eraseIdx k):=bn;have jD:=bF bn.at_.blk;clear bn));go_region_law ((go_simp;go_at_call 55;refine(HC.o _ fv<|M2.o.at_.a<|(aQ _).drew).z ?_;rintro e w3 ⟨rfl,h',hr,bn⟩;have R3:I (Ai (h.dV fv<|h.fl.eraseIdx k) i x m h'/\bW w w3 B xb n h n h'):=⟨hr,M2.o.t<|bn.behind<|(aQ _).drew⟩;clear hr bn));all_goals go_wp2;go_ret;exact⟨J,fv,h',R3.o⟩
def aGI(hh:aG w B xb n h)(hk:h.fl[k]? =Y m)(BU:m.k=1)(hq:m.q=q)(xI:h.pl[q]? =Y p)(ho:p.out=A):aH aj 81 #[ak<|Y ⟨xb,0,U⟩,V Z k] w λr w'=>r=aU (.int .i64 0)/\∃fv,bW w w' B xb n h n (h.dV fv<|h.fl.eraseIdx k):=by
 have HH:I (aG w B xb n h):=hh;have qJ:=(List.getElem?_eq_some_iff.mp hk).1;have zI:=(List.getElem?_eq_some_iff.mp xI).1;have HM:I (decide ((0:Int)<=k/\(k:Int)<O h.fl)=A):=iC (by omega);have aO:=bF hh.blk;have HT:I (∀W,aG W B xb n h->aH aj 140 #[ak<|Y ⟨xb,69,U⟩,V Z k] W λr w'=>r=aU (jf #[V Z 1,V Z q,V Z m.p,V Z m.t,.bool m.c])/\∃fv,bW W w' B xb n h n<|h.dV fv<|h.fl.eraseIdx k):=λW hW=>by have:=adV hW hk;rw[BU,hq]at this;exact this
 have Bg:I (h.pl[q]? =Y p):=xI;have HO:I (p.out=A):=ho;have lF:(q:Int)<(O h.pl:Int):=by omega
 have oJ:(0:Int)<=(q:Int):=by omega
 clear hh hk hq xI ho;go_enter func81,ntmps81;go_wp2_with (first|(go_at_call 139;refine(KJ HH.o k).z ?_;rw[HM.o];rintro e w1 ⟨rfl,rfl⟩)|(go_at_call 140;refine(HT.o _ HH.o).z ?_;rintro e w2 ⟨rfl,fv,bn⟩;have M2:I (bW w w2 B xb n h n<|h.dV fv<|h.fl.eraseIdx k):=bn;have jD:=bF bn.at_.blk;obtain⟨g,cap,jB,hg,oH,c0,c1⟩:=bn.at_.place (k:=q) (p:=p) Bg.o;rw[HO.o]at c1;(have kX:cap<=9223372036854775807:=by rcases bn.at_.qK.2 with⟨e,_⟩|⟨_,_,_,e,_,_,_,h2,_⟩;{rw[jB]at e;cases e};rw[jB]at e;cases e;exact h2);(have cP:au w2 ⟨xb,68,U⟩=Y (aP (Y ⟨g,0,U⟩) (O h.pl) cap):=by have:=bn.at_.cV;rw[jB]at this;exact this);clear bn jB));go_region_law ((go_simp;go_at_call 141;refine(az7 (pb:=g) (po:=q*2) (by exact aRC _ c1) ⟨1,q,m.p,m.t,m.c⟩).z ?_;rintro e w3 ⟨rfl,iL⟩;have F3:I (Fr aB w2 w3):=((aQ _).drew).t iL dA;clear iL));all_goals go_wp2_with fail;go_simp;go_loopw [33] (λi w'=>i=.int .i64 0/\w'=w3) (λ_ _=>0);(case atStart=>exact⟨J,J⟩);case round=>obtain⟨rfl,rfl⟩:=hrel;go_wp2;go_ret;exact⟨J,fv,M2.o.a F3.o⟩
def aGJ(hh:aG w B xb n h)(ha:mP h.pl)(hk:h.fl[k]? =Y m)(BU:m.k=1)(hq:m.q=q)(xI:h.pl[q]? =Y p)(ho:p.out=ah) (hp:(Lit.int .i64 m.p).wf=A)(hn:n<cZ)(hb:(O p.s.es+1)*40<=2^47):aH aj 81 #[ak<|Y ⟨xb,0,U⟩,V Z k] w λr w'=>r=aU (.int .i64 0)/\∃fv v' w3,bW w w3 B xb n h (n+1) ((h.dV fv<|h.fl.eraseIdx k).l9 q ⟨p.lb,p.bm,v',p.s.closed m.p m.t m.c,p.out⟩)/\mP ((h.dV fv<|h.fl.eraseIdx k).l9 q ⟨p.lb,p.bm,v',p.s.closed m.p m.t m.c,p.out⟩).pl/\ Bq w3 w' B xb (n+1) ((h.dV fv<|h.fl.eraseIdx k).l9 q ⟨p.lb,p.bm,v',p.s.closed m.p m.t m.c,p.out⟩) m.oN:=by
 have HH:I (aG w B xb n h):=hh;have qJ:=(List.getElem?_eq_some_iff.mp hk).1;have zI:=(List.getElem?_eq_some_iff.mp xI).1;have HM:I (decide ((0:Int)<=k/\(k:Int)<O h.fl)=A):=iC<|by omega
 have aO:=bF hh.blk;have HT:I (∀W,aG W B xb n h->aH aj 140 #[ak<|Y ⟨xb,69,U⟩,V Z k] W λr w'=>r=aU (jf #[V Z 1,V Z q,V Z m.p,V Z m.t,.bool m.c])/\∃fv,bW W w' B xb n h n<|h.dV fv<|h.fl.eraseIdx k):=λW hW=>by have:=adV hW hk;rw[BU,hq]at this;exact this
 have Bg:I (h.pl[q]? =Y p):=xI;have HO:I (p.out=ah):=ho;have HA:I (mP h.pl):=ha;have HP:I ((Lit.int .i64 m.p).wf=A):=hp;have HN:I (n<cZ):=hn;have HB:I ((O p.s.es+1)*40<=2^47):=hb;have HAK:I (m.oN=⟨2,q,m.p,m.t,m.c⟩):=by obtain⟨mk,mq,mp,mt,mc⟩:=m;cases hq;rfl
 have lF:(q:Int)<(O h.pl:Int):=by omega
 have oJ:(0:Int)<=(q:Int):=by omega
 clear hh hk hq xI ho ha hp hn hb;go_enter func81,ntmps81;go_wp2_with (first|(go_at_call 139;refine(KJ HH.o k).z ?_;rw[HM.o];rintro e w1 ⟨rfl,rfl⟩)|(go_at_call 140;refine(HT.o _ HH.o).z ?_;rintro e w2 ⟨rfl,fv,bn⟩;have M2:I (bW w w2 B xb n h n<|h.dV fv<|h.fl.eraseIdx k):=bn;have jD:=bF bn.at_.blk;obtain⟨g,cap,jB,hg,oH,c0,c1⟩:=bn.at_.place (k:=q) (p:=p) Bg.o;rw[HO.o]at c1;(have kX:cap<=9223372036854775807:=by rcases bn.at_.qK.2 with⟨e,_⟩|⟨_,_,_,e,_,_,_,h2,_⟩;{rw[jB]at e;cases e};rw[jB]at e;cases e;exact h2);(have cP:au w2 ⟨xb,68,U⟩=Y (aP (Y ⟨g,0,U⟩) (O h.pl) cap):=by have:=bn.at_.cV;rw[jB]at this;exact this);clear bn jB));go_region_law ((go_simp;go_at_call 141;refine(az8 (pb:=g) (po:=q*2) ((M2.o.at_.a<|(aQ _).drew).dO p<|iO Bg.o) (by exact aRC _ c0) (by exact aRC _ c1) ⟨1,q,m.p,m.t,m.c⟩ HP.o HN.o HB.o).z ?_;rintro e w3 ⟨b,v',rfl,jJ,Md,hl3⟩;have L3:=(M2.o.at_.a<|(aQ _).drew).NL HA.o Bg.o (MS n) hl3;have M3:I (bW w w3 B xb n h (n+1)<|(h.dV fv<|h.fl.eraseIdx k).l9 q ⟨p.lb,p.bm,v',p.s.closed m.p m.t m.c,p.out⟩):=M2.o.t<|L3.1.behind<|(aQ _).drew;have A3:I (mP ((h.dV fv<|h.fl.eraseIdx k).l9 q ⟨p.lb,p.bm,v',p.s.closed m.p m.t m.c,p.out⟩).pl):=L3.2;have x0:au w3 ⟨b,0,U⟩=Y (.int .i64 2):=(aJ jJ 0).t J;have x1:au w3 ⟨b,1,U⟩=Y (.int .i64 q):=(aJ jJ 1).t J;have x2:au w3 ⟨b,2,U⟩=Y (.int .i64 m.p):=(aJ jJ 2).t J;have x3:au w3 ⟨b,3,U⟩=Y (.int .i64 m.t):=(aJ jJ 3).t J;have x4:au w3 ⟨b,4,U⟩=Y (.bool m.c):=(aJ jJ 4).t J;have L9:=bF jJ;have mW:=bF M3.o.at_.blk;clear hl3 L3 jJ Md));all_goals go_wp2_with fail;go_simp;go_loopw [33] (λi w'=>(i=.int .i64 0/\w'=w3)\/(i=.int .i64 1/\Bq w3 w' B xb (n+1) ((h.dV fv<|h.fl.eraseIdx k).l9 q ⟨p.lb,p.bm,v',p.s.closed m.p m.t m.c,p.out⟩) m.oN)) (λi _=>1-(bM i).toNat);(case atStart=>exact .inl ⟨J,J⟩);case round=>rcases hrel with⟨rfl,rfl⟩|⟨rfl,hs⟩;{go_wp2_with fail;go_region_law ((go_simp;go_at_call 120;refine(ahY (M3.o.at_.a<|(aQ _).drew) ⟨2,q,m.p,m.t,m.c⟩).z ?_;rintro e w4 ⟨rfl,hs⟩;(have S4:I (Bq wr w4 B xb (n+1) ((h.dV fv<|h.fl.eraseIdx k).l9 q ⟨p.lb,p.bm,v',p.s.closed m.p m.t m.c,p.out⟩) m.oN):=by show Bq _ _ _ _ _ _ _;rw[HAK.o];exact hs.behind<|(aQ _).drew);clear hs));all_goals go_wp2;go_roundw;(case rel=>exact .inr ⟨by go_num,S4.o⟩);case measure=>simp[bM]};have S3:I (Bq w3 wr B xb (n+1) ((h.dV fv<|h.fl.eraseIdx k).l9 q ⟨p.lb,p.bm,v',p.s.closed m.p m.t m.c,p.out⟩) m.oN):=hs;clear hs;go_wp2;go_ret;exact⟨J,fv,v',w3,M3.o,A3.o,S3.o⟩
end
end
section
section
variable{w w' B yb y}
variable{k:Nat}{m}
def aGL(h:aY w B yb y)(H:y.N[k]? =Y m):aH aj 86 #[ak yb,k] w λr w'=>r=V Z 0/\Nz w w' B yb y m:=by have HH:=aQe h;have qJ:=(List.getElem?_eq_some_iff.mp H).1;have HM:I (decide ((0:Int)<=k/\(k:Int)<=(y.N:Int)-1)=A):=iC YV;have kQ:w (yb,14)=y.nv:=h.c 14;have⟨g,cap,e,hg,oH,kX,c0,c1,c2,c3,c4⟩:=DU h.kL H;unfold cZ at kX;rw[e]at kQ;have aO:=bF h.blk;clear h H e;go_enter func86,ntmps86;go_wp2_with (first|(go_at_call 72;apply(jS _ _ _ _).z;rw[HM];rintro e w1 ⟨rfl,rfl⟩)|(go_at_call 145;apply(ahK HH m).z;rintro e w2 ⟨rfl,hs⟩;have S2:=aQe hs;clear hs));all_goals go_ret;exact⟨J,S2⟩
def aGM(h:aY w B yb y)(Ah:O y.N<=100)(H:y.N[k]? =Y m):aH aj 84 #[ak yb,k] w λr w'=>r=V Z 0/\∃nv,dG w w' B yb y (y.dV nv<|y.N.eraseIdx k)/\∀q,dw nv=Y q->w<=q:=by have HH:=aQe h;have HK:=aQe H;have Bi:=aQe Ah;have qJ:=(List.getElem?_eq_some_iff.mp H).1;have HM:I (decide ((0:Int)<=k/\(k:Int)<=(y.N:Int)-1)=A):=iC YV;have kQ:w (yb,14)=y.nv:=h.c 14;have⟨g,cap,e,hg,oH,kX,c0,c1,c2,c3,c4⟩:=DU h.kL H;unfold cZ at kX;rw[e]at kQ;have aO:=bF h.blk;clear h H e Ah c0 c1 c2 c3 c4;go_enter func84,ntmps84;go_wp2_with (first|(go_at_call 72;apply(jS _ _ _ _).z;rw[HM];rintro e w1 ⟨rfl,rfl⟩)|(go_at_call 142;apply(adM HH Bi HK).z;rintro e w2 ⟨rfl,hs⟩;have S2:=aQe hs;clear hs));all_goals go_ret;exact⟨J,S2⟩
end
end
section
theorem jw.z{w:ae}{B:Nat}{aPT:Nat->Prop}{wb xb yb bb n m:Nat}{o:jY}(h:jw w B aPT wb xb yb bb n o)(hm:n<=m):jw w B aPT wb xb yb bb m o:=⟨h.blk,h.hw,h.book,h.ap,h.Gl,h.fB,by have:=h.ci;omega,by have:=h.ce;omega,by have:=h.cr;omega,λq hq=>by have:=h.Ij q hq;omega⟩
section
variable{w:ae}{B wb xb yb bb N n:Nat}{h:HS}{y:RS}{o:jY}
theorem fJ.z(g:fJ w B wb xb yb bb N n h y o){aPV m:Nat}(hM:N<=aPV)(hm:n<=m):fJ w B wb xb yb bb aPV m h y o:=⟨g.both.z hM,g.iK.z hm,g.l7,g.mO⟩
end
end
def asA(q):yz.bU.getD q 0=0:=by match q with|0|1|2|3=>rfl|q+4=>exact NC yz (q+4) YV
def aHs(i):jk (aF [] i) [] 0 0 i yz:=⟨J,J,J,λ_=>⟨J,J,J,J⟩,λh=>absurd J h,λq=>by rw[asA];omega,by rw[KU 4 (λq=>by rw[asA];omega)];rfl,λh=>by cases h⟩
def JP.both{w w' wb xb yb bb h y o}(b:JP w w' wb xb yb bb h y o):fH w' w xb yb 0 h y:=by
 have f:=b.fresh;have⟨e1,e2,e3,e4,e5,e6,e7,e8⟩:=b.free;have q1:=f.fx.hQ.1;have q2:=f.fy.hQ;have q4:=f.fQ;have p2:=f.fy.hP;have p4:=f.fP;have hlen:h.pl=O y.G:=YV
 have aei:NP h.pl y.L h.P:=λq p hp i t hn=>by have H:=f.fl p<|iO hp;rw[H.1]at hn;cases hn
 have core:Core 0 h y []:=⟨f.fP,f.fQ,e6.s,e7.s,YV,YV,by rw[f.fL];exact .nil,by rw[f.fL];exact fC _,by rw[e8,f.fL];rfl,Xy,by rw[f.ft];exact⟨J,J⟩,by rw[e2];omega,⟨hlen,λq p g hp hg=>by have H:=f.fl p<|iO hp;have h2:=f.fG g<|iO hg;rw[H.1,h2];exact⟨azw,fC _⟩,λq p hp=>by have H:=f.fl p<|iO hp;(have hq:q<y.aPW:=by have:=(List.getElem?_eq_some_iff.mp hp).1;omega);rw[H.2,gG hq,f.fO _<|List.getElem_mem hq]⟩,aei,by rw[f.fe,f.fN],by rw[f.fN];simp,YV,by rw[e5];omega,by rw[e4];simp,λm hm=>by rw[f.fN]at hm;simp at hm,b.cK,b.cT⟩;have acf:DY h.pl y.L y.D:=⟨λq p i t hp hn _=>(by have H:=f.fl p<|iO hp;rw[H.1]at hn;cases hn),λi h2=>(by rw[f.fL]at h2;simp[aF,EW]at h2)⟩;have up:kR h y:=⟨f.fu,f.fd,e1.t e3.s,λe=>absurd (e3.s.t e) Xa,λi x hi hx hh=>by have hz:hi=0:=b.heard hi<|iO hh;(have kM:i<6:=by have:=(List.getElem?_eq_some_iff.mp hh).1;omega);rw[f.fz,azv kM]at hx;obtain rfl:=Kz hx;rw[hz,f.fL,e4,e5];exact aHs i,λd hd=>(by rw[e4]at hd;cases hd),acf,by rw[f.fz,e5];exact apB YV⟩;exact⟨f.fx,f.fy,b.apx,b.apy,λk H _=>by rw[f.fv]at H;simp[Value.ownBlock]at H,.up core up⟩
def JP.xx{w w' wb xb yb bb h y o}(b:JP w w' wb xb yb bb h y o):fJ w' w wb xb yb bb 0 0 h y o:=⟨b.both,b.iK,b.l7,b.mO⟩
section
structure pM(w w':ae)(B:Nat)(aPT aP0:Nat->Prop)(wb xb yb bb n:Nat):Prop where
 iK:∃o',jw w' B aPT wb xb yb bb n o'/\∀k,o'.all bb k->aP0 k
 aW:bg aPT w w'
 eU:Fr aP0 w w'
section
variable{w B aPT aP0 wb xb yb bb n o}
theorem pM.own{w4 w5 l o5}(h4:jw w4 B aPT wb xb yb bb n o)(K:bg aPT w w4)(f:Fr aP0 w w4)(p:DL w4 w5 B aPT wb xb yb bb n o l o5)(hF:∀k,dw l=Y k->¬aPT k)(hl:∀k,dw l=Y k->aP0 k)(hZ:∀k,o.all bb k\/w4<=k->aP0 k):pM w w5 B aPT aP0 wb xb yb bb (n+1)/\∀k,o5.all bb k\/w5<=k->aP0 k:=have H:∀k,o5.all bb k->aP0 k:=(by grind[cases DL]);⟨⟨⟨_,p.iK,H⟩,K.t<|p.aW h4 hF,(by grind[Fr.t,cases DL])⟩,λk hk=>hk.e (H k) λa=>hZ k<|dX p.fr.size a⟩
theorem pM.asC{w'}(h:jw w B aPT wb xb yb bb n o)(H:∀k,o.all bb k->aP0 k)(f:Fr aB w w'):pM w w' B aPT aP0 wb xb yb bb n:=⟨⟨o,h.a f,H⟩,f.aW,f.z Zv⟩
theorem pM.t{w1 w2 n1 n2}(h:pM w w1 B aPT aP0 wb xb yb bb n1)(H:pM w1 w2 B aPT aP0 wb xb yb bb n2):pM w w2 B aPT aP0 wb xb yb bb n2:=⟨H.iK,h.aW.t H.aW,h.eU.t H.eU Zv⟩
def asD(h:jw w B aPT wb xb yb bb n o)(hZ:∀k,o.all bb k\/w<=k->aP0 k)(ha:Ask w aPT (ptr xb) (ptr yb))(hn:n<=9000000)(m)(hm:fF m):aH aj 38 #[ptr wb,m] w λe w'=>e=A/\pM w w' B aPT aP0 wb xb yb bb (n+2):=by have⟨pe,pt,ps,per,H,C,hA,hC,FV⟩:=ha.prod m hm;have HA:=aQe FV;have HS:=aQe h;have HZ:=aQe hZ;have HN:=aQe hn;have TB:=aQe hA;have HLC:=aQe hC;have⟨c0,c1,c2⟩:=h.cells;have qC:=bF h.blk;clear h ha FV hZ hn hm hA hC;unfold ptr at c0 c1 c2 HA⊢;go_enter func38,ntmps38;go_wp2_with (first|(go_at_call 30;apply(HA _ eH).a.z;rintro e w1 ⟨va,vb,rfl,bV,jo,Es,aI⟩;obtain⟨aa,ac,rfl,uf⟩:=jg bV;obtain⟨ba,bc,rfl,qR⟩:=jg jo;have F1:=aQe aI;have V1:=aQe bV;have V2:=aQe jo;have V3:=aQe Es;have d1:au w1 (wb,1)=Y (ak yb):=(aI.cell (p:=(wb,1)) qC id).t c1;have l7:wb<w1:=gZ qC aI.size;clear aI bV jo Es uf qR)|(go_at_call 93;apply(HA _<|(F1.alloc _).aW).b.z;rintro e w2 ⟨va,vb,rfl,bV,jo,bJ⟩;obtain⟨xa,xc,rfl,uf⟩:=jg bV;obtain⟨ya,yc,rfl,qR⟩:=jg jo;have F2:=aQe<|(F1.alloc _).t bJ dA;have TC:I (Fr aB w1 w2):=(aQ _).t bJ dA;(have U1:I (bI w2 w1 3 1 (.slice xa (O H) xc) (O H)<|dY H):=sD bV<|by simp);(have U2:I (bI w2 w1 3 1 (.slice ya (O C) yc) (O C)<|dY C):=sD jo<|by simp);have k0:au w2 w1=Y (pe):=Fr.box (S:=λ_=>False) bJ id 0;have k1:au w2 (M (R w1),1)=Y (pt):=Fr.box (S:=λ_=>False) bJ id 1;have k2:au w2 (M (R w1),2)=Y (ps):=Fr.box (S:=λ_=>False) bJ id 2;have k3:au w2 (M (R w1),3)=Y (.slice aa (O H) ac):=Fr.box (S:=λ_=>False) bJ id 3;have k4:au w2 (M (R w1),4)=Y (.slice ba (O C) bc):=Fr.box (S:=λ_=>False) bJ id 4;have mO:M (R w1)<M (R w2):=gZ (by simp) bJ.size;have d2:au w2 (wb,2)=Y (ak bb):=(F2.cell (p:=(wb,2)) qC id).t c2;have Yi:wb<M (R w2):=agc l7 mO;clear bJ bV jo uf qR)|(go_at_call 94;refine(ahh (by exact(TC.alloc _).ownsRow V1 λ_ _=>id)<|by exact(aQ _).ownsRow U1 λ_ _=>id).z ?_;rintro e w3 ⟨rfl,q3,rfl⟩)|(go_at_call 94;refine(ahh (by exact(((TC.alloc _).drewN _)).ownsRow V2 λ_ _=>id)<|by exact((aQ _).drewN _).ownsRow U2 λ_ _=>id).z ?_;rintro e w4 ⟨rfl,q4,jP⟩;(have yX:I (Fr aB w2 w4):=by rw[jP];exact((aQ _).drewN _).drewN _);have S4:I (jw w4 B aPT wb xb yb bb n o):=HS.a<|F2.t yX dA;have R1:I (bI w4 (M (R w)) 3 1 (.slice aa (O H) ac) (O H)<|dY H):=(TC.t yX dA).ownsRow V1 λ_ _=>id;have R2:I (bI w4 (M (R w)) 3 1 (.slice ba (O C) bc) (O C)<|dY C):=(TC.t yX dA).ownsRow V2 λ_ _=>id;have m0:au w4 (M (R w1))=Y (V Z pe):=(by grind[Fr.cell,Hid]);have m1:au w4 (M (R w1),1)=Y (V Z pt):=(yX.cell (p:=(M (R w1),1)) mO id).t k1;have m2:au w4 (M (R w1),2)=Y (V Z ps):=(by grind[Fr.cell,Hid]);have m3:au w4 (M (R w1),3)=Y (.slice aa (O H) ac):=(yX.cell (p:=(M (R w1),3)) mO id).t k3;have m4:au w4 (M (R w1),4)=Y (.slice ba (O C) bc):=(yX.cell (p:=(M (R w1),4)) mO id).t k4;have m5:au w4 (wb,2)=Y (ak bb):=(yX.cell (p:=(wb,2)) Yi id).t d2;(have n0:au w4 (M (R w2))=Y (V Z pe):=by rw[jP];simp);(have n1:au w4 (M (R w2),1)=Y (V Z pt):=by rw[jP];simp);(have n2:au w4 (M (R w2),2)=Y (V Z ps):=by rw[jP];simp);(have Fa:M (R w2)<M (R w4):=by rw[jP];simp);clear jP));go_region_held3 (λw'=>au w' (wb,2)=Y (ak bb)/\au w' (M (R w1),3)=Y (.slice aa (O H) ac)) (first|go_keep|exact⟨c5a,c5b⟩) ((go_at_call 95;refine((S4.a<|Fr.dr _).ahp (by have:=HN.o;omega) (sD ((Fr.dr _).ownsRow R1 λ_ _=>id) HS.base) (KL HS (fC _) R1) (Xj HS (fC _) R1) (by have:=TB.o;omega)).z ?_;rintro x w5 ⟨rfl,o5,h5⟩;have H5:I (DL w4.drew w5 B aPT wb xb yb bb n o (.slice aa (O H) ac) o5):=h5;have c5a:au w5 (wb,2)=Y (ak bb):=h5.iK.cells.2.2;have c5b:au w5 (M (R w1),3)=Y (.slice aa (O H) ac):=(h5.cell (agc mO Fa) (HS.adF F1.size)<|Zo V1).t m3;have c5c:au w5 (M (R w1),4)=Y (.slice ba (O C) bc):=(h5.cell (agc mO Fa) (HS.adF F1.size)<|Zo V1).t m4;have hz5:M (R w4)<=M (R w5):=h5.fr.size;have R5:I (bI w5 (M (R w)) 3 1 (.slice ba (O C) bc) (O C)<|dY C):=h5.fr.ownsRow ((Fr.dr _).ownsRow R2 λ_ _=>id) (λk hk hs=>by rcases hs with hs|hs;{exact Xj HS (fC _) R2 k hk hs};exact V3 k hs hk);(have A5:I (∀k,(Value.slice ba (O C) bc).ownBlock=Y k->¬o5.all bb k):=λk hk hs=>by rcases h5.mY k hs with hs|hs|hs;{exact Xj HS (fC _) R2 k hk hs};{exact V3 k hs hk};have:=(R2.lt k hk).2;simp at hs;omega);clear h5));go_wp2_with fail;go_region_held3 (λw'=>au w' (wb,2)=Y (ak bb)/\au w' (M (R w1),4)=Y (.slice ba (O C) bc)) (first|go_keep|exact⟨c6a,c6b⟩) ((go_at_call 95;refine((H5.iK.a<|Fr.dr _).ahp (by have:=HN.o;omega) (sD ((Fr.dr _).ownsRow R5 λ_ _=>id) HS.base) (KL HS (fC _) R2) A5 (by have:=HLC.o;omega)).z ?_;rintro x w6 ⟨rfl,o6,h6⟩;have H6:I (DL w5.drew w6 B aPT wb xb yb bb (n+1) o5 (.slice ba (O C) bc) o6):=h6;have c6a:au w6 (wb,2)=Y (ak bb):=h6.iK.cells.2.2;have c6b:au w6 (M (R w1),4)=Y (.slice ba (O C) bc):=(h6.cell (gZ (agc mO Fa) hz5) (λha=>by rcases H5.mY _ ha with hs|hs|hs;{exact HS.adF F1.size hs};{exact Zo V1 hs};simp at hs;omega)<|Zo V2).t c5c;clear h6));go_wp2;go_ret;have G:=F2.t yX dA;have a5:=pM.own (S4.a<|Fr.dr _) G.drew.aW (G.drew.z dA) H5 (KL HS (fC _) R1) (λk hk=>HZ k<|.inr (R1.lt k hk).1) λk hk=>HZ k<|hk.imp_right<|dX G.size;exact⟨J,(pM.own (H5.iK.a<|Fr.dr _) (a5.1.aW.t (Fr.dr _).aW) a5.1.eU.drew H6 (KL HS (fC _) R2) (λk hk=>HZ k<|.inr (R2.lt k hk).1) a5.2).1⟩
def asE(h:jw w B aPT wb xb yb bb n o)(hZ:∀k,o.all bb k\/w<=k->aP0 k)(ha:Ask w aPT (ptr xb) (ptr yb))(hn:n<=9000000)(m)(hm:fF m):aH aj 39 #[ptr wb,m] w λe w'=>e=A/\pM w w' B aPT aP0 wb xb yb bb (n+1):=by have⟨qo,qe,qs,qer,Pr,hA,FV⟩:=ha.part m hm;have HA:=aQe FV;have HS:=aQe h;have HZ:=aQe hZ;have HN:=aQe hn;have HLP:=aQe hA;have⟨c0,c1,c2⟩:=h.cells;have qC:=bF h.blk;clear h ha FV hZ hn hm hA;unfold ptr at c0 c1 c2 HA⊢;go_enter func39,ntmps39;go_wp2_with (first|(go_at_call 23;apply(HA _ eH).a.z;rintro e w1 ⟨va,H,rfl,hpr,bV,aI⟩;obtain⟨aa,ac,rfl,uf⟩:=jg bV;have ZO:=aQe hpr;have TB:=aQe<|HLP H hpr;have F1:=aQe aI;have V1:=aQe bV;have d1:au w1 (wb,1)=Y (ak yb):=(aI.cell (p:=(wb,1)) qC id).t c1;have l7:wb<w1:=gZ qC aI.size;clear aI bV uf hpr)|(go_at_call 96;apply((HA _<|(F1.alloc _).aW).b H ZO).z;rintro e w2 ⟨va,rfl,bV,bJ⟩;obtain⟨xa,xc,rfl,uf⟩:=jg bV;(have F2:=aQe<|(F1.alloc _).t bJ Zv);(have TC:=aQe<|(aQ _).t bJ Zv);(have U1:I (bI w2 w1 3 1 (.slice xa (O H) xc) (O H)<|dY H):=sD bV Xy);have k0:au w2 w1=Y (qo):=Fr.box (S:=λ_=>False) bJ id 0;have k1:au w2 (M (R w1),1)=Y (qe):=Fr.box (S:=λ_=>False) bJ id 1;have k2:au w2 (M (R w1),2)=Y (qs):=Fr.box (S:=λ_=>False) bJ id 2;have k3:au w2 (M (R w1),3)=Y (.slice aa (O H) ac):=Fr.box (S:=λ_=>False) bJ id 3;have mO:M (R w1)<M (R w2):=gZ Xy bJ.size;have d2:au w2 (wb,2)=Y (ak bb):=(F2.cell (p:=(wb,2)) qC id).t c2;have Yi:wb<M (R w2):=(by omega);clear bJ bV uf)|(go_at_call 94;refine(ahh (by exact(TC.alloc _).ownsRow V1<|by grind)<|by exact(aQ _).ownsRow U1<|by grind).z ?_;rintro e w4 ⟨rfl,q4,jP⟩;(have yX:I (Fr aB w2 w4):=by rw[jP];exact(aQ _).drewN _);(have S4:I (jw w4 B aPT wb xb yb bb n o):=HS.a<|F2.t yX<|by grind);(have R1:I (bI w4 (M (R w)) 3 1 (.slice aa (O H) ac) (O H)<|dY H):=(TC.t yX<|by grind).ownsRow V1<|by grind);have m0:au w4 (M (R w1))=Y (aA qo):=(yX.cell (p:=(M (R w1))) mO id).t k0;have m1:au w4 (M (R w1),1)=Y (V Z qe):=(yX.cell (p:=(M (R w1),1)) mO id).t k1;have m2:au w4 (M (R w1),2)=Y (V Z qs):=(yX.cell (p:=(M (R w1),2)) mO id).t k2;have m3:au w4 (M (R w1),3)=Y (.slice aa (O H) ac):=(yX.cell (p:=(M (R w1),3)) mO id).t k3;have m5:au w4 (wb,2)=Y (ak bb):=(yX.cell (p:=(wb,2)) Yi id).t d2;(have n0:au w4 (M (R w2))=Y (aA qo):=by simp_all);(have n1:au w4 (M (R w2),1)=Y (V Z qe):=by simp_all);(have n2:au w4 (M (R w2),2)=Y (V Z qs):=by simp_all);(have Fa:M (R w2)<M (R w4):=by simp_all);clear jP));go_region_held3 (λw'=>au w' (wb,2)=Y (ak bb)/\au w' (M (R w1),3)=Y (.slice aa (O H) ac)) (first|go_keep|exact⟨c5a,c5b⟩) ((go_at_call 95;refine((S4.a<|Fr.dr _).ahp (by have:=HN.o;omega) (sD ((Fr.dr _).ownsRow R1 λ_ _=>id) HS.base) (KL HS (by omega) R1) (Xj HS (by omega) R1) TB).z ?_;rintro x w5 ⟨rfl,o5,h5⟩;have H5:I (DL w4.drew w5 B aPT wb xb yb bb n o (.slice aa (O H) ac) o5):=h5;have c5a:au w5 (wb,2)=Y (ak bb):=h5.iK.cells.2.2;have c5b:au w5 (M (R w1),3)=Y (.slice aa (O H) ac):=(h5.cell (agc mO Fa) (HS.adF F1.size)<|Zo V1).t m3;clear h5));go_wp2;go_ret;have G:=F2.t yX (by grind);exact⟨J,(pM.own (S4.a<|Fr.dr _) G.drew.aW (G.drew.z<|by grind) H5 (KL HS (by omega) R1) (λk hk=>HZ k<|.inr (R1.lt k hk).1) λk hk=>HZ k<|hk.imp_right<|dX G.size).1⟩
def asF(h:jw w B aPT wb xb yb bb n o)(hZ:∀k,o.all bb k\/w<=k->aP0 k)(ha:Ask w aPT (ptr xb) (ptr yb))(hn:n<=9000000)(m f1 f2)(hm:fF m):aH aj 40 #[ptr wb,m,V Z f1,V Z f2] w λe w'=>e=A/\pM w w' B aPT aP0 wb xb yb bb (n+1):=by have⟨qer,aPS,hA,FV⟩:=ha.vY m f1 f2 hm;have HA:=aQe FV;have HS:=aQe h;have HZ:=aQe hZ;have HN:=aQe hn;have TB:=aQe hA;have⟨c0,c1,c2⟩:=h.cells;have qC:=bF h.blk;clear h ha FV hZ hn hm hA;unfold ptr at c0 c1 c2 HA⊢;go_enter func40,ntmps40;go_wp2_with (first|(go_at_call 57;apply(HA _ eH).a.z;rintro e w1 ⟨va,rfl,H,aI⟩;obtain⟨aa,ac,rfl,uf⟩:=jR H;have F1:=aQe aI;have V1:=aQe H;have d1:w1 (wb,1)=ak yb:=aQJ;have d3:w1 (wb,2)=ak bb:=aQJ;have l7:=gZ qC aI.size;clear aI H uf)|(go_at_call 97;apply(HA _<|F1.aW).b.z;rintro e w2 ⟨va,rfl,H,bJ⟩;obtain⟨xa,xc,rfl,uf⟩:=jR H;(have F2:=aQe<|F1.t bJ Zv);(have V2:=aQe<|bJ.ownsRow V1 Zv);have U1:=aQe H;have d2:w2 (wb,2)=ak bb:=aQJ;clear bJ H uf)|(go_at_call 98;apply(axe (anj V2)<|anj U1).z;rintro e w4 ⟨rfl,q4,jP⟩;(have F4:I (Fr aB w w4):=by rw[jP];exact F2.drewN _);have S4:=aQe<|HS.a F4;(have R1:I (bI w4 w 94 3 (.slice aa aPS ac) aPS<|tq aPS):=by rwa[jP]);have m5:w4 (wb,2)=ak bb:=Y0;clear jP)|(go_at_call 99;apply(S4.o.ayb (by have:=HN.o;omega) (sD R1.o HS.o.base) (KL HS.o YV R1.o) (Xj HS.o YV R1.o) TB.o).z;rintro x w5 ⟨rfl,o5,h5⟩;have H5:=aQe h5;clear h5));go_ret;exact⟨Xy,(pM.own S4.o F4.o.aW (F4.o.z Zv) H5.o (KL HS.o YV R1.o) (by grind[Hid.o,World.ownsRow.lt]) λk hk=>HZ.o k<|hk.imp_right<|dX F4.o.size).1⟩
def asG(h:jw w B aPT wb xb yb bb n o)(hZ:∀k,o.all bb k\/w<=k->aP0 k)(ha:Ask w aPT (ptr xb) (ptr yb))(hn:n<=9000000)(m)(hm:fF m):aH aj 41 #[ptr wb,m] w λe w'=>e=A/\pM w w' B aPT aP0 wb xb yb bb (n+1):=by have⟨qer,aPS,hA,FV⟩:=ha.aho m hm;have HA:=aQe FV;have HS:=aQe h;have HZ:=aQe hZ;have HN:=aQe hn;have TB:=aQe hA;have⟨c0,c1,c2⟩:=h.cells;have qC:=bF h.blk;clear h ha FV hZ hn hm hA;unfold ptr at c0 c1 c2 HA⊢;go_enter func41,ntmps41;go_wp2_with (first|(go_at_call 17;apply(HA _ eH).a.z;rintro e w1 ⟨va,rfl,H,aI⟩;obtain⟨aa,ac,rfl,uf⟩:=jR H;have F1:=aQe aI;have V1:=aQe H;have d1:w1 (wb,1)=ak yb:=aQJ;have d3:w1 (wb,2)=ak bb:=aQJ;have l7:=gZ qC aI.size;clear aI H uf)|(go_at_call 100;apply(HA _<|F1.aW).b.z;rintro e w2 ⟨va,rfl,H,bJ⟩;obtain⟨xa,xc,rfl,uf⟩:=jR H;(have F2:=aQe<|F1.t bJ Zv);(have V2:=aQe<|bJ.ownsRow V1 Zv);have U1:=aQe H;have d2:w2 (wb,2)=ak bb:=aQJ;clear bJ H uf)|(go_at_call 101;apply(axX (ank V2)<|ank U1).z;rintro e w4 ⟨rfl,q4,jP⟩;(have F4:I (Fr aB w w4):=by rw[jP];exact F2.drewN _);have S4:=aQe<|HS.a F4;(have R1:I (bI w4 w 55 4 (.slice aa aPS ac) aPS<|jL aPS):=by rwa[jP]);have m5:w4 (wb,2)=ak bb:=Y0;clear jP)|(go_at_call 102;apply(S4.o.aya (by have:=HN.o;omega) (sD R1.o HS.o.base) (KL HS.o YV R1.o) (Xj HS.o YV R1.o) TB.o).z;rintro x w5 ⟨rfl,o5,h5⟩;have H5:=aQe h5;clear h5));go_ret;exact⟨Xy,(pM.own S4.o F4.o.aW (F4.o.z Zv) H5.o (KL HS.o YV R1.o) (by grind[Hid.o,World.ownsRow.lt]) λk hk=>HZ.o k<|hk.imp_right<|dX F4.o.size).1⟩
end
end
section
set_option linter.all false
section
variable{w w':ae}{B wb xb yb bb N n:Nat}{h h':HS}{y y':RS}{o:jY}
abbrev ae4(wb xb yb b:Nat)(p q:Int)(ts:ByteArray)(fl:Bool)(w:ae):Prop:=au w ⟨wb,0,U⟩=Y (ak<|Y ⟨xb,0,U⟩)/\au w ⟨wb,1,U⟩=Y (ak<|Y ⟨yb,0,U⟩)/\au w ⟨b,1,U⟩=Y (V Z p)/\au w ⟨b,2,U⟩=Y (V Z q)/\au w ⟨b,4,U⟩=Y (dN ts)/\au w ⟨b,5,U⟩=Y (aA fl)
def aHH(g:fJ w B wb xb yb bb N n h y o)(hN:N<=90000000){k:Int}(hk:k=1\/k=2\/k=3\/k=4)(p q m:Int){ts:ByteArray}(zZ:ts.size<=2^47)(fl:Bool):aH aj 33 #[ptr wb,kV k p q m ts fl] w (asi w B xb yb h y<|N+1):=by have G:I (fJ w B wb xb yb bb N n h y o):=g;have HK:I (k=1\/k=2\/k=3\/k=4):=hk;have HE:I (∀W,Fr aB w W->aH aj 73 #[ak<|Y ⟨wb,0,U⟩,jf #[V Z k,V Z p,V Z q,V Z m,dN ts,aA fl]] W λe w'=>(∃c:Int,e=aU (V Z c))/\Fr aB W w'):=λW f=>aGA (g.a f) hN k p q m ts fl;have H1:I (∀W,Fr aB w W->lS 74 75 #[ak<|Y ⟨xb,0,U⟩,V Z p] #[ak<|Y ⟨yb,0,U⟩,V Z p] xb yb h y W (aeT B xb yb h y (N+1) W)):=λW f=>(g.a f).both.init hN p;have H2:I (∀ep W,Fr aB w W->lS 63 76 #[ak<|Y ⟨xb,0,U⟩,V Z p,V Z ep,V Z q] #[ak<|Y ⟨yb,0,U⟩,V Z p,V Z ep,V Z q] xb yb h y W (Ec B xb yb h y (N+1) W)):=λep W f=>(g.a f).both.add hN p ep q;have H3:I (∀ep W,Fr aB w W->lS 77 78 #[ak<|Y ⟨xb,0,U⟩,V Z p,V Z ep,V Z q,dN ts] #[ak<|Y ⟨yb,0,U⟩,V Z p,V Z ep,V Z q,dN ts] xb yb h y W (Ec B xb yb h y (N+1) W)):=λep W f=>(g.a f).both.aGr hN p ep q zZ;have H4:I (∀ep W,Fr aB w W->lS 28 79 #[ak<|Y ⟨xb,0,U⟩,V Z p,V Z ep,aA fl] #[ak<|Y ⟨yb,0,U⟩,V Z p,V Z ep,aA fl] xb yb h y W (Ec B xb yb h y (N+1) W)):=λep W f=>(g.a f).both.end_ hN p ep fl;obtain⟨c0,c1,c2⟩:=g.iK.cells;have qC:=g.lt;unfold ptr at c0 c1⊢;unfold kV;clear g c2 hN hk zZ;go_enter func33,ntmps33;go_wp2_with fail;refine(HE.o _<|aQ _).z ?_;rintro e w1 ⟨⟨ep,rfl⟩,aI⟩;have bx:=(aI.block (M (R w)) (by simp) id).t<|heap_alloc_new _ _;have f1:Fr aB w w1:=(aQ _).t aI dA;have F1:I (Fr aB w w1.drew):=f1.drew;have l7:wb<M (R w1):=gZ qC f1.size;have d0:=(f1.cell (p:=⟨wb,0,U⟩) qC id).t c0;have d1:=(f1.cell (p:=⟨wb,1,U⟩) qC id).t c1;have k0:au w1 ⟨M (R w),0,U⟩=Y (V Z k):=aJ bx 0;have D:I (ae4 wb xb yb (M (R w)) p q ts fl w1):=⟨d0,d1,aJ bx 1,aJ bx 2,aJ bx 4,aJ bx 5⟩;(have KP:I (∀{w2:ae},Fr (λk=>h.dJ xb k\/y.dJ yb k) w1.drew w2->ae4 wb xb yb (M (R w)) p q ts fl w2):=λ{w2} f=>by have b2:=G.o.boxed (fC _) (W:=w1.drew) bx f;exact⟨G.o.XX (W:=w1.drew) l7 d0 f,G.o.XX (W:=w1.drew) l7 d1 f,aJ b2 1,aJ b2 2,aJ b2 4,aJ b2 5⟩);clear aI f1 bx HE;rcases HK.o with rfl|rfl|rfl|rfl;all_goals clear HK;go_wp2_with fail;go_region_held3 (ae4 wb xb yb (M (R w)) p q ts fl) (first|with_reducible exact C2|exact D.o|go_keep) (((first|(go_at_call 74;refine(H1.o _ F1.o).z ?_)|(go_at_call 63;refine(H2.o ep _ F1.o).z ?_)|(go_at_call 77;refine(H3.o ep _ F1.o).z ?_)|(go_at_call 28;refine(H4.o ep _ F1.o).z ?_));rintro e w2 ⟨r,rfl,bJ,hc⟩;(first|obtain⟨ra,rfl⟩:=aGB hc|obtain⟨ra,rc,rfl⟩:=aGC hc);have HC:=@id (I (∀W,Fr aB w2 W->_)) hc;have C2:=KP.o bJ;have CC:=@id (I _) C2;clear hc bJ));go_wp2_with fail;go_region_held3 (ae4 wb xb yb (M (R w)) p q ts fl) (first|with_reducible exact C3|exact CC.o|go_keep) (((first|go_at_call 75|go_at_call 76|go_at_call 78|go_at_call 79);refine(HC.o w2.drew<|eH.drew).z ?_;(first|rintro e w3 ⟨r2,rfl,⟨ra2,zU,rfl⟩,h',y',xK⟩|rintro e w3 ⟨r2,rfl,⟨ra2,rc2,zU,rfl⟩,h',y',xK⟩);simp only[Value.tuple.injEq,af8,af7,aRw,OX,UF]at zU;(first|subst zU|obtain⟨rfl,rfl⟩:=zU);have T3:I (tJ w w3 B xb yb h y (N+1) h' y'):=xK.behind F1.o;have C3:=KP.o xK.fr;clear xK));all_goals go_wp2_with fail;go_ret;exact⟨by simp,h',y',T3.o⟩
end
end
