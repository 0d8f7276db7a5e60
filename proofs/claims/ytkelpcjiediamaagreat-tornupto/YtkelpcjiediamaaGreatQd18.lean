import Derived.Test.YtkelpcjiediamaaGreatQd17
import Derived.Lib.SliceRun
import Derived.Laws.OwnMore
set_option maxRecDepth 100000
set_option maxHeartbeats 0
set_option linter.all false
namespace Go.Proofs.YtkelpcjiediamaaGreat
def aEP:=@Go.run_underlying
def aES:=@Go.Lib.cell?_alloc_some
def aE3:=@Go.results_none
open Go renaming Calls→aU,Program→eF,TypeId→dw,Value→az,World→aj,execOp→dP,maxLen→dU
open Go.Ending renaming returned→aT
open Go.IntKind renaming i64→ah
open Go.Obj renaming cells→aC
open Go.RowKit renaming intOf→fH
open Go.Value renaming agg→gY,bool→aB,int→ag,pointer→ay,slice→aJ,tuple→dK
open Option renaming none→af,some→ae
open Go.Proofs.Tryz
open Go.RowKit Go.Maps
section
def Ru:∀(vs:List az) (w:aj) (b o:Nat),w.setCells b o vs=Jg w b o vs
 |[],_,_,_=>rfl
 |v::r,w,b,o=>Ru r (w.setCell ⟨b,o,af⟩ v) b<|o+1
def Lr(l:List Ms):(l.flatMap Ms.cs).length=l.length*5:=by
 induction l with
 |nil=>rfl
 |cons a r ih=>simp[oO,ih,Ms.cs]<;>omega
def Hf:List Value:=[ag ah 0,ag ah 0,ag ah 0,ag ah 0,aB false]
variable{l:List Ms}{k B g cap:Nat}{w:aj}
def apE(hk:k<l.length):
 (DN (DN (l.flatMap Ms.cs) (k*5)<|(l.drop<|k+1).flatMap Ms.cs) ((l.length-1)*5) Hf).take ((l.length-1)*5)=(l.eraseIdx k).flatMap Ms.cs:=by
 have h0:=Lr l;have h1:=Lr<|l.drop<|k+1;have h2:=Lr<|l.eraseIdx k;have h3:=Lr<|l.take k;rw[List.length_drop]at h1;rw[List.length_eraseIdx_of_lt hk]at h2;rw[EY,afi<|by omega]at h3;have e:l.eraseIdx k=l.take k++l.drop (k+1):=List.eraseIdx_eq_take_drop_succ ..
 have es:l=l.take k++l.drop k:=(aag k l).symm;apply List.ext_getElem?;intro q;by_cases hq:q<(l.length-1)*5
 ·rw[List.getElem?_take_of_lt hq];have hz:Hf.length=5:=rfl;have kY:(DN (l.flatMap Ms.cs) (k*5)<|(l.drop<|k+1).flatMap Ms.cs).length=l.length*5:=by rw[aaH];exact h0
  rw[aaI _ _ _ _ (by rw[kY,hz];omega),if_neg<|by omega,aaI _ _ _ _ (by rw[h0,h1];omega),e,EW];by_cases hc:k*5<=q
  ·rw[if_pos ⟨hc,by rw[h1];omega⟩,xC (by rw[h3];exact hc),h3]
  ·rw[if_neg<|by omega,uz (by rw[h3];omega)];conv=>lhs;rw[es,EW]
   rw[uz (by rw[h3];omega)]
 ·rw[afe (by rw[EY];omega),afe (by rw[h2];omega)]
def Ms.one:∀u∈l.flatMap Ms.cs,u.oneCell'=true:=by
 intro u hu;obtain⟨m,_,hu⟩:=aal.1 hu;simp only[Ms.cs,jR,pF,pG]at hu;rcases hu with rfl|rfl|rfl|rfl|rfl<;>rfl
def apF{ty:dw}{wd n m:Nat}{xs:List az}(h:w.ownsRow B ty wd (aJ (ae ⟨g,0,af⟩) n cap) n xs)(hm:m<=n):w.ownsRow B ty wd (aJ (ae ⟨g,0,af⟩) m cap) m (xs.take<|m*wd):=by
 have hmw:m*wd<=n*wd:=Nat.mul_le_mul_right _ hm;refine⟨by rw[EY,h.1];omega,?_⟩;rcases h.2 with⟨hv,h0⟩|⟨g',c,cur,hv,hb,hg,h1,h2,h3,h4⟩
 ·cases hv
 ·simp only[aD6]at hv;obtain⟨jJ,_,rfl⟩:=hv;cases jJ;refine .inr ⟨g,cap,cur,rfl,hb,hg,by omega,h2,h3,?_⟩;rw[<-h4,List.take_take];congr 1;omega
def apG(w:aj)(ty:dw)(b o c:Nat)(hc:∀j,j<5->(w.cell? ⟨b,o+j,af⟩).isSome=true)(hf:∀j,j<5->w.frozen? ⟨b,o+j,af⟩=false):
 (Builtin.clear_ #[107] ty #[aJ (ae ⟨b,o,af⟩) 1 c]).run prog w=.ok (dK #[]) (w.setCells b o Hf):=by
 have hz:(Builtin.zeroCells (Value.agg #[ag ah 0,ag ah 0,ag ah 0,ag ah 0,aB false]).cells 1).toList=Hf:=by kernel_rfl
 have di:=run_storeCells_cells (P:=prog) b o Hf 0 w (by simpa[Hf]using hc) (by simpa[Hf]using hf) (by intro v hv;simp[Hf]at hv;rcases hv with rfl|rfl<;>rfl);simp only[KW]at di;simp[Builtin.clear_,aEP underlying107,hz,di]
def apH(hk:k<l.length)(dF:w.ownsRow B 119 5 (aJ (ae ⟨g,0,af⟩) l.length cap) l.length (l.flatMap Ms.cs)):
 aU prog 186 #[aJ (ae ⟨g,0,af⟩) l.length cap,ag ah k,.int .i64<|(k:Int)+1] w fun e w'=>e=aT (aJ (ae ⟨g,0,af⟩) (l.length-1:Nat) cap)/\
  w'.ownsRow B 119 5 (aJ (ae ⟨g,0,af⟩) (l.length-1) cap) (l.length-1) ((l.eraseIdx k).flatMap Ms.cs)/\Fr (fun q=>q=g) w w':=by
 obtain⟨i0,dR,iE,gG,iU⟩:=aEd Jo
 have HR:Hid (w.ownsRow B 119 5 (aJ (ae ⟨g,0,af⟩) l.length cap) l.length<|l.flatMap Ms.cs):=dF
 have azg:l.length<=cap/\cap<=maxLen:=by
  rcases dF.2 with⟨h,_⟩|⟨g',c',cur,h,_,_,h1,h2,_⟩
  ·cases h
  ·cases h;exact⟨h1,h2⟩
 obtain⟨xn,hm⟩:=azg
 unfold dU at hm
 have IJ:∀q u,(l.flatMap Ms.cs)[q]? =ae u->w.cell? ⟨g,q,af⟩=ae u:=by
  intro q u hq;have:=dF.cells (g:=g) rfl q u hq;rwa[show(⟨g,0,af⟩:Addr).add q=⟨g,q,af⟩by rw[aEn,DK]]at this
 have agQ:∀q,w.frozen? ⟨g,q,af⟩=false:=dF.frozenAt
 have hml:=Lr l
 obtain⟨news,UR⟩:∃news,news=(l.drop<|k+1).flatMap Ms.cs:=⟨_,rfl⟩
 have hlen:news.length=(l.length-(k+1))*5:=by rw[UR,Lr,List.length_drop]
 have Nv:∀t u,news[t]? =ae u->(l.flatMap Ms.cs)[(k+1)*5+t]? =ae u:=by
  intro t u ht;have e:l.flatMap Ms.cs=(l.take<|k+1).flatMap Ms.cs++news:=by
   rw[UR,<-EW,aag]
  have h3:=Lr<|l.take<|k+1;rw[EY,afi<|by omega]at h3;rw[e,xC<|by omega,h3,show(k+1)*5+t-(k+1)*5=t by omega];exact ht
 obtain⟨A,hA,azh⟩:∃A:Addr,(if cap=k+1 then ae (⟨g,0,af⟩:Addr)else ae ⟨g,(k+1)*5,af⟩)=ae A/\Hid (∀t u,news[t]? =ae u->w.drew.cell? (A.add t)=ae u):=by
  by_cases h:cap=k+1
  ·refine⟨⟨g,0,af⟩,by simp[h],fun t u hu=>?_⟩;have h0:news.length=0:=by rw[hlen];omega
   rw[QK.1 h0]at hu;simp at hu
  ·refine⟨⟨g,(k+1)*5,af⟩,by simp[h],fun t u hu=>?_⟩;rw[aEn];exact IJ _ _<|Nv t u hu
 have s1:Hid (news.length=(l.length-(k+1))*5):=hlen
 have s2:Hid (∀u∈news,u.oneCell'=true):=by rw[UR];exact Ms.one
 have alA:∀q,q<l.length*5->(w.cell? ⟨g,q,af⟩).isSome=true:=by
  intro q hq;rw[IJ q _<|eY<|by omega];rfl
 have s3:Hid (∀t,t<news.length->(w.drew.cell? ⟨g,0+k*5+t,af⟩).isSome=true/\w.drew.frozen? ⟨g,0+k*5+t,af⟩=false):=by
  intro t ht;rw[hlen]at ht;exact⟨alA _<|by omega,agQ _⟩
 obtain⟨W1,Ku⟩:∃W1,W1=w.drew.setCells g (0+k*5) news:=⟨_,rfl⟩
 have Qv:w.drew.ownsRow B 119 5 (aJ (ae ⟨g,0,af⟩) l.length cap) l.length (l.flatMap Ms.cs):=dF
 have R1:Hid (W1.ownsRow B 119 5 (aJ (ae ⟨g,0,af⟩) l.length cap) l.length<|DN (l.flatMap Ms.cs) (k*5) news):=by
  rw[Ku,Ru,DK];exact aaJ Qv (by rw[hlen];omega)
 have F1:Hid (Fr (fun q=>q=g) w W1):=by
  rw[Ku,Ru];exact((Fr.refl (fun q=>q=g) w).drew).Jg (.inl rfl) _ _
 have agR:∀q,q<l.length*5->(W1.cell? ⟨g,q,af⟩).isSome=true:=by
  intro q hq;have aCt:(DN (l.flatMap Ms.cs) (k*5) news).length=l.length*5:=by rw[aaH];exact hml
  have:=R1.o.cells (g:=g) rfl q _ (eY<|by omega);rw[show(⟨g,0,af⟩:Addr).add q=⟨g,q,af⟩by rw[aEn,DK]]at this;rw[this];rfl
 have e2:k+(l.length-(k+1))=l.length-1:=by omega
 have nK:∀ty,(Builtin.clear_ #[107] ty #[aJ (ae ⟨g,(l.length-1)*5,af⟩) (l.length-(l.length-1))<|cap-(l.length-1)]).run prog W1=.ok (dK #[]) (W1.setCells g ((l.length-1)*5) Hf):=by
  intro ty;rw[show l.length-(l.length-1)=1 by omega];exact apG W1 ty g _ _ (fun j hj=>agR _<|by omega) fun j _=>R1.o.frozenAt _
 have hW:Hid (W1=w.drew.setCells g (0+k*5) news):=Ku
 have HN:Hid (news=(l.drop<|k+1).flatMap Ms.cs):=UR
 have HK:Hid (k<l.length):=hk
 have Zt:k<=cap:=by omega
 have Zj:k+1<=cap:=by omega
 have nZ:k+1<=l.length:=by omega
 have Dl:(0:Int)<=(k:Int)+1:=by omega
 have rQ:(k:Int)+1<=(l.length:Int):=by omega
 clear Ku UR hlen Nv IJ dF Qv alA agR agQ hml
 go_enter func186,ntmps186
 go_wp2_with fail
 go_region_law (refine step_append_room rfl _ _ 107 rfl 119 i0 5 underlying107 dR gG g 0 k cap (by simp[Act.eval,Act.put]) A (l.length-(k+1)) (cap-(k+1)) news (by simp[Act.eval,Act.put]) s1.out azh.out s2.out (by omega) s3.out ?_;rw[<-hW.out])
 all_goals
  go_wp2
  go_ret
  refine⟨rfl,?_,?_⟩
  ·rw[Ru,<-apE HK.o,<-HN.o]
   exact apF (aaJ R1.o (by have:=HK.o;show _+5<=_;omega))<|by omega
  ·rw[Ru]
   exact F1.o.Jg (.inl rfl) _ _
end
section
section
variable{w w':aj}{B xb n:Nat}{h:HS}
def bU.box{w1 w2:aj}{n1 c:Nat}{h1:HS}(a:bU w w1 B xb n h n1 h1)(f:Fr (fun q=>q=c) w1 w2)(hc:w.heap.size<=c)(hn:¬h1.fA xb c):bU w w2 B xb n h n1 h1:=
 ⟨a.at_.stay f (fun k e hf=>hn (by subst e;exact hf)),a.fr.trans f (fun k e=>.inr<|by omega),a.sub⟩
variable{k:Nat}{m:Ms}
def WN(hh:aF w B xb n h)(hk:h.fl[k]? =ae m):
 aU prog 140 #[ay<|ae ⟨xb,69,af⟩,ag ah k] w fun r w'=>r=aT (gY #[ag ah m.k,ag ah m.q,ag ah m.p,ag ah m.t,aB m.c])/\
  ∃fv,bU w w' B xb n h n (h.ig fv<|h.fl.eraseIdx k):=by
 have HH:Hid (aF w B xb n h):=hh
 have nZ:=(List.getElem?_eq_some_iff.mp hk).1
 have cF:=hh.cF
 obtain⟨g,cap,e,hg,o6,lI,c0,c1,c2,c3,c4⟩:=WL hh.mV hk
 have HE:Hid (h.fv=aJ (ae ⟨g,0,af⟩) h.fl.length cap):=e
 have Lm:Hid (w.ownsRow B 119 5 (aJ (ae ⟨g,0,af⟩) h.fl.length cap) h.fl.length<|h.fl.flatMap Ms.cs):=by have:=hh.mV;rw[e]at this;exact this
 have HG:Hid (¬xb=g):=fun e2=>We hh.mV hh.blk (by decide) (by rw[e,e2];rfl)
 unfold dU at lI
 rw[e]at cF
 have aI:=aX hh.blk
 have HK:Hid (k<h.fl.length):=nZ
 have Dl:(k:Int)<(h.fl.length:Int):=by omega
 clear hh hk e
 go_enter func140,ntmps140
 go_wp2_with
  ((go_at_call 186;refine(apH HK.o<|((bG _).alloc _).ownsRow Lm.o fun _ _=>id).mono ?_;rintro e w1 ⟨rfl,hr1,bM⟩
    have R1:Hid (w1.ownsRow B 119 5 (aJ (ae ⟨g,0,af⟩) (h.fl.length-1) cap) (h.fl.length-1)<|(h.fl.eraseIdx k).flatMap Ms.cs):=hr1
    have F1:Hid (Fr (fun q=>q=g) ((w.alloc _).alloc _) w1):=bM
    have l7:=(bM.block xb (by simp<;>omega) HG.o).trans<|((bG _).alloc _).block _ aI id |>.trans HH.o.blk
    have k0:w1.cell? ⟨xb,69,af⟩=ae (aJ (ae ⟨g,0,af⟩) h.fl.length cap):=(aK l7 69).trans<|by rw[(HS.c4 HH.o.h6).2.2.2,HE.o]
    have k1:∀o,w1.frozen? ⟨xb,o,af⟩=false:=jS l7
    have k2:w1.heap[w.heap.size+1]? =ae (aC #[ag ah m.k,ag ah m.q,ag ah m.p,ag ah m.t,aB m.c] 119 (0,0)):=(bM.block _ (by simp)<|by omega).trans<|BQ _<|by simp
    have z2:w1.heap[w.heap.size]? =ae (aC #[ag ah 0,ag ah 0,ag ah 0,ag ah 0,aB false] 119 (0,0)):=(bM.block _ (by simp<;>omega)<|by omega).trans<|(Fr.alloc (Fr.refl (fun _=>False) _) _).block _ (by simp) id |>.trans (BQ _<|by simp)
    have m0:w1.cell? ⟨w.heap.size+1,0,af⟩=ae (ag ah m.k):=by rw[aK k2];rfl
    have m1:w1.cell? ⟨w.heap.size+1,1,af⟩=ae (ag ah m.q):=by rw[aK k2];rfl
    have m2:w1.cell? ⟨w.heap.size+1,2,af⟩=ae (ag ah m.p):=by rw[aK k2];rfl
    have m3:w1.cell? ⟨w.heap.size+1,3,af⟩=ae (ag ah m.t):=by rw[aK k2];rfl
    have m4:w1.cell? ⟨w.heap.size+1,4,af⟩=ae (aB m.c):=by rw[aK k2];rfl
    have y0:w1.cell? ⟨w.heap.size,0,af⟩=ae (ag ah 0):=by rw[aK z2];rfl
    have y1:w1.cell? ⟨w.heap.size,1,af⟩=ae (ag ah 0):=by rw[aK z2];rfl
    have y2:w1.cell? ⟨w.heap.size,2,af⟩=ae (ag ah 0):=by rw[aK z2];rfl
    have y3:w1.cell? ⟨w.heap.size,3,af⟩=ae (ag ah 0):=by rw[aK z2];rfl
    have y4:w1.cell? ⟨w.heap.size,4,af⟩=ae (aB false):=by rw[aK z2];rfl
    have yf:∀o,w1.frozen? ⟨w.heap.size,o,af⟩=false:=jS z2
    have Z2:Hid (w1.heap[w.heap.size]? =ae (aC #[ag ah 0,ag ah 0,ag ah 0,ag ah 0,aB false] 119 (0,0))):=z2
    have og:¬xb=w.heap.size:=by omega
    have gJ:¬xb=w.heap.size+1:=by omega
    clear hr1 bM l7 k2 z2))
 have fz:Fr (fun q=>q=xb) w1 (w1.setCell ⟨xb,69,af⟩<|aJ (ae ⟨g,0,af⟩) (h.fl.length-1) cap):=(Fr.refl (fun q=>q=xb) w1).setCell (p:=⟨xb,69,af⟩) (.inl rfl) _
 have q0:=(fz.block w.heap.size (aX Z2.o)<|by omega).trans Z2.o
 have q5:=jT (jT (jT (jT (jT q0 0<|ag ah m.k) 1<|ag ah m.q) 2<|ag ah m.p) 3<|ag ah m.t) 4<|aB m.c
 refine aEk (af0 rfl _ _ _ 119 _ (0,0) _ rfl q5 underlying119 rfl<|by kernel_rfl) rfl ?_
 have FA:Fr (fun q=>q=g) w w1:=(((bG _).alloc _).mono fun _ h=>h.elim).trans F1.o fun _ e=>.inl e
 have el:(h.fl.eraseIdx k).length=h.fl.length-1:=List.length_eraseIdx_of_lt HK.o
 have mv:=HH.o.abm (w3:=w1) (fv:=aJ (ae ⟨g,0,af⟩) (h.fl.length-1) cap) (l:=h.fl.eraseIdx k) (FA.mono fun q e=>.inl (by rw[HE.o,e];rfl)) (by rw[el];exact R1.o) fun q hq=>.inl (by rw[HE.o];exact hq)
 refine⟨rfl,_,mv.box (c:=w.heap.size) (((((((Fr.refl (fun q=>q=w.heap.size) _).setCell (p:=⟨w.heap.size,0,af⟩) (.inl rfl) _)).setCell (p:=⟨w.heap.size,1,af⟩) (.inl rfl) _).setCell (p:=⟨w.heap.size,2,af⟩) (.inl rfl) _).setCell (p:=⟨w.heap.size,3,af⟩) (.inl rfl) _).setCell (p:=⟨w.heap.size,4,af⟩) (.inl rfl) _) (dm _) ?_⟩
 intro hf
 have EK:h.fA xb w.heap.size:=by
  rcases hf with e|e|e|e|e
  ·exact .inl e
  ·exact .inr<|.inl e
  ·exact .inr<|.inr<|.inl e
  ·exact .inr<|.inr<|.inr<|.inl (by rw[HE.o];exact e)
  ·exact .inr<|.inr<|.inr<|.inr e
 exact Og _ (HH.o.qK EK).1
def apI(hh:aF w B xb n h)(hk:h.fl[k]? =ae m):
 aU prog 83 #[ay<|ae ⟨xb,0,af⟩,ag ah k] w fun r w'=>r=aT (ag ah 0)/\∃fv,bU w w' B xb n h n (h.ig fv<|h.fl.eraseIdx k):=by
 have HH:Hid (aF w B xb n h):=hh;have nZ:=(List.getElem?_eq_some_iff.mp hk).1;have HM:Hid (decide ((0:Int)<=k/\(k:Int)<h.fl.length)=true):=kF (by omega);have HK:Hid (h.fl[k]? =ae m):=hk;have aI:=aX hh.blk;clear hh hk;go_enter func83,ntmps83
 go_wp2_with (first
  |(go_at_call 139;refine(Ox HH.o k).mono ?_;rw[HM.o];rintro e w1 ⟨rfl,rfl⟩)
  |(go_at_call 140;refine(WN HH.o HK.o).mono ?_;rintro e w2 ⟨rfl,fv,hm⟩
    have M2:Hid (bU w w2 B xb n h n<|h.ig fv<|h.fl.eraseIdx k):=hm
    clear hm))
 go_ret;exact⟨rfl,fv,M2.o⟩
def apJ(hh:aF w B xb n h):
 aU prog 53 #[ay<|ae ⟨xb,69,af⟩] w fun r w'=>r=aT h.fv/\bU w w' B xb n h n (h.ig (aJ af 0 0) [])/\Fr (fun q=>q=xb) w w':=by
 have HH:Hid (aF w B xb n h):=hh;have cF:=hh.cF;have cf:∀o,w.frozen? ⟨xb,o,af⟩=false:=jS hh.blk;obtain⟨la,lc,hl,Dq⟩:=pq hh.mV;have WM:Hid (h.fv=.slice la h.fl.length lc):=hl;rw[hl]at cF;rw[hl];clear hh hl Dq;go_enter func53,ntmps53
 go_wp2
 go_ret;refine⟨rfl,?_,(Fr.refl (fun q=>q=xb) w).setCell (p:=⟨xb,69,af⟩) (.inl rfl) _⟩;have:=HH.o.abm (w3:=w) (fv:=aJ af 0 0) (l:=[]) (Fr.refl _ _) (aD9 _ _ _ _) (fun q hq=>by cases hq);exact this
end
end
section
variable{w:aj}{g2 c2:Nat}
def apK{va:Option Addr}{n c:Nat}(hn:n≠1):
 aU prog 117 #[.slice va n c,aJ (ae ⟨g2,0,af⟩) 1 c2] w fun e w'=>e=aT (aB false)/\∃q,w'=w.drewN q:=by
 have h1:((n:Int)==1)=false:=by simp<;>omega
 have h2:((n:Int) !=1)=true:=by simp[bne,h1]
 go_enter func117,ntmps117
 go_wp2
 go_ret;exact⟨rfl,0,rfl⟩
def apL{g1 c1:Nat}{a b:Int}(x0:w.cell? ⟨g1,0,af⟩=ae (ag ah b))(y0:w.cell? ⟨g2,0,af⟩=ae (ag ah a)):
 aU prog 117 #[aJ (ae ⟨g1,0,af⟩) 1 c1,aJ (ae ⟨g2,0,af⟩) 1 c2] w fun e w'=>e=aT (.bool<|decide<|b=a)/\∃q,w'=w.drewN q:=by
 by_cases hab:b=a
 ·subst hab;rw[show decide (b=b)=true by simp];go_enter func117,ntmps117
  go_wp2_with fail
  go_loopw [13] (fun i w'=>∃k:Nat,k<=1/\i=ag ah k/\∃q,w'=w.drewN q) (fun i _=>1-(fH i).toNat)
  case atStart=>exact⟨0,mi _,rfl,0,rfl⟩
  case round=>
   obtain⟨k,hk,rfl,q,rfl⟩:=hrel
   by_cases aI:k<1
   ·obtain rfl:k=0:=by omega
    go_wp2_with fail
    go_quiet (fail)
    go_wp2
    go_roundw
    case rel=>exact⟨1,by omega,by go_num,q+nq,by simp[World.drewN]⟩
    case measure=>simp[fH]
   ·obtain rfl:k=1:=by omega
    go_wp2
    go_ret
    exact⟨rfl,q,rfl⟩
 ·rw[show decide (b=a)=false by simpa using hab];have dh:(b==a)=false:=by simpa using hab
  have alC:(b !=a)=true:=by simp[bne,dh]
  go_enter func117,ntmps117
  go_wp2_with fail
  go_loopw [13] (fun i w'=>i=ag ah 0/\∃q,w'=w.drewN q) (fun _ _=>0)
  case atStart=>exact⟨rfl,0,rfl⟩
  case round=>
   obtain⟨rfl,q,rfl⟩:=hrel
   go_wp2_with fail
   go_quiet (fail)
   go_wp2
   go_ret
   exact⟨rfl,q+nq,by simp[World.drewN]<;>omega⟩
end
section
inductive yM(h:HS)(i:Nat)(x:PS)(m:Ms):HS->Prop
 |idle (hi:¬(h.up=true/\(x.s=2\/x.s=3)/\x.t=m.t)):yM h i x m h
 |done {ok:Bool} {h':HS} (hi:h.up=true/\(x.s=2\/x.s=3)/\x.t=m.t) (ht:bI x.aZ 2 4=[m.q]) (hw:jH h ⟨4,i,0,x.t⟩ ok h'):yM h i x m h'
 |tie (hi:h.up=true/\(x.s=2\/x.s=3)/\x.t=m.t) (ht:bI x.aZ 2 4≠[m.q]):yM h i x m (h.dQ i<|x.tie m.q.toNat 1)
section
variable{w w':aj}{B xb n:Nat}{h:HS}
def agS{W:aj}{B' b:Nat}{va:az}{L:List Int}{q:Int}(ha:W.ownsRow B' 3 1 va L.length (gy L))(hb:W.cell? ⟨b,0,af⟩=ae (ag ah q)):
 aU prog 117 #[va,aJ (ae ⟨b,0,af⟩) 1 1] W fun e w'=>e=aT (.bool<|decide<|L=[q])/\∃k,w'=W.drewN k:=by
 obtain⟨a1,c1,rfl,_⟩:=kR ha;by_cases hl:L.length=1
 ·match L,hl with
  |[p],_=>
   rcases aaE ha with⟨_,h0⟩|⟨g,cap,e,_⟩
   ·cases h0
   ·simp only[aD6]at e;obtain⟨rfl,_⟩:=e;have:=apL (w:=W) (c1:=c1) (c2:=1) (yH ha (k:=0) (x:=p) rfl) hb;rw[show decide ([p]=[q])=decide (p=q)by simp];exact this
 ·have e:decide (L=[q])=false:=by
   simp only[decide_eq_false_iff_not];rintro rfl;exact hl rfl
  rw[e];exact apK hl
variable{q i:Nat}{x:PS}
def apM(hh:aF w B xb n h)(hi:i<6)(m:Ms)(hp:m.p=i)(hu:h.up=false):
 aU prog 55 #[ay<|ae ⟨xb,4,af⟩,gY #[ag ah m.k,ag ah m.q,ag ah m.p,ag ah m.t,aB m.c]] w fun e w'=>e=aT (dK #[])/\Fr aP w w':=by
 have c5:=hh.cU;rw[hu]at c5;have aI:=aX hh.blk;have lu:(i:Int)<6:=by omega
 have dR:(0:Int)<=(i:Int):=by omega
 rw[hp];clear hh hu;go_enter func55,ntmps55
 go_wp2_with fail
 go_quiet (fail)
 go_wp2
 go_quiet (fail)
 go_wp2
 refine aEk (aE3 rfl _ _ _) rfl ?_;exact⟨rfl,((bG _).drewN _).drewN _⟩
def apN(hh:aF w B xb n h)(hi:i<6)(hx:h.ps[i]? =ae x)(m:Ms)(hp:m.p=i)(hu:h.up=true)(hs:¬(x.s=2\/x.s=3)):
 aU prog 55 #[ay<|ae ⟨xb,4,af⟩,gY #[ag ah m.k,ag ah m.q,ag ah m.p,ag ah m.t,aB m.c]] w fun e w'=>e=aT (dK #[])/\Fr aP w w':=by
 have HH:Hid (aF w B xb n h):=hh;have c5:=hh.cU;rw[hu]at c5;have HX:Hid (h.ps[i]? =ae x):=hx;have HC:Hid (∀W,aF W B xb n h->aU prog 66 #[ay<|ae ⟨xb,6+i*10,af⟩] W fun e w'=>e=aT (aB false)/\w'=W):=fun W hW=>by
  have:=xM (o:=6+i*10) x.s<|hW.iY hx 2 _ rfl;rw[qW hs]at this;exact this.mono fun e w' h=>⟨h.1,h.2.symm⟩
 have aI:=aX hh.blk;have lu:(i:Int)<6:=by omega
 have dR:(0:Int)<=(i:Int):=by omega
 rw[hp];clear hh hu hx hs;go_enter func55,ntmps55
 go_wp2_with fail
 go_quiet (fail)
 go_wp2
 go_quiet ((go_at_call 66;exact(HC.o _<|HH.o.after<|(bG _).drewN _).mono fun _ _ h=>⟨h.1,_,h.2⟩))
 go_wp2
 refine aEk (aE3 rfl _ _ _) rfl ?_;exact⟨rfl,((bG _).drewN _).drewN _⟩
def apO(hh:aF w B xb n h)(hi:i<6)(hx:h.ps[i]? =ae x)(m:Ms)(hp:m.p=i)(hu:h.up=true)(hs:x.s=2\/x.s=3)(ht:x.t≠m.t):
 aU prog 55 #[ay<|ae ⟨xb,4,af⟩,gY #[ag ah m.k,ag ah m.q,ag ah m.p,ag ah m.t,aB m.c]] w fun e w'=>e=aT (dK #[])/\Fr aP w w':=by
 have HH:Hid (aF w B xb n h):=hh;have c5:=hh.cU;rw[hu]at c5;obtain⟨⟨e0,e1,e2⟩,ef⟩:=hh.cellP hx;have HX:Hid (h.ps[i]? =ae x):=hx;have HC:Hid (∀W,aF W B xb n h->aU prog 66 #[ay<|ae ⟨xb,6+i*10,af⟩] W fun e w'=>e=aT (aB true)/\w'=W):=fun W hW=>by
  have:=xM (o:=6+i*10) x.s<|hW.iY hx 2 _ rfl;rw[kF hs]at this;exact this.mono fun e w' h=>⟨h.1,h.2.symm⟩
 have b1:(x.t==m.t)=false:=by simpa using ht
 have b2:(x.t !=m.t)=true:=by simp[bne,b1]
 have aI:=aX hh.blk;have lu:(i:Int)<6:=by omega
 have dR:(0:Int)<=(i:Int):=by omega
 rw[hp];clear hh hu hx hs e0 e2;go_enter func55,ntmps55
 go_wp2_with fail
 go_quiet (fail)
 go_wp2
 go_quiet ((go_at_call 66;exact(HC.o _<|HH.o.after<|(bG _).drewN _).mono fun _ _ h=>⟨h.1,_,h.2⟩))
 go_wp2
 refine aEk (aE3 rfl _ _ _) rfl ?_;exact⟨rfl,((bG _).drewN _).drewN _⟩
def apP(hh:aF w B xb n h)(hi:i<6)(hx:h.ps[i]? =ae x)(m:Ms)(hq:m.q=q)(mZ:q<4)(hp:m.p=i)(hu:h.up=true)(hs:x.s=2\/x.s=3)(ht:x.t=m.t)(hm:mD h ⟨4,i,0,x.t⟩):
 aU prog 55 #[ay<|ae ⟨xb,4,af⟩,gY #[ag ah m.k,ag ah m.q,ag ah m.p,ag ah m.t,aB m.c]] w fun e w'=>e=aT (dK #[])/\∃h',yM h i x m h'/\bU w w' B xb n h n h':=by
 have HH:Hid (aF w B xb n h):=hh;have c5:=hh.cU;rw[hu]at c5;obtain⟨⟨e0,e1,e2⟩,ef⟩:=hh.cellP hx;have HX:Hid (h.ps[i]? =ae x):=hx;have HC:Hid (∀W,aF W B xb n h->aU prog 66 #[ay<|ae ⟨xb,6+i*10,af⟩] W fun e w'=>e=aT (aB true)/\w'=W):=fun W hW=>by
  have:=xM (o:=6+i*10) x.s<|hW.iY hx 2 _ rfl;rw[kF hs]at this;exact this.mono fun e w' h=>⟨h.1,h.2.symm⟩
 have HW:Hid (∀W,aF W B xb n h->aU prog 118 #[ay<|ae ⟨xb,4,af⟩,gY #[ag ah 4,ag ah i,ag ah 0,ag ah x.t]] W fun e w'=>∃ok h',e=aT (aB ok)/\jH h ⟨4,i,0,x.t⟩ ok h'/\bU W w' B xb n h n h'):=fun W hW=>OD hW hm;have HI:Hid (h.up=true/\(x.s=2\/x.s=3)/\x.t=m.t):=⟨hu,hs,ht⟩;have HQ:Hid (m.q=q):=hq;have aI:=aX hh.blk;have lu:(i:Int)<6:=by omega
 have dR:(0:Int)<=(i:Int):=by omega
 have vV:(q:Int)<4:=by omega
 have rV:(0:Int)<=(q:Int):=by omega
 rw[hp,hq,<-ht];clear hh hu hx hs e0 e2 ht hq hm;go_enter func55,ntmps55
 go_wp2_with fail
 go_quiet (fail)
 go_wp2
 go_quiet ((go_at_call 66;exact(HC.o _<|HH.o.after<|(bG _).drewN _).mono fun _ _ h=>⟨h.1,_,h.2⟩))
 go_wp2_with fail
 go_region_law ((first
  |(go_simp;go_at_call 69;refine(Lh (w:=(w.alloc _).drewN _) (p:=x) (fun j v hv=>(HH.o.after<|(bG _).drewN _).iY HX.o j v hv) 2).mono ?_;rintro e w1 ⟨v1,rfl,yj,bM⟩
    have F1:Hid (Fr aP w w1):=((bG _).drewN _).trans bM fun _ h=>h.elim
    have N1:Hid (w1.ownsRow _ 3 1 v1 (bI x.aZ 2 4).length<|gy<|bI x.aZ 2 4):=yj
    have M1:Hid (w1.heap[w.heap.size]? =ae (aC #[ag ah m.k,ag ah q,ag ah i,ag ah x.t,aB m.c] 119 (0,0))):=(bM.block w.heap.size (by simp[World.drewN]) id).trans<|aDY _ _
    have kq:w1.cell? ⟨w.heap.size,1,af⟩=ae (ag ah q):=(aK M1.o 1).trans rfl
    clear yj bM)
  |(go_simp;go_at_call 69;refine(Lh (w:=((w.alloc _).drewN _).alloc _) (p:=x) (fun j v hv=>(HH.o.after<|((bG _).drewN _).alloc _).iY HX.o j v hv) 2).mono ?_;rintro e w1 ⟨v1,rfl,yj,bM⟩
    have F1:Hid (Fr aP w w1):=(((bG _).drewN _).alloc _).trans bM fun _ h=>h.elim
    have N1:Hid (w1.ownsRow _ 3 1 v1 (bI x.aZ 2 4).length<|gy<|bI x.aZ 2 4):=yj
    have M1:Hid (w1.heap[w.heap.size]? =ae (aC #[ag ah m.k,ag ah q,ag ah i,ag ah x.t,aB m.c] 119 (0,0))):=(bM.block w.heap.size (by simp[World.drewN]<;>omega) id).trans<|((bG (w:=(w.alloc _).drewN _) _).block w.heap.size (by simp[World.drewN]) id).trans<|aDY _ _
    have kb:w1.cell? ⟨w.heap.size+1,0,af⟩=ae (ag ah q):=(aK ((bM.block (w.heap.size+1) (by simp[World.drewN]) id).trans<|BQ _<|by simp[World.drewN]) 0).trans rfl
    clear yj bM)
  |(go_simp;go_at_call 117;refine(agS (q:=q) N1.o kb).mono ?_;rintro e w2 ⟨rfl,kk,uT⟩
    have F2:Hid (Fr aP w1 w2):=by rw[uT];exact(Fr.refl _ _).drewN kk
    clear uT)
  |(go_simp;go_at_call 117;refine(agS (q:=q) (N1.o.alloc _)<|(aK (aDY _ _) 0).trans rfl).mono ?_;rintro e w2 ⟨rfl,kk,uT⟩
    have F2:Hid (Fr aP w1 w2):=by rw[uT];exact((Fr.refl _ _).alloc _).drewN kk
    clear uT)))
 all_goals
  have FZ:Hid (Fr aP w w2):=F1.o.trans F2.o fun _ h=>h.elim
  have M2:=(F2.o.block w.heap.size (aX M1.o) id).trans M1.o
  have n1:w2.cell? ⟨w.heap.size,1,af⟩=ae (ag ah q):=(aK M2 1).trans rfl
  have n2:w2.cell? ⟨w.heap.size,2,af⟩=ae (ag ah i):=(aK M2 2).trans rfl
  have H2:Hid (aF w2 B xb n h):=HH.o.after FZ.o
  obtain⟨⟨_,r1,_⟩,rf⟩:=H2.o.cellP HX.o
  have r3:w2.cell? ⟨xb,6+i*10+(3+q),af⟩=ae (.int .i64<|x.aZ.getD q 0):=H2.o.iY HX.o (3+q) _<|Lj x mZ
  rw[<-zG]at r3
  clear M2
  by_cases hL:bI x.aZ 2 4=[(q:Int)]
  ·have HL:Hid (bI x.aZ 2 4=[(q:Int)]):=hL
   rw[show decide (bI x.aZ 2 4=[(q:Int)])=true from kF hL]
   clear hL
   go_wp2_with fail
   go_region_law
    ((go_simp;go_at_call 118;refine(HW.o _<|H2.o.after<|(Fr.refl _ _).drew).mono ?_;rintro e w3 ⟨ok,h',rfl,ho,dI⟩
      have R1:Hid (jH h ⟨4,i,0,x.t⟩ ok h'/\bU w w3 B xb n h n h'):=⟨ho,dI.behind<|FZ.o.drew⟩
      clear ho dI))
   all_goals
    go_wp2
    refine aEk (aE3 rfl _ _ _) rfl ?_
    exact⟨rfl,h',.done HI.o (by rw[HQ.o];exact HL.o) R1.o.1,R1.o.2⟩
  ·have HL:Hid (¬bI x.aZ 2 4=[(q:Int)]):=hL
   rw[show decide (bI x.aZ 2 4=[(q:Int)])=false from qW hL]
   clear hL
   go_wp2_with fail
   go_region
   all_goals
    go_wp2
    go_end0
    have t1:=H2.o.setCell (x.tie q 1) HX.o (j:=3+q) (by omega)<|Wi x mZ 1
    rw[<-zG]at t1
    have e3:m.q.toNat=q:=by rw[HQ.o];rfl
    refine⟨rfl,_,.tie HI.o (by rw[HQ.o];exact HL.o),?_⟩
    rw[e3]
    exact((bU.own (h:=h) (n:=n) t1.2 t1.1 fun k hk=>hk).after<|(Fr.refl _ _).drew).behind FZ.o
def agT(hh:aF w B xb n h)(hi:i<6)(hx:h.ps[i]? =ae x)(m:Ms)(hq:m.q=q)(mZ:q<4)(hp:m.p=i)(hm:mD h ⟨4,i,0,x.t⟩):
 aU prog 55 #[ay<|ae ⟨xb,4,af⟩,gY #[ag ah m.k,ag ah m.q,ag ah m.p,ag ah m.t,aB m.c]] w fun e w'=>e=aT (dK #[])/\∃h',yM h i x m h'/\bU w w' B xb n h n h':=by
 by_cases hu:h.up=true
 ·by_cases hs:x.s=2\/x.s=3
  ·by_cases ht:x.t=m.t
   ·exact apP hh hi hx m hq mZ hp hu hs ht hm
   ·exact(apO hh hi hx m hp hu hs ht).mono fun e w' ⟨h1,h2⟩=>⟨h1,h,.idle fun c=>ht c.2.2,(bU.refl hh).after h2⟩
  ·exact(apN hh hi hx m hp hu hs).mono fun e w' ⟨h1,h2⟩=>⟨h1,h,.idle fun c=>hs c.2.1,(bU.refl hh).after h2⟩
 ·exact(apM hh hi m hp<|by simpa using hu).mono fun e w' ⟨h1,h2⟩=>⟨h1,h,.idle fun c=>hu c.1,(bU.refl hh).after h2⟩
end
end
section
def sF(l:List Ms)(m:Ms):List Ms:=if 100<=l.length then l else l++[m]
def vz(l:List Ms)(i t:Int)(c:Bool)(qs:List Int):List Ms:=qs.foldl (fun l q=>sF l ⟨1,q,i,t,c⟩) l
def apQ(l:List Ms)(i t:Int)(c:Bool){qs:List Int}{j:Nat}{q:Int}(hq:qs[j]? =ae q):vz l i t c (qs.take<|j+1)=sF (vz l i t c<|qs.take j) ⟨1,q,i,t,c⟩:=by
 rw[AP,hq];simp[vz,VU]
def xN.going{w w':aj}{B xb n:Nat}{h:HS}{m:Ms}(hh:aF w B xb n h)(s:xN w w' B xb n h m):∃fv,bU w w' B xb n h n (h.ig fv<|sF h.fl m):=by
 cases s with
 |lost hl f=>
  refine⟨h.fv,?_⟩;rw[show sF h.fl m=h.fl by simp[sF,hl]];exact(bU.refl hh).after f
 |ig hl fv mv _=>
  refine⟨fv,?_⟩;rw[show sF h.fl m=h.fl++[m]by rw[sF,if_neg<|by omega]];exact mv
section
variable{w w':aj}{B xb n:Nat}{h:HS}
variable{i:Nat}{x:PS}
def apR(hh:aF w B xb n h)(hi:i<6)(hx:h.ps[i]? =ae x)(bo:Int)(sv:az)(hw:1<x.wa)(uT:x.wa<=9223372036854775807):
 aU prog 173 #[ay<|ae ⟨xb,4,af⟩,ag ah i,ag ah bo,sv] w fun e w'=>e=aT (dK #[])/\bU w w' B xb n h n (h.dQ i {x with wa:=x.wa-1}):=by
 have HH:Hid (aF w B xb n h):=hh;have HX:Hid (h.ps[i]? =ae x):=hx;have c8:=hh.iY hx 8 _ rfl;have cf:∀o,w.frozen? ⟨xb,o,af⟩=false:=jS hh.blk;have lu:(i:Int)<6:=by omega
 have dR:(0:Int)<=(i:Int):=by omega
 have aI:=aX hh.blk;clear hh hx;go_enter func173,ntmps173
 go_wp2
 refine aEk (aE3 rfl _ _ _) rfl ?_;have t1:=HH.o.setCell {x with wa:=x.wa-1} HX.o (j:=8) (v:=.int .i64<|x.wa-1) (by omega) rfl;exact⟨rfl,bU.own (h:=h) (n:=n) t1.2 t1.1 fun k hk=>hk⟩
def aF.apS(hh:aF w B xb n h){B':Nat}{v:az}{l:List Int}(hr:w.ownsRow B' 3 1 v l.length (gy l)):∀k,h.fA xb k->v.ownBlock=ae k->False:=by
 intro k hk hv;have t:=iK hr hv;rcases hh.aaS hk with e|e|e|e|e|e|e;all_goals first
  |(rw[t]at e;cases e;done)
  |(obtain⟨e,_⟩:=e;rw[t]at e;cases e;done)
def apT(hh:aF w B xb n h)(hi:i<6)(hx:h.ps[i]? =ae x)(bo:Int)(hw:x.wa<=1)(uT: -9223372036854775808<x.wa)(BA:0<=x.ga)(hg:x.ga<=1000000000000):
 aU prog 173 #[ay<|ae ⟨xb,4,af⟩,ag ah i,ag ah bo,.func (.func 120) #[ay<|ae ⟨xb,69,af⟩] #[]] w fun e w'=>e=aT (dK #[])/\
  ∃fv,bU w w' B xb n h n ((h.ig fv<|vz h.fl i x.t (x.s==2)<|bI x.aZ 2 4).dQ i {x with wa:=x.ga,ga:=min (2*x.ga) bo}):=by
 have HH:Hid (aF w B xb n h):=hh
 have HX:Hid (h.ps[i]? =ae x):=hx
 have c8:=hh.iY hx 8 _ rfl
 have cf:∀o,w.frozen? ⟨xb,o,af⟩=false:=jS hh.blk
 have t1:=hh.setCell {x with wa:=x.wa-1} hx (j:=8) (v:=.int .i64<|x.wa-1) (by omega) rfl
 have T1:Hid (aF (w.setCell ⟨xb,6+i*10+8,af⟩<|.int .i64<|x.wa-1) B xb n (h.dQ i {x with wa:=x.wa-1})/\Fr (fun k=>k=xb) w (w.setCell ⟨xb,6+i*10+8,af⟩<|.int .i64<|x.wa-1)):=t1
 have X1:Hid ((h.dQ i {x with wa:=x.wa-1}).ps[i]? =ae {x with wa:=x.wa-1}):=tJ hx
 have lu:(i:Int)<6:=by omega
 have dR:(0:Int)<=(i:Int):=by omega
 have aI:=aX hh.blk
 clear hh hx t1
 go_enter func173,ntmps173
 go_wp2_with
  ((go_at_call 69;refine(Lh (p:={x with wa:=x.wa-1}) (fun j v hv=>T1.o.1.iY X1.o j v hv) 2).mono ?_;rintro e w2 ⟨v2,rfl,sS,jP⟩
    have abo:w2.ownsRow (w.setCell ⟨xb,6+i*10+8,af⟩<|.int .i64<|x.wa-1).heap.size 3 1 v2 (bI x.aZ 2 4).length (gy<|bI x.aZ 2 4):=sS
    obtain⟨va,vc,rfl,Dj⟩:=kR abo
    have N2:Hid (w2.ownsRow (w.setCell ⟨xb,6+i*10+8,af⟩<|.int .i64<|x.wa-1).heap.size 3 1 (.slice va (bI x.aZ 2 4).length vc) (bI x.aZ 2 4).length<|gy<|bI x.aZ 2 4):=abo
    have F2:Hid (Fr aP (w.setCell ⟨xb,6+i*10+8,af⟩<|.int .i64<|x.wa-1) w2):=jP
    unfold dU at Dj
    clear sS jP abo))
 go_loopw [31] (fun iv w'=>∃(j:Nat) (fv:az),j<=(bI x.aZ 2 4).length/\iv=ag ah j/\bU w w' B xb n h n ((h.dQ i {x with wa:=x.wa-1}).ig fv<|vz h.fl i x.t (x.s==2)<|(bI x.aZ 2 4).take j)/\
  w'.ownsRow (w.setCell ⟨xb,6+i*10+8,af⟩<|.int .i64<|x.wa-1).heap.size 3 1 (.slice va (bI x.aZ 2 4).length vc) (bI x.aZ 2 4).length (gy<|bI x.aZ 2 4)) (fun iv _=>(bI x.aZ 2 4).length-(fH iv).toNat)
 case atStart=>exact⟨0,h.fv,mi _,rfl,(bU.own (h:=h) (n:=n) T1.o.2 T1.o.1 fun k hk=>hk).after F2.o,N2.o⟩
 case round=>
  obtain⟨j,fv,hj,rfl,dI,dF⟩:=hrel
  have MV:Hid (bU w wr B xb n h n<|(h.dQ i {x with wa:=x.wa-1}).ig fv<|vz h.fl i x.t (x.s==2)<|(bI x.aZ 2 4).take j):=dI
  have NR:Hid (wr.ownsRow (w.setCell ⟨xb,6+i*10+8,af⟩<|.int .i64<|x.wa-1).heap.size 3 1 (.slice va (bI x.aZ 2 4).length vc) (bI x.aZ 2 4).length<|gy<|bI x.aZ 2 4):=dF
  have r1:wr.cell? ⟨xb,6+i*10+1,af⟩=ae (ag ah x.t):=dI.at_.iY X1.o 1 _ rfl
  have r2:wr.cell? ⟨xb,6+i*10+2,af⟩=ae (ag ah x.s):=dI.at_.iY X1.o 2 _ rfl
  have hlr:=aX dI.at_.blk
  by_cases lU:j<(bI x.aZ 2 4).length
  ·obtain⟨q,hq⟩:∃q,(bI x.aZ 2 4)[j]? =ae q:=⟨_,eY lU⟩
   have HQ:Hid ((bI x.aZ 2 4)[j]? =ae q):=hq
   obtain⟨g1,rfl,x0⟩:∃g1,va=ae ⟨g1,0,af⟩/\wr.cell? ⟨g1,j,af⟩=ae (ag ah q):=by
    rcases aaE dF with⟨_,h0⟩|⟨g,cap,e,_⟩
    ·rw[h0]at lU;simp at lU
    ·simp only[aD6]at e;obtain⟨rfl,_⟩:=e;exact⟨g,rfl,yH dF hq⟩
   have rW:(j:Int)<((bI x.aZ 2 4).length:Int):=by omega
   clear dI dF hq
   go_wp2_with fail
   go_region_law
    ((go_simp;go_at_call 120;refine(abn (MV.o.at_.after<|(Fr.refl _ _).drew) ⟨1,q,i,x.t,x.s==2⟩).mono ?_;rintro e w4 ⟨rfl,hs⟩
      have S4:Hid (xN wr w4 B xb n _ ⟨1,q,i,x.t,x.s==2⟩):=hs.behind<|(Fr.refl _ _).drew
      clear hs))
   all_goals
    go_wp2
    go_roundw
    case rel=>
     obtain⟨iZ,mv'⟩:=S4.o.going MV.o.at_
     refine⟨j+1,iZ,by omega,by go_num,?_,mv'.fr.ownsRow NR.o fun k hk hS=>MV.o.at_.apS NR.o k hS hk⟩
     rw[apQ _ _ _ _ HQ.o]
     exact MV.o.trans mv'
    case measure=>simp[fH]<;>omega
  ·have r9:wr.cell? ⟨xb,6+i*10+9,af⟩=ae (ag ah x.ga):=dI.at_.iY X1.o 9 _ rfl
   have r8:wr.cell? ⟨xb,6+i*10+8,af⟩=ae (.int .i64<|x.wa-1):=dI.at_.iY X1.o 8 _ rfl
   have rf:∀o,wr.frozen? ⟨xb,o,af⟩=false:=jS dI.at_.blk
   obtain rfl:j=(bI x.aZ 2 4).length:=by omega
   clear dI dF r1 r2
   go_wp2_with fail
   go_region
   all_goals
    go_end0
    have azj:(bI x.aZ 2 4).take (bI x.aZ 2 4).length=bI x.aZ 2 4:=List.take_length
    have mv:=MV.o
    rw[azj]at mv
    have a1:=mv.at_.setCell {x with wa:=x.ga} X1.o (j:=8) (v:=ag ah x.ga) (by omega) rfl
    have a2:=a1.1.setCell {x with wa:=x.ga,ga:=min (2*x.ga) bo} (tJ X1.o) (j:=9) (v:=.int .i64<|min (2*x.ga) bo) (by omega) rfl
    refine⟨rfl,fv,?_⟩
    have e1:((((h.dQ i {x with wa:=x.wa-1}).ig fv<|vz h.fl i x.t (x.s==2)<|bI x.aZ 2 4).dQ i {x with wa:=x.ga}).dQ i {x with wa:=x.ga,ga:=min (2*x.ga) bo})=(h.ig fv<|vz h.fl i x.t (x.s==2)<|bI x.aZ 2 4).dQ i {x with wa:=x.ga,ga:=min (2*x.ga) bo}:=by
     simp[HS.dQ,HS.ig]
    have a3:=a2.1
    rw[e1]at a3
    refine(mv.trans<|bU.own (a1.2.trans a2.2 fun _ e=>.inl e) a3 fun k hk=>hk).after<|(Fr.refl _ _).drew
end
end
section
section
variable{h:HS}
def abp{s:aH}{i t j u:Int}{c:Bool}(h:(s.closed i t c).nw j=ae (u,true)):s.nw j=ae (u,true)/\¬(j=i/\u=t):=by
 unfold aH.closed at h;split at h
 ·unfold aH.set at h;simp only at h;split at h
  ·simp at h
  ·rename_i e;exact⟨h,fun z=>e z.1⟩
 ·rename_i e;refine⟨h,?_⟩;rintro⟨rfl,rfl⟩;exact e<|by simp[aH.isOpen,h]
variable{l:List Ms}{m:Ms}{pl:List PL}{P Q:Int}{L:List Rc}
def agU(hl:l.length<=100)(m:Ms):(sF l m).length<=100:=by
 unfold sF;split
 ·exact hl
 ·simp<;>omega
def abq{x:Ms}(h:x∈sF l m):x∈l\/x=m:=by
 unfold sF at h;split at h
 ·exact .inl h
 ·rcases oP.1 h with h|h
  ·exact .inl h
  ·exact .inr<|oN.1 h
def uG.send(h:uG pl P Q L l)(hm:yL P Q L m)(ha:m.k=2->OG pl m):uG pl P Q L (sF l m):=fun x hx=>by
 rcases abq hx with hx|rfl
 ·exact h x hx
 ·exact⟨hm,ha⟩
def apU(hm:yL P Q L m){q:Nat}{p:PL}{v':az}(hq:m.q=(q:Int)):yL P Q L ⟨2,m.q,m.p,m.t,m.c⟩/\OG (pl.set q ⟨p.lb,p.bm,v',p.s.closed m.p m.t m.c,p.out⟩) ⟨2,m.q,m.p,m.t,m.c⟩:=by
 refine⟨⟨.inr rfl,hm.q,hm.p,hm.t,hm.s,hm.ps⟩,fun j a ha hj hi=>?_⟩;have Dk:m.q=(j:Int):=hj;rcases Cc ha with⟨e1,rfl⟩|⟨e1,ha'⟩
 ·exact(abp hi).2 ⟨rfl,rfl⟩
 ·omega
def apV(x:PS)(q:Int)(h0:0<=q)(h4:q<4):bI (x.tie q 1).aZ 2 4=(bI x.aZ 2 4).filter (fun k=>decide<|k≠q):=by
 unfold bI;rw[List.filter_map,aff];congr 1;apply Ob;intro j _;rw[G5 x q 1 h0 h4 j];by_cases e:(j:Int)=q
 ·simp[e]
 ·have e2:¬(Int.ofNat j=q):=e;simp[e]
def apW(ts:List Int)(l:Int):(bI ts l 4).Nodup:=by
 unfold bI;exact List.Pairwise.map Int.ofNat (fun a b h e=>h<|Int.ofNat.inj e)<|List.nodup_range.filter _
end
end
section
structure Ls(w:aj)(kb nb cb sb xb i:Nat)(h:HS):Prop where
 k:w.heap[kb]? =ae (aC #[ay<|ae ⟨xb,4,af⟩] 181 (0,0))
 n:w.heap[nb]? =ae (aC #[ag ah i] 3 (0,0))
 c:w.heap[cb]? =ae (aC #[ag ah h.P,ag ah h.Q,ag ah h.T,ag ah h.K] 23 (0,0))
 s:w.heap[sb]? =ae (aC #[.func (.func 120) #[ay<|ae ⟨xb,69,af⟩] #[]] 120 (0,0))
def DW(kb nb cb sb:Nat):Array Value:=#[ay<|ae ⟨kb,0,af⟩,ay<|ae ⟨nb,0,af⟩,ay<|ae ⟨cb,0,af⟩,ay<|ae ⟨sb,0,af⟩]
inductive Lu(h:HS)(i:Nat)(x:PS):HS->Prop
 |wait (hw:1<x.wa):Lu h i x (h.dQ i {x with wa:=x.wa-1})
 |due (fv:az) (hw:x.wa<=1):Lu h i x ((h.ig fv<|vz h.fl i x.t (x.s==2)<|bI x.aZ 2 4).dQ i {x with wa:=x.ga,ga:=min (2*x.ga) h.K})
inductive vC(h:HS)(i:Nat)(x:PS):Bool->HS->Prop
 |wH (hs:x.s=1) (ht:x.si+1<h.T):vC h i x true (h.dQ i {x with si:=x.si+1})
 |timeout {ok:Bool} {h':HS} (hs:x.s=1) (ht:h.T<=x.si+1) (hw:jH (h.dQ i {x with si:=x.si+1}) ⟨3,i,0,x.t⟩ ok h'):vC h i x ok h'
 |rem {h':HS} (hs:x.s=2\/x.s=3) (hr:Lu h i x h'):vC h i x true h'
 |idle (hs:¬(x.s=1\/x.s=2\/x.s=3)):vC h i x true h
section
variable{w w':aj}{B xb n:Nat}{h:HS}
variable{i kb nb cb sb:Nat}{x:PS}
def aF.abr(hh:aF w B xb n h)(hx:h.ps[i]? =ae x)(q:Nat):bU w ((w.drewN q).setCell ⟨xb,6+i*10+7,af⟩<|.int .i64<|x.si+1) B xb n h n (h.dQ i {x with si:=x.si+1}):=by
 have a1:=(hh.after<|(Fr.refl _ _).drewN q).setCell {x with si:=x.si+1} hx (j:=7) (v:=.int .i64<|x.si+1) (by omega) rfl;exact(bU.own (h:=h) (n:=n) a1.2 a1.1 fun k hk=>hk).behind<|(Fr.refl _ _).drewN q
def apX(hh:aF w B xb n h)(hc:Ls w kb nb cb sb xb i h)(hi:i<6)(hx:h.ps[i]? =ae x)(hs:x.s=1)(ht:x.si+1<h.T)(hb:0<=x.si/\x.si<=1000000000000):
 aU prog 172 (DW kb nb cb sb) w fun e w'=>e=aT (aB true)/\bU w w' B xb n h n (h.dQ i {x with si:=x.si+1}):=by
 have HH:Hid (aF w B xb n h):=hh;have HX:Hid (h.ps[i]? =ae x):=hx;obtain⟨⟨_,e1,e2⟩,ef⟩:=hh.cellP hx;rw[hs]at e2;have c7:w.cell? ⟨xb,6+i*10+7,af⟩=ae (ag ah x.si):=hh.iY hx 7 _ rfl;have k0:w.cell? ⟨kb,0,af⟩=ae (ay<|ae ⟨xb,4,af⟩):=(aK hc.k 0).trans rfl;have n0:w.cell? ⟨nb,0,af⟩=ae (ag ah i):=(aK hc.n 0).trans rfl;have t0:w.cell? ⟨cb,2,af⟩=ae (ag ah h.T):=(aK hc.c 2).trans rfl;have t1:w.cell? ⟨cb,3,af⟩=ae (ag ah h.K):=(aK hc.c 3).trans rfl;have s0:w.cell? ⟨sb,0,af⟩=ae (.func (.func 120) #[ay<|ae ⟨xb,69,af⟩] #[]):=(aK hc.s 0).trans rfl;have NE:Hid (¬cb=xb/\¬kb=xb/\¬nb=xb):=by
  refine⟨fun e=>?_,fun e=>?_,fun e=>?_⟩
  ·have a:=hc.c;rw[e,hh.blk]at a;simp at a
  ·have a:=hc.k;rw[e,hh.blk]at a;simp at a
  ·have a:=hc.n;rw[e,hh.blk]at a;simp at a
 have lu:(i:Int)<6:=by omega
 have dR:(0:Int)<=(i:Int):=by omega
 have aI:=aX hh.blk;unfold DW;have ne1:=NE.o.1;clear hh hx hc;go_enter func172,ntmps172
 go_wp2_with fail
 go_quiet (fail)
 go_wp2_with fail
 go_quiet (fail)
 go_wp2
 go_ret;exact⟨rfl,(HH.o.abr HX.o _).after<|(Fr.refl _ _).drewN _⟩
def apY(hh:aF w B xb n h)(hc:Ls w kb nb cb sb xb i h)(hi:i<6)(hx:h.ps[i]? =ae x)(hs:x.s=1)(ht:h.T<=x.si+1)(hb:0<=x.si/\x.si<=1000000000000)(hm:mD h ⟨3,i,0,x.t⟩):
 aU prog 172 (DW kb nb cb sb) w fun e w'=>∃ok h',e=aT (aB ok)/\jH (h.dQ i {x with si:=x.si+1}) ⟨3,i,0,x.t⟩ ok h'/\bU w w' B xb n h n h':=by
 have HH:Hid (aF w B xb n h):=hh;have HX:Hid (h.ps[i]? =ae x):=hx;obtain⟨⟨_,e1,e2⟩,ef⟩:=hh.cellP hx;rw[hs]at e2;have c7:w.cell? ⟨xb,6+i*10+7,af⟩=ae (ag ah x.si):=hh.iY hx 7 _ rfl;have k0:w.cell? ⟨kb,0,af⟩=ae (ay<|ae ⟨xb,4,af⟩):=(aK hc.k 0).trans rfl;have n0:w.cell? ⟨nb,0,af⟩=ae (ag ah i):=(aK hc.n 0).trans rfl;have t0:w.cell? ⟨cb,2,af⟩=ae (ag ah h.T):=(aK hc.c 2).trans rfl;have t1:w.cell? ⟨cb,3,af⟩=ae (ag ah h.K):=(aK hc.c 3).trans rfl;have s0:w.cell? ⟨sb,0,af⟩=ae (.func (.func 120) #[ay<|ae ⟨xb,69,af⟩] #[]):=(aK hc.s 0).trans rfl;have NE:Hid (¬cb=xb/\¬kb=xb/\¬nb=xb):=by
  refine⟨fun e=>?_,fun e=>?_,fun e=>?_⟩
  ·have a:=hc.c;rw[e,hh.blk]at a;simp at a
  ·have a:=hc.k;rw[e,hh.blk]at a;simp at a
  ·have a:=hc.n;rw[e,hh.blk]at a;simp at a
 have lu:(i:Int)<6:=by omega
 have dR:(0:Int)<=(i:Int):=by omega
 have aI:=aX hh.blk;unfold DW;have ne1:=NE.o.1;have ne2:=NE.o.2.1;have ne3:=NE.o.2.2;have hg:decide (x.si+1<h.T)=false:=qW (by omega);have HC:Hid (∀W,aF W B xb n (h.dQ i {x with si:=x.si+1})->aU prog 67 #[ay<|ae ⟨xb,4,af⟩,ag ah i,aB false] W (Ha (h.dQ i {x with si:=x.si+1}) ⟨3,i,0,x.t⟩ W B xb n)):=fun W hW=>aa3 hW (tJ hx) false ⟨hm.small,hm.kp,hm.room,hm.end_⟩;clear hh hx hc hm;go_enter func172,ntmps172
 go_wp2_with fail
 go_quiet (fail)
 go_wp2_with fail
 go_region_law
  ((go_simp;go_at_call 67;refine(HC.o _<|(HH.o.abr HX.o _).at_.after<|(Fr.refl _ _).drew).mono ?_;intro e w3 BD
    obtain⟨ho,dI⟩:=BD
    have R1:=ho
    have R2:Hid (bU w w3 B xb n h n _):=(HH.o.abr HX.o _).trans<|dI.behind<|(Fr.refl _ _).drew
    clear ho dI))
 all_goals
  go_wp2
  go_ret
  exact⟨_,_,rfl,R1,R2.o⟩
def apZ(hh:aF w B xb n h)(hi:i<6)(hx:h.ps[i]? =ae x)(Jk: -1000000000000<=x.wa/\x.wa<=1000000000000)(xq:0<=x.ga/\x.ga<=1000000000000):
 aU prog 173 #[ay<|ae ⟨xb,4,af⟩,ag ah i,ag ah h.K,.func (.func 120) #[ay<|ae ⟨xb,69,af⟩] #[]] w fun e w'=>e=aT (dK #[])/\∃h',Lu h i x h'/\bU w w' B xb n h n h':=by
 by_cases hw:1<x.wa
 ·exact(apR hh hi hx _ _ hw<|by omega).mono fun e w' ⟨a,b⟩=>⟨a,_,.wait hw,b⟩
 ·exact(apT hh hi hx _ (by omega) (by omega) xq.1 xq.2).mono fun e w' ⟨a,fv,b⟩=>⟨a,_,.due fv<|by omega,b⟩
def ap0(hh:aF w B xb n h)(hc:Ls w kb nb cb sb xb i h)(hi:i<6)(hx:h.ps[i]? =ae x)(hs:x.s=2\/x.s=3)(Jk: -1000000000000<=x.wa/\x.wa<=1000000000000)(xq:0<=x.ga/\x.ga<=1000000000000):
 aU prog 172 (DW kb nb cb sb) w fun e w'=>e=aT (aB true)/\∃h',Lu h i x h'/\bU w w' B xb n h n h':=by
 have HH:Hid (aF w B xb n h):=hh;have HX:Hid (h.ps[i]? =ae x):=hx;obtain⟨⟨_,e1,e2⟩,ef⟩:=hh.cellP hx;have b1:(x.s==1)=false:=by
  rcases hs with e|e<;>rw[e]<;>rfl
 have k0:w.cell? ⟨kb,0,af⟩=ae (ay<|ae ⟨xb,4,af⟩):=(aK hc.k 0).trans rfl;have n0:w.cell? ⟨nb,0,af⟩=ae (ag ah i):=(aK hc.n 0).trans rfl;have t0:w.cell? ⟨cb,2,af⟩=ae (ag ah h.T):=(aK hc.c 2).trans rfl;have t1:w.cell? ⟨cb,3,af⟩=ae (ag ah h.K):=(aK hc.c 3).trans rfl;have s0:w.cell? ⟨sb,0,af⟩=ae (.func (.func 120) #[ay<|ae ⟨xb,69,af⟩] #[]):=(aK hc.s 0).trans rfl;have NE:Hid (¬cb=xb/\¬kb=xb/\¬nb=xb):=by
  refine⟨fun e=>?_,fun e=>?_,fun e=>?_⟩
  ·have a:=hc.c;rw[e,hh.blk]at a;simp at a
  ·have a:=hc.k;rw[e,hh.blk]at a;simp at a
  ·have a:=hc.n;rw[e,hh.blk]at a;simp at a
 have lu:(i:Int)<6:=by omega
 have dR:(0:Int)<=(i:Int):=by omega
 have aI:=aX hh.blk;unfold DW;have HE:Hid (∀W,aF W B xb n h->aU prog 66 #[ay<|ae ⟨xb,6+i*10,af⟩] W fun e w'=>e=aT (aB true)/\W=w'):=fun W hW=>by
  have:=xM (o:=6+i*10) x.s<|hW.iY hx 2 _ rfl;rw[kF hs]at this;exact this
 have HC:Hid (∀W,aF W B xb n h->aU prog 173 #[ay<|ae ⟨xb,4,af⟩,ag ah i,ag ah h.K,.func (.func 120) #[ay<|ae ⟨xb,69,af⟩] #[]] W fun e w'=>e=aT (dK #[])/\∃h',Lu h i x h'/\bU W w' B xb n h n h'):=fun W hW=>apZ hW hi hx Jk xq;clear hh hx hc hs;go_enter func172,ntmps172
 go_wp2_with fail
 go_quiet (fail)
 go_wp2_with (first
  |(go_at_call 66;refine(HE.o _<|HH.o.after<|(Fr.refl _ _).drewN _).mono ?_;rintro e w1 ⟨rfl,rfl⟩)
  |(go_at_call 173;refine(HC.o _<|HH.o.after<|(Fr.refl _ _).drewN _).mono ?_;rintro e w2 ⟨rfl,h',hr,dI⟩
    have R2:Hid (Lu h i x h'/\bU w w2 B xb n h n h'):=⟨hr,dI.behind<|(Fr.refl _ _).drewN _⟩
    clear hr dI))
 go_ret;exact⟨rfl,h',R2.o⟩
def ap1(hh:aF w B xb n h)(hc:Ls w kb nb cb sb xb i h)(hi:i<6)(hx:h.ps[i]? =ae x)(hs:¬(x.s=1\/x.s=2\/x.s=3)):
 aU prog 172 (DW kb nb cb sb) w fun e w'=>e=aT (aB true)/\Fr aP w w':=by
 have HH:Hid (aF w B xb n h):=hh;have HX:Hid (h.ps[i]? =ae x):=hx;obtain⟨⟨_,e1,e2⟩,ef⟩:=hh.cellP hx;have b1:(x.s==1)=false:=by simpa using fun e=>hs<|.inl e
 have k0:w.cell? ⟨kb,0,af⟩=ae (ay<|ae ⟨xb,4,af⟩):=(aK hc.k 0).trans rfl;have n0:w.cell? ⟨nb,0,af⟩=ae (ag ah i):=(aK hc.n 0).trans rfl;have t0:w.cell? ⟨cb,2,af⟩=ae (ag ah h.T):=(aK hc.c 2).trans rfl;have t1:w.cell? ⟨cb,3,af⟩=ae (ag ah h.K):=(aK hc.c 3).trans rfl;have s0:w.cell? ⟨sb,0,af⟩=ae (.func (.func 120) #[ay<|ae ⟨xb,69,af⟩] #[]):=(aK hc.s 0).trans rfl;have NE:Hid (¬cb=xb/\¬kb=xb/\¬nb=xb):=by
  refine⟨fun e=>?_,fun e=>?_,fun e=>?_⟩
  ·have a:=hc.c;rw[e,hh.blk]at a;simp at a
  ·have a:=hc.k;rw[e,hh.blk]at a;simp at a
  ·have a:=hc.n;rw[e,hh.blk]at a;simp at a
 have lu:(i:Int)<6:=by omega
 have dR:(0:Int)<=(i:Int):=by omega
 have aI:=aX hh.blk;unfold DW;have HE:Hid (∀W,aF W B xb n h->aU prog 66 #[ay<|ae ⟨xb,6+i*10,af⟩] W fun e w'=>e=aT (aB false)/\W=w'):=fun W hW=>by
  have:=xM (o:=6+i*10) x.s<|hW.iY hx 2 _ rfl;rw[qW fun e=>hs<|.inr e]at this;exact this
 clear hh hx hc hs;go_enter func172,ntmps172
 go_wp2_with fail
 go_quiet (fail)
 go_wp2_with (go_at_call 66;refine(HE.o _<|HH.o.after<|(Fr.refl _ _).drewN _).mono ?_;rintro e w1 ⟨rfl,rfl⟩)
 go_ret;exact⟨rfl,(Fr.refl _ _).drewN _⟩
structure PS.DT(x:PS):Prop where
 si:0<=x.si/\x.si<=1000000000000
 wa: -1000000000000<=x.wa/\x.wa<=1000000000000
 ga:0<=x.ga/\x.ga<=1000000000000
def ap2(hh:aF w B xb n h)(hc:Ls w kb nb cb sb xb i h)(hi:i<6)(hx:h.ps[i]? =ae x)(hf:x.DT)(hm:mD h ⟨3,i,0,x.t⟩):
 aU prog 172 (DW kb nb cb sb) w fun e w'=>∃ok h',e=aT (aB ok)/\vC h i x ok h'/\bU w w' B xb n h n h':=by
 by_cases h1:x.s=1
 ·by_cases ht:x.si+1<h.T
  ·exact(apX hh hc hi hx h1 ht hf.si).mono fun e w' ⟨a,b⟩=>⟨_,_,a,.wH h1 ht,b⟩
  ·exact(apY hh hc hi hx h1 (by omega) hf.si hm).mono fun e w' ⟨ok,h',a,b,c⟩=>⟨_,_,a,.timeout h1 (by omega) b,c⟩
 ·by_cases h2:x.s=2\/x.s=3
  ·exact(ap0 hh hc hi hx h2 hf.wa hf.ga).mono fun e w' ⟨a,h',b,c⟩=>⟨_,_,a,.rem h2 b,c⟩
  ·have h3:¬(x.s=1\/x.s=2\/x.s=3):=fun e=>e.elim h1 h2;exact(ap1 hh hc hi hx h3).mono fun e w' ⟨a,b⟩=>⟨_,_,a,.idle h3,(bU.refl hh).after b⟩
end
end
section
def Jp(kb cb sb nb:Nat):Value:=.func (.func 172) #[]<|DW kb nb cb sb
def ap3:(prog.info? 38).map (fun i=>(i.zero,i.size,i.bytes))=ae (ae .nilFunc,1,8):=by kernel_rfl
section
variable{w w':aj}{xb:Nat}
structure OH(w w':aj)(xb P:Nat)(Q T K:Int)(v:az)(mY:List Nat):Prop where
 fr:Fr aP w w'
 k:w'.heap[w.heap.size]? =ae (aC #[ay<|ae ⟨xb,4,af⟩] 181 (0,0))
 c:w'.heap[w.heap.size+1]? =ae (aC #[ag ah P,ag ah Q,ag ah T,ag ah K] 23 (0,0))
 s:w'.heap[w.heap.size+1+1]? =ae (aC #[.func (.func 120) #[ay<|ae ⟨xb,69,af⟩] #[]] 120 (0,0))
 row:w'.ownsRow w.heap.size 38 1 v mY.length (mY.map<|Jp w.heap.size (w.heap.size+1)<|w.heap.size+1+1)
 n:∀(i nb:Nat),mY[i]? =ae nb->w'.heap[nb]? =ae (aC #[ag ah i] 3 (0,0))
def agV{W:aj}{B':Nat}{v:az}{m:Nat}{xs:List az}(h:W.ownsRow B' 38 1 v m xs):∃a c,v=.slice a m c/\m<=maxLen:=by
 rcases h.2 with⟨rfl,rfl⟩|⟨g,cap,cur,rfl,_,_,h1,h2,_⟩
 ·exact⟨af,0,rfl,mi _⟩
 ·exact⟨_,_,rfl,eG h1 h2⟩
def ap4(P:Nat)(Q T K:Int)(hP:P<=6):
 aU prog 119 #[ay<|ae ⟨xb,4,af⟩,gY #[ag ah P,ag ah Q,ag ah T,ag ah K],.func (.func 120) #[ay<|ae ⟨xb,69,af⟩] #[]] w fun e w'=>∃(v:az) (mY:List Nat),e=aT v/\mY.length=P/\OH w w' xb P Q T K v mY:=by
 obtain⟨i0,dR,iE,gG,iU⟩:=aEd ap3;have Zu:(P:Int)<=6:=by omega
 go_enter func119,ntmps119
 go_wp2_with fail
 go_loopw [7,11] (fun v iv w'=>∃(j:Nat) (mY:List Nat),j<=P/\iv=ag ah j/\mY.length=j/\OH w w' xb P Q T K v mY) (fun _ iv _=>P-(fH iv).toNat)
 case atStart=>
  refine⟨0,[],mi _,rfl,rfl,⟨((bG _).alloc _).alloc _,?_,?_,?_,aD9 _ _ _ _,fun i nb h=>by simp at h⟩⟩
  ·exact(((Fr.refl (fun _=>False) _).alloc _).alloc _).block w.heap.size (by simp) id |>.trans (aDY _ _)
  ·exact((Fr.refl (fun _=>False) _).alloc _).block (w.heap.size+1) (by simp) id |>.trans (BQ _<|by simp)
  ·exact BQ _<|by simp
 case round=>
  obtain⟨j,mY,hj,rfl,hl,hm⟩:=hrel
  have HM:Hid (OH w wr xb P Q T K u7 mY):=hm
  obtain⟨va,vc,rfl,Dj⟩:=agV hm.row
  unfold dU at Dj
  have eH:=hm.fr.size
  clear hm
  by_cases aI:j<P
  ·have rW:(j:Int)<(P:Int):=by omega
   have nK:(Jp w.heap.size (w.heap.size+1) (w.heap.size+1+1) wr.heap.size).oneCell'=true:=rfl
   go_wp2_with (at_builtin;refine aEu _ rfl _ _ 185 rfl w.heap.size 38 i0 _ 1 8 underlying185 dR iE gG iU rfl (by decide) _ _ (mY.map<|Jp w.heap.size (w.heap.size+1)<|w.heap.size+1+1) rfl (by exact((HM.o.row.alloc _).alloc _)) ⟨wr.heap.size+1,0,af⟩ 1 1 [Jp w.heap.size (w.heap.size+1) (w.heap.size+1+1) wr.heap.size] rfl rfl (aD7 (cs:=#[Jp w.heap.size (w.heap.size+1) (w.heap.size+1+1) wr.heap.size]) (t:=38) (fr:=(0,0))<|BQ _<|by simp) (by simp[nK]) (by decide) (by simp only[dU];omega) (by omega) (by simp<;>omega) (wr.heap.size+1+1) (by simp) ?_;intro gg Oq w3 pY mO vk uk)
   have Ah:(mY++[wr.heap.size]).length=j+1:=by simp[hl]
   have hrt:∀b,Value.ownBlock (.slice va mY.length vc)=ae b->tag wr b=38:=fun b hb=>iK HM.o.row hb
   have aY:∀(b:Nat) (cs:Array az) (ty:dw),ty≠38->wr.heap[b]? =ae (.cells cs ty (0,0))->w3.heap[b]? =ae (.cells cs ty (0,0)):=by
    intro b cs ty IK hb;have iF:=aX hb;have f0:Fr (fun x=>Value.ownBlock (.slice va mY.length vc)=ae x) wr w3:=(((Fr.refl _ _).alloc _).alloc _).grown mO fun x ex=>.inl ex;refine(f0.block b iF fun e=>?_).trans hb;have:=hrt b e;rw[lM hb]at this;exact IK this
   refine⟨⟨j+1,mY++[wr.heap.size],by omega,by go_num,Ah,⟨?_,aY _ _ _ (by decide) HM.o.k,aY _ _ _ (by decide) HM.o.c,aY _ _ _ (by decide) HM.o.s,?_,?_⟩⟩,by simp[fH]<;>omega⟩
   ·have f0:Fr (fun x=>Value.ownBlock (.slice va mY.length vc)=ae x) wr w3:=(((Fr.refl _ _).alloc _).alloc _).grown mO (fun x ex=>.inl ex)
    exact HM.o.fr.trans f0 fun x hx=>.inr (HM.o.row.lt x hx).1
   ·rw[Ah]
    simpa[hl]using pY
   ·intro i nb hi
    by_cases zi:i<mY.length
    ·rw[uz zi]at hi
     exact aY _ _ _ (by decide)<|HM.o.n i nb hi
    ·have e:i=mY.length:=by
      have:=(dM.1 hi).1;simp at this;omega
     subst e
     simp at hi
     subst hi
     rw[hl]
     refine(mO.block wr.heap.size (by simp<;>omega) ?_).trans<|((Fr.refl (fun _=>False) _).alloc _).block wr.heap.size (by simp) id |>.trans (aDY _ _)
     intro e
     have:=(HM.o.row.lt _ e.symm).2
     omega
  ·go_wp2
   go_ret
   exact⟨_,mY,rfl,by omega,HM.o⟩
end
end
section
inductive qM(h:HS):Nat->HS->Prop
 |zero:qM h 0 h
 |succ {j:Nat} {h1 h2:HS} {x:PS}:qM h j h1->h1.ps[j]? =ae x->vC h1 j x true h2->qM h (j+1) h2
inductive OI(h:HS):Bool->HS->Prop
 |all {h':HS}:qM h h.P.toNat h'->OI h true h'
 |ru {j:Nat} {h1 h2:HS} {x:PS}:j<h.P.toNat->qM h j h1->h1.ps[j]? =ae x->vC h1 j x false h2->OI h false h2
def vC.jg{h h':HS}{i:Nat}{x:PS}{ok:Bool}(l:vC h i x ok h'):h'.P=h.P/\h'.Q=h.Q/\h'.T=h.T/\h'.K=h.K:=by
 cases l with
 |wH=>exact⟨rfl,rfl,rfl,rfl⟩
 |timeout _ _ hw=>cases hw<;>exact⟨rfl,rfl,rfl,rfl⟩
 |rem _ hr=>cases hr<;>exact⟨rfl,rfl,rfl,rfl⟩
 |idle=>exact⟨rfl,rfl,rfl,rfl⟩
def qM.jg{h h':HS}{j:Nat}(t:qM h j h'):h'.P=h.P/\h'.Q=h.Q/\h'.T=h.T/\h'.K=h.K:=by
 induction t with
 |zero=>exact⟨rfl,rfl,rfl,rfl⟩
 |succ _ _ hl ih=>
  obtain⟨a,b,c,d⟩:=ih;obtain⟨a',b',c',d'⟩:=hl.jg;exact⟨a'.trans a,b'.trans b,c'.trans c,d'.trans d⟩
section
variable{w w':aj}{B xb n:Nat}{h:HS}
variable{v:az}{w1:aj}{P i:Nat}{mY:List Nat}
def ap5{W:aj}{B':Nat}{m:Nat}{xs:List az}(hr:W.ownsRow B' 38 1 v m xs){j:Nat}{u:az}(hj:xs[j]? =ae u):∃g c,v=aJ (ae ⟨g,0,af⟩) m c/\W.cell? ⟨g,j,af⟩=ae u:=by
 rcases hr.2 with⟨rfl,rfl⟩|⟨g,cap,cur,rfl,_⟩
 ·have:=hr.1;simp at this;subst this;simp at hj
 ·refine⟨g,cap,rfl,?_⟩;have:=hr.cells (g:=g) rfl j u hj;rw[aEn]at this;simpa using this
def ap6{wr:aj}{hj:HS}(hh:aF w B xb n h)(m:OH w.drew w1 xb P h.Q h.T h.K v mY)(hP:h.P=P)(hi:i<mY.length)(fr:Fr (h.fA xb) w1 wr)(ht:qM h i hj):
 Ls wr w.drew.heap.size mY[i] (w.drew.heap.size+1) (w.drew.heap.size+1+1) xb i hj:=by
 have f1:=m.fr;have UT:aF w1 B xb n h:=hh.after<|(Fr.dr w).trans m.fr fun _ hx=>hx.elim;have old:∀k,w.drew.heap.size<=k->¬h.fA xb k:=fun k hk e=>by
  have:=(hh.qK e).1;have eH:w.drew.heap.size=w.heap.size:=rfl;omega
 have aY:∀(b:Nat) (cs:Array az) (ty:dw),¬h.fA xb b->w1.heap[b]? =ae (.cells cs ty (0,0))->wr.heap[b]? =ae (.cells cs ty (0,0)):=fun b cs ty hb hc=>(fr.block b (aX hc) hb).trans hc;obtain⟨a,b,c,d⟩:=ht.jg;refine⟨aY _ _ _ (old _<|dm _) m.k,aY _ _ _ (fun e=>?_)<|m.n i _<|eY hi,?_,aY _ _ _ (old _<|by omega) m.s⟩
 ·have t:=lM<|m.n i _<|eY hi;rcases UT.aaS e with e|e|e|e|e|e|e;all_goals first
   |(rw[t]at e;cases e;done)
   |(obtain⟨e,_⟩:=e;rw[t]at e;cases e;done)
 ·rw[a,b,c,d,hP];exact aY _ _ _ (old _<|by omega) m.c
def ap7{wr:aj}{Q T K:Int}{va:Option Addr}{vl vc:Nat}(hh:aF w B xb n h)(m:OH w.drew w1 xb P Q T K (.slice va vl vc) mY)(hi:i<mY.length)(fr:Fr (h.fA xb) w1 wr):
 ∃g,(va=ae ⟨g,0,af⟩/\True)/\wr.cell? ⟨g,i,af⟩=ae (Jp w.drew.heap.size (w.drew.heap.size+1) (w.drew.heap.size+1+1) mY[i]):=by
 have old:∀k,w.drew.heap.size<=k->¬h.fA xb k:=fun k hk e=>by
  have:=(hh.qK e).1;have eH:w.drew.heap.size=w.heap.size:=rfl;omega
 have hr:=fr.ownsRow m.row fun k hk hS=>old k (m.row.lt k hk).1 hS;obtain⟨g,c,e,hc⟩:=ap5 hr (j:=i) (u:=Jp w.drew.heap.size (w.drew.heap.size+1) (w.drew.heap.size+1+1) mY[i]) (by rw[afg,eY hi];rfl);simp only[aD6]at e;exact⟨g,⟨e.1,trivial⟩,hc⟩
def agW(hh:aF w B xb n h)(hu:h.up=false):aU prog 56 #[ay<|ae ⟨xb,0,af⟩] w fun e w'=>e=aT (ag ah 5)/\w=w':=by
 have cu:=hh.cU;rw[hu]at cu;have aI:=aX hh.blk;clear hh;go_enter func56,ntmps56
 go_wp2
 go_ret;exact⟨rfl,rfl⟩
def agX(hh:aF w B xb n h)(hu:h.up=true)(hp:∀(j:Nat) (h1:HS) (x:PS),j<h.P.toNat->qM h j h1->h1.ps[j]? =ae x->x.DT/\mD h1 ⟨3,j,0,x.t⟩):
 aU prog 56 #[ay<|ae ⟨xb,0,af⟩] w fun e w'=>∃ok h',e=aT (.int .i64<|if ok then 0 else 5)/\OI h ok h'/\bU w w' B xb n h n h':=by
 have HH:Hid (aF w B xb n h):=hh;have HP:Hid (∀(j:Nat) (h1:HS) (x:PS),j<h.P.toNat->qM h j h1->h1.ps[j]? =ae x->x.DT/\mD h1 ⟨3,j,0,x.t⟩):=hp;have cu:=hh.cU;rw[hu]at cu;have c0:=hh.cP;have c1:w.cell? ⟨xb,1,af⟩=ae (ag ah h.Q):=by rw[aK hh.blk];rfl
 have c2:w.cell? ⟨xb,2,af⟩=ae (ag ah h.T):=by rw[aK hh.blk];rfl
 have c3:w.cell? ⟨xb,3,af⟩=ae (ag ah h.K):=by rw[aK hh.blk];rfl
 have aI:=aX hh.blk;obtain⟨P,hP⟩:=uA (show 0<=h.P by have:=hh.hP;omega);have Rw:P<=6:=by have:=hh.hP;omega
 rw[hP]at c0;have PP:Hid (h.P=(P:Int)):=hP;clear hh hp hP;go_enter func56,ntmps56
 go_wp2_with fail
 go_region_law
  ((go_simp;go_at_call 119;refine(ap4 P h.Q h.T h.K Rw).mono ?_;rintro e w1 ⟨v1,mY,rfl,kY,qR⟩
    have M1:Hid (OH w.drew w1 xb P h.Q h.T h.K v1 mY):=qR
    obtain⟨va,vc,rfl,Dj⟩:=agV qR.row
    rw[kY]at Dj
    unfold dU at Dj
    clear qR))
 all_goals
  go_wp2_with fail
  go_simp
  go_loopw [24] (fun iv w'=>∃(j:Nat) (hj:HS),j<=P/\iv=ag ah j/\qM h j hj/\bU w1 w' B xb n h n hj) (fun iv _=>P-(fH iv).toNat)
  case atStart=>exact⟨0,h,mi _,rfl,.zero,bU.refl<|HH.o.after<|(Fr.dr w).trans M1.o.fr fun _ hx=>hx.elim⟩
  case round=>
   obtain⟨j,hj,hle,rfl,ht,dI⟩:=hrel
   have MV:Hid (bU w1 wr B xb n h n hj):=dI
   have TT:Hid (qM h j hj):=ht
   by_cases lU:j<P
   ·have hjP:j<h.P.toNat:=by rw[PP.o];omega
    have hj6:j<hj.ps.length:=by rw[dI.at_.h6];omega
    obtain⟨g1,jJ,x0⟩:=ap7 HH.o M1.o (by rw[kY];exact lU) dI.fr
    obtain⟨rfl,_⟩:=jJ
    unfold Jp DW at x0
    have HC:=ap6 HH.o M1.o PP.o (i:=j) (by rw[kY];exact lU) dI.fr ht
    have HC':Hid (Ls wr w.drew.heap.size (mY[j]'(by rw[kY];exact lU)) (w.drew.heap.size+1) (w.drew.heap.size+1+1) xb j hj):=HC
    have HX:Hid (hj.ps[j]? =ae hj.ps[j]):=eY hj6
    have HF:=HP.o j hj _ hjP ht HX.o
    have HF':Hid (PS.DT hj.ps[j]/\mD hj ⟨3,j,0,hj.ps[j].t⟩):=HF
    have rW:(j:Int)<(P:Int):=by omega
    clear dI ht HC HF
    go_wp2_with
     ((go_at_call 172;refine(ap2 MV.o.at_ HC'.o (by omega) HX.o HF'.o.1 HF'.o.2).mono ?_;rintro e w4 ⟨ok,h4,rfl,uQ,Jq⟩
       have LK:Hid (vC hj j _ ok h4):=uQ
       have M4:Hid (bU wr w4 B xb n hj n h4):=Jq
       clear uQ Jq
       cases ok))
    ·go_wp2
     go_ret
     exact⟨false,h4,rfl,.ru hjP TT.o HX.o LK.o,(MV.o.trans M4.o).behind<|(Fr.dr w).trans M1.o.fr fun _ hx=>hx.elim⟩
    ·go_wp2
     go_roundw
     case rel=>exact⟨j+1,h4,by omega,by go_num,.succ TT.o HX.o LK.o,MV.o.trans M4.o⟩
     case measure=>simp[fH]<;>omega
   ·go_wp2
    go_ret
    have e:j=h.P.toNat:=by rw[PP.o];omega
    exact⟨true,hj,rfl,.all<|e▸TT.o,MV.o.behind<|(Fr.dr w).trans M1.o.fr fun _ hx=>hx.elim⟩
end
end
section
def gm(L:List Rc)(p t:Int)(c:Bool):Prop:=∃r∈L,r.k=3/\r.p=p/\r.m=t/\r.a=if c then 1 else 0
structure ag0(L:List Rc)(p:Int):Prop where
 le:∀t c,gm L p t c->t<(bz L p).t\/(t=(bz L p).t/\(bz L p).s≠1)
 one:∀t c c',gm L p t c->gm L p t c'->c=c'
 now:2<=(bz L p).s->gm L p (bz L p).t (decide<|(bz L p).s=2)
section
variable{P Q:Int}{L:List Rc}{r:Rc}{p t:Int}{c c':Bool}
def gm.snoc(d:gm L p t c)(r:Rc):gm (L++[r]) p t c:=by
 obtain⟨x,hx,h⟩:=d;exact⟨x,KT _ hx,h⟩
def gm.more(d:gm L p t c)(l:List Rc):gm (L++l) p t c:=by
 obtain⟨x,hx,h⟩:=d;exact⟨x,KT _ hx,h⟩
def gm.DX(d:gm (L++[r]) p t c):gm L p t c\/(r.k=3/\r.p=p/\r.m=t/\r.a=if c then 1 else 0):=by
 obtain⟨x,hx,h⟩:=d;rcases oP.1 hx with hx|hx
 ·exact .inl ⟨x,hx,h⟩
 ·rw[oN.1 hx]at h;exact .inr h
def Valid.Rx(hv:Valid P Q L)(p:Int):ag0 L p:=by
 induction hv with
 |nil=>exact⟨fun t c ⟨r,hr,_⟩=>by simp at hr,fun t c c' ⟨r,hr,_⟩=>by simp at hr,fun h=>by simp[bz,DR]at h⟩
 | @snoc L r hv hn ih=>
   by_cases hp:r.p=p
   ·subst hp;have hz:=xJ L r r.p;rcases hn.kind with⟨k1,k2,k3⟩|⟨k1,k2,k3⟩|⟨k1,k2,k3,k4⟩|⟨k1,k2,k3,k4⟩
    ·have e:bz (L++[r]) r.p={bz L r.p with e:=r.m}:=by rw[hz];simp[St.step,k1]
     have old:∀{t c},gm (L++[r]) r.p t c->gm L r.p t c:=fun d=>d.DX.resolve_right (by omega);rw[show ag0 (L++[r]) r.p↔_ from Iff.rfl];exact⟨fun t c d=>by rw[e];exact ih.le t c<|old d,fun t c c' d d'=>ih.one t c c' (old d)<|old d',fun h=>by rw[e]at h⊢;exact(ih.now h).snoc r⟩
    ·have e:bz (L++[r]) r.p=⟨(bz L r.p).e,r.m,1,(if(bz L r.p).s=0 then[]else(bz L r.p).ps)++[r.a]⟩:=by rw[hz];simp[St.step,k1]
     have old:∀{t c},gm (L++[r]) r.p t c->gm L r.p t c:=fun d=>d.DX.resolve_right (by omega);refine⟨fun t c d=>?_,fun t c c' d d'=>ih.one t c c' (old d)<|old d',fun h=>?_⟩
     ·have:=ih.le t c<|old d;rw[e];show t<r.m\/_;rcases k3 with⟨k3,k4⟩|⟨k3,k4,_⟩<;>omega
     ·rw[e]at h;exact absurd h (by show¬(2:Int)<=1;omega)
    ·have e:bz (L++[r]) r.p={bz L r.p with s:=3-r.a}:=by rw[hz];simp[St.step,k1]
     have lt:∀{t c},gm L r.p t c->t<(bz L r.p).t:=fun{t c} d=>by have:=ih.le t c d;omega
     refine⟨fun t c d=>?_,fun t c c' d d'=>?_,fun _=>?_⟩
     ·rw[e];show t<(bz L r.p).t\/(t=(bz L r.p).t/\3-r.a≠1);rcases d.DX with d|⟨_,_,h3,_⟩
      ·exact .inl<|lt d
      ·exact .inr ⟨by omega,by omega⟩
     ·rcases d.DX with d|⟨_,_,h3,h4⟩<;>rcases d'.DX with d'|⟨_,_,h3',h4'⟩
      ·exact ih.one t c c' d d'
      ·have:=lt d;omega
      ·have:=lt d';omega
      ·cases c<;>cases c'<;>simp_all
     ·rw[e];refine⟨r,aah _<|by simp,k1,rfl,k4,?_⟩;show r.a=if decide (3-r.a=2)=true then 1 else 0
      rcases k2 with k2|k2<;>rw[k2]<;>rfl
    ·have e:bz (L++[r]) r.p={bz L r.p with s:=0}:=by rw[hz];simp[St.step,k1]
     have old:∀{t c},gm (L++[r]) r.p t c->gm L r.p t c:=fun d=>d.DX.resolve_right (by omega);refine⟨fun t c d=>?_,fun t c c' d d'=>ih.one t c c' (old d)<|old d',fun h=>?_⟩
     ·have:=ih.le t c<|old d;rw[e];show t<(bz L r.p).t\/(t=(bz L r.p).t/\(0:Int)≠1);omega
     ·rw[e]at h;exact absurd h (by show¬(2:Int)<=0;omega)
   ·have hz:bz (L++[r]) p=bz L p:=by rw[xJ,St.GZ _ hp]
    have old:∀{t c},gm (L++[r]) p t c->gm L p t c:=fun d=>d.DX.resolve_right fun h=>hp h.2.1;exact⟨fun t c d=>by rw[hz];exact ih.le t c<|old d,fun t c c' d d'=>ih.one t c c' (old d)<|old d',fun h=>by rw[hz]at h⊢;exact(ih.now h).snoc r⟩
end
structure PK(z:St)(x:PS):Prop where
 e:x.e=z.e
 t:x.t=z.t
 s:x.s=z.s
 none:x.s=0->x.a=0/\x.b=0/\x.c=0/\x.d=0
 some:x.s≠0->∀q:Nat,q<4->(1<=x.aZ.getD q 0↔(q:Int)∈z.ps)
 fB:∀q:Nat,0<=x.aZ.getD q 0/\x.aZ.getD q 0<=2/\(x.s<=1->x.aZ.getD q 0<=1)
variable{z:St}{x:PS}
def xK.pk{D:List Du}{tm hi i:Int}(h:xK z D tm hi i x):PK z x:=⟨h.e,h.t,h.s,h.none,h.some,h.fB⟩
def PK.aqa(h:PK z x)(i:Int):xK z ((bI x.aZ 2 4).map fun q=>⟨i,q,0+x.wa,x.ga⟩) 0 (-x.si) i x:=
 ⟨h.e,h.t,h.s,h.none,h.some,h.fB,List.filter_eq_self.2 fun d hd=>by
  obtain⟨q,_,rfl⟩:=Je.1 hd;simp,fun _=>by omega⟩
structure PC(T K:Int)(x:PS):Prop where
 si:0<=x.si/\x.si<=51/\(x.s<=1->x.si<T)
 wa:0<=x.wa/\x.wa<=16
 ga:0<=x.ga/\x.ga<=16
 due:2<=x.s->(1<=x.wa/\x.wa<=K)/\(1<=x.ga/\x.ga<=K)
structure PP(pl:List PL)(i:Int)(x:PS):Prop where
 opn:2<=x.s->∀(q:Nat) (p:PL) (t:Int),pl[q]? =ae p->p.s.nw i=ae (t,true)->x.aZ.getD q 0=2
 Ce:2<=x.s->bI x.aZ 2 4≠[]
structure PR(pl:List PL)(T K:Int)(z:St)(i:Int)(x:PS):Prop where
 k:PK z x
 c:PC T K x
 p:PP pl i x
structure LK(N:Nat)(L:List Rc)(s:aH):Prop where
 inv:Inv s
 dec:∀e∈s.es,e.k≠1->gm L e.p e.t (decide<|e.k=2)
 fB:s.es.length<=N
structure Sn(N:Nat)(h:HS)(L:List Rc):Prop where
 P1:1<=h.P/\h.P<=6
 Q1:1<=h.Q/\h.Q<=4
 T1:1<=h.T/\h.T<=50
 K1:1<=h.K/\h.K<=16
 h6:h.ps.length=6
 valid:Valid h.P h.Q L
 fB:L.length<=N
 jb:h.jb=dV (L.flatMap dJ)
 br:h.br=false
 kp:0<=h.kp/\h.kp<=16
 opn:Jn h.pl L h.P
 ed:∀(q:Nat) (p:PL),h.pl[q]? =ae p->LK N L p.s
 ms:uG h.pl h.P h.Q L h.fl
 dec:∀m∈h.fl,gm L m.p m.t m.c
 fl:h.fl.length<=100
 up:h.up=true->∀(i:Nat) (x:PS),h.ps[i]? =ae x->PR h.pl h.T h.K (bz L i) i x
 dn:h.up=false->h.ps=wE
section
variable{N:Nat}{h:HS}{L:List Rc}{r:Rc}
def LK.mono{M:Nat}{s:aH}(k:LK N L s)(hM:N<=M):LK M L s:=⟨k.inv,k.dec,eG k.fB hM⟩
def LK.snoc{s:aH}(k:LK N L s)(r:Rc):LK N (L++[r]) s:=⟨k.inv,fun e he hk=>(k.dec e he hk).snoc r,k.fB⟩
def Sn.mono{M:Nat}(s:Sn N h L)(hM:N<=M):Sn M h L:=
 ⟨s.P1,s.Q1,s.T1,s.K1,s.h6,s.valid,eG s.fB hM,s.jb,s.br,s.kp,s.opn,fun q p hp=>(s.ed q p hp).mono hM,s.ms,s.dec,s.fl,s.up,s.dn⟩
def Sn.may(c:Sn N h L)(hN:N<=100000000)(hn:Next h.P h.Q L r):mD h r:=by
 have hs:=hn.small c.valid c.P1.2 c.Q1.2;have hf:=c.fB;refine⟨⟨L.length,by omega,hs⟩,c.kp,?_,fun hk=>?_⟩
 ·rw[c.jb,E7,Cb];omega
 ·rcases hn.kind with⟨h1,_⟩|⟨h1,_⟩|⟨_,h2,_⟩|⟨h1,_⟩
  ·omega
  ·omega
  ·exact h2
  ·omega
def Sn.kT(c:Sn N h L)(hN:N<=100000000):Rt h L []:=by
 have hs:=c.valid.small c.P1.2 c.Q1.2;have hf:=c.fB;exact⟨by rw[c.jb,ql],by simp,⟨L.length,by omega,hs⟩,c.valid.end_,by omega⟩
def PK.bY{P Q:Int}{z x}(hn:Next P Q L r)(hv:Valid P Q L)(hQ:Q<=4)(hz:z=bz L r.p)(k:PK z x):PK (bz (L++[r]) r.p) (x.bY r):=by
 subst hz;have pr:=k.aqa r.p;rw[xJ];rcases hn.kind with⟨k1,k2,k3⟩|⟨k1,k2,k3⟩|⟨k1,k2,k3,k4⟩|⟨k1,k2,k3,k4⟩
 ·exact(pr.aoj rfl k1).pk
 ·have:=(pr.add rfl k1 ⟨k2.1,by omega⟩ (by omega) (0- -x.si) rfl).pk;exact⟨this.e,this.t,this.s,this.none,this.some,this.fB⟩
 ·exact(pr.end_ rfl k1 k2 k3 (Q:=4) (dm _) (fun q hq=>by have:=(hv.qL r.p).ps q hq;omega)).pk
 ·exact(pr.done (D':=[]) rfl k1 rfl).pk
def PK.other{z x}{i:Int}(hp:r.p≠i)(hz:z=bz L i)(k:PK z x):PK (bz (L++[r]) i) x:=by
 subst hz;rw[xJ,St.GZ _ hp];exact k
end
end
section
def aH.data(s:aH):List iy:=s.es.filter fun e=>decide<|e.k=1
def Qt(L L':List Rc):Prop:=∃l,L'=L++l/\∀r∈l,r.k=4\/(r.k=3/\r.a=0)
def Qt.refl(L:List Rc):Qt L L:=⟨[],by simp,by simp⟩
def Qt.trans{L L' Ry:List Rc}(a:Qt L L')(b:Qt L' Ry):Qt L Ry:=by
 obtain⟨l,rfl,h1⟩:=a;obtain⟨l',rfl,h2⟩:=b;exact⟨l++l',by simp,fun r hr=>(oP.1 hr).elim (h1 r)<|h2 r⟩
def Qt.one{L:List Rc}{r:Rc}(h:r.k=4\/(r.k=3/\r.a=0)):Qt L (L++[r]):=⟨[r],rfl,by simpa using h⟩
structure Gw(p p':PL):Prop where
 ext:Ext p.s p'.s
 data:p'.s.data=p.s.data
def tN(pl fZ:List PL):Prop:=fZ.length=pl.length/\∀(q:Nat) (p:PL),pl[q]? =ae p->∃p',fZ[q]? =ae p'/\Gw p p'
def Ext.trans{a b c:aH}(h:Ext a b)(h':Ext b c):Ext a c:=by
 obtain⟨t,ht⟩:=h.es;obtain⟨t',Qs⟩:=h'.es;have hm:∀e∈a.es,e∈b.es:=fun e he=>by rw[ht];exact KT _ he
 exact⟨⟨t++t',by rw[Qs,ht];simp⟩,fun e he hk ho=>h'.open_ e (hm e he) hk<|h.open_ e he hk ho,fun e he hk ho=>(h'.oz e (hm e he) hk<|h.open_ e he hk ho).trans<|h.oz e he hk ho⟩
def Gw.refl(p:PL):Gw p p:=⟨.refl _,rfl⟩
def Gw.trans{a b c:PL}(h:Gw a b)(h':Gw b c):Gw a c:=⟨h.ext.trans h'.ext,h'.data.trans h.data⟩
def tN.refl(pl:List PL):tN pl pl:=⟨rfl,fun _ p hp=>⟨p,hp,.refl p⟩⟩
def tN.trans{a b c:List PL}(h:tN a b)(h':tN b c):tN a c:=⟨h'.1.trans h.1,fun q p hp=>by
 obtain⟨p1,h1,g1⟩:=h.2 q p hp;obtain⟨p2,h2,g2⟩:=h'.2 q p1 h1;exact⟨p2,h2,g1.trans g2⟩⟩
def tN.set{pl:List PL}{q:Nat}{p p':PL}(hp:pl[q]? =ae p)(g:Gw p p'):tN pl (pl.set q p'):=⟨by simp,fun j a ha=>by
 by_cases e:q=j
 ·subst e;rw[hp]at ha;cases ha;exact⟨p',mQ (dM.1 hp).1,g⟩
 ·exact⟨a,by rw[uZ e];exact ha,.refl a⟩⟩
structure uH(h:HS)(L:List Rc)(h':HS)(L':List Rc):Prop where
 P:h'.P=h.P
 Q:h'.Q=h.Q
 T:h'.T=h.T
 K:h'.K=h.K
 up:h'.up=h.up
 qt:Qt L L'
 grow:tN h.pl h'.pl
def uH.refl(h:HS)(L:List Rc):uH h L h L:=⟨rfl,rfl,rfl,rfl,rfl,.refl L,.refl _⟩
def uH.trans{a b c:HS}{L L' Ry:List Rc}(h:uH a L b L')(h':uH b L' c Ry):uH a L c Ry:=
 ⟨h'.P.trans h.P,h'.Q.trans h.Q,h'.T.trans h.T,h'.K.trans h.K,h'.up.trans h.up,h.qt.trans h'.qt,h.grow.trans h'.grow⟩
def OJ{ts:List Int}{l q:Int}:q∈bI ts l 4↔∃k:Nat,k<4/\q=k/\l<=ts.getD k 0:=by
 unfold bI;simp only[Je,KU,GN,VS];exact⟨fun⟨k,⟨h1,h2⟩,h3⟩=>⟨k,h1,h3.symm,h2⟩,fun⟨k,h1,h2,h3⟩=>⟨k,⟨h1,h3⟩,h2.symm⟩⟩
section
variable{N:Nat}{h h':HS}{L:List Rc}{r:Rc}
def Sn.aqb(c:Sn N h L)(hu:h.up=true){ps:List PS}(h6:ps.length=6)(hp:∀(i:Nat) (x:PS),ps[i]? =ae x->PR h.pl h.T h.K (bz L i) i x):Sn N {h with ps:=ps} L:=
 ⟨c.P1,c.Q1,c.T1,c.K1,h6,c.valid,c.fB,c.jb,c.br,c.kp,c.opn,c.ed,c.ms,c.dec,c.fl,fun _=>hp,fun e=>by rw[show h.up=false from e]at hu;cases hu⟩
def Sn.dQ(c:Sn N h L)(hu:h.up=true){i:Nat}{x':PS}(hr:PR h.pl h.T h.K (bz L i) i x'):Sn N (h.dQ i x') L:=
 c.aqb hu (by rw[zF];exact c.h6) fun j a ha=>by
  rcases Cc ha with⟨rfl,rfl⟩|⟨_,ha'⟩
  ·exact hr
  ·exact c.up hu j a ha'
def Sn.net(c:Sn N h L)(fv:az){l:List Ms}(hl:l.length<=100)(hm:uG h.pl h.P h.Q L l)(hd:∀m∈l,gm L m.p m.t m.c):Sn N (h.ig fv l) L:=
 ⟨c.P1,c.Q1,c.T1,c.K1,c.h6,c.valid,c.fB,c.jb,c.br,c.kp,c.opn,c.ed,hm,hd,hl,c.up,c.dn⟩
variable{i P Q t:Int}{x:PS}{q:Nat}{p:PL}{s:aH}{c:Bool}{m:Ms}
def PC.bY{T K:Int}(c:PC T K x)(hT:1<=T)(hK:1<=K/\K<=16)(hn:Next P Q L r)(k:PK (bz L r.p) x):PC T K (x.bY r):=by
 obtain⟨s1,s2,s3⟩:=c.si;rcases hn.kind with⟨k1,_⟩|⟨k1,_,k3⟩|⟨k1,k2,_⟩|⟨k1,_⟩
 ·rw[show x.bY r={x with e:=r.m}by simp[PS.bY,k1]];exact⟨c.si,c.wa,c.ga,c.due⟩
 ·rw[show x.bY r=({x with s:=1,t:=r.m}:PS).tie r.a 1 by simp[PS.bY,k1]];obtain⟨_,_,r3,r4,r5,r6⟩:=G6 ({x with s:=1,t:=r.m}:PS) r.a 1;have hs:=k.s;refine⟨⟨by rw[r4];exact s1,by rw[r4];exact s2,fun _=>by rw[r4];exact s3<|by omega⟩,by rw[r5];exact c.wa,by rw[r6];exact c.ga,fun e=>?_⟩;rw[r3]at e;exact absurd e (by show¬(2:Int)<=1;omega)
 ·rw[show x.bY r={x with s:=if r.a=1 then 2 else 3,a:=mW x.a,b:=mW x.b,c:=mW x.c,d:=mW x.d,wa:=1,ga:=1}by simp[PS.bY,k1]];refine⟨⟨s1,s2,fun e=>?_⟩,by simp only;omega,by simp only;omega,fun _=>by simp only;omega⟩;have e':(if r.a=1 then(2:Int)else 3)<=1:=e;split at e'<;>omega
 ·rw[show x.bY r=⟨x.e,x.t,0,0,0,0,0,0,0,0⟩by simp[PS.bY,k1]];exact⟨⟨by simp,by simp,fun _=>by simp only;omega⟩,by simp,by simp,fun e=>absurd e (by show¬(2:Int)<=0;omega)⟩
def PP.bY{pl:List PL}(p:PP pl r.p x)(ho:Jn pl L P)(hv:Valid P Q L)(hQ:Q<=4)(hn:Next P Q L r)(k:PK (bz L r.p) x):PP pl r.p (x.bY r):=by
 rcases hn.kind with⟨k1,_⟩|⟨k1,_⟩|⟨k1,k2,k3,_⟩|⟨k1,_⟩
 ·rw[show x.bY r={x with e:=r.m}by simp[PS.bY,k1]];exact⟨p.opn,p.Ce⟩
 ·have e:¬2<=(x.bY r).s:=by
   rw[show x.bY r=({x with s:=1,t:=r.m}:PS).tie r.a 1 by simp[PS.bY,k1],(G6 _ _ _).2.2.1];show¬(2:Int)<=1;omega
  exact⟨fun z=>absurd z e,fun z=>absurd z e⟩
 ·have gJ:x.s≠0:=by have:=k.s;omega
  have two:∀q:Nat,(q:Int)∈(bz L r.p).ps->q<4/\(x.bY r).aZ.getD q 0=2:=fun q hq=>by
   have h4:q<4:=by have:=(hv.qL r.p).ps _ hq;omega
   have:=(k.some gJ q h4).2 hq;exact⟨h4,by rw[Q7 k1,mW,if_pos this]⟩
  refine⟨fun _ q a t ha hi=>(two q (ho q a ha r.p t hi).2.2.2.2).2,fun _=>?_⟩;obtain⟨q,l,hq⟩:=List.exists_cons_of_ne_nil (hv.parts r.p<|by omega);have sQ:q∈(bz L r.p).ps:=by rw[hq];simp
  obtain⟨n,rfl⟩:=uA ((hv.qL r.p).ps q sQ).1;obtain⟨h4,h5⟩:=two n sQ;exact List.ne_nil_of_mem<|OJ.2 ⟨n,h4,rfl,by rw[h5];decide⟩
 ·rw[show x.bY r=⟨x.e,x.t,0,0,0,0,0,0,0,0⟩by simp[PS.bY,k1]];exact⟨fun e=>absurd e (by show¬(2:Int)<=0;omega),fun e=>absurd e (by show¬(2:Int)<=0;omega)⟩
def Sn.wrote(c:Sn N h L)(hu:h.up=true)(hn:Next h.P h.Q L r)(h4:r.k=4->∀(q:Nat) (p:PL),h.pl[q]? =ae p->∀t,p.s.nw r.p≠ae (t,true))(jv:az):Sn (N+1) {h.mX jv (dV<|dJ r)with ps:=jV h.ps r} (L++[r]):=by
 have rU:=hn.p1;have Rw:=c.P1.2;refine⟨c.P1,c.Q1,c.T1,c.K1,by show(jV h.ps r).length=6;simp[jV,c.h6],hn.valid c.valid,by have:=c.fB;simp<;>omega,?_,c.br,c.kp,c.opn.snoc hn h4,fun q p hp=>((c.ed q p hp).snoc r).mono<|by omega,c.ms.snoc hn,fun m hm=>(c.dec m hm).snoc r,c.fl,fun _ i x hx=>?_,fun e=>?_⟩
 ·show h.jb++dV (dJ r)=dV ((L++[r]).flatMap dJ);rw[c.jb,apw,Wj]
 ·rcases apx hx hn.p0 (by omega) c.h6 with⟨x0,h0,e,rfl⟩|⟨e,h0⟩
  ·have pr:=c.up hu i x0 h0;rw[<-e]at pr⊢
   exact⟨pr.k.bY hn c.valid c.Q1.2 rfl,pr.c.bY c.T1.1 c.K1 hn pr.k,pr.p.bY c.opn c.valid c.Q1.2 hn pr.k⟩
  ·have pr:=c.up hu i x h0;exact⟨pr.k.other e rfl,pr.c,pr.p⟩
 ·rw[show h.up=false from e]at hu;cases hu
def Sn.LC(c:Sn N h L)(hu:h.up=true)(hn:Next h.P h.Q L r)(h4:r.k=4->∀(q:Nat) (p:PL),h.pl[q]? =ae p->∀t,p.s.nw r.p≠ae (t,true)){ok:Bool}(ho:jH h r ok h'):ok=true/\Sn (N+1) h' (L++[r])/\∃jv,h'={h.mX jv (dV<|dJ r)with ps:=jV h.ps r}:=by
 cases ho with
 |ok jv hb=>exact⟨rfl,c.wrote hu hn h4 jv,jv,rfl⟩
 |ru jv hb=>rw[c.br]at hb;cases hb
def Sn.gZ(c:Sn N h L){p':PL}(hp:h.pl[q]? =ae p)(hl:LK (N+1) L p'.s)(hn:∀i t,p'.s.nw i=ae (t,true)->0<=i/\i<h.P/\1<=(bz L i).s/\(bz L i).t=t/\(q:Int)∈(bz L i).ps)(ho:∀i t,p'.s.nw i=ae (t,true)->p.s.nw i=ae (t,true)\/((bz L i).s=1/\(bz L i).t=t)):Sn (N+1) (h.gZ q p') L:=by
 refine⟨c.P1,c.Q1,c.T1,c.K1,c.h6,c.valid,aak c.fB,c.jb,c.br,c.kp,c.opn.set hn,fun j a ha=>?_,c.ms.set hp ho,c.dec,c.fl,fun hu i x hx=>?_,c.dn⟩
 ·rcases Cc ha with⟨_,rfl⟩|⟨_,ha'⟩
  ·exact hl
  ·exact(c.ed j a ha').mono<|by omega
 ·have pr:=c.up hu i x hx;refine⟨pr.k,pr.c,fun h2 j a t ha hi=>?_,pr.p.Ce⟩;rcases Cc ha with⟨e1,rfl⟩|⟨_,ha'⟩
  ·subst e1;rcases ho _ _ hi with e|⟨e,_⟩
   ·exact pr.p.opn h2 j p t hp e
   ·have:=pr.k.s;omega
  ·exact pr.p.opn h2 j a t ha' hi
def Sn.Rz(c:Sn N h L)(hp:h.pl[q]? =ae p){s':aH}(hs:∀i t,s'.nw i=ae (t,true)->p.s.nw i=ae (t,true)):(∀i t,s'.nw i=ae (t,true)->0<=i/\i<h.P/\1<=(bz L i).s/\(bz L i).t=t/\(q:Int)∈(bz L i).ps)/\(∀i t,s'.nw i=ae (t,true)->p.s.nw i=ae (t,true)\/((bz L i).s=1/\(bz L i).t=t)):=
 ⟨fun i t hi=>c.opn q p hp i t<|hs i t hi,fun i t hi=>.inl<|hs i t hi⟩
def Sn.out(c:Sn N h L)(hp:h.pl[q]? =ae p)(o:Bool):Sn (N+1) (h.gZ q {p with out:=o}) L:=
 c.gZ hp (p':={p with out:=o}) ((c.ed q p hp).mono<|by omega) (c.Rz hp fun _ _ z=>z).1 (c.Rz hp fun _ _ z=>z).2
def ag1:(s.closed i t c).es=s.es\/(s.closed i t c).es=s.es++[⟨aH.xI c,i,t,⟨#[]⟩⟩]:=by
 unfold aH.closed;split
 ·exact .inr rfl
 ·exact .inl rfl
def ag2:(s.closed i t c).data=s.data:=by
 unfold aH.data;rcases ag1 (s:=s) (i:=i) (t:=t) (c:=c)with e|e<;>rw[e];rw[zD];have:aH.xI c≠1:=by cases c<;>simp[aH.xI]
 simp[this]
def LK.closed(k:LK N L s)(hi:eP i)(ht:eP t)(hd:gm L i t c):LK (N+1) L (s.closed i t c):=by
 refine⟨(aaC k.inv i t c hi ht).1,fun e he hk=>?_,by have:=aaK s i t c;have:=k.fB;omega⟩;rcases ag1 (s:=s) (i:=i) (t:=t) (c:=c)with e1|e1<;>rw[e1]at he
 ·exact k.dec e he hk
 ·rcases oP.1 he with he|he
  ·exact k.dec e he hk
  ·rw[oN.1 he];show gm L i t (decide<|aH.xI c=2);have:decide (aH.xI c=2)=c:=by cases c<;>rfl
   rw[this];exact hd
def Sn.WO(c:Sn N h L)(hN:N<=100000000)(mo:yL h.P h.Q L m):eP m.p/\eP m.t:=by
 have:=mo.p;have:=mo.t;have:=(c.valid.qL m.p).t1;have:=c.fB;have:=c.P1.2;exact⟨Ll (by omega)<|by omega,Ll (by omega)<|by omega⟩
def Sn.shut(c:Sn N h L)(hN:N<=100000000)(hp:h.pl[q]? =ae p)(v':az)(mo:yL h.P h.Q L m)(hd:gm L m.p m.t m.c):Sn (N+1) (h.gZ q ⟨p.lb,p.bm,v',p.s.closed m.p m.t m.c,p.out⟩) L/\Gw p ⟨p.lb,p.bm,v',p.s.closed m.p m.t m.c,p.out⟩:=by
 obtain⟨i1,i2⟩:=c.WO hN mo;have:=c.Rz hp (s':=p.s.closed m.p m.t m.c) fun i t z=>(abp z).1;exact⟨c.gZ hp (p':=⟨p.lb,p.bm,v',p.s.closed m.p m.t m.c,p.out⟩) ((c.ed q p hp).closed i1 i2 hd) this.1 this.2,(aaC (c.ed q p hp).inv _ _ _ i1 i2).2,ag2⟩
end
end
section
section
variable{h:HS}
def ahT(i t:Int)(c:Bool):∀(qs:List Int) {l:List Ms},l.length<=100->(vz l i t c qs).length<=100
 |[],_,h=>h
 |q::qs,l,h=>ahT i t c qs (l:=sF l ⟨1,q,i,t,c⟩)<|agU h _
def uG.ahU{pl:List PL}{P Q:Int}{L:List Rc}{i t:Int}{c:Bool}:∀(qs:List Int) {l:List Ms},uG pl P Q L l->(∀q∈qs,yL P Q L ⟨1,q,i,t,c⟩)->uG pl P Q L (vz l i t c qs)
 |[],_,h,_=>h
 |q::qs,l,h,hq=>uG.ahU qs (l:=sF l ⟨1,q,i,t,c⟩) (h.send (hq q<|by simp) fun e=>by simp at e) fun k hk=>hq k<|by simp[hk]
end
end
section
variable{P:eF}{w w':aj}{o:Oper}{a:Act}{Q:Exit->Act->aj->Prop}{v y v':az}
def aum(w:aj)(t ti ty e:dw)(k:IntKind)(i:TypeInfo)(z:az)(ht:P.underlying t=ae (.slice e))(Ky:P.underlying ti=ae (.int k))(hi:P.info? e=ae i)(hz:i.zero=ae z)(eH:0<i.size)(n:Nat)(hn:0<n)(h63:n<=dU)(aDC:n*i.bytes<=140737488355328):
 (Builtin.append_ #[t,ti] ty #[aJ af 0 0,ag ah n]).run P w=.ok (aJ (ae ⟨w.heap.size,0,af⟩) n<|grownCap w n 0 e) (w.drew.alloc<|.cells (Builtin.zeroCells z.cells n++Builtin.zeroCells z.cells (grownCap w n 0 e-n)) e):=by
 have hw:IntKind.i64.wrap (n:Int)=n:=wrap_i64 (by omega) (by simp only[dU]at h63;omega);have n1:¬((n:Int)<0):=by omega
 have n2:¬(281474976710656<(n:Int)*(i.bytes:Int)):=by
  have:((n*i.bytes:Nat):Int)<=140737488355328:=by omega
  rw[Int.natCast_mul]at this;omega
 have n3:¬(n*i.size=0):=by
  have:=Nat.mul_pos hn eH;omega
 have n4:n≠0:=by omega
 have az5:¬(9223372036854775807<(n:Int)):=by simp only[dU]at h63;omega
 have az6:¬(281474976710656<Builtin.nextslicecap n 0*i.bytes):=by rw[nextslicecap_zero hn];omega
 simp[Builtin.append_,aEP ht,aEP Ky,sizeOf,typeInfo,hi,asInt,asIntOf,hw,n1,n2,n3,n4,zeroValue,hz,az5,az6,Question.forced,run_firstCells_none,newRow,grownCap]
def aun{K:Act->aj->Prop}(s x:Operand)(t ti:dw)(ho:o.op=.call {callee:=.builtin .append,args:=#[s,x],argTypes:=#[t,ti]})(hs:a.eval s=v)(hx:a.eval x=y)(hr:(Builtin.append_ #[t,ti] o.type #[v,y]).run P w=.ok v' w')(h:K (a.put o.dst v') w'):o.wp P a w K Q:=by
 unfold Oper.wp dP;simp only[ho,resolve,invoke,builtin,Sem.run_bind,Sem.run_pure,Result.andThen_ok,afh,uF,wC,hs,hx,hr];exact h
def ajg{ops:Array Oper}{rest:List Oper}(hgd:o.guard=af)(s x:Operand)(t ti:dw)(ho:o.op=.call {callee:=.builtin .append,args:=#[s,x],argTypes:=#[t,ti]})(hs:a.eval s=v)(hx:a.eval x=y)(hr:(Builtin.append_ #[t,ti] o.type #[v,y]).run P w=.ok v' w')(h:wpList P ops Q rest (a.put o.dst v') w'):wpList P ops Q (o::rest) a w:=
 wpList_plain hgd fun _ hK=>aun s x t ti ho hs hx hr<|hK _ _ h
def auo{n cap:Nat}{z:Array az}(hzs:z.size=5)(xn:n<=cap)(hm:cap<=dU):
 (w.alloc<|.cells (Builtin.zeroCells z n++Builtin.zeroCells z (cap-n)) 119).drew.ownsRow w.heap.size 119 5 (aJ (ae ⟨w.heap.size,0,af⟩) 0 cap) 0 []:=by
 refine⟨rfl,.inr ⟨w.heap.size,cap,_,rfl,dm _,aDY _ _,mi _,hm,?_,by simp⟩⟩;simp only[Array.size_append,size_zeroCells,hzs];omega
def aup(o:Obj):Fr aP w (w.alloc o).drew:=⟨rfl,rfl,rfl,(bG (w:=w) o).size,fun k hk _=>(bG (w:=w) o).block k hk id⟩
def auq(n:Nat)(hb:n*40<=140737488355328):
 aU prog 170 #[aJ af 0 0,ag ah n] w fun e w'=>∃v,e=aT v/\w'.ownsRow w.heap.size 119 5 v 0 []/\Fr aP w w':=by
 obtain⟨i0,dR,iE,gG,iU⟩:=aEd Jo;have hN:(n:Int)<=140737488355328:=by omega
 have HB:Hid (n*40<=140737488355328):=hb;clear hb;by_cases h0:n=0
 ·subst h0;go_enter func170,ntmps170
  go_wp2
  go_ret;exact⟨_,rfl,aD9 _ _ _ _,Fr.refl _ _⟩
 ·have o8:(0:Int)<n:=by omega
  have Dn:∀W:aj,(Builtin.append_ #[107,3] 107 #[aJ af 0 0,ag ah n]).run prog W=.ok (aJ (ae ⟨W.heap.size,0,af⟩) n<|grownCap W n 0 119) (W.drew.alloc<|.cells (Builtin.zeroCells (Value.agg #[ag ah 0,ag ah 0,ag ah 0,ag ah 0,aB false]).cells n++Builtin.zeroCells (Value.agg #[ag ah 0,ag ah 0,ag ah 0,ag ah 0,aB false]).cells (grownCap W n 0 119-n)) 119):=
   fun W=>aum W 107 3 107 119 _ i0 _ underlying107 underlying3 dR iE (by omega) n (by omega) (by simp only[dU];omega) (by rw[iU];exact HB)
  have HC:Hid (n<=grownCap w n 0 119/\grownCap w n 0 119<=dU):=⟨grownCap_ge w n 0 119,grownCap_le_maxLen w n 0 119 (by simp only[dU];omega)⟩;go_enter func170,ntmps170
  go_wp2_with (at_builtin;refine ajg rfl _ _ 107 3 rfl (v:=aJ af 0 0) (y:=ag ah n) rfl rfl (Dn _) ?_)
  go_ret;refine⟨_,rfl,?_,?_⟩
  ·have hk:n<=grownCap w n 0 119/\grownCap w n 0 119<=maxLen:=HC;exact auo rfl hk.1 hk.2
  ·exact aup _
abbrev zU:=List<|az×List Ms
def zU.all(r:zU):List Ms:=r.flatMap (·.2)
def aur(r:zU)(x:az×List Ms):zU.all (r++[x])=zU.all r++x.2:=by simp[zU.all]
def ajh(l:List Ms):∀u∈l.flatMap Ms.cs,u.oneCell'=true:=by
 intro u hu;simp only[aal]at hu;obtain⟨e,_,he⟩:=hu;simp only[Ms.cs,jR,pF,pG]at he;rcases he with rfl|rfl|rfl|rfl|rfl<;>rfl
variable{rows:zU}
def aji{B B':Nat}{x:az}{n m:Nat}{xs ys:List az}(hv:w.ownsRow B 119 5 v n xs)(hx:w.ownsRow B' 119 5 x m ys)(h1:∀u∈ys,u.oneCell'=true)(hb:(n+m)*40<=140737488355328)(hB:B<=w.heap.size):
 ∃v' w',(Builtin.append_ #[107,107] 107 #[v,x]).run prog w=.ok v' w'/\w'.ownsRow B 119 5 v' (n+m) (xs++ys)/\w.grownBy w' v.ownBlock:=by
 obtain⟨i0,dR,iE,gG,iU⟩:=aEd Jo;rcases hx.2 with⟨rfl,rfl⟩|⟨g,cap,cur,rfl,_⟩
 ·have hy:ys=[]:=aaf (by simpa using hx.1);subst hy;refine⟨v,w,?_,by simpa using hv,⟨rfl,rfl,rfl,dm _,fun _ _ _=>rfl⟩⟩;rcases hv.2 with⟨rfl,rfl⟩|⟨g,cap,cur,rfl,_,_,hc,_⟩
  ·simp[Builtin.append_,aEP underlying107,sizeOf,typeInfo,dR,Builtin.lenOf,Builtin.firstCells]
  ·simp[Builtin.append_,aEP underlying107,sizeOf,typeInfo,dR,Builtin.lenOf,Builtin.firstCells,loadCells,hc,storeCells]
 ·obtain⟨v',w',h2,h3,h4,_⟩:=run_append_own (P:=prog) w B 107 107 119 i0 _ 5 40 underlying107 dR iE gG iU rfl (by decide) v n xs hv ⟨g,0,af⟩ m cap ys hx.1 (hx.cells rfl) h1 (by simp only[dU];omega) hb hB;exact⟨v',w',h2,h3,h4⟩
def pre(rows:zU)(j:Nat):List Ms:=zU.all<|rows.take j
def acW{j:Nat}{x:az×List Ms}(h:rows[j]? =ae x):pre rows (j+1)=pre rows j++x.2:=by
 unfold pre;rw[AP,h,EX,aur]
def ajj(rows:zU):pre rows rows.length=rows.all:=by simp[pre]
def ajk(j:Nat):(pre rows j).length<=rows.all.length:=by
 have e:rows.all=pre rows j++zU.all (rows.drop j):=by
  unfold pre zU.all;rw[<-EW,aag]
 rw[e];simp
def aus{C:Nat}(hC:w.heap[C]? =ae (.cells (rows.map (·.1)).toArray 107 (0,0)))(hr:∀x∈rows,∃Bm,w.ownsRow Bm 119 5 x.1 x.2.length<|x.2.flatMap Ms.cs)(hb:rows.all.length*40<=140737488355328)(hn:rows.length<=4):
 aU prog 116 #[aJ (ae ⟨C,0,af⟩) rows.length rows.length] w fun e w'=>∃v,e=aT v/\w'.ownsRow w.heap.size 119 5 v rows.all.length (rows.all.flatMap Ms.cs)/\Fr aP w w':=by
 have HC:Hid (w.heap[C]? =ae (.cells (rows.map (·.1)).toArray 107 (0,0))):=hC;have HR:Hid (∀x∈rows,∃Bm,w.ownsRow Bm 119 5 x.1 x.2.length<|x.2.flatMap Ms.cs):=hr;have HB:Hid (rows.all.length*40<=140737488355328):=hb;have hlr:(rows.length:Int)<=4:=by omega
 clear hC hr hb hn;go_enter func116,ntmps116
 go_wp2_with fail
 go_loopw [3,11] (fun sv iv w'=>∃j:Nat,j<=rows.length/\iv=ag ah j/\sv=ag ah ((pre rows j).length:Nat)/\w=w') (fun _ iv _=>rows.length-(fH iv).toNat)
 case atStart=>exact⟨0,mi _,rfl,rfl,rfl⟩
 case round=>
  obtain⟨j,hj,rfl,rfl,hw⟩:=hrel
  subst hw
  have HP:=ajk (rows:=rows)<|j+1
  have HBn:rows.all.length*40<=140737488355328:=HB
  by_cases aI:j<rows.length
  ·obtain⟨⟨v,l⟩,hx⟩:∃x,rows[j]? =ae x:=⟨_,eY aI⟩
   obtain⟨Bm,dF⟩:=HR.o (v,l)<|gz hx
   obtain⟨la,XN,e,_⟩:=pq dF
   simp only at e
   subst e
   have c0:=aK HC.o (o:=j)
   simp[hx]at c0
   have gI:=fG List.length<|acW hx
   simp only[iV]at gI
   have q1:IntKind.i64.wrap (((pre rows j).length:Int)+(l.length:Int))=((pre rows j).length:Int)+(l.length:Int):=wrap_i64 (by omega)<|by omega
   have HPS:Hid ((pre rows<|j+1).length=(pre rows j).length+l.length):=gI
   generalize(pre rows j).length=pj at*
   clear hx dF gI HP HBn
   go_wp2
   go_roundw
   case rel=>exact⟨j+1,by omega,by go_num,by rw[HPS.o];simp,trivial⟩
   case measure=>simp[fH]<;>omega
  ·have Qx:j=rows.length:=by omega
   subst Qx
   rw[ajj]
   clear HP HBn aI
   go_wp2_with (go_at_call 170;refine(auq rows.all.length HB.o).mono ?_;rintro e w1 ⟨nv,rfl,yj,bM⟩)
   have HN1:Hid (w1.ownsRow w.heap.size 119 5 nv 0 []):=yj
   have La:Hid (Fr aP w w1):=bM
   clear yj bM
   go_loopw [6,27] (fun nv iv w'=>∃j:Nat,j<=rows.length/\iv=ag ah j/\w'.ownsRow w.heap.size 119 5 nv (pre rows j).length ((pre rows j).flatMap Ms.cs)/\Fr aP w w') (fun _ iv _=>rows.length-(fH iv).toNat)
   case atStart=>exact⟨0,mi _,rfl,HN1.o,La.o⟩
   case round=>
    obtain⟨j,Dt,rfl,iO,dO⟩:=hrel
    have HO:Hid (wr.ownsRow w.heap.size 119 5 u6 (pre rows j).length<|(pre rows j).flatMap Ms.cs):=iO
    have HF:Hid (Fr aP w wr):=dO
    clear iO dO
    by_cases aI:j<rows.length
    ·obtain⟨⟨v,l⟩,hx⟩:∃x,rows[j]? =ae x:=⟨_,eY aI⟩
     obtain⟨Bm,dF⟩:=HR.o (v,l)<|gz hx
     obtain⟨la,XN,e,_⟩:=pq dF
     simp only at e dF
     subst e
     have hC1:wr.heap[C]? =ae (.cells (rows.map (·.1)).toArray 107 (0,0)):=(HF.o.block C (jk.1 HC.o).1 id).trans HC.o
     have c0:=aK hC1 (o:=j)
     simp[hx]at c0
     have Lm:Hid (wr.ownsRow Bm 119 5 (.slice la l.length XN) l.length<|l.flatMap Ms.cs):=HF.o.ownsRow dF fun _ _=>id
     have HPS:Hid (pre rows (j+1)=pre rows j++l):=acW hx
     have XO:Hid (((pre rows j).length+l.length)*40<=140737488355328):=by
      have h1:=ajk (rows:=rows)<|j+1;have h2:rows.all.length*40<=140737488355328:=HB;rw[acW hx,iV]at h1;simp only at h1;show((pre rows j).length+l.length)*40<=140737488355328;omega
     obtain⟨v1,w2,Dn,amg,amh⟩:=aji HO.o Lm.o (ajh l) XO.o<|HF.o.size
     have HAP:Hid ((Builtin.append_ #[107,107] 107 #[u6,.slice la l.length XN]).run prog wr=.ok v1 w2):=Dn
     have HO2:Hid (w2.ownsRow w.heap.size 119 5 v1 ((pre rows j).length+l.length)<|(pre rows j).flatMap Ms.cs++l.flatMap Ms.cs):=amg
     have HG2:Hid (wr.grownBy w2 u6.ownBlock):=amh
     clear hx dF hC1 Dn amg amh
     go_wp2_with (at_builtin;refine ajg rfl _ _ 107 107 rfl (v:=u6) (y:=.slice la l.length XN) rfl rfl HAP.o ?_)
     go_roundw
     case rel=>
      refine⟨j+1,by omega,by go_num,?_,HF.o.grown HG2.o fun k hk=>.inr<|(HO.o.lt k hk).1⟩
      rw[HPS.o]
      simpa using HO2.o
     case measure=>simp[fH]<;>omega
    ·have Qx:j=rows.length:=by omega
     subst Qx
     have HO2:Hid (wr.ownsRow w.heap.size 119 5 u6 rows.all.length<|rows.all.flatMap Ms.cs):=by have:=HO.o;rw[ajj]at this;exact this
     clear HO
     go_wp2
     go_ret
     exact⟨_,rfl,HO2.o,HF.o⟩
end
section
section
variable{w w':aj}{B xb n:Nat}{h:HS}
variable{k q:Nat}{m:Ms}{p:PL}
def avf(hh:aF w B xb n h)(hk:h.fl[k]? =ae m)(QF:m.k=2){i:Nat}(hi:i<6){x:PS}(hx:h.ps[i]? =ae x)(hq:m.q=q)(mZ:q<4)(hp:m.p=i)(hm:mD h ⟨4,i,0,x.t⟩):
 aU prog 81 #[ay<|ae ⟨xb,0,af⟩,.int .i64 k] w fun r w'=>r=aT (.int .i64 0)/\∃fv h',yM (h.ig fv<|h.fl.eraseIdx k) i x m h'/\bU w w' B xb n h n h':=by
 have HH:Hid (aF w B xb n h):=hh;have nZ:=(List.getElem?_eq_some_iff.mp hk).1;have HM:Hid (decide ((0:Int)<=k/\(k:Int)<h.fl.length)=true):=kF (by omega);have HK:Hid (h.fl[k]? =ae m):=hk;have HC:Hid (∀W fv,aF W B xb n (h.ig fv<|h.fl.eraseIdx k)->aU prog 55 #[ay<|ae ⟨xb,4,af⟩,gY #[.int .i64 2,.int .i64 q,.int .i64 i,.int .i64 m.t,.bool m.c]] W fun e w'=>e=aT (dK #[])/\∃h',yM (h.ig fv<|h.fl.eraseIdx k) i x m h'/\bU W w' B xb n (h.ig fv<|h.fl.eraseIdx k) n h'):=fun W fv hW=>by
  have:=agT hW hi (x:=x) hx m hq mZ hp ⟨hm.small,hm.kp,hm.room,hm.end_⟩;rw[QF,hq,hp]at this;exact this
 have aI:=aX hh.blk;have HT:Hid (∀W,aF W B xb n h->aU prog 140 #[ay<|ae ⟨xb,69,af⟩,.int .i64 k] W fun r w'=>r=aT (gY #[.int .i64 2,.int .i64 q,.int .i64 i,.int .i64 m.t,.bool m.c])/\∃fv,bU W w' B xb n h n<|h.ig fv<|h.fl.eraseIdx k):=fun W hW=>by
  have:=WN hW hk;rw[QF,hq,hp]at this;exact this
 clear hh hk hm hx hq hp;go_enter func81,ntmps81
 go_wp2_with (first
  |(go_at_call 139;refine(Ox HH.o k).mono ?_;rw[HM.o];rintro e w1 ⟨rfl,rfl⟩)
  |(go_at_call 140;refine(HT.o _ HH.o).mono ?_;rintro e w2 ⟨rfl,fv,dI⟩
    have M2:Hid (bU w w2 B xb n h n<|h.ig fv<|h.fl.eraseIdx k):=dI
    have lU:=aX dI.at_.blk
    clear dI))
 go_region_law
  ((go_simp;go_at_call 55;refine(HC.o _ fv<|M2.o.at_.after<|(bG _).drew).mono ?_;rintro e w3 ⟨rfl,h',hr,dI⟩
    have R3:Hid (yM (h.ig fv<|h.fl.eraseIdx k) i x m h'/\bU w w3 B xb n h n h'):=⟨hr,M2.o.trans<|dI.behind<|(bG _).drew⟩
    clear hr dI))
 all_goals
  go_wp2
  go_ret
  exact⟨rfl,fv,h',R3.o⟩
def avg(hh:aF w B xb n h)(hk:h.fl[k]? =ae m)(QF:m.k=1)(hq:m.q=q)(iR:h.pl[q]? =ae p)(ho:p.out=true):
 aU prog 81 #[ay<|ae ⟨xb,0,af⟩,.int .i64 k] w fun r w'=>r=aT (.int .i64 0)/\∃fv,bU w w' B xb n h n (h.ig fv<|h.fl.eraseIdx k):=by
 have HH:Hid (aF w B xb n h):=hh;have nZ:=(List.getElem?_eq_some_iff.mp hk).1;have wS:=(List.getElem?_eq_some_iff.mp iR).1;have HM:Hid (decide ((0:Int)<=k/\(k:Int)<h.fl.length)=true):=kF (by omega);have aI:=aX hh.blk;have HT:Hid (∀W,aF W B xb n h->aU prog 140 #[ay<|ae ⟨xb,69,af⟩,.int .i64 k] W fun r w'=>r=aT (gY #[.int .i64 1,.int .i64 q,.int .i64 m.p,.int .i64 m.t,.bool m.c])/\∃fv,bU W w' B xb n h n<|h.ig fv<|h.fl.eraseIdx k):=fun W hW=>by
  have:=WN hW hk;rw[QF,hq]at this;exact this
 have zJ:Hid (h.pl[q]? =ae p):=iR;have HO:Hid (p.out=true):=ho;have vV:(q:Int)<(h.pl.length:Int):=by omega
 have rV:(0:Int)<=(q:Int):=by omega
 clear hh hk hq iR ho;go_enter func81,ntmps81
 go_wp2_with (first
  |(go_at_call 139;refine(Ox HH.o k).mono ?_;rw[HM.o];rintro e w1 ⟨rfl,rfl⟩)
  |(go_at_call 140;refine(HT.o _ HH.o).mono ?_;rintro e w2 ⟨rfl,fv,dI⟩
    have M2:Hid (bU w w2 B xb n h n<|h.ig fv<|h.fl.eraseIdx k):=dI
    have lU:=aX dI.at_.blk
    obtain⟨g,cap,iJ,hg,o6,c0,c1⟩:=dI.at_.place (k:=q) (p:=p) zJ.o
    rw[HO.o]at c1
    have lI:cap<=9223372036854775807:=by
     rcases dI.at_.jU.2 with⟨e,_⟩|⟨_,_,_,e,_,_,_,h2,_⟩
     ·rw[iJ]at e;cases e
     ·rw[iJ]at e;cases e;exact h2
    have cP:w2.cell? ⟨xb,68,af⟩=ae (aJ (ae ⟨g,0,af⟩) h.pl.length cap):=by
     have:=dI.at_.cV;rw[iJ]at this;exact this
    clear dI iJ))
 go_region_law
  ((go_simp;go_at_call 141;refine(apC (pb:=g) (po:=q*2) (by exact aES _ c1) ⟨1,q,m.p,m.t,m.c⟩).mono ?_;rintro e w3 ⟨rfl,lZ⟩
    have F3:Hid (Fr aP w2 w3):=((bG _).drew).trans lZ fun _ h=>h.elim
    clear lZ))
 all_goals
  go_wp2_with fail
  go_simp
  go_loopw [33] (fun i w'=>i=.int .i64 0/\w'=w3) (fun _ _=>0)
  case atStart=>exact⟨rfl,rfl⟩
  case round=>
   obtain⟨rfl,rfl⟩:=hrel
   go_wp2
   go_ret
   exact⟨rfl,fv,M2.o.after F3.o⟩
def avh(hh:aF w B xb n h)(ha:iP h.pl)(hk:h.fl[k]? =ae m)(QF:m.k=1)(hq:m.q=q)(iR:h.pl[q]? =ae p)(ho:p.out=false)
 (hp:(Lit.int .i64 m.p).wf=true)(hn:n<dU)(hb:(p.s.es.length+1)*40<=140737488355328):
 aU prog 81 #[ay<|ae ⟨xb,0,af⟩,.int .i64 k] w fun r w'=>r=aT (.int .i64 0)/\∃fv v' w3,bU w w3 B xb n h (n+1) ((h.ig fv<|h.fl.eraseIdx k).gZ q ⟨p.lb,p.bm,v',p.s.closed m.p m.t m.c,p.out⟩)/\iP ((h.ig fv<|h.fl.eraseIdx k).gZ q ⟨p.lb,p.bm,v',p.s.closed m.p m.t m.c,p.out⟩).pl/\
  xN w3 w' B xb (n+1) ((h.ig fv<|h.fl.eraseIdx k).gZ q ⟨p.lb,p.bm,v',p.s.closed m.p m.t m.c,p.out⟩) m.kZ:=by
 have HH:Hid (aF w B xb n h):=hh
 have nZ:=(List.getElem?_eq_some_iff.mp hk).1
 have wS:=(List.getElem?_eq_some_iff.mp iR).1
 have HM:Hid (decide ((0:Int)<=k/\(k:Int)<h.fl.length)=true):=kF<|by omega
 have aI:=aX hh.blk
 have HT:Hid (∀W,aF W B xb n h->aU prog 140 #[ay<|ae ⟨xb,69,af⟩,.int .i64 k] W fun r w'=>r=aT (gY #[.int .i64 1,.int .i64 q,.int .i64 m.p,.int .i64 m.t,.bool m.c])/\∃fv,bU W w' B xb n h n<|h.ig fv<|h.fl.eraseIdx k):=fun W hW=>by
  have:=WN hW hk;rw[QF,hq]at this;exact this
 have zJ:Hid (h.pl[q]? =ae p):=iR
 have HO:Hid (p.out=false):=ho
 have HA:Hid (iP h.pl):=ha
 have HP:Hid ((Lit.int .i64 m.p).wf=true):=hp
 have HN:Hid (n<dU):=hn
 have HB:Hid ((p.s.es.length+1)*40<=140737488355328):=hb
 have HAK:Hid (m.kZ=⟨2,q,m.p,m.t,m.c⟩):=by
  obtain⟨mk,mq,mp,mt,mc⟩:=m;cases hq;rfl
 have vV:(q:Int)<(h.pl.length:Int):=by omega
 have rV:(0:Int)<=(q:Int):=by omega
 clear hh hk hq iR ho ha hp hn hb
 go_enter func81,ntmps81
 go_wp2_with (first
  |(go_at_call 139;refine(Ox HH.o k).mono ?_;rw[HM.o];rintro e w1 ⟨rfl,rfl⟩)
  |(go_at_call 140;refine(HT.o _ HH.o).mono ?_;rintro e w2 ⟨rfl,fv,dI⟩
    have M2:Hid (bU w w2 B xb n h n<|h.ig fv<|h.fl.eraseIdx k):=dI
    have lU:=aX dI.at_.blk
    obtain⟨g,cap,iJ,hg,o6,c0,c1⟩:=dI.at_.place (k:=q) (p:=p) zJ.o
    rw[HO.o]at c1
    have lI:cap<=9223372036854775807:=by
     rcases dI.at_.jU.2 with⟨e,_⟩|⟨_,_,_,e,_,_,_,h2,_⟩
     ·rw[iJ]at e;cases e
     ·rw[iJ]at e;cases e;exact h2
    have cP:w2.cell? ⟨xb,68,af⟩=ae (aJ (ae ⟨g,0,af⟩) h.pl.length cap):=by
     have:=dI.at_.cV;rw[iJ]at this;exact this
    clear dI iJ))
 go_region_law
  ((go_simp;go_at_call 141;refine(apD (pb:=g) (po:=q*2) ((M2.o.at_.after<|(bG _).drew).ed p<|gz zJ.o) (by exact aES _ c0) (by exact aES _ c1) ⟨1,q,m.p,m.t,m.c⟩ HP.o HN.o HB.o).mono ?_;rintro e w3 ⟨b,v',rfl,l7,hbs,QG⟩
    have L3:=(M2.o.at_.after<|(bG _).drew).Wu HA.o zJ.o (Nat.le_succ n) QG
    have M3:Hid (bU w w3 B xb n h (n+1)<|(h.ig fv<|h.fl.eraseIdx k).gZ q ⟨p.lb,p.bm,v',p.s.closed m.p m.t m.c,p.out⟩):=M2.o.trans<|L3.1.behind<|(bG _).drew
    have A3:Hid (iP ((h.ig fv<|h.fl.eraseIdx k).gZ q ⟨p.lb,p.bm,v',p.s.closed m.p m.t m.c,p.out⟩).pl):=L3.2
    have x0:w3.cell? ⟨b,0,af⟩=ae (.int .i64 2):=(aK l7 0).trans rfl
    have x1:w3.cell? ⟨b,1,af⟩=ae (.int .i64 q):=(aK l7 1).trans rfl
    have x2:w3.cell? ⟨b,2,af⟩=ae (.int .i64 m.p):=(aK l7 2).trans rfl
    have x3:w3.cell? ⟨b,3,af⟩=ae (.int .i64 m.t):=(aK l7 3).trans rfl
    have x4:w3.cell? ⟨b,4,af⟩=ae (.bool m.c):=(aK l7 4).trans rfl
    have EH:=aX l7
    have uk:=aX M3.o.at_.blk
    clear QG L3 l7 hbs))
 all_goals
  go_wp2_with fail
  go_simp
  go_loopw [33] (fun i w'=>(i=.int .i64 0/\w'=w3)\/(i=.int .i64 1/\xN w3 w' B xb (n+1) ((h.ig fv<|h.fl.eraseIdx k).gZ q ⟨p.lb,p.bm,v',p.s.closed m.p m.t m.c,p.out⟩) m.kZ)) (fun i _=>1-(fH i).toNat)
  case atStart=>exact .inl ⟨rfl,rfl⟩
  case round=>
   rcases hrel with⟨rfl,rfl⟩|⟨rfl,hs⟩
   ·go_wp2_with fail
    go_region_law
     ((go_simp;go_at_call 120;refine(abn (M3.o.at_.after<|(bG _).drew) ⟨2,q,m.p,m.t,m.c⟩).mono ?_;rintro e w4 ⟨rfl,hs⟩
       have S4:Hid (xN wr w4 B xb (n+1) ((h.ig fv<|h.fl.eraseIdx k).gZ q ⟨p.lb,p.bm,v',p.s.closed m.p m.t m.c,p.out⟩) m.kZ):=by
        show xN _ _ _ _ _ _ _;rw[HAK.o];exact hs.behind<|(bG _).drew
       clear hs))
    all_goals
     go_wp2
     go_roundw
     case rel=>exact .inr ⟨by go_num,S4.o⟩
     case measure=>simp[fH]
   ·have S3:Hid (xN w3 wr B xb (n+1) ((h.ig fv<|h.fl.eraseIdx k).gZ q ⟨p.lb,p.bm,v',p.s.closed m.p m.t m.c,p.out⟩) m.kZ):=hs
    clear hs
    go_wp2
    go_ret
    exact⟨rfl,fv,v',w3,M3.o,A3.o,S3.o⟩
end
end
end Go.Proofs.YtkelpcjiediamaaGreat
