import Derived.Test.YtkelpcjiediamaaGreatQb26
import Derived.Lib.SliceRun
import Derived.Laws.OwnMore
set_option maxRecDepth 100000
set_option maxHeartbeats 0
set_option linter.all false
namespace Go.Proofs.YtkelpcjiediamaaGreat
def aCP:=@Go.run_underlying
def aC4:=@Go.results_none
open Go renaming Calls→aK,TypeId→bW,Value→aj,World→ah,maxLen→dH
open Go.RowKit renaming intOf→dX
open Option renaming none→af,some→ae
open Go.Proofs.Tryz
open Go.RowKit Go.Maps
section
def Qo:∀(vs:List aj) (w:ah) (b o:Nat),w.setCells b o vs=Ih w b o vs
 |[],_,_,_=>rfl
 |v::r,w,b,o=>Qo r (w.setCell ⟨b,o,af⟩ v) b<|o+1
def J6(l:List Ms):(l.flatMap Ms.cs).length=l.length*5:=by
 induction l with
 |nil=>rfl
 |cons a r ih=>simp[nZ,ih,Ms.cs]<;>omega
def F6:List Value:=[.int .i64 0,.int .i64 0,.int .i64 0,.int .i64 0,.bool false]
variable{l:List Ms}{k B g cap:Nat}{w:ah}
def anY(hk:k<l.length):
 (CE (CE (l.flatMap Ms.cs) (k*5)<|(l.drop<|k+1).flatMap Ms.cs) ((l.length-1)*5) F6).take ((l.length-1)*5)=(l.eraseIdx k).flatMap Ms.cs:=by
 have h0:=J6 l;have h1:=J6<|l.drop<|k+1;have h2:=J6<|l.eraseIdx k;have h3:=J6<|l.take k;rw[List.length_drop]at h1;rw[List.length_eraseIdx_of_lt hk]at h2;rw[JK,adM<|by omega]at h3;have e:l.eraseIdx k=l.take k++l.drop (k+1):=List.eraseIdx_eq_take_drop_succ ..
 have es:l=l.take k++l.drop k:=(YE k l).symm;apply List.ext_getElem?;intro q;by_cases hq:q<(l.length-1)*5
 ·rw[List.getElem?_take_of_lt hq];have hz:F6.length=5:=rfl;have kz:(CE (l.flatMap Ms.cs) (k*5)<|(l.drop<|k+1).flatMap Ms.cs).length=l.length*5:=by rw[Za];exact h0
  rw[Zb _ _ _ _ (by rw[kz,hz];omega),if_neg<|by omega,Zb _ _ _ _ (by rw[h0,h1];omega),e,Fq];by_cases hc:k*5<=q
  ·rw[if_pos ⟨hc,by rw[h1];omega⟩,wG (by rw[h3];exact hc),h3]
  ·rw[if_neg<|by omega,tJ (by rw[h3];omega)];conv=>lhs;rw[es,Fq]
   rw[tJ (by rw[h3];omega)]
 ·rw[adJ (by rw[JK];omega),adJ (by rw[h2];omega)]
def Ms.one:∀u∈l.flatMap Ms.cs,u.oneCell'=true:=by
 intro u hu;obtain⟨m,_,hu⟩:=YJ.1 hu;simp only[Ms.cs,jC,oN,oO]at hu;rcases hu with rfl|rfl|rfl|rfl|rfl<;>rfl
def anZ{ty:bW}{wd n m:Nat}{xs:List aj}(h:w.ownsRow B ty wd (.slice (ae ⟨g,0,af⟩) n cap) n xs)(hm:m<=n):w.ownsRow B ty wd (.slice (ae ⟨g,0,af⟩) m cap) m (xs.take<|m*wd):=by
 have hmw:m*wd<=n*wd:=Nat.mul_le_mul_right _ hm;refine⟨by rw[JK,h.1];omega,?_⟩;rcases h.2 with⟨hv,h0⟩|⟨g',c,cur,hv,hb,hg,h1,h2,h3,h4⟩
 ·cases hv
 ·simp only[aB7]at hv;obtain⟨jf,_,rfl⟩:=hv;cases jf;refine .inr ⟨g,cap,cur,rfl,hb,hg,by omega,h2,h3,?_⟩;rw[<-h4,List.take_take];congr 1;omega
def an0(w:ah)(ty:bW)(b o c:Nat)(hc:∀j,j<5->(w.cell? ⟨b,o+j,af⟩).isSome=true)(hf:∀j,j<5->w.frozen? ⟨b,o+j,af⟩=false):
 (Builtin.clear_ #[107] ty #[.slice (ae ⟨b,o,af⟩) 1 c]).run prog w=.ok (.tuple #[]) (w.setCells b o F6):=by
 have hz:(Builtin.zeroCells (Value.agg #[.int .i64 0,.int .i64 0,.int .i64 0,.int .i64 0,.bool false]).cells 1).toList=F6:=by kernel_rfl
 have bU:=run_storeCells_cells (P:=prog) b o F6 0 w (by simpa[F6]using hc) (by simpa[F6]using hf) (by intro v hv;simp[F6]at hv;rcases hv with rfl|rfl<;>rfl);simp only[JM]at bU;simp[Builtin.clear_,aCP underlying107,hz,bU]
def an1(hk:k<l.length)(bY:w.ownsRow B 119 5 (.slice (ae ⟨g,0,af⟩) l.length cap) l.length (l.flatMap Ms.cs)):
 aK prog 186 #[.slice (ae ⟨g,0,af⟩) l.length cap,.int .i64 k,.int .i64<|(k:Int)+1] w fun e w'=>e=.returned (.slice (ae ⟨g,0,af⟩) (l.length-1:Nat) cap)/\
  w'.ownsRow B 119 5 (.slice (ae ⟨g,0,af⟩) (l.length-1) cap) (l.length-1) ((l.eraseIdx k).flatMap Ms.cs)/\Fr (fun q=>q=g) w w':=by
 obtain⟨i0,dF,gG,fO,iH⟩:=aCf Iu
 have HR:Hid (w.ownsRow B 119 5 (.slice (ae ⟨g,0,af⟩) l.length cap) l.length<|l.flatMap Ms.cs):=bY
 have axl:l.length<=cap/\cap<=maxLen:=by
  rcases bY.2 with⟨h,_⟩|⟨g',c',cur,h,_,_,h1,h2,_⟩
  ·cases h
  ·cases h;exact⟨h1,h2⟩
 obtain⟨uU,hm⟩:=axl
 unfold dH at hm
 have Ha:∀q u,(l.flatMap Ms.cs)[q]? =ae u->w.cell? ⟨g,q,af⟩=ae u:=by
  intro q u hq;have:=bY.cells (g:=g) rfl q u hq;rwa[show(⟨g,0,af⟩:Addr).add q=⟨g,q,af⟩by rw[aCo,Cm]]at this
 have afh:∀q,w.frozen? ⟨g,q,af⟩=false:=bY.frozenAt
 have hml:=J6 l
 obtain⟨news,Tf⟩:∃news,news=(l.drop<|k+1).flatMap Ms.cs:=⟨_,rfl⟩
 have hlen:news.length=(l.length-(k+1))*5:=by rw[Tf,J6,List.length_drop]
 have LU:∀t u,news[t]? =ae u->(l.flatMap Ms.cs)[(k+1)*5+t]? =ae u:=by
  intro t u ht;have e:l.flatMap Ms.cs=(l.take<|k+1).flatMap Ms.cs++news:=by
   rw[Tf,<-Fq,YE]
  have h3:=J6<|l.take<|k+1;rw[JK,adM<|by omega]at h3;rw[e,wG<|by omega,h3,show(k+1)*5+t-(k+1)*5=t by omega];exact ht
 obtain⟨A,hA,axm⟩:∃A:Addr,(if cap=k+1 then ae (⟨g,0,af⟩:Addr)else ae ⟨g,(k+1)*5,af⟩)=ae A/\Hid (∀t u,news[t]? =ae u->w.drew.cell? (A.add t)=ae u):=by
  by_cases h:cap=k+1
  ·refine⟨⟨g,0,af⟩,by simp[h],fun t u hu=>?_⟩;have h0:news.length=0:=by rw[hlen];omega
   rw[Uo.1 h0]at hu;simp at hu
  ·refine⟨⟨g,(k+1)*5,af⟩,by simp[h],fun t u hu=>?_⟩;rw[aCo];exact Ha _ _<|LU t u hu
 have s1:Hid (news.length=(l.length-(k+1))*5):=hlen
 have s2:Hid (∀u∈news,u.oneCell'=true):=by rw[Tf];exact Ms.one
 have ajW:∀q,q<l.length*5->(w.cell? ⟨g,q,af⟩).isSome=true:=by
  intro q hq;rw[Ha q _<|dR<|by omega];rfl
 have s3:Hid (∀t,t<news.length->(w.drew.cell? ⟨g,0+k*5+t,af⟩).isSome=true/\w.drew.frozen? ⟨g,0+k*5+t,af⟩=false):=by
  intro t ht;rw[hlen]at ht;exact⟨ajW _<|by omega,afh _⟩
 obtain⟨W1,Jp⟩:∃W1,W1=w.drew.setCells g (0+k*5) news:=⟨_,rfl⟩
 have O6:w.drew.ownsRow B 119 5 (.slice (ae ⟨g,0,af⟩) l.length cap) l.length (l.flatMap Ms.cs):=bY
 have R1:Hid (W1.ownsRow B 119 5 (.slice (ae ⟨g,0,af⟩) l.length cap) l.length<|CE (l.flatMap Ms.cs) (k*5) news):=by
  rw[Jp,Qo,Cm];exact Zc O6 (by rw[hlen];omega)
 have F1:Hid (Fr (fun q=>q=g) w W1):=by
  rw[Jp,Qo];exact((Fr.refl (fun q=>q=g) w).drew).Ih (.inl rfl) _ _
 have afi:∀q,q<l.length*5->(W1.cell? ⟨g,q,af⟩).isSome=true:=by
  intro q hq;have aAw:(CE (l.flatMap Ms.cs) (k*5) news).length=l.length*5:=by rw[Za];exact hml
  have:=R1.out.cells (g:=g) rfl q _ (dR<|by omega);rw[show(⟨g,0,af⟩:Addr).add q=⟨g,q,af⟩by rw[aCo,Cm]]at this;rw[this];rfl
 have e2:k+(l.length-(k+1))=l.length-1:=by omega
 have mP:∀ty,(Builtin.clear_ #[107] ty #[.slice (ae ⟨g,(l.length-1)*5,af⟩) (l.length-(l.length-1))<|cap-(l.length-1)]).run prog W1=.ok (.tuple #[]) (W1.setCells g ((l.length-1)*5) F6):=by
  intro ty;rw[show l.length-(l.length-1)=1 by omega];exact an0 W1 ty g _ _ (fun j hj=>afi _<|by omega) fun j _=>R1.out.frozenAt _
 have hW:Hid (W1=w.drew.setCells g (0+k*5) news):=Jp
 have HN:Hid (news=(l.drop<|k+1).flatMap Ms.cs):=Tf
 have HK:Hid (k<l.length):=hk
 have XW:k<=cap:=by omega
 have XO:k+1<=cap:=by omega
 have mM:k+1<=l.length:=by omega
 have BN:(0:Int)<=(k:Int)+1:=by omega
 have qU:(k:Int)+1<=(l.length:Int):=by omega
 clear Jp Tf hlen LU Ha bY O6 ajW afi afh hml
 go_enter func186,ntmps186
 go_wp2_with fail
 go_region_law (refine step_append_room rfl _ _ 107 rfl 119 i0 5 underlying107 dF fO g 0 k cap (by simp[Act.eval,Act.put]) A (l.length-(k+1)) (cap-(k+1)) news (by simp[Act.eval,Act.put]) s1.out axm.out s2.out (by omega) s3.out ?_;rw[<-hW.out])
 all_goals
  go_wp2
  go_ret
  refine⟨rfl,?_,?_⟩
  ·rw[Qo,<-anY HK.out,<-HN.out]
   exact anZ (Zc R1.out (by have:=HK.out;show _+5<=_;omega))<|by omega
  ·rw[Qo]
   exact F1.out.Ih (.inl rfl) _ _
end
section
section
variable{w w':ah}{B xb n:Nat}{h:HS}
def bI.box{w1 w2:ah}{n1 c:Nat}{h1:HS}(a:bI w w1 B xb n h n1 h1)(f:Fr (fun q=>q=c) w1 w2)(hc:w.heap.size<=c)(hn:¬h1.dZ xb c):bI w w2 B xb n h n1 h1:=
 ⟨a.at_.stay f (fun k e hf=>hn (by subst e;exact hf)),a.fr.trans f (fun k e=>.inr<|by omega),a.sub⟩
variable{k:Nat}{m:Ms}
def Vo(hh:ay w B xb n h)(hk:h.fl[k]? =ae m):
 aK prog 140 #[.pointer<|ae ⟨xb,69,af⟩,.int .i64 k] w fun r w'=>r=.returned (.agg #[.int .i64 m.k,.int .i64 m.q,.int .i64 m.p,.int .i64 m.t,.bool m.c])/\
  ∃fv,bI w w' B xb n h n (h.gp fv<|h.fl.eraseIdx k):=by
 have HH:Hid (ay w B xb n h):=hh
 have mM:=(List.getElem?_eq_some_iff.mp hk).1
 have cF:=hh.cF
 obtain⟨g,cap,e,hg,oH,kM,c0,c1,c2,c3,c4⟩:=Vl hh.lY hk
 have HE:Hid (h.fv=.slice (ae ⟨g,0,af⟩) h.fl.length cap):=e
 have J4:Hid (w.ownsRow B 119 5 (.slice (ae ⟨g,0,af⟩) h.fl.length cap) h.fl.length<|h.fl.flatMap Ms.cs):=by have:=hh.lY;rw[e]at this;exact this
 have HG:Hid (¬xb=g):=fun e2=>UR hh.lY hh.blk (by decide) (by rw[e,e2];rfl)
 unfold dH at kM
 rw[e]at cF
 have aB:=aS hh.blk
 have HK:Hid (k<h.fl.length):=mM
 have BN:(k:Int)<(h.fl.length:Int):=by omega
 clear hh hk e
 go_enter func140,ntmps140
 go_wp2_with
  ((go_at_call 186;refine(an1 HK.out<|((aZ _).alloc _).ownsRow J4.out fun _ _=>id).mono ?_;rintro e w1 ⟨rfl,hr1,bg⟩
    have R1:Hid (w1.ownsRow B 119 5 (.slice (ae ⟨g,0,af⟩) (h.fl.length-1) cap) (h.fl.length-1)<|(h.fl.eraseIdx k).flatMap Ms.cs):=hr1
    have F1:Hid (Fr (fun q=>q=g) ((w.alloc _).alloc _) w1):=bg
    have lH:=(bg.block xb (by simp<;>omega) HG.out).trans<|((aZ _).alloc _).block _ aB id |>.trans HH.out.blk
    have k0:w1.cell? ⟨xb,69,af⟩=ae (.slice (ae ⟨g,0,af⟩) h.fl.length cap):=(aG lH 69).trans<|by rw[(HS.c4 HH.out.h6).2.2.2,HE.out]
    have k1:∀o,w1.frozen? ⟨xb,o,af⟩=false:=jP lH
    have k2:w1.heap[w.heap.size+1]? =ae (.cells #[.int .i64 m.k,.int .i64 m.q,.int .i64 m.p,.int .i64 m.t,.bool m.c] 119 (0,0)):=(bg.block _ (by simp)<|by omega).trans<|AZ _<|by simp
    have z2:w1.heap[w.heap.size]? =ae (.cells #[.int .i64 0,.int .i64 0,.int .i64 0,.int .i64 0,.bool false] 119 (0,0)):=(bg.block _ (by simp<;>omega)<|by omega).trans<|(Fr.alloc (Fr.refl (fun _=>False) _) _).block _ (by simp) id |>.trans (AZ _<|by simp)
    have m0:w1.cell? ⟨w.heap.size+1,0,af⟩=ae (.int .i64 m.k):=by rw[aG k2];rfl
    have m1:w1.cell? ⟨w.heap.size+1,1,af⟩=ae (.int .i64 m.q):=by rw[aG k2];rfl
    have m2:w1.cell? ⟨w.heap.size+1,2,af⟩=ae (.int .i64 m.p):=by rw[aG k2];rfl
    have m3:w1.cell? ⟨w.heap.size+1,3,af⟩=ae (.int .i64 m.t):=by rw[aG k2];rfl
    have m4:w1.cell? ⟨w.heap.size+1,4,af⟩=ae (.bool m.c):=by rw[aG k2];rfl
    have y0:w1.cell? ⟨w.heap.size,0,af⟩=ae (.int .i64 0):=by rw[aG z2];rfl
    have y1:w1.cell? ⟨w.heap.size,1,af⟩=ae (.int .i64 0):=by rw[aG z2];rfl
    have y2:w1.cell? ⟨w.heap.size,2,af⟩=ae (.int .i64 0):=by rw[aG z2];rfl
    have y3:w1.cell? ⟨w.heap.size,3,af⟩=ae (.int .i64 0):=by rw[aG z2];rfl
    have y4:w1.cell? ⟨w.heap.size,4,af⟩=ae (.bool false):=by rw[aG z2];rfl
    have yf:∀o,w1.frozen? ⟨w.heap.size,o,af⟩=false:=jP z2
    have Z2:Hid (w1.heap[w.heap.size]? =ae (.cells #[.int .i64 0,.int .i64 0,.int .i64 0,.int .i64 0,.bool false] 119 (0,0))):=z2
    have pq:¬xb=w.heap.size:=by omega
    have gq:¬xb=w.heap.size+1:=by omega
    clear hr1 bg lH k2 z2))
 have fz:Fr (fun q=>q=xb) w1 (w1.setCell ⟨xb,69,af⟩<|.slice (ae ⟨g,0,af⟩) (h.fl.length-1) cap):=(Fr.refl (fun q=>q=xb) w1).setCell (p:=⟨xb,69,af⟩) (.inl rfl) _
 have q0:=(fz.block w.heap.size (aS Z2.out)<|by omega).trans Z2.out
 have q5:=jQ (jQ (jQ (jQ (jQ q0 0<|.int .i64 m.k) 1<|.int .i64 m.q) 2<|.int .i64 m.p) 3<|.int .i64 m.t) 4<|.bool m.c
 refine aCk (aev rfl _ _ _ 119 _ (0,0) _ rfl q5 underlying119 rfl<|by kernel_rfl) rfl ?_
 have FA:Fr (fun q=>q=g) w w1:=(((aZ _).alloc _).mono fun _ h=>h.elim).trans F1.out fun _ e=>.inl e
 have el:(h.fl.eraseIdx k).length=h.fl.length-1:=List.length_eraseIdx_of_lt HK.out
 have mv:=HH.out.ZP (w3:=w1) (fv:=.slice (ae ⟨g,0,af⟩) (h.fl.length-1) cap) (l:=h.fl.eraseIdx k) (FA.mono fun q e=>.inl (by rw[HE.out,e];rfl)) (by rw[el];exact R1.out) fun q hq=>.inl (by rw[HE.out];exact hq)
 refine⟨rfl,_,mv.box (c:=w.heap.size) (((((((Fr.refl (fun q=>q=w.heap.size) _).setCell (p:=⟨w.heap.size,0,af⟩) (.inl rfl) _)).setCell (p:=⟨w.heap.size,1,af⟩) (.inl rfl) _).setCell (p:=⟨w.heap.size,2,af⟩) (.inl rfl) _).setCell (p:=⟨w.heap.size,3,af⟩) (.inl rfl) _).setCell (p:=⟨w.heap.size,4,af⟩) (.inl rfl) _) (bV _) ?_⟩
 intro hf
 have DV:h.dZ xb w.heap.size:=by
  rcases hf with e|e|e|e|e
  ·exact .inl e
  ·exact .inr<|.inl e
  ·exact .inr<|.inr<|.inl e
  ·exact .inr<|.inr<|.inr<|.inl (by rw[HE.out];exact e)
  ·exact .inr<|.inr<|.inr<|.inr e
 exact PI _ (HH.out.rV DV).1
def an2(hh:ay w B xb n h)(hk:h.fl[k]? =ae m):
 aK prog 83 #[.pointer<|ae ⟨xb,0,af⟩,.int .i64 k] w fun r w'=>r=.returned (.int .i64 0)/\∃fv,bI w w' B xb n h n (h.gp fv<|h.fl.eraseIdx k):=by
 have HH:Hid (ay w B xb n h):=hh;have mM:=(List.getElem?_eq_some_iff.mp hk).1;have HM:Hid (decide ((0:Int)<=k/\(k:Int)<h.fl.length)=true):=jI (by omega);have HK:Hid (h.fl[k]? =ae m):=hk;have aB:=aS hh.blk;clear hh hk;go_enter func83,ntmps83
 go_wp2_with (first
  |(go_at_call 139;refine(Nl HH.out k).mono ?_;rw[HM.out];rintro e w1 ⟨rfl,rfl⟩)
  |(go_at_call 140;refine(Vo HH.out HK.out).mono ?_;rintro e w2 ⟨rfl,fv,hm⟩
    have M2:Hid (bI w w2 B xb n h n<|h.gp fv<|h.fl.eraseIdx k):=hm
    clear hm))
 go_ret;exact⟨rfl,fv,M2.out⟩
def an3(hh:ay w B xb n h):
 aK prog 53 #[.pointer<|ae ⟨xb,69,af⟩] w fun r w'=>r=.returned h.fv/\bI w w' B xb n h n (h.gp (.slice af 0 0) [])/\Fr (fun q=>q=xb) w w':=by
 have HH:Hid (ay w B xb n h):=hh;have cF:=hh.cF;have cf:∀o,w.frozen? ⟨xb,o,af⟩=false:=jP hh.blk;obtain⟨la,lc,hl,BQ⟩:=oL hh.lY;have Vm:Hid (h.fv=.slice la h.fl.length lc):=hl;rw[hl]at cF;rw[hl];clear hh hl BQ;go_enter func53,ntmps53
 go_wp2
 go_ret;refine⟨rfl,?_,(Fr.refl (fun q=>q=xb) w).setCell (p:=⟨xb,69,af⟩) (.inl rfl) _⟩;have:=HH.out.ZP (w3:=w) (fv:=.slice af 0 0) (l:=[]) (Fr.refl _ _) (aCb _ _ _ _) (fun q hq=>by cases hq);exact this
end
end
section
variable{w:ah}{g2 c2:Nat}
def an4{va:Option Addr}{n c:Nat}(hn:n≠1):
 aK prog 117 #[.slice va n c,.slice (ae ⟨g2,0,af⟩) 1 c2] w fun e w'=>e=.returned (.bool false)/\∃q,w'=w.drewN q:=by
 have h1:((n:Int)==1)=false:=by simp<;>omega
 have h2:((n:Int) !=1)=true:=by simp[bne,h1]
 go_enter func117,ntmps117
 go_wp2
 go_ret;exact⟨rfl,0,rfl⟩
def an5{g1 c1:Nat}{a b:Int}(x0:w.cell? ⟨g1,0,af⟩=ae (.int .i64 b))(y0:w.cell? ⟨g2,0,af⟩=ae (.int .i64 a)):
 aK prog 117 #[.slice (ae ⟨g1,0,af⟩) 1 c1,.slice (ae ⟨g2,0,af⟩) 1 c2] w fun e w'=>e=.returned (.bool<|decide<|b=a)/\∃q,w'=w.drewN q:=by
 by_cases hab:b=a
 ·subst hab;rw[show decide (b=b)=true by simp];go_enter func117,ntmps117
  go_wp2_with fail
  go_loopw [13] (fun i w'=>∃k:Nat,k<=1/\i=.int .i64 k/\∃q,w'=w.drewN q) (fun i _=>1-(dX i).toNat)
  case atStart=>exact⟨0,lK _,rfl,0,rfl⟩
  case round=>
   obtain⟨k,hk,rfl,q,rfl⟩:=hrel
   by_cases aB:k<1
   ·obtain rfl:k=0:=by omega
    go_wp2_with fail
    go_quiet (fail)
    go_wp2
    go_roundw
    case rel=>exact⟨1,by omega,by go_num,q+nq,by simp[World.drewN]⟩
    case measure=>simp[dX]
   ·obtain rfl:k=1:=by omega
    go_wp2
    go_ret
    exact⟨rfl,q,rfl⟩
 ·rw[show decide (b=a)=false by simpa using hab];have bM:(b==a)=false:=by simpa using hab
  have ajY:(b !=a)=true:=by simp[bne,bM]
  go_enter func117,ntmps117
  go_wp2_with fail
  go_loopw [13] (fun i w'=>i=.int .i64 0/\∃q,w'=w.drewN q) (fun _ _=>0)
  case atStart=>exact⟨rfl,0,rfl⟩
  case round=>
   obtain⟨rfl,q,rfl⟩:=hrel
   go_wp2_with fail
   go_quiet (fail)
   go_wp2
   go_ret
   exact⟨rfl,q+nq,by simp[World.drewN]<;>omega⟩
end
section
inductive xH(h:HS)(i:Nat)(x:PS)(m:Ms):HS->Prop
 |idle (hi:¬(h.up=true/\(x.s=2\/x.s=3)/\x.t=m.t)):xH h i x m h
 |done {ok:Bool} {h':HS} (hi:h.up=true/\(x.s=2\/x.s=3)/\x.t=m.t) (ht:bF x.aT 2 4=[m.q]) (hw:jo h ⟨4,i,0,x.t⟩ ok h'):xH h i x m h'
 |tie (hi:h.up=true/\(x.s=2\/x.s=3)/\x.t=m.t) (ht:bF x.aT 2 4≠[m.q]):xH h i x m (h.dE i<|x.tie m.q.toNat 1)
section
variable{w w':ah}{B xb n:Nat}{h:HS}
def afj{W:ah}{B' b:Nat}{va:aj}{L:List Int}{q:Int}(ha:W.ownsRow B' 3 1 va L.length (fK L))(hb:W.cell? ⟨b,0,af⟩=ae (.int .i64 q)):
 aK prog 117 #[va,.slice (ae ⟨b,0,af⟩) 1 1] W fun e w'=>e=.returned (.bool<|decide<|L=[q])/\∃k,w'=W.drewN k:=by
 obtain⟨a1,c1,rfl,_⟩:=lC ha;by_cases hl:L.length=1
 ·match L,hl with
  |[p],_=>
   rcases Y7 ha with⟨_,h0⟩|⟨g,cap,e,_⟩
   ·cases h0
   ·simp only[aB7]at e;obtain⟨rfl,_⟩:=e;have:=an5 (w:=W) (c1:=c1) (c2:=1) (zO ha (k:=0) (x:=p) rfl) hb;rw[show decide ([p]=[q])=decide (p=q)by simp];exact this
 ·have e:decide (L=[q])=false:=by
   simp only[decide_eq_false_iff_not];rintro rfl;exact hl rfl
  rw[e];exact an4 hl
variable{q i:Nat}{x:PS}
def an6(hh:ay w B xb n h)(hi:i<6)(m:Ms)(hp:m.p=i)(hu:h.up=false):
 aK prog 55 #[.pointer<|ae ⟨xb,4,af⟩,.agg #[.int .i64 m.k,.int .i64 m.q,.int .i64 m.p,.int .i64 m.t,.bool m.c]] w fun e w'=>e=.returned (.tuple #[])/\Fr aH w w':=by
 have c5:=hh.cU;rw[hu]at c5;have aB:=aS hh.blk;have kG:(i:Int)<6:=by omega
 have dF:(0:Int)<=(i:Int):=by omega
 rw[hp];clear hh hu;go_enter func55,ntmps55
 go_wp2_with fail
 go_quiet (fail)
 go_wp2
 go_quiet (fail)
 go_wp2
 refine aCk (aC4 rfl _ _ _) rfl ?_;exact⟨rfl,((aZ _).drewN _).drewN _⟩
def an7(hh:ay w B xb n h)(hi:i<6)(hx:h.ps[i]? =ae x)(m:Ms)(hp:m.p=i)(hu:h.up=true)(hs:¬(x.s=2\/x.s=3)):
 aK prog 55 #[.pointer<|ae ⟨xb,4,af⟩,.agg #[.int .i64 m.k,.int .i64 m.q,.int .i64 m.p,.int .i64 m.t,.bool m.c]] w fun e w'=>e=.returned (.tuple #[])/\Fr aH w w':=by
 have HH:Hid (ay w B xb n h):=hh;have c5:=hh.cU;rw[hu]at c5;have HX:Hid (h.ps[i]? =ae x):=hx;have HC:Hid (∀W,ay W B xb n h->aK prog 66 #[.pointer<|ae ⟨xb,6+i*10,af⟩] W fun e w'=>e=.returned (.bool false)/\w'=W):=fun W hW=>by
  have:=wL (o:=6+i*10) x.s<|hW.iJ hx 2 _ rfl;rw[qC hs]at this;exact this.mono fun e w' h=>⟨h.1,h.2.symm⟩
 have aB:=aS hh.blk;have kG:(i:Int)<6:=by omega
 have dF:(0:Int)<=(i:Int):=by omega
 rw[hp];clear hh hu hx hs;go_enter func55,ntmps55
 go_wp2_with fail
 go_quiet (fail)
 go_wp2
 go_quiet ((go_at_call 66;exact(HC.out _<|HH.out.after<|(aZ _).drewN _).mono fun _ _ h=>⟨h.1,_,h.2⟩))
 go_wp2
 refine aCk (aC4 rfl _ _ _) rfl ?_;exact⟨rfl,((aZ _).drewN _).drewN _⟩
def an8(hh:ay w B xb n h)(hi:i<6)(hx:h.ps[i]? =ae x)(m:Ms)(hp:m.p=i)(hu:h.up=true)(hs:x.s=2\/x.s=3)(ht:x.t≠m.t):
 aK prog 55 #[.pointer<|ae ⟨xb,4,af⟩,.agg #[.int .i64 m.k,.int .i64 m.q,.int .i64 m.p,.int .i64 m.t,.bool m.c]] w fun e w'=>e=.returned (.tuple #[])/\Fr aH w w':=by
 have HH:Hid (ay w B xb n h):=hh;have c5:=hh.cU;rw[hu]at c5;obtain⟨⟨e0,e1,e2⟩,ef⟩:=hh.cellP hx;have HX:Hid (h.ps[i]? =ae x):=hx;have HC:Hid (∀W,ay W B xb n h->aK prog 66 #[.pointer<|ae ⟨xb,6+i*10,af⟩] W fun e w'=>e=.returned (.bool true)/\w'=W):=fun W hW=>by
  have:=wL (o:=6+i*10) x.s<|hW.iJ hx 2 _ rfl;rw[jI hs]at this;exact this.mono fun e w' h=>⟨h.1,h.2.symm⟩
 have b1:(x.t==m.t)=false:=by simpa using ht
 have b2:(x.t !=m.t)=true:=by simp[bne,b1]
 have aB:=aS hh.blk;have kG:(i:Int)<6:=by omega
 have dF:(0:Int)<=(i:Int):=by omega
 rw[hp];clear hh hu hx hs e0 e2;go_enter func55,ntmps55
 go_wp2_with fail
 go_quiet (fail)
 go_wp2
 go_quiet ((go_at_call 66;exact(HC.out _<|HH.out.after<|(aZ _).drewN _).mono fun _ _ h=>⟨h.1,_,h.2⟩))
 go_wp2
 refine aCk (aC4 rfl _ _ _) rfl ?_;exact⟨rfl,((aZ _).drewN _).drewN _⟩
def an9(hh:ay w B xb n h)(hi:i<6)(hx:h.ps[i]? =ae x)(m:Ms)(hq:m.q=q)(l9:q<4)(hp:m.p=i)(hu:h.up=true)(hs:x.s=2\/x.s=3)(ht:x.t=m.t)(hm:lM h ⟨4,i,0,x.t⟩):
 aK prog 55 #[.pointer<|ae ⟨xb,4,af⟩,.agg #[.int .i64 m.k,.int .i64 m.q,.int .i64 m.p,.int .i64 m.t,.bool m.c]] w fun e w'=>e=.returned (.tuple #[])/\∃h',xH h i x m h'/\bI w w' B xb n h n h':=by
 have HH:Hid (ay w B xb n h):=hh;have c5:=hh.cU;rw[hu]at c5;obtain⟨⟨e0,e1,e2⟩,ef⟩:=hh.cellP hx;have HX:Hid (h.ps[i]? =ae x):=hx;have HC:Hid (∀W,ay W B xb n h->aK prog 66 #[.pointer<|ae ⟨xb,6+i*10,af⟩] W fun e w'=>e=.returned (.bool true)/\w'=W):=fun W hW=>by
  have:=wL (o:=6+i*10) x.s<|hW.iJ hx 2 _ rfl;rw[jI hs]at this;exact this.mono fun e w' h=>⟨h.1,h.2.symm⟩
 have HW:Hid (∀W,ay W B xb n h->aK prog 118 #[.pointer<|ae ⟨xb,4,af⟩,.agg #[.int .i64 4,.int .i64 i,.int .i64 0,.int .i64 x.t]] W fun e w'=>∃ok h',e=.returned (.bool ok)/\jo h ⟨4,i,0,x.t⟩ ok h'/\bI W w' B xb n h n h'):=fun W hW=>Nu hW hm;have HI:Hid (h.up=true/\(x.s=2\/x.s=3)/\x.t=m.t):=⟨hu,hs,ht⟩;have HQ:Hid (m.q=q):=hq;have aB:=aS hh.blk;have kG:(i:Int)<6:=by omega
 have dF:(0:Int)<=(i:Int):=by omega
 have uV:(q:Int)<4:=by omega
 have qV:(0:Int)<=(q:Int):=by omega
 rw[hp,hq,<-ht];clear hh hu hx hs e0 e2 ht hq hm;go_enter func55,ntmps55
 go_wp2_with fail
 go_quiet (fail)
 go_wp2
 go_quiet ((go_at_call 66;exact(HC.out _<|HH.out.after<|(aZ _).drewN _).mono fun _ _ h=>⟨h.1,_,h.2⟩))
 go_wp2_with fail
 go_region_law ((first
  |(go_simp;go_at_call 69;refine(JX (w:=(w.alloc _).drewN _) (p:=x) (fun j v hv=>(HH.out.after<|(aZ _).drewN _).iJ HX.out j v hv) 2).mono ?_;rintro e w1 ⟨v1,rfl,xh,bg⟩
    have F1:Hid (Fr aH w w1):=((aZ _).drewN _).trans bg fun _ h=>h.elim
    have N1:Hid (w1.ownsRow _ 3 1 v1 (bF x.aT 2 4).length<|fK<|bF x.aT 2 4):=xh
    have M1:Hid (w1.heap[w.heap.size]? =ae (.cells #[.int .i64 m.k,.int .i64 q,.int .i64 i,.int .i64 x.t,.bool m.c] 119 (0,0))):=(bg.block w.heap.size (by simp[World.drewN]) id).trans<|aB0 _ _
    have kq:w1.cell? ⟨w.heap.size,1,af⟩=ae (.int .i64 q):=(aG M1.out 1).trans rfl
    clear xh bg)
  |(go_simp;go_at_call 69;refine(JX (w:=((w.alloc _).drewN _).alloc _) (p:=x) (fun j v hv=>(HH.out.after<|((aZ _).drewN _).alloc _).iJ HX.out j v hv) 2).mono ?_;rintro e w1 ⟨v1,rfl,xh,bg⟩
    have F1:Hid (Fr aH w w1):=(((aZ _).drewN _).alloc _).trans bg fun _ h=>h.elim
    have N1:Hid (w1.ownsRow _ 3 1 v1 (bF x.aT 2 4).length<|fK<|bF x.aT 2 4):=xh
    have M1:Hid (w1.heap[w.heap.size]? =ae (.cells #[.int .i64 m.k,.int .i64 q,.int .i64 i,.int .i64 x.t,.bool m.c] 119 (0,0))):=(bg.block w.heap.size (by simp[World.drewN]<;>omega) id).trans<|((aZ (w:=(w.alloc _).drewN _) _).block w.heap.size (by simp[World.drewN]) id).trans<|aB0 _ _
    have kb:w1.cell? ⟨w.heap.size+1,0,af⟩=ae (.int .i64 q):=(aG ((bg.block (w.heap.size+1) (by simp[World.drewN]) id).trans<|AZ _<|by simp[World.drewN]) 0).trans rfl
    clear xh bg)
  |(go_simp;go_at_call 117;refine(afj (q:=q) N1.out kb).mono ?_;rintro e w2 ⟨rfl,kk,uy⟩
    have F2:Hid (Fr aH w1 w2):=by rw[uy];exact(Fr.refl _ _).drewN kk
    clear uy)
  |(go_simp;go_at_call 117;refine(afj (q:=q) (N1.out.alloc _)<|(aG (aB0 _ _) 0).trans rfl).mono ?_;rintro e w2 ⟨rfl,kk,uy⟩
    have F2:Hid (Fr aH w1 w2):=by rw[uy];exact((Fr.refl _ _).alloc _).drewN kk
    clear uy)))
 all_goals
  have FZ:Hid (Fr aH w w2):=F1.out.trans F2.out fun _ h=>h.elim
  have M2:=(F2.out.block w.heap.size (aS M1.out) id).trans M1.out
  have n1:w2.cell? ⟨w.heap.size,1,af⟩=ae (.int .i64 q):=(aG M2 1).trans rfl
  have n2:w2.cell? ⟨w.heap.size,2,af⟩=ae (.int .i64 i):=(aG M2 2).trans rfl
  have H2:Hid (ay w2 B xb n h):=HH.out.after FZ.out
  obtain⟨⟨_,r1,_⟩,rf⟩:=H2.out.cellP HX.out
  have r3:w2.cell? ⟨xb,6+i*10+(3+q),af⟩=ae (.int .i64<|x.aT.getD q 0):=H2.out.iJ HX.out (3+q) _<|JZ x l9
  rw[<-yL]at r3
  clear M2
  by_cases hL:bF x.aT 2 4=[(q:Int)]
  ·have HL:Hid (bF x.aT 2 4=[(q:Int)]):=hL
   rw[show decide (bF x.aT 2 4=[(q:Int)])=true from jI hL]
   clear hL
   go_wp2_with fail
   go_region_law
    ((go_simp;go_at_call 118;refine(HW.out _<|H2.out.after<|(Fr.refl _ _).drew).mono ?_;rintro e w3 ⟨ok,h',rfl,ho,dm⟩
      have R1:Hid (jo h ⟨4,i,0,x.t⟩ ok h'/\bI w w3 B xb n h n h'):=⟨ho,dm.behind<|FZ.out.drew⟩
      clear ho dm))
   all_goals
    go_wp2
    refine aCk (aC4 rfl _ _ _) rfl ?_
    exact⟨rfl,h',.done HI.out (by rw[HQ.out];exact HL.out) R1.out.1,R1.out.2⟩
  ·have HL:Hid (¬bF x.aT 2 4=[(q:Int)]):=hL
   rw[show decide (bF x.aT 2 4=[(q:Int)])=false from qC hL]
   clear hL
   go_wp2_with fail
   go_region
   all_goals
    go_wp2
    go_end0
    have t1:=H2.out.setCell (x.tie q 1) HX.out (j:=3+q) (by omega)<|UW x l9 1
    rw[<-yL]at t1
    have e3:m.q.toNat=q:=by rw[HQ.out];rfl
    refine⟨rfl,_,.tie HI.out (by rw[HQ.out];exact HL.out),?_⟩
    rw[e3]
    exact((bI.own (h:=h) (n:=n) t1.2 t1.1 fun k hk=>hk).after<|(Fr.refl _ _).drew).behind FZ.out
def afk(hh:ay w B xb n h)(hi:i<6)(hx:h.ps[i]? =ae x)(m:Ms)(hq:m.q=q)(l9:q<4)(hp:m.p=i)(hm:lM h ⟨4,i,0,x.t⟩):
 aK prog 55 #[.pointer<|ae ⟨xb,4,af⟩,.agg #[.int .i64 m.k,.int .i64 m.q,.int .i64 m.p,.int .i64 m.t,.bool m.c]] w fun e w'=>e=.returned (.tuple #[])/\∃h',xH h i x m h'/\bI w w' B xb n h n h':=by
 by_cases hu:h.up=true
 ·by_cases hs:x.s=2\/x.s=3
  ·by_cases ht:x.t=m.t
   ·exact an9 hh hi hx m hq l9 hp hu hs ht hm
   ·exact(an8 hh hi hx m hp hu hs ht).mono fun e w' ⟨h1,h2⟩=>⟨h1,h,.idle fun c=>ht c.2.2,(bI.refl hh).after h2⟩
  ·exact(an7 hh hi hx m hp hu hs).mono fun e w' ⟨h1,h2⟩=>⟨h1,h,.idle fun c=>hs c.2.1,(bI.refl hh).after h2⟩
 ·exact(an6 hh hi m hp<|by simpa using hu).mono fun e w' ⟨h1,h2⟩=>⟨h1,h,.idle fun c=>hu c.1,(bI.refl hh).after h2⟩
end
end
section
def rq(l:List Ms)(m:Ms):List Ms:=if 100<=l.length then l else l++[m]
def uG(l:List Ms)(i t:Int)(c:Bool)(qs:List Int):List Ms:=qs.foldl (fun l q=>rq l ⟨1,q,i,t,c⟩) l
def aoa(l:List Ms)(i t:Int)(c:Bool){qs:List Int}{j:Nat}{q:Int}(hq:qs[j]? =ae q):uG l i t c (qs.take<|j+1)=rq (uG l i t c<|qs.take j) ⟨1,q,i,t,c⟩:=by
 rw[zK,hq];simp[uG,UC]
def wM.going{w w':ah}{B xb n:Nat}{h:HS}{m:Ms}(hh:ay w B xb n h)(s:wM w w' B xb n h m):∃fv,bI w w' B xb n h n (h.gp fv<|rq h.fl m):=by
 cases s with
 |lost hl f=>
  refine⟨h.fv,?_⟩;rw[show rq h.fl m=h.fl by simp[rq,hl]];exact(bI.refl hh).after f
 |gp hl fv mv _=>
  refine⟨fv,?_⟩;rw[show rq h.fl m=h.fl++[m]by rw[rq,if_neg<|by omega]];exact mv
section
variable{w w':ah}{B xb n:Nat}{h:HS}
variable{i:Nat}{x:PS}
def aob(hh:ay w B xb n h)(hi:i<6)(hx:h.ps[i]? =ae x)(bo:Int)(sv:aj)(hw:1<x.wa)(uy:x.wa<=9223372036854775807):
 aK prog 173 #[.pointer<|ae ⟨xb,4,af⟩,.int .i64 i,.int .i64 bo,sv] w fun e w'=>e=.returned (.tuple #[])/\bI w w' B xb n h n (h.dE i {x with wa:=x.wa-1}):=by
 have HH:Hid (ay w B xb n h):=hh;have HX:Hid (h.ps[i]? =ae x):=hx;have c8:=hh.iJ hx 8 _ rfl;have cf:∀o,w.frozen? ⟨xb,o,af⟩=false:=jP hh.blk;have kG:(i:Int)<6:=by omega
 have dF:(0:Int)<=(i:Int):=by omega
 have aB:=aS hh.blk;clear hh hx;go_enter func173,ntmps173
 go_wp2
 refine aCk (aC4 rfl _ _ _) rfl ?_;have t1:=HH.out.setCell {x with wa:=x.wa-1} HX.out (j:=8) (v:=.int .i64<|x.wa-1) (by omega) rfl;exact⟨rfl,bI.own (h:=h) (n:=n) t1.2 t1.1 fun k hk=>hk⟩
def ay.aoc(hh:ay w B xb n h){B':Nat}{v:aj}{l:List Int}(hr:w.ownsRow B' 3 1 v l.length (fK l)):∀k,h.dZ xb k->v.ownBlock=ae k->False:=by
 intro k hk hv;have t:=ig hr hv;rcases hh.Zl hk with e|e|e|e|e|e|e;all_goals first
  |(rw[t]at e;cases e;done)
  |(obtain⟨e,_⟩:=e;rw[t]at e;cases e;done)
def aod(hh:ay w B xb n h)(hi:i<6)(hx:h.ps[i]? =ae x)(bo:Int)(hw:x.wa<=1)(uy: -9223372036854775808<x.wa)(Aj:0<=x.ga)(hg:x.ga<=1000000000000):
 aK prog 173 #[.pointer<|ae ⟨xb,4,af⟩,.int .i64 i,.int .i64 bo,.func (.func 120) #[.pointer<|ae ⟨xb,69,af⟩] #[]] w fun e w'=>e=.returned (.tuple #[])/\
  ∃fv,bI w w' B xb n h n ((h.gp fv<|uG h.fl i x.t (x.s==2)<|bF x.aT 2 4).dE i {x with wa:=x.ga,ga:=min (2*x.ga) bo}):=by
 have HH:Hid (ay w B xb n h):=hh
 have HX:Hid (h.ps[i]? =ae x):=hx
 have c8:=hh.iJ hx 8 _ rfl
 have cf:∀o,w.frozen? ⟨xb,o,af⟩=false:=jP hh.blk
 have t1:=hh.setCell {x with wa:=x.wa-1} hx (j:=8) (v:=.int .i64<|x.wa-1) (by omega) rfl
 have T1:Hid (ay (w.setCell ⟨xb,6+i*10+8,af⟩<|.int .i64<|x.wa-1) B xb n (h.dE i {x with wa:=x.wa-1})/\Fr (fun k=>k=xb) w (w.setCell ⟨xb,6+i*10+8,af⟩<|.int .i64<|x.wa-1)):=t1
 have X1:Hid ((h.dE i {x with wa:=x.wa-1}).ps[i]? =ae {x with wa:=x.wa-1}):=rW hx
 have kG:(i:Int)<6:=by omega
 have dF:(0:Int)<=(i:Int):=by omega
 have aB:=aS hh.blk
 clear hh hx t1
 go_enter func173,ntmps173
 go_wp2_with
  ((go_at_call 69;refine(JX (p:={x with wa:=x.wa-1}) (fun j v hv=>T1.out.1.iJ X1.out j v hv) 2).mono ?_;rintro e w2 ⟨v2,rfl,rG,jB⟩
    have ZR:w2.ownsRow (w.setCell ⟨xb,6+i*10+8,af⟩<|.int .i64<|x.wa-1).heap.size 3 1 v2 (bF x.aT 2 4).length (fK<|bF x.aT 2 4):=rG
    obtain⟨va,vc,rfl,BL⟩:=lC ZR
    have N2:Hid (w2.ownsRow (w.setCell ⟨xb,6+i*10+8,af⟩<|.int .i64<|x.wa-1).heap.size 3 1 (.slice va (bF x.aT 2 4).length vc) (bF x.aT 2 4).length<|fK<|bF x.aT 2 4):=ZR
    have F2:Hid (Fr aH (w.setCell ⟨xb,6+i*10+8,af⟩<|.int .i64<|x.wa-1) w2):=jB
    unfold dH at BL
    clear rG jB ZR))
 go_loopw [31] (fun iv w'=>∃(j:Nat) (fv:aj),j<=(bF x.aT 2 4).length/\iv=.int .i64 j/\bI w w' B xb n h n ((h.dE i {x with wa:=x.wa-1}).gp fv<|uG h.fl i x.t (x.s==2)<|(bF x.aT 2 4).take j)/\
  w'.ownsRow (w.setCell ⟨xb,6+i*10+8,af⟩<|.int .i64<|x.wa-1).heap.size 3 1 (.slice va (bF x.aT 2 4).length vc) (bF x.aT 2 4).length (fK<|bF x.aT 2 4)) (fun iv _=>(bF x.aT 2 4).length-(dX iv).toNat)
 case atStart=>exact⟨0,h.fv,lK _,rfl,(bI.own (h:=h) (n:=n) T1.out.2 T1.out.1 fun k hk=>hk).after F2.out,N2.out⟩
 case round=>
  obtain⟨j,fv,hj,rfl,dm,bY⟩:=hrel
  have MV:Hid (bI w wr B xb n h n<|(h.dE i {x with wa:=x.wa-1}).gp fv<|uG h.fl i x.t (x.s==2)<|(bF x.aT 2 4).take j):=dm
  have NR:Hid (wr.ownsRow (w.setCell ⟨xb,6+i*10+8,af⟩<|.int .i64<|x.wa-1).heap.size 3 1 (.slice va (bF x.aT 2 4).length vc) (bF x.aT 2 4).length<|fK<|bF x.aT 2 4):=bY
  have r1:wr.cell? ⟨xb,6+i*10+1,af⟩=ae (.int .i64 x.t):=dm.at_.iJ X1.out 1 _ rfl
  have r2:wr.cell? ⟨xb,6+i*10+2,af⟩=ae (.int .i64 x.s):=dm.at_.iJ X1.out 2 _ rfl
  have hlr:=aS dm.at_.blk
  by_cases nU:j<(bF x.aT 2 4).length
  ·obtain⟨q,hq⟩:∃q,(bF x.aT 2 4)[j]? =ae q:=⟨_,dR nU⟩
   have HQ:Hid ((bF x.aT 2 4)[j]? =ae q):=hq
   obtain⟨g1,rfl,x0⟩:∃g1,va=ae ⟨g1,0,af⟩/\wr.cell? ⟨g1,j,af⟩=ae (.int .i64 q):=by
    rcases Y7 bY with⟨_,h0⟩|⟨g,cap,e,_⟩
    ·rw[h0]at nU;simp at nU
    ·simp only[aB7]at e;obtain⟨rfl,_⟩:=e;exact⟨g,rfl,zO bY hq⟩
   have qW:(j:Int)<((bF x.aT 2 4).length:Int):=by omega
   clear dm bY hq
   go_wp2_with fail
   go_region_law
    ((go_simp;go_at_call 120;refine(ZQ (MV.out.at_.after<|(Fr.refl _ _).drew) ⟨1,q,i,x.t,x.s==2⟩).mono ?_;rintro e w4 ⟨rfl,hs⟩
      have S4:Hid (wM wr w4 B xb n _ ⟨1,q,i,x.t,x.s==2⟩):=hs.behind<|(Fr.refl _ _).drew
      clear hs))
   all_goals
    go_wp2
    go_roundw
    case rel=>
     obtain⟨iL,mv'⟩:=S4.out.going MV.out.at_
     refine⟨j+1,iL,by omega,by go_num,?_,mv'.fr.ownsRow NR.out fun k hk hS=>MV.out.at_.aoc NR.out k hS hk⟩
     rw[aoa _ _ _ _ HQ.out]
     exact MV.out.trans mv'
    case measure=>simp[dX]<;>omega
  ·have r9:wr.cell? ⟨xb,6+i*10+9,af⟩=ae (.int .i64 x.ga):=dm.at_.iJ X1.out 9 _ rfl
   have r8:wr.cell? ⟨xb,6+i*10+8,af⟩=ae (.int .i64<|x.wa-1):=dm.at_.iJ X1.out 8 _ rfl
   have rf:∀o,wr.frozen? ⟨xb,o,af⟩=false:=jP dm.at_.blk
   obtain rfl:j=(bF x.aT 2 4).length:=by omega
   clear dm bY r1 r2
   go_wp2_with fail
   go_region
   all_goals
    go_end0
    have axo:(bF x.aT 2 4).take (bF x.aT 2 4).length=bF x.aT 2 4:=List.take_length
    have mv:=MV.out
    rw[axo]at mv
    have a1:=mv.at_.setCell {x with wa:=x.ga} X1.out (j:=8) (v:=.int .i64 x.ga) (by omega) rfl
    have a2:=a1.1.setCell {x with wa:=x.ga,ga:=min (2*x.ga) bo} (rW X1.out) (j:=9) (v:=.int .i64<|min (2*x.ga) bo) (by omega) rfl
    refine⟨rfl,fv,?_⟩
    have e1:((((h.dE i {x with wa:=x.wa-1}).gp fv<|uG h.fl i x.t (x.s==2)<|bF x.aT 2 4).dE i {x with wa:=x.ga}).dE i {x with wa:=x.ga,ga:=min (2*x.ga) bo})=(h.gp fv<|uG h.fl i x.t (x.s==2)<|bF x.aT 2 4).dE i {x with wa:=x.ga,ga:=min (2*x.ga) bo}:=by
     simp[HS.dE,HS.gp]
    have a3:=a2.1
    rw[e1]at a3
    refine(mv.trans<|bI.own (a1.2.trans a2.2 fun _ e=>.inl e) a3 fun k hk=>hk).after<|(Fr.refl _ _).drew
end
end
section
section
variable{h:HS}
def ZT{s:aA}{i t j u:Int}{c:Bool}(h:(s.closed i t c).nw j=ae (u,true)):s.nw j=ae (u,true)/\¬(j=i/\u=t):=by
 unfold aA.closed at h;split at h
 ·unfold aA.set at h;simp only at h;split at h
  ·simp at h
  ·rename_i e;exact⟨h,fun z=>e z.1⟩
 ·rename_i e;refine⟨h,?_⟩;rintro⟨rfl,rfl⟩;exact e<|by simp[aA.isOpen,h]
variable{l:List Ms}{m:Ms}{pl:List PL}{P Q:Int}{L:List Rc}
def afl(hl:l.length<=100)(m:Ms):(rq l m).length<=100:=by
 unfold rq;split
 ·exact hl
 ·simp<;>omega
def ZU{x:Ms}(h:x∈rq l m):x∈l\/x=m:=by
 unfold rq at h;split at h
 ·exact .inl h
 ·rcases og.1 h with h|h
  ·exact .inl h
  ·exact .inr<|nY.1 h
def tX.send(h:tX pl P Q L l)(hm:xG P Q L m)(ha:m.k=2->Nw pl m):tX pl P Q L (rq l m):=fun x hx=>by
 rcases ZU hx with hx|rfl
 ·exact h x hx
 ·exact⟨hm,ha⟩
def aoe(hm:xG P Q L m){q:Nat}{p:PL}{v':aj}(hq:m.q=(q:Int)):xG P Q L ⟨2,m.q,m.p,m.t,m.c⟩/\Nw (pl.set q ⟨p.lb,p.bm,v',p.s.closed m.p m.t m.c,p.out⟩) ⟨2,m.q,m.p,m.t,m.c⟩:=by
 refine⟨⟨.inr rfl,hm.q,hm.p,hm.t,hm.s,hm.ps⟩,fun j a ha hj hi=>?_⟩;have BM:m.q=(j:Int):=hj;rcases Bc ha with⟨e1,rfl⟩|⟨e1,ha'⟩
 ·exact(ZT hi).2 ⟨rfl,rfl⟩
 ·omega
def aof(x:PS)(q:Int)(h0:0<=q)(h4:q<4):bF (x.tie q 1).aT 2 4=(bF x.aT 2 4).filter (fun k=>decide<|k≠q):=by
 unfold bF;rw[List.filter_map,List.filter_filter];congr 1;apply UE;intro j _;rw[FO x q 1 h0 h4 j];by_cases e:(j:Int)=q
 ·simp[e]
 ·have e2:¬(Int.ofNat j=q):=e;simp[e]
def aog(ts:List Int)(l:Int):(bF ts l 4).Nodup:=by
 unfold bF;exact List.Pairwise.map Int.ofNat (fun a b h e=>h<|Int.ofNat.inj e)<|List.nodup_range.filter _
end
end
end Go.Proofs.YtkelpcjiediamaaGreat
