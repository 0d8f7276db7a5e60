import Derived.Test.YtkelpcjiediamaaGreatQb20
import Derived.Laws.BytesString
set_option maxRecDepth 100000
set_option maxHeartbeats 0
set_option linter.all false
namespace Go.Proofs.YtkelpcjiediamaaGreat
open Go renaming Calls→aK,Value→aj,World→ah,maxLen→dH
open Go.RowKit renaming intOf→dX
open Option renaming none→af,some→ae
open Go.Proofs.Tryz
open Go.RowKit Go.Maps
def ams(w:ah)(m b:Int):aK prog 70 #[.int .i64 m,.int .i64 b] w fun e w'=>e=.returned (.bool<|decide<|1<=m/\m<=b)/\w=w':=by
 by_cases h1:1<=m
 ·by_cases h2:m<=b
  ·go_enter func70,ntmps70
   go_wp2
   go_ret;exact⟨by simp[h1,h2],rfl⟩
  ·go_enter func70,ntmps70
   go_wp2
   go_ret;exact⟨by simp[h2],rfl⟩
 ·go_enter func70,ntmps70
  go_wp2
  go_ret;have:decide (1<=m)=false:=qC (by omega);exact⟨by rw[this]<;>rfl,rfl⟩
def iK(P Q T K:Int):Value:=.agg #[.int .i64 P,.int .i64 Q,.int .i64 T,.int .i64 K]
def Good(P Q T K:Int):Prop:=(1<=P/\P<=6)/\(1<=Q/\Q<=4)/\(1<=T/\T<=50)/\(1<=K/\K<=16)
def qG:aA:=⟨[],0,fun _=>af⟩
def xC(P Q T K:Int)(pv:aj)(pl:List PL):HS:=⟨P,Q,T,K,.slice af 0 0,[],false,vF,false,0,pv,pl,.slice af 0 0,[]⟩
def amu(P Q T K:Int)(pv ER:aj)(pl fE:List PL):(xC P Q T K pv pl).cells.toArray.setIfInBounds 68 ER=(xC P Q T K ER fE).cells.toArray:=by kernel_rfl
def AZ{w:ah}(o:Obj){k:Nat}(hk:k=w.heap.size):(w.alloc o).heap[k]? =ae o:=by subst hk;exact aB0 w o
def iC(pl:List PL):Prop:=∀(i j:Nat) (p q:PL),i≠j->pl[i]? =ae p->pl[j]? =ae q->∀k,AY p.lb p.bm p.v k->AY q.lb q.bm q.v k->False
def UT{α:Type}{l:List α}{x e:α}{i:Nat}(h:(l++[x])[i]? =ae e):(i<l.length/\l[i]? =ae e)\/(i=l.length/\e=x):=by
 rcases Eb i l.length with hi|hi
 ·rw[tJ hi]at h;exact .inl ⟨hi,h⟩
 ·rw[wG hi]at h;rcases Nat.eq_or_lt_of_le hi with e2|e2
  ·subst e2;simp at h;exact .inr ⟨rfl,h.symm⟩
  ·have:1<=i-l.length:=by omega
   rw[adJ<|by simpa using this]at h;cases h
structure PY(w w':ah)(P Q T K:Int)(k:Nat)(pv:aj)(pl:List PL):Prop where
 blk:w'.heap[w.heap.size+1]? =ae (.cells (xC P Q T K pv pl).cells.toArray 111 (0,0))
 len:pl.length=k
 jD:w'.ownsRow w.heap.size 98 2 pv pl.length (oP pl)
 dG:∀p∈pl,dK w' w.heap.size p.lb p.bm p.v 0 p.s
 new:∀p∈pl,p.s=qG/\p.out=false
 fr:Fr aH w w'
 ap:iC pl
def dK.base{w:ah}{B B' lb bm n:Nat}{v:aj}{s:aA}(h:dK w B lb bm v n s)(hB:B'<=B):dK w B' lb bm v n s:=
 ⟨h.blk,AX h.row hB,h.map,dP hB h.hl,dP hB h.hm⟩
def PY.step{w wr X w1 W w3:ah}{P Q T K:Int}{k:Nat}{pv ER:aj}{pl:List PL}(h:PY w wr P Q T K k pv pl)(fX:Fr aH wr X)(hl:dK w1 X.heap.size (X.heap.size+1) X.heap.size (.slice af 0 0) 0 qG)(f1:Fr aH X w1)
 (fW:Fr aH w1 W)(hg:W.grownBy w3 pv.ownBlock)(iy:w3.ownsRow w.heap.size 98 2 ER (k+1) (oP pl++[ptr<|X.heap.size+1,.bool false]))(dM:∀q,ER.ownBlock=ae q->pv.ownBlock=ae q\/wr.heap.size<=q):
 PY w (w3.setCell ⟨w.heap.size+1,68,af⟩ ER) P Q T K (k+1) ER (pl++[⟨X.heap.size+1,X.heap.size,.slice af 0 0,qG,false⟩]):=by
 have hx:=aS h.blk;have fw:Fr aH wr W:=((fX.trans f1 fun _ h=>h.elim).trans fW fun _ h=>h.elim);have f3:Fr (fun q=>pv.ownBlock=ae q) wr w3:=(fw.mono fun _ h=>h.elim).grown hg fun q e=>.inl e;have Jo:pv.ownBlock≠ae (w.heap.size+1):=fun e=>by
  have h1:=ig h.jD e;rw[lD h.blk]at h1;cases h1
 have b3:w3.heap[w.heap.size+1]? =ae (.cells (xC P Q T K pv pl).cells.toArray 111 (0,0)):=(f3.block _ hx Jo).trans h.blk;have fs:Fr (fun q=>q=w.heap.size+1) w3 (w3.setCell ⟨w.heap.size+1,68,af⟩ ER):=(Fr.refl (fun q=>q=w.heap.size+1) w3).setCell (p:=⟨w.heap.size+1,68,af⟩) (.inl rfl) _;have f4:Fr (fun q=>pv.ownBlock=ae q\/q=w.heap.size+1) wr (w3.setCell ⟨w.heap.size+1,68,af⟩ ER):=(f3.mono fun q e=>.inl<|.inl e).trans fs fun q e=>.inl<|.inr e;have dS:=fX.size;refine⟨?_,by simp[h.len],?_,?_,?_,?_,?_⟩
 ·rw[jQ b3,amu]
 ·have e1:oP (pl++[⟨X.heap.size+1,X.heap.size,.slice af 0 0,qG,false⟩])=oP pl++[ptr<|X.heap.size+1,.bool false]:=by simp[oP,PL.cs]
  rw[e1,iQ,h.len];refine fs.ownsRow iy fun q hq e=>?_;subst e;rcases dM _ hq with a|a
  ·exact Jo a
  ·omega
 ·intro p hp;rcases og.1 hp with hp|hp
  ·refine(h.dG p hp).stay f4 fun q hq hf=>?_;rcases hq with hq|hq
   ·have h0:=ig h.jD hq;rcases(h.dG p hp).tags hf with h1|h1|h1<;>rw[h0]at h1<;>cases h1
   ·have h0:=lD h.blk;subst hq;rcases(h.dG p hp).tags hf with h1|h1|h1<;>rw[h0]at h1<;>cases h1
  ·simp only[nY]at hp;subst hp;have g3:Fr (fun q=>pv.ownBlock=ae q) w1 w3:=(fW.mono fun _ h=>h.elim).grown hg fun q e=>.inl e;have g4:Fr (fun q=>pv.ownBlock=ae q\/q=w.heap.size+1) w1 (w3.setCell ⟨w.heap.size+1,68,af⟩ ER):=(g3.mono fun q e=>.inl<|.inl e).trans fs fun q e=>.inl<|.inr e;refine(hl.stay g4 fun q hq hf=>?_).base (by have:=h.fr.size;omega);have hqX:X.heap.size<=q:=by
    rcases hf with e|e|e
    ·omega
    ·omega
    ·simp[Value.ownBlock]at e
   rcases hq with hq|hq
   ·have:=(h.jD.lt q hq).2;omega
   ·omega
 ·intro p hp;rcases og.1 hp with hp|hp
  ·exact h.new p hp
  ·simp only[nY]at hp;subst hp;exact⟨rfl,rfl⟩
 ·exact h.fr.trans f4 (fun q hq=>.inr (by
   rcases hq with hq|hq
   ·exact(h.jD.lt q hq).1
   ·omega))
 ·have old:∀p∈pl,∀k,AY p.lb p.bm p.v k->k<wr.heap.size:=fun p hp k hk=>by
   have hl:=h.dG p hp;rcases hk with rfl|rfl|hk
   ·exact hl.lt
   ·exact hl.map.lt
   ·exact(hl.row.lt k hk).2
  have neu:∀k,AY (X.heap.size+1) X.heap.size (.slice af 0 0) k->X.heap.size<=k:=fun k hk=>by
   rcases hk with rfl|rfl|hk
   ·omega
   ·exact bV _
   ·simp[Value.ownBlock]at hk
  intro i j p q yj hp hq k h1 h2;rcases UT hp with⟨_,Am⟩|⟨hi,rfl⟩<;>rcases UT hq with⟨_,rF⟩|⟨hj,rfl⟩
  ·exact h.ap i j p q yj Am rF k h1 h2
  ·have:=old p (fD Am) k h1;have:=neu k h2;omega
  ·have:=old q (fD rF) k h2;have:=neu k h1;omega
  ·omega
def amv(w:ah){P Q T K:Int}(h:Good P Q T K):aK prog 31 #[iK P Q T K] w fun r w'=>∃xb pv pl,r=.returned (.tuple #[ptr xb,.int .i64 0])/\ay w' w.heap.size xb 0 (xC P Q T K pv pl).xB/\(∀p∈pl,p.s=qG/\p.out=false)/\iC pl/\Fr aH w w':=by
 unfold iK;obtain⟨i0,dF,gG,fO,iH⟩:=aCf (show(prog.info? 98).map (fun i=>(i.zero,i.size,i.bytes))=ae (ae<|.agg #[.pointer af,.bool false],2,16)by kernel_rfl);have HG:Hid (Good P Q T K):=h;have HP:Hid (decide (1<=P/\P<=6)=true):=jI h.1;have HQ:Hid (decide (1<=Q/\Q<=4)=true):=jI h.2.1;have HT:Hid (decide (1<=T/\T<=50)=true):=jI h.2.2.1;have HK:Hid (decide (1<=K/\K<=16)=true):=jI h.2.2.2;have uV:=h.2.1.1;have DN:=h.2.1.2;clear h;go_enter func31,ntmps31
 go_wp2_with (go_at_call 70;refine(ams _ _ _).mono ?_;(first|rw[HP.out]|rw[HQ.out]|rw[HT.out]|rw[HK.out]);rintro e w1 ⟨rfl,rfl⟩)
 go_loopw [32] (fun i w'=>∃k:Nat,(k:Int)<=Q/\i=.int .i64 k/\∃pv pl,PY w w' P Q T K k pv pl) (fun i _=>(Q-dX i).toNat)
 case atStart=>
  refine⟨0,by omega,rfl,.slice af 0 0,[],?_,rfl,aCb _ _ _ _,fun p hp=>by simp at hp,fun p hp=>by simp at hp,((Fr.refl _ _).alloc _).alloc _,fun i j p q _ hp=>by simp at hp⟩
  exact AZ _<|by simp
 case round=>
  obtain⟨k,hk,rfl,pv,pl,hm⟩:=hrel
  have HM:Hid (PY w wr P Q T K k pv pl):=hm
  have c50:wr.cell? ⟨w.heap.size+1,68,af⟩=ae pv:=by rw[aG hm.blk];rfl
  have cf:∀o,wr.frozen? ⟨w.heap.size+1,o,af⟩=false:=jP hm.blk
  have hx:=aS hm.blk
  have hlen:=hm.len
  obtain⟨pa,pc,rfl,_⟩:=oL hm.jD
  subst hlen
  clear hm
  by_cases aB:(pl.length:Int)<Q
  ·have LI:pl.length<4:=by omega
   have Jo:Value.ownBlock (.slice pa pl.length pc)≠ae (w.heap.size+1):=UR HM.out.jD HM.out.blk<|by decide
   go_wp2_with fail
   go_region_law
    (first
      |(go_simp;go_at_call 71;refine(alj _).mono ?_;rintro e w1 ⟨rfl,kz,bg⟩
        have L1:Hid (dK w1 wr.drew.heap.size (wr.drew.heap.size+1) wr.drew.heap.size (.slice af 0 0) 0 qG):=kz
        have F1:Hid (Fr aH wr.drew w1):=bg
        have FW:Hid (Fr aH wr w1):=(Fr.dr _).trans bg fun _ h=>h.elim
        have hwz:w.heap.size<=w1.heap.size:=dP HM.out.fr.size FW.out.size
        have q50:w1.cell? ⟨w.heap.size+1,68,af⟩=ae (.slice pa pl.length pc):=(bg.cell (p:=⟨w.heap.size+1,68,af⟩) hx id).trans c50
        have qf:∀o,w1.frozen? ⟨w.heap.size+1,o,af⟩=false:=jP<|(bg.block _ hx id).trans HM.out.blk
        have gq:w.heap.size+1<w1.heap.size:=dY hx bg.size
        clear kz bg)
      |(refine aCu _ (by rfl) _ _ _ (by rfl) w.heap.size 98 i0 _ 2 16 underlying106 dF gG fO iH rfl (by omega) (.slice pa pl.length pc) pl.length (oP pl) (by rfl) ((FW.out.alloc _).ownsRow HM.out.jD fun _ _=>id) ⟨w1.heap.size,0,af⟩ 1 1 [.pointer<|ae ⟨wr.heap.size+1,0,af⟩,.bool false] (by rfl) (by rfl) (aB9 (cs:=#[.pointer<|ae ⟨wr.heap.size+1,0,af⟩,.bool false]) (t:=98) (fr:=(0,0))<|aB0 _ _) (by simp[Value.oneCell']) (by omega) (by simp only[dH];omega) (by omega) (by simp<;>omega) (w1.heap.size+1) (by simp) ?_;intro gg cap w3 iy o8 dM uT;have r50:=(o8.cell_far ⟨w.heap.size+1,68,af⟩ (by simp<;>omega)<|iI Jo);have rf:=(o8.frozen_far ⟨w.heap.size+1,68,af⟩ (by simp<;>omega)<|iI Jo);rw[aDn _ _ _ gq,q50]at r50;rw[JQ gq,qf]at rf))
   all_goals
    go_wp2
    go_roundw
    case rel=>
     refine⟨pl.length+1,by omega,by go_num,_,_,HM.out.step (X:=wr.drew) (W:=w1.alloc<|.cells #[.pointer<|ae ⟨wr.heap.size+1,0,af⟩,.bool false] 98) (Fr.dr _) L1.out F1.out (aZ _) o8 iy ?_⟩
     intro q hq
     simp only[Value.ownBlock,fJ]at hq
     subst hq
     rcases dM with a|a
     ·exact .inl a
     ·exact .inr (by have:=FW.out.size;omega)
    case measure=>simp[dX]<;>omega
  ·have hlQ:(pl.length:Int)=Q:=by omega
   have HH:Hid (ay wr w.heap.size (w.heap.size+1) 0<|xC P Q T K (.slice pa pl.length pc) pl):=⟨HM.out.blk,aCb _ _ _ _,HM.out.jD,aCb _ _ _ _,HM.out.dG,by omega,HG.out.1,⟨hlQ.symm,HG.out.2.1⟩,rfl⟩
   go_wp2_with (go_at_call 68;refine(amq HH.out rfl).mono ?_;rintro e w2 ⟨rfl,hr,hf⟩;have HR:Hid (ay w2 w.heap.size (w.heap.size+1) 0 (xC P Q T K (.slice pa pl.length pc) pl).xB):=hr;have HF:Hid (Fr (fun k=>k=w.heap.size+1) wr w2):=hf;clear hr hf)
   go_ret2
   exact⟨_,_,_,rfl,HR.out,HM.out.new,HM.out.ap,HM.out.fr.trans HF.out fun q hq=>.inr<|by omega⟩
structure St where
 e:Int
 t:Int
 s:Int
 ps:List Int
def St.step(p:Int)(x:St)(r:Rc):St:=
 if r.p≠p then x else if r.k=1 then{x with e:=r.m}else if r.k=2 then⟨x.e,r.m,1,(if x.s=0 then[]else x.ps)++[r.a]⟩else if r.k=3 then{x with s:=3-r.a}else if r.k=4 then{x with s:=0}else x
def CG:St:=⟨0,0,0,[]⟩
def aY(L:List Rc)(p:Int):St:=L.foldl (St.step p) CG
def xE(L:List Rc)(r:Rc)(p:Int):aY (L++[r]) p=(aY L p).step p r:=by simp[aY,UC]
def aez:∀(l:List Rc) (k:Nat) (e:Rc) (j:Nat),l[k]? =ae e->j<4->(l.flatMap Rc.cs)[k*4+j]? =e.cs[j]?
 |[],k,e,j,h,_=>by simp at h
 |x::r,0,e,j,h,hj=>by
  simp only[xA,fJ]at h;subst h;simp only[nZ];rw[tJ (by simp[Rc.cs]<;>omega)];simp
 |x::r,k+1,e,j,h,hj=>by
  simp only[zJ]at h;have:=aez r k e j h hj;simp only[nZ]at this⊢
  rw[wG (by simp[Rc.cs]<;>omega),<-this];congr 1;simp[Rc.cs]<;>omega
def jJ(m:Nat):Nat->List UInt8
 |0=>[]
 |k+1=>jJ (m/256) k++[UInt8.ofNat<|m%256]
def PZ(m k:Nat):(jJ m k).length=k:=by
 induction k generalizing m with
 |zero=>rfl
 |succ k ih=>simp[jJ,ih]
def A7(x:Int×Int)(b:UInt8):Int×Int:=((x.1+b.toNat)%65521,(x.2+(x.1+b.toNat)%65521)%65521)
def pK(l:List UInt8):Int×Int:=l.foldl A7 (1,0)
def amA(l:List UInt8)(b:UInt8):pK (l++[b])=A7 (pK l) b:=by simp[pK,UC]
def P7(l:List UInt8):0<=(pK l).1/\(pK l).1<65521/\0<=(pK l).2/\(pK l).2<65521:=by
 have key:∀(l:List UInt8) (x:Int×Int),(0<=x.1/\x.1<65521/\0<=x.2/\x.2<65521)->(0<=(l.foldl A7 x).1/\(l.foldl A7 x).1<65521/\0<=(l.foldl A7 x).2/\(l.foldl A7 x).2<65521):=by
  intro l;induction l with
  |nil=>intro x h;exact h
  |cons b l ih=>intro x h;exact ih _ ⟨by simp only[A7];omega,by simp only[A7];omega,by simp only[A7];omega,by simp only[A7];omega⟩
 exact key l (1,0)<|by simp
def jK(r:Rc):List UInt8:=jJ r.k.toNat 1++jJ r.p.toNat 1++jJ r.a.toNat 1++jJ 0 1++jJ r.m.toNat 8
def dL(r:Rc):List UInt8:=jK r++jJ ((pK<|jK r).2*65536+(pK<|jK r).1).toNat 4
def Nq(r:Rc):(jK r).length=12:=by simp[jK,PZ]
def Ed(r:Rc):(dL r).length=16:=by simp[dL,Nq,PZ]
def wrap_i64{n:Int}(h0:0<=n)(hm:n<9223372036854775808):IntKind.i64.wrap n=n:=by
 simp only[IntKind.wrap,IntKind.bits,IntKind.signed];simp<;>omega
def Du.stays(p q:Int)(d:Du):Bool:=decide (d.p≠p)||(decide (0<=q)&&decide (d.q≠q))
def Nr(p t:Int)(ps:List Int)(k:Nat):List Du:=((List.range k).filter fun(i:Nat)=>decide<|(i:Int)∈ps).map fun(i:Nat)=>⟨p,(i:Int),t+1,1⟩
section
structure Next(P Q:Int)(L:List Rc)(r:Rc):Prop where
 p0:0<=r.p
 p1:r.p<P
 kind:(r.k=1/\r.a=0/\r.m=(aY L r.p).e+1)\/(r.k=2/\(0<=r.a/\r.a<Q)/\(((aY L r.p).s=0/\r.m=(aY L r.p).t+1)\/((aY L r.p).s=1/\r.m=(aY L r.p).t/\r.a∉(aY L r.p).ps)))\/
  (r.k=3/\(r.a=0\/r.a=1)/\(aY L r.p).s=1/\r.m=(aY L r.p).t)\/(r.k=4/\r.a=0/\2<=(aY L r.p).s/\r.m=(aY L r.p).t)
inductive Valid(P Q:Int):List Rc->Prop
 |nil:Valid P Q []
 |snoc {L:List Rc} {r:Rc}:Valid P Q L->Next P Q L r->Valid P Q (L++[r])
structure St.CJ(Q:Int)(n:Nat)(x:St):Prop where
 e0:0<=x.e
 e1:x.e<=n
 t0:0<=x.t
 t1:x.t<=n
 s0:0<=x.s
 s1:x.s<=3
 ps:∀q∈x.ps,0<=q/\q<Q
 nd:x.ps.Nodup
section
variable{P Q:Int}{L:List Rc}{r:Rc}
def St.FM{p:Int}(x:St)(h:r.p≠p):x.step p r=x:=by simp[St.step,h]
def Valid.qY(h:Valid P Q L):∀p,(aY L p).CJ Q L.length:=by
 induction h with
 |nil=>intro p;exact⟨by simp[aY,CG],by simp[aY,CG],by simp[aY,CG],by simp[aY,CG],by simp[aY,CG],by simp[aY,CG],by simp[aY,CG],by simp[aY,CG]⟩
 | @snoc L r _ hn ih=>
   intro p;rw[xE];have f:=ih p;by_cases hp:r.p=p
   ·subst hp;have e1:=f.e1;have t1:=f.t1;have e0:=f.e0;have t0:=f.t0;rcases hn.kind with⟨h1,h2,h3⟩|⟨h1,h2,h3⟩|⟨h1,h2,h3,h4⟩|⟨h1,h2,h3,h4⟩
    ·have:(aY L r.p).step r.p r={aY L r.p with e:=r.m}:=by simp[St.step,h1]
     rw[this];exact⟨by simp only;omega,by simp only[iQ,D9];omega,f.t0,by simp only[iQ,D9];omega,f.s0,f.s1,f.ps,f.nd⟩
    ·have:(aY L r.p).step r.p r=⟨(aY L r.p).e,r.m,1,(if(aY L r.p).s=0 then[]else(aY L r.p).ps)++[r.a]⟩:=by simp[St.step,h1]
     rw[this];refine⟨f.e0,by simp only[iQ,D9];omega,?_,?_,by simp only;omega,by simp only;omega,?_,?_⟩
     ·simp only;rcases h3 with⟨_,h3⟩|⟨_,h3,_⟩<;>omega
     ·simp only[iQ,D9];rcases h3 with⟨_,h3⟩|⟨_,h3,_⟩<;>omega
     ·intro q hq;rcases og.1 hq with hq|hq
      ·split at hq
       ·simp at hq
       ·exact f.ps q hq
      ·rw[nY.1 hq];exact h2
     ·rcases h3 with⟨h3,_⟩|⟨h3,_,h4⟩
      ·simp[h3]
      ·simp only[h3];rw[if_neg<|by decide];rw[List.nodup_append];exact⟨f.nd,by simp,fun a ha b hb=>by rw[nY.1 hb];intro e;subst e;exact h4 ha⟩
    ·have:(aY L r.p).step r.p r={aY L r.p with s:=3-r.a}:=by simp[St.step,h1]
     rw[this];exact⟨f.e0,by simp only[iQ,D9];omega,f.t0,by simp only[iQ,D9];omega,by simp only;omega,by simp only;omega,f.ps,f.nd⟩
    ·have:(aY L r.p).step r.p r={aY L r.p with s:=0}:=by simp[St.step,h1]
     rw[this];exact⟨f.e0,by simp only[iQ,D9];omega,f.t0,by simp only[iQ,D9];omega,by simp,by simp,f.ps,f.nd⟩
   ·rw[St.FM _ hp];have e1:=f.e1;have t1:=f.t1;exact⟨f.e0,by simp only[iQ,D9];omega,f.t0,by simp only[iQ,D9];omega,f.s0,f.s1,f.ps,f.nd⟩
structure Rc.Small(r:Rc)(n:Nat):Prop where
 k0:1<=r.k
 k1:r.k<=4
 p0:0<=r.p
 p1:r.p<6
 a0:0<=r.a
 a1:r.a<4
 m0:0<=r.m
 m1:r.m<=n+1
def Next.small(hn:Next P Q L r)(hv:Valid P Q L)(hP:P<=6)(hQ:Q<=4):r.Small L.length:=by
 have f:=hv.qY r.p;have a1:=f.e0;have a2:=f.e1;have a3:=f.t0;have a4:=f.t1;have b1:=hn.p0;have b2:=hn.p1;rcases hn.kind with⟨h1,h2,h3⟩|⟨h1,h2,h3⟩|⟨h1,h2,h3,h4⟩|⟨h1,h2,h3,h4⟩
 ·exact⟨by omega,by omega,by omega,by omega,by omega,by omega,by omega,by omega⟩
 ·refine⟨by omega,by omega,by omega,by omega,by omega,by omega,?_,?_⟩<;>(rcases h3 with⟨_,h3⟩|⟨_,h3,_⟩<;>omega)
 ·exact⟨by omega,by omega,by omega,by omega,by omega,by omega,by omega,by omega⟩
 ·exact⟨by omega,by omega,by omega,by omega,by omega,by omega,by omega,by omega⟩
def Valid.small(hv:Valid P Q L)(hP:P<=6)(hQ:Q<=4):∀r∈L,r.Small L.length:=by
 induction hv with
 |nil=>intro r hr;simp at hr
 | @snoc L r hv hn ih=>
   intro x hx;have key:x.Small L.length:=by
    rcases og.1 hx with hx|hx
    ·exact ih x hx
    ·rw[nY.1 hx];exact hn.small hv hP hQ
   have:=key.m1;exact⟨key.k0,key.k1,key.p0,key.p1,key.a0,key.a1,key.m0,by simp only[iQ,D9];omega⟩
end
def PS.tie(x:PS)(q v:Int):PS:=if q=0 then{x with a:=v}else if q=1 then{x with b:=v}else if q=2 then{x with c:=v}else{x with d:=v}
def lZ(v:Int):Int:=if 1<=v then 2 else v
def PS.bJ(x:PS)(r:Rc):PS:=
 if r.k=1 then{x with e:=r.m}
 else if r.k=2 then({x with s:=1,t:=r.m}:PS).tie r.a 1
 else if r.k=3 then{x with s:=if r.a=1 then 2 else 3,a:=lZ x.a,b:=lZ x.b,c:=lZ x.c,d:=lZ x.d,wa:=1,ga:=1}
 else⟨x.e,x.t,0,0,0,0,0,0,0,0⟩
def jE(ps:List PS)(r:Rc):List PS:=ps.set r.p.toNat<|(ps.getD r.p.toNat oQ).bJ r
def replay(L:List Rc):List PS:=L.foldl jE vF
def aeB(L:List Rc)(r:Rc):replay (L++[r])=jE (replay L) r:=by simp[replay,UC]
def UU(L:List Rc):(replay L).length=6:=by
 suffices h:∀(L:List Rc) (ps:List PS),ps.length=6->(L.foldl jE ps).length=6 from h L vF rfl
 intro L;induction L with
 |nil=>intro ps h;exact h
 |cons r L ih=>intro ps h;exact ih _<|by simp[jE,h]
structure wK(z:St)(D:List Du)(tm hi i:Int)(x:PS):Prop where
 e:x.e=z.e
 t:x.t=z.t
 s:x.s=z.s
 none:x.s=0->x.a=0/\x.b=0/\x.c=0/\x.d=0
 some:x.s≠0->∀q:Nat,q<4->(1<=x.aT.getD q 0↔(q:Int)∈z.ps)
 eG:∀q:Nat,0<=x.aT.getD q 0/\x.aT.getD q 0<=2/\(x.s<=1->x.aT.getD q 0<=1)
 due:D.filter (fun d=>decide<|d.p=i)=(bF x.aT 2 4).map fun q=>⟨i,q,tm+x.wa,x.ga⟩
 si:x.s=1->x.si=tm-hi
def P8(p:PS)(q:Nat)(hq:q<4):p.aT.getD q 0=if q=0 then p.a else if q=1 then p.b else if q=2 then p.c else p.d:=by
 match q,hq with
 |0,_|1,_|2,_|3,_=>rfl
def P9(p:PS)(q:Nat)(hq:4<=q):p.aT.getD q 0=0:=by
 match q,hq with
 |q+4,_=>simp[PS.aT]
def Zm{ts:List Int}{l:Int}(k:Nat)(h:∀q:Nat,ts.getD q 0<l):bF ts l k=[]:=by
 unfold bF;rw[List.map_eq_nil_iff,adG];intro q _;have:=h q;simp only[UA];omega
def FO(x:PS)(q:Int)(v:Int)(h0:0<=q)(h4:q<4)(j:Nat):(x.tie q v).aT.getD j 0=if(j:Int)=q then v else x.aT.getD j 0:=by
 by_cases hj:j<4
 ·have hq:q=0\/q=1\/q=2\/q=3:=by omega
  have BM:j=0\/j=1\/j=2\/j=3:=by omega
  rcases hq with rfl|rfl|rfl|rfl<;>rcases BM with rfl|rfl|rfl|rfl<;>rfl
 ·rw[P9 _ _<|by omega,P9 _ _<|by omega,if_neg<|by omega]
def FP(x:PS)(q v:Int):(x.tie q v).e=x.e/\(x.tie q v).t=x.t/\(x.tie q v).s=x.s/\(x.tie q v).si=x.si/\(x.tie q v).wa=x.wa/\(x.tie q v).ga=x.ga:=by
 unfold PS.tie;split
 ·simp
 ·split
  ·simp
  ·split<;>simp
section
variable{z:St}{D:List Du}{tm hi i:Int}{x:PS}{r:Rc}
def wK.amC(h:wK z D tm hi i x)(hp:r.p=i)(hk:r.k=1):wK (z.step i r) D tm hi i (x.bJ r):=by
 have e1:z.step i r={z with e:=r.m}:=by simp[St.step,hp,hk]
 have e2:x.bJ r={x with e:=r.m}:=by simp[PS.bJ,hk]
 rw[e1,e2];exact⟨rfl,h.t,h.s,h.none,h.some,h.eG,h.due,h.si⟩
def filter_none(h:x.s<=1)(hp:wK z D tm hi i x):D.filter (fun d=>decide<|d.p=i)=[]:=by
 rw[hp.due,Zm 4 (fun q=>by have:=(hp.eG q).2.2 h;omega)];rfl
def wK.add(h:wK z D tm hi i x)(hp:r.p=i)(hk:r.k=2)(ha:0<=r.a/\r.a<4)(hs:z.s=0\/z.s=1)(Zn:Int)(XN:Zn=tm-hi):wK (z.step i r) D tm hi i {x.bJ r with si:=Zn}:=by
 have e1:z.step i r=⟨z.e,r.m,1,(if z.s=0 then[]else z.ps)++[r.a]⟩:=by simp[St.step,hp,hk]
 have e2:x.bJ r=({x with s:=1,t:=r.m}:PS).tie r.a 1:=by simp[PS.bJ,hk]
 have key:∀j:Nat,(({x.bJ r with si:=Zn}:PS).aT.getD j 0)=if(j:Int)=r.a then 1 else x.aT.getD j 0:=fun j=>by
  rw[e2];exact FO _ r.a 1 ha.1 ha.2 j
 obtain⟨r1,r2,r3,r4,r5,r6⟩:=FP ({x with s:=1,t:=r.m}:PS) r.a 1;rw[<-e2]at r1 r2 r3 r4 r5 r6;have Ap:x.s<=1:=by have:=h.s;omega
 rw[e1];refine⟨r1.trans h.e,r2,r3,fun e=>?_,fun _ q hq=>?_,fun q=>?_,?_,fun _=>XN⟩
 ·have:(x.bJ r).s=1:=r3;simp only at e;omega
 ·rw[key q];simp only[og,nY];by_cases DR:(q:Int)=r.a
  ·rw[if_pos DR];simp[DR]
  ·rw[if_neg DR];rcases hs with hs|hs
   ·have hz:=h.none<|h.s.trans hs;rw[if_pos hs];have:x.aT.getD q 0=0:=by
     rw[P8 x q hq];simp only[hz];split<;>(try split)<;>(try split)<;>rfl
    rw[this];simp[DR]
   ·rw[if_neg<|by omega,h.some (by have:=h.s;omega) q hq];simp[DR]
 ·rw[key q];have f1:=(h.eG q).1;have f2:=(h.eG q).2.2 Ap;split<;>refine⟨by omega,by omega,fun _=>by omega⟩
 ·rw[filter_none Ap h,Zm 4 (fun q=>by rw[key q];have f2:=(h.eG q).2.2 Ap;split<;>omega)];rfl
def Qa(hk:r.k=3)(j:Nat):(x.bJ r).aT.getD j 0=lZ (x.aT.getD j 0):=by
 have e2:x.bJ r={x with s:=if r.a=1 then 2 else 3,a:=lZ x.a,b:=lZ x.b,c:=lZ x.c,d:=lZ x.d,wa:=1,ga:=1}:=by simp[PS.bJ,hk]
 by_cases hj:j<4
 ·have BM:j=0\/j=1\/j=2\/j=3:=by omega
  rw[e2];rcases BM with rfl|rfl|rfl|rfl<;>rfl
 ·rw[P9 _ _<|by omega,P9 _ _<|by omega];rfl
def amD(D:List Du)(i:Int):(D.filter<|Du.stays i<|-1).filter (fun d=>decide<|d.p=i)=[]:=by
 rw[adG];intro d hd;have:=(JL.1 hd).2;simp[Du.stays]at this;simpa using this
def amE(p t:Int)(ps:List Int)(k:Nat):(Nr p t ps k).filter (fun d=>decide<|d.p=p)=Nr p t ps k:=by
 rw[List.filter_eq_self];intro d hd;simp only[Nr,Ie]at hd;obtain⟨q,_,rfl⟩:=hd;simp
def amF{ps:List Int}{ts:List Int}{k:Nat}(hk:k<=4)(hq:∀q∈ps,0<=q/\q<(k:Int))(h:∀q:Nat,q<4->(2<=ts.getD q 0↔(q:Int)∈ps))(p t:Int):
 Nr p t ps k=(bF ts 2 4).map fun q=>⟨p,q,t+1,1⟩:=by
 have e1:bF ts 2 4=((List.range k).filter fun i=>decide<|2<=ts.getD i 0).map Int.ofNat:=by
  unfold bF;congr 1;have:List.range 4=List.range k++(List.range<|4-k).map (k+ ·):=by
   rw[<-List.range_add];congr 1;omega
  rw[this,yJ];have h2:((List.range<|4-k).map (k+ ·)).filter (fun i=>decide<|2<=ts.getD i 0)=[]:=by
   rw[adG];intro q DN;simp only[Ie,Ic]at DN;obtain⟨j,hj,rfl⟩:=DN;simp only[UA];rw[h (k+j)<|by omega];intro hm;have:=(hq _ hm).2;omega
  rw[h2,qh]
 rw[e1];unfold Nr;rw[List.map_map];have e2:(List.range k).filter (fun(i:Nat)=>decide<|(i:Int)∈ps)=(List.range k).filter fun i=>decide (2<=ts.getD i 0):=by
  apply UE;intro q DN;have:=h q (by have:=Ic.1 DN;omega);simp only[decide_eq_decide];exact this.symm
 rw[e2];rfl
def wK.end_(h:wK z D tm hi i x)(hp:r.p=i)(hk:r.k=3)(ha:r.a=0\/r.a=1)(hs:z.s=1){Q:Nat}(hQ:Q<=4)(fP:∀q∈z.ps,0<=q/\q<(Q:Int)):
 wK (z.step i r) (D.filter (Du.stays i<|-1)++Nr i tm (z.step i r).ps Q) tm hi i (x.bJ r):=by
 have e1:z.step i r={z with s:=3-r.a}:=by simp[St.step,hp,hk]
 have e2:x.bJ r={x with s:=if r.a=1 then 2 else 3,a:=lZ x.a,b:=lZ x.b,c:=lZ x.c,d:=lZ x.d,wa:=1,ga:=1}:=by simp[PS.bJ,hk]
 have yl:(x.bJ r).s=3-r.a:=by
  rw[e2];rcases ha with ha|ha<;>simp[ha]
 have Il:(x.bJ r).wa=1/\(x.bJ r).ga=1:=by rw[e2];exact⟨rfl,rfl⟩
 have gq:x.s≠0:=by have:=h.s;omega
 have DF:∀q:Nat,(2<=(x.bJ r).aT.getD q 0↔1<=x.aT.getD q 0):=fun q=>by
  rw[Qa hk];unfold lZ;have f2:=(h.eG q).2.2 (by have:=h.s;omega);split<;>omega
 rw[e1];refine⟨by rw[e2];exact h.e,by rw[e2];exact h.t,yl,fun e=>by omega,fun _ q hq=>?_,fun q=>?_,?_,fun e=>by omega⟩
 ·rw[<-h.some gq q hq,<-DF q,Qa hk];unfold lZ;split<;>omega
 ·rw[Qa hk];have f1:=(h.eG q).1;have f2:=(h.eG q).2.1;unfold lZ;refine⟨by split<;>omega,by split<;>omega,fun e=>by omega⟩
 ·rw[yJ,amD,amE,wI,amF hQ fP fun q hq=>(DF q).trans<|h.some gq q hq,Il.1,Il.2]
def wK.done{D':List Du}(h:wK z D tm hi i x)(hp:r.p=i)(hk:r.k=4)(hD:D'.filter (fun d=>decide<|d.p=i)=[]):wK (z.step i r) D' tm hi i (x.bJ r):=by
 have e1:z.step i r={z with s:=0}:=by simp[St.step,hp,hk]
 have e2:x.bJ r=⟨x.e,x.t,0,0,0,0,0,0,0,0⟩:=by simp[PS.bJ,hk]
 have hz:∀q:Nat,(⟨x.e,x.t,0,0,0,0,0,0,0,0⟩:PS).aT.getD q 0=0:=fun q=>by
  match q with
  |0|1|2|3=>rfl
  |q+4=>simp[PS.aT]
 rw[e1,e2];refine⟨h.e,h.t,rfl,fun _=>⟨rfl,rfl,rfl,rfl⟩,fun e=>absurd rfl e,fun q=>by rw[hz q];exact⟨by omega,by omega,fun _=>by omega⟩,?_,fun e=>by simp at e⟩;rw[hD,Zm 4 (fun q=>by rw[hz q];omega)];rfl
end
structure Qb(z:St)(x:PS):Prop where
 e:x.e=z.e
 t:x.t=z.t
 s:x.s=z.s
 none:x.s=0->x.a=0/\x.b=0/\x.c=0/\x.d=0
 one:x.s=1->∀q:Nat,q<4->x.aT.getD q 0=if(q:Int)∈z.ps then 1 else 0
 two:2<=x.s->(∀q:Nat,q<4->x.aT.getD q 0=if(q:Int)∈z.ps then 2 else 0)/\x.wa=1/\x.ga=1
 si:x.si=0
def Qb.step{P Q:Int}{L:List Rc}{r:Rc}{x:PS}(hn:Next P Q L r)(hQ:Q<=4)(h:Qb (aY L r.p) x):Qb (aY (L++[r]) r.p) (x.bJ r):=by
 rw[xE];have hnk:=hn.kind;generalize aY L r.p=z at h hnk⊢
 rcases hnk with⟨h1,h2,h3⟩|⟨h1,h2,h3⟩|⟨h1,h2,h3,h4⟩|⟨h1,h2,h3,h4⟩
 ·have e1:z.step r.p r={z with e:=r.m}:=by simp[St.step,h1]
  have e2:x.bJ r={x with e:=r.m}:=by simp[PS.bJ,h1]
  rw[e1,e2];exact⟨rfl,h.t,h.s,h.none,h.one,h.two,h.si⟩
 ·have e1:z.step r.p r=⟨z.e,r.m,1,(if z.s=0 then[]else z.ps)++[r.a]⟩:=by simp[St.step,h1]
  have e2:x.bJ r=({x with s:=1,t:=r.m}:PS).tie r.a 1:=by simp[PS.bJ,h1]
  have key:∀j:Nat,(x.bJ r).aT.getD j 0=if(j:Int)=r.a then 1 else x.aT.getD j 0:=fun j=>by
   rw[e2];exact FO _ r.a 1 h2.1 (by omega) j
  obtain⟨r1,r2,r3,r4,r5,r6⟩:=FP ({x with s:=1,t:=r.m}:PS) r.a 1;rw[<-e2]at r1 r2 r3 r4 r5 r6;rw[e1];refine⟨r1.trans h.e,r2,r3,fun e=>by rw[r3]at e;simp at e,fun _ q hq=>?_,fun e=>by rw[r3]at e;simp at e,r4.trans h.si⟩;rw[key q];simp only[og,nY];by_cases DR:(q:Int)=r.a
  ·rw[if_pos DR,if_pos<|.inr DR]
  ·rw[if_neg DR];rcases h3 with⟨h3,_⟩|⟨h3,_,_⟩
   ·have hz:=h.none<|h.s.trans h3;rw[if_pos h3,if_neg<|by simp[DR],P8 x q hq];simp only[hz];split<;>(try split)<;>(try split)<;>rfl
   ·rw[h.one (h.s.trans h3) q hq,if_neg<|show¬z.s=0 by omega];simp[DR]
 ·have e1:z.step r.p r={z with s:=3-r.a}:=by simp[St.step,h1]
  have e2:x.bJ r={x with s:=if r.a=1 then 2 else 3,a:=lZ x.a,b:=lZ x.b,c:=lZ x.c,d:=lZ x.d,wa:=1,ga:=1}:=by simp[PS.bJ,h1]
  have yl:(x.bJ r).s=3-r.a:=by
   rw[e2];rcases h2 with h2|h2<;>simp[h2]
  rw[e1];refine⟨by rw[e2];exact h.e,by rw[e2];exact h.t,yl,fun e=>by omega,fun e=>by omega,fun _=>⟨fun q hq=>?_,by rw[e2],by rw[e2]⟩,by rw[e2];exact h.si⟩;rw[Qa h1,h.one (h.s.trans h3) q hq];unfold lZ;split<;>rfl
 ·have e1:z.step r.p r={z with s:=0}:=by simp[St.step,h1]
  have e2:x.bJ r=⟨x.e,x.t,0,0,0,0,0,0,0,0⟩:=by simp[PS.bJ,h1]
  rw[e1,e2];exact⟨h.e,h.t,rfl,fun _=>⟨rfl,rfl,rfl,rfl⟩,fun e=>by simp at e,fun e=>by simp at e,rfl⟩
def Valid.replay{P Q:Int}{L:List Rc}(hv:Valid P Q L)(hQ:Q<=4):∀i:Nat,i<6->∃x,(replay L)[i]? =ae x/\Qb (aY L i) x:=by
 induction hv with
 |nil=>
  intro i hi;have hz:Qb CG oQ:=⟨rfl,rfl,rfl,fun _=>⟨rfl,rfl,rfl,rfl⟩,fun e=>by simp[oQ]at e,fun e=>by simp[oQ]at e,rfl⟩;match i,hi with
  |0,_|1,_|2,_|3,_|4,_|5,_=>exact⟨oQ,rfl,hz⟩
 | @snoc L r hv hn ih=>
   intro i hi;rw[aeB];have zo:=hn.p0;have sW:=hn.p1;by_cases e:r.p=i
   ·obtain⟨x,hx,hr⟩:=ih i hi;have en:r.p.toNat=i:=by omega
    refine⟨x.bJ r,?_,?_⟩
    ·unfold jE;rw[en,mD (by rw[UU];exact hi)];simp[List.getD,hx]
    ·rw[<-e]at hr⊢
     exact hr.step hn hQ
   ·obtain⟨x,hx,hr⟩:=ih i hi;refine⟨x,?_,?_⟩
    ·unfold jE;rw[vz<|by omega];exact hx
    ·rw[xE,St.FM _ e];exact hr
end
end Go.Proofs.YtkelpcjiediamaaGreat
